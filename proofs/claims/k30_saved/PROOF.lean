import PyProof.Rows.All
import Wide.All
import OpenK.AllK
import PySem.Challenge.RW_manyhands_k30_saved
set_option linter.all false
set_option genSizeOf false
set_option Elab.async false
set_option maxRecDepth 100000
set_option maxHeartbeats 4000000
def LW:=@PySem.wpAny_bind
def LX:=@Option.bind_eq_some_iff
def LY:=@List.mem_cons_of_mem
def LZ:=@PySem.wpAny_pure
def MB:=@List.mem_cons_self
def MC:=@PySem.Heap.get?_push_of_some
def MD:=@List.mem_cons
def MF:=@List.mem_append_right
def MH:=@List.length_append
def MJ:=@List.length_map
def ML:=@List.not_mem_nil
def MM:=@if_pos
def MN:=@List.size_toArray
def MO:=@List.map_cons
def MQ:=@Option.map_eq_some_iff
def MU:=@decide_eq_false
def MV:=@List.mem_append_left
def MX:=@List.length_cons
def MY:=@if_neg
def MZ:=@Nat.le_refl
def NA:=@List.mem_append
def NB:=@List.mem_singleton
def NC:=@List.mem_map
def ND:=@List.getElem?_eq_getElem
def NE:=@List.mem_map_of_mem
def NG:=@decide_eq_true
def NH:=@List.getElem?_eq_some_iff
def NI:=@PySem.Heap.get?_push_size
def NJ:=@List.nodup_cons
def NK:=@Nat.lt_of_lt_of_le
def NM:=@List.map_append
def NN:=@PySem.Heap.lt_size
def NO:=@Bool.false_ne_true
def NP:=@List.append_nil
def NQ:=@Bool.and_eq_true
def NR:=@Nat.le_trans
def NS:=@decide_eq_true_eq
def NT:=@List.mem_filter
def NU:=@List.nodup_append
def NV:=@PySem.PassesOwn.never
def NW:=@Bool.false_eq_true
def NX:=@Nat.ne_of_lt
def NY:=@List.map_map
def NZ:=@List.getElem?_set_ne
def OA:=@Nat.zero_le
def OB:=@Ne.symm
def OC:=@List.getElem?_map
def OD:=@List.filter_cons_of_pos
def OE:=@List.append_assoc
def OF:=@Option.some.inj
def OG:=@Array.getElem?_eq_getElem
def OH:=@beq_self_eq_true
def OI:=@List.filter_eq_nil_iff
def OJ:=@PySem.wpAny_holding
def OK:=@PySem.Heap.get?_update_other
def OL:=@beq_eq_false_iff_ne
def OM:=@PySem.wpAny_call_entry
def ON:=@List.filter_eq_self
def OO:=@List.filter_cons_of_neg
def OP:=@PySem.sizeLine_eq
def OQ:=@List.map_congr_left
def OT:=@PySem.wpAny_truthy_bool
def OU:=@PySem.wpAny_callSpecial?_slot
def OV:=@List.getElem?_append_right
def OX:=@Option.bind_some
def OY:=@if_false
def OZ:=@List.mem_iff_getElem
def PB:=@of_decide_eq_true
def PD:=@Nat.lt_of_le_of_lt
def PF:=@List.filter_append
def PH:=@PySem.wpAny_mono
def PJ:=@List.length_filter_le
def PK:=@List.getElem?_eq_none
def PL:=@if_true
def PM:=@List.lookup_cons
def PN:=@PySem.wpAny_field
def PP:=@beq_iff_eq
def PQ:=@List.getElem?_append_left
def PR:=@List.getElem?_set_self
def PU:=@PyProof.Rows.callWith_type1
def PV:=@PyProof.Rows.wpS_bind
def PX:=@List.length_range
def PY:=@List.filter_congr
def PZ:=@PySem.wpAny_loadPart'
def QA:=@List.pairwise_cons
def QB:=@List.filter_filter
def QC:=@List.nodup_nil
def QD:=@List.nil_append
def QE:=@List.length_zip
def QF:=@List.length_take
def QG:=@Array.length_toList
def QH:=@PySem.F.slot_dict_keyiterator_next
def QI:=@PySem.wpAny_newObj_type
def QJ:=@List.cons.injEq
def QK:=@Int.le_refl
def QL:=@List.getElem_mem
def QM:=@List.all_eq_true
def QN:=@PySem.wpAny_setField_rec
def QO:=@PySem.wpAny_Call_Name_kw
def QP:=@PySem.wpAny_rule
def QQ:=@Nat.lt_irrefl
def QR:=@List.drop_eq_getElem_cons
def QS:=@List.length_singleton
def QT:=@PySem.Heap.SameBut.update
def QU:=@PySem.wpAny_seqItems
def QV:=@Nat.le_succ
def QW:=@List.cons_append
def QX:=@Nat.lt_or_ge
def QY:=@PySem.Calls.spliced_cons
def QZ:=@PySem.mem_of_lookup
def RA:=@List.replicate_succ
def RB:=@List.length_set
def RC:=@List.length_nil
def RD:=@List.find?_cons
def RE:=@Bool.eq_iff_iff
def RF:=@or_false
def RG:=@PySem.F.plain_max_loop
def RH:=@List.take_of_length_le
def RI:=@PyProof.Rows.wpS_pure
def RJ:=@PySem.wpAny_dictEntries
def RK:=@PySem.wpAny_dictEpoch
def RL:=@Nat.ne_of_gt
def RM:=@List.map_nil
def RN:=@List.getElem?_toArray
def RO:=@List.any_cons
def RP:=@Int.emod_lt_of_pos
def RQ:=@List.mem_range
def RS:=@PySem.MeetsSeq.plain_remove_loop
def RT:=@List.take_succ_eq_append_getElem
def RU:=@List.foldl_cons
def RX:=@PySem.Heap.size_push
def RY:=@Nat.le_of_lt
def RZ:=@decide_eq_false_iff_not
def SA:=@PySem.F.plainAttrs_list
def SD:=@PySem.call_meets
def SE:=@List.length_drop
def SF:=@PySem.F.plainAttrs_str
def SG:=@List.drop_eq_nil_of_le
def SH:=@List.mem_filterMap
def SI:=@PySem.wpAny_typeNameOfWhole_keyiter
def SJ:=@List.take_append_drop
def SK:=@List.mem_iff_getElem?
def SL:=@List.length_replicate
def SM:=@List.filter_map
def SN:=@Int.emod_nonneg
def SO:=@Array.getElem?_toList
def SQ:=@List.flatten_cons
def SS:=@List.all_cons
def SU:=@Int.toNat_natCast
def SV:=@PySem.Calls.callWith_builtin
def SW:=@Bool.not_true
def SX:=@PySem.F.slot_NoneType_hash
def SY:=@List.nodup_iff_pairwise_ne
def SZ:=@List.mem_of_getElem?
def TB:=@PySem.wpAny_passesOwn
def TC:=@PySem.wpAny_notOrdered_dict
def TD:=@PySem.wpAny_letGo
def TH:=@PySem.codeAny_builtin
def TJ:=@List.pairwise_iff_getElem
def TL:=@PySem.Heap.get?_update_self
def TM:=@Classical.byContradiction
def TN:=@List.perm_middle
def TQ:=@PySem.wpAny_pyIter_list
def TR:=@PySem.wpAny_attempt
def TU:=@PySem.plainId_quiet
def TV:=@PySem.Paired.length
def TW:=@Option.some_ne_none
def TY:=@List.filter_sublist
def TZ:=@PySem.F.entry_str_split
def UA:=@PySem.Calls.spliced_nil
def UB:=@Nat.zero_add
def UC:=@PySem.F.slot_tuple_iterator_next
def UD:=@PySem.Calls.evalArgs_plain
def UE:=@of_decide_eq_false
def UF:=@PySem.F.plainAttrs_dict
def UG:=@Option.map_some
def UH:=@List.getElem?_replicate
def UI:=@List.forIn_cons
def UJ:=@Bool.true_and
def UK:=@PyProof.Rows.get?_update_seq
def UL:=@PySem.F.slot_str_split
def UM:=@PySem.wpAny_typeNameOf_keyiter
def UN:=@PyProof.Rows.slot_tuple_getitem
def UO:=@Nat.lt_succ_of_lt
def UP:=@or_congr_right
def UQ:=@List.Perm.refl
def UR:=@PySem.wpAny_execs_nil
def US:=@PySem.F.slot_dict_get
def UT:=@Nat.succ_le_succ
def UU:=@Nat.lt_succ_self
def UV:=@Array.toList_inj
def UW:=@List.mem_of_getLast?
def UX:=@PySem.wpAny_pyIter_enum
def UY:=@PySem.WalksT.enumerateD
def UZ:=@not_or
def VA:=@PySem.codeAny_mono
def VB:=@PySem.F.slot_enumerate_next
def VC:=@PyProof.Rows.listUpdate_at
def VD:=@PySem.F.slot_enumerate_getattribute
def VE:=@Array.getElem?_eq_some_iff
def VF:=@Nat.le_of_eq
def VG:=@List.zip_cons_cons
def VH:=@List.length_zipIdx
def VI:=@List.getElem?_drop
def VJ:=@PySem.Around.under_plainId
def VL:=@PySem.wpAny_standAt
def VM:=@List.getLast?_eq_none_iff
def VN:=@Bool.and_false
def VO:=@PySem.typeIs_str
def VP:=@PySem.wpAny_specialOf
def VQ:=@PySem.slot_dict_contains
def VR:=@PySem.F.args_tuple_add_2
def VS:=@Option.isSome_iff_exists
def VT:=@decide_true
def VU:=@PySem.F.entry_tuple_add
def VV:=@List.map_id
def VW:=@List.length_eq_zero_iff
def VX:=@Bool.or_false
def VY:=@PySem.SeqAt.EqAt.int_int
def VZ:=@PySem.Obj.data_mapFields
def WB:=@List.drop_length
def WC:=@PySem.F.slot_tuple_add
def WD:=@PySem.wpAny_Call_method
def WH:=@Nat.min_eq_left
def WJ:=@Bool.not_eq_eq_eq_not
def WK:=@PySem.wpAny_newList
def WL:=@List.getElem?_zipIdx
def WM:=@PySem.wpAny_forIn_list
def WN:=@PySem.F.args_dict_keyiterator_next_1
def WO:=@List.drop_zero
def WQ:=@PyProof.Rows.wpS_forRange
def WU:=@PyProof.Rows.listItems_at
def WV:=@PySem.F.entry_dict_keyiterator_next
def WW:=@List.length_pos_iff
def WX:=@List.filterMap_cons
def WY:=@List.drop_succ_cons
def WZ:=@PySem.wpAny_updateSeq
def XA:=@PySem.wpAny_typeOf
def XB:=@PySem.wpAny_isTrue_Compare1
def XC:=@PySem.wpAny_isOneOf_keyiter
def XD:=@List.sum_cons
def XE:=@List.getElem_range
def XF:=@List.findIdx?_eq_some_iff_getElem
def XG:=@List.findIdx?_cons
def XH:=@PySem.F.slot_zip_next
def XI:=@PySem.MeetsSeq.entry_remove_loop
def XJ:=@PySem.wpAny_updateSeq_pair
def XN:=@PySem.wpAny_updateDictKeys
def XO:=@bne_self_eq_false
def XQ:=@Nat.le_succ_of_le
def XR:=@List.pairwise_map
def XS:=@List.ext_getElem?
def XT:=@List.any_eq_false
def XU:=@PySem.wpAny_tryCatch
def XV:=@PySem.wpAny_setField
def XW:=@PySem.wpAny_newTuple
def XX:=@PySem.wpAny_fieldsOf
def XY:=@decide_false
def XZ:=@Nat.succ_ne_self
def YA:=@List.filter_cons
def YB:=@PySem.F.slot_dict_setdefault
def YC:=@PySem.wpAny_pyIter_tuple
def YD:=@PySem.wpAny_onRaise
def YE:=@PySem.wpAny_Constant_int
def YF:=@PySem.W.kia_one
def YG:=@List.of_mem_zip
def YH:=@PySem.F.called_enumerate
def YI:=@PySem.F.args_str_split_3
def YJ:=@PySem.F.args_str_split_2
def YK:=@Array.size_push
set_option hygiene false
section open Lean
def z'N(b:Bool):Nat->Syntax->Syntax
|n+1,.node _ k a=>let a:=a.map (z'N b n);.node .none k (if b&&k==``Parser.Term.basicFun then a.modify 0 λx=>.node .none `null (x.getArgs.map λy=>if y.isOfKind ``Parser.Term.hole then mkIdent `z'x else y) else a)
|_,.atom _ v=>.atom .none v
|_,.ident _ r n p=>.ident .none r n p
|_,x=>x
def z'E:Nat->Syntax->String
|0,_=>""
|n+1,s=>match s with
 |.node _ k a=>a.foldl (λr x=>r++z'E n x) s!"n{a.size} {(toString k).replace "Lean.Parser." "~"}\n"
 |.atom _ v=>s!"a{v}\n"
 |.ident _ _ v _=>s!"i{v}\n"
 |_=>"m\n"
def z'D(f:SourceInfo):Nat->List String->Syntax×List String
|n+1,x::l=>let r:=(x.drop 1).toString;match x.front with
 |'n'=>let c:=(r.takeWhile Char.isDigit).toString;let (a,l):=c.toNat!.fold (λ_ _ (a,l)=>let (y,l):=z'D f n l;(a.push y,l)) (#[],l);(.node f ((r.drop (c.length+1)).toString.replace "~" "Lean.Parser.").toName a,l)
 |'a'=>(.atom f r,l)
 |'i'=>(.ident f r.toRawSubstring r.toName [],l)
 |_=>(.missing,l)
|_,l=>(.missing,l)
def z'K:List (String×String):=[("P","n3 ~Term.paren\nn2 ~Term.hygienicLParen\na(\nn1 hygieneInfo\ni[anonymous]"),("D","n1 ~Tactic.tacticSeq\nn1 ~Tactic.tacticSeq1Indented"),("E","n2 ~Term.dotIdent\na."),("A","n2 ~Term.app"),("B","n1 null"),("C","n0 null"),("F","n2 null"),("G","n3 null"),("H","n1 ~Tactic.rcasesPatMed"),("I","n1 ~Tactic.rcasesPat.one"),("J","n2 ~Tactic.rcasesPatLo"),("K","n1 ~Tactic.optConfig"),("L","n4 ~Term.basicFun"),("M","n1 ~Term.hole\na_"),("N","n2 ~Term.byTactic\naby")]
def z'Z(r:SourceInfo)(f:String):Syntax:=(z'D r 999 (((f.takeWhile (·≠'\r')).toString.splitOn "\n").flatMap λs=>match z'K.lookup s with|some x=>x.splitOn "\n"|_=>[s])).1
local macro_rules|`(z [$x,*])=>do let a:=x.getElems;let mut r:="";for i in [0:a.size/2] do {r:=s!"{r}\r{match a[2*i]!.raw.isStrLit? with|some s=>s|_=>a[2*i]!.raw.getId.toString}\r{z'E 999 (z'N true 999 a[2*i+1]!)}"};return (Syntax.mkStrLit (z'K.foldl (λr p=>r.replace (p.2++"\n") (p.1++"\n")) r)).raw
def z't't:String:=z ["pc!",(by simp[Dk,Bh,sSeq,Ii,Dj,Em,Iv,Ng,CQ,Go,Qy,Dr,fT,Jn,Aa,Ym,f2,Vk,Rg,Yv,KI,AL,Hw,Rt,f1,Ac,Af,BW,fC,ED,Ie,Ar,Ko,Nz,Fc,Jm,Bw,Ak,Fs,Kl,Bn,Im,Ek,Cu,Au,Ao,Oa,Bp,Ji,Xn,Ei,HT.sIx,List.getElem?_cons_zero,List.getElem?_cons_succ]),"!7",(by split at e),"!#",(by refine' DL.aU KX G ?a ?l ?c ?k ?b;(case a=>k_is);(case l=>k_is);(case c=>k_is);(case k=>k_is);(case b=>exact λ_ _ _ _ _ _=>DL.jY λ_=>rfl)),"!$",(by refine' DL.aU KX G ?a ?l ?c ?k ?b;(case a=>k_is);(case l=>k_is);(case c=>k_is);(case k=>k_is);(case b=>exact λ_ _ _ _ _ _=>DL.kL λ_ _=>rfl)),"!i",(by constructor),"#:",(by dsimp only),"#E",(by exact this),"!*",(by refine' DL.dS KX G ?a;(case a=>k_is)),"!1",(by intro x y dx dy d G H Q sub rx ry e k),"!5",(by obtain⟨ka,bq⟩:=dB ha),"!4",(by obtain⟨v,rfl,rv⟩:=dJ r),"!.",(by dsimp only;(show W.findIn _ _ _=_);k_is),"#2",(by unfold Fs Kl),"!6",(by obtain⟨x,e1,e⟩:=LX.mp e),"!%",(by dsimp only;refine' DL.dW ?a ?i ?l ?c ?k ?b;(case a=>k_is);(case i=>k_is);(case l=>k_is);(case c=>k_is);(case k=>k_is);(case b=>exact λ_ _ _ _ _ _=>DL.kL λ_ _=>rfl)),"!0",(by intro X hP hw hK hc i hb s Z H E I hf st hg;subst hP hw hK),"!D",(by intro hb s Z H Q I h),"!,",(by dsimp only;refine' DL.fV KX G ?a;(case a=>k_is)),"!2",(by obtain⟨f0,f1,f2,f3,f4,f5⟩:=hf it c!),"!;",(by rename_i h;cases e;subst h),"!F",(by obtain⟨t,rfl⟩:=rx),"!K",(by rename_i hl;rcases e),"!:",(by intro vs ds d G H Q sub r e k),"#*",(by by_cases hk:k=d),"!(",(by refine' DL.aU KX G ?a ?l ?c ?k ?b;(case a=>k_is);(case l=>k_is);(case c=>k_is);(case k=>k_is);(case b=>exact λ_ _ _ _ _ _=>DL.us3 λ_ _ _=>rfl)),"!/",(by refine jR J! ?_;refine jR J! ?_;refine jR J! ?_),"!=",(by obtain⟨q,hq,rfl⟩:=NC.mp hd),"!_",(by unfold fT;rw[this];rfl),"#0",(by refine anF ax_ ?_),"#<",(by simp only[NW,OY]),"!+",(by refine' DL.qS KX G ?a;(case a=>k_is)),"!@",(by show"!6";obtain⟨y,e2,e⟩:=LX.mp e),"!O",(by obtain⟨o,ho,rfl⟩:=NC.mp hd),"!T",(by subst e;exact I1.fpOk u! eZ_),"!W",(by obtain⟨hp,g,d,tk,os⟩:=s),"##",(by by_cases c:gn g os=[]),"#$",(by by_cases c1:i∈W.its),"#+",(by obtain⟨t,rfl⟩:=r),"#5",(by funext b;unfold mup),"#=",(by rw[gd!];exact QK _),"!'",(by dsimp only;refine' DL.dW ?a ?i ?l ?c ?k ?b;(case a=>k_is);(case i=>k_is);(case l=>k_is);(case c=>k_is);(case k=>k_is);(case b=>exact λ_ _ _ _ _ _=>DL.us4 λ_ _ _ _=>rfl)),"!9",(by refine jR ax_ ?_;refine jR ax_ ?_),"!C",(by obtain rfl:=bC rx;obtain rfl:=bC ry;rcases e),"!I",(by show"!4";obtain⟨a,ws,rfl,q,rr⟩:=bS rv),"!L",(by obtain⟨o',e1⟩:=I.base.there b o e hx),"!P",(by obtain⟨ds,e1,e⟩:=LX.mp e;show"!7"),"!V",(by obtain⟨its,r,pl,hz⟩:=I.list hq),"!Y",(by obtain⟨o,e,c,d⟩:=st;exact gw_),"!Z",(by obtain⟨a,vs,rfl,qa,ra⟩:=bV rx),"![",(by intro vs ds d M G H Q sub m r e k),"!b",(by obtain⟨q0,h0,rfl⟩:=NC.mp hq),"!c",(by obtain⟨p,vs,rfl,q,rr⟩:=bV r),"!v",(by rename_i h;rw[NQ,NQ,NS]at h),"#&",(by subst J;rw[cC]at e;rcases e),"#,",(by obtain⟨ep,ht⟩:=hA.tk),"#1",(by obtain⟨a,rfl,q⟩:=hx),"!&",(by dsimp only;refine' DL.dW ?a ?i ?l ?c ?k ?b;(case a=>k_is);(case i=>k_is);(case l=>k_is);(case c=>k_is);(case k=>k_is);(case b=>exact λ_ _ _ _ _ _=>DL.us3 λ_ _ _=>rfl)),"!)",(by refine' DL.aU KX G ?a ?l ?c ?k ?b;(case a=>k_is);(case l=>k_is);(case c=>k_is);(case k=>k_is);(case b=>exact λ_ _ _ _ _ _=>DL.us4 λ_ _ _ _=>rfl)),"!-",(by dsimp only;refine'⟨?pg,?hd,?po,?sa⟩;(case pg=>k_is);(case hd=>k_is);(case po=>k_is);(case sa=>k_is)),"!3",(by have ih:=mY s c ak n w_ bn free a! a! hs;unfold StrLaws.occBody;rw[MY cond];unfold StrLaws.occBody at ih;refine Eq.trans ih ?_),"!8",(by obtain⟨v1,t1,rfl,r1,rr⟩:=bR rr;obtain⟨v2,t2,rfl,r2,rr⟩:=bR rr;obtain rfl:=cR rr),"!M",(by cases e;refine cg_;cases bP r1;refine kN!;cases bP r2),"!S",(by unfold Al at h;obtain⟨u,r,e1,q,t⟩:=h;subst e1),"!]",(by unfold Aq at h ⊢;obtain⟨a,vs,e,q,r⟩:=h),"!^",(by obtain⟨⟨o,z1,z2,z3⟩,z4⟩:=z;exact ll_),"!`",(by obtain⟨sl,e1⟩:=I.base.slot b o e n J hx),"!a",(by obtain⟨a',b',c',e',hm⟩:=w.sgs x hx q hq),"!g",(by show"!4";obtain⟨a,ws,rfl,q,rr⟩:=bV rv),"!h",(by intro x y dx dy d M G H Q sub m rx ry e k),"!p",(by cases yY I n r ru<;>cases yY I n' r' a8),"!u",(by have p:((D.non::cL!)).Perm (n::D.non::af_):=((List.Perm.cons _ TN)).trans (List.Perm.swap _ _ _)),"!w",(by obtain⟨_,vs,Y,h2⟩:=m.cell a _ hM),"!z",(by obtain⟨its,r,pl,hz⟩:=I.tuple hq),"!{",(by obtain⟨e,n,ne,nf,d⟩:=I.pin p hp),"!|",(by obtain rfl:=bP rx;obtain rfl:=bP ry),"#(",(by rw[MY c];exact keep rfl rfl w.inv),"#)",(by obtain⟨a,vs,rfl,qa,ra⟩:=bS rx),"#-",(by subst J;rw[mup_same]at e;rcases e),"#3",(by simp only[NW,OY,PM,hx]at h ⊢),"#4",(by obtain⟨ds,e1,e'⟩:=LX.mp e'),"#>",(by obtain⟨rfl,rfl|rfl⟩:=d l),"#?",(by obtain⟨od,al,hl⟩:=I.look),"#@",(by obtain⟨o,es,ep,ho,r⟩:=hm),"#C",(by have c':=UE c;rw[MY c']at st),"#D",(by have c':=PB c;rw[MM c']at st),"#F",(by exact hR M O _ _ st hL .refl),"#L",(by rename_i p;obtain rfl:=gQ r),"#M",(by obtain⟨q,hq,e⟩:=NC.mp z),"!!",(by dsimp only;refine' DL.c1t (DL.fV KX G ?g) ?a ?i ?l ?c ?k ?mm ?kc ?b;(case g=>k_is);(case a=>k_is);(case i=>k_is);(case l=>k_is);(case c=>k_is);(case k=>k_is);(case mm=>k_is);(case kc=>k_is);(case b=>exact λ_ _ _ _ _ _=>DL.jY λ_=>rfl)),"!<",(by refine W.methodCall_KW (pl:=pl) c9_ ht;rintro u s1 ⟨x,H1,I1,rx,a,dx,fs,ex,ea,l,q⟩;subst ex;obtain rfl:u=Value.ref a:=rx;refine pK I1 ea c hm l ?_),"!>",(by refine dP c7_ ?_;rintro v s1 ⟨x,H1,I1,r1,q1⟩;refine dP gp_ ?_;rintro u s2 ⟨y,H2,I2,r2,q2⟩;exact hf v u s2 x y H2 I2 r1 r2 q2),"!?",(by obtain⟨ob,eo,ec,ed⟩:=id g1;obtain⟨ot,xt,_,nt,xu⟩:=g2;unfold Builtin.SmallTypes.nextOf;refine LW (OU g1.typeIs UC (OM UC g1.typeIs F.entry_tuple_iterator_next ?_ (F.args_tuple_iterator_next_1 _)));show wpAny _ _ (field (.ref jt) 0>>=_) _ _ s),"!A",(by dsimp only[(show Builtin.Dict_items.ownsTuple "dict_keyiterator"=false by decide),Bool.false_eq_true,if_false];show wpAny E_ A.in1 (if(Value.ref d==gi!)=true then _ else _) _ _ s;rw[(MY (λz:(Value.ref d==Value.none)=true=>NO z))];refine LW (LZ (LW (RJ td tf ?_)));rw[bx_]),"!B",(by obtain⟨v,rfl,r1⟩:=dJ r;obtain⟨rfl,rfl,hM⟩:=cV r1 e1;obtain⟨es,Y,h2⟩:=((m.cell q.1 _ hM)).2;obtain⟨ys,g1,g2⟩:=zU h2),"!E",(by obtain⟨l,e2,e⟩:=LX.mp e;obtain⟨h,e3,e⟩:=LX.mp e;refine ⟨G,ρ,x,er,e1,λv G1 H1 s1 r1=>⟨G1,ρ,l,dr_,e2,λG2 H2 s2=>⟨G2,ρ,h,er.grow bT!,e3,λG3 H3 s3=>?_⟩⟩⟩;have r3:=(fw_).mono s3.g;have s4:=s1.trans fx!),"!G",(by unfold Builtin.SmallTypes.ownedTupleIsFree;refine LW (PN gz rfl rfl Y_);dsimp only[if_true];refine LW fN_;refine LW fN!),"!H",(by obtain⟨us,rv,p1,_⟩:=I.list qa;obtain⟨us',a7,p2,_⟩:=I.list qb;have Y:=aL rd;have h2:=aL re;have h3:=da_),"!J",(by have I1:Inv X hb Z H {s with heap:=h'}:=I.turned (t':=s.toks) mP! f0 f1 f3 f4 f5;obtain⟨o,e,c,d⟩:=id ab),"!N",(by rintro⟨⟨⟩,ab⟩ s' ⟨rfl,a1,a2,a3⟩;dsimp only;obtain⟨L',b1,b2,b3⟩:=sS iu hk ow a1 a3),"!Q",(by obtain⟨i,hi,q⟩:=oK J;obtain⟨p,ds,vs,Y,h2,h3,h4,h5⟩:=er.own_ i hi;rw[q]at h2;cases h2),"!R",(by show"!5";obtain⟨kb,lc⟩:=dB J;obtain⟨kc,zi⟩:=uZ b8;refine jR J! ?_;refine ifT (bH.trans (congrArg some a2y)) ?_),"!U",(by dsimp only[sliceBounds,HT.sIx,Option.getD_none,jB!,if_true];by_cases h:i<0),"!X",(by intro hb s Z H x y v u Q I rx ry h;obtain⟨i,j,rfl,rfl,q⟩:=h;show"!F";obtain⟨t',rfl⟩:=ry),"!d",(by have hT:=ax.typeIs;obtain⟨o,ho,hc,hd⟩:=id ax;obtain⟨od,td,_,tf⟩:=id D),"!e",(by refine LW (PN eo ed (x:=.ref tt) rfl ?_);rw[(MY (show¬((Value.ref tt==Value.none)=true)from NO))];refine LW (PN eo ed rfl ?_);refine LW (QU xt xu ?_);simp only[SU,g3]),"!f",(by have I1:Inv X hb Z H {s with heap:=h',toks:=tk}:=I.turned mR! f0 f1 f3 f4 f5),"!j",(by refine LW (PH fin (?_) λ_ _ z=>z);rintro ah s' ⟨e1,o,q1,q2,q3⟩;subst q1 q2;exact LW (TD (LZ ⟨_,rfl,q3⟩))),"!k",(by obtain⟨ic,H3,I3,n3⟩:=q3;obtain⟨m',hm,w3⟩:=hN ic H3 n3;exact ⟨m',hm,ic,H3,I3,w3⟩),"!l",(by obtain⟨i,hi⟩:=SK.mp hv;obtain⟨d,_,p⟩:=gZ z hi;exact⟨_,_,p⟩),"!m",(by obtain rfl:=eS ry;rcases e;refine j_;rw[yZ rx];exact k _ G H aL! Aq.bl),"!n",(by have:X.env.scope.names.lookup x=some .free:=hk;rw[k]at this;cases this),"!o",(by have hf:=a7i x k;have hl:∀i∈plc es dE!,i<es.size:=λi hi=>c0e hi),"!q",(by obtain⟨v,rfl,r1⟩:=dJ r;obtain⟨p,ys,rfl,q,rr⟩:=a1c sub m r1 e1),"!r",(by obtain⟨hi,r1⟩:=r1;obtain⟨p,dx,vs,rfl,rfl,hH,hl⟩:=a6u m1 q1 hi),"!s",(by obtain⟨e,he,hv⟩:=hi.2 i σ[i] (by rw[OG Y]);rw[he,SO,OG Y,hv];rfl),"!t",(by show"!6";obtain⟨q,e2,e⟩:=LX.mp e;obtain⟨ks',e3,rfl⟩:=MQ.mp e),"!x",(by obtain⟨_,_,_,_,o,_,_,e,ex,_⟩:=I.hok p _ hk;exact⟨o,e,ex⟩),"!y",(by show (wpAny _ _ (field hO_ 2>>=_) _ _ _);refine LW fN!;refine LW fN!;refine LW (QU gI rfl ?_);refine LW ?_),"!}",(by obtain⟨cl,cf⟩:=b4u λp hp hf=>I.ok.has p.1 (io p hp hf)),"!~",(by dsimp only[Bool.not_false,if_true];exact LW (zG (LZ (LZ (LZ h))))),"#!",(by have e:=ay_;dsimp only[Array.length_toList]at e;omega),"#%",(by refine XT.mpr λd hd z=>?_;obtain⟨x,hx,rfl⟩:=NC.mp hd),"#'",(by show"!5";refine jR J! ?_;refine jR J! ?_;refine ifT (bH.trans (congrArg some a2z)) ?_),"#.",(by subst hj;rw[hi]at e1;rcases e1;rw[PR zy]at e2;cases e2),"#/",(by obtain⟨oc,od,kV,bu,pm,an,am,ct,jn,rfl,lk,cb⟩:=F.ex),"#6",(by unfold pyNext;refine LW (TR (OU hT QH (OM QH hT WV ?_ (WN _))));refine LW (LZ (LW gF!))),"#7",(by rw[MN,MN,<-h3,<-h4,<-Y,<-h2];by_cases hl:g_=al_),"#8",(by obtain⟨its,rv,⟨o,Y,h2,n,h3⟩,_⟩:=I.tuple hv_),"#9",(by have ne:∀{b u},H b=some u->b≠p:=λe=>cP e hp),"#;",(by have rs:∀j∈rest,j<es.size:=λj hj=>h2 j la!),"#A",(by have n1:=nd.1;have n2:=nd.2;rw[<-QW,NA,UZ]at n1),"#B",(by have lo:=w.l;unfold Be Hb;rw[Y,hc];refine dX db!),"#G",(by simp only[Op.nm,D.tup.injEq,QJ,D.int.injEq]at e),"#H",(by rw[qL l2!,qL l2_];exact b2t (mm p hp) (mm q bc)),"#I",(by rename_i h1 ep hM;obtain⟨kk,e1,e2⟩:=LX.mp e),"#J",(by rcases e;refine ⟨G,ρ,_,er,?_,k⟩;show((Option.some ds)).bind _=_;simp[hl]),"#K",(by have:=congrArg List.length h;simp at this;omega),"#N",(by obtain⟨ad,h1,vs,kg,Y3,xq,xr,hn,hs⟩:=hd.ex),"#O",(by obtain rfl:=bC ry;obtain⟨v,Y,h2⟩:=pW ra e)]
def z'0:String:=z [a!,(by omega),b!,hr.mono a_,c!,(by simp),d!,(·.1),e!,Or.inl χ,g!,Txt P w K mg t,h!,model X.prog X.w,i!,wl k!,j!,xs.length,k!,Aa 0,l!,aB v_,n!,model prog w,o!,μ Value,p!,wl v!,q!,μ ar_,r!,aB I_,u!,MZ _,v!,Aa 1,w!,Ai.units hr,x!,s1.heap.objs.size,y!,MM χ,z!,μ eN!,A!,λ_=>ψ τ,B!,.fn p,C!,(x==("__debug__":Str))=θ,D!,fC bv_,E!,"hand",F!,s.length,G!,aB av!,H!,.lst xs,I!,DE X own a fa,J!,bH.trans (JI! c_),K!,"self",L!,ψ o.v,M!,fC O_,N!,λ_=>True,O!,[a,b],P!,(by decide),Q!,(by simp),R!,Ac k! Af,S!,z.length,T!,aI (λ_ _ h=>aV h),U!,ψ dK_,V!,Gl X x,W!,k+1,X!,μ α,Y!,Aa 3,Z!,bN w!,Aa!,T.Y2 _ χ χ χ χ,Ab!,.int (F!:δ),Ac!,(a3a χ).trans (by rw[hk]),Ad!,qT hu x hk ho hd ?_,Ae!,letters.cps.toList.length,Af!,uJ ho hc hd (D2! BQ),Ag!,Builtin.Dict.takeOut a u,Ah!,sSeq GH (sSeq EK Ag_),Ai!,aR (lJ T) b! χ aL_ T!,Aj!,[bZ!,cn_,bX_,dF!,υ,υ,υ,υ,υ,υ,υ,υ],Ak!,Ei its bZ_ υ,Al!,λ_ _ _ _ _=>J6_ (show(dn_:μ Str).Nodup by decide+kernel),Am!,fO (show(Ym "str" oth).map D.bl=_ by rw[z1];rfl),An!,(by rw[cm,i1];rfl),Ao!,if g_<=1000 then _ else _,Ap!,.ins C dx vs,Aq!,#[iT!,iT!],Ar!,MR P w KF M1 G1 H1,As!,[fT_,.int base,k9_,.int most],At!,aM (lH T) b! χ ev!,Au!,MR P w KF M' G' H',Av!,μ D->Mh->ν,Aw!,aZ (g:=Uw θ) (x:=cm_) χ χ (in2 k "cut" "set"),Ax!,#[by rintro hb s Z H Q I ⟨G,ρ,M,R,st,e,k⟩;exact KG_ h qj_],Ay!,#[_,by assumption,h],Az!,Th X.prog X.w X.K own G H Z ρ M,AA!,#[G1,ρ,M1,R,lj_,r1,λd M2 G2 H2 r2 x2 m2=>k d M2 G2 H2 r2 cp! m2],AB!,λd M2 v G2 H2 r2 x2 m2 q2=>k d M2 v G2 H2 r2 cp! m2 q2,AC!,x1.trans (.ext qn_) m1,AD!,(by delta Go;rw[qU χ (OH _)];rfl),AE!,λY h2 z q=>?_,AF!,.dct qf_ (Il h1 d ep),AG!,a∈W.its/\Ge W b/\¬JY! b,AH!,wrT b f1_ aN!,AI!,[aF!,ar!,ev_],AJ!,#[_,χ,OT h],AK!,pre++[.tup cq_],AL!,.builtin "dict.get",AM!,hg.winv w.inv hc.1 hc.2.1 hc.2.2,AN!,setT W a AH!,AO!,a3r I Y D' bv h4 ?_,AP!,(Ee! m'.toNat).map λk=>.tup kJ!,AQ!,aM (a9u T) b! χ (aC an! kK!),AR!,ft ρ=ψ τ,AU!,[am!,bA_,h9!],AV!,Ab hR_ (Ab (wl f2) (Dt! (wl f3) (wl f4))),AW!,tJ a! I m sub e #[_,r,rx] hk λs' I'=>LZ #[.bl _,H,I',χ,q],AY!,k="undo"\/k="redo",AZ!,Sc X.prog X.w X.K r g,A0!,x1.trans lv! m1,A1!,#[ys,z,χ],A2!,(HY_ a.map).Nodup,A3!,λx=>Av x aT!,A4!,#[.inl #[χ,xy,El.of hH],G1,ρ,M1,_,lj_,r1,λz M2 u G2 H2 r2 x2 m2 q2=>?_],A5!,(cp!).trans (GR! z3) m2,A6!,(show A4_=τ by decide+kernel),A7!,Oq .str os A,A8!,UD (QY (ha.run I1 f5! r1 λy M2 yv G2 H2 iv s2 r2 x2 m2 q2 I2 ry=>UA ?_)),A9!,#[ο,hR M ep y hp λb _=>χ],Ba!,#[yv,q2,ry],Bb!,J.run I2 Ba_ r2 λz M3 zv G3 H3 jv s3 r3 x3 m3 q3 I3 rz=>UA ?_,Bc!,(bH!).mono x3.g,Bd!,mup M p (.dct (Br σ a T_) (Il σ a ep)),Be!,#[zv,q3,rz],Bf!,λo ho=>hd o (bz.mem_iff.mp ho),Bg!,λM' ep y Y h2=>hR p M' ep hp Y λb J=>GT! b,Bh!,(∀b,b≠q->M' b=M b),Bi!,L2.Key×Value,Bj!,MP X own pos keys j5 fp,Bk!,mup M c (.dct (σ++h1) (n+ay!)),Bl!,λi p h=>(by simp[W0]at h),Bm!,HA X.prog X.w X.K M0 G0 F0 own c9 f,Bn!,Bs G lB_ G' H',Bo!,MY (λhr=>by rw[(s.root hr).2]at e;rcases e),Bp!,h2.ok M0 G0 F0,Bq!,[(root,.non),(binn,.non)],Br!,#[G',ρ,M',R,sr.grow x m,r,k1,k2],Bs!,.fol root τ,Bt!,.pre root τ,Bu!,.pre binn τ,Bv!,sr.grow x1 m1,Bw!,.Subscript o i p2,Bx!,λd M' v G' H' r x m q=>?_,By!,.obj t.B6 [],Bz!,(by show 1<100;decide),BA!,(by show 3<100;decide),BB!,(∃uk,Tj W' uk),BC!,(show B+20*(os.length+1)=B+20+20*os.length by omega),BD!,(by rw[show Op.nm x=Op.nm y from z.symm];exact NE hy),BE!,(ops.map Op.nm).Nodup,BF!,[ie!,am!,b1!,υ,υ],BG!,(λx _=>by simp),BH!,(by rw[e3,e1];exact J),BI!,∀cl C av bf fp,ID! BH_,BJ!,Be NL.length ix fi bnd ft fe,BK!,Db X.prog X.w X.K X.mg X.base k C m ps g,BL!,λd M1 v G1 H1 r1 x1 m1 q1=>?_,BM!,mup M1 x (.obj C []),BN!,ho _ (hi _ ?_),BO!,(by show 3<=1000;decide),BP!,(d==sysModules)=θ,BQ!,s.heap.IsKeyIter it d i es.length ep,BR!,ψ (.int qU_),BU!,(show¬((i:Int)<0)from by omega),BV!,∀h',It! it s.heap->Q υ {s with heap:=h'},BW!,BEq.comm (a:=BS_ "redo"),BX!,Il σ u.2 ep,BY!,(λi v=>∃c u,x.cps[i]?=ψ c/\v=.str H_ u),BZ!,if _ then _ else er!,B0!,D X.A.in1 hh,B1!,#[o,d9 T o tu eo,r],B2!,I.hok.fresh hT,B3!,#[χ,gM I hf kp],B4!,[.int q0!,.str #[[q.1].toArray]],B5!,(nv!).any d!=θ,B6!,λb J=>I1.fpOk (ig b J) B6_,B7!,λb z=>Dl! z,B8!,IntsAre ag.toList ns,B9!,∀q∈rs,Sd q.1/\Sd q.2,Ca!,Bw [.lst eE_]=_,Cb!,(f1 Bw gQ! b4!).bind (λz=>Vk ij! z)=_,Cc!,Value.bool b==Value.bool c,Cd!,[al!,M_,cT!,cV!,in!,in_,y],Ce!,ifT (by rw[cond,NG z]) ?_,Cf!,.inr #[j,o_,h2,h3],Cg!,[U!,M_,cT!,cV!,υ,υ,υ],Ch!,!decide (q.1=i),Ci!,[U!,M_,cT!,cV!,in!,pD_,υ],Cj!,(rs.take a++bU!::rs.drop a),Ck!,0<=k/\k<=1000/\g_*k.toNat<=1000,Cl!,.lst (Dk_ k.toNat ds).flatten,Cm!,k3 lP! f8_ lL_,Cn!,Il qZ! hh! e,Co!,#[G1,ρ,M1,_,(f5!).grow (.ext xj) q8_,r1.2,λy M2 v G2 H2 r2 x2 m2 q2=>?_],Cp!,x1.trans (.ext xj) m1,Cq!,λq=>decide io_,Cr!,getElem?_pos _ k cm,Cs!,(Ak f9! O_).bind (λz=>Av z x)=_,Ct!,(show x - 1<a0.size by omega),Cu!,Cs wI! (Cb 7) GW,Cv!,Cp (Vl "move"),Cw!,Ex (Cp (Vl "set")) Uv,Cx!,At (Ex (Cp (Vl "write")) Uv) Tf (At (Ex (Cp (Vl "cut")) Uv) AE Bl),Cy!,Aa 2 ρ=ψ qt!,Cz!,b=τ->Hi_ q1,CA!,(∀i,i<lo->Eu_ i<=Eu_ k),CB!,#[χ,lo,lo,χ,g2,g4,g5],CC!,W.its.map λi=>eH!,CD!,pendingOf ab,CE!,L.cell (wt,_) im!,CF!,(aN!).length<5000,CH!,λK hK=>?_,CI!,wi.sg a ha q hq,CJ!,l[j]?.map d!,CK!,[U!,al!,CJ_,lV_,y4,ψ lV!,in_,y,υ,υ],CL!,(Gr! "int"::r),CM!,[U!,al!,lX_,cU!,y4,ψ re_,ψ O_,υ,υ,υ],CN!,l.filter λx=>Ka x q,CO!,D.tup bF!∉W.its,CP!,λp=>Kf rh_ (Mz h p.1),CQ!,Il ct_ aq_ e1,CR!,Br lY_ aq_ cZ!,CS!,#[[a],[(Str.ofString "key",v)]],CT!,Fe X.prog X.w X.K X.mg X.base Pi k f fd ps xi_,CU!,(c,GK_ ku.toArray n),CV!,#[by show _<=_;simp only;omega,same.its,same.txt],CW!,(c,GK_ ku.toArray e),CX!,Inv X (hb++[l0!,CW!]) Z H s,CY!,Tg w x0 d nm,CZ!,List.map_fst_zip rn!,C0!,λv hv=>?_,C1!,#[Array.Perm.refl _,χ,χ,χ],C2!,(by rw[bj];exact ou),C3!,∀K:Bool->Mh->Prop,K b M->IU_ ft,C4!,Gd x.d=υ/\¬FC_ wd=ψ ca!,C5!,s.heap.get? a=ψ (GK_ us.toArray n),C6!,#[_,UK ha λ_=>#[]],C7!,VC ha χ ?_ lZ! bn!,C8!,XW ?_ (by show as_<=_;rw[OP];omega),C9!,MC _ (DQ! C8_ q),AS!,Dw K mg ζ,AT!,(by rw[ζ];exact η),AX!,bF (sc:=Aj ζ) χ c_,BS!,ψ (.dct ζ η),BT!,W.kitOne [] ζ,CG!,X.env.scope.names.lookup ζ,Da!,Al KF ζ ds vs,Db!,ζ P w KF,Dc!,if(ζ).length<=big then Ki_ D.lst η else υ,Dd!,aR (ζ T) b! χ η T!,De!,DE X own ζ,Df!,ψ (.bl ζ),Dg!,λhr _=>(aG (bD ζ)),Dh!,Ac ζ (Ac η Af),Di!,Bq 1 [] ζ m_ A! η,Dj!,Pu ζ ρ M,Dk!,ME X own ζ,Dl!,ξ χ ζ,Dm!,starEach ζ X.env,Dn!,bootBuiltins ζ,Do!,(by rw[<-ζ];exact η),Dp!,congrArg ζ η,Dq!,lU ζ xs ys A.in1 vs ws us us' n n' fI_ rr b6 rv a7,Dr!,Aq KF H ζ,Ds!,wpAny _ _ ζ _ _,Dt!,Ab ζ (Ab η Ad),Du!,eM nd χ e! ζ,Dv!,.fields [.int lo ζ,.int hi u,.int 1 v].toArray,Dw!,mup_ne ζ,Dx!,#[λi H=>∃xs x,ζ K H a xs/\xs[i]?=ψ x,λi H x H'=>H'=H/\∀xs,ζ K H a xs->xs[i]?=ψ x,λi H=>∃xs,ζ K H a xs/\j!<=i],Dy!,Heap.SameBut ζ s.heap h',Dz!,(W.fnOf ζ η jT_ bP_ by! .none kV bu pm an am ct),DA!,I.tuple ζ,DB!,SeqAt.EqAt A s u ζ,DC!,ζ hb s Z H,DD!,nw ζ _ χ c_ c_ c_ η c!,DE!,ζ X.prog X.w η,DF!,wpAny ζ A.in1 η _ _ s,DG!,ψ (ζ=="bool"||η=="int"),DH!,W.findIn ζ ao_,DI!,tpl (iO c6! (iO eQ! ζ)),DJ!,ζ mainGlobals mg,DK!,(assignEach ζ X.env).map Q_,DL!,Ag ζ η ρ M R,DM!,sc.names.lookup ζ,DN!,.fields [.ref ζ,.int 0 0].toArray,DO!,fC (.int ζ),DP!,hR M' O _ _ ζ cu hF,DQ!,(ζ).trans η,DR!,aE ζ (aE η aJ),DS!,Eu ζ fd ps [],DT!,YF ζ I.kIn True.intro e fA! fin,DU!,fZ χ T.T8 (cK cN eZ χ T.T4 eC (aE ζ aJ)),DV!,s.heap.update ζ η,DW!,iV (ζ T) η χ a_,DX!,WD m.base m.few m.line UF ζ η lx_,DY!,fs.lookup ζ,DZ!,Aq KF ζ d,D0!,ψ (.ref ζ),D1!,ψ (D.lst ζ),D2!,(by simp[ζ]),D3!,fF ζ m sub e,D4!,ζ .local,D5!,oS SF PySem.F.slot_str_join PySem.F.type_str_join b3s ζ kM_ cy cz c8 hs b9,D6!,Fp X hb ζ,D7!,ψ (D.bl (decide ζ)),D8!,#[G,ρ,ds,er,e1,λvs G1 H1 s1 r1=>#[xd_,λp hp=>k _ _ _ xe! (ζ xe_ r1)]],D9!,#[by rintro ζ hb s Z H Q I ⟨G,ρ,M,R,st,e,k⟩;exact h ζ hb s Z H Q I qj_],Ea!,oS SF PySem.F.slot_str_split PySem.F.type_str_split ζ ho.ok η cy cz c8 hs b9,Eb!,ζ X.K own η,Ec!,SeqAt.RcNeAt A s ζ,Ed!,eH (jQ a3f χ T.T3 χ T.U0 cW xM ζ),Ee!,List.range ζ,Ef!,CB (Tg w x0 ζ η) M R,Eg!,ζ s.heap,Eh!,Fd KF H ζ,Ei!,W.nsIn ζ mainGlobals,Ej!,On bnd ck ft fe ζ,Ek!,(if y=i then ζ else W.txt y).map d!,El!,ζ hL hw.inv ak hB,Em!,[("following",.fn ζ),("preceding",.fn η)],En!,iF χ (L.cell (a,.obj t.B5 ζ) c!),Eo!,Q bb_ (upd ζ p η),Ep!,ψ #[oc,od,.func ζ,jn],Eq!,(hS_).get? (ζ).objs.size,Er!,Ah 2 (ζ t) η,Es!,List.lookup ζ,Et!,ψ (.str ζ),Eu!,(by rw[ζ];simp),Ev!,ψ (D.fn ζ),Ew!,Bo M' w ζ,Ex!,(ζ).map Q_,Ey!,s.heap.IsTuple ζ,Ez!,hR M' ae af az ζ,EA!,Q (.bl ζ) H,EB!,(by rw[ζ];omega),EC!,xs.foldl max ζ,ED!,f1 ζ (Ac η Af),EE!,(by show(dh_).foldl max b=_;rw[RU,show max b x=ζ by omega]),EF!,(λr M1=>match r with|.nx ap=>Ay ζ ap M1 hD_|.rt d=>R d M1),EG!,nF (fZ χ T.T8 ζ),EH!,Cg m_ A! ζ aF_ η,EI!,Ah 1 ζ aJ_,EJ!,cZ (λd=>match d with|.tup [ζ,_]=>decide (ζ=x)|_=>θ),EK!,Aq X.K ζ d v,EL!,Ai k (A.deeper (envOfC qual ζ s.heap.objs.size f am)),EM!,Cg bnd ft fe ζ ds,EN!,ζ I1 m1 x1.sub hM,EO!,occurrences s H_ 0 s.length ζ,EP!,(ih!).nodup_iff.mpr ζ,EQ!,if(ζ).length<=big then(Cg _ _ _ aF_ η).map D.lst else υ,ER!,ζ I dx dy n1 n2 a! r1 r2 rx ry X.prog X.w X.xe _ hG!,ES!,cU bW! eJ ζ η χ,ET!,Rh ζ η M θ,EU!,s'.heap.get? ζ,EV!,SD UL fT! TZ ζ,EW!,#[_,χ,W.go jc n1 tp ζ T _ _ _ hm λh2 bt d9=>?_],EX!,MM (by rw[ζ,η];delta big;omega),EY!,IntsAre ζ,EZ!,LW (OJ (ζ slot_list_sort ru_ entry_list_sort ?body η)),E0!,aW (bK ζ),E1!,(Od Pi P w KF mg base N ζ by! aj am A outer s H E),E2!,Inv X ζ Z H,E3!,.ok (.ret ζ),E4!,En ζ e it eR_ η dJ! ah,E5!,Ba t.B7 "put_behind" 3 (Cj t) (w2 Cc dj_ ζ) nt_,E6!,ψ (.rt ζ),E7!,bJ ag! bZ ζ η l_,E8!,Al.cons ζ η,E9!,(fS ζ χ).trans η,Fa!,TB hp (dP ζ ?_),Fb!,ζ value slice hb s Z H x y v u Q I rx ry q hs,Fc!,(∀v G' H',Bs G H G' H'->ζ X.K G' d v->Q v H'),Fd!,ζ _ _ χ χ,Fe!,.seq [.int i ζ,x].toArray,Ff!,f2 Ak bx! ζ b0_,Fg!,anT (kT oY ζ) rl_ dM_ dM_,Fh!,cS b_ b_ ζ,Fi!,Gb X ζ (η X.K),Fj!,Or.inr ζ,Fk!,kget ζ x=υ/\kget η x=υ,Fl!,OM US h3.typeIs PySem.F.entry_dict_get ?_ ζ,Fm!,s.heap.IsListIter it l ζ,Fn!,(lT_).bind (λx=>Ak x ζ),Fo!,λ_ _ _ _ _=>aY ζ χ e!,Fp!,bo.extBut _ _ ζ η,Fq!,rc _ a! q1 (λM' ρ h' f'=>hR M' ρ yx! ζ),Fr!,ζ η χ χ,Fs!,(by simp[show ζ=τ from by decide+kernel]),Ft!,Heap.SameBut ζ,Fu!,swappedStores ζ e X.env,Fv!,ζ pl.isList,Fw!,sp vs H Q ζ,Fx!,Kl xs.length ζ,Fy!,OR KF [] G H ζ,Fz!,LW (QP ζ),FA!,LW (wpAny_isInstance ζ isSubtype_stop ?_),FB!,ζ t eo_ M R,FC!,(∀x v,kget ζ x=ψ v->∃k:Str,v=.str k),FD!,jP χ ζ c_,FE!,ζ (λb z y=>η b y z),FF!,if ζ=η then _ else _,FG!,.builtin "type.__call__" #[.ref C::ζ,kw],FH!,.cons ζ .nil,FI!,OJ (LW (wpAny_sequenceKey hT a_ (LW ζ))),FJ!,ξ e.1 ζ,FK!,(ζ).Perm S,FL!,wpAny h! X.A.in1.in1 ζ,FM!,mk aJ!==Str.ofString ζ,FN!,Gr KF ζ (Hw λi j=>.bl η),FO!,ζ s1.heap.objs.size η x t,FP!,kget ζ x,FQ!,Ak o.v ζ,FR!,.lst [.int (ζ 0),.int (ζ 5),.int (ζ 15)],FS!,bJ oC oJ ζ dH l_,FT!,I.hok.fresh ζ,FU!,Re P w K tg ζ [it] it,FV!,Fe l.prog w bO_ mg base ζ k fa fd [x],FW!,El KF H ζ,FX!,ζ ρ M1 R,FY!,#[eS q2,k _ M2 _ G2 H2 r2 ζ m2 Aq.fn],FZ!,callWith_kw (dP ζ ?_) iu_ iu_ χ χ,F0!,starEach [] ζ,F1!,propext ζ,F2!,wpAny_execs_cons (dP ζ λf s1 q=>?_),F3!,#[_,χ,ζ],F4!,ζ d M1 v G2 H2 h2 A0! (m1.ext x2) q2,F5!,(ζ).foldl (λσ p=>σ++(η).cps++p.cps) σ,F6!,NT.mpr #[ζ,by rw[η];rfl],F7!,#[.bl ζ,H1,I1,χ,q1],F8!,El X.K H ζ,F9!,s.TypeIs ζ,Ga!,DT X own ζ,Gb!,s.or.own_ ζ,Gc!,ζ i t _ _ _ _ h,Gd!,sr.st.grow ζ m1,Ge!,(OK _ _ ζ).trans η,Gf!,Txt.slice ζ dZ!,Gg!,fC (.lst ζ),Gh!,ζ rows i,Gi!,Sa W ζ d W',Gj!,ζ os x1 eB! σ ep M R f5_ a! hp Be_,Gk!,.obj t.B5 ζ,Gl!,joinL 46 ζ,Gm!,LnO ζ o aQ_,Gn!,wS (intC ζ),Go!,call_list_seq p ζ ho hc hd u8! nX_,Gp!,oB c cs ys w_ ζ η h' a!,Gq!,#[(mup_ne λz=>hn ζ).trans zf!,?_],Gr!,Value.type ζ,Gs!,Un (frs X.stack) ch H H' s.heap ζ,Gt!,typeLookup ζ,Gu!,x.get (OG ζ),Gv!,LW (wpAny_missed_other h4 (LZ ζ)),Gw!,XM M0 G0 F0 ζ G' H',Gx!,seqObj "list" #[] ζ,Gy!,Dc.mono ζ hB,Gz!,Bz gM! gM_ m ζ M R',GA!,Y _ (h2 _ ζ),GB!,Qy (fT ζ) (fT g) ρ,GC!,pq ζ os o,GD!,ζ X.env.locals,GE!,#[ζ,(η).trans e1],GF!,#[u,χ,b4g (s:=sV!) e c d a_ ζ],GG!,(ζ).lookup η,GH!,bindArgs ζ dk!,GI!,closOf cells ζ,GJ!,ζ hu h3 h6 h8!,GK!,LW (VC ζ χ ?_ bn! η),GL!,Bq ζ [] gT! m_ (fT on!) (Bn g9_),GM!,Ty t ζ V' B' c,GN!,Bk t M' o O' ζ,GO!,OS t ζ a o O W,GP!,X.s₀.heap.get? ζ,GQ!,wpAny_call (VA ζ λr s' hq=>?_),GR!,.write m2 x2.sub ζ,GS!,Ag v9_ (Ag (Iw (Cp ζ) ow_) wc!),GT!,(h2 ζ J).trans qD_,GU!,(j7_).elim (λz=>MV _ ζ) (MF _),GV!,X.s₀.heap.FunFrames X.base ζ,GW!,(ζ).length+(dn!).length+ed_<30,GX!,ζ (η).nox [] c9 bP_ q,GY!,Obj.isFreed_of_fields (VZ ζ _),GZ!,ξ z ζ,G0!,LW (ζ hT η),G1!,PV (b9i hl b' ζ η ?_),G2!,kf L'[ζ].2,G3!,w1 ζ (Ab η Ad),G4!,Ba t.B7 "listed" 1 (Hl t) ζ Ad,G5!,h.mem.mp ζ,G6!,lG wi ζ hq,G7!,h.live b ζ,G8!,Ax ζ its,G9!,PySem.Within mA ζ,Ha!,.Expr ζ pos,Hb!,LW (LZ ζ),Hc!,ζ cells r _,Hd!,NN (I2.pin p ζ).1,He!,ζ _ G H aL! Aq.bl,Hf!,.Call ζ [a] [] η,Hg!,MC _ (MC _ ζ),Hh!,wpAny_ite_split ζ,Hi!,mup M ζ c,Hj!,ζ χ ?_,Hk!,rk r ζ k,Hl!,ζ i eG! a! a!,Hm!,EX X hb ζ η e it,Hn!,Bq ζ [0,2] (Ez oo!) m_ A! vL!,Ho!,ζ b f1_ aN!,Hp!,fP (wB av0 ax1 χ χ dG_ ζ),Hq!,ψ ((ζ).map λi=>D.int bs_),Hr!,dQ ζ b_ χ,Hs!,ζ t cx_ M R,Ht!,Vo yy U S ζ,Hu!,ζ t M 3 a,Hv!,R (.int ζ) M',Hw!,nn.2.2 x.nm ζ o.nm (NE MB) ?_,Hx!,ζ nd hh hn ht,Hy!,(I.hok b ζ e).stay η,Hz!,SeqAt.in_listAt ζ pl.isList η fh!,HA!,ζ η b its.toArray ie.toArray n n2,HB!,Bv ζ ht_ (wl η) ρ M,HC!,λu av=>wpAny h! X.A ζ η X.xe av,HD!,wpAny_letTemporaryGo (LZ ζ),HE!,AQ KF ζ η G1,HF!,.int_str ζ _ _ _,HG!,.str_str ζ _ _ _,HH!,ζ a! I2 m2 x2.sub gh Ba! e3,HI!,ζ PySem.F.entry_max_loop ?_,HJ!,(MY ζ).trans bX!,HK!,if a∈W.its then ζ W a η else W,HL!,ifT (kT oY ζ) ?_,HM!,Wt.filter (AK ζ),HN!,μ (ζ×η),HO!,PE X ζ (tC η),HP!,Yr X.K C m ζ,HQ!,Subscript_ ζ,HR!,El ζ H a cb_,HS!,LW (ζ η χ ?_),HT!,Nn h ζ es ep,HU!,st.mr.laid ζ st.or.sub qF_,HV!,L'.map ζ,HW!,Ag (Cs (Kn ea_) ca_ ζ) uG!,HX!,if i∈W.its then ζ W i η else W,HY!,sSeq ζ q2 ρ,HZ!,(ζ).Perm ops,H0!,fB b_ (mB ζ hH η) _,H1!,ζ t [L_,.lst η] M R,H2!,Sum.inr ζ,H3!,.fields ζ,H4!,ζ X.env.scope x,H5!,W.lookIn name ζ,H6!,compEnvC scope cl ζ X.env,H7!,Aq KF G ζ,H8!,bU s2 (bU s1 ζ),H9!,er.or.own_ ζ bx,Ia!,.bool_int ζ _ _,Ib!,.int_bool ζ _ _,Ic!,h.IsTupleIter ζ,Id!,Ju P w h ζ,Ie!,kput_len ζ,If!,Ka (ζ x) (ζ y),Ig!,h2.mono ζ,Ih!,hQ h' (.inr ζ) b c (kp k),Ii!,ζ cs start,Ij!,w2 Cc ζ y_,Ik!,Cp (Dr ζ),Il!,lst .non ζ,Im!,w.rp _ _ ζ,In!,(by delta fT;rw[Aw!,ζ];rfl),Io!,Ka o.key ζ,Ip!,Qv t [L_,d] ζ R,Iq!,vW c1p λx hx=>a1x (ζ hx),Ir!,bG nd χ aK_ ζ,Is!,qF w! (iZ bk! ζ (iZ bk! η vZ)),It!,Heap.ExtBut ζ η h',Iu!,Ag (Cs (Hb (Ce jn!)) ζ η) cC!,Iv!,[(_,.fn ζ),(_,.fn η)],Iw!,fG (b8q ζ χ gf_ hk ha),Ix!,ζ wh hb s1 Z H1 Q I1 q1,Iy!,W.item ζ s _ _,Iz!,(∃xs,El ζ H p xs/\n=j!),IA!,dP (ζ pos hb s1 Z H1 _ I1 η),IB!,SeqAt.EqAt ζ s,IC!,getitemInPython_of_ne ζ,ID!,Pg cd! dz ζ,IE!,hi (ζ▸hj),IF!,s.or.sub b u ζ,IG!,.int_tuple ζ _,IH!,.tuple_int ζ _,II!,s1.heap.push ζ,IJ!,kget ζ d,IK!,m1.nocell ζ,IL!,mup ζ q.1 (.dct η (q.2.2+1)),IM!,Ba C m ps.length g fo ζ,IN!,(x_).Perm ζ,IO!,Vg KF mg ζ C qual st ps,IP!,w2 bM_ p! ζ,IQ!,Gg t.B5 ζ i! η,IR!,ζ K t.B7,IS!,chl rows' ζ,IT!,Ej t M ad ζ,IU!,f2 Ar ζ (Bn η),IV!,Ii c a ζ ρ,IW!,Sa W n ζ,IX!,At ζ _ _ η M _,IY!,kget ζ o.nm,IZ!,Bz (Cp jf_) IY m ζ M R',I0!,(is_).map ζ,I1!,fG (xA χ χ hA ζ) ?_,I2!,AI M X ζ,I3!,.tup [.int (ζ:Int),q.1],I4!,gV T.V8 ζ l! η,I5!,Et P w ζ η a,I6!,SeqAt.in_tupleAt ζ pl η fh!,I7!,a1e ζ d d' v n n' r r',I8!,ζ X.nox own bg body q1,I9!,(∀ys,Paired F xs ys->ζ η s),Ja!,List.mem_of_mem_drop ζ,Jb!,[al!,qU!,L!,ψ (.int ζ)],Jc!,PySem.Txt.startswith ζ,Jd!,Nb t [.lst (svL f ζ η)] M R,Je!,List.lookup (BS_ ζ),Jf!,xw_ ζ η out S kl ca,Jg!,f1 Cf (Dh! k! ζ),Jh!,Dk! (.Call (.Attribute o ζ ay) [a] [] ai) (η fo fa),Ji!,ifT (bH.trans (Dp! ψ ζ)) ?_,Jj!,Db! MR ζ G' H',Jk!,(zD_ ζ η).trans bX!,Jl!,xw_ M' ζ .non η ae af,Jm!,Dg_ aZ ((ζ).trans (by rw[η])),Jn!,if neg then !(ζ).isSome else(η).isSome,Jo!,Ds_ be! (fC ζ),Jp!,if neg then !(ds.any λd=>Dv d ζ)else ds.any λd=>Dv d ζ,Jq!,aR (gB T) b! χ (aE v_ ζ) aD!,Jr!,Db! Jd ζ M0 G0 F0 η G' H' ac ρ',Js!,[bZ!,cn_,bX_,dF!,fY_,fX!,fY!,ψ ζ,υ,υ,υ,υ],Jt!,(DV! ζ (Obj.mapSeq λ_=>(#[]:Array Value))).get? a,Ju!,Df_ (NK ζ η) dP!,Jv!,ζ (eX I q (Dp! not η)),Jw!,Db! MR ζ G H,Jx!,Dx_ ζ "tuple",Jy!,oW_ n! ζ,Jz!,DC! ζ x v vl vu lo hi sl Q I rx hs pl pu q,JA!,.Constant ζ j pos,JB!,Dp! List.length ζ,JC!,cF ζ cj_ bQ,JD!,Df_ ζ NO,JE!,k G2 Z _ (((hz!).grow x2).upd bx h2 ζ),JF!,Ah 1 ζ (Ab η Ad),JG!,Di! (Ce ζ) η,JH!,λ_ _ _ _ _=>aY (i:=0) (Dp_ ζ) χ e!,JI!,Dp! ψ ζ,JJ!,Eb! OR ζ H Z ρ,JK!,Dx_ ζ "str",JL!,At ζ Di Bl,JM!,xw_ ζ W' dh S' ae af,JN!,DC! ζ o i v ov iv u Q I ro ri rv q,JO!,Dt_ (.inr ζ),JP!,Dl_ (μ ζ),JQ!,yJ_ Rf X.mg X.base ζ X.stack s H,JR!,#[(sO_).trans (m2 b mN! λz=>ho ζ),η],JS!,jN bW! eJ ζ η χ,JT!,DQ_ Ph ζ p s rows',JU!,Dn_ ζ (ψ η),JV!,Ds! (if ζ=τ then _ else _) s,JW!,EA_ SR ζ η G' H' Z ρ,JX!,if decide ζ=τ then _ else _,JY!,DQ_ Wn a ζ,JZ!,#[.bl ζ,H,I,χ,η],J0!,oW_ E_ ζ,J1!,.inl (.inr ζ),J2!,LZ #[χ,ax,χ,rs,n2,stay ζ],J3!,x1.trans ζ m1,J4!,Db! HU al ds ζ G1,J5!,At ζ cI! Bl,J6!,xC (Dg_ iU ζ),J7!,yJ_ Fe X.mg X.base Pi k ζ fd ps η,J8!,FB_ (sk (fO fj_) (wX ζ χ)),J9!,(λxs H Q=>∃p ys,xs=fh_/\ζ),Ka!,d8.extBut _ _ c2 (Fp! c3 ζ),Kb!,DE! ζ s.heap es.toArray fZ_,Kc!,DX! ζ PySem.F.type_dict_get,Kd!,Dw! (eB ζ η),Ke!,.ins ζ s.heap.objs.size [],Kf!,Ex_ ζ u' dx!,Kg!,Ab (wl ζ) Ad,Kh!,BS! ζ ep,Ki!,cL ζ (cL η χ),Kj!,wpAny_Name ζ hd,Kk!,Eb_ xs.length ζ,Kl!,BT! ζ bA!,Km!,BT! ζ bf_,Kn!,Dr_ ζ a6_,Ko!,OJ (LW ζ),Kp!,(by cases ζ),Kq!,DQ_ Wn i ζ,Kr!,dQ (aP h0) b_ (DQ! rc! ζ),Ks!,(bI ζ).trans ?_,Kt!,FU! (ζ K a) (λi h=>η it a i),Ku!,E3! (.ref (ζ).objs.size),Kv!,mup M ζ (.dct η e),Kw!,DM_ [t_,ψ ζ,b7_,ψ η,L!],Kx!,Eo! H (.lst ζ),Ky!,tU ζ ky hb s Z H E I ?_,Kz!,DW_ h! ζ η E s,KA!,Ii ζ (Bh η) Em,KB!,fC (.tup ζ),KC!,f2 Ak ζ ah_,KD!,BS! ζ e0,KE!,xw_ ζ [] .non [] [] iN!,KF!,Cg _ _ _ aF_ ζ,KG!,Ek ζ Au i5!,KH!,Gb X e4! (yJ_ ζ θ),KI!,Bn (Dh! ζ η),KJ!,AS! ζ η aC!,KK!,oV! Ok 4 ζ z_ (η),KL!,cK (xK χ) b1s χ T.S8 b1u (aE ζ aJ),KM!,bG nd χ e! (rL! ζ bG!),KN!,Je_ (aG (bD ζ)),KO!,bA aQ bO ζ η,KP!,Ac (Jg! (f2 Ar v! ζ)) η,KQ!,Db_ (cG Z! bM ζ η p_),KR!,bJ a6! pI ζ η l_,KS!,pB ((lj!).trans (pC (cL χ ζ) χ)),KT!,J9! ((E2_ ζ)\/(Fd η H p ys/\Q bb_ H)),KU!,ζ nd χ e! η,KV!,fJ (fW (eH ζ)),KW!,Ag (An 2 oc_) (Ag (JL! ζ) ea!),KX!,bA fK fL ζ aD,KY!,Ji_ (ζ st X.env) (SP X hb D),KZ!,pC (Jj_ (c0g χ Ay_ ζ)) χ,K0!,isTrue e X.env ζ,K1!,f1 Dm (Ac ζ oq_),K2!,Bh (f1 ζ (Ac η Af)),K3!,J0! (pyIter ζ),K4!,Jd_ (aF hQ! (aF ζ dz!)),K5!,Jo_ (D7_ ζ "join") [a],K6!,Bs.laid ζ η,K7!,yJ_ MR ζ G η,K8!,aZ (Dg_ a3e ζ) χ χ,K9!,eK (rL! ζ η),La!,cK cN eZ χ T.T4 eC ζ,Lb!,Je_ (aX o9_ (aW (bK ζ))),Lc!,f1 Dm (Ac ζ (KP! η Af)),Ld!,dO (aE ζ η),Le!,cH ζ dD ch!,Lf!,aZ ζ χ fU_,Lg!,Ac aZ! (Ac jV_ (Ac ζ Af)),Lh!,cL χ (Jj_ ζ),Li!,aM (ζ T) b! χ η,Lj!,(zD_ 3 ζ).trans η,Lk!,lW (aE ζ aJ),Ll!,Dd! ζ ch_]
def z'00:String:=z [a_,(by decide),b_,aP χ,c_,(by decide+kernel),d_,μ D,e_,Inv X hb Z H s,f_,#[χ,χ,χ,gE!,χ,gE!,gE!],g_,ds.length,h_,μ Op,i_,μ δ,j_,#[χ,?_],k_,s.heap.objs.size,l_,aS _,m_,Am 0,n_,Ae->ι D,o_,(by omega),p_,λ_ _=>χ,q_,μ Int,r_,Fl->Mh->ν,s_,μ V,t_,ψ bz!,u_,.bl τ,v_,aA 0,w_,i+1,x_,arrOf ab,y_,wl D_,z_,["thing"],A_,#[_,χ],B_,arrOf st,C_,.bl θ,D_,Aa 2,E_,model P w,F_,cB 0,G_,μ Str,H_,#[[c].toArray],I_,aA 1,J_,As t M yy a ta wa Wt out S kl ca,K_,Bb G H,L_,.fn a,M_,ψ i,N_,.inl χ,O_,.int 0,P_,D->Mh->ν,Q_,(·.2),R_,Cb 3,S_,l.length,T_,.str k,U_,Str->Dl_ Value,V_,.ref a,W_,s2.heap.objs.size,X_,Value->Shared->ν,Y_,LZ ?_,Z_,k_+1,Aa_,cH v_ ch! dD,Ab_,if F!<=big then ψ (D.int (F!:δ))else υ,Ac_,#[[],χ,χ],Ad_,[υ,ψ d4_,ψ qb_],Ae_,dictSet a u v,Af_,es.eraseIdx j,Ag_,sSeq BU (sSeq dq14 dq15),Ah_,List.mem_of_mem_take h,Ai_,λ_ _ _ _ _=>Ai!,Aj_,Ei its bZ_ υ++Ei its υ bZ_,Ak_,Ei its υ bZ_,Al_,kget h1 d=ψ x,Am_,iD a8d c5b χ T.U0 xM aL_,An_,Nat.ble ds.length 1000=τ,Ao_,MM (Nat.le_of_ble_eq_true hl),Ap_,Gs P w KF G H a c,Aq_,#[λa b s e=>?_,λb=>Aq!],Ar_,(by rw[hM];simp),As_,#[?_,Ig! x.g ?_],At_,("cut"==k||"set"==k),Au_,D->Mh->ν,Av_,aB (gA T.U7 χ),Aw_,CA X.prog X.w X.K own f,Ax_,∀Z G H Q ρ M R,Jl_ G->Hi_ ft->(∀d M' G' H',R d M'->XM M G H M' G' H'->MR X.prog X.w X.K M' G' H'->Q d H')->t Z H Q,Ay_,a6e χ χ e1,Az_,⟨_,χ,k _ M' G' H' r' x' m'⟩,AA_,k _ M1 G1 H1 r1 x1 m1,AB_,k _ M1 _ G1 H1 r1 x1 m1 Aq.bl,AC_,x1.sub.free hp,AD_,⟨Y,Ig! (Bb.refl G) (bB J)⟩,AE_,fin _ (DC_ (v7 c_ c_ c_ c_)),AF_,∀a9 s',Ju_ lm_->yJ_ Gs G lm_ a AF!->Q () s',AG_,a∈W.its/\Ge W binn/\¬JY! binn,AH_,λ_ _ _ _ _=>J6_ (show(aY!:μ Str).Nodup by decide+kernel),AI_,(pC_).map et_,AJ_,D.tup cq_∉pre,AK_,Jg W lp_ rows',AL_,(pb!).resolve_right e,AM_,#[o,χ,h ho],AN_,Builtin.Dict.keyAndDefault,AO_,cU fM_ eJ l! r! χ,AP_,λv hv q hq=>?_,AQ_,aC (a2c kH_ aw!) aK,AR_,aM (a1o T) b! χ (aC an! AQ_),AS_,ft ρ=ψ θ,AT_,aM (pZ T) b! χ kG_,AU_,Ab hR_ (Dt! (wl f2) (wl f3)),AV_,aM (pZ T) b! χ (aC h9_ aK),AX_,k="undo"\/k="redo",AY_,bF (sc:=Aj Px) χ c_,AZ_,.tup [.int o.tm,.int o.h],A0_,∀a,k' (f a)=k a,A1_,Bs.laid sub hl,A2_,mup M2 q.1 (.lst (q.2++[v])),A3_,dC ha.ok eU bp,A4_,Str.ofString "undo"==BS_ "undo",A5_,Str.ofString "redo"==BS_ "redo",A6_,(show A5_=τ by decide+kernel),A7_,.Attribute o "get" ay,A8_,.nx [ad!,as!,y'],A9_,Oq .str os σ,Ba_,(f5!).grow x2 m2,Bb_,((FQ! a9_).bind λx=>Ak x bv_)=_,Bc_,#[yv,q2.mono x3.g,ry],Bd_,(by delta Oq;rw[hu];exact Y),Be_,λM' bm y' Y h2=>hR M' bm y' Bd_ h2,Bf_,(by rw[bz.length_eq];simp;omega),Bg_,dE s.heap.objs.size [] 0,Bh_,(λx=>by simp),Bi_,μ ar_->Mh->ν,Bj_,(qH!).getD .non,Bk_,[ie!,υ,υ,υ,υ],Bl_,(by rw[MH,QS];omega),Bm_,λj hj p e=>?_,Bn_,λb o e J=>?_,Bo_,MS X own bg st q1,Bp_,[(root,.fn r1),(binn,.fn r2)],Bq_,([.hid,.wri,.nums,.dir θ,.row binn τ,.fol binn τ,.pre binn τ,.row root τ,.fol root τ,.pre root τ,.dir τ,.par,.ob]:μ Tk),Br_,x=root\/x=binn,Bs_,.fol binn τ,Bt_,.obj C (Hs x y fs),Bu_,mup M2 p Bt_,Bv_,(Bv!).grow x2 m2,Bw_,.write m3 x3.sub hM,Bx_,Vn X own own body q1,By_,#[λ_ h=>lD!,QC,λ_ h=>lD!,gq!],Bz_,(by show 2<100;decide),BA_,(∀x∈os,x.nm∉pre),BB_,h5 q (Eu! pi) v9,BC_,λy hy z=>?_,BD_,#[nr,dq.mr,au!],BE_,(∃pre,Tj W' pre),BF_,hp.mem_iff.mp hx,BG_,(ih!).nodup_iff.mpr nn,BH_,CA X.prog X.w X.K [] ft,BI_,∀cl C av bf fp,ME cd! [] fm fe,BJ_,#[qe.or.cap NL.length ix og,m1,au!],BK_,Ab f1 (Ab f2 Ad),BL_,#[G,ρ,M,_,st,e',BL!],BM_,Pu fa ρ M aH_,BN_,Yq X.prog X.w X.K X.mg X.base k x C ps g,BO_,mup M p (J3_ i),BP_,((j+1:δ):Int),BT_,LZ (LW (RK td tf ?_)),BU_,LZ (ET_ XC hT),BV_,.int (cZ_:δ),BW_,Br σ u.2 f4_,BX_,s0.heap.objs.size,BY_,(∃ah,IsEnum h e it i ah),BZ_,#[_,s1,hi_],B0_,kp c o hc eo,B1_,(by show 2<=sizeLine;rw[OP];decide),B2_,bB (λz:b=T=>tu (Do! z J)),B3_,W.its.map λi=>(i,.fn (qa i)),B4_,.Name "enumerate" p,B5_,.inr (.inr #[i,hi,χ]),B6_,I1.hok.fresh (ig b J),B7_,λi h ⟨o,ho,_,hd⟩=>#[o,ho,λv z=>by rw[hd]at z;cases z],B8_,IntsAre k8.toList ms,B9_,(match rs[k]? with|some q=>!decide (q.2=p)|none=>θ),Ca_,.bl (!decide ((f9_).2=p)),Cb_,.bl (if neg then !(b==c)else b==c),Cc_,((k+1:δ):Int),Cd_,((List.range' k m)).map λj=>D.int qS!,Ce_,(by rw[cond,MU z]),Cf_,.Call (D7_ bl! "insert") [ek,e] [] ai,Cg_,λ_ K hK=>hK,Ch_,.Call (D7_ bl! "extend") [e] [] ai,Ci_,.inl #[χ,λj hj=>by omega],Cj_,.lst ((eE_).drop a),Ck_,.lst ((eE_).take a++[Bf bU!]),Cl_,.BinOp pl_ .Mult b pos,Cm_,b3d c0z (rR ha.ok) J.ok,Cn_,upd H1 p ei_,Co_,#[p,n,vs,χ,χ,yd,o_,o_,by rw[<-aL q1];exact fN hl,pQ_],Cp_,mirror xs i j (dX_ / 2),Cq_,ys[k2]?=ψ y,Cr_,#[ct!,χ,io!,ra!],Cs_,λi j h3 h4=>?_,Ct_,(λi h4 h5=>by rw[show i=x+1 - 1 by omega]),Cu_,Cp (Vl "put"),Cv_,Cp (Vl "drop"),Cw_,h m st b h3 h4 u,Cx_,λi j h5 h6=>?_,Cy_,Ex (Cp ft) fu,Cz_,b=θ->Hi_ q2,CA_,(by rw[nK,MM ha]),CB_,u.map λi=>eH!,CC_,l.any λd=>Dv d x,CD_,(υ,a0.size),CE_,λ_ _ z=>z,CF_,[U!,al!,ψ fV_,lV_,o4,o5,o6,o7,o8,o9],CG_,(∀x∈xs,∀(R:β->Shared->ν),(∀y,F x y->R y s)->DW_ n! (f x) R E s),CH_,aP (Jy_ d2l),CI_,λv hv R hR=>?_,CJ_,ψ (.tup [dC_,a0,b,tx]),CK_,ys.toArray.filterMap id,CL_,#[[s.cps.toList.getD k 0].toArray],CM_,l.filter λx=>Ka x p,CN_,p.mem_iff.mpr hq,CO_,a∈W.its\/a=root,CP_,Br ct_ aq_ eI!,CQ_,Y.mem_iff.mp (QL cm),CR_,Il lY_ aq_ e2,CS_,λb=>O b\/b=q,CT_,(_,Dd.dct (I0! _) _),CU_,Paired dM! kd ku,CV_,∀H':Hp,H' c=υ->D6! H' c,CW_,#[same.rows,same.its,kl_],CX_,ksk_tail a θ e1 (.ref c) st,CY_,Obj.mapSeq λ_=>(#[]:Array Value),CZ_,[U!,L!,ψ o.d,υ,υ,υ,υ,υ,υ,υ],C0_,λx y F Q hx hy hq=>?_,C1_,(by rw[bj];omega),C2_,#[a1,a2,a3],C3_,∀x,(Fk! wd kb)\/∃k:Str,FP! wd=ψ T_/\FP! kb=ψ f4_,C4_,(by rw[b3,hd]),C5_,[ad!,U!,as!,ψ x.v],C6_,WU ha χ ?_,C7_,seqEpoch_at t9 χ ?_,C8_,OK _ _ (λz=>J (by rw[z];exact NB.mpr χ)),C9_,(by simpa using c'),AW_,Mp a ta wa M kl ca ζ,BQ_,wpAny h! X.A ζ,BR_,Str.ofString ζ==Str.ofString η,BS_,Str.ofString ζ,Da_,ψ (.int ζ),Db_,bG nd χ e! ζ,Dc_,X.env.cells.lookup ζ,Dd_,Bool.noConfusion ζ,De_,attributeBase ζ η X.env,Df_,ξ ζ,Dg_,ζ χ χ η,Dh_,.fields [.none,.bool θ,.ref k_,rawInt ζ,.none,.none].toArray,Di_,(by simpa using ζ),Dj_,(ζ).map d!,Dk_,List.replicate ζ η,Dl_,ι ζ,Dm_,Bm ζ 2 (η t),Dn_,swapsWith ζ η pos.line X.env,Do_,λhr _=>(aW (bK ζ)),Dp_,(show(ζ:μ Str).Nodup by decide+kernel),Dq_,eval ζ X.env,Dr_,nT ζ n n' a! r r' ru a8 a6_,Ds_,fT (f2 Av ζ η),Dt_,.inr (.inr ζ),Du_,h'.get? ζ,Dv_,concat_meets jo_ jp! noFill_tuple_add seq_tuple_add WC VU (VR ζ _),Dw_,ζ (.bl (decide η)),Dx_,ψ (ζ==η),Dy_,ζ η s.heap.objs.size,Dz_,Fr M O M' ζ,DA_,False.elim ζ,DB_,ψ (.tup ζ),DC_,(aG_).trans ((aG_).trans ((aG_).trans ((lk_).trans ζ))),DD_,λ_ _ _ _ _=>ζ,DE_,XM M G H ζ,DF_,.of_refs lq (ζ I q q' rr b6 a! λus us' rv a7=>lU I xs ys A.in1 vs ws us us' n n' fI_ rr b6 rv a7),DG_,.seq its.toArray ζ,DH_,ζ X own bg,DI_,aW (bK (dO (aE ci! ζ))),DJ_,ζ hb s1 Z H1 η I1 q1,DK_,Al.cons ζ Al.nil,DL_,(∀d M' v G' H',R d M'->XM M G H M' G' H'->MR X.prog X.w X.K M' G' H'->ζ X.K G' d v->Q v H'),DM_,ψ (.nx ζ),DN_,wpS n! A E s ζ Q st,DO_,At ζ q1 q2 ρ M R,DP_,Bs ζ η G' H',DQ_,ζ W.rows,DR_,EP X hb Z Q ζ,DS_,if ζ<=big then Ki_ D.lst g5! else υ,DT_,Cn K t.B6 ζ,DU_,cD (ζ T) b! l! η,DV_,h'.IsTupleIter ζ,DW_,wpAny ζ A,DX_,Paired ζ,DY_,(ζ).all bh!,DZ_,R (.nx ζ),D0_,fP (wB av0 ax1 ax2 ax3 dG_ ζ),D1_,K.lookup ζ,D2_,IsZip ζ z TI TO,D3_,Bk t ζ o O,D4_,#[by rintro ζ hb s Z H Q I ⟨G,ρ,d,er,e,k⟩;exact h ζ hb s Z H Q I oL!],D5_,R .non ζ,D6_,Al KF H ζ,D7_,.Attribute ζ η ay,D8_,oS SA PySem.F.slot_list_append PySem.F.type_list_append zM ζ η cy cz c8 bp b9,D9_,ψ (.int ζ tk),Ea_,ψ (wS ζ),Eb_,HT.sIx xs.length ζ,Ec_,Ii (Qy i4_ (fT (f2 AL cz! ζ))) df! Em,Ed_,λhr nd=>(aF zK_ (aF (cF (nA (eK (cD (ζ T) b! G! aw_))) bn_ bQ) fR!)),Ee_,ζ X own η ft,Ef_,Pr (ζ t) η M,Eg_,scope.names.lookup ζ,Eh_,ζ X own own,Ei_,(λx y H Q=>FQ ζ θ x y H Q\/∃i j,x=.str i/\y=.str j/\Q iY! H),Ej_,Builtin.Str.strSliceIndices dZ! ζ 1,Ek_,s.cps.toList.zipIdx.map ζ,El_,λ_ _ _ _ _=>nE ζ,Em_,((lL!).filter λd=>match d with|.tup [ζ,_]=>decide (ζ=x)|_=>θ),En_,dP c7_ λv s1 ⟨x,H1,I1,r1,q1⟩=>ζ hb s1 Z H1 x v Q I1 r1 q1,Eo_,envOfC ζ η s.heap.objs.size,Ep_,a0n db cx cf cap calm (hg cl) (hi cl) (he cl) I2 ζ bt f2 hw ?_,Eq_,ζ X.prog X.w X.K own η,Er_,.inr (.inl ζ),Es_,ψ (ψ ζ),Et_,kget h1 ζ,Eu_,rk r x_ ζ,Ev_,ψ (D.bl ζ),Ew_,Inv X hb ac H' ζ,Ex_,SeqAt.RcAt A s ζ,Ey_,dP ζ λus s1 ⟨vs,H1,I1,r1,v,xs,M1,G1,q1,t1,x1,m1,rr⟩=>?_,Ez_,swapsWithSole ζ e pos.line X.env,EA_,ζ KF own,EB_,ζ p1.isList p2.isList η hu,EC_,.Assign ζ η pos,ED_,cG Z! bM ζ η p_,EE_,Bm ζ 1 (η t),EF_,dM b_ hA.ob ζ _ ?_,EG_,(∃xs,ζ η H p xs/\k=! d3!),EH_,W.keepIn ζ,EI_,RW t M0 ζ r f p,EJ_,cX (sU (pX gt_ b_ b_ ht χ (by rw[iB,ζ c];rfl)) hl) hK,EK_,I.list ζ,EL_,(ζ).all bg!,EM_,Builtin.Str.strKind ζ,EN_,h'.IsListIter ζ l,EO_,Dk z_ 1 (ζ),EP_,a8f χ χ χ ζ,EQ_,#[.ref x!,upd H1 s1.heap.objs.size ζ,tX!,χ,q _ hf],ER_,ζ t η yy a S Wt X,ES_,.fields [ζ,vu,.none].toArray,ET_,LW (ζ η ?_),EU_,ζ X own tg,EV_,ζ i t q hu _ _ _ _ h,EW_,Paired.mapP ζ λ_ _ z=>z.mono η,EX_,aO aH aN ζ η p_,EY_,wpAny_Try_except (PH ζ zX! λ_ _ z=>False.elim z),EZ_,#[ο,hR a y (by rw[show ζ=k by omega];exact ha)],E0_,ζ t b vs.toArray ws.toArray n n2 dd ll sl jo jp_,E1_,#[#[],by rw[ζ,η];simp],E2_,(El ζ H p ys/\∀l,H l=υ->Q fi! (upd H l jE!)),E3_,ζ (decide η),E4_,s.cps.toList.drop ζ,E5_,(by obtain z|z:=uD ζ;rw[z];exact MB;exact LY _ z),E6_,CY W M w O ζ η R,E7_,wpAny_comprehension_free χ ζ cf.eq db kj ws!,E8_,Bg (Ba t.B6 ζ 4 (η t) i! gU!),E9_,Paired F ζ,Fa_,LW (ζ ?_),Fb_,Q .non (upd H l (.lst ζ)),Fc_,Al X.K H ζ vs,Fd_,failedOf ζ,Fe_,LW (he _ (Array.getElem_mem ζ) prog w _ _ ?_),Ff_,f2 Ar ζ D!,Fg_,Yp ζ ta kl ca b,Fh_,s.heap.FunFrames ζ,Fi_,closOf env.cells ζ,Fj_,PV (wpS_reverse ζ),Fk_,(λx y H Q=>∃i j,x=.str i/\y=.str j/\Q ζ H),Fl_,(∀(s:yY!) (u:yL!),BindsTo s fd jP! [(ζ,u)]),Fm_,NJ.mp (p.nodup_iff.mp ζ),Fn_,iF χ ((m2 a aq ζ).trans hA.ob) lD_ hP5 ?_,Fo_,(∀b∈fp,∀o,h.get? b=ψ o->ζ b=ψ o),Fp_,PV (wpS_modify (RI (.inr #[MZ 1,χ,fin ζ η]))),Fq_,Ag ζ _ η M _,Fr_,f2 Ak D_ ζ [am!,bA_,ψ η],Fs_,Un fs ex H ζ h,Ft_,wpAny_loadName_local I.ok.kind hk hn hm ζ,Fu_,#[x!,[x!],_,_,H1,χ,sX_,ζ a _,dV!,bt!,q],Fv_,I1.hok.fresh ζ,Fw_,ζ _ _ _ _,Fx_,(∀p∈names,p.2=.free->∃c,ζ p.1=ψ c),Fy_,ζ I q q' rr b6 a!,Fz_,#[v',H3,I',a8,k _ M3 v' G3 H3 r3 ζ m3 r'],FA_,Cp (fT ζ),FB_,gK χ ζ,FC_,kget ζ x.nm,FD_,gR (fA b_ (h.nob ζ) b_ λK hK=>η h.out hk wB_),FE_,wpAny_loadName_cell I.ok.kind hk hc cx ζ,FF_,(by rw[ζ];rfl),FG_,(ζ:μ Expr).length+(dn!).length+ed_<30,FH_,Builtin.Str.occurrences z y 0 z.length ζ,FI_,Hi t ζ r f p,FJ_,(ζ).map Op.v,FK_,(by rw[MN,<-hl];exact ζ),FL_,ζ kind_sorted plain_sorted entry_sorted,FM_,letTemporaryGo value ζ r>>=λ_=>pure r,FN_,#[[ζ].toArray],FO_,PySem.intText? ζ,FP_,sSeq ζ (Bh η),FQ_,#[wt,wn,qa,ζ,hA.O],FR_,Bt.cons (j:=ζ) η,FS_,X.base.get? ζ,FT_,.inl (.inl ζ),FU_,rule i j t t' s _ _ ζ,FV_,MD.mp (I2.stkSub b ζ),FW_,Gw ks k ζ,FX_,mup M p ζ,FY_,rk r xs ζ,FZ_,wpAny _ A.in1 ζ _ _ _,F0_,Bm ζ 3 (η t),F1_,Fr M pI_ M' (Yo bd ζ),F2_,dP iK_ λv s1 ⟨x,H1,I1,r1,q1⟩=>ζ,F3_,c0c hp hc ax.ok ζ j0 hs hb s Z H E I,F4_,MY (λJ=>by rw[(lC!).1]at ζ;rcases ζ),F5_,Je (wT (Ba t.B6 "has_item" 2 (Bx t) ζ η)),F6_,.cons ζ ih,F7_,ζ K H a xs,F8_,eval ζ env,F9_,backTo ai ζ,Ga_,Rt ζ λi j=>.int η,Gb_,AH KF ζ η st aj fd,Gc_,b1c I #[ζ,r1,lu] n.1,Gd_,SB kd a0 ζ,Ge_,QQ _ (z▸NN ζ),Gf_,Gg t.B6 ζ i! Gi,Gg_,Dp K t.B6 ζ,Gh_,gN ζ χ,Gi_,dj q (by rw[e1];exact ζ _ hq) q' bc,Gj_,b0v hl jk hp hs R hR m W! ζ _ a! a!,Gk_,ζ t d2_ M R,Gl_,Pp v! ee_ [t_,ψ ζ,b7_,υ,υ],Gm_,gV T.V9 ζ l! gD,Gn_,sIx ag.size ζ η,Go_,Builtin.Str.partsBetween ζ pZ_ aA_,Gp_,codeAny n! A.in1 (.call (.builtin ζ) η),Gq_,Ah ζ g η ρ M K,Gr_,I.cell ζ c e,Gs_,ζ x y H Q,Gt_,Gr KF (ζ KF),Gu_,Ck X.K G ζ o,Gv_,ζ keys j5 X.env pos,Gw_,XM M1 G1 ζ M' G' H',Gx_,subAt ζ H_ i,Gy_,Hi t ζ (ad fF_) (ad cP!) (ad cP_),Gz_,rest ζ O W pre pG! w qP_ hr .refl,GA_,hR M' _ _ ζ _ ae af,GB_,(λo ho K hK=>by rw[dA ζ];exact hK),GC_,aG (bD ζ),GD_,(NA.mp hp).elim (λz=>I.pin p ζ),GE_,X.env.kindOf ζ,GF_,Call_ (iP I hg hm ζ η),GG_,BindsTo s fd ζ,GH_,ζ kindOf jj! m,GI_,#[χ,I.turned ζ f0 f1 f3 f4 f5],GJ_,Up r ζ a0.size,GK_,seqObj "list" ζ η,GL_,if z=a then ψ x else Sz x ζ z,GM_,((ζ).txt i).map η,GN_,λx hx=>ζ x η,GO_,dU w! ζ r! η,GP_,λb o _ J _ e n=>ζ b o e n J c!,GQ_,ζ a! I3 m3 x3.sub gh Bc_ e3 Be!,GR_,Array.perm_iff_toList_perm.mp ζ,GS_,Gh t.B5 2 (Jk t) ζ,GT_,c6m (oZ (isn hA (PP.mpr ζ)) ?_),GU_,(c1y (mx χ ζ) a_).trans (by rw[η]),GV_,Fd X.K H ζ,GW_,ζ i hi p e,GX_,RV X H s ζ,GY_,ζ (η).nox [] [] bP_ q,GZ_,#[ζ,q',by rw[<-aL η,hi];exact MZ _],G0_,UY ζ e jg η c!,G1_,PV (wpS_lift (QP #[χ,PV ζ])),G2_,if ζ=[]then k.map D.int else ψ η,G3_,OM VB ζ F.entry_enumerate_next,G4_,Ag (Cs (Kp_ b8_) (Cb 1) ζ),G5_,f2 Ak ζ M!,G6_,ζ χ _ ?_,G7_,ih bm! _ ae af M' _ _ m3_ az ζ,G8_,.seq ζ n,G9_,AllBare ζ,Ha_,PI X tg ζ,Hb_,upd H ζ (.tup η),Hc_,I2.cell x c ζ,Hd_,Al KF G' ζ ys,He_,b7.lookup ζ,Hf_,IsPair ζ TO x,Hg_,Ju P w s.heap ζ v,Hh_,Ck KF ζ d u,Hi_,ζ ρ M R,Hj_,Txt.join ζ ys,Hk_,pendingOf ζ,Hl_,.Call (.Name ζ p),Hm_,Bq ζ [] (EG v! k!) ja! A! ja_,Hn_,(ζ).map D.int,Ho_,f2 Ak ζ aW_,Hp_,f1 ζ bd_,Hq_,hA.cl h ζ,Hr_,HQ a ta M kl ca ζ,Hs_,hA.keep ζ,Ht_,Hd t M' ζ a,Hu_,gP (tO χ ζ),Hv_,ζ θ M o.v eW_,Hw_,Ee [.str (mk (ζ).cps.toList)],Hx_,iG χ (show ζ<=40 by decide),Hy_,ζ (gO!).kindOf di_ λ_=>υ,Hz_,ζ X.env.cells scope.names [],HA_,Obj.isFreed_of_dict (ζ hd _),HB_,hr (by rw[z];exact(hA.O ζ).mpr η),HC_,#[_,ζ,χ,η,χ],HD_,Aq.lst (El.of ζ),HE_,.int_int ζ _ _ _,HF_,.str_int ζ _ _ _,HG_,ζ ho f9 ha.ok J.ok hc.ok hm,HH_,vi.grow Bw_ (m3.write hM ζ),HI_,Oi (Dx (wl gF_) ζ (Dx jf! η Mq)),HJ_,ad (.row ζ τ),HK_,HK C x fo ρ y ζ,HL_,Be ζ [0] (Ca cE_) m_ uZ_ i!,HM_,ζ τ M o.v ii_,HN_,ζ _ o (λz=>(η _ z).2.1 χ) ho,HO_,(show Et P w H h a ζ from η a _ e),HP_,LW (LW (m:=jw!) (QI ζ u6)),HQ_,Builtin.List.listTooLong ζ,HR_,Mo X scope cl C ζ s2 H2 fp,HS_,(I.hok ζ o e).stay zi! zi_,HT_,Dq (Dl ζ η),HU_,(bL ζ).mem_iff.mp η,HV_,(by rw[hS];exact ζ η),HW_,Ej t M' bd ζ,HX_,λz=>ξ ζ η,HY_,ζ Op.key,HZ_,Pe M [.fn ζ],H0_,Cs ζ R_ (η t),H1_,Bq ζ [] kf! m_ (fT oU_) k!,H2_,.dict ζ ep,H3_,(ζ).get? b,H4_,T.obj _ _ ζ b J,H5_,(bO_).In ζ,H6_,Fd KF H' ζ,H7_,k _ _ _ ζ,H8_,ds.drop ζ,H9_,s.heap.IsList ζ,Ia_,.bool_str ζ _ _,Ib_,.str_bool ζ _ _,Ic_,ζ sub rx ry e k,Id_,LZ (LZ ζ),Ie_,#[χ,χ,ζ],If_,Gz h ζ a b,Ig_,ζ χ χ,Ih_,Ij ζ xs w_,Ii_,#[st.1,ζ,χ,st.2,p.isList],Ij_,Ba t.B5 "have" 2 gW! i! ζ,Ik_,Ay (Ba t.B6 ζ 2 (η t) jN_ at!),Il_,ζ xs.reverse kp,Im_,Cu ζ υ,In_,(∀x,kget ez x≠υ↔ζ),Io_,ζ hL wi a!,Ip_,gR (cS (ρ:=ζ) dU! gu! (η hA)),Iq_,b0w w o ζ,Ir_,aG (cE ζ),Is_,YF ζ I.kIn o2_ e fA! fin,It_,mup M c (.dct ζ η),Iu_,(MD.mp h).resolve_left ζ,Iv_,#[_,τ,χ,χ,λ_=>ζ],Iw_,aF (bG (i:=ζ) jZ.nd χ e! η),Ix_,Vc X body ζ,Iy_,ζ a! (by rw[η i a!];exact q),Iz_,(show∃t,u=ζ b t from r),IA_,CE outer ζ w H s Q u s',IB_,subscripted ζ θ o i,IC_,au.heap.get? ζ,ID_,ζ wt_ η (OB (hk!).1) wu_ wv!,IE_,two hg er ζ,IF_,.bool_bool ζ _,IG_,.str_tuple ζ _,IH_,.tuple_str ζ _,II_,KF.lookup ζ,IJ_,c6a hg st ζ,IK_,ζ d M' v G' H',IL_,st.mr.nocell ζ,IM_,Int.le_of_lt ζ,IN_,Up (λp=>Kf ζ (Mz η p.1)) x_,IO_,ζ Rg Rg i8! k! (fC nj!),IP_,w2 Cc ζ ai_,IQ_,Be 1 [] (Ca ζ) m_ cD! (wl η),IR_,Dp K t.B5 ζ,IS_,.obj t.B6 ζ,IT_,¬Wn W.rows i x->R' ζ M,IU_,ζ ρ M K,IV_,if ζ+η<=big then _ else υ,IW_,ζ x hx q hq,IX_,ζ a8! id_ υ [] 0 eC!,IY_,f2 Bp ζ bS!,IZ_,f2 Av ζ v! ct!,I0_,hs ζ o.h,I1_,dQ ζ b_ η _ ?_,I2_,Cw [.tup ζ],I3_,ζ M2 jl jm y2 y3 h2 nP_,I4_,Ba t.B7 "holds" 2 (Fn t) ζ η,I5_,Gb X e4! (ζ X.K θ),I6_,W.kitOne KF (JQ ζ) cD_,I7_,Nat.le_antisymm st.1 ζ,I8_,m.cell ζ η e,I9_,(by rw[e1,e2];exact ζ m),Ja_,L.row z1 z2 z3 n1 n2 ζ,Jb_,(fS ζ hk).trans η,Jc_,Gx t [L_,wS ζ,ev_] M R,Jd_,λhr nd=>ζ,Je_,λhr _=>ζ,Jf_,Db! Fe mg base Pi k aj fd ps ζ,Jg_,aR hB! b! χ (aE ζ hB_) aD!,Jh_,AW_ ζ ae af,Ji_,BQ_ ζ η X.xe s,Jj_,cL χ (cL ζ χ),Jk_,xw_ M' [] .non ζ ae af,Jl_,yJ_ Th own ζ H Z ρ M,Jm_,(Dw! ζ).trans η,Jn_,Dx_ ζ "NoneType",Jo_,.Call ζ η [] ai,Jp_,#[_,K6! g2 hT,eO (g2.free hT) (Al.cons ?_ (DK_ ζ))],Jq_,aG (Db_ (aB (bA aQ bO ζ aD))),Jr_,Ah 2 ζ (Dt! i! η),Js_,(bI ζ).trans η,Jt_,Dg! (cD (ζ T) b! η aw_),Ju_,oV_ ζ s',Jv_,DE_ ζ G' H',Jw_,fQ hC_ (DI_ (aE bD_ ζ)) dG,Jx_,Dp! Array.toList ζ,Jy_,Dg_ aZ ζ,Jz_,aO aH aN ζ η p_,JA_,BQ_ ζ Q E s,JB_,De_ o ζ b6!,JC_,Dx_ ζ "list",JD_,oW_ h! ζ,JE_,.nx (ρ.set i ζ),JF_,MY (AT! ζ NO),JG_,Ev_ (PySem.Txt.startswith (mk ζ) cH!),JH_,oZ (λK hK=>jE (b:=τ) χ _ ζ) ?_,JI_,.Subscript ζ η pos,JJ_,Dx_ ζ "int",JK_,mup M ζ b5_,JL_,DQ_ Ph ζ fR_ b rows',JM_,#[G,ρ,x,er,e1,λv G1 H1 s1 r1=>ζ],JN_,sM! ((ζ).map η),JO_,backTo pos ζ,JP_,Eg! IsTup ζ η,JQ_,DZ_ ζ M',JR_,FB_ (sk χ (ζ χ η)),JS_,Ds_ a1! (fC ζ),JT_,Bh (Bn (Ac a1! ζ)),JU_,oV! Fe ζ η f fd ps sp,JV_,List.foldl n4_ #[] (Dk_ ζ an_),JW_,#[ζ,χ,LZ η],JX_,Dw_ ψ ζ,JY_,oV! Ih 10 ζ a0_ (η t),JZ_,ζ hb s Z H η I h,J0_,LW (LW ζ),J1_,EV! (YJ _ _) ζ ?_,J2_,(ζ).getD .non,J3_,.lst (xs.set ζ v),J4_,Ii ζ df! Em,J5_,fP (iU χ χ ζ),J6_,aY ζ χ e!,J7_,Fr! xQ (a3p eL_ ζ η),J8_,DH! ζ "__init__",J9_,De! ζ (fC η),Ka_,(backTo ai (Dm! ζ)).all bg!,Kb_,yJ_ Gs G lr! a (.dct ζ cn!),Kc_,iP I hg hm boot_enumerate ζ,Kd_,aG (cE (rL! a5w (aC l! ζ))),Ke_,EA_ OR ζ η Z ρ,Kf_,Ec! ζ u' lr_,Kg_,Be 1 [1] oy! m_ ζ η,Kh_,Df_ e.symm ζ,Ki_,Option.map ζ,Kj_,DC! ζ x y v u Q I rx ry q,Kk_,BT! ζ bj_,Kl_,BT! ζ aW!,Km_,BT! ζ a0!,Kn_,D2_ ζ .ellipsis,Ko_,Dy_ Nn lz_ [] ζ,Kp_,Hb (Ez ζ),Kq_,Dg_ keep ζ,Kr_,Gh_ (sL #[ζ,η,χ,Y,h2,h3,h4]),Ks_,w2 Uu (Er! ζ eb!) (Ah 2 η oA!),Kt_,upd H s.heap.objs.size ζ,Ku_,#[_,ζ,χ],Kv_,fH χ (b6a (Gh_ ah!) ζ),Kw_,EY! ζ ns,Kx_,EU_ ζ a (η fa),Ky_,yJ_ ζ M' G' H',Kz_,DX_ ζ ds us,KA_,Ab ζ (Ab η Ad),KB_,NE (h.mem.mpr (.inr ζ)),KC_,IX_ ζ η Bf! Bf_ mup_same Bg!,KD_,DL! (An i ζ) q,KE_,AW_ ζ kl ca,KF_,D1! (Ei _ ζ η),KG_,DC! ζ Q I η,KH_,Bh (Iv ζ η),KI_,λρ=>((ζ) ρ).bind AT,KJ_,DI! (iO ζ η),KK_,bA aQ bO ζ η,KL_,aC l! (aC ζ aK),KM_,aR (ζ T) b! χ η aD!,KN_,iD kK xJ χ T.U1 iN (aE ζ aJ),KO_,aG (cE (DU_ ζ η)),KP_,cF (nA (eK ζ)) (aG a1z) bQ,KQ_,bI (eR ζ),KR_,cU a6! mQ ζ η l_,KS_,cE (cD (gS T) b! (ED_ fO_ ζ) pI!),KT_,(zD_ 1 ζ).trans η,KU_,cE (rL! ζ η),KV_,cU ag! fP_ ζ η l_,KW_,mup M ζ (.lst η),KX_,bJ ag! bZ ζ η l_,KY_,JD! (show θ=τ from ζ),KZ_,lA hA a! λM' ae af az ζ=>?_,K0_,fQ (qZ ζ) fD! dG,K1_,call (.builtin ζ) η,K2_,upd H a ζ,K3_,DL! ζ q2,K4_,aC ζ (aC η aK),K5_,j4.extBut _ _ ζ η,K6_,Dk! (Jo_ ζ O!) (η fo fa fb),K7_,Ah 3 (ζ t) η,K8_,dO (DR! ζ η),K9_,cU fM_ eJ ζ η χ,La_,λ_ _ _ _ _=>(Dd! ζ aL_),Lb_,cF ζ bn_ bQ,Lc_,(zD_ 2 ζ).trans η,Ld_,aW (bK ζ),Le_,aG (bD ζ),Lf_,λ_ _ _ _ _=>(rL! ζ (aC r! η)),Lg_,wT (w2 Uu ζ η),Lh_,aB (gJ ag! bZ ζ aT l_),Li_,KR_ (rL! ζ fU!) (rL! η py_),Lj_,Db_ (aB ζ),Lk_,cG Z! bM ζ η p_,Ll_,bA rS rT ζ η,ψ,some,χ,rfl,υ,none,τ,true,θ,false,ι,Option,ν,Prop,μ,List,ξ,absurd,ο,trivial,δ,Nat]
def z'a:String:=z [aa!,Aa 4,ab!,ys.length,ac!,.rt d,ad!,ψ x1,ae!,.int i,af!,ps.length,ag!,bY w!,ah!,(by kernel_rfl),ai!,"name",aj!,f ρ,ak!,ME X own a fa,al!,ψ x0,am!,ψ av_,an!,aB aD_,ao!,X.N[i]?=ψ x,ap!,starEach aI! X.env=e8_::Dm! es,aq!,A.units<cLine,ar!,.int n,as!,ψ B!,at!,Ab p! Ad,au!,λi hi=>(by exact(ML hi).elim),av!,aA 2,aw!,aB aD,ax!,os.length,ay!,h1.length,az!,X.calm=τ,aA!,pre++dW_,aB!,[K!,ai!],aC!,[E!,bw!],aD!,aI T!,aE!,Addr->ν,aF!,.int h,aG!,Co x=ψ k,aH!,rs.length,aI!,(e::es),aJ!,intC i,aK!,μ D,aL!,Bs.refl sub,aM!,aO aH aN v_ aD p_,aN!,W.txt a,aO!,.tup xs,aP!,EP X hb Z Q,aQ!,cs.length,aR!,"_law_k",aS!,(sh!).any d!=θ,aT!,.str s,aU!,Co y=ψ k,aV!,I.ok.hd hc,aW!,.type "str",aX!,srt S,aY!,[bw!],aZ!,Aa 6,a0!,.type "list",a1!,Aa 9,a2!,Ae->Dl_ aK!,a3!,(x,p),a4!,Ej t M ad V B,a5!,.fn o,a6!,gE w!,a7!,.int j,a8!,srt ops,a9!,Hist S]
def z'aa:String:=z [aa_,Aa 5,ab_,.nx ρ,ac_,ι D,ad_,Bo M w O W,ae_,S.length,af_,u++v,ag_,.ref f,ah_,fC a9_,ai_,wl Y!,aj_,X.A.units+64<cLine,ak_,os.map Op.v,al_,es.length,am_,#[ο,?_],an_,its.toArray,ao_,.ref C,ap_,Bk t M o O W B,aq_,.tup bF!,ar_,D×D,as_,us.length,au_,Wl os,av_,.fn o,aw_,aC r! aK,ax_,kF oY c_,ay_,r.length,az_,#[χ,χ],aA_,y.length,aB_,ι Int,aC_,λx hx=>?_,aD_,aA 3,aE_,aA 5,aF_,[υ],aG_,bI (iR (qU χ c_)),aH_,.bl b,aI_,Wt.length,aJ_,Ab i! Ad,aK_,Or.inr χ,aL_,aE v_ aJ,aM_,aY nd χ e!,aN_,MM a!,aO_,μ Env,aP_,I.tok _,aQ_,f o,aR_,f2 Ak k! M!,aS_,wl M!,aT_,LY _ hx,aU_,PE X a ta,aV_,(by simp;omega),aW_,fC cz_,aX_,OS t M a o O W,aY_,wl aa!,aZ_,[E!],a0_,[E!,bc!],a1_,"_law_item",a2_,(by delta big;omega),a3_,μ du!,a4_,aO aH aN av! aD p_,a5_,x∈W.its,a6_,(λ_ _ e=>by cases e),a7_,aB a4_,a8_,s.cps.toList,a9_,.int 3]
def z'b:String:=z [ba!,MM hk,bb!,[dg!],bc!,"item",bd!,Aa 8,be!,f2 Ak D_ M!,bf!,.lst ys,bg!,λx=>!x.1,bh!,λx=>x.1.isSome,bi!,i∉own,bj!,μ D->ι D,bk!,aB aT,bl!,.Name x cr,bm!,n+1,bn!,OA _,bo!,Co d=ψ k,bp!,Array Value,bq!,fs.length,br!,X.N.Nodup,bs!,Bi v u,bt!,λb J=>?_,bu!,g i j,bv!,"_law_ops",bw!,"operation",bx!,f2 Ak D_ ah_,by!,Aj st,bz!,.fn a,bA!,.type "bool",bB!,W.txt x,bC!,[bQ!],bD!,aA 4,bE!,ψ x,bF!,[aF!,ar!],bG!,aC l! aK,bH!,q1.mono x2.g,bI!,lo+hi,bJ!,μ Addr,bK!,μ cy_,bL!,eX I q c!,bM!,wl bS!,bN!,Ap t.B7 "following" i!,bO!,n2_=τ,bP!,[bv!],bQ!,"_law_one",bR!,ρ.set i ej!,bS!,fC .non,bT!,s1.trans s2,bU!,(i,p),bV!,D->Ae->Dl_ Ae,bW!,iA w!,bX!,MM χ,bY!,MY nofun,bZ!,ψ (scr ns),b0!,ME X own e f,b1!,ψ cZ!,b2!,u.length,b3!,.ref l,b4!,[al!,M_,cT!,cV!,in!,lJ!,y],b5!,Hist os,b6!,eval o X.env,b7!,s.cps.toList.length,b8!,Gb X (compareOp op) r,b9!,Ac v! Af]
def z'bb:String:=z [ba_,MY hk,bb_,.ref p,bc_,.Call (.Name x p) aI! [] pos,bd_,Ac D_ Af,be_,its.toArray.size,bf_,.type "tuple",bg_,backToKw ai tS_,bh_,λb h=>?_,bi_,hs os 5,bj_,.type "int",bk_,cG Z! bM l! bk! p_,bl_,Kk W,bm_,aB bD!,bn_,aG eL,bo_,λd hd=>?_,bp_,mixKind P w,bq_,Nl P w H h,br_,Yw X.env.scope x,bs_,((i:δ):Int),bt_,.ref k_,bu_,vs.length,bv_,.int 1,bw_,Aa 7,bx_,MY c!,by_,w2 Cc i! oz!,bz_,Ae->Dl_ Bool,bA_,ψ n,bB_,λ_ _ _ _ _=>mD,bC_,aA 8,bD_,aA 6,bE_,B+20,bF_,.str s,bG_,M p=ψ h7_,bH_,MR X.prog X.w X.K M G H,bI_,k _ _ N_ e,bJ_,Int->Addr,bK_,i.natAbs,bL_,"_law_script",bM_,Fq θ,bN_,A.handled=υ,bO_,K w.params,bP_,Cq st,bQ_,.tup ds,bR_,f ρ=ψ d,bS_,Og g os S,bT_,.ref aj,bU_,W.num x,bV_,oF a1 a2 a3 a4 a5 a6,bW_,.tup kO!,bX_,ψ (.lst ops),bY_,Ck X.K G d u,bZ_,ψ 1,b0_,[ad!,as!,L!],b1_,Jd P w KF own M0 G0 F0 M G H Z ρ,b2_,.inr N_,b3_,ms.length,b4_,dA χ,b5_,.dct (xs.zipIdx.map λq=>gs_) j!,b6_,.ref it,b7_,ψ go_,b8_,fC (.int 16),b9_,Ai k X.A]
def z'c:String:=z [ca!,.str "undo",cb!,ws.length,cc!,μ fn_,cd!,Mo X scope cl C hf! av bf fp,ce!,.lst ds,cf!,OR KF own G H Z ρ,cg!,DE X own b fb,ch!,cQ aD,ci!,aA 9,cj!,(by intros;kernel_rfl),ck!,Str×D,cl!,.ref e,cm!,MM a2_,cn!,ep+1,co!,λz=>?_,cp!,x1.trans x2 m1,cq!,M a=ψ h7_,cr!,[o.v],cs!,ME X own o fo,ct!,[ψ f9!,bE!],cu!,.inl χ,cv!,.Name x pos,cw!,x≠"__name__",cx!,PE X e te,cy!,((dT_).length:δ),cz!,f1 Bw R!,cA!,fC (.int 4),cB!,[gI_],cC!,Ay p!,cD!,λρ M R=>R τ M,cE!,vs.toArray,cF!,.str H_,cG!,(by rw[q];simp),cH!,Str.ofString "waits ",cI!,Ay oy_,cJ!,H p=υ,cK!,nt g os,cL!,(u++n::v),cM!,.Name x p2,cN!,(s,p),cO!,Ae->Dl_ Fl,cP!,.fol x b,cQ!,aB dH,cR!,Ge W x,cS!,λb h=>.inl h,cT!,ψ p,cU!,ψ aq_,cV!,ψ s,cW!,bE T.V8 T.Y0 l!,cX!,.tup cl_,cY!,mup_ne J,cZ!,.fn q,c0!,.nx ρ',c1!,l[j],c2!,((k:δ):Int),c3!,Sb W B,c4!,Str×V,c5!,upd H a o,c6!,lD _,c7!,μ V->Hp->ν,c8!,AG X.env.scope x,c9!,hF yy ta wa out]
def z'cc:String:=z [ca_,Cb 2,cb_,ns.map V.int,cc_,scope.names,cd_,"_law_world_here",ce_,ψ oF!,cf_,fa ρ,cg_,#[G,ρ,_,er,e1,xa_],ch_,aE av! aJ,ci_,Bd d=τ,cj_,aG (bD fJ_),ck_,fJ (E7! a4_ aT),cl_,(.str k::r),cm_,.str k,cn_,ψ (.int base),co_,MR P w KF M G H,cp_,ME X own b fb,cq_,[aF!,et!],cr_,[.lst f3_],cs_,SB kd a0 st,ct_,W.its.map λi=>(i,D.lst lM!),cu_,PE X b tb,cv_,X.mg x=υ,cw_,q.unwish,cx_,[L_,o.v],cy_,μ δ,cz_,.int 2,cA_,λ_=>χ,cB_,Ab y_ Ad,cC_,[K!,bc!],cD_,.type T,cE_,Ap t.B5 "waiting" i!,cF_,#[t,χ],cG_,"_law_number_here",cH_,LY _ hy,cI_,Al KF H ds vs,cJ_,Aq KF G d v,cK_,wq g os,cL_,RW t M0 M r f p kf kp,cM_,wo rows i,cN_,#[χ,h],cO_,#[χ,χ,χ,χ],cP_,.pre x b,cQ_,B<=B',cR_,aA 7,cS_,ds.map ψ++Dk_ (iU_ - g_) υ,cT_,W.txt i,cU_,wl fo,cV_,.type "tuple",cW_,μ DictEntry,cX_,Bool->Mh->ν,cY_,ay!<big,cZ_,σ.length,c0_,l.map Op.v,c1_,[e,it],c2_,m+1,c3_,(by simpa using e),c4_,h.objs.size,c5_,NN e,c6_,j+1,c7_,ha hb s Z H _ I h,c8_,(x==("__classdict__":Str))=θ,c9_,dP iK_ ?_]
def z'd:String:=z [da!,(H_:Str),db!,#[by rw[MJ];delta big;omega,?_],dc!,Hist U,dd!,i.natAbs.log2,de!,"_law_gone",df!,Bh (fC C_),dg!,.ref a,dh!,.str "cut",di!,"other",dj!,vs++ce,dk!,#[us,[]],dl!,wl jt!,dm!,.ref k_,dn!,([]:μ Keyword),do!,#[_,e,χ],dp!,Bt X scope NF ix,dq!,∀y∈cc_,y.2≠.cell,dr!,[t_,ad!,U!,bE!],ds!,DE X own e f,dt!,k _ G H aL! Aq.int,du!,D×D×Bool,dv!,i∈W.its,dw!,(F9_ nv_).any d!=θ,dx!,Dv d d',dy!,λ_ _ _ _ _=>sY,dz!,aG (bD r!),dA!,ML h,dB!,bE T.W3 T.W4 l!,dC!,Co a=ψ ka,dD!,.tup z0!,dE!,mkHash P w k,dF!,ψ (.int most),dG!,kget h1 d,dH!,[ad!,as!,b1!,L!,lA!],dI!,upd H s.heap.objs.size Bg_,dJ!,(i:Int)+1,dK!,.fn w,dL!,Ve prog w A s a0 kd r,dM!,Ck X.K G,dN!,seqObj "list" #[] 0,dO!,Ax xs us,dP!,QQ _,dQ!,ψ v,dR!,Bool->Hp->ν,dS!,.str x,dT!,.Compare a [op] [b] pos,dU!,aP (f:=Aa 0) χ,dV!,#[_,dU_,χ,χ],dW!,pre.length,dX!,((0:δ):Int),dY!,(θ,Dq_ a),dZ!,ψ (i:Int),d0!,f2 b J,d1!,fr b J,d2!,s.heap.push {cls:=.type "list_iterator",data:=DN! l},d3!,xs.isEmpty,d4!,toString i,d5!,ψ ag_,d6!,Vh X.K C,d7!,Eu X.K fd ps ds,d8!,Li CX X E,d9!,.ref b]
def z'dd:String:=z [da_,rv.length,db_,∀x,foldedSetIterable iter X.env x=pure x,dc_,[eS_],dd_,x.length,de_,ns.length,df_,.str "root",dg_,Ao D!,dh_,(x::xs),di_,ps.zip us,dj_,Ap t.B6 "rows" i!,dk_,(ψ o.v::r),dl_,Wt++[o],dm_,Ab i! at!,dn_,["word"],do_,ι Addr,dp_,scope.kind=.function,dq_,.inl z,dr_,er.grow s1,ds_,S++gn g os++wq g os,dt_,.Name x p2,du_,λd hd=>?_,dv_,("parents",.fn a1),dw_,ψ kv_,dx_,.int m,dy_,ψ b,dz_,dN 3,dA_,.Tuple jc n1 tp,dB_,aC G! aK,dC_,.str "write",dD_,Gw ks k,dE_,Str.ofString "",dF_,(d,x),dG_,hO.noOb cj!,dH_,λx hx=>(by simp[W0]at hx),dI_,.int o.h,dJ_,dE d es ep,dK_,.fn w,dL_,[U!,M_,bE!,cV!],dM_,λc=>?_,dN_,.int i t,dO_,a==sysModules,dP_,X.s₀.heap.objs.size,dQ_,λp hp=>?_,dR_,μ Expr,dS_,behindInMarks op b=θ,dT_,hs S o.h,dU_,NI _ χ,dV_,gF c!,dW_,[last],dX_,j - i,dY_,mk aJ!,dZ_,(aI_:δ),d0_,MF _ ho,d1_,ms.map Op.v,d2_,[L_,.lst d1_],d3_,.dK h1,d4_,.int n,d5_,.fn t.A0,d6_,Fe X.prog X.w X.K X.mg X.base CX k f fd ps sp,d7_,Ax ce ds,d8_,Hd t M yy a S Wt X,d9_,MY a!]
def z'e:String:=z [ea!,Ay y_,eb!,Ab i! jh!,ec!,[E!,nS_],ed!,.inr χ,ee!,"line",ef!,ψ 3,eg!,(Gc N ps by!),eh!,X.pn++hb,ei!,(d::ds),ej!,ψ d,ek!,Gr X.K r g,el!,sub.free hp,em!,k _ G H aL! Aq.bl,en!,aB aM!,eo!,(by rw[z.1,z.2]),ep!,Aq X.K H d v,eq!,us.toArray,er!,if _ then _ else _,es!,Sum.inr y,et!,.int m,eu!,QT ..,ev!,aC l! aw_,ew!,NG χ,ex!,Ju P w s.heap k u,ey!,Mh->D->D->ι D,ez!,q2 ρ M R,eA!,(qx_).Nodup,eB!,ψ o.v,eC!,mup M p eB_,eD!,λq hq=>?_,eE!,Lx M w O W wt wn qa,eF!,[al!,M_,cT!,cV!,in!,in_,lJ!],eG!,j - 1,eH!,(qa i,Dd.lst fI!),eI!,.lst [],eJ!,B<3800,eK!,NB.mp z,eL!,xs++ys,eM!,es.map la_,eN!,Addr×Obj,eO!,μ α->ν,eP!,(t.A0,a),eQ!,lQ Y,eR!,Ax vs us,eS!,eval e X.env,eT!,.BoolOp .And (b::rest) pos,eU!,dP c7_ ?_,eV!,.BoolOp .Or (a::b::rest) pos,eW!,(BS_ "ours",.int yy),eX!,hs S h,eY!,[v,ov,iv],eZ!,hf b J,e0!,.int j,e1!,S++Wt,e2!,binaryOp .Add,e3!,[("start",.int k t)],e4!,compareOp .In,e5!,f2 Ak k! aW_,e6!,.ins C dx fs,e7!,Ed t,e8!,Ap t.B7 "preceding" i!,e9!,us++ds]
def z'ee:String:=z [ea_,Ap t.B5 "taken" i!,eb_,.str H_,ec_,Cm x,ed_,if(dn!).isEmpty then 0 else 1,ee_,fC vj_,ef_,wS line,eg_,wS l,eh_,.inr z,ei_,.lst vs,ej_,i∈own,ek_,K30.srt S,el_,k.length,em_,starEach (a::[]) X.env=dY!::F0! X.env,en_,aE I_ aJ,eo_,[a5!,x],ep_,i∈W.its/\Ge W x/\¬Kq! x,eq_,λ_ _ _ _ _=>l!,er_,λq hq=>?_,es_,aB fL!,et_,sgn h n,eu_,h.Ns mainGlobals mg,ev_,.int k,ew_,.int tm,ex_,l.map d!,ey_,A.units+1<cLine,ez_,Ti X.K H dx,eA_,k8_<64,eB_,.dct [] 0,eC_,(∀b,M b≠υ->M' b=M b),eD_,[ad!,am!,b1!,ψ x.v,ψ x.nm],eE_,rs.map Bf,eF_,W.rows.length,eG_,Aa 0 ρ=ψ dK_,eH_,Int×Int,eI_,Jh g,eJ_,(DV! a CY_).push (seqObj "tuple" us.toArray 0),eK_,Ck KF G,eL_,(by delta AR;omega),eM_,(gl!).zip ds,eN_,[ψ cX!],eO_,[a,b,c],eP_,#[_,i1,pM Y],eQ_,Z.set i dQ!,eR_,rawInt T,eS_,.int i,eT_,.BoolOp .And (a::b::rest) pos,eU_,.BoolOp .Or (b::rest) pos,eV_,.UnaryOp .Not a pos,eW_,.fn wa,eX_,Nd i,eY_,ae_<64,eZ_,I1.hok.fresh u!,e0_,bK_<10 ^ 61,e1_,μ V->Hp->VK->ν,e2_,Wt++ms,e3_,(show θ=τ from hs),e4_,"_law_hand",e5_,s.heap.push i6_,e6_,shn W x,e7_,backToKw pos tS_,e8_,(θ,Dq_ e),e9_,Ap t.B6 "texts" i!]
def z'f:String:=z [fa!,PA X aI! t,fb!,f2 Ak D_ aW_,fc!,Fq τ,fd!,"words",fe!,.str "write",ff!,dn.filter p,fg!,S++ms++Wt,fh!,#[.bl _,H,I,χ,?_],fi!,.ref l,fj!,(aA!).map intC,fk!,"lines",fl!,.bool τ,fm!,.ref fa,fn!,Bb H H',fo!,μ vP!,fp!,Cr++f o,fq!,Qt 3,fr!,Ao aa_,fs!,[L_,x],ft!,[t_,bE!,ov_],fu!,Bb.refl G,fv!,[cd_,a1_],fw!,o∈gn g os,fx!,s2.trans s3,fy!,v.headD .non,fz!,Bs.laid sub hp,fA!,(λz=>nomatch z),fB!,ψ ki_,fC!,Jg W n rows',fD!,aW (bK fE),fE!,("rows",.fn a2),fF!,bE T.V8 T.X9 l!,fG!,V.ref p,fH!,Bd d'=τ,fI!,W.num i,fJ!,D×D×Bool->ν,fK!,.tup kF!,fL!,aO aH aN I_ aD p_,fM!,[a].length+(dn!).length+ed_<30,fN!,PN gz χ χ ?_,fO!,f1 ρ=ψ a,fP!,.ref Z_,fQ!,.int 0,fR!,aG (bD G!),fS!,(pX!).Nodup,fT!,VO _ _ _,fU!,aC l! kG_,fV!,MU c!,fW!,.inl eh_,fX!,ψ p8!,fY!,ψ item,fZ!,Ha P w KF G h1 es,f0!,MA X own es fs,f1!,h3.typeIs,f2!,W.num a,f3!,Co y,f4!,DG o.d,f5!,st.grow x1 m1,f6!,λh=>?_,f7!,Mh->ν,f8!,e≠it,f9!,Bf q]
def z'ff:String:=z [fa_,I.hok.fresh u!,fb_,OV gR_,fc_,.builtin id,fd_,λ_=>Av,fe_,wl D!,ff_,dn.length,fg_,wT (Er! Do dm_),fh_,[.ref p],fi_,joinL 46 aA!,fj_,aZ χ χ ((jJ!).trans ?_),fk_,xs.map Cm,fl_,[E!,bc!,"place"],fm_,gX N_,fn_,Str×Addr,fo_,MM hc!,fp_,"_law_deed_here",fq_,Mo X scope cl G2.objs.size hf! s2 H2 fp,fr_,.lst bU_,fs_,V.ref a,ft_,upd H p o,fu_,Kg own Z G H,fv_,λ_ _ _ h=>h,fw_,r1.mono s2.g,fx_,fs ρ,fy_,(by simp[e]),fz_,Aa 0 ρ=ψ ki_,fA_,fi ρ=ψ y,fB_,λx gc hy=>?_,fC_,cK cN eZ χ T.T4 eC aL_,fD_,a∈W.its,fE_,SR KF own G0 F0 G H Z ρ,fF_,.row x b,fG_,mup_ne Y,fH_,Co i=ψ ki,fI_,(by show A.units+1+Ct xs<cLine;omega),fJ_,aB fE,fK_,QV B,fL_,backTo ai yG_,fM_,hX w!,fN_,QP ?_,fO_,bE T.V9 T.W7 l!,fP_,Gr.m bZ,fQ_,[fQ!,fQ!,fQ!,fQ!],fR_,if Ge W a then a else binn,fS_,MM (by dsimp only[List.length_cons];omega),fT_,scr ns,fU_,jK a_,fV_,.tup [.str "cut",a,.tup kF!,et!],fW_,Cz N,fX_,h1.map d!,fY_,ψ (.int m0),fZ_,Ht h1,f0_,cO h5,f1_,s.cps.toList.zipIdx.map ll!,f2_,Tj W pre,f3_,ops.map Op.v,f4_,.bl ia!,f5_,λx hx=>hd x aT_,f6_,mup M p (.dct (Br h1 y v) (Il h1 y ep)),f7_,(o::os),f8_,.fn wt,f9_,rs[k]]
def z'g:String:=z [ga!,[U!,M_,cT!,cV!,in!,in_,y],gb!,eF_<5000,gc!,wpS_get ?_,gd!,(show i=j by omega),ge!,(by rw[MJ];delta big;omega),gf!,λK hK=>hK,gg!,(a,oa),gh!,l.map f,gi!,Value.none,gj!,.own a,gk!,[ψ aT!],gl!,us.zip us,gm!,.frz o u,gn!,Z.length,go!,MV _ z,gp!,hp.objs.size,gq!,λ_ _=>χ,gr!,PT X a tA,gs!,kl.map λh=>(D.int h,D.fn gr_),gt!,X.wish E,gu!,aP (f:=Aa 1) χ,gv!,mup M q eI!,gw!,δ->Heap->ν,gx!,cs.drop start,gy!,i - start,gz!,2 ^ 62,gA!,ha pos hb s Z H _ I h,gB!,2 ^ 64,gC!,backToKw pos (keywordEach vt env),gD!,MM ge!,gE!,(by decide+kernel),gF!,LW ?_,gG!,.str "bin",gH!,f1 Fj R!,gI!,λ_=>υ,gJ!,ay.atName,gK!,Ai k A,gL!,PA X es t,gM!,Cp (Go (fT jd!) jf_),gN!,Ai W! X.A,gO!,envOfC qual scope s.heap.objs.size f cd,gP!,start N vs,gQ!,Ac aa! Af,gR!,wl (fC u_),gS!,.int a t,gT!,Ce k!,gU!,Ab dl! (Dt! jt_ (wl bx!)),gV!,"ours",gW!,Fo t,gX!,Du t,gY!,List.length,gZ!,Str.ofString ".",g0!,is.map D.int,g1!,is.map intC,g2!,Str.ofString "bin",g3!,f1 Dt R!,g4!,.int 6,g5!,Cg _ _ _ aF_ _,g6!,.tup ds,g7!,.lst (.str k::ws),g8!,.lst [dC_,wa,wb,bF_],g9!,[bL_,aR!]]
def z'gg:String:=z [ga_,MM (by simp[big];omega),gb_,[U!,bE!,M_,y],gc_,n<=a0.size,gd_,W.its.length,ge_,λ_=>τ,gf_,p1 χ,gg_,MF _ (MF _ c!),gh_,a==b,gi_,tupleKind bp_,gj_,.ref x,gk_,us.toArray.zip eq!,gl_,bB (cP q hn),gm_,(Ex! eM_).map kf2,gn_,hs os h,go_,.int k,gp_,J hb s1 Z H1 _ I1 q1,gq_,.type "enumerate",gr_,ca h,gs_,(D.int q0!,q.1),gt_,dM b_ hA.ob hF2,gu_,ψ x,gv_,PassesOwn h! X.A X.env X.xe,gw_,#[o,e,λv z=>by rw[d]at z;cases z],gx_,Cd t,gy_,(by simpa using J),gz_,mk mT_,gA_,(∀b∈fp,H' b=υ),gB_,dn++[o],gC_,i != 0,gD_,r'.length,gE_,f2 Ak k! D!,gF_,fC df_,gG_,["sign"],gH_,.lst nk_,gI_,"operations",gJ_,getMethod ov m pl,gK_,Vm W,gL_,Gh t.B7 1 (Fx t) Ad,gM_,An 1 jg!,gN_,[K!,bc!,"parent",nw_],gO_,wl bd!,gP_,(none::r),gQ_,NT.mp ho,gR_,(by simpa using hi),gS_,f2 Ak bx! M!,gT_,An 4 (wl (KG! Y!)),gU_,S++[ptO S],gV_,Va xs lo hi,gW_,wl uR_,gX_,Ib t,gY_,BS x,gZ_,Str.ofString " ",g0_,Hb jA!,g1_,Str.ofString "root",g2_,["part"],g3_,Ek k! dg_ (Ao v!),g4_,its.length,g5_,f1 Cw R!,g6_,(h::n::tm::ds),g7_,Nj 2 3,g8_,Tc au.heap H,g9_,Ac aR_ (Ac gE_ Af)]
def z'h:String:=z [ha!,.str "",hb!,NameKind.free,hc!,(by rfl),hd!,fC (.int 5),he!,[t_,ψ hd_,b7_,ψ u_,υ],hf!,NL++NF,hg!,.ListComp fm wa_ scope pos,hh!,.str "rows",hi!,f1 Bw gQ!,hj!,∀y∈cc_,y.2=.free->wp_,hk!,gb _ I2.lt,hl!,w2 bM_ dl! by_,hm!,.str i,hn!,D->D->ι D,ho!,gn g os≠[],hp!,DT X own a ft,hq!,wl a1!,hr!,Br l d v,hs!,Hu l d,ht!,.lst oY_,hu!,.type "NoneType",hv!,jW χ,hw!,Ph rows i p s rows',hx!,cH v_ dD ch!,hy!,Bs.laid x.sub hp,hz!,er.grow x,hA!,starEach (e::[]) X.env=e8_::F0! X.env,hB!,kQ T,hC!,Rb F0 G1,hD!,#[1,?_],hE!,Al X.K H es ws,hF!,Aq X.K H d' v',hG!,#[.bl _,H,I,χ,q],hH!,.int x,hI!,[hH!,hH_,e0!],hJ!,μ ck!,hK!,.tup hI!,hL!,aC a7_ (aC a7_ kI_),hM!,(s,c,τ),hN!,(by size_fits),hO!,s.heap.IsTuple l2 ys,hP!,F!<=16,hQ!,bG nd χ e! gD,hR!,f2 ρ=ψ b,hS!,#[_,χ,h],hT!,wo W.rows i,hU!,μ Wv,hV!,cs.map λ_=>D.bl τ,hW!,(show v=.none from hy),hX!,.str "put",hY!,.tup [p4!,a,b,c],hZ!,μ MK,h0!,[a,b,bF_],h1!,∀o∈ops,Ww o,h2!,Lu ks k,h3!,Nn s.heap a es ep,h4!,(if _<=big then _ else υ)=_,h5!,Th P w KF own G H Z ρ M,h6!,a4m c_ c_ c_,h7!,MT X own a ft,h8!,rL I sub r hk,h9!,ψ d]
def z'hh:String:=z [ha_,"_law_most",hb_,[t_,L!],hc_,LnO t o l,hd_,wS jW_,he_,cf.sub x c h,hf_,MV _ ho,hg_,G2.objs.size,hh_,wl (fC hh!),hi_,(λv z=>by cases z),hj_,∀cl C av bf fp,PG cd! tg g,hk_,[cd_,a1_,wo_,wp!],hl_,Aq KF H d v,hm_,Bs.refl er.sub,hn_,fb ρ,ho_,ft ρ,hp_,Jv t,hq_,DA X own aI! fs,hr_,ψ (.lst oS!),hs_,S.map Op.v,ht_,wl fi,hu_,kput_len _ _ _,hv_,bU sub q,hw_,is.length,hx_,ML hq,hy_,ad .par,hz_,ad r,hA_,.dir b,hB_,aE ya_ aJ,hC_,bJ ag! bZ ci! aT l_,hD_,(λr M'=>match r with|.rt d=>R d M'|.nx _=>D5_ M'),hE_,Al X.K H ds vs,hF_,Bi v' u',hG_,setT W i l,hH_,.int y,hI_,aB kE_,hJ_,aB pp_,hK_,B<3900,hL_,.Name y py,hM_,ys.map (·.length),hN_,s.heap.IsTuple l1 xs,hO_,.ref z,hP_,s.cps.toList.zipIdx.map et_,hQ_,NI _ χ,hR_,wl f1,hS_,ES s.heap l1 l2,hT_,KF.In h,hU_,fs ρ=ψ ds,hV_,aZ χ χ χ,hW_,(show u=.none from hx),hX_,.tup [hX!,a,b],hY_,.tup [.str "drop",a],hZ_,[aF!,ar!,ew_,d],h0_,ks.Nodup,h1_,k8_<=100,h2_,(υ,()),h3_,cs.map λc=>da!,h4_,cL χ χ,h5_,f ρ M R,h6_,AO X.prog X.w X.K r gm,h7_,.dct h1 ep,h8_,bF (sc:=Aj Kr) χ c_,h9_,aB ci!]
def z'i:String:=z [ia!,k=="undo",ib!,MA X own aI! fs,ic!,Dl M1 d,id!,Oq .str a8! [],ie!,ψ id_,if!,mup M s.heap.objs.size eB_,ig!,Fu own Z H1,ih!,hp.map _,ii!,Pu f ρ M d,ij!,.int (k:δ),ik!,QL _,il!,q.2.1.map d!,im!,LY _ MB,in!,ψ (.lst eE_),io!,λK hK=>?_,ip!,a0.toList,iq!,.lst l,ir!,ON.mpr p_,is!,L'.length,it!,seqObj "list" us'.toArray n',iu!,(lZ_).zip ds,iv!,o.ExactDict,iw!,kf2 d,ix!,.own x,iy!,cs.map Q_,iz!,Tc h H,iA!,NN ho,iB!,b∈X.ex\/dP_<=b,iC!,λb o e n J hx=>?_,iD!,full.toArray,iE!,(by simp[z]),iF!,TP X hb Z Q,iG!,PE X e t,iH!,[eW!,sv_],iI!,its.toList,iJ!,(xs.take i).zipIdx.map λq=>gs_,iK!,PS X st t,iL!,ψ e,iM!,.int h,iN!,λ_=>a,iO!,S++[o],iP!,It->Hp->ν,iQ!,NB.mp y,iR!,joinL c ws,iS!,X.mg "range"=υ,iT!,λe=>?_,iU!,MF _ z,iV!,gL hA.wt,iW!,As t M yy a ta wa Wt .non S kl ca,iX!,(o.nm,o.v),iY!,.bl (!(Builtin.Str.occurrences j i 0 j.length 1).isEmpty),iZ!,lastMarks [op,iy] [b,c]=θ,i0!,ms.map λo=>iX!,i1!,(by simp![MN];omega),i2!,ψ (.lst d1_),i3!,Vo yy U S e2_,i4!,K.In s.heap,i5!,Ao aW_,i6!,W.instObj C k_,i7!,Kj f v fs,i8!,fC i7_,i9!,H a=ψ e6!]
def z'ii:String:=z [ia_,#[_,_,χ,c_,c_,χ],ib_,(a8!).map Op.v,ic_,∀o∈ops,DG o.d,id_,.lst f3_,ie_,wl fa,if_,.dct [] 0,ig_,(x::os),ih_,kget h1 y,ii_,.lst c0_,ij_,.int o.tm,ik_,ψ (.lst (σ.map Op.v)),il_,k3 a b c,im_,#[hp,g,d,tk,os],in_,ψ (.int (a:δ)),io_,q.1=x,ip_,x - 1,iq_,((n:δ):Int),ir_,#[χ,k],is_,W.its++[D.tup bF!],it_,.done (.ret .none),iu_,(by rw[he];rfl),iv_,σ.toList,iw_,∀b u,h.get? b=ψ u->Du_ b=ψ u,ix_,H a=υ,iy_,Km mf_ iy!,iz_,I.ok.bs b o e,iA_,.ListComp fm wa_ scope ai,iB_,(∀x c,Dc_ x=ψ c->c≠b),iC_,uw b o e hx,iD_,λz=>hc iE!,iE_,s.heap.IsList l ag,iF_,μ Stmt,iG_,∀ff,K0! ff=(do let v <-ff;standAt e.pos;holding [v] mw_),iH_,[eW!,sv_,(Str.ofString "waiting",.fn wa)],iI_,kl.length,iJ_,hA.cl h hh,iK_,he hb s Z H _ I h,iL_,St->Hp->ν,iM_,ψ iM!,iN_,#[.int _,H,aP_,A_,q],iO_,pyNext b6_,iP_,if h=o.h then q else ca h,iQ_,λb J=>(eZ!).1,iR_,Gl X "range",iS_,(θ,Dq_ b),iT_,[.int x.h,.int x.n],iU_,N.length,iV_,I7.unpinned,iW_,ET r ta tb,iX_,((i+k:δ):Int),iY_,Gb X (compareOp iy) r',iZ_,.Compare a [op,iy] [b,c] pos,i0_,Iy Pd ms,i1_,if i<0 then -i else i,i2_,[al!,i2!],i3_,"_law_other",i4_,Dr tF!,i5_,Pq (Oq .str aX! []) aX!,i6_,W.emptyDict,i7_,.str " ",i8_,(show False from r),i9_,I.tok _]
def z'j:String:=z [ja!,Rc 0 1,jb!,True.intro,jc!,f2 Ak k! ah_,jd!,f2 Bp v! bS!,je!,μ no_,jf!,wl ni!,jg!,w2 Cc nr_ p!,jh!,Ab ai_ Ad,ji!,((hs S yy).length:δ),jj!,((p,w)::P.zip vs),jk!,List.replicate 16 [D.int 0],jl!,wl aa_,jm!,f2 Ak jc! M!,jn!,f1 Cy R!,jo!,.ref t,jp!,#[_,jp,χ],jq!,Ac Y! Af,jr!,Ag gT_ (At (Ex (Ik! uq!) (wT (w2 fd_ (No p! aY_) (wl jm_)))) (Bv y_ aY_ gR!) Bl),js!,fC js_,jt!,f2 Ak D_ D!,ju!,.ref sl,jv!,.str "set",jw!,Builtin.Tuple.tupleExact _,jx!,ψ i,jy!,Ah 1 (Ep t) aJ_,jz!,Ap t.B5 "ours" i!,jA!,Ce v!,jB!,(show(1:Int)>0 by decide),jC!,Ah 2 (Dg t) dm_,jD!,upd H l bf!,jE!,.tup ys,jF!,wl aR_,jG!,.dT h1,jH!,joinL 46 fj!,jI!,#[e,?_],jJ!,dZ _ _,jK!,LW fin,jL!,backTo ai vq_,jM!,ψ jL_,jN!,ns.map .int,jO!,List.Pairwise.nil,jP!,#[[u],[]],jQ!,.lst (Gn! h::Gn! n::Gn! tm::rest),jR!,[aF!,ar!,ew_,g6!],jS!,k.cps.toList,jT!,Array vE!,jU!,[.non,.non],jV!,LY _ hp,jW!,names.map λ(n,k)=>if os_ then(n,NameKind.cell)else(n,k),jX!,flt b J,jY!,[v5!,ov_],jZ!,"_law_at",j0!,(W_,Wm us n),j1!,gb _ (se p hp),j2!,h.nob cj!,j3!,upd H p ei_,j4!,Bo M w Ow W,j5!,ρ.length,j6!,∀j∈ix,j∉own,j7!,(∀v G' H',DP_ G H->DZ! G' v->Q v H'),j8!,o.h=5,j9!,f2 g fa fb]
def z'jj:String:=z [ja_,Oc (Jl t) 0 b9!,jb_,(bB!).length<5000,jc_,[U!,bE!],jd_,A.under (FG! us),je_,.List es pos,jf_,fT t0!,jg_,.Call t2! aI! [] pos,jh_,.Call t2! [] [] pos,ji_,Str->Dl_ NameKind,jj_,NJ.mp nd,jk_,pm.mem_iff.mp ho,jl_,"number",jm_,fC ca!,jn_,bootBuiltins x=ψ cD_,jo_,#[_,ho,χ],jp_,(by simpa using hv),jq_,(by simpa using hw),jr_,((sIx n 0 lo:δ):Int),js_,.str "put",jt_,wl fb!,ju_,.str "move",jv_,"outline",jw_,LZ (JW_ _ h),jx_,dM b_ hA.ob hF3,jy_,dn.filter λo=>!p o,jz_,"fresh",jA_,ab!<=sizeLine,jB_,ws.map wS,jC_,(show θ=τ from fx),jD_,J i hi,jE_,wl gE_,jF_,fC (.str "."),jG_,f1 Ee R!,jH_,(by rw[MN];omega),jI_,(fj!).map wS,jJ_,[ψ vo_],jK_,(.str k::xs),jL_,(cb!:Int)+1,jM_,l.most=ψ n,jN_,Ah 2 (Ch t) dm_,jO_,mk (Hh aA!),jP_,λv _=>v=.bl τ,jQ_,Array DictEntry,jR_,ψ jQ!,jS_,.int 9,jT_,Ff st,jU_,ForInStep.yield r,jV_,Aa 10,jW_,Cr++l,jX_,"_law_base",jY_,[x0,t_,y2,y3],jZ_,f2 Ko Y! D!,j0_,f2 Av aR_ v!,j1_,∀a vs,Eh! a vs->H6_ a vs,j2_,An 5 (w2 Cc by_ dl!),j3_,λ_ h=>.inl h,j4_,λb u e=>?_,j5_,Bs G H G' H',j6_,pG hN hv hd cb,j7_,NA.mp ho,j8_,eW.mp ho,j9_,pq g os]
def z'k:String:=z [ka!,#[x,χ,?_],kb!,DA X own es fs,kc!,(cK!).filter j9_,kd!,f1 g fs,ke!,Ce f1 ρ=ψ ak_,kf!,Ce f1,kg!,k _ G H aL! Aq.str,kh!,Xp g os S,ki!,sub.seq q,kj!,μ Bool,kk!,bs.map Value.bool,kl!,λa b hm=>?_,km!,bnd d ρ,kn!,λx hx y hy=>?_,ko!,λv H2 hy=>?_,kp!,(by kernel_rfl),kq!,V.ls x b,kr!,Al KF G ds vs,ks!,λ_ _ _ _ _=>J6_ (Dp_ [bQ!,a1_]),kt!,eA v_,ku!,eval bl! X.env,kv!,Bt.cons (j:=2) Bt.nil,kw!,[.Subscript bl! ix p2],kx!,mup_ne h2,ky!,Fd X.K H a vs,kz!,Dv yj_ yk!,kA!,∀(us us':o!),Ax vs us->Ax ws us'->∀(j:δ) u u',us[j]?=ψ u->us'[j]?=ψ u'->IB! A.in1 u u' kz!,kB!,qN rd re rv a7 (h us us' rv a7),kC!,nS ds es hl,kD!,(hO b).mpr z,kE!,sJ hi,kF!,[hH!,hH_,.int z],kG!,.ref ad,kH!,NR hu_ a!,kI!,x.cps.size,kJ!,[hH!,hH_,.int (z+(k:δ))],kK!,aC bk! (aC cQ! aK),kL!,setT W i kK_,kM!,DE X own o fo,kN!,#[χ,G1,ρ,_,dr_,e2,yH!],kO!,[aF!,ar!,.int (k0:δ)],kP!,ZipApart z TI TO i1 i2 l1 l2,kQ!,IsPair s.heap TI (.ref i1) (.ref i2),kR!,s.heap.IsTupleIter i1 l1 k1,kS!,(∀c ob,c≠z->c≠TO->c≠i1->c≠i2->yY_ c=ψ ob->Du_ c=ψ ob),kT!,LW (YD ?_),kU!,(by rw[hd];simp),kV!,α->ν,kW!,bE T.V9 T.W8 l!,kX!,Kk fC!,kY!,NB.mpr χ,kZ!,#[_,_,χ,χ,em!],k0!,W.keepIn KF ag_=τ,k1!,W.mg_of X G a,k2!,32<=c,k3!,cs.map λ_=>.bl τ,k4!,cs.map λ_=>τ,k5!,limitOf z k,k6!,.str "set",k7!,.tup cl_,k8!,fC aT!,k9!,plc es dE!]
def z'kk:String:=z [ka_,#[G1,ρ,d,dr_,e,w9_],kb_,a0w (g:=g) w,kc_,rR h.ok,kd_,Eu X.K fd ps [],ke_,(by rw[MH];omega),kf_,.lst hs_,kg_,bU sub qa,kh_,Hi t M r f p xs,ki_,.fn r,kj_,W.rows.map d!,kk_,Bs.refl s2,kl_,λx=>?_,km_,(y::·),kn_,if x=n then[]else W.txt x,ko_,[(Str.ofString "following",D.fn f),(Str.ofString "preceding",D.fn p)],kp_,ad kS_,kq_,∀q,Jq V q->bd q=ad q,kr_,λj hj=>?_,ks_,NH.mp Y,kt_,aO aH aN a4_ aD p_,ku_,cO u!,kv_,.fn (ad .ob),kw_,x∈W.its,kx_,aA 10,ky_,(by simpa using h),kz_,us.toArray.size,kA_,a7.length,kB_,nV ds es hl,kC_,bG nd χ e! aw!,kD_,setT W i (cutT g cT_),kE_,aO aH aN aD_ aD p_,kF_,w.nm i hi,kG_,aC an! aK,kH_,aC aw! aK,kI_,aC a7_ aK,kJ_,(pz_).map λk=>.tup kJ!,kK_,(U++hM!::v),kL_,fo ρ,kM_,dC ha.ok eU hs,kN_,"_law_row",kO_,#[_,dU_,χ],kP_,IsZip s.heap z TI TO .none,kQ_,IsPair s.heap TO p q,kR_,s.heap.IsTupleIter i2 l2 k2,kS_,.nm x,kT_,aB kt_,kU_,nG (oI T) b! χ,kV_,bE T.W3 T.W5 l!,kW_,NB.mp z,kX_,Km xs ys,kY_,aB aE_,kZ_,(hO c).mpr z,k0_,pL l c k,k1_,c<=126,k2_,Bt.cons (j:=0) Bt.nil,k3_,#[.ref _,_,I.lnew (ys:=[V.str z]) (FH! cF_) (by show 1<=sizeLine;rw[OP];decide),χ,q'],k4_,xs.map D.str,k5_,cG Z! bM G! bk! p_,k6_,ks.length,k7_,Nm P w h es ks,k8_,ops.length,k9_,.lst ops]
def z'l:String:=z [la!,LY _ hj,lb!,bI χ,lc!,bE T.V8 T.X8 l!,ld!,cs.map Nw,le!,ψ (.lst kinds),lf!,dE a es ep,lg!,XM M G H M' G' H',lh!,Kc KF G fs vs,li!,.ext x,lj!,b7k (qU χ (OH _)),lk!,#[G1,ρ,M1,R,lj_,r1,AB!],ll!,sgn h m,lm!,Ck X.K G x v,ln!,aR (mS T) b! χ aL_ T!,lo!,dictGet a u>>=_,lp!,.int v,lq!,λx hx q hq=>?_,lr!,upd H a (dE a a9 cn!),ls!,k==k',lt!,(show its.toArray.any ez_=its.any ez_ by simp),lu!,#[cp,?_],lv!,.ext x2,lw!,(by show 3<=1000;decide),lx!,NameG x,ly!,#[t1,t2,?_],lz!,wl fb,lA!,ψ o.nm,lB!,fo ρ=ψ B!,lC!,s.root J,lD!,(by exact(dA!).elim),lE!,os.map Op.nm,lF!,(by rw[hp.length_eq];omega),lG!,Pu f1 ρ M a,lH!,Da C m M d,lI!,.bl c,lJ!,ψ ij!,lK!,(u++o::v),lL!,W.rows.map Bf,lM!,(cT_).map Cv,lN!,ψ c2!,lO!,Bf rs[k],lP!,.lst ((Cj!).map Bf),lQ!,Array Keyed,lR!,W.rows.filter λq=>decide io_,lS!,m - 1,lT!,wl fx,lU!,(0,a0.size,0),lV!,.lst rf!,lW!,LY _ hz,lX!,Value.int a t,lY!,.lst [],lZ!,(by rw[MN,OP];omega),l0!,(a,Gx! e1),l1!,ku.toArray.zip eq!,l2!,hk p hp,l3!,.str x t,l4!,(Sum.inr a:Key),l5!,.builtin "sorted",l6!,seqObj "list" us.toArray 0,l7!,#[_,χ,r],l8!,μ Key×Addr×Value,l9!,W.instObj C dx]
def z'll:String:=z [la_,(·.key),lb_,jS χ,lc_,Nm P w s.heap es.toArray ks,ld_,Bb G G',le_,ψ jj,lf_,[.int 6,b],lg_,k≠"write",lh_,(by rw[e];simp),li_,w2 gm fa fb,lj_,st.grow x1 m1,lk_,bI uj,ll_,#[#[o,q o z1,z2,z3],z4],lm_,upd H a (dE a a9 (Il h1 d ep)),ln_,.tup [k6!,a,.int p,.int v],lo_,a3t hu I m sub e r hk λo s' I' ho=>?_,lp_,.tup cq_,lq_,#[B8,B9,C0,C1,C2,C3,C4,C5,C6,C7,C8,C9],lr_,!Dv d d',ls_,λw hw=>oM I r1 rx n1 r2 r n2 (by let:=iC X.A;omega) w jq_,lt_,rC I r2 r n2,lu_,[.int o.h,.int o.n,.int o.tm,o.d],lv_,(p,h1,ep),lw_,λk=>.bl ia!,lx_,ho.run I st e λd M1 v G1 H1 u s1 r1 x1 m1 q1 I1 rx=>?_,ly_,(∀b,b≠p->M' b=M b),lz_,s.heap.push {cls:=.type "dict",data:=.dict #[]},lA_,MY (OB h.1),lB_,Fu own Z H,lC_,[.Subscript o i p2],lD_,(by show 4<100;decide),lE_,hp x MB,lF_,Pu fo ρ M B!,lG_,#[χ,hg _ hK],lH_,Rh ft ρ M θ,lI_,Bm N ps.length q,lJ_,LZ (LW (XX ho hd ?_)),lK_,its.map λi=>(i,g i),lL_,.fn wn,lM_,.tup O!,lN_,.int (aH!:δ),lO_,.Constant (.str s0) n0 p0,lP_,(by simpa using uo),lQ_,a3!∈W.rows,lR_,decide io_,lS_,mirror_perm _ _ _ _,lT_,Aa 2 ρ,lU_,setPending ab ((CD!).push lU!),lV_,ψ nm,lW_,ψ (Cv q),lX_,ψ dD!,lY_,W.its.map λi=>(i,D.fn (qa i)),lZ_,ku.zip us,l0_,NB.mp J,l1_,(Ex! iu!).map eI_,l2_,hk q bc,l3_,(Sum.inl a:Key),l4_,(nomatch e),l5_,(s.heap.push dN!).update s.heap.objs.size (Obj.mapSeq (·++eq!)),l6_,(by simpa using Y),l7_,μ Key×V,l8_,kws_nil ?_,l9_,fs.map d!]
def z'm:String:=z [ma!,ds.all λd=>(Lv d).isSome,mb!,Iy kf2 ds,mc!,e=x\/H e=ψ ix!,md!,kf2 q.2,me!,upd H x o,mf!,bB (hm b _ q λz=>z),mg!,uI F S λam A outer s H E hr=>J hr S.nd,mh!,X.env.scope.kind,mi!,[.lst jN!],mj!,Nl X.prog X.w H' h',mk!,λx c e=>?_,ml!,I.base.keep b o e n J hx,mm!,(by simpa using b1),mn!,#[χ,by show 0<=1;decide],mo!,λk=>?_,mp!,hs.2 b (NX rR_),mq!,Inv X hb Z H' s',mr!,starEach es X.env,ms!,.lst ak_,mt!,wE ns base N os c t mt_ x7 x8 x9,mu!,.bool b,mv!,#[_,_,_,by rw[wE,NM];rfl],mw!,h hb s Z H _ I hw,mx!,.BoolOp .And [a] pos,my!,#[_,he,χ],mz!,.BoolOp op [a] pos,mA!,Wt.map Op.v,mB!,hA.mem h,mC!,.ok (.ret .none),mD!,#[ac,H',I.unwish,q],mE!,(st::rest),mF!,.Return iL! pos,mG!,aP (vM o),mH!,Hp->ν,mI!,setItem ov iv v,mJ!,.Name x lj,mK!,Int->Int->Int,mL!,(by rw[hA.wt];simp),mM!,(by rw[Hq_ hh];simp),mN!,eB J hq,mO!,Array δ,mP!,λb o J e=>(sb.2 b J).trans e,mQ!,sU_/\Gx_ s=τ,mR!,λb o J e=>kk b o gy_ e,mS!,ws.map mk,mT!,s.heap.push {cls:=.type "range",data:=Dv! t},mU!,∀b,M b≠υ->M1 b=M b,mV!,λ_=>aP χ,mW!,(by rw[e];rfl),mX!,((min k n:δ):Int),mY!,.int dZ_,mZ!,.BinOp a op b pos,m0!,[t_,ad!,as!,L!,lA!,y5],m1!,rI ER λi j=>.int (i / j),m2!,rI EQ λi j=>.int m2_,m3!,Int->Int,m4!,(by rw[<-e];exact hl),m5!,#[[.type "enumerate",b3!],e3!],m6!,Ss λi j=>.bl m5_,m7!,decide (i<=j),m8!,Ss λi j=>.bl m7_,m9!,Ss λi j=>.bl m8_]
def z'mm:String:=z [ma_,ds.map kf2,mb_,λ_ q=>q,mc_,∃u,Du_ e=ψ u,md_,seqObj "list" (eM!).toArray 0,me_,μ (Addr×D),mf_,cs.map λc=>.fn c.1,mg_,hH.ch 5,mh_,OL.mpr a!,mi_,Addr×D->ν,mj_,I.freeC x c e,mk_,Int×Tok,ml_,I.base.free b o e n hx,mm_,full.length,mn_,λb J=>?_,mo_,(∀b o,yY_ b=ψ o->Du_ b=ψ o),mp_,hs.2 b (NX (NK c5_ (I.ok.cab x c wp hc))),mq_,s.heap.IsListIter it l i,mr_,eval a X.env,ms_,#[v,H,I,r,h],mt_,ψ (.int (j:δ)),mu_,b8g em ed nd z χ χ χ χ χ χ χ J,mv_,.inr ed!,mw_,truthy v,mx_,.BoolOp .Or [a] pos,my_,Str.ofString "outline",mz_,.IfExp c a b pos,mA_,D.int.inj z,mB_,.inl N_,mC_,.int sz_,mD_,I.wish _,mE_,.int (i:δ),mF_,hA.nob hM1,mG_,aP (mP o),mH_,assignEach es X.env,mI_,PG X tg g,mJ_,λh hh=>(Kp! hh),mK_,(by rw[hA.ob];simp),mL_,(by rw[ht];simp),mM_,λh hh=>?_,mN_,(∀b∈fp,D6! H b),mO_,(by simpa using hu),mP_,NA.mp hh,mQ_,#[χ,I.turned (t':=s.toks) sW! f0 f1 f3 f4 f5],mR_,hl hb s Z H _ I h,mS_,hi - lo,mT_,joinL c aA!,mU_,(cy!:Int),mV_,Int.ofNat m,mW_,PI X tg iter wi,mX_,z.cps.toList.drop i,mY_,Gb X (binaryOp op) r,mZ_,f dN_ (.int j u),m0_,rI AJ λi j=>.int (i*j),m1_,rI (λ_ j=>0<j) λi j=>.int (i%j),m2_,i ^ j.toNat,m3_,λx hx=>hf x aT_,m4_,(e2_).length<64,m5_,decide (i<j),m6_,compareOp .LtE,m7_,decide (j<i),m8_,decide (j<=i),m9_,backTo pos tp!]
def z'n:String:=z [na!,ho hb s2 Z H2 x y v u _ I2 r1 r2 q2,nb!,ms.map Op.nm,nc!,its.toArray.isEmpty,nd!,.str d4!,ne!,"_law_found",nf!,W.plainGet_of hg,ng!,#[ho,χ],nh!,.lst tH!,ni!,fC gG!,nj!,.str "~",nk!,fT (Jn "str" k!),nl!,[dw_,bE!],nm!,["parts","checks"],nn!,Hv ha! nm_=ψ v,no!,PE X o ta,np!,#[(apply_ite Vm _ _ _).trans ah!,by split<;>exact nd],nq!,Rf P w K mg base A outer s H,nr!,.ins C dx [],ns!,kl.map (lt S),nt!,[K!,ai!,bc!],nu!,Ap t.B6 "numbers" i!,nv!,backTo pos nv_,nw!,Mk X.K C f,nx!,Ba t.B6 "has_item" 2 (Bx t) i! at!,ny!,dM b_ hA.ob hF1,nz!,An 8 (wl (IU! v! ny_)),nA!,Od CX P w K mg base N qual scope f am A outer s H E,nB!,Gk X fc_ r,nC!,Gk X cD_ r,nD!,An 2 Gi,nE!,((hs S 3).length:δ),nF!,Hd t M 3 a S Wt X,nG!,(i:Int)+(m:Int)*1,nH!,ag.size<=sizeLine,nI!,o.n=cy!+1,nJ!,(S++o::Wt),nK!,wl (Im Af),nL!,((Kv M eW_).map λxs=>D.int j!)=_,nM!,w2 Cc ea_ y_,nN!,HT.sIx xs.length 0 lo,nO!,f2 Ak v! D!,nP!,f2 Ak v! M!,nQ!,IsTup.new _ _,nR!,[E!,di!],nS!,V->μ V->Hp->VK->ν,nT!,.Subscript a b pos,nU!,Bq 1 [] jA! m_ A! uW_,nV!,sliceBounds lo hi υ n,nW!,w1 Pe (Ab cE_ Ad),nX!,Bg (Er! Df dm_),nY!,λ_=>Yv,nZ!,h'.objs.size,n0!,(by simp[ha,J]),n1!,[98,105,110],n2!,Nf k! jF_,n3!,.str gZ!,n4!,Xn (Ds_ n3_ (fC (.lst [fe!]))) ah_ cz!,n5!,σ++its,n6!,intC last,n7!,.cons ru .nil,n8!,f2 Ak v! aW_,n9!,wS (Hh g6_)]
def z'nn:String:=z [na_,h.ch y.h,nb_,h1.isEmpty,nc_,#[H,I,q],nd_,"_law_taken",ne_,Wx s.heap x dx C mA,nf_,["thing","limit"],ng_,{s with toks:=s.toks+1},nh_,.obj t.B5 (hF yy ta wa av_),ni_,f2 Oa k! bS!,nj_,show Kj f v ((k,x)::r)=(if k=f then(k,v)::r else(k,x)::Kj f v r)from χ,nk_,chl W.rows x,nl_,f1 Bw b9!,nm_,.lst ((e6_).map (·.2.1)),nn_,NT.mp hq,no_,Str×Value,np_,Vi (Sq 1 Af),nq_,upd tZ! x nr!,nr_,Ap t.B6 "parents" i!,ns_,lN I hg hm ?_ bh,nt_,Ab p! jh!,nu_,Ab aS_ Ad,nv_,starEach [] X.env,nw_,"sibling",nx_,[K!,bc!,"parent"],ny_,Ac aZ! Af,nz_,[K!,bc!,"place",jl_],nA_,.str "redo",nB_,bootBuiltins x=ψ fc_,nC_,.int c u,nD_,v+(n:Int),nE_,.str "drop",nF_,List.range k,nG_,(ag.toList.drop (Gn_ 0 lo)).take ux!,nH_,[t_,L!,υ],nI_,[jv_,ai!,"deed"],nJ_,[K!,gV!],nK_,[K!,di!],nL_,.Slice lo hi υ p2,nM_,(by with_unfolding_all rfl),nN_,HT.sIx xs.length xs.length hi - Eb_ 0 lo,nO_,λb ob q=>MC _ q,nP_,kp.trans d9,nQ_,ms.filter p,nR_,(gB_).filter λo=>!p o,nS_,"message",nT_,(by simpa using z),nU_,z.cps.toList.length,nV_,w2 bM_ p! cE_,nW_,(∀i∈is,bK_<10 ^ 61),nX_,(by simp![MN]<;>omega),nY_,"numbers",nZ_,f1 Tp R!,n0_,[114,111,111,116],n1_,f2 Ar (Ek k! Au (Ao ah_)) jc!,n2_,ay.endLine==ai.line,n3_,Ek k! Au dg_,n4_,λx1 x2=>x1++x2,n5_,Ek v! Au (Ao ah_),n6_,n<=sizeLine,n7_,f2 Ar ee_ g5_,n8_,ks.map kV,n9_,f1 Bw (Ac ee_ Af)]
def z'o:String:=z [oa!,f1 (Hc t) (Ac (Xn (fT Y!) (Uz v! (Ao n9_) Au) v!) Af),ob!,.lst (((g6_).map Cm).map wS),oc!,((1:δ):Int),od!,[ψ g7!,Da_ jL_],oe!,[ψ g7!,υ],of!,d.params.defaults=[],og!,#[bb!,[]],oh!,λr s'=>r=E3! fl!/\OldK au.heap s'.heap/\s'.os=au.os/\G9_ s'.gens,oi!,.bool τ,oj!,h.natAbs<10 ^ 61,ok!,tm.natAbs<10 ^ 61,ol!,[wS line],om!,[E!,"above",nw_],on!,f2 Av jm! js!,oo!,f2 Ar D! (f2 Fc k! v!),op!,"_law_rows",oq!,bB (ne b _ e),or!,λm hm=>hm,os!,λ_ _ _ q=>q,ot!,Inv X hb Z H2 s2,ou!,BZ X scope cl,ov!,Oo NL.length ix Z,ow!,os.map λo=>wS aQ_,ox!,Ca (EI! Fg),oy!,Ca (w2 Cc i! hh_),oz!,wl (fC oz_),oA!,Ab y_ jh!,oB!,An 2 (wl wA!),oC!,wl (fC wD!),oD!,.int (i:δ),oE!,Bg (Ah 4 Ir (Ab i! uv!)),oF!,V.ref p,oG!,hx x MB,oH!,Be 1 [2] (Kp_ bx!) m_ cD! (wl (f2 Ar (KG! n8!) (Bn (Ac (f2 Ar (Ho_ n8!) k!) Af)))),oI!,[D.tup [x,p]],oJ!,λi d q _=>?_,oK!,f ρ=ψ ds,oL!,hw Z G H Q ρ d er e k,oM!,wT (w2 fc! i! p!),oN!,k G' H' s',oO!,Tl nu_ (wl b8_),oP!,λo ho=>?_,oQ!,gn g os,oR!,g5 o ho,oS!,(oQ!).map Op.v,oT!,(ex_).Nodup,oU!,Ra 1 [] ρ=aF_,oX!,NU.mp nd,oY!,[(.non,.non)],oZ!,Ae->Dl_ o0!,o0!,ι Int,o1!,.obj t.B7 o0_,o2!,.builtin "isinstance",o3!,v.reverse,o4!,sub.seq q,o5!,[.int a,.int b,.int c],o6!,(bB!).map d!,o7!,(by rw[<-z];exact hq),o8!,z▸NE hq,o9!,eH (jQ kW χ T.T3 χ T.U1 cW iN v_),oV!,ζ P w K mg base,oW!,λ_ _ _ _ _=>aY (show(ζ:μ Str).Nodup by decide+kernel) χ e!]
def z'oo:String:=z [oa_,Vi (Dj 4 oa!),ob_,Ab i! (Ab aY_ Ad),oc_,Ah 1 (Dh t) aJ_,od_,.lst jK_,oe_,[ψ g8!,ψ a9_],of_,[ψ g8!,υ],og_,.call fm! og!,oh_,λf vs=>PySem.call f vs,oi_,Ai k callerA,oj_,n.natAbs<10 ^ 61,ok_,λ_ _ _=>False,ol_,.tup jR!,om_,[ψ ef_,jR_,υ],on_,(Dz! x qual),oo_,"_law_letters",op_,[op!,cG_],oq_,Ac (Jg! vz_) Af,or_,bB (Di_ hc),os_,k==hb!&&env.scope.kind==.function&&env.kindOf n==ψ .cell,ot_,∀b∈fp,D6! H2 b,ou_,Str.ofString "hand ",ov_,ψ mE_,ow_,An 3 (wl jZ_),ox_,ψ (.lst (svL f os Wt)),oy_,wl (fC C_),oz_,.str "texts",oA_,L2.Key×V,oB_,An 3 (wl (Bn wA_)),oC_,w2 Cc i! oC!,oD_,Bg (Ah 4 Ir (Ab i! gU!)),oE_,ds.drop n,oF_,Be 1 [2,3] (Kp_ (ED! Bw bx!)) m_ cD! (wl (Bn (Ac (IU! D_ R!) (Dh! (f2 Ak wA! k!) (fC u_))))),oG_,ψ ce!,oH_,.lst [.tup [x,p]],oI_,"_law_name",oJ_,Ra nl ix ρ,oK_,w2 Cc y_ oz!,oL_,λb z=>?_,oM_,gn g os=[],oN_,Ah 3 (Rz t) (Ab ai_ w3_),oO_,#[G,ρ,x,er,e1,λG1 H1 s1=>?_],oP_,fT fa ρ,oQ_,#[G,ρ,.bl x,er,lT e1,xa_],oR_,h.all w,oS_,(by rw[MN,MN];omega),oT_,bU sub qb,oU_,DL.f2 Av (DL.f2 Ak k! M!) hd!,oX_,NA.mp hx,oY_,svL f S W,oZ_,(wS fq!::S.map λo=>wS aQ_),o0_,[("following",.fn f),("preceding",.fn p)],o1_,.Subscript a nL_ pos,o2_,#[o,Y,h2],o3_,El KF H p ys\/Eh! p ys,o4_,[.int a,.int b],o5_,bs.all id,o6_,kE.mp hq,o7_,Al KF G1 ds vs,o8_,List.range n,o9_,fQ (qZ (qX (fW o9!) (lV (bJ zE zH fC_ aD l_)))) fD! dG,oV_,Inv X hb Z ζ,oW_,wpAny ζ A η Q E s]
def z'p:String:=z [pa!,aE aM! aJ,pb!,(im x).mp hx,pc!,a7.mono x2.g,pd!,if x=a then l else W.txt x,pe!,("texts",.fn a3),pf!,Str.ofString "texts",pg!,Str.ofString "rows",ph!,Tk->Addr,pi!,V.dm b x->kget k x=ψ (.fn (ad fF_)),pj!,aB (lW aJ),pk!,Bt.cons (j:=1) Bt.nil,pl!,λ_ _ _ _ _=>en!,pm!,gH (n:=8) χ,pn!,aE aD_ aJ,po!,h5.mono x.g,pp!,∀{a1 a2 a3 a4 a5 a6:Addr},GG! bV_ m=υ,pq!,.inr (.inr #[O!,χ]),pr!,#[nz ja,?_],ps!,(E1! qual),pt!,[dw_,bE!,M_],pu!,Co x=ψ kx,pv!,h.noOb oM2,pw!,#[l,?_],px!,ad==sysModules,py!,hI.row (b:=θ) hi,pz!,μ D->ι D,pA!,A'.handled,pB!,oR (kD ck_ (iH (ES! a7_ bk_))),pC!,Bt.cons (j:=3) Bt.nil,pD!,(cT_).map d!,pE!,[am!,cU!,M_,dy_,ψ tx,ψ eh,pD_,ψ cF!,ψ bW_],pF!,b7c yS!,pG!,hO.mono a!,pH!,#[_,χ,?_],pI!,aC r! kG_,pJ!,GS s.heap l1 l2,pK!,.type "zip",pL!,MC _ hQ_,pM!,λc hc=>?_,pN!,bG nd χ e! (aB (Le! aD_)),pO!,(λv y=>by cases y),pP!,bE T.V9 T.W6 l!,pQ!,gC.mp z,pR!,cG Z! bM pP! r! p_,pS!,#[c1,χ],pT!,(E1! x),pU!,(pL l c k).binds b,pV!,Ue rows,pW!,[t.A0,t.A7,t.A8,t.A9,t.B0,t.B1,t.B2,t.B3,t.B4],pX!,rows.map d!,pY!,c ρ=ψ τ,pZ!,f1 ρ=ψ x,p0!,MM (QK 0),p1!,YI _ _ _,p2!,(a==k||b==k),p3!,ρ[i]?=ψ oG_,p4!,.str "move",p5!,.str "undo",p6!,.str "redo",p7!,RK ho hd (LW (c1u hu q2 hk (LW (RK ho hd ?_)))),p8!,.lst its,p9!,RJ ho hd ?_]
def z'pp:String:=z [pa_,gA T.U4 χ,pb_,(pb!).resolve_right q,pc_,setT W a l,pd_,GD X.K g bnd,pe_,x.sub.free hp,pf_,Str.ofString "numbers",pg_,Y.ok G0 F0,ph_,ad .wri,pi_,¬V.dm b x->kget k x=υ,pj_,ρ.set i oG_,pk_,λ_ _ _ _ _=>nE (fJ (E7! aM! I_)),pl_,.List es p2,pm_,aO aH aN aM! aD p_,pn_,.inl #[χ,vs,El.of h3],po_,Kl ds.length j,pp_,gH (n:=9) χ,pq_,mup_ne p1,pr_,A.deeper (Eo_ qual by! aj am),ps_,CI KF ps.length g,pt_,us'.toArray.size,pu_,us'.toArray,pv_,El X.K H a vs,pw_,λq hq y hy q' bc e=>?_,px_,b7.lookup y,py_,aC G! kG_,pz_,List.range m.toNat,pA_,#[u,χ],pB_,bF (sc:=Aj Sl) χ c_,pC_,cs.zipIdx k0,pD_,ψ yQ_,pE_,[am!,cU!,M_,dy_,ψ tx,ψ eh,pD_,ψ cF!,qz],pF_,(.tup kO!,.str H_,τ),pG_,.obj C fs,pH_,#[ho,χ,k],pI_,Yo ad V,pJ_,V.nw x b,pK_,MY λz=>hx zc!,pL_,mup_ne hn,pM_,λc o e=>?_,pN_,V.nn x fQ_,pO_,bB (ne c _ e),pP_,bB (ne d _ q),pQ_,λc hc=>?_,pR_,cD (dR T) b! l! aw_,pS_,A.deeper (Eo_ x by! aj am),pT_,Wo n es,pU_,ns.map D.int,pV_,Xg rows,pW_,aM (lL T) b! χ bG!,pX_,c ρ=ψ θ,pY_,aM (fM T) b! χ ev!,pZ_,Builtin.Str.occurrences x y 0 x.length ak,p0_,.bl gh_,p1_,.tup [.str a,.str b],p2_,[fT_,ev_],p3_,Ju P w s.heap x u,p4_,aE aD aJ,p5_,sN a_ bC_ p_,p6_,[.int 9,.int 9],p7_,hr x hx,p8_,((m:δ):Int),p9_,[bX_,z9!,DB_ [.int h',ar!,ew_,.tup [cm_,a,b,bF_]],y]]
def z'q:String:=z [qa!,letters.length,qb!,#[cs.toArray],qc!,λ_=>ψ τ,qd!,[ψ d4_,dF!,ψ qb_],qe!,(by simpa using ar),qf!,Gr.m a5r,qg!,hH.trans Y,qh!,nH cN a3v χ T.T4 eC (aC cW! aK),qi!,[bZ!,cn_,bX_,dF!,fY_,fX!,fY!,le_,le!,ψ T_,ψ sg,υ],qj!,μ D->Mh->ν,qk!,xF T.U8 χ,ql!,st.mr.ext x,qm!,.refl st.or.sub,qn!,MT X own c ft,qo!,#[o,h],qp!,[aF!,ar!,.int (k:δ)],qq!,bA fK fL (Jq! p4_) aD,qr!,LW (TC hT Y_),qs!,.str k',qt!,.tup (.str k::a::r),qu!,.tup (.str k::a::b::c::r),qv!,compareOp .NotIn,qw!,[.int o.h,.int o.n],qx!,Mh->μ D->ι D,qy!,.dct q.2.1 q.2.2,qz!,(by show 1<=1000;decide),qA!,.bl (Gd o.d).isSome,qB!,(FQ! a9_).bind λx=>Ak x O_,qC!,(∀o∈os,DG o.d),qD!,(cp!).trans x3 m2,qE!,[ie!,as!,υ],qF!,I.laid vf! u! #[#[D0,OL.mpr (OB (NX I.big)),OA _],by let#[o,h,_]:=D0;exact qo!,AE!],qG!,Value×Value,qH!,kget wd o.nm,qI!,HL M0 M l,qJ!,[root,binn],qK!,[(root,y),(binn,z)],qL!,sr.grow x m,qM!,(∀b,M b≠υ->M' b=M b/\¬O b),qN!,Jd P w KF own M0 G0 F0 M1 G1 H1 Z ρ,qO!,MI X own tg iter fi,qP!,λy hy=>hd y cH_,qQ!,g M x y=ψ d,qR!,M p=ψ H!,qS!,((j:δ):Int),qT!,[al!,ψ ii_,L!,ψ qS_],qU!,ψ (.lst qT_),qV!,[al!,qU!,L!,BR!],qW!,((b2!+c2_:δ):Int),qX!,(λi v=>∃e,es[i]?=ψ e/\v=e.key),qY!,D.str.inj z,qZ!,k3 (.lst lL!) f8_ lL_,q0!,(q.2:δ),q1!,starEach [a] X.env=dY!::F0! X.env,q2!,LY _ im!,q3!,.bool (lexLt ms ns),q4!,rs.take k,q5!,Ar ij! bv_=_,q6!,#[by simp[big];omega,?_],q7!,((aH!:δ):Int),q8!,.lst [Bf bU!],q9!,Keyed->Int]
def z'qq:String:=z [qa_,LW (uB hu hk λtk=>LW Ad!),qb_,.str letters,qc_,al_<=sizeLine,qd_,bJ ag! bZ v_ aT l_,qe_,[bZ!,cn_,bX_,dF!,fY_,fX!,fY!,le_,le!,ψ T_,υ,υ],qf_,Br h1 d x,qg_,h2.mono e,qh_,eK (rL! jH ev!),qi_,.tup [k6!,item,.int (m0 / 12%4),.int (m0 / 48%2000 - 1000)],qj_,hw Z G H Q ρ M R st e k,qk_,[.tup [fQ!,.int (1+m0%5)]],ql_,aC l! (aC bm_ aK),qm_,Jx fa fb,qn_,Bs.laid x1.sub hp,qo_,(f2!).set p.toNat lp!,qp_,nF (eA I_),qq_,λ_ _ _ _ _=>aY (i:=0) x0_ χ e!,qr_,#[a',b',c',e',MV _ hm],qs_,Fs (D.str k::r) 0=_,qt_,.tup (.str k::a::b::r),qu_,f3 ρ=ψ c,qv_,λx hx=>h x aT_,qw_,(k=="undo"||k=="redo"),qx_,ops.map Op.key,qy_,Lg M1 d,qz_,q.2.length,qA_,Lg M2 d,qB_,kget q.2.1 y,qC_,.dct σ ep,qD_,mup_ne J,qE_,⟨_,dU_,zL!,χ⟩,qF_,⟨[],cC,.nil,QC⟩,qG_,λx=>?_,qH_,Addr×Dd,qI_,mup M b c,qJ_,.inr (s.noF z),qK_,Y.ok M0 G0 F0,qL_,Ki M3 d y v,qM_,(by show 2<=1000;decide),qN_,Pq wd os,qO_,ψ x.v,qP_,λy hy=>hp y cH_,qQ_,DN P w KF ps.length g,qR_,Nn s.heap d es ep,qS_,.int BP_,qT_,(af_).map Op.v,qU_,(b2!:δ),qV_,((b2!+m:δ):Int),qW_,[al!,ik_,L!,z],qX_,(BS_ "undo"==k||Str.ofString "redo"==k),qY_,(by simpa using jg),qZ_,W.its.map λi=>(i,.lst lM!),q0_,X.mg "enumerate"=υ,q1_,Gl X "enumerate",q2_,[x!+1,x!],q3_,HT.lexLt ms ns,q4_,.int Cc_,q5_,Be 1 [1] _ _ _ _,q6_,[ψ f9!,M_],q7_,.lst ((eE_).take a),q8_,m1.ext xj,q9_,!decide (x=i)]
def z'r:String:=z [ra!,λ_ K hK=>?_,rb!,∀k ab,Gd_ ab->1<=k->k<=n->Up r x_ k->Q (ψ k) ab,rc!,fS hw χ,rd!,bI! / 2,re!,(aN!).map Cv,rf!,l.map Cv,rg!,[U!,al!,CJ_,lV_,y4,ψ lV!,in_,lJ!,υ,υ],rh!,L.map Q_,ri!,ni i hi,rj!,hb++[gg!],rk!,λd q=>Lv d=ψ q,rl!,seqObj "list" #[] e1,rm!,Paired dM! ds us,rn!,(by rw[QE];omega),ro!,Jh g q.2,rp!,Gd x.d=υ,rq!,(eJ_).push dN!,rr!,NJ.mpr #[ML,QC],rs!,k3 eI! f8_ lL_,rt!,mixKind prog w,ru!,(by rw[OP];omega),rv!,#[_,χ,hq],rw!,gN (a3n h) χ,rx!,x1.sub.seq sq,ry!,seqObj "list" its.toArray 0,rz!,(∀f,Nk (DY! f) (mA f)),rA!,Et P w H h a o,rB!,gN (sL h) χ,rC!,∀b xs,H b=ψ aO!->H' b=ψ aO!,rD!,ItemsOf qX! σ al_,rE!,Paired.mapP ok.1 λ_ _ z=>z.1,rF!,(QM.mpr λx hx=>by let#[_,_,rfl]:=NC.mp hx;rfl),rG!,λv d=>Gz h3 v (iw!).1 (iw!).2,rH!,vA χ ?_ (gN (a0p _) fz),rI!,seqEpoch_at mz χ ?_,rJ!,Kf gm_ (Mz h3 p.1.1)<Kf gm_ (Mz h3 q.1.1),rK!,(show DE! Et H s.heap d dJ_ from I.hok d _ e2),rM!,List.range c4_,rN!,∀{aj:Addr} {am:Value} {A:Around} {outer:aO_} {s:Shared} {H:Hp} {E:XK},Ai k pr_->N.Nodup->GY_ Vn ps!,rO!,W.isFn KF ag_=τ,rP!,(Dz! "__init__" qual),rQ!,X.env.kindOf x=ψ .cell\/GE_ x=ψ .free,rR!,I.ok.noex b o e,rS!,fa ρ=ψ ae!,rT!,jX [(t.B4,a)] (one #[_,i9,sL Y]) c!,rU!,(∀b o,b≠I->b≠S->h.get? b=ψ o->Du_ b=ψ o),rV!,(λ_ z=>nomatch z),rW!,#[_,a9,bm,hL,r'],rX!,(by simpa using ua),rY!,iO (b0p _) pln,rZ!,λ_ _ e=>e,r0!,λ_ _ _ e=>e,r1!,λm hm=>?_,r2!,UK j8 λ_=>[.int x t,.int x t].toArray,r3!,(by simpa using c),r4!,#[o,Ge! yn e1,e2],r5!,x.h≠6/\x.h≠3,r6!,(by simp[Zx];omega),r7!,os++[#[a,c a+1,t a+1+m / 3%3,dd]],r8!,λh=>if h=a then t a+1+m / 3%3 else t h,r9!,.builtin "max",rL!,aM (ζ T) b! χ η]
def z'rr:String:=z [ra_,[ad!,as!,y],rb_,Aa 2 ρ=ψ cX!,rc_,arrOf bt,rd_,(qa i,Dd.lst (if i=a then(f2!).set p.toNat lp! else W.num i)),re_,.lst re!,rf_,.int c2!,rg_,λz hz=>?_,rh_,(rh!).map kf,ri_,Jg W aq_ W.rows,rj_,Ai k X.A.in1.in1,rk_,∀H':Hp,H' a=υ->D6! H' a,rl_,a3j hL dv0 oY bq,rm_,Iy eI_ ds,rn_,μ (Keyed×D),ro_,fa ρ=ψ y,rp_,WK ?_ bn!,rq_,(by rw[BC!];exact g4),rr_,(λq=>nomatch q),rs_,s.heap.IsList l eq!,rt_,#[u,l6_,h2],ru_,#[_,li,χ],rv_,(by rw[<-z];exact hc),rw_,.tup (p.1.map kV),rx_,(II! dN!).update s1.heap.objs.size (Obj.mapSeq (·++an_)),ry_,(rx_).push ry!,rz_,(by rw[(bL _).length_eq,OP];omega),rA_,(show h.get? a=ψ _ from x),rB_,fH χ (c0x χ),rC_,PK (by rw[QG,hi.1];omega),rD_,λq e=>Ck KF G q.1 e.key,rE_,λbs=>D.bl o5_,rF_,(λb J=>by rw[l0_];exact g6),rG_,W.methodObj ag_ (.ref y),rH_,L'.map (·.1.2),rI_,∀b u,b≠e->h.get? b=ψ u->Du_ b=ψ u,rJ_,(Zj λys Q H=>∀l,H l=υ->Q fi! jD!),rK_,.tbl (ps++pz),rL_,∀c∈cs,∃g,Jl t c.1=ψ g/\g [c.2]=ψ u_,rM_,Cg ja! A! ja_ [υ,υ] iy_,rN_,h.get? b=ψ o,rO_,W.codeIn KF am qual=τ,rP_,(e7!).lookup k=DB_ fs,rQ_,Fm t [.tup r,.tup fs]=ψ u_,rR_,NK c5_ I.ok.above,rS_,λb o e hx=>?_,rT_,λi x v e1 e2 e3=>?_,rU_,Bj xs=τ/\Ct xs<=1,rV_,.builtin "max.loop" #[[.ref I,.none,.ref S],kw],rW_,QU hS χ ?_,rX_,(toString "max"++toString ".loop":String),rY_,λ_ _ _ _ n=>n,rZ_,iO c6! (iO (tY Y) pln),r0_,#[#[],by rw[e];simp],r1_,λb u e=>?_,r2_,∀b u,yY_ b=ψ u->Du_ b=ψ u,r3_,#[o,Ge! ua e1,e2],r4_,((I0_ os).length:δ),r5_,e1.trans e2.symm,r6_,storeName X.env x u,r7_,λh=>if h=a then c a+1 else c h,r8_,(BS_ "default",v),r9_,#[iC!,iC!,I.base.free,rS_,I.base.tups,I.base.frzs,I.base.tbls]]
def z's:String:=z [sa!,λj y v' e1 e2 e3=>?_,sb!,dv.map λv=>r8_,sc!,fx ρ=ψ a7!,sd!,z.sameBut hs (cne y c e),se!,cs.set k (.int (c+1)),sf!,ts.set k se_,sg!,Bool->Hp->ν,sh!,backTo pos mr!,si!,PN he χ χ ?_,sj!,V->V->Hp->ν,sk!,∀v u s2 x y H2,oV_ H2 s2->Bi x v->Bi y u->R x y H2->BQ_ (f v u) Q X.xe s2,sl!,λv au=>BQ_ sk_ (HC! (f v u) Q) X.xe au,sm!,.nx (wE ns base N ke c' t' mt_ y7 y8 y9),sn!,eval cv! X.env,so!,bootBuiltins x=ψ u,sp!,op==CmpOp.NotIn,sq!,λz=>J iE!,sr!,λa b e=>?_,ss!,#[H1,I1,q1],st!,F.args_enumerate_next_1 _,su!,Str.ofString "taken",sv!,#[_,_,_,he],sw!,∀b∈c1_,D6! H b,sx!,#[_,he,hi_],sy!,(by simpa using hs),sz!,#[ok.mod,ok.kind,ok.glob,ok.blt,ok.above,ok.inj,ok.has,ok.cab,ok.hd,ok.frames,ok.stk,ok.exf,ok.bs,ok.bsz,ok.noex,ok.exfs,ok.funs,ok.frf],sA!,swapsWith e υ pos.line X.env=pure θ,sB!,upd H c (dE c a9 w_),sC!,.Return υ pos,sD!,(λ_ s'=>∃ac H',Ew_ s'/\Q ac H'),sE!,#[I2.kIn,?_],sF!,.Subscript o i pos,sG!,(a,.obj t.B5 []),sH!,λ_ h=>(Kp! h),sI!,(a,Gk! sH_),sJ!,.type "dict",sK!,.While c body [] pos,sL!,.Name "enumerate" p2,sN!,#[G,ρ,M,_,st,e,BL!],sO!,(by rw[z];exact J),sP!,NN (I.pin p hp).1,sQ!,.lst (Dk_ n.toNat vs).flatten,sR!,mup_ne (OB at_),sS!,HM X hb Z tg R,sT!,.dct (gs!++sS_) cn!,sU!,s.cps.toList.drop i,sV!,{s with heap:=h'},sW!,λb o J e=>eb b o J e,sX!,(ψ (v x)::rest),sY!,(ws.map λw=>c::w),sZ!,Yp a ta ae af b\/b=wa,s0!,(((mS_).toNat:δ):Int),s1!,.Name "range" p,s2!,(match M wa with|some (.lst xs)=>_|_=>False),s3!,Int.negSucc m,s4!,starEach [b] X.env=[iS_],s5!,show intC mV_=Ny m from qQ m,s6!,.For tg iter body [] pos,s7!,RH (EB! SE),s8!,T.obj _ _ ng,s9!,ψ ((max i S!:δ):Int),sM!,ψ (.lst ζ)]
def z'ss:String:=z [sa_,(by simpa using I.len),sb_,if h=a then t a+1+m / 3%3 else t h,sc_,#[u',r',?_],sd_,.int (Zx 0 υ xs),se_,.int (t+1+m / 3%3),sf_,aZ χ (Jy_ c1r) χ,sg_,(∀b o,b≠e->b≠it->yY_ b=ψ o->Du_ b=ψ o),sh_,field cl! 2>>=_,si_,PN vm χ χ ?_,sj_,ta Z H λx H1=>tb Z H1 λy H2=>R x y H2,sk_,eval b X.env,sl_,.Constant ae! j pos,sm_,.Constant .none j pos,sn_,(by rw[I.ok.glob];exact I.mod.glob.keeps I.bk),so_,op==CmpOp.In,sp_,EX X hb H s.heap e it i,sq_,dP (KG_ ha h) λc s1 e=>?_,sr_,(by rw[show(((i+1:δ):δ):Int)=(i:Int)+1 by omega];exact a),ss_,Str.ofString "ours",st_,Str.ofString "waiting",su_,h hb s Z H Q I hw,sv_,(BS_ "taken",.fn ta),sw_,dP (DC! hc _ I h) ?_,sx_,(xs.take w_).zipIdx.map λq=>gs_,sy_,Al X.K G xs vs,sz_,((eX!).length:δ),sA_,mup M c (.dct sx_ w_),sB_,fA b_ mF_ mG_ (uG hA),sC_,St->Hp->ν,sD_,λA R s=>yY_ l=ψ {cls:=.type "list",dict:=υ,data:=G8_ ag,slots:=#[]}/\(∀y,y∈ag->SeqAt.EqAt A.in1 s y x (e y))/\R mC! {s with heap:=DV! l (Obj.mapSeq λxs=>xs.eraseIdxIfInBounds j)},sE_,(∀b,Yp a ta [] iN! b\/b=wa->M b=υ),sF_,eval i X.env,sG_,dP (DC! ho _ I h) ?_,sH_,hF yy ta wa .non,sI_,(ta,.dct [] 0),sJ_,(by rw[hp];simp),sK_,mup M1 p b5_,sL_,[Hf! sL! ue],sM_,.lst (FJ_ dT_++cr!),sN_,#[v,_,M1,G1,χ,r1,x1,m1,q1],sO_,mup_ne λz=>ho dq_,sP_,x1.sub.seq q,sQ_,letOwnedTupleGo tg b6_ u,sR_,mup_ne (OB aw),sS_,[(.int o.h,.fn q)],sT_,["enumerate","zip","dict_itemiterator","dict_reverseitemiterator","odict_iterator","itertools.zip_longest","itertools.pairwise"],sU_,(bn.size<ak/\free<=i)/\i+(da!).length<=F!,sV_,(λys hy=>by rw[I.list_inj hy hq];exact hx),sW_,(show Ey! a an_ from p),sX_,I1.kept (t':=s1.toks) λb o e=>MC _ e,sY_,MY (λz=>h.1 z.symm),sZ_,(by rw[e];exact J),s0_,starEach [a] X.env=[dY!],s1_,.lst ((HM! S).map Op.v),s2_,.Call s1! [a] [] pos,s3_,starEach O! X.env=[dY!,iS_],s4_,.Call s1! O! [] pos,s5_,ψ (j:Int),s6_,λb J=>(d0!).1,s7_,[t_,b7_,sM! [w.v]],s8_,step x H5 y5,s9_,Txt.slice z jx! hi]
def z't:String:=z [ta!,MF _ (MF _ (jM J e)),tb!,z.cps.toList.drop i.toNat,tc!,V->Hp->VK->ν,td!,d5x ha J I h λv u s2 x y H2 I2 rx ry q=>ho hb s2 Z H2 x y v u Q I2 rx ry q,te!,#[.int bu!,H,aP_,A_,q],tf!,As t M0 yy a ta wa Wt out S kl ca,tg!,(∀b,M0 b≠υ->M b=M0 b),th!,(∀b,M0 b≠υ->M' b=M0 b),ti!,Ss λi j=>.int (i - j),tj!,[t_,ad!,as!,L!,lA!,L!],tk!,λb J=>Jm_ (eB J h0) d1!,tl!,compareOp .NotEq,tm!,compareOp .Gt,tn!,dQ b_ b_ i1,to!,λx y H Q=>y=.non/\Dw_ Q (x=.non) H,tp!,starEach [e] env,tq!,λx hx=>hk x aT_,tr!,Yz r r' ta tb tc,ts!,(by rw[ND hi,ei]),tt!,∀M',eC_->D5_ M',tu!,(show False from e),tv!,s1++BS_ d4!,tw!,.builtin "abs",tx!,#[.str _,H,aP_,A_,q],ty!,.int (x.cps.getD 0 0:δ),tz!,.builtin "len",tA!,#[.int j!,H,aP_,#[_,by simp![MN];rw[ao]],q],tB!,W.plainGet K C name=τ,tC!,(l.filter λx=>p x||q x),tD!,f2 ED tC_ tD_,tE!,kl.flatMap (hs S),tF!,fT (Jn "tuple" k!),tG!,#[by simp![MJ];delta big;omega,?_],tH!,(aX!).map Op.v,tI!,f1 Fk (Ac (KG! k!) Af),tJ!,f2 Av k! gF_,tK!,dM b_ hob hF4,tL!,(show∃t,u=Value.int i t from r),tM!,.ins C dx (Kj f y fs),tN!,[ψ q.1,dw_],tO!,Dr (fT (Jn "str" aR_)),tP!,Ek k! dg_ Au,tQ!,fT (f1 (Fm t) (Dh! tP! (Ux e7! aR_))),tR!,f2 Rg (f2 Ar (Ho_ e5!) jc!) b8_,tS!,backTo pos (Dm! args),tT!,.Call (D7_ e m) args [] pos,tU!,wT (I4_ i! cB_),tV!,congrArg (Wd.mk _ _ _) (c3g g nd),tW!,.Tuple es x1 pos,tX!,I1.laid (t':=s1.toks) (λb u e=>MC _ e) u! ?_,tY!,Ag (Vi (Qg 1 D_)) (An 2 (Ij! bN!)),tZ!,upd H1 dx ix!,t0!,f2 Eb v! D_,t1!,dP gA! λus s1 ⟨vs,H1,I1,r,q⟩=>#[I1.kIn,?_],t2!,.Attribute o m ay,t3!,Bg (E5! aY_),t4!,Bv dj_ p! gL_,t5!,Bv nu! p! t4_,t6!,I.hok.fresh (QV _),t7!,#[yy,1+ji!,1+Vj S,d],t8!,At (Je (wT (Ba t.B6 "can_move" 3 (Ea t) i! (Ab p! cB_)))) Oh Bl,t9!,.Call (.Name x p) [] [] pos]
def z'tt:String:=z [ta_,I7.pin (b,o) ta!,tb_,Value->Value->Sem Value,tc_,∀x∈Wt,x.h=h,td_,.int bu! s.toks,te_,.bl (Jc! z y),tf_,Int->Int->Bool,tg_,dn.map λo=>iX!,th_,intBits_le_64 Y h2,ti_,binaryOp .Mult,tj_,(by simp[jg,vp]),tk_,Builtin.SmallTypes.fitsIndex k=τ,tl_,(by simpa using hl),tm_,dQ tn! b_ i2,tn_,compareOp .Is,to_,compareOp .IsNot,tp_,λx y H Q=>y=.non/\EA! (!decide (x=.non)),tq_,λx y H Q=>Gs_ r\/Gs_ r',tr_,hc hb s3 Z H3 _ I3 q3,ts_,xs.zipIdx.map λq=>I3! (q.2+k:δ),tt_,#[H,aP_,by rw[wR r];exact q],tu_,ur.mem_iff.mp ho,tv_,ys.map λ_=>τ,tw_,(λxs H Q=>∃i,xs=dc_/\Q (.int i1_) H),tx_,.builtin "ord",ty_,(λxs H Q=>∃x,xs=[.str x]/\dd_=1/\Q ty! H),tz_,.Pass #[0,0,0,0],tA_,[bL_,bv!,de!,e4_,aR!,nd_,"_law_waits","_law_due",ne!,i3_],tB_,W.hasDictIn K C=τ,tC_,fC (.int 10),tD_,fC (.int 60),tE_,ψ (.builtin "object.__setattr__"),tF_,de_<=sizeLine,tG_,(by rw[MX];omega),tH_,([]++kl.flatMap (hs S)).map Op.v,tI_,(by rw[hp.length_eq];exact hS),tJ_,f2 Av k! ni!,tK_,Dr (fT (Ie Rg Rg D! cz! b8_)),tL_,(show∃t,u=Value.str x t from r),tM_,(by rw[e];exact jb!),tN_,if g=f then ψ u else mA g,tO_,fT (BR e7! τ aR_),tP_,λb u q=>MC _ q,tQ_,f2 AL aR_ (fC dh!),tR_,.Attribute e f pos,tS_,keywordEach [] X.env,tT_,Oi (Dx bM! bM! Mq),tU_,i∈W.its/\Ge W p/\¬Kq! p,tV_,#[((b3q nd).1 c g).trans ah!,g.nd nd],tW_,dP (h pos hb s Z H _ I hq) λus s1 ⟨xs,H1,I1,r,z,q⟩=>#[by rw[<-r.length];exact z,?_],tX_,Cp (fT (IY_ D_)),tY_,l.map λh=>D.int (f h),tZ_,λv H2=>v=.non/\Q gj_ H2,t0_,Ba t.B6 "has" 2 gx_ i! cB_,t1_,Bv nr_ p! aY_,t2_,starEach aI! X.env,t3_,backTo pos t2_,t4_,Wz nu_ (wl cA!),t5_,.cons χ .nil,t6_,(Value.ref Z_::e9!),t7_,.tup [.int yy,.int (1+ji!)],t8_,X.mg x=ψ ao_,t9_,(∀v,(x,v)∉binds)]
def z'u:String:=z [ua!,∀M',eC_->R nh! M',ub!,[L_,.lst (jk!).flatten],uc!,(by simpa using Y),ud!,Ap t.B6 "written" i!,ue!,cellsFrom Z_ scope.names [],uf!,([]:μ Addr),ug!,"operation_name",uh!,λb z=>GZ! (rm b),ui!,An 5 (wl (IU! (KG! D_) gQ!)),uj!,w2 Cc e9_ p!,uk!,x.above y c (QZ h),ul!,w2 Cc nu! p!,um!,∀vs H Q E,Fw! E->bu_=af!,un!,Ca (Ba t.B6 "signs_of" 2 (Dz t) i! at!),uo!,dP gA! λus s1 ⟨vs,H1,I1,r1,q1⟩=>hc hb s1 Z H1 vs us Q I1 r1 q1,up!,At (FA_ (f1 Aw bd_)) (Bv p! uo_ (wl gS_)) Bl,uq!,fT (f1 Aw jq!),ur!,if v<0 then max nD_ 0 else min v (n:Int),us!,Cp (Ds_ be! js!),ut!,Cp (Jo! ju_),uu!,Cp (Jo! nE_),uv!,Ab dl! (Dt! jf! bM!),uw!,Cp (Jo! fe!),ux!,sIx ag.size ag.size hi - Gn_ 0 lo,uy!,An 1 (Gh t.B6 1 (Hm t) Ad),uz!,uy_==0&&(1:Int)==1&&ux!==ag.size,uA!,f2 Ak Y! ah_,uB!,At uz_ (Bg (K7_ Mm uA_)) Bl,uC!,ι Int->Hp->ν,uD!,x.h=o.h/\x.n=o.n,uE!,∀x∈Wt,¬uD!,uF!,dQ (sU jx_ ao) b_ ?_,uG!,Ay (wl (f1 Cy b9!)),uH!,#[by show(mA!).length<big;rw[MJ];delta big;omega,?_],uI!,.lst (FJ_ dl_),uJ!,Ab (wl nP!) Ad,uK!,NR (tK xs lo hi) hz,uL!,Ag (An 2 aS_) (Ag (H0_ g0_ HB) ea!),uM!,ms.filter λo=>!p o,uN!,wT (w2 fd_ (wl (G5_ aa!)) jz!),uO!,OO (Eu! c),uP!,At (FA_ uO_) Di Bl,uQ!,(by rw[e1,e2];exact az),uR!,An 4 (w2 Cc (IP_ p!) (wl aW_)),uS!,#[z,H,I,a7,q],uT!,wT (w2 (λ_=>Rg) aY_ (Hn y_ gW_ (Jr_ gX! gW_))),uU!,hf.u.op x (hf.q x hx),uV!,λr s'=>r=w/\DR_ r s',uW!,Bv y_ gW_ aY_,uX!,fT (ED! Vb nU!),uY!,(·.setIfInBounds j u),uZ!,(W1.length:δ),u0!,An 2 (HL_ 1),u1!,f2 Yv (Hp_ Bw) M!,u2!,(by rw[hk];exact#[_,I',q]),u3!,if a then 1 else 0,u4!,wl (DO! 8),u5!,λw hw=>wC rx fx r fs w jq_,u6!,wS (Gl! g1!),u7!,Ah 2 (Fi t) eb!,u8!,λh' c' kp e=>fin its r' hz h' c' kp e,u9!,fC (.str "-")]
def z'uu:String:=z [ua_,(by simpa using h2),ub_,(jk!).flatten.zipIdx.map λq=>gs_,uc_,Bg (Ba t.B7 "put_behind" 3 (Cj t) (Ij! e9_) (Dt! gO_ jl!)),ud_,Bv ud! gO_ (wl bw_),ue_,Od CX P w K mg base N qual scope f cd A outer s H E,uf_,(show b∈uf! from z),ug_,(os.filter p).map Op.v,uh_,f2 Ar fb! Y!,ui_,U.filter λo=>!decide (o.h=k0),uj_,At (wT (I4_ uj! (Ab jl! Ad))) (Bv (Ap t.B6 "hidden" i!) jl! gR!) Bl,uk_,List.getElem?_take_of_lt a!,ul_,W.fnOf name qual params body scope dV kV bu pm an am ct,um_,W.codeIn K am qual=τ,un_,iP I hg hm hv ?_ hn bh,uo_,wl (f2 Ak bx! D!),up_,(by rw[nW];simp),uq_,if v<0 then(nD_).toNat else min v.toNat n,ur_,((sIx n n hi:δ):Int),us_,s.heap.IsSliceOf sl vl vu .none,ut_,S++[AN S 3 d],uu_,∀M',Hu! To X ut_ Wt M'->R (AN S 3 d).nm M',uv_,.tup [hX!,.str "root",.non],uw_,Cp (Jo! dh!),ux_,Cp (Jo! jv!),uy_,((sIx ag.size 0 lo:δ):Int),uz_,wT (w2 fc! aY_ y_),uA_,Ab p! (Dt! aY_ (wl uA!)),uB_,(by rw[<-e];exact hH),uC_,∀x∈Wt,DG x.d,uD_,Gg t.B5 "outline" i! bM!,uE_,V->Dl_ Int->Dl_ Int->Hp->VK->ν,uF_,dP (DJ_ hl _) λvl s2 ⟨l,H2,I2,pl,q2⟩=>dP (hu hb s2 Z H2 _ I2 q2) ?_,uG_,s3.heap.objs.size,uH_,Ap t.B5 "outline" i!,uI_,KM t yy a ta wa I,uJ_,Ba t.B5 "have" 2 gW! i! uJ!,uK_,(r.drop nN!).take nN_,uL_,[t_,i2!,ψ O_,υ],uM_,wT (Er! Dg eb!),uN_,At uM_ Di (At uN! Di (An 5 (Jr y_ aY_ ai_))),uO_,f2 Eb aa_ Y!,uP_,OI.mpr λw m7 z=>?_,uQ_,call fc_ (v::us),uR_,f2 Ak Y! M!,uS_,(by rw[hj];simpa using ew),uT_,At uT! Di Bl,uU_,slot_list_getitem.lookup,uV_,(by rw[MN]<;>omega),uW_,f1 (Bc t) R!,uX_,.int ((b3_:δ)+dZ_),uY_,OK _ _ (OB J),uZ_,wT (Er! Do (Ab p! aJ_)),u0_,upd H p (J3_ j),u1_,Bg (Xa cE_ (wl be!)),u2_,Bg (Jr_ gX_ (wl be!)),u3_,if b then 1 else 0,u4_,wT (w2 (λ_=>Vk) nW! u4!),u5_,(show its.toArray.any gY_=its.any gY_ by simp),u6_,[DB_ g0!],u7_,.lst ((g1!).map wS),u8_,(g1!).map gY!,u9_,Bq 1 [] (Ru k!) m_ A! nZ_]
def z'v:String:=z [va!,(by simp[ha,J,hc]),vb!,#[#[o,e,ex.1],λa e2=>?_],vc!,[intC a,intC b],vd!,backTo ai mr!,ve!,List.replicate k its,vf!,λ_ _ q=>MC _ q,vg!,Ac (f1 Ev vf_) Af,vh!,fT (f2 Eb (Hp_ Cw) k!),vi!,.lst (xs++zs),vj!,fO (Jm! jJ! n1),vk!,c0w (Jm! jJ! n2) (Jm! jJ! n3),vl!,Vr (Ab (JF! (gl Bu) jz!) Ad),vm!,f2 Av n3_ (Im vl_),vn!,(by rw[z];decide),vo!,.tup [h,n,tm],vp!,.lst [.str a],vq!,∀x∈xs,PG x,vr!,Wy 2 (wl tP!),vs!,Ah 3 (Gx t) (Ab p! (Ab ai_ cB_)),vt!,ns.map WData.int,vu!,pre_splitW p9,vv!,At (Ik! vu_) Di Bl,vw!,Ah 2 (Fv t) dm_,vx!,w2 Lw y_ (Ri (Ab (EI! (Ip t)) at!)),vy!,show(3:Int)=((3:δ):Int)from χ,vz!,.lst [aF!,ar!,ew_],vA!,.str (mk line),vB!,Params->W.Frag,vC!,(∀(s:Shared) (u:Value),GG_ jP! [(x,u)]),vD!,[Yl h n tm k r],vE!,ι Value,vF!,AH K x qual st f fd,vG!,∀(kV bu pm:Value) (an:do_) (am ct:Value) (us:o!),as_=af!->GH! on_=pure di_,vH!,Bn (Ac be! (Ac jt! jq!)),vI!,(by simpa using hx),vJ!,Ta h n tm "write" h0!,vK!,f2 Fc (f2 Jm v! (f2 Ar D! (f2 Nz ah_ k!))) (DO! 41),vL!,f2 Ak D_ vK!,vM!,(.int h::.int n::.int tm::ds),vN!,Dj 4 (f1 Cf (Ac k! b9!)),vO!,Dj 6 (K1! (f2 Ar (Ek aa_ dg_ Au) (Ek aa_ Au dg_))),vP!,Str×NameKind,vQ!,Ii (fT (Jn "str" bw_)) (Dj 7 bS!) Em,vR!,ForInStep.yield ((name,a)::r),vS!,Dj 9 (f2 Ak bd! (f2 Fc aa! vT!)),vT!,fC (.int 12),vU!,Ii (Ds_ a1! js!) (JT_ (Dh! (K1! aa_) bw_)) Em,vV!,λp hp=>hn p jV!,vW!,Ii (JS_ ju_) (Bh (Bn (Ac a1! (Ac aZ! (Ac (Lc! aa_ ah_) (Ac bw_ Af)))))) Em,vX!,Ii (JS_ nE_) (JT_ ny_) Em,vY!,[t_,ψ eg_,b7_,ψ C_,υ],vZ!,f2 Jm aa! vT!,v0!,Ii (Go (JS_ dh!) (fT (IY_ jV_))) (JT_ (Lg! (f2 Ar D! (f2 Fc vZ! (f2 Ko b8_ (Ho_ jV_)))))) Em,v1!,Ii (fT (f2 (Uw θ) a1! (KB! [dh!,jv!]))) (Bh (Bn (Ac (fC jv!) (Ac aZ! (Ac (f2 Fc vZ! cA!) (Ac (f2 Ko (f2 Fc (f2 Jm aa! (DO! 48)) (DO! 2000)) (DO! 1000)) Af)))))) Em,v2!,Bh (KI! a1! (K1! (Aa 11))),v3!,Str.ofString "hand "++BS_ d4!,v4!,is.map λi=>D.int bs_,v5!,ψ (.lst v4_),v6!,Dj 7 (Jg! v5_),v7!,ForInStep.yield ok,v8!,Wa 5 bd! (f2 Ar (Ff_ (Lf 5 bd!)) (f2 Fc (f2 Jm bw_ ah_) ah_)),v9!,Qg 3 (Bn (Ac (f2 Ak (Gg! [O_,(.int 5),(.int 15)]) bd!) (Ac (Lf 4 bd!) (Dh! (Lf 5 bd!) a1!))))]
def z'vv:String:=z [va_,(λ_ e=>nomatch e),vb_,#[o,e,ex.2.1],vc_,[intC a,intC b,intC c],vd_,List.replicate k xs,ve_,Obj.mapSeq f,vf_,Ac (Ek v! (Ao ah_) Au) Af,vg_,Dr (fT (Hp_ (Bc t))),vh_,[Ea_ jH!],vi_,ie.toArray.size,vj_,.str "waits ",vk_,fO (Jy_ lg),vl_,Ac (f1 Bu b9!) Af,vm_,At (FA_ vm!) (Ay (GS_ at!)) Bl,vn_,Heap.SameBut a s.heap h',vo_,.tup [h,n,tm,g6!],vp_,.lst [.str b],vq_,starEach [e] X.env,vr_,starEach [e,f] X.env,vs_,((cb!+1:δ):Int),vt_,Je (wT (Ba t.B6 "has" 2 gx_ y_ at!)),vu_,fT (Hp_ Dy),vv_,Ba t.B6 "has" 2 gx_ oc_ at!,vw_,Be 1 [0] (Kn ea_) m_ cD! (Ah 2 gX! (Ab p! aJ_)),vx_,[Gn! h,Gn! n,Gn! tm],vy_,Bh (f2 Ak k! (f2 Fc v! cz!)),vz_,f2 Ar v! D!,vA_,(by rw[MJ];exact hl),vB_,∀(w:World) (h:Heap),YP w h->H5_ h,vC_,.tup [jS_,jS_],vD_,Ta h n tm k r,vE_,fT (f2 Av gS_ (fC fe!)),vF_,Ac (KC! bx!) Af,vG_,Wb (Ez (f1 Bw vF_)) R_ (Qg 1 vH!),vH_,#[oc,od,.func on_,jn],vI_,[Yl h n tm "write" h0!],vJ_,.inl (.inl (e _ _ h)),vK_,.inl (.inr #[o,e _ _ h]),vL_,(∀x∈.int h::.int n::.int tm::ds,WG x),vM_,#[o.slots,e],vN_,Dj 5 (Hp_ Ld),vO_,(by simp[tZ Y]),vP_,Dj 7 (Lc! (f2 Ar aa_ (Gg! jU!)) aW_),vQ_,Dj 8 (Gg! [js_,js_,js_,ju_,ju_,fe!,fe!,dh!,jv!,ca!,nA_,nE_]),vR_,ForInStep (μ fn_),vS_,(D.int o.n::D.int o.tm::ds),vT_,(by simpa using hk),vU_,(if(k==hb!)=τ then _ else _)=_,vV_,cS (ρ:=hb_) dU! gu! (lR hA),vW_,pP cells r _ x h,vX_,Dj 10 (Lc! (Hp_ Nc) cA!),vY_,Ii (JS_ fe!) (Bh (Bn (Ac a1! (Lg! (f1 Pn (KP! hd! jq!)))))) Em,vZ_,X.N[j]?=ψ x,v0_,∀b∈fp,b<W_,v1_,Dj 11 (f2 Ar (JG! D_ (Bn g9_)) (Im (Ac (KI! M! (f2 Ar D! (f2 Fc aa! hd!))) Af))),v2_,Str.ofString "hand "++mk aJ!,v3_,Ac M! (Dh! M! M!),v4_,(wS (Qt yy)::xs),v5_,f2 Ar v! (f2 Nz (DO! 7) aZ!),v6_,Dj 8 (f2 Fc bw_ ah_),v7_,Wa 4 bd! (Ff_ (Lf 4 bd!)),v8_,Dj 9 (Nh (f1 Jw (Ac k! (Ac (Ff_ v5_) (Dh! Y! hd!))))),v9_,An 3 (wl (Nh nl_))]
def z'w:String:=z [wa!,fT (f2 Yv Y! M!),wb!,fT (f2 EV (Bn (Ac (Ho_ (Lf 1 jZ_)) (Ac (G5_ (Lf 1 jZ_)) Af))) (KI! fb! be!)),wc!,Vi (Zh 1 Y! D_),wd!,wl (KB! [ca!,nA_]),we!,Bv p! uo_ (wl (f2 Av gS_ jm_)),wf!,ow!++Wt.map λo=>wS fp!,wg!,f2 Eb aR_ v!,wh!,f2 Ak (f2 Ak aa! aa_) D!,wi!,fT (f2 Eb wh! D_),wj!,∀o∈S++Wt,Gm! t,wk!,.lst (svL f aX! Wt),wl!,Bn (Ac Y! bd_),wm!,Cp (Go wj_ wl_),wn!,Ac (Bn (Ac v! bd_)) Af,wo!,Ek aa! fr! Au,wp!,"_law_sibling",wq!,∀cl C av bf fp,ID! tt,wr!,∀cl C av bf fp,PE cd! fm te,ws!,dP (DC! ax _ I h) λv s1 Y=>dP Y λu0 s2 h2=>?_,wt!,#[NX (NK J hC),NX (NK J hD)],wu!,gb c (qf x c h),wv!,λx c h=>(wu!).1,ww!,λx c h=>(wu!).2,wx!,Je (wT (Ah 3 Lo ww_)),wy!,∀a vs,FW! a vs->El KF H' a vs,wz!,Al.map ht hl hd xs vs r,wA!,f2 Ak v! ah_,wB!,fB b_ (tV h),wC!,An 4 (Vq hl! (wl (f2 Av jt! gF_))),wD!,.str "numbers",wE!,Bv oC_ ai_ (Rv (Ab aS_ (Ab aS_ (Ab aS_ nu_)))),wF!,λ_ _ q=>b2n e q,wG!,Bg (Ah 4 Iu (Ab i! (Ab ai_ (Dt! (wl (Xn (fT aa!) jt! ni!)) jt_)))),wH!,Bv (w2 Cc oC_ dl!) jt_ (wl bx!),wI!,Hb (Ez wH_),wJ!,At (FA_ wI_) (An 6 (wl (Ff_ bw_))) Bl,wK!,(∀y',DZ_ [t_,ad!,U!,y'] M),wL!,[t_,ad!,U!,y],wM!,#[v,Y,Ig! x.g],wN!,(Ee! 4).map λi=>D.int bs_,wO!,Dx hh_ nK! (Dx oz! Gi (Dx oC! Gi Mq)),wP!,An 2 (EI! Ln),wQ!,Ac uR_ (Ac (f2 Ak Y! D!) Af),wR!,Bg (Ah 2 Xl nt_),wS!,An 2 (Ah 1 Po at!),wT!,Ca (w2 Lw (wl (Gg! [df_,gG!])) (G3! Qq oK_)),wU!,∀Z G H Q ρ d,JJ! G->ft ρ=ψ d->(∀G' H',Bs G H G' H'->Q d H')->t Z H Q,wV!,wT (Ks_ Ia Gy),wW!,if b∈Jy own Z then υ else G' b,wX!,At (wT (w2 Uu (Vr (Ab (Ri (Dt! ai_ (Ah 2 (Na t) eb!))) Ad)) wW_)) cI! Bl,wY!,At (Lg_ wX_ (IP_ (w2 Cc y_ oC!))) cI! Bl,wZ!,OR X.K own G H Z ρ,w0!,b3g ho ha.ok J.ok hm,w1!,b3d ho ha.ok J.ok,w2!,(cK!).filter λo=>! GC! g,w3!,#[d,χ,oN!],w4!,Ah 2 (Ob t) (Dt! ai_ oO!),w5!,#[b2v h.ok],w6!,fC (.lst [(.str "hand 3")]),w7!,#[G1,ρ,d,dr_,e,λG2 H2 s2=>k G2 H2 bT!],w8!,d1b ha.ok J.ok,w9!,c0t ha.ok J.ok]
def z'ww:String:=z [wa_,[#[tg,iter,dz,0]],wb_,([]:μ Value),wc_,(λv z=>by cases z),wd_,wT (w2 bM_ (wl gS_) wd!),we_,[ox_,t_,υ,υ],wf_,λ_ _=>False,wg_,fT (f2 Vk aa_ hi!),wh_,I8.pin (b,o) ta!,wi_,An 5 (wl (Ff_ aa_)),wj_,fT (IY_ Y!),wk_,f2 Ak aa! aZ!,wl_,fT (f2 Av wk_ wl!),wm_,An 5 (wl (Ff_ aZ!)),wn_,f2 Ar (Ek aa! Au fr!) (Im wn!),wo_,"_law_parent_here",wp_,X.env.kindOf y.1=ψ .cell\/X.env.kindOf y.1=ψ .free,wq_,An 3 (Kg_ (FA_ j0_) jE_),wr_,CG NL.length ix wi g tt te,ws_,At (Ik! (KI_ Y!)) cI! Bl,wt_,λb o J e=>(bv.2 b J).trans e,wu_,.inr (NR I2.sz hC),wv_,wl (KB! [df_,gG!]),ww_,Ab i! (Ab y_ at!),wx_,Ab i! (Ab p! oA!),wy_,∀a h1,Rd H a d3_->Rd H' a d3_,wz_,Bg (Ah 4 Iu wx_),wA_,Ac nP! (Ac nO! Af),wB_,(by rw[NG hx];exact hK),wC_,Bv by_ ai_ nK!,wD_,λ_ _ q=>e.seq q,wE_,cS b_ b_ (uO h hk hx),wF_,λ_ _ q=>bU e q,wG_,#[a,vs,χ,h,r],wH_,f1 Bw (Ac aa_ Af),wI_,f2 Av (G5_ (f2 Ak aa_ bw_)) fb!,wJ_,r.mono (jC h),wK_,Bv by_ dl! (wl (f2 Ar (f2 Ar (Ek aa_ Au (Ao aZ!)) bd!) (Ek aa_ (Ao aZ!) Au))),wL_,λz hz=>hx z lW!,wM_,Bv by_ dl! (Be 1 [9] (Hb (Ce aa_)) m_ cD! (Ri (Ab jF! (Ab jE_ (Ab (Jx (wl e5!) (w2 fc! jF! p!)) Ad))))),wN_,Z[i]?=ψ ce_,wO_,An 1 (Oi wO!),wP_,wT (w2 fc! (wl (G5_ uA!)) wd!),wQ_,Je (wT (Hn y_ (wl (Bn wQ!)) oy_)),wR_,Ca (w2 Cc by_ p!),wS_,DC X.K own f,wT_,#[by rintro hb s Z H Q I ⟨G,ρ,d,er,e,k⟩;exact KG_ h oL!],wU_,Xb (wT (w2 (λ_=>EU τ) (Er! Lj eb!) gR!)) wV!,wV_,At (wT (Ks_ Td Gu)) cI! Bl,wW_,Be 1 [3] (Ca (w2 Cc y_ hh_)) m_ (FA_ j0_) i!,wX_,Be 1 [0,3] (Kp_ cA!) m_ cD! (K7_ Lc (Ab p! (Ab y_ aJ_))),wY_,Ay (w2 (λ_=>EU θ) (Jr_ (Lj t) (wl (fC vC_))) oy_),wZ_,s1.trans fx!,w0_,c0r hr ha.ok J.ok hs,w1_,b2w ho ha.ok J.ok hm,w2_,Ac k! (Ac (DO! 59) Af),w3_,Ab (wl gF_) (Ab bM! Ad),w4_,Ex oM! (wT (w2 fc! i! y_)),w5_,#[b9q h.ok],w6_,b9r ha.ok J.ok,w7_,Ah 1 hp_ jh!,w8_,#[c0n h.ok],w9_,λv G2 H2 s2 r2=>k v G2 H2 bT! r2]
def z'x:String:=z [xa!,Ah 1 hp_ (Ab hq! Ad),xb!,k _ G1 H1 s1 Aq.bl,xc!,k _ G1 H1 s1 Aq.bl,xd!,dC h.ok hs.ok bp,xe!,s1.trans (K6! s1.sub hp),xf!,sb.subset ho,xg!,[K!,bc!,"first","many"],xh!,(cK!).map Op.v,xi!,zD hc hg hm hv ha.ok hn bh he ba,xj!,[bL_,jX_,bv!,ha_],xk!,[cd_,a1_,i3_],xl!,∀ρ ds,fs ρ=ψ ds->g_=af!,xm!,iW (hU.op o ho).dg,xn!,o∈S↔GC! g=τ,xo!,.lst (FJ_ cK_),xp!,(bi_).map Op.v,xq!,k _ G H aL! (hg _ _ G),xr!,lE ns os g a y4 y5 y6 y7 y8 y9,xs!,λ_ j=>decide (0<j)&&decide (j<1073741824),xt!,λi j=>decide (0<=j)&&decide (j<=1000000)&&decide (bK_<2 ^ 64),xu!,k v G H aL! h2,xv!,PO X lo (Eb! DD ol),xw!,(by rw[pm.length_eq];omega),xx!,#[_,mup_same],xy!,h.fr b b1 b2,xz!,iW (h.op o ho).dg,xA!,(K.f _).symm.trans j9,xB!,(λxs H Q=>∃x n,xs=[x]/\EL KF x H n/\Q d4_ H),xC!,K30.srt S++gn g os++wq g os,xD!,(λxs H Q=>∃p ys,xs=fh_/\o3_/\∀l,H l=υ->Q fi! jD!),xE!,.builtin "all",xF!,(∀d,ds[i]?=ψ d->al.go i H'/\∀x gc,al.yld i H' x gc->∃si,Bs G' H' si gc/\DZ! si x),xG!,(by rw[NP]at ho;exact ho),xH!,#[#[vs,v,q',Y],fB_],xI!,#[_,h.mem.mpr N_,χ],xJ!,#[du_,λhi=>by rw[MJ,PX]at hi;exact VF hi.symm],xK!,λx=>if x=n then[.int 0,.int 0,.int 0,.int 0]else W.num x,xL!,EI KF 2 (Uy eX_ (Uy (Nd j) EJ)),xM!,AQ KF al ds G1,xN!,aR (jI T) b! χ aL_ T!,xO!,#[cO (by rw[<-aL a7];omega),?_],xP!,gJ a1j a1s v_ dH l_,xQ!,DC X.K [] ft,xR!,b3f db cx kj io cap calm ax.ok hg hi xQ_ hs,xS!,("numbers",.fn a4),xT!,DS X own bg st q1,xU!,swapsWith e (ψ dt_) pos.line X.env=pure θ,xV!,.Assign [cM!] e pos,xW!,.If c b1 b2 pos,xX!,aW (bK (EX_ v_ (bA fK fL I_ fC_))),xY!,λj d q n=>?_,xZ!,λz=>Df_ z.symm dr,x0!,(λb u e=>by rw[bB (hG e)];exact IF! e),x1!,λ_ _ _ _ _=>J6_ x0_,x2!,λ_ _ _ _ _=>x1_,x3!,.nx (ρ.set i (sM! (ds++[d]))),x4!,.Call (D7_ bl! "append") [e] [] ai,x5!,dC h.ok eU bp,x6!,∀c,O c->M' c=M c,x7!,DE X own ix fx,x8!,pG hN xn hd cb,x9!,λiv G2 H2 x2 r2=>?_]
def z'xx:String:=z [xa_,λv G1 H1 s1 r1=>?_,xb_,d1f ha.ok J.ok,xc_,a5l hc.ok ha.ok J.ok,xd_,(by rw[<-aL r1];exact fN hl),xe_,s1.sub.free hp,xf_,[K!,ug!,bc!,"behind","text"],xg_,vI hc hg hm hv ha.ok hn bh he ba,xh_,#[G,ρ,ds,er,e1,λvs G1 H1 s1 r1=>hd s1.sub r1 e' λv G2 H2 s2 r2=>k v G2 H2 bT! r2],xi_,CI X.K ps.length g,xj_,[bL_,jX_,"_law_many"],xk_,(aI!).length=af!,xl_,∀ρ ds,fs ρ=ψ ds->g_=n,xm_,(by rw[OP];decide),xn_,Be 1 [2,5] (Hb kf!) m_ w4_ i!,xo_,[L!,hr_,ψ kf_],xp_,∀i j H,Dr! bu! (gv i j),xq_,(k'.map d!).Nodup,xr_,λ_ j=>decide (0<j),xs_,Hd t M 3 a S cK_ X,xt_,.bl (Rx i j),xu_,(by rw[MY h];rfl),xv_,PO X hi (Eb! DD oh),xx_,s4.trans fz!,xy_,KN q1 q2 ρ R,xz_,(∀b,b≠f->b≠p->M' b=M b),xA_,λa z=>(by subst z;rcases e2),xB_,(by simpa using K2),xC_,pm.append_right _,xD_,λp hp=>H7_ fz! (cJ el! rr),xE_,u'++[cN!]++v,xF_,i=g_->al.stop i H',xG_,#[du_,λhi=>GZ_ vs r],xH_,#[G',kk_,Ig! s1],xI_,aR (mT T) b! χ aL_ T!,xJ_,λx=>if x=n then[]else W.txt x,xK_,aR (jJ T) b! χ pa! T!,xL_,aR (jI T) b! χ (aE hx! aJ) T!,xM_,if y=n then[]else W.txt y,xN_,if x=n then[.int 0,.int 0,.int 0,.int 0]else W.num x,xO_,gJ ag! bZ v_ aT l_,xP_,((pc!).mono x3.g).mono x4.g,xQ_,λx0 x1 x2 x3 x4=>(he x0 x1 x2 x3 x4).ok,xR_,λal G1 H1 x1 gf=>?_,xS_,GY X.K G0 F0 own c9 f,xT_,oF hy_ (ad (.dir τ)) (ad (.dir θ)) (ad .nums) ph_ (ad .hid),xU_,a9l hN hi hx h.ok hs hf,xV_,aG (I4! T.Y1 cQ!),xW_,#[G',ρ,r,er.grow x',e2,k],xX_,s.or.sub.trans xm,xY_,#[by rw[s];exact NR ty.1 hB,by rw[s];exact ty.2],xZ_,bA aQ bO I_ aD,x0_,(show(bC!:μ Str).Nodup by decide+kernel),x1_,dO (aE aM! pa!),x2_,gH (n:=10) χ,x3_,[e].length+(dn!).length+ed_<30,x4_,h.inj _ _ l' hd z,x5_,(by rw[e1];exact J),x6_,ρ.set i (sM! (ds.set k d)),x7_,.Subscript bl! ix p2,x8_,.bl (decide (Ge W x)),x9_,(x.trans x2).h _ _ h3,xw_,As t ζ yy a ta wa]
def z'y:String:=z [yJ!,Addr,yK!,Around,yL!,Value,yM!,World,yW!,Program,yY!,Shared,ya!,.bl (decide kw_),yb!,.inr (.inr #[eO_,χ]),yc!,bA fK fL bD! aD,yd!,aE (Jg_ aE_) (aE cR_ aJ),ye!,AH KF x qual st aj fd,yf!,F.ok S (λvs H Q E h=>h.1) (λam A outer s H vs Q E hr h=>?_),yg!,bA oE oG bD! aD,yh!,(∀p,a3!∉W.rows),yi!,bA fK fL yg! aD,yj!,(by delta Bd at h;exact h),yk!,es.getD j .non,yl!,(Ee! (min us.toArray.size pt_)).all (λj=>Dv yj_ yk!)&&kz_==pt_,ym!,cK cN eZ χ T.T4 eC (aE bD! aJ),yn!,A.units+Io d<cLine,yo!,#[dx,dy,rx.mono sub,ry.mono sub,h.1.1,h.1.2,h.2,em!],yp!,#[G,ρ,x,er,e1,λv G1 H1 s1 r1=>#[G1,ρ,y,dr_,e2,λw G2 H2 s2 r2=>hg s2.sub fw_ r2 e3 λt G3 H3 s3 r3=>?_]],yq!,(r2.mono s3.g).mono s4.g,yr!,Kk (setT W i l'),ys!,.bl (Jp! x),yt!,λhb s Z H Q I h=>?_,yu!,g++[.tup hI!],yv!,mup M (ad .hid) (.dct (Br k6 hK! u_) (Il k6 hK! e6)),yw!,Ok X.prog X.w X.K X.mg X.base k x ps g,yx!,(by rw[show B+(js.length+1)=B+1+js.length by omega];simpa using h'),yy!,λi _=>kI!<=i,yz!,#[(VE.mp hc).1,λv gc hy=>?_],yA!,(pz_).map λk=>z+c2!,yB!,∀x∈W.its,s∉Dj_ bB!,yC!,bG nd χ e! yB_,yD!,I1.kept λb o e=>MC _ e,yE!,λi h st=>Y4 _ i h st,yF!,ys.map V.str,yG!,.str (Hj_ z),yH!,λw G2 H2 s2 r2=>?_,yI!,s.heap.IsTuple tt xs,yN!,#[_,_,_,χ],yO!,.fn (ad (.row i θ)),yP!,LZ (wpAny_throw ?_),yQ!,((eu!).extBut.push _).push _,yR!,hI.inj _ _ l hi z,yS!,pN nd χ e! aJ,yT!,(D.tup kO!,D.str H_,τ),yU!,Builtin.«zip.__next__» #[[.ref z],[]],yV!,aO aH aN (sN a_ yW_ p_) aD p_,yX!,(by rw[hl,NM];exact MV _ z),yZ!,cI g1 bw.extBut D.i1z,y0!,a1v yZ! yZ_ gx λh2 Y5 bo=>LZ ?_,y1!,QU sn χ ?_,y2!,if i∈W.its then setT W i (wrT b hP_ cT_)else W,y3!,((jb.extBut bw.extBut D.l2z).extBut bo.extBut D.l2i1).extBut d8.extBut D.l2TO,y4!,d8.extBut _ _ D.TOz.symm (Fp! D.i1z.symm me),y5!,fo ρ=ψ av_,y6!,Ab hR_ (Kg! f2),y7!,∀q,Jq V' q->Jq V q\/N q,y8!,bw.extBut _ _ c1 x,y9!,F.entry_zip_next]
def z'yy:String:=z [ya_,aR (gB T) b! χ (DR! v_ xZ_) aD!,yb_,λi hi p e=>?_,yc_,Bs G0 F0 G1 H1,yd_,mup_ne (OB p2),ye_,∀a p,(a,p)∈W.rows->rk p<rk a,yf_,J am A outer s H E hr,yg_,#[er,Bs.refl sub,au!],yh_,vF I xs ys vs n n' rr b6,yi_,λz=>r1 (q.mpr z),yj_,ds.getD j .non,yk_,(fI!).set p.toNat d4_,yl_,(by rw[MN,MN,<-h3,<-h4,<-Y,<-h2];simpa using hl),ym_,a4z I _ _ _ n n' r r',yn_,if x=i then l else W.txt x,yo_,Ie g g' fa fb fc,yp_,#[bb,χ,?_],yq_,on.trans (s4.trans s5),yr_,bJ a6! pI I_ av! l_,ys_,.tup [hH!,hH_],yt_,ha.ok hb s Z H _ I h,yu_,c2s (k:=H2! z) r1,yv_,setT W i (cutT yu! cT_),yw_,Addr->Dl_ pz!,yx_,λi _=>i<kI!,yy_,x.cps.toList.map λc=>.str H_,yz_,∀i h,gg i h->∃o,h.get? it=ψ o/\∀v,o.data≠.cell v,yA_,λi h=>i<=kI!/\gg i h,yB_,cG Z! bM bk_ a7_ p_,yC_,p.mem_iff.mp hq,yD_,(by rw[hl];exact z),yE_,(bl_).sl i θ l,yF_,#[q,.inl z,h],yG_,starEach [a] X.env,yH_,s.heap.IsTupleIter jt tt n,yI_,Builtin.SmallTypes.nextOf (.ref jt),yK_,[aF!,ar!,.int (k':δ)],yL_,setT W i (U++(pC_).map et_++v),yM_,Obj.cls_mapFields ..,yN_,(by first|rfl|(dsimp only[firstArgMember];rfl)),yO_,show A.in1.handled=υ from hh,yP_,wpAny_handled ?_,yQ_,.int (k0:δ),yR_,mup M1 ph_ (.dct (Br k5 bW_ cF!) (Il k5 bW_ e5)),yS_,cK cN eZ χ T.T4 eC en_,yT_,xs[k1]?=ψ x,yU_,setT W i (U++pF_::v),yV_,(λfin s'=>∃v,fin=.done (.ret v)/\Q v s'),yW_,bA vL vS aD_ aD,yX_,QN gz c! λY me bw=>?_,yZ_,ir.extBut bw.extBut D.l1z,y0_,bw.extBut _ _ D.TOz gO,y1_,XJ sn λh3 vf d8=>?_,y2_,cI (cI (cI g2 bw.extBut D.i2z) bo.extBut D.i12.symm) d8.extBut D.TOi2.symm,y3_,eF (rL! sX bG!),y4_,f ρ M λ_ M1=>FX! q,y5_,rawInt h5.objs.size,y6_,xs[k1]?=υ\/ys[k2]?=υ,y7_,∀q,N q->M (bd q)=υ,y8_,#[_,gz,χ],y9_,F.args_zip_next_1 _,yJ_,ζ X.prog X.w X.K η,yY_,s.heap.get? ζ]
def z'z:String:=z [zE!,W.Frag,za!,Aa 0 ρ=ψ kv_,zb!,qF w! (iZ cQ! cQ! vZ),zc!,(by rw[z]at l;exact l),zd!,GV s.heap l1,ze!,GT s.heap l1 l2,zf!,m1 _ (h.lv l),zg!,nF (eA (Dd! mV aL_)),zh!,(V.sl x b []).ls x b,zi!,λd o' hd e'=>kp d o' (λhm=>?_) e',zj!,(by rw[<-z.1,<-z.2];exact l),zk!,#[P!,P!,P!],zl!,hy.resolve_right c,zm!,λc o _ _ _ e _=>e,zn!,λc o hc e n=>?_,zo!,(λc o u e=>by rw[pO_];exact e),zp!,cD (gU T) b! l! dB_,zq!,(λ(r:Fl) (M':Mh)=>match r with|.rt d=>R d M'|.nx _=>D5_ M'),zr!,bE T.V9 T.W9 l!,zs!,(by rw[a5g];let:=r1.2;omega),zt!,bootBuiltins "zip"=ψ pK!,zu!,starEach [b] X.env,zv!,.Call (.Name "zip" p) O! [] pos,zw!,(((({Kk W with pr:=λa p=>((bl_).pr a p/\a≠n)\/(a=n/\p=pl)}:Ix).sl pl τ (Mi n b zv_)).nw n τ).nw n θ).nn n fQ_,zx!,a9n χ (kO aM_ (kO aM_ a1h)),zy!,MY λz=>c1 z.1,zz!,#[G,ρ,_,er,e1,λv G1 H1 s1 r1=>#[G1,ρ,_,dr_,e2,yH!]],zA!,(λz=>by cases z;exact .inr az_),zB!,cG Z! bM zr! r! p_,zC!,Dw KF mg x st ps,zD!,(bl_).sl p0 τ (chl hT! p0),zF!,W.nsIn KF mainGlobals x=ψ d5!,zG!,KF.lookup f=Ep! zF_,zH!,∀(kV bu pm:Value) (an:do_) (am ct:Value) (us:o!),as_=af!->GH! zF_=pure di_,zI!,bE T.V8 T.Y1 l!,zJ!,(λz=>by simp at z),zK!,aM (kC T) b! χ bG!,zL!,#[χ,χ,χ],zM!,fs.map Value.ref,zN!,(λxs H Q=>∃z n,xs=[.str z]/\FO_ z=ψ n/\S!<=640/\Q d4_ H),zO!,λ_ _ _ _ _=>J6_ (Dp_ [ai!,K!]),zP!,(decide (S!<aA_)||decide (EM_ z<EM_ y)),zQ!,(k4_).any λd=>Dv d aT!,zR!,attributeBase o "split" X.env b6!=Dq_ o,zS!,(by simpa using hl.1),zT!,aZ χ (Jy_ (jK hp)) e,zU!,Bv e9_ p! gL_,zV!,starEach (b::[]) X.env=iS_::F0! X.env,zW!,μ ExceptHandler,zX!,λf s1 q=>?_,zY!,(show v=.none from hx),zZ!,VP hT SX.lookup ?_,z0!,[dC_,a,b,bF_],z1!,Lu ks k=ψ j,z2!,s.heap.get? d=ψ o,z3!,o.data=H2_ es,z4!,cD (iY T) b! l! (aC es_ aK),z5!,(by simpa using be),z6!,jT (NL:=aY!) (NF:=aZ_) (ix:=[0]) nd χ e! χ a_ c_ (AX! Ft) k2_ a_ χ (eF cW!) (oW! [bw!,E!]) F_ (λ_ _ _ _ _=>nE (K9! jH (aC r! bG!))) eq_,z7!,ks[i]?=ψ k',z8!,ax=υ/\rest.find? dD_=Lu ks k,z9!,ψ (.lst bn)]
def z'zz:String:=z [za_,Aa 1 ρ=ψ x,zb_,m1 _ (h.lv (q:=.ob) ο),zc_,q=.row x b\/q=.fol x b\/q=.pre x b,zd_,GU s.heap l1 l2,ze_,ah .ob ο,zf_,gJ ag! bZ pm_ aT l_,zg_,I.step pM! (λc o _ _ hc e _=>kp c o hc e) (λc o _ _ hc e _=>#[o.slots,kp c o hc e]) rY_ (λc o hc e=>#[o,kp c o hc e]) rZ! r0! (λc ps e=>r0_) r1! pM_ I.bare,zh_,#[o,es,ep,HN_ kp hf,r],zi_,λ_ e'=>e',zj_,[z,TI,TO,i1,i2],zk_,aB (gJ oC oJ I_ dH l_),zl_,λc o _ _ _ e _=>vM_,zm_,λc o _ e=>#[o,e],zn_,(λc xs e=>by rw[pO_];exact e),zo_,λc ps e=>E1_ pO_ e,zp_,I1.hok c o e,zq_,(λd q=>by rw[pP_];exact q),zr_,[dw_,bA_,ψ a,dy_,ψ pl],zs_,X.mg "zip"=υ,zt_,starEach O! X.env=dY!::Dm! [b],zu_,(JO_ zu!).any d!=θ,zv_,chl W.rows pl,zw_,λ_=>Iff.rfl,zx_,dC ha.ok (dC J.ok eU bo) hs,zy_,hg.chl_same w.rnd,zz_,(λx y H Q=>Ss (λi j=>.bl m7!) x y H Q\/∃i j,x=.str i/\y=.str j/\Q xt_ H),zA_,cG Z! bM kW! r! p_,zB_,ad (.row p0 τ),zC_,[dw_,M_,bE!,cV!],zE_,jO w.rnd z gu,zF_,(Dz! x x),zG_,W.codeIn KF am x=τ,zH_,rows.map (DO w),zI_,(Sum.inr r.1:L2.Key)=H2! y,zJ_,Sum.inr.inj z,zK_,bG nd χ e! zK!,zL_,fs.map V.ref,zM_,(λxs H Q=>(∃i,xs=dc_/\dd!<1920/\Q nd! H)\/∃z,xs=[.str z]/\Q (.str z) H),zN_,aM (mE T) b! χ ev!,zO_,Iz z y (S!+1),zP_,cs.map λc=>.str H_,zQ_,#[.ref _,_,I.lnew (rE _ _) (AT! MJ hs),χ,q'],zR_,.Attribute o "split" ay,zS_,(((n::r).map D.int).length:δ),zT_,aY nd χ aK_,zU_,starEach (a::[b]) X.env=dY!::Dm! [b],zV_,aZ χ hV_ χ,zW_,.Try body (h0::hs) [] [] pos,zX_,bF (sc:=Aj Nt) χ c_,zY_,pN nd χ e! (aE aD (aE aD p4_)),zZ_,bA aQ bO I_ (Ll_ aD bD_),z0_,bA aQ bO p5_ aD,z1_,ys++[.str "bin",.tup p6_],z2_,Nm P w s.heap es ks,z3_,dictWalkPlain d u dE! es k9!,z4_,#[_,_,χ,b1,b2,b3,b4],z5_,(if k8_<=big then Ki_ D.lst (KF! ops)else υ)=_,z6_,λe=>hh (by rw[q3,e];simp),z7_,["check","part"],z8_,aY (show(z7_:μ Str).Nodup by decide+kernel) χ e!,z9_,(by rw[<-e];exact q1),zD_,p ζ η a_ χ χ]
end
def z'L(t:String):List String:=let c:=t.back;if c=='!'||c=='_'||"ψχυτθινμξοδ".contains c then (let b:=c=='!';if t.length<3 then if b then z'0 else z'00 else match t.front with|'a'=>if b then z'a else z'aa|'b'=>if b then z'b else z'bb|'c'=>if b then z'c else z'cc|'d'=>if b then z'd else z'dd|'e'=>if b then z'e else z'ee|'f'=>if b then z'f else z'ff|'g'=>if b then z'g else z'gg|'h'=>if b then z'h else z'hh|'i'=>if b then z'i else z'ii|'j'=>if b then z'j else z'jj|'k'=>if b then z'k else z'kk|'l'=>if b then z'l else z'll|'m'=>if b then z'm else z'mm|'n'=>if b then z'n else z'nn|'o'=>if b then z'o else z'oo|'p'=>if b then z'p else z'pp|'q'=>if b then z'q else z'qq|'r'=>if b then z'r else z'rr|'s'=>if b then z's else z'ss|'t'=>if b then z't else z'tt|'u'=>if b then z'u else z'uu|'v'=>if b then z'v else z'vv|'w'=>if b then z'w else z'ww|'x'=>if b then z'x else z'xx|'y'=>if b then z'y else z'yy|'z'=>if b then z'z else z'zz|_=>if b then z'0 else z'00).splitOn ("\r"++t++"\r") else []
open Lean in
def z'S(a:Array Syntax):Nat->Syntax->Syntax
|n+1,.node i k b=>.node i k (b.map (z'S a n))
|_,s=>let v:=s.getId;if v== `ζ then a[0]! else if v== `η then a[1]! else s
open Lean in
local macro_rules|`($s:ident)=>match s.getId with|.str .anonymous t=>(match z'L t with|[_,f]=>do return z'Z (.fromRef (<-getRef)) f|_=>Macro.throwUnsupported)|_=>Macro.throwUnsupported
open Lean in
local macro_rules(kind:=Lean.Parser.Term.app)|x=>match x[0].getId with|.str .anonymous t=>(match z'L t with|[_,f]=>do let g:=(f.takeWhile (·≠'\r')).toString;let p:=λs=>(g.splitOn s).length>1;let n:=if p "\niη\n" then 2 else if p "\niζ\n" then 1 else 0;let a:=x[1].getArgs;let s:=z'S a 999 (z'Z (.fromRef (<-getRef)) f);let r:=a.extract n a.size;let k:=``Parser.Term.app;return if a.size==n then s else .node .none k (if s.isOfKind k then #[s[0],mkNullNode (s[1].getArgs++r)] else #[s,mkNullNode r])|_=>Macro.throwUnsupported)|_=>Macro.throwUnsupported
open Lean in
local macro_rules|`(tactic|push_cast)=>`(tactic|show"pc!")|`(tactic|push_cast[$x,*])=>match z't't.splitOn "\rpc!\r" with|[_,f]=>do let s:=(z'Z (.fromRef (<-getRef)) f)[1][1][0][0][0];return s.setArg 4 (s[4].setArg 1 (mkNullNode (s[4][1].getArgs.push (mkAtom ",")++x.elemsAndSeps)))|_=>Macro.throwUnsupported
open Lean in
local macro_rules|`(tactic|show$s:str)=>match z't't.splitOn ("\r"++s.getString++"\r") with|[_,f]=>do let q:=z'Z (.fromRef (<-getRef)) f;let q:TSyntax ``Lean.Parser.Tactic.tacticSeq:=⟨q[1][1]⟩;`(tactic|($q))|_=>Macro.throwUnsupported
set_option hygiene true
open Lean in
def z'P:Nat->Syntax->Syntax
|n+1,s=>let k:=s.getKind;if k== `«term#[_,]» then .node .none ``Parser.Tactic.rcasesPat.tuple #[mkAtom "⟨",.node .none `null (s[1].getArgs.mapIdx λi x=>if i%2==1 then x else .node .none ``Parser.Tactic.rcasesPatLo #[.node .none ``Parser.Tactic.rcasesPatMed #[.node .none `null #[z'P n x]],.node .none `null #[]]),mkAtom "⟩"] else if s.isIdent then .node .none ``Parser.Tactic.rcasesPat.one #[s] else if k==``Parser.Term.hole then .node .none ``Parser.Tactic.rcasesPat.ignore #[mkAtom "_"] else s
|_,s=>s
open Lean in
local macro_rules(kind:=Lean.Parser.Command.declaration)|x=>if x.getPos?.isNone||x[1].isOfKind ``Parser.Command.theorem then Macro.throwUnsupported else let m:=(x[0].reprint.getD "").trimAscii.toString;let p:=m=="protected"||(x.find? (·.isOfKind ``Parser.Tactic.renameI)).isSome;let N:=z'N (!p) 9999;let k:=N x[1];let u:=match k[1][0].getId with|.str _ s=>s.front.isUpper|_=>false;match k.isOfKind ``Parser.Command.definition&&(m=="protected"||m==""||m=="nonrec"),u||m=="nonrec" with|true,false=>do let d<-`(theorem $(⟨k[1]⟩):declId $(⟨.node .none ``Parser.Command.declSig #[k[2][0],k[2][1][0]]⟩):declSig $(⟨k[3]⟩):declVal);if p then return N (<-`(set_option tactic.hygienic true in $d:command)) else return N d|true,_=>do return N (<-`(noncomputable def $(⟨k[1]⟩):declId $(⟨k[2]⟩):optDeclSig $(⟨k[3]⟩):declVal))|_,_=>return N x
open Lean in
local macro_rules|`(universe $x*)=>do let p:=`PySem.Challenge;let c:=p.str "cw_manyhands_k30_saved_holds";return mkNullNode (<-(p.str "pw_manyhands_k30_saved"::x.toList.map (λi=>c.str i.getId.toString)++(List.range 920).map λn=>c.str s!"o_{n+43}").toArray.mapM λn=>do return z'N false 99 (<-`(noncomputable def $(mkIdent (PySem.W.Fast.stemOf n).1):ident:=0)))
universe env_41 heap_39 heap_46 heap_963 sts_109 sts_124 sts_167 sts_223 sts_269 sts_320 sts_49 sts_522 sts_559 sts_617 sts_64 sts_698 sts_778 sts_79 sts_865 sts_94 sts_946 tree_108 tree_123 tree_166 tree_222 tree_266 tree_319 tree_436 tree_47 tree_518 tree_558 tree_616 tree_63 tree_697 tree_777 tree_78 tree_864 tree_93 tree_945 tree_962 view_39
local macro_rules|`(tactic|omega)=>`(tactic|first|lia|omega +splitDisjunctions)
theorem z'Hd{G:Prop}(h:∀g:Prop,(G->g)->g):G:=h G λx=>x
set_option hygiene false in
local macro_rules|`(tactic|obtain $p:rcasesPatMed:=$e:term)=>do let s:=p.raw.reprint.getD "";if (s.splitOn ",").length>2+(s.splitOn "rfl").length then `(tactic|first|(refine z'Hd λz'g z'k=>?_;rcases $e:term with $p:rcasesPatMed<;>refine z'k ?_<;>clear z'g z'k)|rcases $e:term with $p:rcasesPatMed) else `(tactic|rcases $e:term with $p:rcasesPatMed)
open Lean in
local macro_rules|`(tactic|rintro $x:rintroPat*)=>let l:=x.back!.raw[0];let p:TSyntax `rcasesPat:=⟨l⟩;if l.isOfKind ``Parser.Tactic.rcasesPat.tuple&&((l.reprint.getD "").splitOn ",").length>3 then `(tactic|(rintro $(x.pop):rintroPat* z';obtain $p:rcasesPat:=z')) else Macro.throwUnsupported
set_option hygiene false in
local macro_rules|`(tactic|rcases $x:term)=>`(tactic|first|exact e0e $x rfl|exact cne $x rfl|exact e0g $x rfl|exact e0f $x rfl|obtain rfl:=Option.some.inj $x|subst $x)
set_option tactic.hygienic false
open Lean in
local macro_rules(kind:=Lean.Parser.Tactic.tacticLet__)|x=>let d:=x[2][0];if x[1][0].getNumArgs>0 then Macro.throwUnsupported else if d.isOfKind ``Parser.Term.letPatDecl then let q:TSyntax `rcasesPat:=⟨z'P 99 d[0]⟩;let e:TSyntax `term:=⟨d[4]⟩;`(tactic|obtain $q:rcasesPat:=$e) else return .node .none ``Parser.Tactic.tacticHave__ #[mkAtom "have",x[1],x[2]]
local macro_rules|`(#[$y,$x,*])=>`(⟨$y,$x,*⟩)|`(#[$y])=>`(⟨$y⟩)
local macro_rules|`(tactic|exact $t)=>`(tactic|refine $t)
local macro_rules|`(tactic|delta $x* $[$l]?)=>`(tactic|unfold $x* $[$l]?)
local macro_rules|`(tactic|simp![$x,*]$[$l:location]?)=>`(tactic|simp only[$x,*]$[$l:location]?)
noncomputable section
namespace L2
def e0e{P:ν}{x y:Dl_ α}(h:x=y)(e:(x.isSome==y.isSome)=θ):P:=by subst h;rw[OH]at e;cases e
def e0g{P:ν}{x y:Bool}(h:x=y)(e:(x==y)=θ):P:=by subst h;rw[OH]at e;cases e
def e0f{P:ν}{x y:X!}(h:x=y)(e:(x.isEmpty==y.isEmpty)=θ):P:=by subst h;rw[OH]at e;cases e
open PySem PySem.Spec PyProof.Rows
abbrev Key:=Sum Int Str
def Qr:Key->Value->Bool
 |.inl k,v=>Value.isInt k v
 |.inr x,v=>Value.isStrOf x v
def GB(w:yM!):Key->Int
 |.inl k=>hashInt k
 |.inr x=>hashStr w x
def bX:∀{k:Key} {v:yL!},Qr k v=τ->(∃i t,k=Sum.inl i/\v=Value.int i t)\/(∃x t,k=Sum.inr x/\v=Value.str x t)
 |.inl i,v,h=>by
  let#[t,e]:=Value.isInt_shape (k:=i) (v:=v) h;exact .inl #[i,t,χ,e]
 |.inr x,v,h=>by
  let#[t,e]:=Value.isStrOf_shape (x:=x) (v:=v) h;exact .inr #[x,t,χ,e]
def zX(i:Int)(t:Tok):Qr (.inl i) dN_=true:=by simp[Qr,Value.isInt]
def sD(x:Str)(t:Tok):Qr (.inr x) l3!=true:=by simp[Qr,Value.isStrOf]
def d4i(a b:Int):decide (l3_=Sum.inl b)=gh_:=by
 by_cases e:a=b
 .subst e;simp
 .let h:¬l3_=Sum.inl b:=λq=>e (Sum.inl.inj q);rw[MU h];exact(OL.mpr e).symm
def d4f(a b:Str):decide (l4!=H2! b)=decide (a=b):=by
 by_cases e:a=b
 .subst e;simp
 .let h:¬l4!=Sum.inr b:=λq=>e (Sum.inr.inj q);rw[MU h,MU e]
def d4h(a:Int)(b:Str):decide (l3_=H2! b)=false:=MU rr_
def d4g(a:Str)(b:Int):decide (l4!=Sum.inl b)=false:=MU rr_
nonrec def mixKind(prog:yW!)(w:yM!):PySem.KeyKind prog w Key where
 is:=Qr
 hash:=GB w
 inj:=λv a b ha J=>by
  obtain⟨i,t,rfl,rfl⟩|⟨x,t,rfl,rfl⟩:=bX ha
  .obtain⟨j,u,rfl,e⟩|⟨y,u,rfl,e⟩:=bX J
   .injection e with e1 _;rw[e1]
   .exact l4_
  .obtain⟨j,u,rfl,e⟩|⟨y,u,rfl,e⟩:=bX J
   .exact l4_
   .injection e with e1 _;rw[e1]
 byValue:=λk v h=>by
  obtain⟨i,t,rfl,rfl⟩|⟨x,t,rfl,rfl⟩:=bX h<;>rfl
 pyHash:=λhv h=>by
  obtain⟨i,t,rfl,rfl⟩|⟨x,t,rfl,rfl⟩:=bX hv
  .exact wpAny_pyHash_int h
  .exact wpAny_pyHash_str h
 eqBool:=λhu hv h=>by
  obtain⟨i,t,rfl,rfl⟩|⟨x,t,rfl,rfl⟩:=bX hu
  .obtain⟨j,u,rfl,rfl⟩|⟨y,u,rfl,rfl⟩:=bX hv
   .rw[d4i]at h;exact wpAny_eqBool_int h
   .rw[d4h]at h;exact SeqAt.EqAt.int_str i t y u _ _ _ _ h
  .obtain⟨j,u,rfl,rfl⟩|⟨y,u,rfl,rfl⟩:=bX hv
   .rw[d4g]at h;exact SeqAt.EqAt.str_int x t j u _ _ _ _ h
   .rw[d4f]at h;exact wpAny_eqBool_str h
 «strs»:=λk x t v h=>by
  obtain⟨i,u,rfl,e⟩|⟨y,u,rfl,e⟩:=bX h
  .exact l4_
  .injection e with e1 _
   subst e1;cases v<;>rfl
def a6h(prog:yW!)(w:yM!)(i:Int)(t:Tok):(rt!).is (.inl i) dN_=true:=zX i t
def nB(prog:yW!)(w:yM!)(x:Str)(t:Tok):(rt!).is (.inr x) l3!=true:=sD x t
inductive V where
 |non|bl (b:Bool)|int (i:Int)|str (x:Str)|byt (b:Array UInt8)|flt (b:UInt64)|ref (a:yJ!)|ty (n:String)
 deriving DecidableEq
def Bi:V->Value->ν
 |.non,u=>u=gi!
 |.bl b,u=>u=Value.bool b
 |.int i,u=>∃t,u=Value.int i t
 |.str x,u=>∃t,u=Value.str x t
 |.byt b,u=>∃t,u=Value.bytes b t
 |.flt b,u=>∃t,u=Value.float b t
 |.ref a,u=>u=Value.ref a
 |.ty n,u=>u=Gr! n
abbrev Ax:μ V->μ Value->Prop:=DX_ Bi
def Ax.length(r:dO!):j!=as_:=TV r
def Ax.get:∀{xs:s_} {us:o!} {i:δ} {x:V},Ax xs us->xs[i]?=ψ x->∃u,us[i]?=ψ u/\Bi x u
 |_,_,_,_,.nil,e=>by simp at e
 |_,_,0,_,.cons r _,e=>by simp at e;subst e;exact l7!
 |_,_,i+1,x,.cons _ t,e=>by
  let#[u,Y,h2]:=Ax.get (i:=i) (x:=x) t c3_;exact rt_
def Ax.set(r:Bi x u):∀{xs:s_} {us:o!} (i:δ),Ax xs us->Ax (xs.set i x) (us.set i u)
 |_,_,_,.nil=>.nil
 |_,_,0,.cons _ t=>.cons r t
 |_,_,i+1,.cons q t=>.cons q (Ax.set r i t)
def Ax.append(h:dO!)(s:Ax ys ws):Ax eL! (us++ws):=by
 induction h with
 |nil=>exact s
 |cons r _ ih=>exact F6_ r
def Ax.take:∀{xs:s_} {us:o!} (n:δ),Ax xs us->Ax (xs.take n) (us.take n)
 |_,_,0,_=>.nil
 |_,_,_+1,.nil=>.nil
 |_,_,n+1,.cons r t=>.cons r (Ax.take n t)
def Ax.drop:∀{xs:s_} {us:o!} (n:δ),Ax xs us->Ax (xs.drop n) (us.drop n)
 |_,_,0,r=>r
 |_,_,_+1,.nil=>.nil
 |_,_,n+1,.cons _ t=>Ax.drop n t
def Nk:ι V->Dl_ Value->ν
 |some v,some u=>Bi v u
 |none,none=>True
 |_,_=>False
def KV:HN! κ V->HN! κ Value->Prop:=Paired λ(p:κ×V) (q:κ×Value)=>p.1=q.1/\Bi p.2 q.2
nonrec def kV:Key->V
 |.inl i=>.int i
 |.inr x=>.str x
inductive HO where
 |lst (xs:s_)
 |tup (xs:s_)
 |dK (h1:HN! Key V)|dT (h1:μ l7_)
 |set (S:Int->Bool) (n:δ)
 |ins (C dx:yJ!) (fs:μ c4!)
 |own (x:yJ!)
 |xd (fs:μ c4!)
 |met (f x:yJ!)
 |rng (lo hi:Int)
 |frz (o:Obj) (u:HO)
 |tbl (ps:bp!)
 |ext (φ:Heap->Prop)
abbrev Hp:=Addr->Dl_ HO
nonrec def upd(H:Hp)(a:yJ!)(o:HO):Hp:=λb=>if b=a then ψ o else H b
def cC:K2_ o a=ψ o:=by delta upd;rw[y!]
def bB(h:b≠a):K2_ o b=H b:=by delta upd;rw[MY h]
def cP{H:Hp}(h:H a=ψ o)(h':H b=υ):a≠b:=by intro e;subst e;rw[h]at h';rcases h'
section
variable(P:yW!)(w:yM!)
def Et(H:Hp)(h:Heap)(a:yJ!):HO->ν
 |.lst xs=>j!<=sizeLine/\∃(its:o!) (n:δ),G8! xs/\h.get? a=ψ {cls:=.type "list",data:=DG_ n}
 |.tup xs=>j!<=sizeLine/\∃its:List Value,G8! xs/\IsTup h a an_
 |.dK h1=>ay!<=sizeLine/\dO_=θ/\∃vs,KV h1 vs/\h.DictOf bp_ a vs
 |.dT h1=>ay!<=sizeLine/\dO_=θ/\∃xs:List l8!,
   Paired (λ(p:List Key×V) (q:List Key×Addr×Value)=>p.1=q.1/\H q.2.1=ψ rw_/\Bi p.2 q.2.2) h1 xs/\
   ∃o es ep,h.get? a=ψ o/\iv!/\o.data=H2_ es/\es.toList=xs.map (entryOfKey gi_)/\(xs.map d!).Nodup
 |.set S n=>h.SetOf (intKind P w) a S n
 |.ins C dx fs=>H dx=ψ gj!/\bq!<=1000/\dx≠a/\h.get? a=ψ l9!/\
   ∃mA,h.Ns1 dx mA/\rz!/\G9! l9_
 |.own _=>∃o,h.get? a=ψ o
 |.xd fs=>∃mA,h.Ns1 a mA/\∀f,Nk (DY! f) (mA f)
 |.rng lo hi=>∃t u v,h.get? a=ψ {cls:=.type "range",data:=Dv! t}
 |.frz o u=>h.get? a=ψ o/\Et H h a u
 |.tbl ps=>h.get? a=ψ {cls:=.none,data:=H3! ps}
 |.met f x=>h.get? a=ψ (W.methodObj ag_ gj_)
 |.ext φ=>φ h/\(∃o,h.get? a=ψ o)/\∀Y h2:Heap,φ Y->(∀o,Y.get? a=ψ o->h2.get? a=ψ o)->φ h2
def Nl(H:Hp)(h:Heap):Prop:=∀a o,H a=ψ o->I5! H h o
end
section
variable{P:yW!}{w:yM!}{H H':Hp}{h h':Heap}{a:yJ!}{o:HO}
def Et.lt(x:rA!):a<c4_:=by
 cases o with
 |lst xs=>let#[_,_,_,_,e]:=x;exact NN e
 |tup xs=>let#[_,_,_,p]:=x;exact p.lt
 |dK h1=>let#[_,_,_,_,o,_,_,e,_]:=x;exact NN e
 |dT h1=>let#[_,_,_,_,o,_,_,e,_]:=x;exact NN e
 |set S n=>let#[o,_,_,_,e,_]:=x;exact NN e
 |ins C dx fs=>let#[_,_,_,e,_]:=x;exact NN e
 |own y=>let#[_,e]:=x;exact NN e
 |xd fs=>let#[_,#[_,_,_,e,_],_]:=x;exact NN e
 |rng lo hi=>let#[_,_,_,e]:=x;exact NN e
 |frz ob u=>let#[e,_]:=x;exact NN e
 |tbl ps=>exact NN rA_
 |met f y=>exact NN rA_
 |ext φ=>let#[_,#[_,e],_]:=x;exact NN e
def Paired.mapP{F G:α->β->ν}(h:E9_ l₁ l₂)(f:∀a b,F a b->G a b):Paired G l₁ l₂:=by
 induction h with
 |nil=>exact .nil
 |cons r _ ih=>exact F6_ (f _ _ r)
def Et.stay(x:rA!)(k:∀b u,(b=a\/H b=ψ gj!)->h.get? b=ψ u->Du_ b=ψ u)
  (ho:∀b,H b=ψ gj!->H' b=ψ gj!)(ht:rC!):I5! H' h' o:=by
 induction o with
 |lst xs=>let#[z,its,n,r,e]:=x;exact#[z,its,n,r,bI_]
 |tup xs=>let#[z,its,r,ob,e,c]:=x;exact#[z,its,r,ob,bI_,c]
 |dK h1=>let#[z,y,vs,r,ob,es,ep,e,c]:=x;exact#[z,y,vs,r,ob,es,ep,bI_,c]
 |dT h1=>
  let#[z,y,xs,r,ob,es,ep,e,c]:=x;exact#[z,y,xs,Paired.mapP r λp q z=>#[z.1,ht _ _ z.2.1,z.2.2],ob,es,ep,bI_,c]
 |set S n=>let#[ob,es,ep,t,e,c]:=x;exact#[ob,es,ep,t,bI_,c]
 |ins C dx fs=>
  let#[d,z,ne,e,mA,#[od,es,ep,e2,c],r]:=x;exact#[ho _ d,z,ne,bI_,mA,#[od,es,ep,k _ _ (.inr d) e2,c],r]
 |own y=>let#[ob,e]:=x;exact#[ob,bI_]
 |xd fs=>let#[mA,#[od,es,ep,e,c],r]:=x;exact#[mA,#[od,es,ep,bI_,c],r]
 |rng lo hi=>let#[t,u,v,e]:=x;exact#[t,u,v,bI_]
 |frz ob u ih=>let#[e,q]:=x;exact#[bI_,ih q]
 |tbl ps=>
  let e:h.get? a=ψ {cls:=.none,data:=H3! ps}:=x;show Du_ a=ψ {cls:=.none,data:=H3! ps};exact k a _ N_ e
 |met f y=>
  let e:h.get? a=ψ rG_:=x;show Du_ a=ψ rG_;exact k a _ N_ e
 |ext φ=>let#[p,#[o,e],st]:=x;exact#[st _ _ p λo q=>k _ _ N_ q,#[o,bI_],st]
def Nl.lt(x:bq_)(e:H a=ψ o):a<c4_:=(x a o e).lt
def Nl.fresh(x:bq_)(e:c4_<=a):H a=none:=by
 cases q:H a with
 |none=>rfl
 |some u=>exact Ju! (x.lt q) e
def Nl.kept(x:bq_)(k:iw_):Nl P w H h':=λa o e=>
 (x a o e).stay (λb u _ q=>k b u q) mb_ λ_ _ q=>q
def Nl.laid(x:bq_)(k:iw_)(hp:c4_<=a)(new:I5! c5! h' o):Nl P w c5! h':=λb u e=>by
 let hn:=x.fresh hp;by_cases J:b=a
 .show"#&";exact new
 .rw[bB J]at e;exact(x b u e).stay (λc v _ q=>k c v q) (λc q=>by rw[gl_];exact q) λc xs q=>by rw[gl_];exact q
end
def Rd(H:Hp)(a:yJ!)(u:HO):Prop:=H a=ψ u\/∃o,H a=ψ gm!
def Rd.ok(r:Rd H a u)(x:bq_):I5! H h u:=by
 obtain r|⟨o,r⟩:=r
 .exact x a u r
 .let#[_,q]:=x a _ r;exact q
def GO:Dl_ HO->ν
 |some (.lst _)=>True
 |some (.dK _)=>True
 |some (.dT _)=>True
 |some (.set _ _)=>True
 |some (.ins _ _ _)=>True
 |some (.ext _)=>True
 |_=>False
section
variable{P:yW!}{w:yM!}{H:Hp}{h h':Heap}{x e:yJ!}{o':HO}
def Nl.write(ok:bq_)(mu:GO (H x))(he:mc!)(k:rI_)(px:mc_)
  (new:Et P w (upd H x o') h' x o'):Nl P w (upd H x o') h':=λb u q=>by
 let zt:∀c y,H c=ψ (.own y)->c≠x:=λc y r z=>by subst z;rw[r]at mu;exact mu
 let ntup:∀c xs,H c=ψ aO!->c≠x:=λc xs r z=>by subst z;rw[r]at mu;exact mu
 by_cases J:b=x
 .subst J;rw[cC]at q;rcases q;exact new
 .rw[bB J]at q;by_cases g8:b=e
  .let q':H b=ψ ix!:=by
    obtain z|z:=he
    .exact Df_ (g8.trans z) J
    .rw[g8];exact z
   rw[q]at q';rcases q';let#[v,hv]:=px;exact#[v,by rw[g8];exact hv]
  .exact(ok b u q).stay (λc v hc r=>k c v ?_ r) (λc r=>by rw[bB (zt c b r)];exact r) λc xs r=>by rw[bB (ntup c xs r)];exact r
   obtain rfl|hc:=hc
   .exact g8
   .rintro rfl;obtain z|z:=he
    .exact zt c b hc z
    .rw[hc]at z;cases z;exact J χ
end
structure Un(fs ex:bJ!)(H H':Hp)(h h':Heap):Prop where
 keep:∀b o,h.get? b=ψ o->H b=υ->b∉fs->b∉ex->Du_ b=ψ o
 slot:∀b o,h.get? b=ψ o->H b=υ->b∈fs->b∉ex->∃sl,Du_ b=ψ {o with slots:=sl}
 free:∀b o,h.get? b=ψ o->H b=υ->b∉ex->H' b=υ
 there:∀b o,h.get? b=ψ o->b∉ex->∃o',Du_ b=ψ o'
 tups:∀b xs,H b=ψ aO!->H' b=ψ aO!
 frzs:∀b o u,H b=ψ gm!->H' b=ψ gm!
 tbls:∀b ps,H b=ψ (.tbl ps)->∃pz,H' b=ψ rK_
section
variable{fs fs' ex ex':List Addr}{H H1 H2:Hp}{h Y h2 h':Heap}{a x e:yJ!}{o:HO}
def Un.any(u:Fs_ H1 Y)(q:h.get? b=ψ ob)(n:H b=υ)(hx:b∉ex):∃sl,Y.get? b=ψ {ob with slots:=sl}:=by
 by_cases J:b∈fs
 .exact u.slot b ob q n J hx
 .exact#[ob.slots,u.keep b ob q n J hx]
def Un.kept(k:iw_):Fs_ H h':=
 #[λb ob q _ _ _=>k b ob q,λb ob q _ _ _=>#[ob.slots,k b ob q],λ_ _ _ n _=>n,λb ob q _=>#[ob,k b ob q],λ_ _ q=>q,λ_ _ _ q=>q,λ_ ps q=>#[#[],by rw[q];simp]]
def Un.refl:Fs_ H h:=Un.kept λ_ _ q=>q
def Un.laid(k:iw_)(hp:c4_<=a)(hn:ix_):Fs_ c5! h' where
 keep:=λb u q _ _ _=>k b u q
 slot:=λb u q _ _ _=>#[u.slots,k b u q]
 free:=λb u q n _=>by rw[bB (NX (NK (NN q) hp))];exact n
 there:=λb u q _=>#[u,k b u q]
 tups:=λb xs q=>by rw[gl_];exact q
 frzs:=λb u xs q=>by rw[gl_];exact q
 tbls:=λb ps q=>E1_ gl_ q
def Un.write(mu:GO (H x))(he:mc!)(k:rI_)(px:mc_):Fs_ me! h':=by
 let hx:∀b,H b=υ->b≠x:=λb n z=>by subst z;rw[n]at mu;exact mu
 let J:∀b,H b=υ->b≠e:=λb n z=>by
  subst z;obtain r|r:=he
  .exact hx b n r
  .rw[n]at r;rcases r
 let hm:∀b u,H b=ψ u->¬GO (ψ u)->b≠x:=λb u q nm z=>by subst z;rw[q]at mu;exact nm mu
 exact⟨λb u q n _ _=>k b u (J b n) q,λb u q n _ _=>#[u.slots,k b u (J b n) q],λb u q n _=>by rw[bB (hx b n)];exact n,λb u q _=>?_,
  λb xs q=>by rw[mf!];exact q,λb u xs q=>by rw[mf!];exact q,λb ps q=>E1_ mf! q⟩
 by_cases g8:b=e
 .subst g8;exact px
 .exact#[u,k b u g8 q]
end
def GZ(h:Heap)(H:Hp):μ Addr:=(rM!).filter λa=>(H a).isSome
def Tc(h:Heap)(H:Hp):Heap:=W.hideAll h (GZ h H)
def b7l(h:Heap)(H:Hp):(iz!).objs.size=c4_:=W.hideAll_size _ _
def c3h(e:rN_)(n:H b=υ):H3_ iz!=ψ o:=
 W.hideAll_get _ e λhm=>by
  let q:(H b).isSome=true:=(NT.mp hm).2;rw[n]at q;simp at q
def c7s(e:H3_ iz!=ψ o):h.get? b=ψ o/\H b=none:=by
 let e':h.get? b=ψ o:=W.of_hideAll (GZ h H) e;exact#[e',?_];cases q:H b with
 |none=>rfl
 |some x=>
  let hm:b∈GZ h H:=NT.mpr #[RQ.mpr (NN e'),by simp[q]];let z:H3_ iz!=none:=W.hideAll_none (GZ h H) hm;rw[z]at e;rcases e
def BV(g h:Heap)(L:yJ!):μ eN!:=(rM!).filterMap λa=>if a=L\/(g.get? a).isSome=τ then υ else(h.get? a).map λo=>(a,o)
nonrec def rest(g h:Heap)(L d:yJ!):μ eN!:=(BV g h L).filter λp=>decide (p.1≠d)
structure Mod(K:zE!)(mg:U_)(base:Heap):Prop where
 kin:K.In base
 glob:DJ! base.Ns
 blt:∃mb,base.Ns builtinsNs mb/\∀x:Str,x≠"__name__"->mb x=Dn! x
 nolimit:base.NoLimit
structure Cx where
 prog:Program
 w:World
 K:W.Frag
 mg:Str->Dl_ Value
 base:Heap
 A:Around
 N:μ Str
 s₀:Shared
 H₀:Hp
 env:Env
 outer:μ Env
 stack:μ Env
 ex:μ Addr
 fn:Str->Bool
 calm:Bool
 pn:μ eN!
 xe:Value->Shared->ν
nonrec def frs(l:aO_):μ Addr:=l.filterMap (·.frame)
abbrev Cx.fs(X:Cx):μ Addr:=frs X.outer
def AG(sc:Scope)(x:Str):Prop:=DM! x=D4! ψ\/DM! x=ψ .cell\/DM! x=ψ .free
def Yw(sc:Scope)(x:Str):Prop:=DM! x=D4! ψ\/DM! x=ψ .cell
def JI(env:Env)(h:Heap)(m:U_)(x:Str)(u:yL!):Prop:=
 (env.kindOf x=D4! ψ/\m x=ψ u)\/((env.kindOf x=ψ .cell\/env.kindOf x=ψ .free)/\∃c,env.cells.lookup x=ψ c/\h.IsCell c (ψ u))
structure Cx.Ok(X:Cx):Prop where
 mod:Mod X.K X.mg X.base
 kind:mh!=.function
 glob:X.env.globals=mainGlobals
 blt:X.env.builtins=builtinsNs
 above:dP_<=X.env.locals
 inj:∀x y c,Dc_ x=ψ c->Dc_ y=ψ c->x=y
 has:∀x,rQ!->∃c,Dc_ x=ψ c
 cab:∀x c,X.fn x=τ->Dc_ x=ψ c->dP_<=c
 hd:X.calm=τ->X.A.handled=υ
 frames:X.A.frames=ψ X.stack
 stk:X.stack=X.outer\/(X.stack=X.env::X.outer/\X.env.frame=ψ X.env.locals)
 exf:∀b∈X.ex,b≠X.env.locals/\∀x c,Dc_ x=ψ c->c≠b
 bs:∀b o,FS_ b=ψ o->GP! b=ψ o/\X.H₀ b=υ
 bsz:X.base.objs.size<=dP_
 noex:∀b o,FS_ b=ψ o->b∉X.ex
 exfs:∀b∈X.ex,b∉X.fs
 funs:GV! X.outer
 frf:∀b∈X.fs,X.H₀ b=υ
structure Inv(X:Cx)(hb:z!)(Z:List (Option V))(H:Hp)(s:yY!):Prop where
 ok:X.Ok
 os:s.os=X.s₀.os
 bare:G9_ s.gens
 base:Un X.fs X.ex X.H₀ H X.s₀.heap s.heap
 loc:∃m,GD! s.heap.Ns m/\∀(i:δ) (x:Str) (v:V),X.N[i]?=ψ x->Z[i]?=ψ dQ!->H4! AG->∃u,Bi v u/\JI X.env s.heap m x u
 cell:∀x c,Dc_ x=ψ c->∃v,s.heap.IsCell c v
 free:GD! H=υ
 freeC:∀x c,Dc_ x=ψ c->H c=υ
 pin:∀p∈X.pn++hb,s.heap.get? p.1=ψ p.2/\H p.1=υ/\p.1≠X.env.locals/\p.1∉X.fs/\∀v,p.2.data≠.cell v
 hok:DE! Nl H s.heap
 len:gn!=X.N.length
section
variable{X:Cx}{hb:List (Addr×Obj)}{Z:List (Option V)}{H H':Hp}{s:yY!}{h':Heap}
def Cx.Ok.nofr(ok:X.Ok){b:yJ!}{o:Obj}(e:FS_ b=ψ o):b∉X.fs:=λJ=>by
 let:=(ok.funs.mem J).1;rw[e]at this;rcases this
def Inv.bs(I:e_):∀b o,FS_ b=ψ o->yY_ b=ψ o/\H b=none:=λb o e=>
 #[I.base.keep b o (iz_).1 (iz_).2 (I.ok.nofr e) rR!,I.base.free b o (iz_).1 (iz_).2 rR!]
def Inv.bk(I:e_):∀b o,FS_ b=ψ o->yY_ b=ψ o:=λb o e=>(I.bs b o e).1
def Inv.mod(I:e_):Mod X.K X.mg X.base:=I.ok.mod
def Inv.kIn(I:e_):Eg! X.K.In:=I.ok.mod.kin.keeps I.bk
def Inv.lt(I:e_):X.env.locals<k_:=by let#[_,hn,_]:=I.loc;exact hn.lt
def Inv.sz(I:e_):dP_<=k_:=NR I.ok.above (RY I.lt)
def Inv.nofs(I:e_){a:yJ!}(h:k_<=a):a∉X.fs:=λJ=>by
 let#[_,o,ho,_]:=I.ok.funs.mem J;exact Ju! iA! (NR I.sz h)
def Inv.cne(I:e_):∀x c,Dc_ x=ψ c->c≠X.env.locals:=λx c e z=>by
 let#[v,o,ho,hd]:=Gr_ x;let#[m,#[o',es,ep,f9,m9,_],_]:=I.loc;rw[z,f9]at ho;rcases ho;rw[m9]at hd;cases hd
def Inv.funs(I:e_):Fh_ X.base X.outer:=by
 let all:∀(l:aO_),(∀b∈frs l,b∈X.fs)->GV! l->Fh_ X.base l:=by
  intro l
  induction l with
  |nil=>intro _ _;trivial
  |cons env r ih=>
   intro hs hl;let#[hk,#[L,o,hf,hn,ho,hd],hr]:=hl;let hL:L∈X.fs:=hs L (by delta frs;rw[WX,hf];exact MB);let#[sl,e]:=I.base.slot L o ho (I.ok.frf L hL) hL λz=>I.ok.exfs L z hL
   exact#[hk,#[L,_,hf,hn,e,hd],ih (λb J=>hs b (by delta frs;rw[WX,hf];exact LY _ J)) hr]
 exact all X.outer (λ_ J=>J) I.ok.funs
def Inv.stack(I:e_):Fh_ X.base X.stack:=by
 obtain e|⟨e,hf⟩:=I.ok.stk
 .rw[e];exact I.funs
 .rw[e];let#[m,hn,_]:=I.loc;exact .cons (by rw[I.ok.kind];decide) hf hn ?_ I.funs;exact Heap.get?_none_of_le (NR I.ok.bsz I.ok.above)
def Inv.stkSub(I:e_):∀b∈frs X.stack,b∈X.env.locals::X.fs:=λb J=>by
 obtain e|⟨e,hf⟩:=I.ok.stk
 .rw[e]at J;exact LY _ J
 .rw[e]at J;delta frs at J;rw[WX,hf]at J;exact J
def Inv.stkFree(I:e_):∀b∈frs X.stack,H b=none:=λb J=>by
 obtain e|J:=MD.mp (I.stkSub b J)
 .rw[e];exact I.free
 .let#[_,o,ho,_]:=I.ok.funs.mem J;exact I.base.free b o ho (I.ok.frf b J) λz=>I.ok.exfs b z J
def Inv.step{g':Array GenState}{t':δ}{d':Drawn}{ch:bJ!}(I:e_)
  (ik:∀b∈ch,iB!/\b≠X.env.locals/\iB_/\∀p∈X.pn++hb,p.1≠b)
  (keep:∀b o,b≠X.env.locals->b∉X.fs->b∉ch->yY_ b=ψ o->H b=υ->Du_ b=ψ o)
  (slot:∀b o,b≠X.env.locals->b∈X.fs->b∉ch->yY_ b=ψ o->H b=υ->∃sl,Du_ b=ψ {o with slots:=sl})(free:∀b o,b∉ch->yY_ b=ψ o->H b=υ->H' b=υ)
  (there:∀b o,b∉ch->yY_ b=ψ o->∃o',Du_ b=ψ o')
  (tups:rC!)(frzs:∀b o u,H b=ψ gm!->H' b=ψ gm!)(tbls:∀b ps,H b=ψ (.tbl ps)->∃pz,H' b=ψ rK_)
  (ns:∀m,GD! s.heap.Ns m->GD! h'.Ns m)(hok:mj!)(hg:G9_ g'):
  Inv X hb Z H' {s with heap:=h',gens:=g',drawn:=d',toks:=t'}:=by
 let zu:∀b o,GP! b=ψ o->b≠X.env.locals:=λb o e=>NX rR_;let uw:∀b o,GP! b=ψ o->b∉X.ex->b∉ch:=λb o e hx J=>by
  obtain z|z:=(ik b J).1
  .exact hx z
  .exact Ju! c5_ z
 let zw:∀x c,Dc_ x=ψ c->∀v,s.heap.IsCell c v->h'.IsCell c v:=by
  rintro x c e v ⟨o,ho,hd⟩;let rj:c∉ch:=λz=>(ik c z).2.2.1 x c e χ;by_cases hc:c∈X.fs
  .let#[sl,q]:=slot c o (I.cne x c e) hc rj ho mj_;exact#[_,q,hd]
  .exact#[o,keep c o (I.cne x c e) hc rj ho mj_,hd]
 exact#[I.ok,I.os,hg,#[iC!,iC!,λb o e n hx=>?_,rS_,λb xs e=>tups b xs (I.base.tups b xs e),λb o xs e=>frzs b o xs (I.base.frzs b o xs e),λb ps e=>?_],?_,mk!,?_,mk!,dQ_,hok,I.len]
 .exact keep b o (zu b o e) J iC_ ml! ml_
 .show"!`";let#[sl',e2]:=slot b _ (zu b o e) J iC_ e1 ml_;exact#[sl',e2]
 .show"!L";exact free b o' iC_ e1 ml_
 .show"!L";exact there b o' iC_ e1
 .let#[m1,e1]:=I.base.tbls b ps e;let#[m2,e2]:=tbls b _ e1;exact#[m1++m2,by rw[e2,Array.append_assoc]]
 .let#[m,hn,hl]:=I.loc;exact#[m,ns m hn,rT_];let#[u,r,l]:=hl i x v e1 e2 e3;exact#[u,r,?_];obtain l|⟨k,c,e,z⟩:=l
  .exact .inl l
  .exact .inr #[k,c,e,zw x c e _ z]
 .let#[v,z]:=Gr_ x;exact#[v,zw x c e v z]
 .let#[m,#[o,_,_,ho,_],_]:=I.loc;exact HN_ free ik I.free
 .let#[v,o,ho,hd]:=Gr_ x;exact free c o (λz=>(ik c z).2.2.1 x c e χ) ho mj_
 .show"!{";let rj:p.1∉ch:=λz=>(ik p.1 z).2.2.2 p hp χ;exact#[keep p.1 p.2 ne nf rj e n,free p.1 p.2 rj e n,ne,nf,d]
def Inv.un{t':δ}(I:e_)(u:Un X.fs [] H H' s.heap h')(hok:mj!):oV_ H' {s with heap:=h',toks:=t'}:=by
 let#[m,#[o,es,ep,ho,r],_]:=id I.loc;let#[sl,hL]:=u.any ho I.free c!;exact I.step (g':=s.gens) (d':=s.drawn) (ch:=[]) rV! (GP_ u.keep) (GP_ u.slot) (λb o _ e n=>u.free b o e n c!) (λb o _ e=>u.there b o e c!) u.tups u.frzs u.tbls (λm' hm=>by
  let#[o',a9,bm,f9,r']:=hm;rw[ho]at f9;rcases f9;exact rW!) hok I.bare
def Inv.call(I:e_)(u:Gs! h')(hok:mj!)(hg:G9_ g')
  (ik:∀b∈ch,iB!/\b≠X.env.locals/\iB_/\∀p∈X.pn++hb,p.1≠b):
  Inv X hb Z H' {s with heap:=h',gens:=g',drawn:=d',toks:=t'}:=by
 let#[m,#[o,es,ep,ho,r],_]:=id I.loc;let#[sl,hL]:=u.any ho I.free λz=>(ik _ z).2.1 χ
 exact I.step (ch:=ch) ik (λb o hL J hc e n=>u.keep b o e n (λz=>(MD.mp (I.stkSub b z)).elim hL J) hc) (λb o _ _ hc e n=>u.any e n hc) (λb o hc e n=>u.free b o e n hc) (λb o hc e=>u.there b o e hc) u.tups u.frzs u.tbls (λm' hm=>by
  let#[o',a9,bm,f9,r']:=hm;rw[ho]at f9;rcases f9;exact rW!) hok hg
def Inv.turned(I:e_)(k:∀b o,b≠it->yY_ b=ψ o->Du_ b=ψ o)(hn:H it=υ)(hL:it≠X.env.locals)
  (Y:it∈X.ex\/dP_<=it)(h2:∀x c,Dc_ x=ψ c->c≠it)(h3:∀p∈X.pn++hb,p.1≠it):oV_ H {s with heap:=h',toks:=t'}:=by
 let zx:∀b u,H b=ψ u->b≠it:=λb u e z=>by rw[z,hn]at e;rcases e
 exact I.step (g':=s.gens) (d':=s.drawn) (ch:=[it]) mn_ (λb o _ _ hc e _=>k b o iD_ e) (λb o _ _ hc e _=>#[o.slots,k b o iD_ e]) rY_
  (λb o hc e=>#[o,k b o iD_ e]) rZ! r0! (λb ps e=>r0_) r1! r1_ I.bare
 .let e:b=it:=by simpa using J
  subst e;exact#[Y,hL,h2,h3]
 .show"#@";exact#[o,es,ep,k _ o (OB hL) ho,r]
 .exact Hy! u (λc v hc q=>k c v ?_ q) mb_ λ_ _ q=>q;obtain z|z:=hc
  .rw[z];exact zx b u e
  .exact zx c _ z
def Inv.tok(I:e_)(t:δ):oV_ H {s with toks:=t}:=I.un (h':=s.heap) (t':=t) Un.refl I.hok
def Inv.kept(I:e_)(k:r2_):oV_ H {s with heap:=h',toks:=t'}:=I.un (Un.kept k) (I.hok.kept k)
def Inv.laid(I:e_)(k:r2_)(hp:k_<=a)(new:DE! Et c5! h' a o):
  Inv X hb Z c5! {s with heap:=h',toks:=t'}:=I.un (Un.laid k hp (FT! hp)) (I.hok.laid k hp new)
def Inv.write(I:e_)(mu:GO (H x))(he:mc!)(k:∀b u,b≠e->yY_ b=ψ u->Du_ b=ψ u)(px:mc_)
  (new:DE! Et me! h' x o):oV_ me! {s with heap:=h',toks:=t'}:=I.un (Un.write mu he k px) (I.hok.write mu he k px new)
def Inv.pins_of(I:e_)(h:∀p∈pins',s.heap.get? p.1=ψ p.2/\H p.1=υ/\p.1≠X.env.locals/\p.1∉X.fs/\∀v,p.2.data≠.cell v):E2! pins' s:=
 #[I.ok,I.os,I.bare,I.base,I.loc,I.cell,I.free,I.freeC,λp hp=>GD_ go! (h p),I.hok,I.len]
def a6b{N:G_}(hN:N.Nodup){i j:δ}(a:N[i]?=ψ x)(b:N[j]?=ψ x):i=j:=by let#[Y,e1]:=NH.mp a;let#[h2,e2]:=NH.mp b;exact(List.getElem_inj hN).mp r5_
def yT(I:e_)(hN:br!)(hi:ao!)(hx:br_)(r:bs!)
  (h:∀s',Inv X hb eQ_ H s'->(∃a,Heap.SameBut a s.heap s'.heap/\(a=X.env.locals\/X.env.cells.lookup x=ψ a))->Q () s')(hf:X.fn x=τ\/CG! x=D4! some:=by first|exact .inl χ|exact .inr χ|assumption):oW_ M r6_:=by
 let#[m,hn,hl]:=id I.loc;let hcls:(mh!==.class||(mh!==.module&&X.env.locals != X.env.globals))=false:=by rw[I.ok.kind];rfl
 let zy:i<gn!:=by rw[I.len];exact(NH.mp hi).1
 let cne:=I.cne;let zz:∀{a:yJ!} {h':Heap},(∃o,s.heap.get? a=ψ o/\H a=υ)->Dy! a->DE! Nl H h':=λ{a h'} ha hs b ob e=>by
  let#[_,_,io]:=ha;exact Hy! ob (λc w' hc q=>(hs.2 c ?_).trans q) mb_ λ_ _ q=>q;rintro rfl;obtain rfl|hc:=hc
  .rw[io]at e;rcases e
  .rw[io]at hc;rcases hc
 obtain hk|hk:=hx
 .exact wpAny_storeName_local hk hn (λh' ux hs=>?_) hcls;let#[oL,_,_,li,_]:=id hn;exact h _ #[I.ok,I.os,I.bare,r9_,#[_,ux,sa!],λy c e=>?_,I.free,I.freeC,dQ_,zz #[oL,li,I.free] hs,sa_] #[_,hs,cu!]
  .exact DQ! mp! ml!
  .show"!`";exact GE! sl mp!
  .show"!L";exact GE! o' mp!
  .by_cases hj:j=i
   .show"#.";exact#[u,r,.inl #[hk,Q!]]
   .rw[NZ (OB hj)]at e2;let#[u',r',q]:=hl j y v' e1 e2 e3;exact sc_;obtain⟨k,e⟩|⟨k,c,e,z⟩:=q
    .exact .inl #[k,?_];let:y≠x:=λe=>hj (a6b hN e1 (e▸hi));simp[this,e]
    .exact .inr #[k,c,e,sd!]
  .let#[w',z]:=Gr_ y;exact#[w',sd!]
  .show"!{";exact#[(hs.2 p.1 ne).trans e,n,ne,nf,d]
 .let wp:X.fn x=true:=by
   obtain z|z:=hf
   .exact z
   .rw[z]at hk;cases hk
  let#[c,hc]:=I.ok.has x (.inl hk);let#[w',z]:=I.cell x c hc;exact wpAny_storeName_cell I.ok.kind hk hc z (λh' b8 hs=>?_);let#[oc,z6,hocd]:=id z;exact h {s with heap:=h'} #[I.ok,I.os,I.bare,r9_,#[m,hn.sameBut hs (OB (cne x c hc)),sa!],λy c' e=>?_,I.free,I.freeC,dQ_,zz #[oc,z6,I.freeC x c hc] hs,sa_] #[c,hs,.inr hc]
  .exact DQ! mp_ ml!
  .show"!`";exact GE! sl mp_
  .show"!L";exact GE! o' mp_
  .by_cases hj:j=i
   .show"#.";exact#[u,r,.inr #[.inl hk,c,hc,b8]]
   .rw[NZ (OB hj)]at e2;let#[u',r',q]:=hl j y v' e1 e2 e3;exact sc_;obtain q|⟨k,c',e,z'⟩:=q
    .exact .inl q
    .exact .inr #[k,c',e,z'.sameBut hs ?_];rintro rfl;exact hj (a6b hN e1 (I.ok.inj _ _ _ e hc▸hi))
  .by_cases g9:c'=c
   .subst g9;exact#[_,b8]
   .let#[w2,z2]:=I.cell y c' e;exact#[w2,z2.sameBut hs g9]
  .show"!{";exact#[(hs.2 p.1 ?_).trans e,n,ne,nf,d];intro q;rw[q,z6]at e;let q':oc=p.2:=OF e;exact d w' (Do! q' hocd)
def uU(I:e_)(hN:br!)(hi:ao!)(hx:br_)(r:bs!)
  (h:∀s',Inv X hb eQ_ H s'->Q () s')(hf:X.fn x=τ\/CG! x=D4! some:=by first|exact .inl χ|exact .inr χ|assumption):oW_ M r6_:=
 yT I hN hi hx r (λs' I' _=>h s' I') hf
def Inv.call'(I:e_)(ho:s'.os=s.os)(u:Gs! s'.heap)(hok:DE! Nl H' s'.heap)(hg:G9_ s'.gens)
  (ik:∀b∈ch,iB!/\b≠X.env.locals/\iB_/\∀p∈X.pn++hb,p.1≠b):Ju_ H':=by
 let#[h',g',d',t',o']:=s';let e:o'=s.os:=ho;subst e;exact I.call (g':=g') (t':=t') (d':=d') u hok hg ik
end
abbrev XK:=Value->Dl_ Addr->Hp->ν
abbrev St:=μ (ι V)
abbrev VK:=V->Hp->ν
abbrev TE:=St->Hp->VK->ν
abbrev TT:=St->Hp->sg!->ν
abbrev TA:=St->Hp->(μ V->Hp->ν)->ν
structure Yu where
 nx:St->Hp->ν
 rt:VK
 bk:St->Hp->Prop:=λ_ _=>False
 ct:St->Hp->Prop:=λ_ _=>False
abbrev TS:=Yu->St->Hp->ν
inductive EP(X:Cx)(hb:z!)(Z:St)(Q:VK)(u:yL!)(s':yY!):Prop
 |mk (v:V) (H':Hp) (I:mq!) (r:bs!) (q:Q v H'):DR_ u s'
inductive TP(X:Cx)(hb:z!)(Z:St)(Q:dR!)(b:Bool)(s':yY!):Prop
 |mk (H':Hp) (I:mq!) (q:Q b H'):TP X hb Z Q b s'
inductive AP(X:Cx)(hb:z!)(Z:St)(Q:c7!)(us:o!)(s':yY!):Prop
 |mk (vs:s_) (H':Hp) (I:mq!) (r:eR!) (q:Q vs H'):AP X hb Z Q us s'
def SP(X:Cx)(hb:z!)(D:Yu)(f:Flow)(s':yY!):Prop:=
 match f with
 |.next=>∃ac H',Ew_ s'/\D.nx ac H'
 |.brk=>∃ac H',Ew_ s'/\D.bk ac H'
 |.cont=>∃ac H',Ew_ s'/\D.ct ac H'
 |.ret u=>∃v ac H',Ew_ s'/\Bi v u/\D.rt v H'
def PE(X:Cx)(e:Expr)(t:TE):Prop:=
 ∀(hb:z!) (s:yY!) (Z:St) (H:Hp) (Q:VK),oV_ H s->t Z H Q->Ji_ eS! aP!
def PT(X:Cx)(e:Expr)(t:TT):Prop:=
 ∀(hb:z!) (s:yY!) (Z:St) (H:Hp) (Q:dR!),oV_ H s->t Z H Q->Ji_ (K0! eS!) iF!
def PW(X:Cx)(e:Expr)(t:TT):Prop:=
 ∀(ff:Sem Value) (hb:z!) (s:yY!) (Z:St) (H:Hp) (Q:dR!),oV_ H s->t Z H Q->Ji_ (K0! ff) iF!
def PW.pt(h:PW X e t):PT X e t:=h _
def PA(X:Cx)(es:dR_)(t:TA):Prop:=
 ∀(pos:Pos) (hb:z!) (s:yY!) (Z:St) (H:Hp) (Q:c7!),oV_ H s->t Z H Q->Ji_ (spliced sh!) (AP X hb Z Q)
def PS(X:Cx)(st:Stmt)(t:TS):Prop:=
 ∀(hb:z!) (s:yY!) (Z:St) (H:Hp) (D:Yu),oV_ H s->t D Z H->KY! exec
def Vc(X:Cx)(st:iF_)(t:TS):Prop:=
 ∀(hb:z!) (s:yY!) (Z:St) (H:Hp) (D:Yu),oV_ H s->t D Z H->KY! execs
def dP(h:oW_ M t)(hQ:∀a s,Q a s->Q' a s):DW_ M t Q' E s:=PH h hQ λ_ _ x=>x
section
variable{X:Cx}
def bin(ha:aU_)(J:cu_){R:sj!}(I:e_)(h:sj_)
  {f:Value->Value->Sem α}
  (hf:sk!):
  wpAny h! X.A mr_ sl! X.xe s:=by
 show"!>"
def HX(i:δ):TE:=λZ H Q=>∃v,Z[i]?=ψ dQ!/\Q v H
nonrec def tC(v:V):TE:=λ_ H Q=>Q v H
def pG(hN:ao!)(hv:c8!)(hd:C!:=by decide)(cb:c8_:=by decide):PE X cv! (HX i):=by
 intro hb s Z H Q I h;let#[v,e,h]:=h;let#[m,hn,hl]:=I.loc;let#[u,r,l]:=hl i x v hN e hv;let fin:DR_ u s:=ms_;obtain⟨hk,hm⟩|⟨hk,c,hc,cx⟩:=l
 .exact Kj! (Ft_ fin)
 .obtain hk|hk:=hk
  .exact Kj! (FE_ fin)
  .exact Kj! (wpAny_loadName_free I.ok.kind hk hc cx fin cb)
def d2z {i j pos}:HO! sl_ ae!:=λ_ _ _ H _ I h=>YE #[eS_,H,aP_,A_,h]
def d7a {b j pos}:HO! (JA! mu!) aH_:=λ_ _ _ H _ I h=>Constant_bool (JZ! b h)
def d2y {j pos}:PE X sm_ (tC .non):=λ_ _ _ H _ I h=>Constant_none #[.non,H,I,χ,h]
def c0l {x j pos}:HO! (JA! dS!) dS!:=λ_ _ _ H _ I h=>Calls.Constant_str #[.str x,H,aP_,A_,h]
def Gl(X:Cx)(x:Str):Prop:=GE_ x=ψ .globalImplicit
def lN(I:e_)(hg:V!)(hm:X.mg x=ψ u)(h:Q u s)
  (hd:C!:=by decide):JA_ sn!:=
 Calls.Name_function_global I.ok.kind hg (Calls.loadGlobal_global sn_ hm h) hd
def iP(I:e_)(hg:V!)(hm:cv_)(hv:so!)(h:Q u s)
  (hn:cw!:=by decide)(hd:C!:=by decide):JA_ sn!:=by
 let#[mb,Y,h2]:=I.mod.blt;exact Calls.Name_function_global I.ok.kind hg (Calls.loadGlobal_builtin sn_ hm (by rw[I.ok.blt];exact Y.keeps I.bk) ((h2 x hn).trans hv) h) hd
def b3e(hg:V!)(hm:X.mg x=ψ u)(r:bs!)(hd:C!:=by decide):HO! cv! v:=
 λ_ _ _ H _ I h=>lN I hg hm ms_ hd
def c7h(hg:V!)(hm:cv_)(hv:so!)(r:bs!)(hn:cw!:=by decide)(hd:C!:=by decide):HO! cv! v:=
 λ_ _ _ H _ I h=>iP I hg hm hv ms_ hn hd
variable{a b:Expr}{ta tb:TE}{pos:Pos}
def PC(X:Cx)(op:CmpOp)(a b:Expr)(t:TE):Prop:=
 ∀(hb:z!) (s:yY!) (Z:St) (H:Hp) (Q:VK),oV_ H s->t Z H Q->
  wpAny h! X.A mr_ (λv au=>BQ_ sk_ (HC! (compareOp op v u) aP!) X.xe au) X.xe s
def c1k(b:Expr)(h:op≠.In)(h2:op≠.NotIn):behindInMarks op b=false:=by
 let e1:so_=false:=by cases op<;>first|rfl|exact Dl! h
 let e2:sp!=false:=by cases op<;>first|rfl|exact Dl! h2
 cases b<;>simp[behindInMarks,e1,e2]
nonrec def tB(t:TE):TT:=λZ H Q=>t Z H λx H1=>∃c,x=.bl c/\Q c H1
def d8x(h:PC X op a b t)(Y:dS_:=by first|exact c1k _ a_ a_|rfl):PT X dT! (tB t):=by intro hb s Z H Q I hw;exact XB (dP mw! λv s1 Y=>dP Y λu s2 h2=>dP h2 ?_) Y;rintro c s3 ⟨x,H1,I1,r1,q1⟩;let#[d,rfl,q]:=q1;subst r1;exact OT #[H1,I1,q]
def b9w{e:Expr}{t:TE}(h:iG!)(he:iG_:=by intro _;rfl):PT X e (tB t):=by intro hb s Z H Q I hw;exact isTrue_plain (dP mw! ?_) (he _);rintro v s1 ⟨x,H1,I1,r1,q1⟩;let#[d,rfl,q]:=q1;subst r1;exact OT #[H1,I1,q]
variable{tA uy:TT}{rest:List Expr}
def IK(t u:TT):TT:=λZ H Q=>t Z H λc H1=>if c=τ then u Z H1 Q else Q θ H1
def LC(t u:TT):TT:=λZ H Q=>t Z H λc H1=>if c=τ then Q τ H1 else u Z H1 Q
def IE(t:TT):TT:=λZ H Q=>t Z H λc H1=>Q (!c) H1
def b2v(ha:gr!):PW X mx! tA:=by
 intro wh hb s Z H Q I h;exact isTrue_and sq_;cases c with
 |true=>exact isTrue_and_nil e
 |false=>exact e
def b9q(ha:gr!):PW X mx_ tA:=by
 intro wh hb s Z H Q I h;exact isTrue_or sq_;cases c with
 |false=>exact isTrue_or_nil e
 |true=>exact e
def b9r(ha:gr!)(J:PW X eT! uy):PW X eT_ (IK tA uy):=by
 intro wh hb s Z H Q I h;exact isTrue_and eU!;rintro c s1 ⟨H1,I1,q1⟩;cases c with
 |true=>exact Ix! J
 |false=>exact ss!
def d1b(ha:gr!)(J:PW X eU_ uy):PW X eV! (LC tA uy):=by
 intro wh hb s Z H Q I h;exact isTrue_or eU!;rintro c s1 ⟨H1,I1,q1⟩;cases c with
 |true=>exact ss!
 |false=>exact Ix! J
def b9y(ha:gr!):PT X eV_ (IE tA):=by intro hb s Z H Q I h;exact isTrue_not (dP (JZ_ ha (λc H1=>Q (!c) H1)) λ_ _ ⟨H2,I2,q⟩=>#[H2,I2,q])
def FH(ta tb:TE):TE:=λZ H Q=>ta Z H λx H1=>∃c,x=.bl c/\if c=τ then tb Z H1 Q else Q C_ H1
def IB(ta tb:TE):TE:=λZ H Q=>ta Z H λx H1=>∃c,x=.bl c/\if c=τ then Q u_ H1 else tb Z H1 Q
def FC(ta:TE):TE:=λZ H Q=>ta Z H λx H1=>∃c,x=.bl c/\Q (.bl (!c)) H1
def c0n {op}{t:TE}(h:PE X a t):PE X mz! t:=λhb s Z H Q I hw=>BoolOp_one su_
def c0t(ha:aU_)(J:PE X eT! tb):PE X eT_ (FH ta tb):=by
 intro hb s Z H Q I h;exact BoolOp_and eU!;rintro v s1 ⟨x,H1,I1,r1,q1⟩;let#[c,rfl,q1]:=q1;subst r1;exact OT ?_;cases c with
 |true=>exact DJ_ J Q
 |false=>exact F7! θ
def d1f(ha:aU_)(J:PE X eU_ tb):PE X eV! (IB ta tb):=by
 intro hb s Z H Q I h;exact BoolOp_or eU!;rintro v s1 ⟨x,H1,I1,r1,q1⟩;let#[c,rfl,q1]:=q1;subst r1;exact OT ?_;cases c with
 |false=>exact DJ_ J Q
 |true=>exact F7! τ
def c0o(ha:aU_):PE X eV_ (FC ta):=by intro hb s Z H Q I h;exact UnaryOp_ eU!;rintro v s1 ⟨x,H1,I1,r1,q1⟩;let#[c,rfl,q1]:=q1;subst r1;exact not_of (OT (F7! (!c)))
def LD(t:TT)(ta tb:TE):TE:=λZ H Q=>t Z H λc H1=>if c=τ then ta Z H1 Q else tb Z H1 Q
def a5l{c:Expr}(hc:PT X c tA)(ha:aU_)(J:cu_):PE X mz_ (LD tA ta tb):=by
 intro hb s Z H Q I h;exact wpAny_IfExp sw_;rintro d s1 ⟨H1,I1,q1⟩;cases d with
 |true=>exact DJ_ ha Q
 |false=>exact DJ_ J Q
end
def El(K:zE!)(H:Hp)(a:yJ!)(xs:s_):Prop:=
 Rd H a H!\/
  ∃(o:Obj) (its:bp!) (n:δ),D1_ a=ψ o/\o.cls=.type "list"/\o.dict=υ/\o.data=G8_ its/\its.size<=sizeLine/\Ax xs iI!
def Fd(K:zE!)(H:Hp)(a:yJ!)(xs:s_):Prop:=
 Rd H a aO!\/
  ∃(o:Obj) (its:bp!) (n:δ),D1_ a=ψ o/\o.cls=.type "tuple"/\o.data=G8_ its/\its.size<=sizeLine/\Ax xs iI!
def JD:Value->ι V
 |.none=>ψ .non
 |.bool b=>ψ aH_
 |.int i _=>ψ ae!
 |.str x _=>ψ dS!
 |.bytes b _=>ψ (.byt b)
 |.float b _=>ψ (.flt b)
 |.ref a=>ψ V_
 |.type n=>ψ (.ty n)
 |_=>υ
def Bi.abs{x:V}{u:yL!}(r:Bi x u):JD u=ψ x:=by
 cases x with
 |non=>cases r;rfl
 |bl _=>cases r;rfl
 |int _=>let#[t,rfl]:=r;rfl
 |str _=>let#[t,rfl]:=r;rfl
 |byt _=>let#[t,rfl]:=r;rfl
 |flt _=>let#[t,rfl]:=r;rfl
 |ref _=>cases r;rfl
 |ty _=>cases r;rfl
def Bi.inj{x y:V}{u:yL!}(r:Bi x u)(q:Bi y u):x=y:=OF (r.abs.symm.trans q.abs)
def Ax.inj(h:dO!):Ax ys us->xs=ys:=by
 induction h generalizing ys with
 |nil=>intro h;cases h;rfl
 |cons r t ih=>intro h;cases h with|cons r' t'=>rw[r.inj r',ih t']
section
variable{X:Cx}{hb:List (Addr×Obj)}{Z:St}{H:Hp}{s:yY!}{a:yJ!}{xs ys:List V}
def El.of{K:zE!}(h:H a=ψ H!):F7_ El:=FT_ h
def Fd.of{K:zE!}(h:H a=ψ aO!):F7_ Fd:=FT_ h
def Inv.list(I:e_)(h:F8! a xs):∃its:List Value,G8! xs/\Eg! PlainL a an_/\j!<=sizeLine:=by
 obtain h|⟨o,its,n,hk,hc,hd,hs,hz,r⟩:=h
 .let#[z,its,n,r,e]:=h.ok I.hok;exact#[its,r,#[_,n,e,χ,χ,χ],z]
 .exact#[iI!,r,#[o,n,I.kIn a o hk,hc,hd,sy!],?_];show"#!"
def Inv.tuple(I:e_)(h:GV_ a xs):∃its:List Value,G8! xs/\JP_ a an_/\j!<=sizeLine:=by
 obtain h|⟨o,its,n,hk,hc,hs,hz,r⟩:=h
 .let#[z,its,r,p]:=h.ok I.hok;exact#[its,r,p,z]
 .exact#[iI!,r,#[o,I.kIn a o hk,hc,n,sy!],?_];show"#!"
def Inv.list_inj(I:e_)(h:F8! a xs)(h':F8! a ys):xs=ys:=by
 let#[its,r,#[o,n,e,_,_,d],_]:=I.list h;let#[its',r',#[o',n',e',_,_,d'],_]:=EK_ h';rw[e]at e';rcases e';rw[d]at d';injection d' with d1 _
 let:its=its':=by simpa using Jx_ d1
 subst this;exact r.inj r'
def Inv.tuple_inj(I:e_)(h:GV_ a xs)(h':GV_ a ys):xs=ys:=by
 let#[its,r,#[o,e,_,n,d],_]:=DA! h;let#[its',r',#[o',e',_,n',d'],_]:=DA! h';rw[e]at e';rcases e';rw[d]at d';injection d' with d1 _
 let:its=its':=by simpa using Jx_ d1
 subst this;exact r.inj r'
end
abbrev Cx.wish(X:Cx)(E:X_):Cx:={X with xe:=E}
abbrev Cx.nox(X:Cx):Cx:=X.wish λ_ _=>False
def Cx.Ok.wish{X:Cx}(ok:X.Ok)(E:X_):(gt!).Ok:=
 sz!
def Cx.Ok.unwish{X:Cx}{E:X_}(ok:(gt!).Ok):X.Ok:=
 sz!
section
variable{X:Cx}{hb:List (Addr×Obj)}{Z:St}{H:Hp}{s:yY!}{E:Value->Shared->Prop}
def Inv.wish(I:e_)(E:X_):Inv gt! hb Z H s:=#[I.ok.wish E,I.os,I.bare,I.base,I.loc,I.cell,I.free,I.freeC,I.pin,I.hok,I.len]
def Inv.unwish(I:Inv gt! hb Z H s):oV_ H s:=#[I.ok.unwish,I.os,I.bare,I.base,I.loc,I.cell,I.free,I.freeC,I.pin,I.hok,I.len]
def SP.unwish(h:SP gt! hb D f s'):SP X hb D f s':=by
 cases f with
 |next=>let#[ac,H',I,q]:=h;exact mD!
 |brk=>let#[ac,H',I,q]:=h;exact mD!
 |cont=>let#[ac,H',I,q]:=h;exact mD!
 |ret u=>let#[v,ac,H',I,r,q]:=h;exact#[v,ac,H',I.unwish,r,q]
def Vc.nox{st:iF_}(h:Vc X.nox st t):Vc X st t:=λhb s Z H D I hw=>
 PH (DC! h D mD_ hw) (λ_ _ q=>cw_) λ_ _ z=>DA_ z
end
section
variable{X:Cx}{st:Stmt}{rest:List Stmt}{t u:TS}{e:Expr}{te:TE}{pos:Pos}
def FD:TS:=λD Z H=>D.nx Z H
def HZ(t u:TS):TS:=λD Z H=>t {D with nx:=u D} Z H
def b2y:Vc X [] FD:=λ_ _ Z H _ I h=>UR #[Z,H,I,h]
def a5i(Y:iK!)(h2:Vc X rest u):Vc X mE! (HZ t u):=by
 intro hb s Z H D I h;exact F2! (Y hb s Z H {D with nx:=u D} I h);cases f with
 |next=>
  let#[ac,H',I',q]:=q;exact h2 hb s1 ac H' D I' q
 |ret v=>exact q
 |brk=>exact q
 |cont=>exact q
def b2x(Y:iK!):Vc X [st] t:=by
 intro hb s Z H D I h;exact F2! (JZ_ Y D);cases f with
 |next=>exact UR q
 |ret v=>exact q
 |brk=>exact q
 |cont=>exact q
def Inv.quiet(I:e_):interactive X.env=false:=by simp[interactive,I.ok.kind]
def FE(te:TE):TS:=λD Z H=>te Z H λ_ H1=>D.nx Z H1
def tU(he:cx!)(hs:sA!:=by rfl):PS X (Ha! e) (FE te):=by intro hb s Z H D I h;exact wpAny_Expr_any (F2_ #[Z,H1,I1,q1]) I.quiet hs
def IA(te:TE):TS:=λD Z H=>te Z H D.rt
def c0b(he:cx!):PS X mF! (IA te):=by intro hb s Z H D I h;exact wpAny_Return_some (F2_ #[x,Z,H1,I1,r1,q1])
def FA:TS:=λD _ H=>D.rt .non H
def c6y:PS X sC! FA:=λ_ _ Z H _ I h=>wpAny_Return_none #[.non,Z,H,I,χ,h]
def IG(c:TT)(t u:TS):TS:=λD Z H=>c Z H λb H1=>if b=τ then t D Z H1 else u D Z H1
def d1c(hc:PT X c tc)(ha:Vc X a t)(J:Vc X b u):PS X (.If c a b pos) (IG tc t u):=by
 intro hb s Z H D I h;exact wpAny_If sw_;rintro d s1 ⟨H1,I1,q1⟩;cases d with
 |true=>exact DJ_ ha D
 |false=>exact DJ_ J D
end
abbrev TG:=V->St->Hp->sC_->ν
abbrev GM:=μ V->St->Hp->sC_->ν
def PG(X:Cx)(uz:Expr)(t:TG):Prop:=
 ∀(hb:z!) (s:yY!) (Z:St) (H:Hp) (v:V) (u:yL!) (Q:iL_),oV_ H s->Bi v u->t v Z H Q->
  wpAny h! X.A (assign uz X.env u) sD! X.xe s
def HN(X:Cx)(ts:dR_)(t:GM):Prop:=
 ∀(hb:z!) (s:yY!) (Z:St) (H:Hp) (vs:s_) (us:o!) (Q:iL_),oV_ H s->Ax vs us->t vs Z H Q->
  wpAny h! X.A (assignInOrder (DK! ts) us) sD! X.xe s
abbrev GL:=V->V->V->Hp->mH!->ν
def Yn(X:Cx)(t:GL):Prop:=
 ∀(hb:z!) (s:yY!) (Z:St) (H:Hp) (o i v:V) (ov iv u:yL!) (Q:Hp->ν),oV_ H s->Bi o ov->Bi i iv->Bi v u->t o i v H Q->
  wpAny h! X.A (setItem ov iv u) (λ_ s'=>∃H',Ju_ H'/\Q H') X.xe s
abbrev JH:=V->V->Hp->VK->ν
def KO(X:Cx)(op:Operator)(t:JH):Prop:=
 ∀(hb:z!) (s:yY!) (Z:St) (H:Hp) (x y:V) (v u:yL!) (Q:VK),oV_ H s->Bi x v->Bi y u->Gs_ t->
  wpAny h! X.A (inplaceOp op v u) aP! X.xe s
section
variable{X:Cx}{pos:Pos}
def Nd(i:δ):TG:=λv Z H Q=>Q eQ_ H
def aY(hN:br!)(hi:ao!)(hx:br_)(hf:X.fn x=τ\/CG! x=D4! some:=by first|exact .inl χ|exact .inr χ|assumption):PG X cv! eX_:=by intro hb s Z H v u Q I r h;exact wpAny_assign_Name (uU I hN hi hx r (λs' I'=>#[_,H,I',h]) hf)
def EJ:GM:=λvs Z H Q=>vs=[]/\Q Z H
def Uy(t:TG)(u:GM):GM:=λvs Z H Q=>∃v r,vs=v::r/\t v Z H λac H'=>u r ac H' Q
def a1h:HN X [] EJ:=by intro hb s Z H vs us Q I r h;let#[e,h]:=h;subst e;cases r;exact assignInOrder_nil #[Z,H,I,h]
def kO(Y:PG X e t)(h2:HN X es u)
  (hs:DK! aI!=assign e X.env::Ex! mH_:=by rfl):HN X aI! (Uy t u):=by
 intro hb s Z H vs us Q I r h;let#[v,vr,e1,h]:=h;subst e1;cases r with
 |cons r rr=>
  rw[hs];exact assignInOrder_cons (dP (Y hb s Z H _ _ _ I r h) ?_);rintro _ s1 ⟨fg,H1,I1,q1⟩;exact h2 hb s1 fg H1 _ _ Q I1 rr q1
def EI(K:zE!)(n:δ)(t:GM):TG:=λv Z H Q=>∃a xs,v=.ref a/\F7_ Fd/\j!=n/\t xs Z H Q
def a9n(hc:az!)(h:HN X es t)
  (hn:(mH_).length=n:=by rfl)(bp:(mH_).findIdx? d!=none:=by rfl):PG X (.Tuple es k pos) (EI X.K n t):=by
 intro hb s Z H v u Q I r hw;let#[a,xs,e1,hq,hl,hw]:=hw;subst e1;subst r;let#[its,rv,ht,hz]:=DA! hq;exact assign_Tuple_tuple aV! ht (by simp[hn,<-hl,rv.length]) bp λh' hx=>?_;let I1:oV_ H {s with heap:=h'}:=I.kept (t':=s.toks) λb o e=>hx b o (NX c5_) e;exact h hb _ Z H xs _ Q I1 (Di_ rv) hw
def IZ(to ti:TE)(t:GL):TG:=λv Z H Q=>to Z H λo H1=>ti Z H1 λi H2=>t o i v H2 λH3=>Q Z H3
def c0i(ho:PE X o to)(hi:PE X i ti)(hs:Yn X t)
  (ha:∀v,assign sF! X.env v=(do
   let ov <-holding [v] b6!
   let iv <-holding [v,ov] sF_
   standAt pos
   holding eY! mI!
   release eY! []):=by intro _;rfl):PG X sF! (IZ to ti t):=by
 intro hb s Z H v u Q I r h;rw[ha];exact LW (OJ sG_);rintro ov s1 ⟨x,H1,I1,r1,q1⟩;exact LW (OJ (dP (DJ_ hi _) ?_));rintro iv s2 ⟨y,H2,I2,r2,q2⟩;exact LW (VL (LW (OJ (dP (hs hb s2 Z H2 x y v ov iv u _ I2 r1 r2 r q2) ?_))));rintro _ s3 ⟨H3,I3,q3⟩;exact wpAny_release #[Z,H3,I3,q3]
def DJ(te:TE)(g:TG):TS:=λD Z H=>te Z H λx H1=>g x Z H1 D.nx
def c0d(he:cx!)(hg:mI_)(hs:Ez_ [tg]=pure false:=by rfl)(hw:Fu! [tg]=pure none:=by rfl)
  (Y:DK! [tg]=[assign tg X.env]:=by rfl):PS X (EC_ [tg] e) (DJ te g):=by
 intro hb s Z H D I h;exact wpAny_Assign_stores c9_ hs hw;rintro v s1 ⟨x,H1,I1,r1,q1⟩;rw[Y];exact dP (hg hb s1 Z H1 x v _ I1 r1 q1) λ_ s2 q=>q
def a9l(hN:br!)(hi:ao!)(hx:br_)(he:cx!)(hs:JU! e mJ!=pure false:=by rfl)(hf:X.fn x=τ\/CG! x=D4! some:=by first|exact .inl χ|exact .inr χ|assumption):
  PS X (EC_ [.Name x lj] e) (DJ te eX_):=by
 intro hb s Z H D I h;exact wpAny_Assign_Name c9_ hs;rintro v s1 ⟨y,H1,I1,r1,q1⟩;exact uU I1 hN hi hx r1 (λs2 I2=>#[_,H1,I2,q1]) hf
def IJ(i:δ)(te:TE)(ti:JH):TS:=λD Z H=>∃x,Z[i]?=ψ gu_/\te Z H λy H1=>ti x y H1 λz H2=>D.nx (Z.set i (ψ z)) H2
def d2u(hN:br!)(hi:ao!)(hx:br_)(he:cx!)(ho:KO X op ti)(hf:X.fn x=τ\/CG! x=D4! some:=by first|exact .inl χ|exact .inr χ|assumption):
  PS X (.AugAssign mJ! op e pos) (IJ i te ti):=by
 intro hb s Z H D I h;let#[v,e1,h]:=h;let#[m,hn,hl]:=I.loc;let vis:H4! AG:=by obtain k|k:=hx;exact .inl k;exact Er_ k
 let#[u,r,l]:=hl i x v hi e1 vis;exact wpAny_AugAssign_Name ?_;let go:BQ_ eS! (λw av=>wpAny h! X.A (inplaceOp op u w) (λr fh=>wpAny h! X.A (storeName X.env x r) (λ_=>SP X hb D .next) X.xe fh) X.xe av) X.xe s:=by
  exact dP iK_ ?_;rintro w s1 ⟨y,H1,I1,r1,q1⟩;exact dP (ho hb s1 Z H1 v y u w _ I1 r r1 q1) ?_;rintro z s2 ⟨zv,H2,I2,r2,q2⟩;exact uU I2 hN hi hx r2 (λs3 I3=>#[_,H2,I3,q2]) hf
 obtain⟨hk,hm⟩|⟨hk,c,hc,cx⟩:=l
 .exact Ft_ go
 .obtain hk|hk:=hk
  .exact FE_ go
  .obtain k|k:=hx
   .show"!n"
   .show"!n"
def LJ(f:mK!):JH:=λx y H Q=>∃i j,x=.int i/\y=.int j/\Q (.int (f i j)) H
def d4n:KO X .Add (LJ λi j=>i+j):=by intro hb s Z H x y v u Q I r1 r2 h;let#[i,j,e1,e2,q]:=h;subst e1;subst e2;let#[t,rfl]:=r1;let#[t',rfl]:=r2;exact iadd_int iN_
def DF(c:TT)(tb:TS):TS:=λD Z H=>∃W:Nat->St->Hp->Prop,(∃m,W m Z H)/\∀m Z H,W m Z H->
 c Z H λb H1=>if b=τ then∃N:St->Hp->Prop,(∀ac H',N ac H'->∃m',m'<m/\W m' ac H')/\tb {D with nx:=N,ct:=N,bk:=D.nx} Z H1 else D.nx Z H1
def c0a(hp:gv_)(hc:PT X c tc)(J:Ix_ tb):PS X sK! (DF tc tb):=by
 intro hb s Z H D I h;let#[W,#[m0,w0],turn]:=h;exact wpAny_While (codeAny_whileLoop (λn s'=>∃ac H',Inv X hb ac H' s'/\W n ac H') ?_ m0 #[Z,H,I,w0]);rintro n s1 ⟨fg,H1,I1,w1⟩;exact Fa! (hc hb s1 fg H1 _ I1 (turn n fg H1 w1));rintro b s2 ⟨H2,I2,q2⟩;cases b with
 |true=>
  let#[N,hN,q2]:=q2;rw[y!];exact TB hp (dP (J hb s2 fg H2 _ I2 q2) λf s3 q3=>?_);cases f with
  |next=>
   show"!k"
  |cont=>
   show"!k"
  |brk=>exact q3
  |ret v=>exact q3
 |false=>
  rw[MY NO];exact UR #[fg,H2,I2,q2]
end
structure It where
 go:δ->Hp->ν
 yld:δ->Hp->V->Hp->ν
 stop:δ->Hp->ν
def Fp(X:Cx)(hb:z!)(H:Hp)(b:yJ!):Prop:=
 H b=υ/\b≠X.env.locals/\b∉X.fs/\iB!/\iB_/\∀p∈X.pn++hb,p.1≠b
def Inv.fpOk(I:e_)(J:k_<=b)(hn:H' b=υ):D6! H' b:=by
 exact#[hn,RL (NK I.lt J),I.nofs J,.inr (NR I.sz J),λx c e z=>?_,λp hp z=>?_]
 .let#[v,q]:=Gr_ x;exact Ju! q.lt sO!
 .exact Ju! sP! sO!
structure Re(P:yW!)(w:yM!)(K:zE!)(tg:Expr)(al:It)(fp:bJ!)(it:yJ!)(tn:gw!):Prop where
 mem:it∈fp
 obj:∀i h,tn i h->∀b∈fp,∃o,h.get? b=ψ o/\∀v,o.data≠.cell v
 keep:∀i h h',tn i h->(Fo_ h'.get?)->tn i h'
 item:∀(X:Cx),X.prog=P->X.w=w->X.K=K->X.calm=τ->∀(i:δ) (hb:z!) (s:yY!) (Z:St) (H:Hp) (E:X_),oV_ H s->mN_->tn i s.heap->al.go i H->
  wpAny E_ X.A iO_ (λr s1=>∃u,r=ψ u/\
   wpAny E_ X.A sQ_ (λ_ s2=>∃x H',oV_ H' s2/\Bi x u/\al.yld i H x H'/\tn w_ s2.heap/\∀b∈fp,H' b=υ) E s1) E s
 done:∀(X:Cx),X.prog=P->X.w=w->X.K=K->X.calm=τ->∀(i:δ) (hb:z!) (s:yY!) (Z:St) (H:Hp) (E:X_),oV_ H s->mN_->tn i s.heap->al.stop i H->
  wpAny E_ X.A iO_ (λr s1=>r=υ/\oV_ H s1) E s
 self:∀(A:yK!) (i:δ) (s:yY!) (Q:X_) (E:X_),tn i s.heap->Q b6_ s->K3! b6_
abbrev TI:=St->Hp->(It->Hp->ν)->ν
def HM(X:Cx)(hb:z!)(Z:St)(tg:Expr)(R:iP!)(u0:yL!)(s2:yY!):Prop:=
 ∃(it:yJ!) (fp:bJ!) (tn:gw!) (al:It) (H':Hp),u0=.ref it/\oV_ H' s2/\yJ_ Re tg al fp it tn/\tn 0 s2.heap/\(∀b∈fp,Fp X hb H' b)/\R al H'
def PI(X:Cx)(tg iter:Expr)(wi:TI):Prop:=
 ∀(hb:z!) (s:yY!) (Z:St) (H:Hp) (R:iP!),oV_ H s->wi Z H R->
  wpAny h! X.A (Dq_ iter) (λv s1=>BQ_ (pyIter v) sS! X.xe s1) X.xe s
def b4g(ho:yY_ it=ψ o)(hc:o.cls=.type n)(hd:o.data=H3! vs)
  (hn:(sT_).contains n=θ)(hQ:Q () s):oW_ M sQ_:=by
 delta letOwnedTupleGo;cases tg<;>first
  |exact LZ hQ
  |(cases u<;>first
    |exact LZ hQ
    |(exact ET_ wpAny_load ho;rw[hc,hd];show DW_ M (FF! ((sT_).contains n&&vs[0]?==ψ (rawInt _)) τ) Q E s;rw[MY (by intro h;rw[hn,Bool.false_and]at h;exact Bool.noConfusion h)];exact LZ hQ))
def JK(K:zE!)(a:yJ!):It:=
 (Dx! El)
def JJ(K:zE!)(a:yJ!):It:=
 (Dx! Fd)
def GQ(lo:Int)(n:δ):It:=#[λi _=>i<n,λi H x H'=>H'=H/\x=.int (lo+i),λi _=>n<=i]
def b5g{K:zE!}(a it:yJ!):Kt! JK h.IsListIter where
 mem:=by simp
 obj:=λi h st b J=>by
  let e:b=it:=by simpa using J
  subst e;show"!Y"
 keep:=λi h h' st k=>st.at λo e=>k it c! o e
 item:=by
  show"!0";let#[xs,x,hq,hx]:=hg;let#[its,rv,p,hz]:=EK_ hq;let#[u,hu,ru]:=rv.get hx;show"!2";exact wpAny_pyNext_list_item st p.isList (x:=u) mO_ λh' ab sb=>?_;show"!J";exact GF! #[x,H,I1,ru,#[χ,sV_],ab,iQ_]
 done:=by
  show"!0";let#[xs,hq,hx]:=hg;let#[its,rv,p,hz]:=EK_ hq;show"!2";let hl:=da_;exact wpAny_pyNext_list_end aV! st p.isList aV_ λh' eb=>mQ_
 self:=λ_ _ _ _ _ st h=>wpAny_pyIter_listiter st h
def a8s{P:yW!}{w:yM!}{K:zE!}{tg:Expr}(a it:yJ!):Kt! JJ h.IsTupleIter where
 mem:=by simp
 obj:=λi h st b J=>by
  let e:b=it:=by simpa using J
  subst e;show"!Y"
 keep:=λi h h' st k=>st.at λo e=>k it c! o e
 item:=by
  show"!0";let#[xs,x,hq,hx]:=hg;let#[its,rv,p,hz]:=DA! hq;let#[u,hu,ru]:=rv.get hx;show"!2";exact wpAny_pyNext_tuple_item st sW_ (x:=u) mO_ λh' ab sb=>?_;show"!J";exact GF! #[x,H,I1,ru,#[χ,λys hy=>by rw[I.tuple_inj hy hq];exact hx],ab,iQ_]
 done:=by
  show"!0";let#[xs,hq,hx]:=hg;let#[its,rv,p,hz]:=DA! hq;show"!2";let hl:=da_;exact wpAny_pyNext_tuple_end aV! st sW_ aV_ λh' eb=>mQ_
 self:=λ_ _ _ _ _ st h=>wpAny_pyIter_tupleiter st h
def a8t{K:zE!}(it:yJ!)(lo:Int)(n:δ):FU! (GQ lo n) (λi h=>IsRangeIter h it (lo+(i:δ)*1) ((n:Int) - (i:δ)) 1) where
 mem:=by simp
 obj:=λi h st b J=>by
  let e:b=it:=by simpa using J
  subst e;exact⟨_,st,λv z=>by
   let z':Data.fields _=Data.cell v:=z;cases z'⟩
 keep:=λi h h' st k=>k it c! _ st
 item:=by
  show"!0";show"!2";let W:=Walks.range (prog:=X.prog) (w:=X.w) aV! it lo 1 n;exact Iy! i hg st λv h' tk hv ab kk=>?_;let#[t,rfl]:=hv;show"!f";exact#[_,χ,b4g (s:={s with heap:=h',toks:=tk}) (n:="range_iterator") ab χ χ a_ #[.int (lo+i),H,I1,#[t,?_],az_,ab,iQ_]];rw[Int.mul_one]
 done:=by
  show"!0";show"!2";exact wpAny_pyNext_range_end aV! st (by let:n<=i:=hg;omega) λh' eb=>mQ_
 self:=λ_ _ _ _ _ st h=>wpAny_pyIter_rangeiter st h
section
variable{X:Cx}{tg:Expr}
def GF(K:zE!)(tl:TE):TI:=λZ H R=>tl Z H λx H1=>∃a,x=.ref a/\(∃xs,El K H1 a xs)/\R (JK K a) H1
def Ru(K:zE!)(tl:TE):TI:=λZ H R=>tl Z H λx H1=>∃a,x=.ref a/\(∃xs,Fd K H1 a xs)/\R (JJ K a) H1
def b3c(hl:PE X l tl):Ha_ l (GF X.K tl):=by
 intro hb s Z H R I h;exact dP mR_ ?_;rintro v s1 ⟨x,H1,I1,r1,q1⟩;let#[a,e,#[xs,hq],q]:=q1;subst e;subst r1;let#[its,rv,p,hz]:=I1.list hq;exact TQ p.isList ?_;exact Fu_ b5g;let e:b=x!:=by simpa using J
 show"!T"
def d2w{l:Expr}{tl:TE}(hl:PE X l tl):Ha_ l (Ru X.K tl):=by
 intro hb s Z H R I h;exact dP mR_ λv s1 ⟨x,H1,I1,r1,q1⟩=>?_;let#[a,e,#[xs,hq],q]:=q1;subst e;cases r1;let#[its,rv,p,hz]:=I1.tuple hq;exact YC (show s1.heap.IsTuple a an_ from p) ?_;exact Fu_ a8s;let e:b=x!:=by simpa using J
 show"!T"
def a5f{lo hi:Int}(I:e_)(Y:-gz!<=lo)(h2:lo<2 ^ 62)(h3:-gz!<=hi)(h4:hi<2 ^ 62)
  (q:R (GQ lo (mS_).toNat) H):BQ_ (pyIter bt_) sS! E {s with heap:=s.heap.push {cls:=.type "range",data:=Dv! t},toks:=tk}:=by
 exact wpAny_pyIter_range (IsRange.new ..) (small_one Y h2 h3 h4) ?_;let I1:oV_ H {s with heap:=s.heap.push {cls:=.type "range",data:=Dv! t},toks:=tk}:=I.kept λb o e=>MC _ e;exact⟨(mT!).objs.size,[(mT!).objs.size],_,_,H,χ,
  I1.kept (t':=tk) λb o e=>MC _ e,a8t _ lo (mS_).toNat,?_,λb J=>?_,q⟩
 .let e1:lo+dX!*1=lo:=by simp
  let e2:s0! - dX!=Builtin.Range.rangeSize lo hi 1:=by rw[rangeSize_one];split<;>omega
  show IsRangeIter _ _ (lo+dX!*1) (s0! - dX!) 1;rw[e1,e2];exact NI _ χ
 .let e:b=(mT!).objs.size:=by simpa using J
  show"!T"
def GE(ta:TA):TI:=λZ H R=>ta Z H λvs H1=>∃j:Int,vs=[e0!]/\-gz!<=j/\j<2 ^ 62/\R (GQ 0 j.toNat) H1
def GC(ta:TA):TI:=λZ H R=>ta Z H λvs H1=>∃i j:Int,vs=[eS_,e0!]/\(-gz!<=i/\i<2 ^ 62/\-gz!<=j/\j<2 ^ 62)/\R (GQ i (dX_).toNat) H1
def b5x(hg:iR_)(hm:iS!)(ha:PA X [a] ta)(hs:s0_:=by rfl):Ha_ s2_ (GE ta):=by
 intro hb s Z H R I h;exact GF_ boot_range (PU (dP gA! ?_) hs χ);rintro us s1 ⟨vs,H1,I1,r1,q1⟩;let#[j,e,q1,q2,q]:=q1;subst e;cases r1 with
 |cons r rr=>
  cases rr;show"#+";exact call_range_1 (a5f I1 a! a! q1 q2 (Di_ q))
def b5w(hg:iR_)(hm:iS!)(ha:PA X O! ta)(hs:s3_:=by rfl)(bo:s4!:=by rfl):
  PI X tg s4_ (GC ta):=by
 intro hb s Z H R I h;exact Call_ (iP I hg hm boot_range (PU (dP gA! λus s1 ⟨vs,H1,I1,r1,q1⟩=>?_) (by rw[hs,bo]) (FF_ bo)));let#[i,j,e,#[q1,q2,q3,q4],q]:=q1;subst e;cases r1 with
 |cons r rr=>
  cases rr with
  |cons r' rr=>
   cases rr;show"#+";let#[t',rfl]:=r';exact call_range_2 (a5f I1 q1 q2 q3 q4 q)
def IH(wi:TI)(g:TG)(tb:TS):TS:=λD Z H=>wi Z H λal H1=>∃W:Nat->Nat->St->Hp->Prop,(∃m,W 0 m Z H1)/\∀i m Z H,W i m Z H->
 (al.stop i H/\D.nx Z H)\/(al.go i H/\∃N:St->Hp->Prop,(∀ac H',N ac H'->∃m',m'<m/\W w_ m' ac H')/\∀x H',al.yld i H x H'->g x Z H' λdu H2=>tb {D with nx:=N,ct:=N,bk:=D.nx} du H2)
def Qp(fp:bJ!)(h:Heap):μ eN!:=fp.filterMap λb=>(h.get? b).map λo=>(b,o)
def jM(J:b∈fp)(e:rN_):(b,o)∈Qp fp h:=SH.mpr #[b,J,mW!]
def b6r(hp:p∈Qp fp h):p.1∈fp/\h.get? p.1=ψ p.2:=by
 let#[b,J,e]:=SH.mp hp;cases q:h.get? b with
 |none=>rw[q]at e;rcases e
 |some o=>
  rw[q]at e;let e':(b,o)=p:=OF e;subst e';exact#[J,q]
def Inv.pinned(I:e_)(hf:∀b∈fp,D6! H b)(ho:∀b∈fp,∃o,yY_ b=ψ o/\∀v,o.data≠.cell v):E2! (hb++Qp fp s.heap) s:=
 I.pins_of λp hp=>GD_ iU! λz=>by
  let#[J,e]:=b6r z;let#[f0,f1,f2,_]:=hf p.1 J;let#[o,e',d]:=ho p.1 J;rw[e]at e';rcases e';exact#[e,f0,f1,f2,d]
def Inv.unpinned(I:E2! (hb++pl) s):oV_ H s:=I.pins_of λp hp=>I.pin p (MF _ (MV _ hp))
def c0c(hp:gv_)(hc:az!)(hi:mW_)(hg:mI_)(J:Ix_ tb)
  (hs:db_:=by intro _;rfl):PS X s6! (IH wi g tb):=by
 intro hb s Z H D I h;exact wpAny_For (dP (JZ_ hi _) λv s1 Y=>dP Y λu0 s2 h2=>?_) hs;let#[it,fp,tn,al,H2,e,I2,T,bt,f2,W,#[m0,w0],turn]:=h2;subst e;let na:∀{H':Hp},gA_->∀b∈fp,D6! H' b:=λhn b J=>#[hn b J,(d0!).2];exact codeAny_forLoop_any (λn s'=>∃i ac H',Inv X hb ac H' s'/\tn i s'.heap/\gA_/\W i n ac H') ?_ m0 #[0,Z,H2,I2,bt,s6_,w0];rintro n s3 ⟨i,ic,H3,I3,u4,z7,w3⟩;obtain⟨stop,qn⟩|⟨go,N,hN,step⟩:=turn i n ic H3 w3
 .exact Fa! (T.done X χ χ χ hc i hb s3 ic H3 X.xe I3 (na z7) u4 stop);rintro r s4 ⟨hr,I4⟩;subst hr;exact UR #[ic,H3,I4,qn]
 .exact Fa! (T.item X χ χ χ hc i hb s3 ic H3 X.xe I3 (na z7) u4 go);rintro r s4 ⟨u,hr,h4⟩;subst hr;exact Fa! h4;rintro _ s5 ⟨x,H5,I5,r5,y5,ng,wu⟩;let wv:=I5.pinned (na wu) s8!;exact Fa! (hg _ s5 ic H5 x u _ wv r5 s8_);rintro _ s6 ⟨nh,H6,I6,q6⟩;exact TB hp (dP (J _ s6 nh H6 _ I6 q6) λf s7 q7=>?_);let again:∀{iw:St} {H7:Hp},Inv X (hb++Qp fp s5.heap) iw H7 s7->N iw H7->∃m,m<n/\∃i ac H',Ew_ s7/\tn i s7.heap/\gA_/\W i m ac H':=λ{iw H7} I7 n7=>by
   let#[m',hm,w7]:=hN iw H7 n7;exact#[m',hm,i+1,iw,H7,iV_,T.keep _ _ _ ng λb J o e=>(ta_).1,bt!,w7];let#[o,e,d]:=H4_ ng;exact(ta_).2.1
  cases f with
  |next=>let#[iw,H7,I7,n7]:=q7;exact again I7 n7
  |cont=>let#[iw,H7,I7,n7]:=q7;exact again I7 n7
  |brk=>let#[iw,H7,I7,q7]:=q7;exact#[iw,H7,iV_,q7]
  |ret v=>let#[x7,iw,H7,I7,r7,q7]:=q7;exact#[x7,iw,H7,iV_,r7,q7]
end
abbrev R2:=V->V->Hp->VK->ν
def Gb(X:Cx)(f:tb_)(r:R2):Prop:=
 ∀(hb:z!) (s:yY!) (Z:St) (H:Hp) (x y:V) (v u:yL!) (Q:VK),oV_ H s->Bi x v->Bi y u->Gs_ r->
  wpAny h! X.A (f v u) aP! X.xe s
def JF(X:Cx)(f:Value->Sem Value)(r:tc!):Prop:=
 ∀(hb:z!) (s:yY!) (Z:St) (H:Hp) (x:V) (v:yL!) (Q:VK),oV_ H s->Bi x v->r x H Q->
  wpAny h! X.A (f v) aP! X.xe s
def Gk(X:Cx)(f:yL!)(r:e1_):Prop:=
 ∀(hb:z!) (s:yY!) (Z:St) (H:Hp) (xs:s_) (us:o!) (Q:VK),oV_ H s->Ax xs us->r xs H Q->
  wpAny h! X.A (call f us) aP! X.xe s
def JG(X:Cx)(r:V->Hp->sg!->ν):Prop:=
 ∀(hb:z!) (s:yY!) (Z:St) (H:Hp) (x:V) (v:yL!) (Q:dR!),oV_ H s->Bi x v->r x H Q->
  wpAny h! X.A mw_ iF! X.xe s
def ET(r:R2)(ta tb:TE):TE:=λZ H Q=>ta Z H λx H1=>tb Z H1 λy H2=>r x y H2 Q
def LB(r:tc!)(ta:TE):TE:=λZ H Q=>ta Z H λx H1=>r x H1 Q
nonrec def rI(C:Int->Int->ν)(g:Int->Int->V):R2:=λx y H Q=>∃i j,x=.int i/\y=.int j/\C i j/\Q bu! H
def Ss(g:Int->Int->V):R2:=λx y H Q=>∃i j,x=.int i/\y=.int j/\Q bu! H
nonrec def rU(g:Int->V):V->Hp->VK->Prop:=λx H Q=>∃i,x=.int i/\Q (g i) H
section
variable{X:Cx}{a b c:Expr}{ta tb tc:TE}{pos:Pos}
def d5x(ha:aU_)(J:cu_){R:sj!}(I:e_)
  (h:sj_){f:tb_}
  (hf:sk!):
  wpAny h! X.A mr_ sl! X.xe s:=by
 show"!>"
def b3d(ho:mY_)(ha:aU_)(J:cu_):PE X mZ! iW_:=by intro hb s Z H Q I h;exact wpAny_BinOp td!
def d6z(ho:JF X (unaryOp op) r)(ha:aU_):PE X (.UnaryOp op a pos) (LB r ta):=by intro hb s Z H Q I h;exact UnaryOp_ (En_ ho)
def opI{g:mK!}
  (rule:∀(i j:Int) (t u:Tok) (s:yY!) (Q:X_) (E:X_),C i j->Q td_ {s with toks:=s.toks+1}->JA_ mZ_):
  Gb X f (rI C λi j=>.int bu!):=by
 intro hb s Z H x y v u Q I rx ry h;let#[i,j,rfl,rfl,hc,q]:=h;show"!F";let#[t',rfl]:=ry;exact FU_ hc te!
def d7g{g:mK!}
  (rule:∀(i j:Int) (t u:Tok) (s:yY!) (Q:X_) (E:X_),Q td_ {s with toks:=s.toks+1}->JA_ mZ_):
  Gb X f (Ss λi j=>.int bu!):=by
 show"!X";exact FU_ te!
def c7n{g:tf_}
  (rule:∀(i j:Int) (t u:Tok) (s:yY!) (Q:X_) (E:X_),Q (.bool bu!) s->JA_ mZ_):
  Gb X f (Ss λi j=>.bl bu!):=by
 show"!X";exact FU_ (JZ! bu! q)
def ER(i j:Int):Prop:=0<j/\j<1073741824
def EQ(i j:Int):Prop:=0<=j/\j<=1000000/\bK_<2 ^ 64
def AJ(i j:Int):Prop:=(-gB!<i/\i<2 ^ 64)\/(-gB!<j/\j<2 ^ 64)
def AJ.ok(h:AJ i j):IntMulOk i j:=by
 obtain⟨Y,h2⟩|⟨Y,h2⟩:=h
 .exact .of_left th_
 .exact .of_right th_
def d3j:Gb X e2! (Ss λi j=>.int (i+j)):=d7g λ_ _ _ _ _ _ _ q=>add_int q
def vL:Gb X (binaryOp .Sub) ti!:=d7g λ_ _ _ _ _ _ _ q=>sub_int q
def rS:Gb X ti_ m0_:=opI λ_ _ _ _ _ _ _ hc q=>mul_int q hc.ok
def oE:Gb X (binaryOp .FloorDiv) m1!:=opI λi j _ _ _ _ _ hc q=>by
 let Y:(0:Int)<j:=hc.1;let h2:j<1073741824:=hc.2;exact Iy_ floordiv_int Int.fdiv_eq_ediv_of_nonneg (.inl (PyProof.noPylong_small a!))
def fK:Gb X (binaryOp .Mod) m1_:=opI λi j _ _ _ _ _ hc q=>by
 let Y:(0:Int)<j:=hc;exact Iy_ mod_int' Int.fmod_eq_emod_of_nonneg
def d3c:Gb X (binaryOp .Pow) m2!:=opI λ_ _ _ _ _ _ _ hc q=>pow_int_small hc.1 hc.2.1 hc.2.2 q
def unI{g:m3!}
  (rule:∀(i:Int) (t:Tok) (s:yY!) (Q:X_) (E:X_),Q (.int (g i) s.toks) {s with toks:=s.toks+1}->JA_ (f dN_)):
  JF X f (rU λi=>.int (g i)):=by
 intro hb s Z H x v Q I rx h;let#[i,rfl,q]:=h;show"!F";exact rule i t s _ _ #[.int (g i),H,aP_,A_,q]
def d2c:JF X (unaryOp .USub) (rU λi=>.int (-i)):=unI λ_ _ _ _ _ q=>neg_int q
end
def IL:V->V->Bool
 |.non,.non=>τ|.non,.int _=>τ|.int _,.non=>τ|.non,.bl _=>τ|.bl _,.non=>τ|.non,.str _=>τ|.str _,.non=>τ
 |.int _,.int _=>τ|.bl _,.bl _=>τ|.str _,.str _=>τ|.byt _,.byt _=>τ
 |.int _,.str _=>τ|.str _,.int _=>τ|.bl _,.str _=>τ|.str _,.bl _=>τ
 |_,_=>θ
def JX:R2:=λx y H Q=>IL x y=τ/\EA! (!decide (x=y))
def b4o:decide (V.int i=V.int j)=(i==j):=by rw[RE];simp
def d5i:decide (V.bl i=V.bl j)=(i==j):=by rw[RE];simp
def b4n:decide (V.str i=V.str j)=(i==j):=by rw[RE];simp
def c9q:decide (V.byt i=V.byt j)=(i.toList==j.toList):=by rw[RE];cases i;cases j;simp
section
variable{X:Cx}{a b c:Expr}{ta tb tc:TE}{pos:Pos}
def eX(I:e_)(q:EA! k)(e:k=k'):DR_ (.bool k') s:=by subst e;exact JZ! k q
def zE:Gb X tl! JX:=by
 intro hb s Z H x y v u Q I rx ry h;let#[hs,q]:=h;cases x with
 |non=>
  subst rx;cases y with
  |non=>cases ry;exact PySem.EqNone.ne_none_none bL!
  |bl j=>cases ry;exact PySem.EqNone.ne_none_bool bL!
  |int j=>let#[t',rfl]:=ry;exact PySem.EqNone.ne_none_int bL!
  |str j=>let#[t',rfl]:=ry;exact PySem.EqNone.ne_none_str bL!
  |_=>exact JD! e3_
 |bl i=>
  subst rx;cases y with
  |non=>cases ry;exact PySem.EqNone.ne_bool_none bL!
  |bl j=>cases ry;exact Jv! ne_bool d5i
  |str j=>let#[t',rfl]:=ry;exact PySem.EqMixed.ne_bool_str bL!
  |_=>exact JD! e3_
 |int i=>
  let#[t,rfl]:=rx;cases y with
  |non=>cases ry;exact PySem.EqNone.ne_int_none bL!
  |int j=>let#[t',rfl]:=ry;exact Jv! ne_int b4o
  |str j=>let#[t',rfl]:=ry;exact PySem.EqMixed.ne_int_str bL!
  |_=>exact JD! e3_
 |str i=>
  let#[t,rfl]:=rx;cases y with
  |non=>cases ry;exact PySem.EqNone.ne_str_none bL!
  |bl j=>cases ry;exact PySem.EqMixed.ne_str_bool bL!
  |int j=>let#[t',rfl]:=ry;exact PySem.EqMixed.ne_str_int bL!
  |str j=>let#[t',rfl]:=ry;exact Jv! ne_str b4n
  |_=>exact JD! e3_
 |byt i=>
  let#[t,rfl]:=rx;cases y with
  |byt j=>let#[t',rfl]:=ry;exact Jv! W.ne_bytes c9q
  |_=>exact JD! e3_
 |_=>cases y<;>exact JD! e3_
def b3l:Gb X (compareOp .Lt) m6!:=c7n λ_ _ _ _ _ _ _ q=>lt_int q
def d7d:Gb X m6_ (Ss λi j=>.bl m7!):=c7n λ_ _ _ _ _ _ _ q=>le_int q
def a5q:Gb X tm! m8!:=c7n λ_ _ _ _ _ _ _ q=>gt_int q
def d7f:Gb X (compareOp .GtE) m9!:=c7n λ_ _ _ _ _ _ _ q=>ge_int q
def b6f:Gb X e4! (Fk_ iY!):=by intro hb s Z H x y v u Q I rx ry h;let#[i,j,rfl,rfl,q]:=h;let#[t,rfl]:=rx;let#[t',rfl]:=ry;exact in_str (eX I q χ)
def a1j:Gb X tn_ to!:=by
 intro hb s Z H x y v u Q I rx ry h;let#[rfl,q]:=h;subst ry;exact is_none_gen (eX I q ?_);cases x<;>first
  |(subst rx;rfl)
  |(let#[t,rfl]:=rx;rfl)
def oC:Gb X to_ tp_:=by
 intro hb s Z H x y v u Q I rx ry h;let#[rfl,q]:=h;subst ry;exact isnot_none_gen (eX I q ?_);cases x<;>first
  |(subst rx;rfl)
  |(let#[t,rfl]:=rx;rfl)
def Gb.or(h:Gb X f r)(h':Gb X f r'):Gb X f tq_:=by
 intro hb s Z H x y v u Q I rx ry q;obtain q|q:=q
 .exact Kj_ h
 .exact Kj_ h'
def aS(b:Expr)(h:op≠.In:=by decide)(h2:op≠.NotIn:=by decide):behindInMarks op b=false:=by
 let e1:so_=false:=by cases op<;>first|rfl|exact Dl! h
 let e2:sp!=false:=by cases op<;>first|rfl|exact Dl! h2
 cases b<;>simp[behindInMarks,e1,e2]
def b3g(ho:b8!)(ha:aU_)(J:cu_)(hm:dS_):PE X dT! iW_:=by intro hb s Z H Q I h;exact wpAny_Compare1 td! hm
def CC(t:TE):TT:=λZ H Q=>t Z H λx H'=>∃k,x=.bl k/\Q k H'
def b2w(ho:b8!)(ha:aU_)(J:cu_)(hm:dS_):PT X dT! (CC iW_):=by
 intro hb s Z H Q I h;exact XB (dP c7_ λv s1 ⟨x,H1,I1,r1,q1⟩=>dP gp_ λu s2 ⟨y,H2,I2,r2,q2⟩=>
  dP na! λc s3 ⟨z,H3,I3,r3,k,e,q3⟩=>?_) hm
 subst e;subst r3;exact OT #[H3,I3,q3]
def Yz(r r':R2)(ta tb tc:TE):TE:=λZ H Q=>ta Z H λx H1=>tb Z H1 λy H2=>r x y H2 λz H3=>∃k,z=.bl k/\
 (if k=τ then tc Z H3 λw' H4=>r' y w' H4 Q else Q C_ H3)
def c0s(ho:b8!)(f9:iY_)(ha:aU_)(J:cu_)(hc:PE X c tc)
  (hm:iZ!:=by with_unfolding_all rfl):PE X iZ_ tr!:=by
 intro hb s Z H Q I h;exact Compare_chain (dP c7_ λv s1 ⟨x,H1,I1,r1,q1⟩=>chain_link (dP gp_ λu s2 ⟨y,H2,I2,r2,q2⟩=>
  dP na! λd s3 ⟨z,H3,I3,r3,k,e,q3⟩=>?_)) hm
 subst e;subst r3;exact OT ?_;cases k with
 |false=>exact ite_ff #[.bl θ,H3,I3,χ,q3]
 |true=>exact ite_tt (chain_last (dP tr_ λw' s4 ⟨z',H4,I4,r4,q4⟩=>f9 hb s4 Z H4 y z' u w' Q I4 r2 r4 q4))
def b9z(ho:b8!)(f9:iY_)(ha:aU_)(J:cu_)(hc:PE X c tc)
  (hm:iZ!:=by with_unfolding_all rfl):PT X iZ_ (CC tr!):=by
 intro hb s Z H Q I h;exact isTrue_chain (dP c7_ λv s1 ⟨x,H1,I1,r1,q1⟩=>test_link (dP gp_ λu s2 ⟨y,H2,I2,r2,q2⟩=>
  dP na! λd s3 ⟨z,H3,I3,r3,k,e,q3⟩=>?_)) hm
 subst e;subst r3;exact OT ?_;cases k with
 |false=>
  let#[k',e',q']:=q3;cases e';exact ite_ff #[H3,I3,q']
 |true=>
  exact ite_tt (test_last (dP tr_ λw' s4 ⟨z',H4,I4,r4,q4⟩=>dP (f9 hb s4 Z H4 y z' u w' _ I4 r2 r4 q4) ?_));rintro d' s5 ⟨z2,H5,I5,r5,k2,e2,q5⟩;subst e2;subst r5;exact OT #[H5,I5,q5]
def GK(K:zE!)(x:V)(H:Hp)(k:Bool):Prop:=
 match x with
 |.non=>k=θ
 |.bl b=>k=b
 |.int i=>k=gC_
 |.str y=>aA_<=sizeLine/\k=((aA_:Int) != 0)
 |.byt y=>y.size<=sizeLine/\k=((y.size:Int) != 0)
 |.ref p=>(EG_ El K)\/(EG_ Fd K)\/∃h1,H p=ψ d3_/\k=! nb_
 |_=>False
def b0o(r:KV h1 vs):(!vs.isEmpty)=! nb_:=by cases r<;>rfl
def wR(r:G8! xs):(! nc!)=! d3!:=by cases r<;>simp
def sB:(sizeLine:δ)<2 ^ 63:=by rw[OP];decide
def d2e:JG X (λx H Q=>∃k,GK X.K x H k/\Q k H):=by
 intro hb s Z H x v Q I rx h;let#[k,e,q]:=h;let hl:=sB;let hs:sizeLine=16777216:=OP;cases x with
 |non=>
  subst rx;let e':k=false:=e;subst e';exact truthy_none nc_
 |bl b=>
  subst rx;let e':k=b:=e;subst e';exact OT nc_
 |int i=>
  show"!F";let e':k=gC_:=e;subst e';exact PySem.P.truthy_int nc_
 |str y=>
  show"!F";obtain⟨hy,e'⟩:aA_<=sizeLine/\k=((aA_:Int) != 0):=e;subst e';exact PySem.P.truthy_str a! #[H,aP_,q]
 |byt y=>
  show"!F";obtain⟨hy,e'⟩:y.size<=sizeLine/\k=((y.size:Int) != 0):=e;subst e';exact W.truthy_bytes a! #[H,aP_,q]
 |ref p=>
  subst rx;let e':(EG_ El X.K)\/(EG_ Fd X.K)\/∃h1,H p=ψ d3_/\k=! nb_:=e;obtain⟨xs,hx,e'⟩|⟨xs,hx,e'⟩|⟨h1,hx,e'⟩:=e'
  .subst e';let#[its,r,pl,hz]:=EK_ hx;let ao:=ay_;exact Fv! wpAny_truthy_list i1! tt_
  .subst e';let#[its,r,pl,hz]:=DA! hx;let ao:=ay_;exact truthy_tuple pl i1! tt_
  .subst e';obtain⟨hz,hS,vs,r,m⟩:ay!<=sizeLine/\(p==sysModules)=θ/\∃vs,KV h1 vs/\s.heap.DictOf (mixKind X.prog X.w) p vs:=I.hok p _ hx;let ao:ay!=bu_:=TV r;exact wpAny_truthy_dict hS m a! #[H,aP_,by rw[b0o r];exact q]
 |_=>exact(tu!).elim
def b9x(ha:aU_)(he:∀ff,isTrue a X.env ff=(do let v <-ff;standAt a.pos;holding [v] mw_)):
  PT X a (λZ H Q=>ta Z H λx H'=>∃k,GK X.K x H' k/\Q k H'):=by
 show"!D";exact isTrue_plain (En_ d2e) (he _)
def a9r:Gb X e2! (λx y H Q=>∃i j,x=.str i/\y=.str j/\i.length+j.length<=sizeLine/\Q (.str (i++j)) H):=by intro hb s Z H x y v u Q I rx ry h;let#[i,j,rfl,rfl,hz,q]:=h;let#[t,rfl]:=rx;let#[t',rfl]:=ry;exact add_str (λt' tk=>#[.str (i++j),H,aP_,A_,q]) hz
def iT(r:Ax [x] us):∃u,us=[u]/\Bi x u:=by
 cases r with
 |cons r1 r2=>cases r2;exact F3! r1
def a4h(r:Ax [x,y] us):∃u w',us=[u,w']/\Bi x u/\Bi y w':=by
 cases r with
 |cons r1 r2=>
  cases r2 with
  |cons r3 r4=>cases r4;exact#[_,_,χ,r1,r3]
def c5e:Gk X tw! tw_:=by intro hb s Z H xs us Q I r h;let#[i,rfl,q]:=h;let#[u,rfl,t,rfl]:=iT r;exact call_abs_int λu tk=>#[.int i1_,H,aP_,A_,q]
def a3w:Gk X aW! (λxs H Q=>∃i,xs=dc_/\dd!<1920/\Q nd! H):=by intro hb s Z H xs us Q I r h;let#[i,rfl,hz,q]:=h;let#[u,rfl,t,rfl]:=iT r;exact PySem.P.str_of_int hz tx!
def c5c:Gk X tx_ ty_:=by intro hb s Z H xs us Q I r h;let#[x,rfl,hz,q]:=h;let#[u,rfl,t,rfl]:=iT r;exact ord_of_one hz iN_
def EL(K:zE!)(x:V)(H:Hp)(n:δ):Prop:=
 match x with
 |.str y=>aA_<=sizeLine/\n=aA_
 |.byt y=>y.size<=sizeLine/\n=y.size
 |.ref p=>(Iz! K)\/∃xs,Fd K H p xs/\n=j!
 |_=>False
def cN:Gk X tz! (λxs H Q=>∃x n,xs=[x]/\EL X.K x H n/\Q d4_ H):=by
 intro hb s Z H xs us Q I r h;let#[x,n,rfl,e,q]:=h;let#[u,rfl,rx]:=iT r;let hl:=sB;let hs:sizeLine=16777216:=OP;cases x with
 |str y=>
  show"!F";obtain⟨hy,e'⟩:aA_<=sizeLine/\n=aA_:=e;subst e';exact len_str a! iN_
 |byt y=>
  show"!F";obtain⟨hy,e'⟩:y.size<=sizeLine/\n=y.size:=e;subst e';exact W.len_bytes a! iN_
 |ref p=>
  subst rx;let e':(Iz! X.K)\/∃xs,GV_ p xs/\n=j!:=e;obtain⟨xs,hx,e'⟩|⟨xs,hx,e'⟩:=e'
  .subst e';let#[its,r',pl,hz]:=EK_ hx;let ao:=gD_;exact Fv! Calls.call_len_list i1! tA!
  .subst e';let#[its,r',pl,hz]:=DA! hx;let ao:=gD_;exact len_tuple pl i1! tA!
 |_=>exact(tu!).elim
end
structure Wx(h:Heap)(x dx C:yJ!)(mA:U_):Prop where
 obj:h.get? x=ψ l9!
 ns:h.Ns1 dx mA
 ne:dx≠x
def b7f{h:Heap}(n:h.Ns1 dx mA):∃od,h.get? dx=ψ od/\∀name,H5! od=ψ (mA name):=by
 let#[o,es,ep,ho,hd,hk,_,hm]:=n;exact#[o,ho,λname=>?_];let e:=hm name;delta nsFind findBy at e;rw[<-Array.find?_toList]at e;delta W.lookIn;rw[hd];show"#:";split
 .rename_i y q;rw[q]at e;exact JI! e
 .rename_i q;rw[q]at e;let a:es.toList.any (·.refKey)=false:=by
   rw[XT];intro y hy;let#[z,t,hkey]:=hk y (Array.mem_toList_iff.mp hy);simp[DictEntry.refKey,hkey]
  let a':¬es.toList.any (·.refKey)=true:=by rw[a];exact NO
  rw[MY a'];exact JI! e
def Wx.look(I:Wx h x dx C mA):∃od,W.InstAt h x l9! C (ψ od)/\∀name,H5! od=ψ (mA name):=
 let⟨od,ho,hl⟩:=b7f I.ns
 #[od,#[I.obj,χ,χ,ho],hl]
section
variable{prog:yW!}{w:yM!}{A:yK!}{E:Value->Shared->Prop}{s:yY!}{K:zE!}{x dx C f:yJ!}{mA:Str->Option Value}{name:Str}{v:yL!}
def c9a(X:i4!)(I:ne_)(hg:tB!)(hh:tB_)
  (ha:DH! K name=ψ υ)(hv:mA name=ψ v)(u5:W.handedIn v=τ)(h:Q v {s with toks:=s.toks+1}):
  wpAny n! A (getAttr gj_ name expr) Q E s:=by
 show"#?";exact W.get_value X al (nf!).1 (W.findObj_own hh ha χ (by rw[hl,hv])) u5 h
def c3l(X:i4!)(I:ne_)(hg:tB!)
  (hf:DH! K name=ψ d5!)(ht:W.isFn K ag_=τ)(hv:mA name=υ)(h:Q (.ref f,[.ref x]) s):
  wpAny n! A (getMethod gj_ name pl) Q E s:=by
 show"#?";exact W.method_fn X al (nf!).1 (nf!).2 hf (PP.mp ht) (by show(H5! od).map (·.isSome)=ψ θ;rw[hl,hv];rfl) h
def c6i(X:i4!)(I:ne_)
  (hs:DH! K "__setattr__"=ψ tE_)(hp:W.plainOver K C=τ)(ht:W.takerIn K C name=ψ υ)(hh:tB_)
  (hw:G9! ns)(bj:tF_)
  (h:∀h',Wx h' x dx C (λy=>if y=name then ψ v else mA y)->Dy! dx->Q () {s with heap:=h',toks:=s.toks+2}):
  wpAny n! A (setAttr gj_ name v) Q E s:=by
 show"#?";exact W.set_plain X al hs (W.osa_open (s:=ng_) (r:=υ) X al hp ht λb=>?_);let#[cd,hc,m9]:=W.any_some hh;let hx:yY_ x=ψ #[.ref C,ψ dx,.plain,#[]]:=I.obj;exact Hb! (J0_ (wpAny_loadPart hx (LW (W.Looks.here (s:=ng_) (W.looks_clsIn X hc) ?_))));rw[m9];exact LZ (a:=ψ dx) (Hb! gF!);exact wpAny_nsSet1 (s:=ng_) I.ns λh' ip bo=>?_;let#[oD,esD,epD,ww,wx,hcD]:=ip.count (PySem.Within.cons name v hw);exact LW (wpAny_lookBehind ww (by rw[wx];exact pastItsLine_dict (NR hcD tG_)) ?_);exact LZ (h _ #[(bo.2 _ (OB I.ne)).trans I.obj,ip,I.ne] bo)
def c2b(X:i4!)(hm:W.makesIn K C=τ)
  (hi:J8_ K=ψ d5!)(hf:W.typeIn K ag_=ψ (.type "function"))
  (h:codeAny n! (A.under (FG! vs)) (.call ag_ #[.ref Z_::vs,kw]) (W.InitBack Z_ R)
   {s with heap:=(e5_).push i6!}):
  codeAny n! A (.call ao_ #[vs,kw]) R s:=by
 let#[hh,g,d,t,os]:=s;exact W.make_core (W.makes_of X hm) (W.looks_findIn X hi) (λself=>W.bind_fn X self hf) N_ h
end
def Kj(f:Str)(v:V):μ c4!->μ c4!
 |[]=>[(f,v)]
 |(g,x)::r=>if g=f then(g,v)::r else(g,x)::Kj f v r
def sZ(f g:Str)(v:V):∀fs:List c4!,GG! i7! g=if g=f then ψ v else DY! g
 |[]=>by
  show Es! g [(f,v)]=_;by_cases h:g=f
  .let J:(g==f)=true:=PP.mpr h;simp![List.lookup,J,MM h]
  .let J:(g==f)=false:=OL.mpr h;simp![List.lookup,J,MY h]
 |(k,x)::r=>by
  let ih:=sZ f g v r;rw[nj_];by_cases hk:k=f
  .rw[ba!];by_cases h:g=k
   .let J:(g==k)=true:=PP.mpr h;simp![List.lookup,J,MM (h.trans hk)]
   .let J:(g==k)=false:=OL.mpr h;simp![List.lookup,J,MY (λe:g=f=>h (e.trans hk.symm))]
  .rw[ba_];by_cases h:g=k
   .let J:(g==k)=true:=PP.mpr h;simp![List.lookup,J,MY (λe:g=f=>hk (h.symm.trans e))]
   .let J:(g==k)=false:=OL.mpr h;simp![List.lookup,J];exact ih
def sC(f:Str)(v:V):∀fs:List c4!,f∈Dj_ i7!/\∀g,g∈fs.map d!->g∈Dj_ i7!
 |[]=>#[by simp[Kj],λg h=>by simp at h]
 |(k,x)::r=>by
  let#[i1,i2]:=sC f v r;rw[nj_];by_cases hk:k=f
  .rw[ba!];subst hk;exact#[Q!,λg h=>by simpa using h]
  .rw[ba_];exact#[?_,λg h=>?_]
   .rw[MO];exact LY _ i1
   .rw[MO]at h ⊢;obtain e|e:=MD.mp h
    .exact MD.mpr (.inl e)
    .exact LY _ (i2 g e)
def tF(f:Str)(v:V):∀fs:List c4!,(i7!).length<=bq!+1
 |[]=>by simp[Kj]
 |(k,x)::r=>by
  let ih:=tF f v r;rw[nj_];by_cases hk:k=f
  .rw[ba!,MX,MX];omega
  .rw[ba_,MX,MX];omega
def Nk.some_of(r:Nk dQ! o):∃u,o=ψ u/\Bi v u:=by
 cases o with
 |none=>exact(i8_).elim
 |some u=>exact#[u,χ,r]
def Nk.none_of(r:Nk υ o):o=none:=by
 cases o with
 |none=>rfl
 |some u=>exact(i8_).elim
def b7m(r:bs!):W.handedIn u=true:=by
 cases v with
 |non=>cases (show u=gi! from r);rfl
 |bl b=>cases (show u=Value.bool b from r);rfl
 |int i=>let#[t,e]:=tL!;subst e;rfl
 |str x=>let#[t,e]:=tL_;subst e;rfl
 |byt b=>let#[t,e]:=(Iz_ Value.bytes);subst e;rfl
 |flt b=>let#[t,e]:=(Iz_ Value.float);subst e;rfl
 |ref a=>cases (show u=Value.ref a from r);rfl
 |ty n=>cases (show u=Value.type n from r);rfl
section
variable{P:yW!}{w:yM!}{H H':Hp}{h h':Heap}{a C dx:yJ!}{fs fs':List (Str×V)}
def a3i(hok:bq_)(e:i9!):∃mA,Wx h a dx C mA/\rz!/\G9! l9_/\bq!<=1000/\H dx=ψ gj!:=by let#[d,z,ne,ob,mA,n,r,q]:=(HO_ e6! hok);exact#[mA,#[ob,n,ne],r,q,z,d]
end
structure Vh(K:zE!)(C:yJ!):Prop where
 pg:W.plainGet K C Str.empty=τ
 hd:W.hasDictIn K C=τ
 po:W.plainOver K C=τ
 sa:DH! K "__setattr__"=ψ tE_
def Vh.get{K:zE!}(c:Vh K C)(f:Str):W.plainGet K C f=true:=c.pg
def Dp(K:zE!)(C:yJ!)(f:Str):Prop:=DH! K f=ψ υ
def Dp.taker{K:zE!}(n:Dp K C f):W.takerIn K C f=ψ none:=by delta W.takerIn;rw[show DH! K f=ψ υ from n];rfl
structure Yr(K:zE!)(C:yJ!)(m:Str)(f:yJ!):Prop where
 at_:DH! K m=ψ d5!
 fn:W.isFn K ag_=τ
 kp:EH_ K ag_=τ
section
variable{X:Cx}{hb:List (Addr×Obj)}{Z:St}{H:Hp}{s:yY!}{a C dx:yJ!}{fs:List (Str×V)}{f:Str}{v:V}{A:yK!}{E:Value->Shared->Prop}
def b0y(I:e_)(e:i9!)(c:d6!)(n:Dp X.K C f)(l:DY! f=ψ v)
  (h:∀u s',oV_ H s'->Bi v u->Q u s'):JD_ (getAttr V_ f b):=by
 let#[mA,O,r,_,_,_]:=a3i I.hok e;let#[u,hu,ru]:=Nk.some_of (v:=v) (o:=mA f) (by rw[<-l];exact r f);exact c9a I.kIn O (c.get f) c.hd n hu (b7m ru) (h u _ i9_ ru)
def pK(I:e_)(e:i9!)(c:d6!)(k:HP! g)(l:DY! m=υ)
  (h:Q (.ref g,bb!) s):JD_ (getMethod V_ m pl):=by
 let#[mA,O,r,_,_,_]:=a3i I.hok e;let hn:mA m=none:=Nk.none_of (by rw[<-l];exact r m);exact c3l I.kIn O (c.get m) k.at_ k.fn hn h
def a9b(I:e_)(e:i9!)(c:d6!)(n:Dp X.K C f)(hl:bq!<1000)(ry:Bi y u)
  (h:∀s',Ju_ (K2_ tM!)->Q () s'):JD_ (setAttr V_ f u):=by
 let#[mA,O,r,wi,_,ho]:=a3i I.hok e;let hz:(l9_).length<=sizeLine:=by rw[MJ,OP];omega
 exact c6i I.kIn O c.sa c.po n.taker c.hd wi hz λh' O' sb=>h _ ?_;let hd:∃o,Du_ dx=ψ o:=by let#[o,_,_,e',_]:=O'.ns;exact#[o,e']
 exact I.write (x:=a) (e:=dx) tM_ (.inr ho) (λb q J z=>(sb.2 b J).trans z) hd ?_;exact#[by rw[bB O.ne];exact ho,?_,O.ne,O'.obj,_,O'.ns,λg=>?_,λg hg=>?_]
 .let:=tF f y fs;omega
 .show Nk ((Kj f y fs).lookup g) tN_;rw[sZ];by_cases q:g=f
  .rw[MM q,MM q];exact ry
  .rw[MY q,MY q];exact r g
 .by_cases q:g=f
  .rw[q];exact(sC f y fs).1
  .exact(sC f y fs).2 g (wi g λz=>hg ?_);show tN_=υ;rw[MY q];exact z
def Inv.made(I:e_):oV_ (upd (Kt_ (.own Z_)) Z_ (Ke! C))
  {s with heap:=(e5_).push i6!}:=by
 let e1:(e5_).get? k_=ψ i6_:=Eg! NI χ;let e2:((e5_).push i6!).get? Z_=ψ i6!:=by
  let:=NI e5_ (o:=W.instObj C k_) χ;rwa[RX]at this
 let e3:(e5_).Ns s.heap.objs.size gI!:=#[i6_,#[],_,e1,χ,(λe he=>ξ he c!),cA_];let I1:=I.laid (a:=k_) (o:=.own Z_) (h':=s.heap.push i6_) (t':=s.toks) tP_ u! #[_,e1];exact I1.laid (a:=k_+1) (o:=Ke! C) (t':=s.toks) tP_ (VF (RX _ _)) ?_;let ne:k_≠k_+1:=NX (UU _);exact#[by rw[bB ne,cC],OA _,ne,e2,λ_=>υ,(Heap.Ns1.of_empty e3).at λo q=>MC _ q,λ_=>jb!,λy hy=>ξ χ hy]
def d0k(J:attributeBase e f env (F8_ e)=F8_ e)
  (h:DW_ n! (F8_ e) (λo au=>wpAny n! A (getAttr o f τ) Q E au) E s):Jy! (eval tR_ env):=
 Attribute_any_ h (by rw[arm_eval_Attribute,J])
end
def II(K:zE!)(ta:TE)(f:Str):TE:=λZ H Q=>ta Z H λx H1=>∃a C dx fs v,x=.ref a/\H1 a=ψ e6!/\Vh K C/\Dp K C f/\DY! f=ψ v/\Q v H1
def IM(K:zE!)(ta tv:TE)(f:Str):TS:=λD Z H=>tv Z H λy H1=>ta Z H1 λx H2=>∃a C dx fs,x=.ref a/\H2 a=ψ e6!/\Vh K C/\Dp K C f/\bq!<1000/\
 D.nx Z (upd H2 a tM!)
section
variable{X:Cx}{o e value:Expr}{f:Str}{pos lj tpos:Pos}{ta tv:TE}
def d3a(he:PE X e ta)(J:De_ e f eS!=Dq_ e):PE X tR_ (II X.K ta f):=by intro hb s Z H Q I h;exact d0k J c9_;rintro u s1 ⟨x,H1,I1,rx,a,C,dx,fs,v,ex,ea,c,n,l,q⟩;subst ex;obtain rfl:u=Value.ref a:=rx;exact b0y I1 ea c n l λu' s2 I2 ru=>#[v,H1,I2,ru,q]
def d2t(ha:no!)(hv:PE X value tv)(hs:JU! value (.Attribute o f lj)=pure θ):PS X (EC_ [.Attribute o f lj] value) (IM X.K ta tv f):=by intro hb s Z H D I h;exact plainObj_wpAny_Assign_Attribute (dP (JZ_ hv _) λu s1 ⟨y,H1,I1,ry,q⟩=>dP (ha hb s1 Z H1 _ I1 q) ?_) hs;rintro ov s2 ⟨x,H2,I2,rx,a,C,dx,fs,ex,ea,c,n,l,q2⟩;subst ex;obtain rfl:ov=Value.ref a:=rx;exact a9b I2 ea c n l ry λs3 I3=>#[Z,_,I3,q2]
def d1m(he:cx!)(I:e_)
  (h:te Z H λx H1=>∃a C dx fs g,x=.ref a/\H1 a=ψ e6!/\Vh X.K C/\HP! g/\DY! m=υ/\
   ∀s1,oV_ H1 s1->BQ_ (callWith pos (.ref g) bb! tS! e7_) Q X.xe s1)
  (ht:eval tT! X.env=(do
   let ov <-eval e X.env
   standAt gJ!
   let(f,first) <-holding [ov] gJ_
   callWith pos f first tS! e7_)):
  wpAny h! X.A (Dq_ tT!) Q X.xe s:=by
 exact W.methodCall_KW (pl:=pl) c9_ ht;rintro u s1 ⟨x,H1,I1,rx,a,C,dx,fs,g,ex,ea,c,k,l,q⟩;subst ex;obtain rfl:u=Value.ref a:=rx;exact pK I1 ea c k l (q s1 I1)
end
structure Ai(k:Nat)(A:yK!):Prop where
 hd:A.handled=υ
 dp:A.depth+3*k+5<recursionLimit
 un:A.units+16*k+200<cLine
 gd:A.guards=ψ []
def Ai.mono(r:gK!)(h:j<=k):Ai j A:=#[r.hd,by let:=r.dp;omega,by let:=r.un;omega,r.gd]
def Ai.deeper(r:Ai W! A)(env:Env):Ai k (A.deeper env):=
 #[r.hd,by let:=r.dp;show A.depth+1+3*k+5<_;omega,by let:=r.un;show A.units+3+16*k+200<_;omega,r.gd]
def Ai.in1(r:Ai W! A):Ai k A.in1:=
 #[r.hd,by let:=r.dp;show A.depth+3*k+5<_;omega,by let:=r.un;show A.units+1+16*k+200<_;omega,r.gd]
def b0k{A:yK!}:(jd_).depth=A.depth+1:=by first|rfl|simp[Around.under,Code.weight,Code.isCreation,Code.isGuard,Code.isCaller,Code.frames,Code.isFrame,guardIds]
def b0j{A:yK!}:(jd_).units=A.units+1:=by first|rfl|simp[Around.under,Code.cUnits,Code.frames,Code.isFrame]
def Ai.make(r:Ai W! A)(C:yJ!)(us:o!)(kw:je!):Ai k jd_:=
 #[r.hd,by let:=r.dp;rw[b0k];omega,by let:=r.un;rw[b0j];omega,by first|exact r.gd|(simpa[Around.under,Code.guards,Code.isGuard,guardIds,pushGuards]using r.gd)]
def Ai.depth(r:gK!):A.depth<recursionLimit:=by let:=r.dp;omega
def Ai.units(r:gK!):A.units+64<cLine:=by let:=r.un;omega
def Ai.units0(r:gK!):A.units<cLine:=by let:=r.un;omega
def DH:TA:=λ_ H Q=>Q [] H
def FF(ta:TE)(tr:TA):TA:=λZ H Q=>ta Z H λx H1=>tr Z H1 λxs H2=>Q dh_ H2
section
variable{X:Cx}{e:Expr}{es:List Expr}{te:TE}{t:TA}{pos:Pos}
def eU:PA X [] DH:=λ_ _ _ _ H Q I h=>UA #[[],H,I,.nil,h]
def dC(ha:cx!)(hr:gL!)(hs:ap!:=by rfl):PA X aI! (FF te t):=by intro pos hb s Z H Q I h;rw[hs];show Ds! (spliced (e8_::backTo pos mr!)) s;exact QY eU!;rintro u s1 ⟨x,H1,I1,r1,q1⟩;exact IA! hr q1 λus s2 ⟨xs,H2,I2,r2,q2⟩=>#[x::xs,H2,I2,.cons r1 r2,q2]
def HY(t:TA):TE:=λZ H Q=>t Z H λxs H1=>j!<=sizeLine/\∀p,H1 p=υ->Eo! H1 aO!
def IF(t:TA):TE:=λZ H Q=>t Z H λxs H1=>j!<=sizeLine/\∀p,H1 p=υ->Eo! H1 H!
def c0k {x1}(h:gL!):PE X tW! (HY t):=by intro hb s Z H Q I hq;exact wpAny_Tuple_spliced tW_;let hf:H1 x!=none:=Fv_ u!;exact EQ_ aO!;exact#[z,us,r,HC_ dU_ _]
def rR(h:gL!):PE X je_ (IF t):=by intro hb s Z H Q I hq;exact wpAny_List_spliced tW_;let hf:H1 x!=none:=Fv_ u!;exact EQ_ H!;exact#[z,us,0,r,dU_]
end
abbrev Sp:=μ V->Hp->VK->XK->ν
abbrev CZ:=μ Env->Hp->Shared->XK->Value->Shared->ν
structure Rf(P:yW!)(w:yM!)(K:zE!)(mg:U_)(base:Heap)(A:yK!)(outer:aO_)(s:yY!)(H:Hp):Prop where
 frames:A.frames=ψ outer
 mod:Mod K mg base
 bs:∀b o,base.get? b=ψ o->yY_ b=ψ o/\H b=υ
 bsz:base.objs.size<=k_
 funs:Fh_ base outer
 frf:∀b∈frs outer,H b=υ
 hok:Nl P w H s.heap
 bare:G9_ s.gens
def CE(outer:aO_)(P:yW!)(w:yM!)(H:Hp)(s:yY!)(Q:VK)(u:yL!)(s':yY!):Prop:=
 ∃v H',s'.os=s.os/\G9_ s'.gens/\Un (frs outer) [] H H' s.heap s'.heap/\Nl P w H' s'.heap/\Bi v u/\Q v H'
def CR(CX:CZ)(outer:aO_)(P:yW!)(w:yM!)(H:Hp)(s:yY!)(Q:VK)(E:XK)(r:Result)(s':yY!):Prop:=
 match r with
 |.ok (.ret u)=>IA_ P
 |.ok _=>False
 |.error e=>CX outer H s E e s'
structure Fe(P:yW!)(w:yM!)(K:zE!)(mg:U_)(base:Heap)(CX:CZ)(k:Nat)(f:yJ!)(fd:FuncData)(ps:G_)(sp:Sp):Prop where
 len:∀vs H Q E,Fw! E->bu_=af!
 run:∀(A:yK!) (outer:aO_) (s:yY!) (H:Hp) (args:Args) (us:o!) (vs:s_) (Q:VK) (E:XK),Ai k A->oV! Rf A outer s H->GG_ args di_->Ax vs us->Fw! E->
  codeAny E_ A (.call ag_ args) (CR CX outer P w H s Q E) s
def Fe.mono{K:zE!}(F:JU_ CX j)(h:j<=k):
  Fe P w K mg base CX k f fd ps sp:=#[F.len,λA outer s H args us vs Q E hr=>F.run A outer s H args us vs Q E (hr.mono h)]
def Fe.imp{K:zE!}(F:JU_ CX k)
  (h:∀vs H Q E,sp' vs H Q E->Fw! E):oV! Fe CX k f fd ps sp':=
 #[λvs H Q E q=>F.len vs H Q E (h _ _ _ _ q),λA outer s H args us vs Q E hr he J hv hs=>F.run A outer s H args us vs Q E hr he J hv (h _ _ _ _ hs)]
def Rf.make{K:zE!}(e:nq!)(C:yJ!)(us:o!)(kw:je!):
  Rf P w K mg base jd_ outer s H:=#[by first|exact e.frames|(simpa[Around.under,Code.envs,Code.isFrame,pushEnvs]using e.frames),e.mod,e.bs,e.bsz,e.funs,e.frf,e.hok,e.bare]
def Rf.in1{K:zE!}(e:nq!):
  Rf P w K mg base A.in1 outer s H:=#[e.frames,e.mod,e.bs,e.bsz,e.funs,e.frf,e.hok,e.bare]
section
variable{X:Cx}{hb:List (Addr×Obj)}{Z:St}{H:Hp}{s s':yY!}
def Inv.env0(I:e_):JQ! X.A:=
 #[I.ok.frames,I.ok.mod,I.bs,NR I.ok.bsz I.sz,I.stack,I.stkFree,I.hok,I.bare]
def Inv.after(I:e_)(h:CE X.stack X.prog X.w H s Q u s'):DR_ u s':=by let#[v,H',os,bare,un,hok,r,q]:=h;let#[hh,g,d,t,ke]:=s';obtain rfl:ke=s.os:=os;exact#[v,H',I.call (h':=hh) (g':=g) (d':=d) (t':=t) (ch:=[]) un hok bare (λb z=>ξ z c!),r,q]
end
def FG(sp:Sp)(ce:s_)(E:XK)(t:TA):TE:=λZ H Q=>t Z H λvs H1=>sp dj! H1 Q E
def CD(C:yJ!)(m:Str)(sp:Sp)(ce:s_)(E:XK)(ta:TE)(t:TA):TE:=λZ H Q=>ta Z H λx H1=>∃a dx fs,x=.ref a/\H1 a=ψ e6!/\DY! m=υ/\
 t Z H1 λvs H2=>sp (x::dj!) H2 Q E
def CF(C:yJ!)(sp:Sp)(ce:s_)(E:XK)(t:TA):TE:=λZ H Q=>t Z H λvs H1=>∀x dx,H1 x=υ->H1 dx=υ->dx≠x->
 sp (.ref x::dj!) nq_ tZ_ E
def Eu(K:zE!)(fd:FuncData)(ps:G_)(ds:o!):Prop:=
 ∀(s:yY!) (us:o!),Eg! K.In->(e9!).length=af!->GG_ dk! (ps.zip e9!)
def Eu.all{K:zE!}(h:∀us:List Value,as_=af!->GH! fd=pure di_):DS! K:=λs us _ hl=>by
 rw[NP]at hl ⊢;exact .of_eq (h us hl)
def Li(CX:CZ)(X:Cx)(E:XK):Prop:=∀(hb:z!) (Z:St) (H:Hp) (s:yY!) (e:yL!) (s':yY!),oV_ H s->CX X.stack H s E e s'->X.xe e s'
section
variable{X:Cx}{CX:CZ}{k:Nat}{f C:yJ!}{fd:FuncData}{ps:List Str}{sp:Sp}{ce:List V}{ds:List Value}{E:XK}{x m:Str}{p pos ay:Pos}{e o:Expr}{es:List Expr}{ta:TE}{t:TA}
def a1d(F:d6_)(hr:b9_)(J:d7!)(hd:d7_)(hx:d8!)
  (I:e_)(r:eR!)(h:sp dj! H Q E):Ji_ (call ag_ us) aP!:=by
 let r2:Ax dj! e9!:=r.append hd;let hl:(e9!).length=af!:=by rw[<-r2.length];exact Fw_ F.len h
 exact GQ! (F.run X.A X.stack s H dk! e9! dj! Q E hr I.env0 (J s us I.kIn hl) r2 h);cases r with
 |error e=>exact hx hb Z H s e s' I hq
 |ok fl=>
  cases fl with
  |ret u=>exact I.after hq
  |next=>exact DA_ hq
  |brk=>exact DA_ hq
  |cont=>exact DA_ hq
def b3h(F:d6_)(hr:b9_)(hg:V!)(hm:X.mg x=ψ ag_)(hk:EH_ X.K ag_=τ)(J:d7!)(hd:d7_)(hx:d8!)
  (ha:fa!)(bh:C!:=by decide)(he:ap!:=by rfl)(ba:aS!:=by rfl):
  PE X bc_ (FG sp ce E t):=by
 show"!D";exact QO ns_;exact W.callWith_K (h₀:=X.base) I.ok.mod.kin hk t1! he ba;exact a1d F hr J hd hx I1 r q
def c7f(he:no!)(c:d6!)(hm:HP! f)(F:d6_)(hr:b9_)(J:d7!)(hd:d7_)(hx:d8!)(ha:fa!)
  (bp:ap!:=by rfl)(ba:aS!:=by rfl)
  (ht:eval jg_ X.env=(do
   let ov <-eval o X.env
   standAt gJ!
   let(f,first) <-holding [ov] gJ_
   callWith pos f first t3_ e7_):=by rfl):
  PE X jg_ (CD C m sp ce E ta t):=by
 show"!D";show"!<";exact W.callWith_K (first:=bb!) (h₀:=X.base) I.ok.mod.kin hm.kp (IA! ha q λus s2 ⟨vs,H2,I2,r,q2⟩=>sE!) bp ba;exact a1d (us:=.ref a::us) (vs:=.ref a::vs) F hr J hd hx I2 (.cons χ r) q2
def c0p(he:no!)(c:d6!)(hm:HP! f)(F:d6_)(hr:b9_)(J:d7!)(hd:d7_)(hx:d8!)
  (ht:eval jh_ X.env=(do
   let ov <-eval o X.env
   standAt gJ!
   let(f,first) <-holding [ov] gJ_
   callWith pos f first nv! e7_):=by rfl):
  PE X jh_ (CD C m sp ce E ta DH):=by
 show"!D";show"!<";exact W.callWith_K0 (first:=bb!) I1.kIn hm.kp (a1d (us:=bb!) (vs:=bb!) F hr J hd hx I1 t5_ q)
structure Mk(K:zE!)(C f:yJ!):Prop where
 makes:W.makesIn K C=τ
 init:J8_ K=ψ d5!
 fn:W.isFn K ag_=τ
 kp:EH_ K ao_=τ
def a4w(M:nw!)(F:d6_)(hr:gN!)(J:d7!)(hd:d7_)
  (hx:d8!)(I:e_)(r:eR!)
  (h:∀x dx,H x=υ->H dx=υ->dx≠x->sp (.ref x::dj!) (upd (upd H dx ix!) x nr!) tZ_ E):
  wpAny h! X.A (call ao_ us) aP! X.xe s:=by
 let hq:=Dy_ h Z_ t6! fa_ (NX (UU _));let I2:=Inv.made (C:=C) I;let r2:Ax (V.ref Z_::dj!) t6_:=.cons χ (r.append hd);let hl:(Value.ref Z_::us++ds).length=af!:=by
  let e:=r2.length;rw[Fw_ F.len hq]at e;exact e.symm
 exact wpAny_call (c2b (f:=f) I.kIn M.makes M.init (PP.mp M.fn) (VA (F.run _ X.stack _ _ #[Value.ref Z_::us,[]] t6_ _ _ E (hr.make C us [])
  (I2.env0.make C us []) (J _ (Value.ref Z_::us) I2.kIn hl) r2 hq) λr s' bc=>?_))
 cases r with
 |error e=>exact hx hb Z _ _ e s' I2 bc
 |ok fl=>
  cases fl with
  |ret u=>
   let#[v,H',I3,rv,ev,q3]:=I2.after bc;subst ev;exact#[rv,#[V.ref Z_,H',I3,χ,q3]]
  |next=>exact DA_ bc
  |brk=>exact DA_ bc
  |cont=>exact DA_ bc
def c7g(M:nw!)(F:d6_)(hr:gN!)(hg:V!)(hm:t8_)(J:d7!)(hd:d7_)(hx:d8!)
  (ha:fa!)(bh:C!:=by decide)(he:ap!:=by rfl)(ba:aS!:=by rfl):
  PE X bc_ (CF C sp ce E t):=by
 show"!D";exact QO ns_;exact W.callWith_K (h₀:=X.base) I.ok.mod.kin M.kp t1! he ba;exact a4w M F hr J hd hx I1 r q
def c0q(M:nw!)(F:d6_)(hr:gN!)(hg:V!)(hm:t8_)(J:d7!)(hd:d7_)(hx:d8!)
  (bh:C!:=by decide):PE X t9! (CF C sp ce E DH):=by
 show"!D";exact QO ns_;exact W.callWith_K0 I.kIn M.kp (a4w (us:=[]) M F hr J hd hx I .nil h)
end
structure Gc(N P:G_)(sc:Scope):Prop where
 kind:sc.kind=.function
 co:sc.isCoroutine=θ
 gen:sc.isGenerator=θ
 nd:N.Nodup
 pre:N.take P.length=P
 par:∀x∈P,DM! x=D4! ψ\/DM! x=ψ .cell
 nofree:∀y∈sc.names,y.2≠.free
def a0r{kindOf:ji_}:∀{binds:je!} {m:U_},t9_->bindL kindOf binds m x=m x
 |[],_,_=>rfl
 |(n,v)::r,m,h=>by
  delta bindL;rw[a0r λw hw=>h w (LY _ hw)];split
  .let:x≠n:=by rintro rfl;exact h v MB
   simp[this]
  .rfl
def a0t{kindOf:ji_}:∀{binds:je!} {m:U_},t9_->bindC kindOf binds m x=m x
 |[],_,_=>rfl
 |(n,v)::r,m,h=>by
  delta bindC;rw[a0t λw hw=>h w (LY _ hw)];split
  .rfl
  .let:x≠n:=by rintro rfl;exact h v MB
   simp[this]
def a0s{kindOf:ji_}:∀{P:G_} {vs:o!} {i:δ} {m:U_},P.Nodup->P[i]?=ψ x->vs[i]?=ψ v->kindOf x=D4! ψ->
  bindL kindOf (P.zip vs) m x=ψ v
 |[],_,_,_,_,h,_,_=>by simp at h
 |_::_,[],_,_,_,_,h,_=>by simp at h
 |p::P,w::vs,0,m,nd,Y,h2,hk=>by
  simp at Y h2;subst Y;subst h2;show GH_ bindL p=_;delta bindL;rw[a0r λv hv=>(jj_).1 (YG hv).1,ba!];simp
 |p::P,w::vs,i+1,m,nd,Y,h2,hk=>by
  show GH_ bindL x=_;delta bindL;exact a0s (i:=i) (jj_).2 uc! ua_ hk
def a0u{kindOf:ji_}:∀{P:G_} {vs:o!} {i:δ} {m:U_},P.Nodup->P[i]?=ψ x->vs[i]?=ψ v->kindOf x≠D4! ψ->
  bindC kindOf (P.zip vs) m x=ψ v
 |[],_,_,_,_,h,_,_=>by simp at h
 |_::_,[],_,_,_,_,h,_=>by simp at h
 |p::P,w::vs,0,m,nd,Y,h2,hk=>by
  simp at Y h2;subst Y;subst h2;show GH_ bindC p=_;delta bindC;rw[a0t λv hv=>(jj_).1 (YG hv).1,ba_];simp
 |p::P,w::vs,i+1,m,nd,Y,h2,hk=>by
  show GH_ bindC x=_;delta bindC;exact a0u (i:=i) (jj_).2 uc! ua_ hk
nonrec def start(N:G_)(vs:s_):St:=vs.map ψ++Dk_ (iU_ - bu_) υ
def Od(CX:CZ)(P:yW!)(w:yM!)(K:zE!)(mg:U_)(base:Heap)(N:G_)(qual:Str)(scope:Scope)(f:yJ!)(cd:yL!)(A:yK!)(outer:aO_)(s:yY!)(H:Hp)(E:XK):Cx where
 prog:=P
 w:=w
 K:=K
 mg:=mg
 base:=base
 A:=A.deeper gO!
 N:=N
 s₀:=s
 H₀:=H
 env:=Eo_ qual scope f cd
 outer:=outer
 stack:=Eo_ qual scope f cd::outer
 ex:=[]
 calm:=τ
 fn:=λ_=>τ
 pn:=[]
 xe:=λe s'=>wpAny E_ (A.deeper gO!) (leaving gO! e) (λ_ wy=>CX outer H s E e wy) (λe' wy=>CX outer H s E e' wy) s'
def a8b{sc:Scope}(h:DM! x=ψ .cell):∃c,(cellsFrom n sc.names []).lookup x=ψ c:=by let q:=W.cellsFrom_some sc.names n [] (.inl h);exact VS.mp q
def b7j{K:zE!}
  (S:Gc N ps scope)(hd:bN_)(e0:nq!)(hl:bu_=af!)(r:eR!)
  (x:Dy_ InCallC s (Hy_ bindL) ue! (Hy_ bindC) s1):
  Inv ue_ [] gP! H s1:=by
 let ba:af!<=iU_:=by let:=JB! S.pre;rw[QF]at this;omega
 let#[Y,tk,rfl,hk]:=x.done;let rm:∀b:Addr,b∉(ue_).ex:=λb z=>Df_ uf_ c!;exact⟨#[e0.mod,S.kind,χ,χ,MZ _,λy z c Y h2=>?_,λy hy=>?_,λy c _ h=>?_,λ_=>hd,Around.frames_deeper e0.frames,.inr az_,uh!,e0.bs,e0.bsz,λb _ _=>rm b,uh!,e0.funs,e0.frf],
  rfl,e0.bare,Un.kept hk,#[_,x.toInCall.ns,λi y v Y h2 h3=>?_],λy c h=>#[_,x.cell y c h],e0.hok.fresh u!,λy c h=>?_,λp hp=>Df_ (show p∈([]:μ eN!)from hp) c!,e0.hok.kept hk,?_⟩
 .exact name_of_addr x.apart (QZ Y) (QZ h2)
 .let hy:Eg_ y=ψ .cell\/Eg_ y=ψ .free:=hy;obtain hy|hy:=hy
  .exact a8b hy
  .exact Dl! (S.nofree _ (QZ hy))
 .exact RY uk!
 .let hi:i<bu_:=by
   delta start at h2;by_cases hi:i<bu_
   .exact hi
   .rw[fb_]at h2;rw[UH]at h2;split at h2<;>cases h2
  let ha:vs[i]?=ψ v:=by
   delta start at h2;rw[PQ gR_,OC]at h2;cases e:vs[i]? with
   |none=>rw[e]at h2;rcases h2
   |some a=>rw[e]at h2;cases h2;rfl
  let#[u,hu,rv]:=r.get ha;let hp:ps[i]?=ψ y:=by
   rw[<-S.pre,uk_];exact Y
  let z8:ps.Nodup:=by rw[<-S.pre];exact S.nd.sublist (List.take_sublist _ _)
  exact#[u,rv,?_];obtain k|k:=S.par y (SZ hp)
  .exact .inl #[k,a0s z8 hp hu k]
  .let#[c,e]:=a8b (n:=k_+1) k;exact .inr #[.inl k,c,e,?_];let q:=x.cell y c e;rw[a0u z8 hp hu (by show scope.names.lookup y≠_;rw[k];decide)]at q;exact q
 .exact e0.hok.fresh (RY uk!)
 .delta start;show _=iU_;rw[MH,MJ,SL];omega
def d8b{K:zE!}{kV:yL!}
  (lk:D1_ f=Ep! ul_)(cb:um_)(S:Gc N ps scope)
  (len:um!)
  (p5:∀(A:yK!) (outer:aO_) (s:yY!) (H:Hp) (vs:s_) (Q:VK) (E:XK),EL! scope->Fw! E->
   ∃t,Vc nA! body t/\t {nx:=λ_ H'=>Q .non H',rt:=Q} gP! H):
  Fe P w K mg base CX W! f ul_ ps sp:=by
 exact#[len,λA outer s H args us vs Q E hr e0 J r dw=>?_];let hl:=Fw_ len dw;let KX:Eg! K.In:=e0.mod.kin.keeps λb o e=>(e0.bs b o e).1;let ak:s.heap.NoLimit:=e0.mod.nolimit.keeps λb o e=>(e0.bs b o e).1;let db:∀y∈ps.zip us,scope.names.lookup y.1=D4! ψ\/(scope.names.lookup y.1=ψ .cell/\((ue!).lookup y.1).isSome=τ):=by
  rintro⟨n,v⟩ hy;obtain q|q:=S.par n (YG hy).1
  .exact .inl q
  .exact .inr #[q,W.cellsFrom_some _ _ _ (.inl q)]
 exact codeAny_call_function hr.depth (KX _ _ lk) χ S.co S.gen χ (W.codeRec_of KX cb) (J _ _ _ _ ?_);exact wpAny_newFunctionEnv_cells S.kind db λenv he s1 x=>?_;subst he;exact#[ak.keeps x.toInCall.keep,codeAny_func ?_];let#[t,ht,hq]:=p5 A outer s H vs Q E (hr.deeper _) dw;let I:Inv nA! [] gP! H s1:=b7j S hr.hd e0 hl r x;exact PH (ht [] s1 gP! H _ I hq) (λfl s' hs=>?_) λe s' hs=>hs;let fin:∀{ac:St} {H':Hp} {v:V} {u:yL!},Inv nA! [] ac H' s'->Bi v u->Q v H'->IA_ P:=
  λ{ac H' v u} al rv q=>#[v,H',al.os,al.bare,al.base,al.hok,rv,q]
 cases fl with
 |ret u=>
  let#[v,ac,H',al,rv,q]:=hs;exact fin al rv q
 |next=>
  let#[ac,H',al,q]:=hs;exact fin (v:=V.non) (u:=gi!) al χ q
 |brk=>
  let#[_,_,_,q]:=hs;exact DA_ q
 |cont=>
  let#[_,_,_,q]:=hs;exact DA_ q
section
variable{X:Cx}{x:Str}{p pos:Pos}{e:Expr}{es:List Expr}{t:TA}{id T:String}{r:List V->Hp->VK->Prop}
def JW(r:e1_)(t:TA):TE:=λZ H Q=>t Z H λvs H1=>r vs H1 Q
def vI(hc:nB!)(hg:V!)(hm:cv_)(hv:nB_)(ha:fa!)(hn:cw!:=by decide)(bh:C!:=by decide)
  (he:ap!:=by rfl)(ba:aS!:=by rfl):PE X bc_ (JW r t):=by
 show"!D";exact QO un_;exact PyProof.Rows.callWith_builtin1 uo! he ba
def zD(hc:nC!)(hg:V!)(hm:cv_)(hv:jn_)(ha:fa!)(hn:cw!:=by decide)(bh:C!:=by decide)
  (he:ap!:=by rfl)(ba:aS!:=by rfl):PE X bc_ (JW r t):=by
 show"!D";exact QO un_;exact PU uo! he ba
end
end L2
namespace HT
open PySem PyProof.Rows
nonrec def lexLt:μ Int->μ Int->Bool
 |[],[]=>θ
 |[],_::_=>τ
 |_::_,[]=>θ
 |x::xs,y::ys=>if x=y then lexLt xs ys else decide (x<y)
def lexLt_cons(x y:Int)(xs ys:q_):lexLt dh_ (y::ys)=if x=y then lexLt xs ys else decide (x<y):=χ
def lexLt_nil_nil:lexLt [] []=false:=χ
def wG(y:Int)(ys:q_):lexLt [] (y::ys)=true:=χ
def wH(x:Int)(xs:q_):lexLt dh_ []=false:=χ
def c3w(A:yK!)(s:yY!)(a:Int)(t:Tok)(c:Int)(u:Tok):∃e,IB! A gS! nC_ e/\(e=τ↔a=c):=
 #[(a==c),VY a t c u,Q!]
section
open PySem.SeqAt
open PySem.AutoSeq1 (wpAny_loadPart')
open PySem.MeetsSeq PySem.MeetsSeq2 PySem.MeetsSeq3
end
section
variable{prog:yW!}{w:yM!}{A:yK!}{E:Value->Shared->Prop}{s:yY!}
def cat_tup(ht:JP_ t cE!)(J:JP_ b ws.toArray)(hv:vs≠[])
  (Y:ws=[]->Q jo! s)(h2:ws≠[]->Q bt_ {s with heap:=s.heap.push {cls:=.type "tuple",data:=.seq (vs++ws).toArray}})
  (bj:bu_+cb!<=sizeLine):Jy! (binaryOp .Add jo! d9!):=by
 let#[#[cls,dd,data,sl],ho,hc,n,hd]:=id ht;let#[#[z9,ll,data2,jo],jp,jq,n2,jr]:=id J;simp only at hc hd jq jr;subst hc hd jq jr;let e:cE!++ws.toArray=(vs++ws).toArray:=by simp
 by_cases hw:ws=[]
 .exact Dv_ _
   (E0_ tuple_addW1 (D2! hw)) #[ho,jp,Y hw]
 .exact Dv_ _
   (E0_ tuple_addW2 jq_ (by rw[MN,MN];exact bj)) #[ho,jp,?_]
  rw[e];exact h2 hw
nonrec def sIx(n d:δ):Dl_ Int->δ
 |none=>d
 |some v=>if v<0 then(nD_).toNat else min v.toNat n
def sIx_none(n d:δ):sIx n d υ=d:=χ
def sIx_nat(n d k:δ):sIx n d (ψ (k:Int))=min k n:=by show(if(k:Int)<0 then((k:Int)+(n:Int)).toNat else min (k:Int).toNat n)=min k n;rw[d9_,SU]
def d2n(n d:δ)(hd:d<=n)(o:aB_):sIx n d o<=n:=by
 cases o with
 |none=>exact hd
 |some v=>
  show uq_<=n;by_cases hv:v<0
  .rw[MM hv];omega
  .rw[MY hv];exact Nat.min_le_right _ _
def b4v(v:Int)(n d:δ):ur!=((sIx n d dQ!:δ):Int):=by
 show ur!=((uq_:δ):Int);by_cases hv:v<0
 .simp only[MM hv];omega
 .simp only[MY hv];omega
def b1w(lo hi:aB_)(n:δ):Builtin.Slice.sliceAdjust lo hi 1 (n:Int)=(jr_,ur_):=by
 let Y:¬((1:Int)<0):=by omega
 delta Builtin.Slice.sliceAdjust;dsimp only[Y,if_false];exact Prod.ext ?_ ?_
 .cases lo with
  |none=>rfl
  |some v=>exact b4v v n 0
 .cases hi with
  |none=>rfl
  |some v=>exact b4v v n n
def a9m(i j:δ):Builtin.Slice.slicePlaces (i:Int) (j:Int) 1=j - i:=by
 delta Builtin.Slice.slicePlaces;let Y:(1:Int)>0:=by omega
 simp![Y,PL,Int.ediv_one];split<;>omega
def uY(p:IsPart v o)(h:Q o s):Jy! (Builtin.Slice.slicePartIndex v):=by
 cases p with
 |none=>exact slicePart_none h
 |int i t=>exact slicePart_int h
def rG{lo hi:aB_}{Q:Int×Int×δ->Shared->ν}(hs:us_)(pl:IsPart vl lo)(pu:IsPart vu hi)
  (h:Q (jr_,1,sIx n n hi - sIx n 0 lo) s):Jy! (Builtin.Slice.sliceApplied ju! (pure (n:Int))):=by
 let#[os,iz,p6,p7]:=id hs;delta Builtin.Slice.sliceApplied Builtin.Slice.sliceFields;exact J0_ (PN iz p7 (x:=vl) χ (LW (PN iz p7 (x:=vu) χ (LW (PN iz p7 (x:=.none) χ Y_)))));exact Fa_ slicePart_none;show JV! ((1:Int)==0);rw[MY a_];exact LW (uY pl (LW (uY pu (LW Y_))));show wpAny _ _ (match Builtin.Slice.sliceAdjust lo hi 1 (n:Int)with|(lo,hi)=>pure (lo,(1:Int),Builtin.Slice.slicePlaces lo hi 1)) _ _ s;rw[b1w lo hi n];show Ds! (pure (jr_,(1:Int),Builtin.Slice.slicePlaces jr_ ur_ 1)) s;rw[a9m];exact LZ h
def c0h(xs:bp!)(i k:δ):((nF_).filterMap λ(m:Nat)=>xs[(nG!).toNat]?).toArray=((xs.toList.drop i).take k).toArray:=by
 let e:(λ(m:Nat)=>xs[(nG!).toNat]?)=λm=>xs[i+m]?:=by
  funext m;let:(nG!).toNat=i+m:=by omega
  rw[this]
 rw[e];let:=pick_run xs i k;rw[List.filterMap_map]at this;let e2:((λx=>xs[x]?)∘λx=>i+x)=λm=>xs[i+m]?:=χ;rw[e2]at this;rw[this]
def getItem_tuple_cut{lo hi:aB_}(ht:JP_ t ag)(hs:us_)(pl:IsPart vl lo)(pu:IsPart vu hi)
  (hw:¬(sIx ag.size 0 lo=0/\sIx ag.size ag.size hi=ag.size))
  (h:Q bt_ {s with heap:=s.heap.push {cls:=.type "tuple",data:=.seq (nG_).toArray}})
  (bj:nH!):Jy! (getItem jo! ju!):=by
 let u6:sizeOk (.seq (nG_).toArray):=by
  show(nG_).toArray.size<=sizeLine;rw[MN,QF,SE,QG];exact NR (Nat.min_le_right _ _) (NR (Nat.sub_le _ _) bj)
 let hj:Gn_ ag.size hi<=ag.size:=d2n _ _ u! hi;let#[os,iz,p6,p7]:=id hs;let hTs:F9! ju! "slice":=#[os,iz,p6];delta getItem
 try with_reducible exact OJ ?_
 first|exact LW Y_|skip
 exact LW (wpAny_sequenceKey ht.typeIs a_ ?_);exact LW (OU (name:=BS_ "__getitem__") ht.typeIs UN
  (OM UN ht.typeIs entry_tuple_getitem ?_ (args_tuple_getitem _ _)))
 show Ds! (Builtin.Tuple.tupleItemsOf jo!>>=_) s;exact ET_ tupleItemsOf_ ht;exact ET_ XA hTs;rw[MM a_];exact LW (rG hs pl pu ?_);let nj:¬(uz!=τ):=by
  intro q;rw[NQ,NQ]at q;let q1:uy_=0:=eq_of_beq q.1.1;let q2:Gn_ ag.size hi - Gn_ 0 lo=ag.size:=eq_of_beq q.2;exact hw #[o_,o_]
 show JV! uz!;rw[MY nj,c0h]
 first
  |exact LW (m:=jw!) (QI jw_ u6)
  |exact LW (m:=jw!) (QI (Hb! jw_) u6)
  |exact HP_ (LZ jw_)
  |exact HP_ jw_
end
end HT
namespace L2
open PySem PySem.Spec PyProof.Rows
abbrev TO:=St->Hp->(ι Int->Hp->ν)->ν
def PO(X:Cx)(e:Dl_ Expr)(t:TO):Prop:=
 ∀(hb:z!) (s:yY!) (Z:St) (H:Hp) (Q:uC!),oV_ H s->t Z H Q->
  wpAny h! X.A (evalPart e X.env) (λu s'=>∃o H',Ju_ H'/\IsPart u o/\Q o H') X.xe s
def AU:TO:=λ_ H Q=>Q υ H
def FB(t:TE):TO:=λZ H Q=>t Z H λx H1=>∃i,x=.int i/\Q jx! H1
def wU:∀{us:o!},Ax cb_ us->Kw_ us:=by
 induction ns with
 |nil=>intro us r;rw[RM]at r;cases r;exact .nil
 |cons n ns ih=>
  intro us r;rw[MO]at r;cases r with
  |cons r1 r2=>
   let#[t,e]:=r1;subst e;exact .cons n t (ih r2)
section
variable{X:Cx}{e:Expr}{te:TE}{lo hi:Option Expr}{tl th:TO}{pos p2:Pos}
def c7a:PO X υ AU:=by intro hb s Z H Q I h;rw[evalPart_none];exact LZ #[υ,H,I,.none,h]
def c6z(h:cx!):PO X iL! (FB te):=by intro hb s Z H Q I hw;rw[evalPart_some];exact dP mw! ?_;rintro u s1 ⟨x,H1,I1,r1,q1⟩;let#[i,rfl,q]:=q1;let#[t,rfl]:=r1;exact#[M_,H1,I1,.int i t,q]
def CU(X:Cx)(r:uE_):Prop:=
 ∀(hb:z!) (s:yY!) (Z:St) (H:Hp) (x:V) (v vl vu:yL!) (lo hi:aB_) (sl:yJ!) (Q:VK),oV_ H s->Bi x v->s.heap.IsSliceOf sl vl vu .none->IsPart vl lo->IsPart vu hi->r x lo hi H Q->
  ∃T id,Gt! cD_ "__getitem__"=pure (ψ fc_)/\F9! v T/\Ji_ (getItem v ju!) aP!
def CU.or(h:CU X r)(h':CU X r'):CU X (λx lo hi H Q=>r x lo hi H Q\/r' x lo hi H Q):=by
 intro hb s Z H x v vl vu lo hi sl Q I rx hs pl pu q;obtain q|q:=q
 .exact Jz! h
 .exact Jz! h'
def JV(r:uE_)(te:TE)(tl th:TO):TE:=λZ H Q=>te Z H λx H1=>tl Z H1 λl H2=>th Z H2 λu H3=>r x l u H3 Q
def c0m(hr:CU X r)(he:cx!)(hl:PO X lo tl)(hu:PO X hi th):PE X (JI_ e nL_) (JV r te tl th):=by intro hb s Z H Q I h;exact HQ! c9_;rintro v s1 ⟨x,H1,I1,r1,q1⟩;exact wpAny_Slice uF_;rintro vu s3 ⟨u,H3,I3,pu,q3⟩;rw[evalPart_none];exact LZ ?_;let I4:oV_ H3 {s3 with heap:=s3.heap.push {cls:=.type "slice",data:=ES_ vl}}:=I3.kept (t':=s3.toks) λb ob q=>MC _ q;let#[T,id,hT,ht,hg]:=hr hb {s3 with heap:=s3.heap.push {cls:=.type "slice",data:=ES_ vl}} Z H3 x v vl vu l u s3.heap.objs.size Q I4 r1 (Heap.IsSliceOf.new ..) pl pu q3;show BQ_ (subscriptTail e nL_ v (.ref uG_)) aP! X.xe {s3 with heap:=s3.heap.push {cls:=.type "slice",data:=ES_ vl}};exact tail_any (ops:=[.ref uG_,v]) ht hT hg nM_
def Va(xs:s_)(lo hi:aB_):μ V:=(xs.drop nN!).take nN_
def tK(xs:s_)(lo hi:aB_):(gV_).length<=j!:=by delta Va;rw[QF,SE];omega
def IP(K:zE!):V->Dl_ Int->Dl_ Int->Hp->VK->Prop:=λx lo hi H Q=>∃a xs,x=.ref a/\F7_ Fd/\
 ¬(HT.sIx xs.length 0 lo=0/\HT.sIx xs.length xs.length hi=j!)/\∀p,H p=υ->Eo! H (.tup gV_)
def d2k:CU X (IP X.K):=by
 intro hb s Z H x v vl vu lo hi sl Q I rx hs pl pu h;let#[a,xs,rfl,hx,hw,q]:=h;subst rx;let#[its,r,ht,hz]:=DA! hx;let ao:be_=j!:=by rw[MN];exact r.length.symm
 exact#["tuple",_,UN.lookup,ht.typeIs,?_];exact HT.getItem_tuple_cut ht hs pl pu (AT! ao hw) ?_ (AT! ao hz);rw[ao];exact#[dm!,_,I.laid (t':=s.toks) (o:=.tup gV_) nO_ u! ?_,χ,q _ fa_];exact#[uK!,_,uK_,nQ!]
def CJ(K:zE!):R2:=λx y H Q=>∃a b xs ys,x=.ref a/\y=.ref b/\F7_ Fd/\Fd K H b ys/\xs≠[]/\j!+ab!<=sizeLine/\
 (ys=[]->Q V_ H)/\(ys≠[]->∀p,H p=υ->Q bb_ (Hb_ p eL!))
def Ax.nil_iff(r:dO!):us=[]↔xs=[]:=by
 cases r with
 |nil=>simp
 |cons _ _=>simp
def c7l:Fi! e2! CJ:=by intro hb s Z H x y v u Q I rx ry h;let#[a,b,xs,ys,rfl,rfl,ha,J,hx,hz,q1,q2]:=h;subst rx;subst ry;let#[its,r1,p1,_]:=DA! ha;let#[ie,r2,p2,_]:=DA! J;exact HT.cat_tup p1 p2 (λz=>hx (r1.nil_iff.mp z)) (λz=>#[dg!,H,I,χ,q1 (r2.nil_iff.mp z)]) (λz=>?_) (by rw[<-r1.length,<-r2.length];exact hz);exact#[dm!,_,I.laid (t':=s.toks) (o:=.tup eL!) nO_ u! ?_,χ,q2 (λw=>z (r2.nil_iff.mpr w)) _ fa_];exact#[by rw[MH];exact hz,_,r1.append r2,nQ!]
end
def Kl(n:δ)(i:Int):ι Nat:=if 0<=i then(if i<n then ψ i.toNat else υ)else if -(n:Int)<=i then ψ (i+n).toNat else υ
def Fs(xs:X!)(i:Int):ι α:=(Fx! i).bind λj=>xs[j]?
def b4d(h:Kl n i=ψ j):seqIndex? i n=ψ j/\j<n/\-(n:Int)<=i/\i<n:=by
 delta Kl at h;by_cases h0:0<=i
 .rw[MM h0]at h;by_cases Y:i<n
  .rw[MM Y]at h;let e:i.toNat=j:=OF h;exact#[by rw[seqIndex_of h0 Y,e],o_,o_,Y]
  .rw[MY Y]at h;rcases h
 .rw[MY h0]at h;by_cases Y:-(n:Int)<=i
  .rw[MM Y]at h;let e:(i+n).toNat=j:=OF h;exact#[by rw[seqIndex_neg a! Y,e],o_,Y,o_]
  .rw[MY Y]at h;rcases h
def a3y(h:Fs xs i=ψ v):∃j,seqIndex? i j!=ψ j/\xs[j]?=ψ v/\j<j!/\-(j!:Int)<=i/\i<j!:=by
 delta Fs at h;cases e:Fx! i with
 |none=>rw[e]at h;rcases h
 |some j=>
  rw[e]at h;let#[Y,h2,h3,h4]:=b4d e;exact#[j,Y,h,h2,h3,h4]
def Ps(b:Expr):Prop:=∀o i,IB_ b=operate [o,i] (getItem o i)
def Ys(X:Cx)(r:R2):Prop:=
 ∀(value slice:Expr) (hb:z!) (s:yY!) (Z:St) (H:Hp) (x y:V) (v u:yL!) (Q:VK),oV_ H s->Bi x v->Bi y u->Gs_ r->
  subscripted slice θ v u=operate [v,u] (getItem v u)->Ji_ (subscriptTail value slice v u) aP!
def GP(X:Cx)(id:String)(r:nS!):Prop:=
 ∀(hb:z!) (s:yY!) (Z:St) (H:Hp) (x:V) (xs:s_) (v:yL!) (us:o!) (Q:VK),oV_ H s->Bi x v->Ax xs us->r x xs H Q->
  wpAny h! X.A uQ_ aP! X.xe s
section
variable{X:Cx}{a b:Expr}{ta tb:TE}{pos:Pos}
def Ys.or(h:Ys X r)(h':Ys X r'):Ys X tq_:=by
 intro value slice hb s Z H x y v u Q I rx ry q hs;obtain q|q:=q
 .exact Fb! h
 .exact Fb! h'
def c0r(hr:Ys X r)(ha:aU_)(J:cu_)(hs:Ps b):PE X nT! iW_:=by intro hb s Z H Q I h;exact HQ! (d5x ha J I h λv u s2 x y H2 I2 rx ry q=>hr a b hb s2 Z H2 x y v u Q I2 rx ry q (hs _ _))
def FN(K:zE!):R2:=λx y H Q=>∃p xs i v,x=.ref p/\y=.int i/\El K H p xs/\Fs xs i=ψ v/\Q v H
def FL(K:zE!):R2:=λx y H Q=>∃p xs i v,x=.ref p/\y=.int i/\Fd K H p xs/\Fs xs i=ψ v/\Q v H
def FM:R2:=λx y H Q=>∃z i c,x=.str z/\y=.int i/\S!<=sizeLine/\Fs z.cps.toList i=ψ c/\Q cF! H
def b4c:Ys X (FN X.K):=by
 intro value slice hb s Z H x y v u Q I rx ry h hs;let#[p,xs,i,z,rfl,rfl,hq,he,q]:=h;subst rx;let#[t,rfl]:=ry;show"!V";let#[j,Y,h2,h3,h4,h5]:=a3y he;let#[w,ew,a7]:=r.get h2;let hl:=ay_;let hn:=sB;let fin:DR_ w s:=uS!;by_cases h0:0<=i
 .let hj:i.toNat=j:=by
   rw[seqIndex_of h0 h5]at Y;exact OF Y
  exact Fv! item_listR h0 a! uS_ fin hs
 .let hj:(i+(be_:Int)).toNat=j:=by
   rw[seqIndex_neg a! h4]at Y;rw[MN,<-hl];exact OF Y
  exact subscriptTail_builtinR (x:=w) pl.isList.typeIs uU_
   (wpAny_getItem_list_neg (Q:=uV!) pl.isList a! uV_ a! uS_ #[χ,fin]) hs
def d4j:Ys X (FL X.K):=by
 intro value slice hb s Z H x y v u Q I rx ry h hs;let#[p,xs,i,z,rfl,rfl,hq,he,q]:=h;subst rx;let#[t,rfl]:=ry;let#[its,r,pl,hz]:=DA! hq;let#[j,Y,h2,h3,h4,h5]:=a3y he;let#[w,ew,a7]:=r.get h2;let hl:=ay_;let hn:=sB;let fin:DR_ w s:=uS!;exact subscriptTail_builtinR (x:=w) pl.typeIs slot_tuple_getitem.lookup
  (getItem_tuple (j:=j) (Q:=uV!) pl a! a! (FK_ Y) (Di_ ew) #[χ,fin]) hs
def d4k:Ys X FM:=by
 intro value slice hb s Z H x y v u Q I rx ry h hs;let#[z,i,c,rfl,rfl,hz,he,q]:=h;let#[t,rfl]:=rx;let#[t',rfl]:=ry;let#[j,Y,h2,h3,h4,h5]:=a3y he;let hl:nU_=S!:=by simp[Str.length]
 rw[hl]at Y h4 h5;let hn:=sB;exact tail_any (VO s z t) slot_str_getitem.lookup (getItem_str (c:=c) (by
  let e1:decide (i< -(2 ^ 63:Int))=false:=MU a!;let e2:decide (i>=2 ^ 63)=false:=MU a!;rw[e1,e2,VX]) (by rw[Y];simpa using h2) #[eb_,H,aP_,A_,q]) hs
def IU(K:zE!):R2:=λx y H Q=>FN K x y H Q\/FL K x y H Q\/Gs_ FM
def aH:Ys X (IU X.K):=b4c.or (d4j.or d4k)
def b0i(its:o!)(n j:δ)(u:yL!):Obj.mapSeq uY! {cls:=.type "list",data:=DG_ n}={cls:=.type "list",data:=.seq (its.set j u).toArray n}:=by simp[Obj.mapSeq]
def Inv.lst(I:e_)(h:H p=ψ H!):
  ∃(its:o!) (n:δ),G8! xs/\yY_ p=ψ {cls:=.type "list",data:=DG_ n}/\j!<=sizeLine:=by
 let#[z,its,n,r,e]:=I.hok p _ h;exact#[its,n,r,e,z]
def Inv.lstUpd{its its':o!}(I:e_)(h:H p=ψ H!)
  (ho:yY_ p=ψ {cls:=.type "list",data:=DG_ n})(hf:f {cls:=.type "list",data:=DG_ n}={cls:=.type "list",data:=.seq its'.toArray n'})(r:Ax ys its')(hz:jA_)(t:δ):
  Inv X hb Z (upd H p bf!) {s with heap:=DV! p f,toks:=t}:=by
 let e:(DV! p f).get? p=ψ {cls:=.type "list",data:=.seq its'.toArray n'}:=by
  rw[TL f ho (by rw[hf]<;>rfl),hf]
 exact I.write (x:=p) (e:=p) (by rw[h];trivial) N_ (λb u J q=>DQ! uY_ q) #[_,e] ?_;exact#[hz,its',n',r,e]
def FI:V->V->V->Hp->mH!->Prop:=λo i v H Q=>∃p xs k j,o=.ref p/\i=.int k/\H p=ψ H!/\Fx! k=ψ j/\Q u0_
def a4u:Yn X FI:=by
 intro hb s Z H o i v ov iv u Q I ro ri rv h;let#[p,xs,k,j,rfl,rfl,hp,hj,q]:=h;subst ro;let#[t,rfl]:=ri;let#[its,n,r,ho,hz]:=I.lst hp;let#[Y,h2,h3,h4]:=b4d hj;let hl:=ay_;let hn:=sB;let I':oV_ u0_ {s with heap:=DV! p (Obj.mapSeq uY!)}:=
  I.lstUpd hp ho (b0i its n j u) (r.set rv j) (AT! RB hz) s.toks
 by_cases h0:0<=k
 .let hk:k.toNat=j:=by
   rw[seqIndex_of h0 h4]at Y;exact OF Y
  exact W.ki_setAt ho h0 a! (FK_ h4) u2!
 .let hk:(k+(be_:Int)).toNat=j:=by
   rw[seqIndex_neg a! h3]at Y;rw[MN,<-hl];exact OF Y
  exact W.ki_setBack ho a! (FK_ h3) a! u2!
def a1b(lo hi:aB_)(n:δ):(nV!).1=((HT.sIx n 0 lo:δ):Int)/\(nV!).2.1=((HT.sIx n n hi:δ):Int)/\(nV!).2.2=1:=by
 exact#[?_,?_,χ]
 .cases lo with
  |none=>simp[sliceBounds,HT.sIx]
  |some i=>
   show"!U"
   .simp only[h,PL]<;>omega
   .simp only[h,OY]<;>omega
 .cases hi with
  |none=>simp[sliceBounds,HT.sIx]
  |some i=>
   show"!U"
   .simp only[h,PL]<;>omega
   .simp only[h,OY]<;>omega
def xR(its:o!)(lo hi:aB_):slicePick its.toArray lo hi υ=((its.drop (HT.sIx its.length 0 lo)).take (HT.sIx its.length its.length hi - HT.sIx its.length 0 lo)).toArray:=by let#[Y,h2,h3]:=a1b lo hi be_;delta slicePick;rw[Y,h2,h3];simp![sliceRange_one,pick_run,MN]<;>rfl
def IR(K:zE!):V->Dl_ Int->Dl_ Int->Hp->VK->Prop:=λx lo hi H Q=>∃a xs,x=.ref a/\F7_ El/\∀p,H p=υ->Kx! gV_
def c6f:CU X (IR X.K):=by intro hb s Z H x v vl vu lo hi sl Q I rx hs pl pu h;let#[a,xs,rfl,hx,q]:=h;subst rx;let#[its,r,ht,hz]:=EK_ hx;let ao:=ay_;exact#["list",_,uU_,ht.isList.typeIs,?_];exact wpAny_getItem_list_slice ht.isList hs pl pu .none c! ?_ uV_;rw[xR,<-ao];exact#[dm!,_,I.laid (t':=s.toks) (o:=.lst gV_) nO_ u! ?_,χ,q _ fa_];exact#[uK!,_,0,uK_,dU_]
def Mc:V->Bool
 |.non=>τ
 |.bl _=>τ
 |.int _=>τ
 |.str _=>τ
 |_=>θ
def AM:V->V->Bool
 |.non,.non=>τ
 |.bl a,.bl b=>a==b
 |.bl a,.int b=>u3!==b
 |.int a,.bl b=>a==u3_
 |.int a,.int b=>a==b
 |.str a,.str b=>a==b
 |_,_=>θ
def d4v(ry:Bi y u)(rx:Bi x v)(fy:Mc y=τ)(fx:Mc x=τ):DB! v (AM y x):=by
 cases y with
 |non=>
  subst ry;cases x with
  |non=>cases rx;exact SeqAt.EqAt.same _
  |bl b=>cases rx;exact SeqAt.EqAt.none_bool b
  |int b=>let#[t,rfl]:=rx;exact SeqAt.EqAt.none_int b t
  |str b=>let#[t,rfl]:=rx;exact SeqAt.EqAt.none_str b t
  |_=>exact JD! jC_
 |bl a=>
  subst ry;cases x with
  |non=>cases rx;exact SeqAt.EqAt.bool_none a
  |bl b=>cases rx;exact SeqAt.EqAt.bool_bool a b
  |int b=>let#[t,rfl]:=rx;exact SeqAt.EqAt.bool_int a b t
  |str b=>let#[t,rfl]:=rx;exact SeqAt.EqAt.bool_str a b t
  |_=>exact JD! jC_
 |int a=>
  let#[t',rfl]:=ry;cases x with
  |non=>cases rx;exact SeqAt.EqAt.int_none a t'
  |bl b=>cases rx;exact SeqAt.EqAt.int_bool a t' b
  |int b=>let#[t,rfl]:=rx;exact VY a t' b t
  |str b=>let#[t,rfl]:=rx;exact SeqAt.EqAt.int_str a t' b t
  |_=>exact JD! jC_
 |str a=>
  let#[t',rfl]:=ry;cases x with
  |non=>cases rx;exact SeqAt.EqAt.str_none a t'
  |bl b=>cases rx;exact SeqAt.EqAt.str_bool a t' b
  |int b=>let#[t,rfl]:=rx;exact SeqAt.EqAt.str_int a t' b t
  |str b=>let#[t,rfl]:=rx;exact SeqAt.EqAt.str_str a t' b t
  |_=>exact JD! jC_
 |_=>exact KY_ fy
def BS(x:V)(u:yL!):Bool:=match u with
 |.none=>AM .non x
 |.bool b=>AM aH_ x
 |.int i _=>AM ae! x
 |.str z _=>AM (.str z) x
 |_=>θ
def c3v(r:Bi y u)(f:Mc y=τ):BS x u=AM y x:=by
 cases y with
 |non=>cases r;rfl
 |bl b=>cases r;rfl
 |int i=>let#[t,rfl]:=r;rfl
 |str z=>let#[t,rfl]:=r;rfl
 |_=>exact KY_ f
def b4w(h:dO!):xs.all Mc=τ->us.any gY_=xs.any λy=>AM y x:=by
 induction h with
 |nil=>exact λ_=>χ
 |cons r _ ih=>
  intro f;rw[SS,NQ]at f;rw[RO,RO,c3v r f.1,ih f.2]
def wC{A:yK!}{s:yY!}{x:V}{v:yL!}(rx:Bi x v)(fx:Mc x=τ):∀{xs:s_} {us:o!},Ax xs us->xs.all Mc=τ->∀u∈us,DB! v (BS x u)
 |_,_,.nil,_=>λu hu=>by exact(ML hu).elim
 |y::xs,u::us,.cons r t,f=>λu' hu=>by
  rw[SS,NQ]at f;obtain rfl|hu:=MD.mp hu
  .rw[c3v r f.1];exact d4v r rx f.1 fx
  .exact wC rx fx t f.2 u' hu
def HF(x:V)(xs:s_):Bool:=xs.any λy=>AM y x
def FQ(K:zE!)(neg:Bool):R2:=λx y H Q=>∃p xs,y=.ref p/\(El K H p xs\/Fd K H p xs)/\Mc x=τ/\xs.all Mc=τ/\EA! (if neg then !HF x xs else HF x xs)
def zF:I5_ FQ:=by
 intro hb s Z H x y v u Q I rx ry h;let#[p,xs,rfl,hq,fx,fs,q]:=h;subst ry;obtain hq|hq:=hq
 .show"!V";exact Hz! gY_ u5!;rw[u5_,b4w r fs];exact q
 .show"!z";exact I6! gY_ u5!;rw[u5_,b4w r fs];exact q
def rB:Gk X a0! (λxs H Q=>∃p ys,xs=fh_/\(El X.K H p ys\/Fd X.K H p ys)/\∀l,H l=υ->Q fi! jD!):=by
 intro hb s Z H xs us Q I r h;let#[p,ys,rfl,hq,q]:=h;let#[u,rfl,rx]:=iT r;cases rx;let fin:∀(its:o!),G8! ys->ab!<=sizeLine->∀(h':Heap) (c':δ),(∀b o',s.heap.get? b=ψ o'->h'.get? b=ψ o')->
   h'.get? k_=ψ {cls:=.type "list",dict:=υ,data:=DG_ c',slots:=#[]}->DR_ bt_ {s with heap:=h'}:=λits r' hz h' c' kp e=>
  #[dm!,_,I.laid (t':=s.toks) kp u! (show DE! Et _ h' _ bf! from#[hz,its,c',r',e]),χ,q _ fa_]
 obtain hq|hq:=hq
 .let#[its,r',pl,hz]:=EK_ hq;let ao:=gD_;let#[o,ho,hc,n,hd]:=pl.isList;exact Go! N_
 .let#[its,r',pl,hz]:=DA! hq;let ao:=gD_;let#[o,ho,hc,n,hd]:=pl;exact Go! ed!
def kK:Gk X bf_ (KT! X.K X.K):=by
 intro hb s Z H xs us Q I r h;let#[p,ys,rfl,h]:=h;let#[u,rfl,rx]:=iT r;cases rx;obtain⟨hq,q⟩|⟨hq,q⟩:=h
 .let#[its,r',pl,hz]:=EK_ hq;let ao:=gD_;exact Fv! call_tuple_list (λh' kp=>?_) nX_;let I1:oV_ H {s with heap:=h'}:=I.kept (t':=s.toks) kp;let I2:oV_ (upd H h'.objs.size jE!) {s with heap:=h'.push {cls:=.type "tuple",data:=.seq an_}}:=
   I1.laid (t':=s.toks) (λb o e=>MC _ e) u! (show DE! Et _ _ _ jE! from#[hz,its,r',nQ!])
  exact#[.ref nZ!,_,I2,χ,q _ eZ_]
 .let#[its,r',pl,hz]:=DA! hq;exact call_tuple_same pl #[.ref p,H,I,χ,q]
def JP(K:zE!)(T:String)(x:V)(H:Hp):Prop:=match x with
 |.str _=>T="str"
 |.int _=>T="int"
 |.ref p=>(T="list"/\∃xs,El K H p xs)\/(T="tuple"/\∃o,K.lookup p=ψ o/\o.cls=.type "tuple"/\o.dict=υ)\/
   (T="dict"/\((∃h1,H p=ψ d3_)\/∃h1,H p=ψ jG!))\/(T="set"/\∃S n,H p=ψ (.set S n))
 |_=>False
def d2d{hb:z!}{Z:St}{H:Hp}{s:yY!}{T:String}{x:V}{v:yL!}(I:e_)(r:Bi x v)(ty:JP X.K T x H):
  s.TypeIs v T/\∀a,v=.ref a->∃ob,yY_ a=ψ ob/\ob.dict=none:=by
 cases x with
 |str z=>
  show"#+";cases (show T="str" from ty);exact#[VO s z t,va_]
 |int i=>
  show"#+";cases (show T="int" from ty);exact#[typeIs_int s i t,va_]
 |ref p=>
  subst r;obtain⟨rfl,xs,hq⟩|⟨rfl,o,hk,hc,hd⟩|⟨rfl,hk⟩|⟨rfl,S,n,hk⟩:=ty
  .let#[its,_,pl,_]:=EK_ hq;exact#[pl.isList.typeIs,λa e=>?_];cases e;let#[o,n,e,c,hd,_]:=pl;exact#[o,e,hd]
  .exact#[#[o,I.kIn p o hk,hc],λa e=>?_];cases e;exact#[o,I.kIn _ o hk,hd]
  .let z:∃o,yY_ p=ψ o/\iv!:=by
    obtain⟨h1,hk⟩|⟨h1,hk⟩:=hk
    .show"!x"
    .show"!x"
   let#[o,e,ex]:=z;exact vb!;cases e2;exact vb_
  .let#[o,_,_,_,e,ex,_]:=I.hok p _ hk;exact vb!;cases e2;exact vb_
 |_=>exact DA_ ty
def LF(K:zE!)(T:String)(r:nS!)(to:TE)(t:TA):TE:=λZ H Q=>to Z H λx H1=>JP K T x H1/\t Z H1 λxs H2=>r x xs H2 Q
variable{o e:Expr}{es:List Expr}{to:TE}{t:TA}{name:Str}{ay ai:Pos}{T id:String}{r:V->List V->Hp->VK->Prop}
def oS(pa:PlainAttrs T)(slot:Slot T name id)(u7:typeOf fc_=pure (.type "method_descriptor"))(hm:GP X id r)(ho:PE X o to)(ha:fa!)
  (cy:JB_ name=Dq_ o:=by rfl)
  (cz:((F9_ t2_).all bg!&&DY_ bg_
   &&decide (GW! aI!))=true:=by rfl)
  (c8:bO!:=by rfl) (hs:ap!:=by rfl) (b9:(vd!).any d!=false:=by rfl):
  PE X (Jo_ (D7_ o name) aI!) (LF X.K T r to t):=by
 show"!D";exact wpAny_Call_method_late cy cz c8 χ sG_;rintro v s1 ⟨x,H1,I1,r1,ty,q1⟩;let#[Y,h2]:=d2d I1 r1 ty;exact#[T,id,pa,slot,u7,Y,h2,?_];let hA:=ha ai hb s1 Z H1 _ I1 q1;rw[hs]at hA ⊢;exact SV (by show(θ||(vd!).any d!)=θ;rw[b9]<;>rfl) (UD ?_);exact dP hA λus s2 ⟨vs,H2,I2,r2,q2⟩=>hm hb s2 Z H2 x vs v us Q I2 r1 r2 q2
end
def HP(X:Cx)(id:String)(r:nS!):Prop:=
 ∀(hb:z!) (s:yY!) (Z:St) (H:Hp) (x:V) (xs:s_) (v:yL!) (us:o!) (Q:VK),oV_ H s->Bi x v->Ax xs us->r x xs H Q->
  wpAny h! X.A uQ_ aP! X.xe s
def Ax.one(h:Ax [x] us):∃u,us=[u]/\Bi x u:=by
 cases h with
 |cons r t=>cases t;exact l7!
def Ax.eraseIdx:∀{xs:s_} {us:o!} (i:δ),Ax xs us->Ax (xs.eraseIdx i) (us.eraseIdx i)
 |_,_,_,.nil=>.nil
 |_,_,0,.cons _ t=>t
 |_,_,i+1,.cons r t=>.cons r (Ax.eraseIdx i t)
def Ax.rep{xs:s_}(h:dO!):∀k:Nat,Ax (vd_).flatten (Dk_ k us).flatten
 |0=>.nil
 |k+1=>by
  rw[RA,RA,SQ,SQ];exact Ax.append h (Ax.rep h k)
def zS{α:Type}:∀(l:X!) (i:δ),(l.eraseIdx i).length<=S_
 |[],_=>MZ _
 |_::_,0=>QV _
 |_::r,i+1=>UT (zS r i)
def a0c(its:o!):∀(k:δ) (σ:o!),
  List.foldl n4_ σ.toArray (Dk_ k an_)=(σ++(ve!).flatten).toArray
 |0,σ=>by simp
 |k+1,σ=>by
  let e:σ.toArray++an_=(n5!).toArray:=by simp
  let e2:n5!++(ve!).flatten=σ++(Dk_ W! its).flatten:=by
   rw[RA,SQ,OE]
  rw[<-e2,<-a0c its k n5!,<-e,RA,RU]
section
variable{X:Cx}{hb:List (Addr×Obj)}{Z:St}{H:Hp}{s:yY!}{l b:yJ!}{xs ys zs:List V}
def Inv.lset{its its':o!}{n:δ}{f:Array Value->Array Value}{t':δ}(I:e_)(hH:H l=ψ H!)
  (e:yY_ l=ψ {cls:=.type "list",data:=DG_ n})(hf:f an_=its'.toArray)(hv:Ax ys its')(hz:jA_):
  Inv X hb Z jD! {s with heap:=DV! l ve_,toks:=t'}:=by
 let q:=PySem.IsL.update e f;rw[hf]at q;exact I.write (x:=l) (e:=l) (by rw[hH];exact ο) N_ (λb' u J hu=>(OK s.heap ve_ (OB J)).trans hu) #[_,q] ?_;exact#[hz,its',_,hv,q]
def Inv.lnew{its:o!}{t':δ}(I:e_)(hv:G8! ys)(hz:jA_):
  Inv X hb Z (Dy_ upd H bf!) {s with heap:=s.heap.push {cls:=.type "list",data:=.seq an_},toks:=t'}:=
 I.laid vf! u! #[hz,its,0,hv,dU_]
def Inv.fresh(I:e_):H k_=none:=FT! u!
def Inv.lstM(I:e_)(hH:H l=ψ H!):j!<=sizeLine/\∃(its:o!) (n:δ),G8! xs/\j!=g4_/\yY_ l=ψ {cls:=.type "list",data:=DG_ n}:=by let#[z,its,n,r,e]:=I.hok l _ hH;exact#[z,its,n,r,ay_,e]
def a6a{n:δ}(h:n6_):HQ_ n=false:=by delta Builtin.List.listTooLong;exact MU a!
end
section
variable{X:Cx}
def BH:V->μ V->Hp->VK->Prop:=λx vs H Q=>∃l xs y,x=.ref l/\vs=[y]/\H l=ψ H!/\j!<sizeLine/\Fb_ (xs++[y])
def zM:HP X "list.append" BH:=by intro hb s Z H x vs v us Q I rx rv h;let#[l,xs,y,rfl,rfl,hH,hz,q]:=h;subst rx;let#[u,rfl,ru]:=rv.one;let#[z,its,n,r,hl,e]:=I.lstM hH;exact SD F.slot_list_append do! F.entry_list_append (F.args_list_append_2 _ _) (PySem.list_append l its.toArray n u jH_) jI!;exact#[.non,_,I.lset (its':=its++[u]) hH e c! (r.append n7!) ?_,rfl,q];rw[MH,QS];omega
def BG:V->μ V->Hp->VK->Prop:=λx vs H Q=>∃l b xs zs,x=.ref l/\vs=[.ref b]/\H l=ψ H!/\H b=sM! zs/\j!+zs.length<=sizeLine/\Q .non (upd H l vi!)
def b7b:HP X "list.extend" BG:=by
 intro hb s Z H x vs v us Q I rx rv h;let#[l,b,xs,zs,rfl,rfl,hH,hB,hz,q]:=h;subst rx;let#[u,rfl,ru]:=rv.one;subst ru;let#[z,its,n,r,hl,e]:=I.lstM hH;let#[z2,ie,n2,r2,hl2,e2]:=I.lstM hB;let bj:be_+vi_<=sizeLine:=by rw[MN,MN];omega
 let wz:¬(! nc!&&Builtin.List.listTooLong (be_+vi_))=true:=by
  rw[a6a bj,VN];exact NO
 exact SD F.slot_list_extend do! F.entry_list_extend (F.args_list_extend_2 _ _)
  (AutoSeq1.list_extend_list_list_0 l its.toArray n b ie.toArray n2 wz jH_ a!) #[e,e2,?_]
 exact#[.non,_,I.lset (its':=its++ie) hH e c! (r.append r2) ?_,χ,q];rw[MH];omega
def IS:R2:=λx y H Q=>∃l k xs,x=.ref l/\y=.int k/\H l=ψ H!/\-(2 ^ 63)<=k/\k<2 ^ 63/\j!*k.toNat<=sizeLine/\
 ∀p,H p=υ->Q bb_ (upd H p (.lst (Dk_ k.toNat xs).flatten))
def c8e(xs:X!)(k:δ):(vd_).flatten.length=k*j!:=by
 induction k with
 |zero=>simp
 |succ k ih=>rw[RA,SQ,MH,ih,Nat.succ_mul,Nat.add_comm]
def c0z:Gb X ti_ IS:=by
 intro hb s Z H x y v u Q I rx ry h;let#[l,k,xs,rfl,rfl,hH,Y,h2,hz,q]:=h;subst rx;let#[t,rfl]:=ry;let#[z,its,n,r,hl,e]:=I.lstM hH;let ao:be_*k.toNat<=sizeLine:=by rw[MN,<-hl];exact hz
 let hcap:¬be_*k.toNat>(2 ^ 63 - 1) / 8:=by
  let:(sizeLine:δ)<=(2 ^ 63 - 1) / 8:=by decide
  omega
 let w5:¬(!Builtin.List.listFitsIndex k)=true:=by
  rw[fitsIndex_both Y h2];exact NO
 let wz:¬HQ_ (be_*k.toNat)=true:=by
  rw[a6a ao];exact NO
 let p8:JV_ (if nc!=τ then 0 else k.toNat)=(Dk_ k.toNat its).flatten.toArray:=by
  let f0:∀m:Nat,JV_ m=(Dk_ m its).flatten.toArray:=λm=>by
   let:=a0c its m [];rw[QD]at this;show"#E"
  rw[f0];cases its with
  |nil=>simp
  |cons a r'=>rw[bx_]
 exact wpAny_binaryOp_repeat_ref (T:="list") (U:="int") a_ do! (λs'=>typeIs_int s' k t) noFill_list_mul F.fills_int_mul F.slot_int_rmul repeat_list F.slot_int_index.lookup
  (SD F.slot_int_rmul (typeIs_int s k t) F.entry_int_rmul (F.args_int_rmul_2 _ _) (int___rmul___int_list k t l its.toArray n)
   #[e,rfl,do!,SD F.slot_list_mul do! F.entry_list_mul (F.args_list_mul_2 _ _) (AutoListH.list___mul___list_int_3 l its.toArray n k t w5 hcap wz) jI!])
 rw[p8];exact#[.ref _,_,I.lnew (t':=s.toks) (r.rep k.toNat) (by rw[c8e,Nat.mul_comm];exact hz),χ,q _ I.fresh]
end
section
variable{κ:Type} [DecidableEq κ]
def Mr(h1:HN! κ V)(k:κ):ι V:=(h1.find? λkv=>decide (kv.1=k)).map Q_
def b8o{k:κ}(e:p.1=k):Mr (p::r) k=ψ p.2:=by simp[Mr,RD,e]
def b8p{k:κ}(e:¬p.1=k):Mr (p::r) k=Mr r k:=by simp[Mr,RD,e]
def Nk.isSome_eq(r:Nk o u):o.isSome=u.isSome:=by
 cases o with
 |none=>cases u with
  |none=>rfl
  |some _=>exact(i8_).elim
 |some _=>cases u with
  |none=>exact(i8_).elim
  |some _=>rfl
def KV.val(r:KV h1 vs)(k:κ):Nk (Mr h1 k) (valueAt vs k):=by
 delta KV at r
 induction r with
 |nil=>exact jb!
 |@cons p q ps qs h t ih=>
  let#[Y,h2]:=h;by_cases e:p.1=k
  .let e':q.1=k:=Y.symm.trans e;let b:valueAt (q::qs) k=ψ q.2:=by simp[valueAt,RD,e']
   rw[b8o e,b];exact h2
  .let e':¬q.1=k:=λz=>e (Y.trans z);let b:valueAt (q::qs) k=valueAt qs k:=by simp[valueAt,RD,e']
   rw[b8p e,b];exact ih
end
def c2s(r:Bi (kV k) u):(bp_).is k u=true:=by
 cases k with
 |inl i=>let#[t,e]:=tL!;subst e;exact a6h P w i t
 |inr x=>let#[t,e]:=tL_;subst e;exact nB P w x t
def sE:∀{ks:μ Key} {us:o!},Ax n8_ us->ItemsAre bp_ ks us
 |[],_,r=>by rw[RM]at r;cases r;exact .nil
 |k::ks,_,r=>by
  rw[MO]at r;cases r with
  |cons h t=>exact .cons (c2s h) (sE t)
abbrev KT(H:Hp):μ l7_->μ l8!->Prop:=Paired λp q=>p.1=q.1/\H q.2.1=ψ rw_/\Bi p.2 q.2.2
section
variable{P:yW!}{w:yM!}{H:Hp}{h:Heap}{a:yJ!}
def d6x(ok:bq_)(e:Rd H a u):I5! H h u:=e.ok ok
def a3b(ok:bq_)(e:H a=DB_ n8_):(gi_).is h ks a:=by let#[_,its,r,o,Y,h2,n,h3]:=(HO_ (.tup n8_) ok);exact#[o,an_,n,Y,h2,h3,by simpa using sE r]
def d8f(ok:bq_)(e:Rd H a jG!):ay!<=sizeLine/\dO_=θ/\
  ∃xs,KT H h1 xs/\h.DictOfH gi_ a xs:=by
 let#[z,y,xs,r,o,es,ep,Y,h2,h3,h4,h5]:=(show Et P w H h a jG! from d6x ok e);exact#[z,y,xs,r,o,es,ep,Y,h2,h3,h4,aC_,h5];let all:∀{l:μ l7_} {m:μ l8!},KT H l m->∀x∈m,(gi_).is h x.1 x.2.1:=by
  intro l m q
  induction q with
  |nil=>intro x hx;exact nomatch hx
  |@cons p q ps qs hq t ih=>
   intro x hx;obtain e|hx:=MD.mp hx
   .subst e;exact a3b ok (by rw[<-hq.1];exact hq.2.1)
   .exact ih x hx
 exact all r x hx
def xE(ok:bq_)(e:H a=ψ jG!):ay!<=sizeLine/\dO_=θ/\
  ∃xs,KT H h1 xs/\h.DictOfH gi_ a xs:=d8f ok (.inl e)
end
section
variable{X:Cx}{hb:List (Addr×Obj)}{Z:St}{H:Hp}{s:yY!}{a:yJ!}{y v:V}{u r:yL!}{o:Option V}{A:yK!}{E:Value->Shared->Prop}
def Inv.big(I:e_):sysModules<k_:=by let h:mainGlobals<k_:=(I.mod.glob.keeps I.bk).lt;exact Nat.lt_trans a_ h
def c9v(I:e_)(mu:GO (H a))(hs:vn_)(he:∃q,Du_ a=ψ q)(new:DE! Et (K2_ ob) h' a ob):
  Inv X hb Z (K2_ ob) {s with heap:=h',toks:=t'}:=
 I.write (x:=a) (e:=a) mu N_ (λb q J z=>(hs.2 b J).trans z) he new
end
def GN(i:Expr):Prop:=∀ov iv,subscripted i θ ov iv=operate [ov,iv] (getItem ov iv)
def c6c{T id:String}
  (hl:Gt! cD_ "__getitem__"=pure (ψ fc_))(hs:GN slice)
  (h:DW_ n! (F8_ value) (λo au=>wpAny n! A (F8_ slice) (λi av=>av.TypeIs o T/\wpAny n! A (getItem o i) Q E av) E au) E s):
  wpAny n! A (F8_ (JI_ value slice)) Q E s:=by
 exact HQ! (PH h (λo au h₁=>PH h₁ (λi av ju=>?_) λ_ _ x=>x) λ_ _ x=>x);let#[hT,ju]:=ju;delta subscriptTail;exact LW ?_;rw[IC! hT.not_modules];exact LW (VP hT hl ?_);let fin:DW_ n! (IB_ slice) (λr fh=>wpAny n! A (FM_ o) Q E fh) E av:=by
  rw[hs o i];exact wpAny_operating (PH ju (λr fh iq=>LW (HD! iq)) λ_ _ x=>x)
 first
  |exact LZ jK!
  |exact Hb! jK!
  |exact LW fin
structure M1(X:Cx)(o:Expr)(m:Str)(ay:Pos)(e:Expr)(ai:Pos):Prop where
 base:JB_ m=Dq_ o
 few:(EL_ jL!&&DY_ bg_
  &&decide (FG_ [e]))=τ
 line:n2_=τ
 trees:F9_ vq_=[e8_]
structure M2(X:Cx)(o:Expr)(m:Str)(ay:Pos)(e f:Expr)(ai:Pos):Prop where
 base:JB_ m=Dq_ o
 few:((F9_ vr_).all bg!&&DY_ bg_
  &&decide (FG_ [e,f]))=τ
 line:n2_=τ
 trees:F9_ vr_=[e8_,(θ,eval f X.env)]
end L2
namespace Att
open PySem PySem.W PySem.Calls PyProof.Rows
def tR:∀(ns:q_) (vs:o!),WellAll P h vs vt!->Kw_ vs:=by
 intro ns
 induction ns with
 |nil=>
  intro vs w;rw[RM]at w;cases w;exact .nil
 |cons n ns ih=>
  intro vs w;rw[MO]at w;cases w with
  |cons a b=>
   cases a;exact .cons _ _ (ih _ b)
def b5n{l:OpenLaw}(hn:jM_)
  (p9:l.row.toRowW.claim.pre args=τ)(u8:WellAll P h u9 args):
  ∃a vs ns,u9=[Value.ref a]/\args=[WData.list vt!]/\h.get? a=ψ {cls:=.type "list",data:=.seq cE!}/\Kw_ vs/\de_<=n:=by
 let hsh:WShape.hasAll [] args [.list .int]=true:=(vu!).1;let hc:l.pre.holds [] {args:=args}=true:=(vu!).2;let#[d,r,rfl,Y,h2]:=hasAllW_cons hsh;obtain rfl:=hasAllW_nil h2;let#[xs,rfl,h3]:=hasW_list Y;let#[ns,rfl]:=items_int h3;let ao:de_<=n:=by
  delta OpenLaw.pre at hc;let h4:(WTm.not (.lt (.lit (.int (n:Int))) (.len (.arg 0)))).holds [] {args:=[.list jN!]}=true:=by
   let h4:=(holds_andW hc).1;rw[hn]at h4;exact h4
  let h5:=condW_of h4 (w_not (w_lt w_lit (w_len_list (w_arg χ))));rw[MJ]at h5;exact Nat.le_of_not_lt λq=>?_;let q':(n:Int)<((de_:δ):Int):=by omega
  first
   |(rw[NG q']at h5;exact Df_ h5 a_)
   |(simp at h5;omega)
 cases u8 with
 |cons w1 w2=>
  cases w2;cases w1 with
  |list ho i'=>exact#[_,_,ns,χ,χ,ho,tR ns _ i',ao]
def b5u(l:OpenLaw)(args:μ WData):l.row.toRowW.claim.post args fl! args=true:=
 postW_of (r:=l.row.toRowW) (X:=(τ==τ))
  (show WShape.has [] fl! .bool=τ by first|rfl|decide|simp[WShape.has,WShape.arms,WShape.armsAll])
  (show(WTm.eq .res (.lit fl!)).value [] {args:=args,res:=ψ fl!,after:=args}=ψ (.bool (τ==τ))from w_eq_bool (w_res χ) w_lit) χ
def a8i{l:OpenLaw}
  (hn:jM_)(rq:of!)
  (call:∀(w:yM!) (s₀ au:yY!) (mg mb:U_) (fa:yJ!) (o:Obj) (pm cd bu:yL!) (a:yJ!) (vs:o!) (ns:q_),
   Ground q loose [] XP w s₀ mg mb au.heap->YP w au.heap->
   au.heap.get? fa=ψ o->o.data=.func (docDef d.name d.params d.body d.scope pm cd bu)->au.heap.CodeRec cd d.name->mg d.name=ψ fm!->
   au.heap.get? a=ψ {cls:=.type "list",data:=.seq cE!}->Kw_ vs->de_<=n->au.gens=#[]->
   codeAny (model l.prog w) callerA og_ oh! au):
  WalkO q loose XP YP l.row.toRowW d [] oh_:=by
 intro w s₀ au mg mb G va fa o pm cd bu dV kV ho hd cb hD kg hg args u9 as p9 hlay hrd u8 hlo;obtain rfl:dV=.none:=Dflts.none hD rq;obtain rfl:kV=.none:=Dflts.noKw hD;let#[a,vs,ns,rfl,rfl,w6,hints,ao]:=b5n hn p9 u8;exact enter_call (VA (call w s₀ au mg mb fa o pm cd bu a vs ns G va ho (fd_plain hd) cb kg w6 hints ao hg) λr s' hq=>?_);let#[rfl,h2,h3,h4]:=hq;exact#[.inl #[oi!,oi!,[],χ,cA_,oi!,b5u l _,λ_=>#[jO!,λ_ hm=>(nomatch hm)]],h2,h3,h4]
section
variable{prog:yW!}{w:yM!}{A:yK!}{E:Value->Shared->Prop}{s:yY!}{K:Frag}
end
end Att
namespace L2
open PySem PySem.Spec PyProof.Rows
def b5d(h:Kw_ vs):Ax cb_ vs:=by
 induction h with
 |nil=>exact .nil
 |cons n t h ih=>exact F6_ cF_
def BY(H:Hp):Prop:=∀b,H b=υ\/∃o xs,H b=ψ (.frz o H!)
def c2j{K:zE!}
  (KX:K.In au.heap)(F':DJ! au.heap.Ns)(J:au.heap.Ns builtinsNs mb)(hbb:∀x:Str,x≠"__name__"->mb x=Dn! x)(qc:au.heap.NoLimit)(hg:au.gens=#[])
  (ha:IC_ a=ψ {cls:=.type "list",data:=.seq cE!})(hi:Kw_ vs)(hl:tF_)(hr:oi_)
  (F:∀base:Heap,K.In base->DJ! base.Ns->oV! Fe CX k fa fd [x] sp)(hbind:∀(s:yY!) (u:yL!),GG_ jP! [(x,u)])
  (dw:∀H:Hp,BY H->HR! K->sp bb! H jP_ λ_ _ _=>False)
  (r9:∀H e s',CX [] H au ok_ e s'->False):
  codeAny E_ callerA og_ oh! au:=by
 let rv:=b5d hi;let lenV:=hi.length;let J':∀H:Hp,BY H->HR! K->Nl P w H au.heap->(∀b,H b≠υ->b=a)->(H a≠υ->K.lookup a=υ)->
   codeAny E_ callerA og_ oh! au:=by
  intro H hO hS hok hA hK;let N':∀{b:yJ!} {o:Obj},IC_ b=ψ o->H b=υ->H3_ g8_=ψ o:=λe n=>c3h e n;let rm:∀{b:yJ!} {o:Obj} {es:jQ_} {ep:δ},IC_ b=ψ o->o.data=H2_ es->H b=none:=λ{b o es ep} e d=>by
   cases q:H b with
   |none=>rfl
   |some u=>
    let e':b=a:=hA b cG!;subst e';rw[ha]at e;rcases e;let d':Data.seq vs.toArray _=Data.dict es ep:=d;cases d'
  let vb:∀{b:yJ!} {m:U_},au.heap.Ns b m->(g8_).Ns b m:=λ{b m} ⟨o,es,ep,e,d,r⟩=>#[o,es,ep,N' e (rm e d),d,r];let P':K.In g8_:=λb o e=>N' (KX b o e) (by
   cases q:H b with
   |none=>rfl
   |some u=>
    let e':b=a:=hA b cG!;subst e';rw[hK cG!]at e;rcases e)
  let hM:Mod K mg g8_:=#[P',vb F',#[mb,vb J,hbb],by let#[mc,Y,h2]:=qc;exact#[mc,vb Y,h2]];let e0:Rf P w K mg g8_ callerA [] au H:=#[χ,hM,λb o e=>c7s e,VF (b7l _ _),ο,λb J=>ξ (show b∈uf! from J) c!,hok,.of_eq hg];exact VA ((F _ P' (vb F')).run callerA [] au H og! bb! bb! _ _ hr e0 (hbind au V_) t5_ (dw H hO hS)) λr s' h=>?_;cases r with
  |error e=>exact(r9 H e s' h).elim
  |ok fl=>
   cases fl with
   |next=>exact DA_ h
   |brk=>exact DA_ h
   |cont=>exact DA_ h
   |ret u=>
    let#[v,H',os,bare,un,hok',r',q]:=h;let q':v=.bl true:=q;subst q';obtain rfl:u=Value.bool true:=r';exact#[χ,OldK.of_keep λb o e=>?_,os,bare];cases q:H b with
    |none=>exact un.keep b o e q (by intro z;exact ξ uf_ c!) c!
    |some u=>
     obtain z|⟨ob,xs,z⟩:=hO b
     .rw[q]at z;rcases z
     .let z2:=un.frzs b ob _ z;let#[e1,_]:=hok b _ z;let#[e2,_]:=hok' b _ z2;rw[e]at e1;rcases e1;exact e2
 cases hk:D1_ a with
 |some o=>
  let e:=KX a o hk;rw[ha]at e;rcases e;exact J' gI! (λ_=>.inl χ) (.inr #[_,cE!,_,hk,χ,χ,χ,by rw[MN,lenV];exact hl,by simpa using rv]) (λb u z=>by let z':(none:ι HO)=ψ u:=z;rcases z') (λb z=>ξ χ z) λz=>Dl! z
 |none=>
  exact J' (λb=>if b=a then ψ (.frz {cls:=.type "list",data:=.seq cE!} (.lst cb_))else υ) (λb=>?_) (J1! #[{cls:=.type "list",data:=.seq cE!},y!]) (λb u z=>?_) (λb z=>?_) λ_=>hk
  .by_cases J:b=a
   .exact .inr #[_,_,MM J]
   .exact .inl (MY J)
  .by_cases J:b=a
   .let z':=(MM J).symm.trans z;rcases z';subst J;exact#[ha,vA_,vs,_,rv,ha]
   .let z':=(MY J).symm.trans z;rcases z'
  .by_cases J:b=a
   .exact J
   .exact Df_ (MY J) z
def c5x{l:W.OpenLaw}{K:vB!}{CX:World->CZ}{sp:World->Sp}
  (hn:jM_)(ip:n6_)(rq:of!)(hr:oi_)
  (hY:vB_)
  (F:∀(w:yM!) (mg:U_) (fa:yJ!) (h:Heap),H5_ h->DJ! h.Ns->mg d.name=ψ fm!->
   ∃fd:FuncData,vC!/\
    ∀base:Heap,H5_ base->DJ! base.Ns->FV! (CX w) (sp w))
  (dw:∀(w:yM!) (H:Hp) (a:yJ!) (ns:q_),de_<=n->BY H->HR! bO_->sp w bb! H jP_ λ_ _ _=>False)
  (r9:∀(w:yM!) (H:Hp) (s:yY!) (e:yL!) (s':yY!),CX w [] H s ok_ e s'->False):
  W.WalkO q loose XP YP l.row.toRowW d [] oh_:=by
 exact Att.a8i hn rq λw s₀ au mg mb fa o pm cd bu a vs ns G va ho hd cb kg w6 hints ao hg=>?_;let KX:=hY w _ va;let#[fd,J,hF]:=F w mg fa _ KX G.T.g kg;exact c2j KX G.T.g G.T.b G.T.builtins G.T.nolimit hg w6 hints (NR ao ip) hr hF J (λH hO hS=>dw w H a ns ao hO hS) λH e s'=>r9 w H au e s'
def b8l{l:W.OpenLaw}{n k:δ}{XP:(Str->ι Value)->Heap->ν}{YP:World->Heap->ν}{d:DefRec}{K:vB!}{CX:CZ}{sp:W.Frag->Sp}{x:Str}
  (hn:jM_)(ip:n6_)(rq:of!)(hr:oi_)
  (hY:vB_)
  (F:∀(w:yM!) (mg:U_) (fa:yJ!) (h:Heap),H5_ h->DJ! h.Ns->mg d.name=ψ fm!->
   ∃fd:FuncData,vC!/\
    ∀base:Heap,H5_ base->DJ! base.Ns->FV! CX (sp bO_))
  (dw:∀(K:zE!) (H:Hp) (a:yJ!) (ns:q_),de_<=n->BY H->HR! K->sp K bb! H jP_ λ_ _ _=>False)
  (r9:∀(H:Hp) (s:yY!) (e:yL!) (s':yY!),CX [] H s ok_ e s'->False):
  W.WalkO q loose XP YP l.row.toRowW d [] oh_:=
 c5x (K:=K) (CX:=λ_=>CX) (sp:=λw=>sp bO_) hn ip rq hr hY F (λw H a ns Y h2 h3=>dw bO_ H a ns Y h2 h3) λ_ H s e s'=>r9 H s e s'
def Ff(s:Stmt):Arguments:=match s with
 |.FunctionDef _ a _ _ _ _ _ _ _ _=>a
 |_=>{posonlyargs:=[],args:=[],vararg:=υ,kwonlyargs:=[],kw_defaults:=[],kwarg:=υ,defaults:=[]}
def Cq(s:Stmt):μ Stmt:=match s with
 |.FunctionDef _ _ b _ _ _ _ _ _ _=>b
 |_=>[]
def Aj(s:Stmt):Scope:=match s with
 |.FunctionDef _ _ _ _ _ _ sc _ _ _=>sc
 |_=>{kind:=.function,names:=[],isGenerator:=θ,isCoroutine:=θ}
abbrev Pi:CZ:=λ_ _ _ _ _ _=>False
abbrev E0:XK:=λ_ _ _=>False
def vJ:Li Pi X E0:=λ_ _ _ _ _ _ _ h=>h.elim
structure AH(K:zE!)(x qual:Str)(st:Stmt)(f:yJ!)(fd:FuncData):Prop where
 ex:∃(oc:yL!) (od:do_) (kV bu pm:yL!) (an:do_) (am ct:yL!) (jn:jT!),
  fd=Dz! x qual/\D1_ f=Ep! fd/\W.codeIn K am qual=τ
 kp:EH_ K ag_=τ
section
variable{P:yW!}{w:yM!}{K:zE!}{mg:Str->Option Value}{base:Heap}
def AH.ok{st:Stmt}(F:vF!)(S:eg!)(len:um!)
  (p5:∀(am:yL!) (A:yK!) (outer:aO_) (s:yY!) (H:Hp) (vs:s_) (Q:VK) (E:XK),EL! by!->Fw! E->
   ∃t,Vc (Od Pi P w K mg base N qual by! f am A outer s H E).nox bP_ t/\t {nx:=λ_ H'=>Q .non H',rt:=Q} gP! H):JU_ Pi W!:=by
 show"#/";exact d8b lk cb S len λA outer s H vs Q E hr dw=>?_;let#[t,h,q]:=p5 am A outer s H vs Q E hr dw;exact#[t,h.nox,q]
def AH.binds{st:Stmt}(F:vF!)
  (h:vG!):DS! K:=by
 show"#/";exact .all (h kV bu pm an am ct)
def pL{st:Stmt}{kV:yL!}(l:D1_ f=ψ vH_)
  (c:um_)(k:EH_ K ag_=τ):AH K x qual st f on_:=#[#[oc,od,kV,bu,pm,an,am,ct,jn,χ,l,c],k]
end
def b5j(h:n<=1000):n<sizeLine:=PD h a_
def nN{A B:ν}(h:B):if θ=τ then A else B:=by rw[MY NO];exact h
def nM{A B:ν}(h:A):if τ=τ then A else B:=by rw[y!];exact h
def Bb(H H':Hp):Prop:=∀b o,H b=ψ o->H' b=ψ o
def Bb.refl(H:Hp):Bb H H:=λ_ _ h=>h
def Bb.trans(a:Bb H H1)(b:Bb H1 H2):Bb H H2:=λc o h=>b c o (a c o h)
def Bb.free(e:fn!)(h:H' l=Option.none):H l=Option.none:=by
 cases q:H l with
 |none=>rfl
 |some o=>
  rw[e l o q]at h;rcases h
def Bb.seq{K:zE!}(e:fn!)(h:F7_ El):El K H' a xs:=by
 rcases h with(h|⟨o,h⟩)|h
 .exact vJ_
 .exact vK_
 .exact .inr h
def Inv.track{D:yJ!}(I:e_)
  (hD:yY_ D=ψ {cls:=.type "list",data:=G8_ us.toArray})(r:Ax ys us)(hz:jA_)(hn:H D=υ)(hs:dP_<=D)(hL:D≠X.env.locals)
  (hc:∀x c,Dc_ x=ψ c->c≠D)(hp:∀p∈X.pn++hb,p.1≠D):oV_ (upd H D bf!) s:=by
 let ne:∀b u,H b=ψ u->b≠D:=λb u e=>cP e hn;exact I.step (ch:=[D]) mn_ (λb o _ _ _ e _=>e) (λb o _ _ _ e _=>vM_) (λb o hc e n=>?_) (λb o _ e=>#[o,e])
  (λb xs e=>by rw[oq!];exact e) (λb o u e=>by rw[oq!];exact e) (λb ps e=>E1_ oq! e) or! r1_ I.bare
 .let e:b=D:=by simpa using J
  subst e;exact#[.inr hs,hL,hc,hp]
 .rw[or_];exact n
 .by_cases J:b=D
  .show"#&";exact#[hz,us,n,r,hD]
  .rw[bB J]at e;exact Hy! u os! (λc q=>by rw[bB (ne c _ q)];exact q) λc xs q=>by rw[bB (ne c _ q)];exact q
nonrec def closOf(cells:cc!):μ vP!->μ fn_->μ fn_
 |[],σ=>σ
 |(n,k)::r,σ=>if k==.free then GI! r ((n,(cells.lookup n).getD 0)::σ)else GI! r σ
structure BZ(X:Cx)(scope:Scope)(cl:cc!):Prop where
 eq:closureFor scope X.env=pure cl
 sub:∀x c,cl.lookup x=ψ c->Dc_ x=ψ c
 all:∀x,Eg_ x=ψ .free->∃c,cl.lookup x=ψ c
def sQ:∀(names:fo!) (σ:cc!),(Fx_ env.cells.lookup)->
  (forIn names σ λx r=>(match x with|(name,kind)=>if(kind==hb!)=true then(do let a <-cellOf env name;pure vR!)else pure jU_:Sem vR_))=(pure (closOf env.cells names σ):Sem (List fn_))
 |[],σ,_=>rfl
 |(n,k)::r,σ,h=>by
  rw[UI];cases hk:(k==hb!)with
  |true=>
   let#[c,hc]:=h (n,k) MB vT_;let b8:env.cells.lookup n=ψ c:=hc;let e:cellOf env n=pure c:=by delta cellOf;rw[b8]
   let ih:=sQ r ((n,c)::σ) λp hp=>h p jV!;let e2:Fi_ ((n,k)::r) σ=Fi_ r ((n,c)::σ):=by
    show vU_;rw[ba!,b8];rfl
   rw[e2,<-ih];simp![hk,PL,e];rfl
  |false=>
   let ih:=sQ r σ λp hp=>h p jV!;let e2:Fi_ ((n,k)::r) σ=Fi_ r σ:=by
    show vU_;rw[JF_ hk]
   rw[e2,<-ih];simp![hk];rfl
def pO(cells:cc!):∀(names:fo!) (σ:cc!),(Fx_ cells.lookup)->(∀p∈σ,cells.lookup p.1=ψ p.2)->∀p∈closOf cells names σ,cells.lookup p.1=ψ p.2
 |[],_,_,h=>h
 |(n,k)::r,σ,hn,h=>by
  delta closOf;split
  .rename_i hk;let#[c,hc]:=hn (n,k) MB vT_;exact Hc! pO vV! λp hp=>?_;obtain rfl|hp:=MD.mp hp
   .let b8:cells.lookup n=ψ c:=hc;rw[b8];rfl
   .exact h p hp
  .exact Hc! pO vV! h
def pQ(cells:cc!):∀(names:fo!) (σ:cc!) (x:Str),(∃c,(x,c)∈σ)->∃c,(x,c)∈GI! names σ
 |[],_,_,h=>h
 |(n,k)::r,σ,x,h=>by
  delta closOf;split
  .exact Hc! pQ x (by let#[c,hc]:=h;exact#[c,LY _ hc])
  .exact Hc! pQ x h
def pP(cells:cc!):∀(names:fo!) (σ:cc!) (x:Str),(x,hb!)∈names->∃c,(x,c)∈GI! names σ
 |[],_,_,h=>nomatch h
 |(n,k)::r,σ,x,h=>by
  delta closOf;obtain h|h:=MD.mp h
  .cases h;rw[fo_];exact Hc! pQ _ #[_,MB]
  .split
   .exact vW_
   .exact vW_
def oW:∀{l:HN! Str β} {x:Str} {c:β},(x,c)∈l->∃d,l.lookup x=ψ d
 |[],_,_,h=>nomatch h
 |(n,k)::r,x,c,h=>by
  cases hx:(x==n)with
  |true=>exact#[k,by simp[PM,hx]]
  |false=>
   obtain h|h:=MD.mp h
   .cases h;simp at hx
   .let#[d,hd]:=oW h;exact#[d,by simp[PM,hx,hd]]
def b4u(h:∀p∈cc_,p.2=.free->∃c,X.env.cells.lookup p.1=ψ c):∃cl,BZ X scope cl:=by
 exact#[closOf X.env.cells scope.names [],?_,mk!,λx e=>?_]
 .let e:=sQ scope.names [] h;dsimp only[closureFor];rw[show(forIn scope.names ([]:List fn_) λx r=>(match x with|(name,kind)=>if(kind==NameKind.free)=true then(do let a <-cellOf X.env name;pure vR!)else pure jU_:Sem vR_))=pure (closOf X.env.cells scope.names [])from e];rfl
 .exact Hz_ pO h rV! (x,c) (QZ e)
 .let#[c,hc]:=Hz_ pP x (QZ e);exact oW hc
def Mo(X:Cx)(scope:Scope)(cl:cc!)(C:yJ!)(N:G_)(av:yY!)(bf:Hp)(fp:bJ!):Cx:=
 {X with N:=N,s₀:=av,H₀:=bf,env:=H6! C,outer:=X.stack,stack:=X.stack,ex:=fp,fn:=λ_=>θ,pn:=[],xe:=λ_ _=>False}
def nI{env:Env}:∀{names:fo!} {x:Str},(∀y∈names,y.2≠.cell)->
  (GG! jW! x=ψ .cell\/
     (jW!).lookup x=ψ .free)->names.lookup x=ψ .free
 |[],_,_,h=>by simp at h
 |(n,k)::r,x,hc,h=>by
  let ih:=@nI env r x λy hy=>hc y cH_;let hk:=hc (n,k) MB;rw[MO]at h;by_cases hf:os_=τ
  .simp only[hf,PL]at h;cases hx:x==n with
   |true=>
    simp![PM,hx];simp![NQ,PP]at hf;rw[hf.1.1]
   |false=>
    simp![PM,hx]at h ⊢;exact ih h
  .simp only[hf]at h;cases hx:x==n with
   |true=>
    simp![NW,OY,PM,hx]at h ⊢;obtain h|h:=h
    .rcases h;exact Dl! hk
    .exact h
   |false=>
    show"#3";exact ih h
def nJ{env:Env}:∀{names:fo!} {x:Str},names.lookup x=ψ .free->
  (GG! jW! x=ψ .cell\/
     (jW!).lookup x=ψ .free)
 |[],_,h=>by simp at h
 |(n,k)::r,x,h=>by
  let ih:=@nJ env r x;rw[MO];by_cases hf:os_=τ
  .simp only[hf,PL];cases hx:x==n with
   |true=>exact .inl (by simp[PM,hx])
   |false=>
    simp![PM,hx]at h ⊢;exact ih h
  .simp only[hf];cases hx:x==n with
   |true=>
    show"#3";exact .inr h
   |false=>
    show"#3";exact ih h
structure Bt(X:Cx)(scope:Scope)(NF:G_)(ix:i_):Prop where
 len:NF.length=ix.length
 at_:∀(k:δ) (x:Str),NF[k]?=ψ x->∃j,ix[k]?=ψ j/\X.N[j]?=ψ x/\Eg_ x=ψ .free/\rQ!
def Bt.nil:Bt X scope [] []:=#[χ,λk x e=>by simp at e]
def Bt.cons(h:dp!)(Y:vZ_:=by rfl)(h2:Eg_ x=ψ .free:=by rfl)
  (h3:GE_ x=ψ .cell\/GE_ x=ψ .free:=by first|exact Or.inl χ|exact Or.inr χ):Bt X scope (x::NF) (j::ix):=
 ⟨by simp[h.len],λk y e=>by
  cases k with
  |zero=>simp at e;subst e;exact#[j,χ,Y,h2,h3]
  |succ k=>simpa using h.at_ k y c3_⟩
def Oo(nl:δ)(ix:i_)(Z:St):St:=Dk_ nl υ++ix.map λj=>(Z[j]?).join
def d5n
  (db:dp_)(cx:dq!)(cf:ou!)(I2:ot!)(f2:ot_)(flt:v0_)(hC:W_<=C):
  (HR_ N).Ok where
 mod:=I2.ok.mod
 kind:=db
 glob:=I2.ok.glob
 blt:=I2.ok.blt
 above:=hC
 inj:=λx y c Y h2=>I2.ok.inj x y c (cf.sub x c Y) (cf.sub y c h2)
 has:=λx h=>cf.all x (nI cx h)
 cab:=λ_ _ h=>nomatch h
 hd:=I2.ok.hd
 frames:=I2.ok.frames
 stk:=.inl χ
 exf:=λb J=>#[NX (NK jX! hC),λx c h=>(d0!).2.2.2.2.1 x c he_]
 bs:=I2.bs
 bsz:=NR I2.ok.bsz I2.sz
 noex:=λb o e J=>by
  obtain z|z:=(d0!).2.2.2.1
  .exact I2.ok.noex b o e z
  .exact Ju! c5_ (NR I2.ok.bsz z)
 exfs:=λb J hf=>by
  let#[_,f1,f3,_]:=f2 b J;obtain z|z:=FV_ hf
  .exact f1 z
  .exact f3 z
 funs:=I2.stack
 frf:=I2.stkFree
def c3d{D:yJ!}
  (db:dp_)(cx:dq!)(cf:ou!)(cap:dp!)(I2:ot!)(f2:ot_)(flt:v0_)
  (hC:W_<=C)(hD:W_<=D)(jw:D≠C)(ah:∀b u,s2.heap.get? b=ψ u->h₁.get? b=ψ u)(hn:h₁.Ns C m)(ww:h₁.get? D=ψ oD)(wx:∀v,oD.data≠.cell v):
  Inv (HR_ hf!) (eh!++[(D,oD)]) ov! H2 {s2 with heap:=h₁,toks:=t}:=by
 exact#[d5n db cx cf I2 f2 flt hC,χ,I2.bare,Un.kept ah,#[m,hn,rT_],λx c h=>?_,I2.hok.fresh hC,λx c h=>I2.freeC x c he_,dQ_,I2.hok.kept ah,?_]
 .let U':hf![i]?=ψ x:=e1;delta Oo at e2;by_cases hi:i<NL.length
  .rw[PQ gR_,UH]at e2;rw[MM hi]at e2;cases e2
  .rw[fb_,OC,SL]at e2;rw[fb_]at U';let#[j,hj,hN,hf,hk]:=cap.at_ _ _ U';rw[hj]at e2;let vc:(Z[j]?).join=ψ v:=OF e2;let e4:Z[j]?=ψ dQ!:=by
    cases q:Z[j]? with
    |none=>rw[q]at vc;rcases vc
    |some o=>rw[q]at vc;exact JI! vc
   let#[m2,_,hl]:=I2.loc;let hv:H4! AG:=hk.elim (λz=>.inr dq_) λz=>.inr eh_;let#[u,r,l]:=hl j x v hN e4 hv;exact#[u,r,.inr ?_];obtain⟨k,_⟩|⟨_,c,hc,z⟩:=l
   .obtain z|z:=hk
    .rw[z]at k;cases k
    .rw[z]at k;cases k
   .let#[c',b8]:=cf.all x hf;let e5:=cf.sub x c' b8;rw[hc]at e5;rcases e5;let#[o,ho,hd]:=z;exact#[nJ hf,c,b8,#[o,ah _ _ ho,hd]]
 .let#[v,o,ho,hd]:=Hc_ he_;exact#[v,o,ah _ _ ho,hd]
 .let YL:∀b,b≠X.env.locals->b∉X.fs->b∉frs X.stack:=λb Y h2 h3=>(FV_ h3).elim Y h2;let bz:p∈eh!++[(D,oD)]:=by simpa[Mo]using hp
  obtain bz|bz:=NA.mp bz
  .let#[e,n,ne,nf,d]:=I2.pin p bz;exact#[ah _ _ e,n,NX (NK c5_ hC),YL _ ne nf,d]
  .let e:p=(D,oD):=by simpa using bz
   subst e;exact#[ww,I2.hok.fresh hD,jw,YL _ (RL (NK I2.lt hD)) (I2.nofs hD),wx]
 .show(ov!).length=(hf!).length;delta Oo;rw[MH,MH,MJ,SL,cap.len]
def a3u(I:δ->Shared->ν)
  (hE:∀e s',E e s'->notedBy n! A env (λe s'=>R (.error e) s') e s')
  (turn:∀n s,I n s->DW_ n! (pyNext it) (λr au=>match r with
   |none=>R (.ok .next) au
   |some v=>DW_ n! (letOwnedTupleGo uz it v) (λ_ YM=>DW_ n! (assign uz env v) (λ_ av=>
     wpAny n! A (forIn dz true λc r=>if r=true then do let ok <-isTrue c env (eval c env);pure v7! else pure jU_) (λok fh=>
      if ok=τ then DW_ n! (F8_ fm) (λx vd=>
       wpAny n! A (K1_ "list.append" [σ,x]) (λ_ YN=>∃m,m<n/\I m YN) E vd) E fh
      else∃m,m<n/\I m fh) E av) E YM) E au) E s)
  (n:δ) (h:I n s):codeAny n! A (.compLoop (.ListComp fm [#[uz,iter,dz,0]] scope pos) 0 it σ env) R s:=by
 exact codeAny_loop χ I (λn s hI=>?_) n h;exact wpAny_noted ?_;rw[compTurn_list];exact LW (VL (LW (PH (turn n s hI) (λr au h₁=>?_) hE)));cases r with
 |none=>exact LZ h₁
 |some v=>
  exact LW (PH h₁ (λ_ YM h₁'=>?_) hE);exact LW (PH h₁' (λ_ av ju=>LW (PH ju (λok fh iq=>?_) hE)) hE);cases ok with
  |false=>exact LZ #[χ,iq]
  |true=>
   exact J0_ (PH iq (λx vd jx=>LW (PH jx (λ_ YN kh=>LZ (LZ #[χ,kh])) hE)) hE)
def Pg(X:Cx)(dz:dR_)(t:TT):Prop:=
 ∀(hb:z!) (s:yY!) (Z:St) (H:Hp) (Q:dR!),oV_ H s->t Z H Q->
  wpAny h! X.A (forIn dz true λc r=>if r=true then do let ok <-isTrue c X.env (eval c X.env);pure v7! else pure jU_) iF! X.xe s
def EZ:TT:=λ_ H Q=>Q τ H
def a5k:Pg X [] EZ:=λhb s Z H Q I h=>wpAny_tests_nil #[H,I,h]
def a5j(h:PT X c t):Pg X [c] t:=λhb s Z H Q I hw=>wpAny_tests_one su_
def Xq(al:It)(g:TG)(tt:TT)(te:TE)(Fin:c7!)(Z:St)(H:Hp):Prop:=∃W:Nat->Nat->List V->St->Hp->Prop,(∃m,W 0 m [] Z H)/\∀i m ys Z H,W i m ys Z H->ab!<=sizeLine/\
 ((al.stop i H/\Fin ys H)\/(al.go i H/\∀x H',al.yld i H x H'->g x Z H' λdu H2=>tt du H2 λb H3=>if b=τ then te du H3 λy H4=>∃m',m'<m/\W w_ m' (ys++[y]) du H4 else∃m',m'<m/\W w_ m' ys du H3))
abbrev Wm(us:o!)(n:δ):Obj:={cls:=.type "list",data:=G8_ us.toArray}
def a0n
  {Fin:c7!}{RR:Value->Addr->Result->Shared->ν}
  (db:dp_)(cx:dq!)(cf:ou!)(cap:dp!)(calm:az!)
  (hg:∀C av bf fp,PG cd! tg g)(hi:∀C av bf fp,ID! tt)(he:∀C av bf fp,PE cd! fm te)
  (I2:ot!)(T:yJ_ Re tg al fp it tn)(bt:tn 0 s2.heap)(f2:ot_)(hw:Xq al g tt te Fin ov! H2)
  (hRR:∀(D C:yJ!) (us:o!) (n:δ) (ys:s_) (H':Hp) (s':yY!),Ju_ H'->EU! D=ψ (Wm us n)->Ax ys us->ab!<=sizeLine->H' D=υ->W_<=D->W_<=C->D≠C->H' C=υ->
   (∃m,s'.heap.Ns C m)->Fin ys H'->RR (.ref D) C (.ok .next) s'):
  wpAny h! X.A (newList []) (λσ fh=>BQ_ (newFunctionEnv scope X.env.globals cl [] X.env.qual υ .none (ψ X.env)) (λYO vd=>
   codeAny h! X.A (.compStart hg! 0 b6_ σ {YO with scope:=relabel scope X.env}) (RR σ YO.locals) vd) E fh) E s2:=by
 let#[W,#[m0,w0],turn]:=hw;let flt:∀b∈fp,b<W_:=λb J=>by let#[o,e,_]:=H4_ bt;exact NN e
 exact QI (wpAny_newFunctionEnv cx (by intro y hy;simp at hy) (λh₁ w9 ve=>?_) db);dsimp only at w9 ve ⊢;generalize xa:s2.heap.push {cls:=.type "list",dict:=none,data:=.seq (wb_).toArray}=G2 at w9 ve ⊢;let hC:hg_=W_+1:=by rw[<-xa,RX]
 let jw:W_≠hg_:=by rw[hC];exact NX (UU _)
 let YQ:W_<=hg_:=by rw[hC];exact QV _
 let YR:∀b,b<W_->b≠hg_:=λb J=>by rw[hC];exact NX (UO J)
 let ah:∀b o,s2.heap.get? b=ψ o->h₁.get? b=ψ o:=λb o e=>ve.extBut b o (YR b c5_) (MC _ (xa▸MC _ e));let hacc:=ve.extBut _ _ jw (MC _ (xa▸NI _ χ));let qe:=T.keep _ _ _ bt λb _ o e=>ah b o e;let I1:=c3d (NL:=NL) (t:=s2.toks+([]:μ no_).length) db cx cf cap I2 f2 flt YQ u! jw ah w9 hacc wc_;let na:∀{H':Hp} {oD:Obj},gA_->∀b∈fp,Fp fq_ (eh!++[(W_,oD)]) H' b:=λ{H' oD} hn b J=>by
  let#[_,f1,f3,f4,f5,f6]:=f2 b J;exact#[hn b J,YR b jX!,λz=>(FV_ z).elim f1 f3,.inl J,λx c h=>f5 x c he_,dQ_];let bz:p∈eh!++[(W_,oD)]:=by simpa[Mo]using hp
  obtain bz|bz:=NA.mp bz
  .exact f6 p bz
  .let e:p=(W_,oD):=by simpa using bz
   subst e;exact RL jX!
 let YS:∀fh:Shared,fh={s2 with heap:=h₁,toks:=s2.toks+([]:μ no_).length}->
   codeAny h! X.A (.compLoop hg! 0 b6_ (.ref W_) (H6! G2.objs.size)) (RR (.ref W_) hg_) fh:=by
  rintro fh rfl;exact a3u (E:=wf_) (λk s'=>∃i ys us n ac H',Inv fq_ (eh!++[j0!]) ac H' s'/\tn i s'.heap/\gA_/\Ax ys us/\W i k ys ac H')
   (λ_ _ z=>z.elim) ?_ m0 #[0,[],[],0,_,H2,I1,qe,s6_,.nil,w0]
  rintro k s' ⟨i,ys,us,n,ac,H',I',ab,YT,rv,w'⟩;let#[ao,xb]:=turn i k ys ac H' w';obtain⟨stop,fin⟩|⟨go,step⟩:=xb
  .exact dP (T.done fq_ χ χ χ calm i _ s' ac H' _ I' (na YT) ab stop) ?_;rintro r s4 ⟨hr,I4⟩;subst hr;let YU:=I4.pin j0! (D2! Mo);let IX:=I2.call' I4.os I4.base I4.hok I4.bare λb J=>by
    let#[_,f1,f3,f4,f5,f6]:=f2 b J;exact#[f4,f1,f5,f6]
   let#[mC,hnC,_]:=I4.loc;exact hRR _ _ us n ys H' s4 IX YU.1 rv ao YU.2.1 u! YQ jw I4.free #[mC,hnC] fin
  .exact dP (T.item fq_ χ χ χ calm i _ s' ac H' _ I' (na YT) ab go) ?_;rintro r s4 ⟨u,hr,h4⟩;subst hr;exact dP h4 ?_;rintro _ s5 ⟨x,H5,I5,r5,y5,ng,wu⟩;let wv:=I5.pinned (na wu) s8!;exact dP (hg _ _ _ _ _ s5 ac H5 x u _ wv r5 s8_) ?_;rintro _ s6 ⟨nh,H6,I6,q6⟩;exact dP (hi _ _ _ _ _ s6 nh H6 _ I6 q6) ?_;rintro ok s7 ⟨H7,I7,q7⟩;let YV:∀{YW:St} {H8:Hp} {s8:yY!},Inv fq_ ((eh!++[j0!])++Qp fp s5.heap) YW H8 s8->tn w_ s8.heap/\∀b∈fp,H8 b=none:=λ{YW H8 s8} I8=>by
    exact#[T.keep _ _ _ ng λb J o e=>(wh_).1,bt!];let#[o,e,d]:=H4_ ng;exact(wh_).2.1
   cases ok with
   |false=>
    simp![NW,OY]at q7 ⊢;let#[m',hm,w7]:=q7;let#[t7,n7]:=YV I7;exact#[m',hm,i+1,ys,us,n,nh,H7,iV_,t7,n7,rv,w7]
   |true=>
    simp![PL]at q7 ⊢;exact dP (he _ _ _ _ _ s7 nh H7 _ I7 q7) ?_;rintro yv s8 ⟨y,H8,I8,r8,m',hm,w8⟩;let#[t8,n8]:=YV I8;let pD:=I8.pin j0! (MF _ (MV _ c!));let hul:=rv.length.symm;exact wpAny_list_append_plain #[n,pD.1] λh9 hl9 YX=>?_;let#[n9,e9]:=hl9;let I8a:=I8.pins_of λp hp=>I8.pin p (MF _ (MV _ (MV _ hp)));let I9:Inv fq_ eh! nh H8 {s8 with heap:=h9,toks:=s8.toks}:=by
     exact I8a.turned (λb o J e=>(YX.2 b J).trans e) pD.2.1 jw (.inr u!) (λx c h=>?_) λp hp=>?_
     .let#[v,o,ho,_]:=Hc_ he_;exact NX iA!
     .let bz:p∈X.pn++hb:=by simpa[Mo]using hp
      exact NX (Hd! bz)
    let e9':h9.get? W_=ψ (Wm (us++[yv]) n9):=by
     rw[e9,List.push_toArray]
    exact#[m',hm,i+1,ys++[y],us++[yv],n9,nh,H8,I9.pins_of λp hp=>?_,T.keep _ _ _ t8 λb J o e=>(YX.2 b (NX jX!)).trans e,n8,rv.append (FH! r8),w8];obtain hp|hp:=NA.mp hp
    .exact I9.pin p (MF _ hp)
    .let e:p=(W_,Wm (us++[yv]) n9):=by simpa using hp
     subst e;exact#[e9',pD.2.1,pD.2.2.1,pD.2.2.2.1,hi_]
 exact codeAny_compStart_list (YS _ χ) (T.self _ 0 _ _ _ qe (YS _ χ))
def CG(nl:δ)(ix:i_)(wi:TI)(g:TG)(tt:TT)(te:TE):TE:=λZ H Q=>wi Z H λal H1=>Xq al g tt te (λys H'=>∀p,H' p=υ->Q bb_ (upd H' p bf!)) (Oo nl ix Z) H1
def b3f{X:Cx}{scope:Scope}{NL:G_}{ix:i_}{wi:TI}{g:TG}{tt:TT}{te:TE}
  (db:dp_)(cx:dq!)(kj:∀y∈cc_,y.2=.local->scope.names.lookup y.1=D4! ψ)
  (io:hj!)(cap:dp!)(calm:az!)(ax:mW_)
  (hg:hj_)(hi:wq!)(he:wr!)
  (hs:db_:=by intro _;rfl):
  PE X hg! wr_:=by
 show"!D";show"!}"
 rw[eval_ListComp];exact E7_ hs;let#[it,fp,tn,al,H2,e,I2,T,bt,f2,hw]:=h2;subst e;exact Ep_ T;rintro D C us n ys H' s' I' eD rv ao nD hD hC jw nC ⟨m,hn⟩ fin;exact#[m,hn,λh' bv=>?_];let gb:∀b,b<W_->b≠C/\b≠D:=λb J=>wt!;let qf:∀x c,Dc_ x=ψ c->c<W_:=λx c h=>by let#[_,_,ho,_]:=Hc_ h;exact NN ho
 let se:∀p∈X.pn++hb,p.1<W_:=λp hp=>Hd! hp;let IC:oV_ H' {s' with heap:=h',toks:=s'.toks}:=ID_ I'.turned nC λp hp=>(j1!).1;let ID:=IC.track ((bv.2 D jw).trans eD) rv ao nD (NR I2.sz hD) (OB (hk!).2) ww! λp hp=>(j1!).2;exact#[.ref D,_,ID,χ,fin D nD]
end L2
namespace DL
open PySem PySem.Spec PyProof.Rows L2
abbrev St:=L2.St
inductive D where
 |non|bl (b:Bool)|int (i:Int)|str (x:Str)|tup (xs:d_)|lst (xs:d_)|fn (a:yJ!)|dk (h1:μ oA_)
mutual
noncomputable def Aq(KF:zE!)(H:Hp):D->V->Prop
 |.non,v=>v=V.non
 |.bl b,v=>v=V.bl b
 |.int i,v=>v=V.int i
 |.str x,v=>v=V.str x
 |.tup xs,v=>∃a vs,v=V.ref a/\Eh! a vs/\D6_ xs vs
 |.lst xs,v=>∃a vs,v=V.ref a/\FW! a vs/\D6_ xs vs
 |.fn a,v=>v=V.ref a
 |.dk h1,v=>∃a,v=V.ref a/\Rd H a d3_
noncomputable def Al(KF:zE!)(H:Hp):List D->List V->Prop
 |[],vs=>vs=[]
 |d::ds,vs=>∃v r,vs=v::r/\Dr! d v/\D6_ ds r
end
mutual
noncomputable def Ds:D->Bool
 |.lst _=>θ
 |.dk _=>θ
 |.tup xs=>Ey xs
 |_=>τ
noncomputable def Ey:List D->Bool
 |[]=>τ
 |d::ds=>Ds d&&Ey ds
end
mutual
noncomputable def Io:D->Nat
 |.lst xs=>Ct xs+1
 |.tup xs=>Ct xs+1
 |_=>0
noncomputable def Ct:List D->Nat
 |[]=>0
 |d::ds=>max (Io d) (Ct ds)
end
section
variable{KF:zE!}{H H':Hp}
mutual
theorem Aq.map(ht:j1_)(hl:wy!)(hd:wy_):∀(d:D) (v:V),Dr! d v->DZ! H' v
 |.non,_,h=>h
 |.bl _,_,h=>h
 |.int _,_,h=>h
 |.str _,_,h=>h
 |.tup xs,_,h=>by
  show"!]";exact#[a,vs,e,ht a vs q,wz!]
 |.lst xs,_,h=>by
  show"!]";exact#[a,vs,e,hl a vs q,wz!]
 |.fn _,_,h=>h
 |.dk h1,_,h=>by
  delta Aq at h ⊢;let#[a,e,q]:=h;exact#[a,e,hd a h1 q]
theorem Al.map(ht:j1_)(hl:wy!)(hd:wy_):∀(ds:d_) (vs:s_),Da! H->Da! H'
 |[],_,h=>h
 |d::ds,_,h=>by
  delta Al at h ⊢;let#[v,r,e,q,t]:=h;exact#[v,r,e,Aq.map ht hl hd d v q,Al.map ht hl hd ds r t]
end
mutual
theorem Aq.mapT(ht:j1_):∀(d:D) (v:V),Ds d=τ->Dr! d v->DZ! H' v
 |.non,_,_,h=>h
 |.bl _,_,_,h=>h
 |.int _,_,_,h=>h
 |.str _,_,_,h=>h
 |.tup xs,_,n,h=>by
  delta Ds at n;show"!]";exact#[a,vs,e,ht a vs q,Al.mapT ht xs vs n r]
 |.lst xs,_,n,_=>by
  delta Ds at n;exact Dd_ n
 |.fn _,_,_,h=>h
 |.dk _,_,n,_=>by
  delta Ds at n;exact Dd_ n
theorem Al.mapT(ht:j1_):∀(ds:d_) (vs:s_),Ey ds=τ->Da! H->Da! H'
 |[],_,_,h=>h
 |d::ds,_,n,h=>by
  delta Ey at n;rw[NQ]at n;delta Al at h ⊢;let#[v,r,e,q,t]:=h;exact#[v,r,e,Aq.mapT ht d v n.1 q,Al.mapT ht ds r n.2 t]
end
def bU(e:fn!)(h:Eh! a xs):H6_ a xs:=by
 rcases h with(h|⟨o,h⟩)|h
 .exact vJ_
 .exact vK_
 .exact .inr h
def b2n(e:fn!)(h:Rd H a o):Rd H' a o:=by
 obtain h|⟨u,h⟩:=h
 .exact .inl (e _ _ h)
 .exact .inr #[u,e _ _ h]
def Aq.mono(e:fn!)(h:hl_):DZ! H' v:=Aq.map wF_ wD_ wF! d v h
def Al.mono(e:fn!)(h:cI_):Da! H':=Al.map wF_ wD_ wF! ds vs h
def Aq.non:Aq KF H .non V.non:=by delta Aq;rfl
def Aq.bl:Dr! aH_ (V.bl b):=by delta Aq;rfl
def Aq.int:Dr! ae! (V.int i):=by delta Aq;rfl
def Aq.str:Dr! dS! (V.str x):=by delta Aq;rfl
def Aq.fn:Dr! bz! fs_:=by delta Aq;rfl
def Aq.tup(h:Eh! a vs)(r:cI_):Dr! bQ_ fs_:=by delta Aq;exact wG_
def Aq.lst(h:FW! a vs)(r:cI_):Dr! ce! fs_:=by delta Aq;exact wG_
def Al.nil:Al KF H [] []:=by delta Al;rfl
def Al.cons(h:hl_)(t:cI_):D6_ ei! (v::vs):=by delta Al;exact#[v,vs,χ,h,t]
def aL:∀{ds:d_} {vs:s_},Da! H->g_=bu_
 |[],vs,h=>by delta Al at h;subst h;rfl
 |d::ds,vs,h=>by
  delta Al at h;let#[v,r,e,_,t]:=h;rw[e,MX,MX,aL t]
def fX:∀{ds:d_} {vs:s_} {i:δ} {d:D},Da! H->ds[i]?=ψ d->∃v,vs[i]?=ψ v/\Dr! d v
 |[],_,_,_,_,e=>by simp at e
 |c::ds,vs,i,d,h,e=>by
  delta Al at h;let#[v,r,e1,q,t]:=h;subst e1;cases i with
  |zero=>simp at e;subst e;exact#[v,χ,q]
  |succ i=>
   let#[u,Y,h2]:=fX t c3_;exact rt_
def dL:∀{ds es:d_} {vs ws:s_},Da! H->D6_ es ws->D6_ (ds++es) (vs++ws)
 |[],_,_,_,h,k=>by delta Al at h;subst h;exact k
 |c::ds,_,vs,_,h,k=>by
  show"!S";exact E8! q (dL t k)
def rN:∀{ds:d_} {vs:s_} (n:δ),Da! H->D6_ (ds.take n) (vs.take n)
 |_,_,0,_=>Al.nil
 |[],_,n+1,h=>by delta Al at h;subst h;exact Al.nil
 |c::ds,vs,n+1,h=>by
  show"!S";exact E8! q (rN n t)
def rP:∀{ds:d_} {vs:s_} (n:δ),Da! H->D6_ oE_ (vs.drop n)
 |_,_,0,h=>h
 |[],_,n+1,h=>by delta Al at h;subst h;exact Al.nil
 |c::ds,vs,n+1,h=>by
  show"!S";exact rP n t
def vD(hd:hl_):∀{ds:d_} {vs:s_} (n:δ),Da! H->D6_ (ds.set n d) (vs.set n v)
 |[],_,_,h=>by delta Al at h;subst h;exact Al.nil
 |c::ds,vs,n,h=>by
  delta Al at h;let#[u,r,e1,q,t]:=h;subst e1;cases n with
  |zero=>exact E8! hd t
  |succ n=>exact E8! q (vD hd n t)
def cR(h:Al KF H [] vs):vs=[]:=by delta Al at h;exact h
def bR(h:D6_ ei! vs):∃v r,vs=v::r/\Dr! d v/\D6_ ds r:=by delta Al at h;exact h
def bV(h:Dr! bQ_ v):∃a vs,v=V.ref a/\Eh! a vs/\Da! H:=by delta Aq at h;exact h
def bS(h:Dr! ce! v):∃a vs,v=V.ref a/\FW! a vs/\Da! H:=by delta Aq at h;exact h
def bC(h:Dr! ae! v):v=V.int i:=by delta Aq at h;exact h
def dI(h:Dr! (.bl i) v):v=V.bl i:=by delta Aq at h;exact h
def bP(h:Dr! hm! v):v=V.str i:=by delta Aq at h;exact h
def eS(h:Aq KF H .non v):v=V.non:=by delta Aq at h;exact h
def gQ(h:Dr! bz! v):v=V.ref a:=by delta Aq at h;exact h
def d2o(h:Dr! (.dk h1) v):∃a,v=V.ref a/\Rd H a d3_:=by delta Aq at h;exact h
def jC(h:cJ!):Bb H ft_:=λb u e=>by rw[bB (cP e h)];exact e
def eO(h:cJ!)(r:cI_):Aq KF (Hb_ p vs) bQ_ oF!:=Aq.tup (Fd.of cC) wJ_
def cJ(h:cJ!)(r:cI_):Aq KF j3! ce! oF!:=HD_ cC wJ_
end
structure Bs(G H G' H':Hp):Prop where
 g:Bb G G'
 h:Bb H H'
 sub:Bb G' H'
 new:∀b,G' b≠υ->G b≠υ\/H b=υ
def Bs.refl{G H:Hp}(s:K_):Bs G H G H:=#[fu!,Bb.refl H,s,j3_]
def Bs.trans(a:Bs G H G1 H1)(b:Bs G1 H1 G2 H2):Bs G H G2 H2:=
 #[a.g.trans b.g,a.h.trans b.h,b.sub,λc h=>(b.new c h).elim (λz=>a.new c z) λz=>.inr (a.h.free z)]
def Bs.laid(s:K_)(hp:cJ!):Bs G H (upd G p o) ft_:=by
 exact#[jC (s.free hp),jC hp,j4_,bh_]
 .by_cases J:b=p
  .subst J;rw[cC]at e ⊢;exact e
  .rw[bB J]at e ⊢;exact s b u e
 .by_cases J:b=p
  .subst J;exact .inr hp
  .rw[bB J]at h;exact .inl h
abbrev Ae:=μ (ι D)
structure OR(KF:zE!)(own:i_)(G H:Hp)(Z:St)(ρ:Ae):Prop where
 sub:Bb G H
 len:j5!=gn!
 at_:∀(i:δ) (d:D),ρ[i]?=ψ ej!->i∉own->∃v,Z[i]?=ψ dQ!/\DZ! G v
 own_:∀i∈own,∃p ds vs,ρ[i]?=ψ oG_/\Z[i]?=ψ ce_/\H p=ψ ei_/\G p=υ/\Da! G
 dis:∀i∈own,∀j∈own,i≠j->∀p q,Z[i]?=ψ ce_->Z[j]?=Es_ (V.ref q)->p≠q
def OR.grow{KF:zE!}(h:cf!)(x:j5_):Ke_ G' H' where
 sub:=x.sub
 len:=h.len
 at_:=λi d q n=>by let#[v,Y,h2]:=h.at_ i d q n;exact wM!
 own_:=λi hi=>by
  let#[p,ds,vs,Y,h2,h3,h4,h5]:=h.own_ i hi;exact#[p,ds,vs,Y,h2,x.h _ _ h3,?_,h5.mono x.g];cases q:G' p with
  |none=>rfl
  |some o=>
   rcases x.new p cG! with z|z
   .exact Df_ h4 z
   .rw[h3]at z;rcases z
 dis:=h.dis
def OR.set{KF:zE!}(h:cf!)(hi:bi!)(r:cJ_):EA_ OR G H eQ_ bR! where
 sub:=h.sub
 len:=by rw[RB,RB,h.len]
 at_:=λj c q n=>by
  by_cases hj:i=j
  .subst hj;by_cases hi:i<j5!
   .rw[PR hi]at q;cases q;exact#[v,by rw[PR (Do! h.len hi)],r]
   .rw[PK (EB! RB)]at q;rcases q
  .rw[NZ hj]at q;rw[NZ hj];exact h.at_ j c q n
 own_:=λj hj=>by
  let ne:i≠j:=λe=>IE! e;rw[NZ ne,NZ ne];exact h.own_ j hj
 dis:=λj hj k hk be p q e1 e2=>by
  let ne:i≠j:=λe=>IE! e;let xc:i≠k:=λe=>hi (e▸hk);rw[NZ ne]at e1;rw[NZ xc]at e2;exact h.dis j hj k hk be p q e1 e2
def Jy(own:i_)(Z:St):μ Addr:=own.filterMap λi=>match Z[i]? with|some (some (V.ref p))=>ψ p|_=>υ
def oK(h:p∈Jy own Z):∃i∈own,Z[i]?=ψ ce_:=by
 let#[i,hi,e]:=SH.mp h;exact#[i,hi,?_];show"!7"
 .rename_i q he;rcases e;exact he
 .rcases e
def a4y(hi:ej_)(h:wN_):p∈Jy own Z:=SH.mpr #[i,hi,by rw[h]]
def Kg(own:i_)(Z:St)(G H:Hp):Hp:=λb=>if b∈Jy own Z then H b else G b
def OR.full{KF:zE!}(h:cf!):OR KF [] fu_ H Z ρ:=by
 let s1:Bb G fu_:=λb o e=>by
  delta Kg;split
  .exact h.sub b o e
  .exact e
 let s2:Bb fu_ H:=λb o e=>by
  delta Kg at e;show"!7"
  .exact e
  .exact h.sub b o e
 exact#[s2,h.len,oJ!,au!,au!];by_cases hi:i∈own
 .let#[p,ds,vs,Y,h2,h3,h4,h5]:=h.own_ i hi;rw[Y]at q;cases q;exact#[_,h2,Aq.lst (El.of ?_) (h5.mono s1)];delta Kg;rw[MM (a4y hi h2)];exact h3
 .let#[v,Y,h2]:=h.at_ i d q hi;exact#[v,Y,h2.mono s1]
def Le(ρ ρ':Ae):Prop:=j5!=ρ'.length/\∀(i:δ) (d:D),ρ[i]?=ψ ej!->ρ'[i]?=ψ ej!
def OR.le{KF:zE!}(h:Fy! Z ρ')(l:Le ρ ρ'):Fy! Z ρ:=#[h.sub,l.1.trans h.len,λi d q n=>h.at_ i d (l.2 i d q) n,au!,au!]
def Le.set(h:Le ρ ρ')(hi:ρ[i]?=ψ υ):Le ρ (ρ'.set i ej!):=by
 exact#[by rw[RB];exact h.1,λj c q=>?_];let:i≠j:=λe=>by subst e;rw[hi]at q;cases q
 rw[NZ this];exact h.2 j c q
def Le.refl(ρ:Ae):Le ρ ρ:=#[χ,λ_ _ h=>h]
def Ra(nl:δ)(ix:i_)(ρ:Ae):Ae:=Dk_ nl υ++ix.map λj=>(ρ[j]?).join
def OR.cap{KF:zE!}(h:cf!)(nl:δ)(ix:i_)(hx:j6!):Fy! (Oo nl ix Z) oJ_:=by
 delta Oo Ra;exact#[h.sub,Q!,oJ!,au!,au!];by_cases hi:i<nl
 .rw[PQ gR_,UH,MM hi]at q;cases q
 .rw[fb_,OC,SL]at q;rw[fb_,OC,SL];cases e:ix[i - nl]? with
  |none=>rw[e]at q;rcases q
  |some j=>
   rw[e]at q;let q':(ρ[j]?).join=ψ d:=OF q;let q2:ρ[j]?=ψ ej!:=by
    cases z:ρ[j]? with
    |none=>rw[z]at q';rcases q'
    |some o=>rw[z]at q';exact JI! q'
   let#[v,Y,h2]:=h.at_ j d q2 (hx j (SZ e));exact#[v,by simp[Y],h2]
inductive tD(KF:zE!)(own:i_)(f:n_)(Z:St)(H:Hp)(Q:VK):Prop
 |mk (G:Hp) (ρ:Ae) (d:D) (o:cf!) (e:bR_) (k:∀v G' H',DP_ G H->DZ! G' v->Q v H'):EA_ tD f Z H Q
inductive JU(KF:zE!)(own:i_)(f:a2!)(Z:St)(H:Hp)(Q:c7!):Prop
 |mk (G:Hp) (ρ:Ae) (ds:d_) (o:cf!) (e:oK!) (k:∀vs G' H',DP_ G H->Da! G'->Q vs H'):EA_ JU f Z H Q
inductive DC(KF:zE!)(own:i_)(f:bz_)(Z:St)(H:Hp)(Q:dR!):Prop
 |mk (G:Hp) (ρ:Ae) (b:Bool) (o:cf!) (e:f ρ=ψ b) (k:∀G' H',DP_ G H->Q b H'):EA_ DC f Z H Q
structure DE(X:Cx)(own:i_)(e:Expr)(f:n_):Prop where
 ok:PE X e (Eb! tD f)
structure DA(X:Cx)(own:i_)(es:dR_)(f:a2!):Prop where
 ok:PA X es (Eb! JU f)
structure DT(X:Cx)(own:i_)(e:Expr)(f:bz_):Prop where
 ok:PT X e wS_
structure DW(X:Cx)(own:i_)(e:Expr)(f:bz_):Prop where
 ok:PW X e wS_
section
variable{X:Cx}{own:List Nat}{e a b c:Expr}{es:List Expr}{pos:Pos}{f fa fb fc:Ae->Option D}{fs:Ae->Option (List D)}{ft fu:Ae->Option Bool}
def eG{t:TE}(h:iG!)(hw:∀Z G H Q ρ d,JJ! G->f ρ=ψ d->(Fc! Aq)->t Z H Q):De! e f:=wT_
def c4p(h:gL!)(hw:∀Z G H Q ρ d,JJ! G->fs ρ=ψ d->(Fc! Al)->t Z H Q):DA X own es fs:=D4_ p
def xE(h:PT X e t)(hw:wU!):Ee_ DT e:=wT_
def d1u(h:PW X e t)(hw:wU!):Ee_ DW e:=D4_ wh
def Nh(f:n_):Ae->ι D:=λρ=>(aj!).bind λd=>if Ds d then ψ d else υ
def b4p(h:DE X [] e f):De! e (Nh f):=eG h.ok λZ G H Q ρ d er e k=>by
 let#[d',e1,e2]:=LX.mp e;split at e2
 .rename_i hn;cases e2;exact#[Kg own Z G H,ρ,d,er.full,e1,λv G' H' x r=>?_];let hroot:∀b,b∈Jy own Z->∃vs,G' b=ψ ei_:=λb J=>by
   show"!Q";exact#[vs,x.g _ _ ?_];delta Kg;rw[MM J];exact h3
  let hG:∀b,b∈Jy own Z->G b=none:=λb J=>by
   show"!Q";exact h4
  exact k v (λb=>if b∈Jy own Z then υ else G' b) H' #[λb o z=>?_,x.h,λb o z=>?_,oL_] (Aq.mapT (λa vs q=>?_) d v hn r)
  .let J:b∉Jy own Z:=λJ=>by rw[hG b J]at z;rcases z
   rw[MY J];exact x.g _ _ ?_;delta Kg;rw[MY J];exact z
  .let z':wW!=ψ o:=z;split at z'
   .rcases z'
   .exact x.sub _ _ z'
  .let z':wW!≠none:=z;split at z'
   .exact Dl! z'
   .rename_i J;obtain y|y:=x.new b z'
    .delta Kg at y;rw[MY J]at y;exact .inl y
    .exact .inr y
  .let ne:∀u,G' a=ψ u->(∀ws,u≠.lst ws)->(if a∈Jy own Z then υ else G' a)=ψ u:=λu e1 hu=>by
    rw[MY (λJ=>by let#[ws,e2]:=hroot a J;rw[e1]at e2;exact hu ws (OF e2))];exact e1
   rcases q with(q|⟨o,q⟩)|q
   .exact FT_ (ne _ q λ_ z=>nomatch z)
   .exact J1! #[o,ne _ q λ_ z=>nomatch z]
   .exact .inr q
 .rcases e2
def Aa(i:δ):Ae->ι D:=λρ=>(ρ[i]?).join
nonrec def fC(d:D):Ae->ι D:=λ_=>ψ d
def join_some{ρ:Ae}{i:δ}(h:(ρ[i]?).join=ψ d):ρ[i]?=ψ ej!:=by
 cases z:ρ[i]? with
 |none=>rw[z]at h;rcases h
 |some o=>rw[z]at h;exact JI! h
def aA(i:δ){x:Str}(hi:bi!:=by decide)(hN:ao!:=by rfl)(hv:c8!:=by first|exact Or.inl χ|exact Fj! e!|exact Fj! aK_)(hd:C!:=by decide)
  (cb:c8_:=by decide):De! cv! (Aa i):=
 eG j6_ λZ G H Q ρ d er e k=>by let#[v,Y,h2]:=er.at_ i d (join_some e) hi;exact#[v,Y,k v G H hm_ h2]
def b7x(h:iG!)(ht:∀Z H Q,Q v H->t Z H Q)(r:∀H,EK! H):J9_ e d:=
 eG h λZ G H Q ρ d' er e' k=>by
  rcases e';exact ht Z H Q (k v G H hm_ (r G))
def aD:J9_ sl_ ae!:=b7x d2z fv_ λ_=>Aq.int
def aT:De! (JA! hm!) (fC hm!):=b7x c0l fv_ λ_=>Aq.str
def fE:De! (JA! (.bool i)) (fC (.bl i)):=b7x d7a fv_ λ_=>Aq.bl
def dH:De! sm_ bS!:=b7x d2y fv_ λ_=>Aq.non
def c9r(hg:V!)(hm:X.mg x=ψ dN_)(hd:C!:=by decide):J9_ cv! ae!:=
 b7x (b3e (v:=V.int i) hg hm cF_ hd) fv_ λ_=>Aq.int
nonrec def f2(g:hn!)(fa fb:n_):Ae->ι D:=λρ=>(cf_).bind λx=>(hn_).bind λy=>g x y
def Gr(KF:zE!)(r:R2)(g:hn!):Prop:=∀{x y:V} {dx dy d:D} {G H:Hp} {Q:VK},Bb G H->H7! dx x->H7! dy y->g dx dy=ψ d->j7!->Gs_ r
def two(hg:ek!)(er:wZ!)(e:f2 g fa fb ρ=ψ d)(k:∀v G' H',DP_ G H->EK! G'->Q v H'):
  ET r (Eb! tD fa) (Eb! tD fb) Z H Q:=by
 delta f2 at e;show"!@";exact#[G,ρ,x,er,e1,λu G1 H1 s1 r1=>#[G1,ρ,y,dr_,e2,λw G2 H2 s2 r2=>hg s2.sub fw_ r2 e λv G' H' s3 r3=>k v G' H' wZ_ r3]]
def bA(ho:mY_)(hg:ek!)(ha:I!)(J:cg!):De! mZ! j9!:=
 eG w1! λZ G H Q ρ d er e k=>IE_ e k
def gJ(ho:b8!)(hg:ek!)(ha:I!)(J:cg!)(hm:dS_):De! dT! j9!:=
 eG w0! λZ G H Q ρ d er e k=>IE_ e k
def aO(hr:Ys X r)(hg:ek!)(ha:I!)(J:cg!)(hs:Ps b):De! nT! j9!:=
 eG w0_ λZ G H Q ρ d er e k=>IE_ e k
nonrec def fT(f:n_):Ae->ι Bool:=λρ=>(aj!).bind λd=>match d with|.bl b=>ψ b|_=>υ
def lT{b:Bool}(h:fT f ρ=ψ b):f ρ=ψ aH_:=by delta fT at h;let#[d,e,h]:=LX.mp h;cases d<;>first|(rcases h;exact e)|cases h
def bJ(ho:b8!)(hg:ek!)(ha:I!)(J:cg!)(hm:dS_):Ga! dT! (fT j9!):=
 xE w1_ λZ G H Q ρ d er e k=>IE_ (lT e) λv G' H' s' r'=>by
  obtain rfl:=dI r';exact w3!
def eH(h:ds!)(he:iG_:=by intro _;rfl):Ga! e (fT f):=
 xE (b9w h.ok he) λZ G H Q ρ d er e k=>⟨G,ρ,.bl d,er,lT e,λv G' H' s' r'=>by
  obtain rfl:=dI r';exact w3!⟩
def AT:D->Dl_ Bool
 |.lst xs=>ψ (! d3!)
 |.tup xs=>ψ (! d3!)
 |.bl b=>ψ b
 |.int i=>ψ gC_
 |.non=>ψ θ
 |_=>υ
def tH{KF:zE!}(h:cI_):(!ds.isEmpty)=!vs.isEmpty:=by let:=aL h;cases ds<;>cases vs<;>simp_all
def a7l(h:ds!)(he:iG_:=by intro _;rfl):Ga! e (λρ=>(aj!).bind AT):=
 xE (b9x h.ok he) λZ G H Q ρ b er e k=>by
  let#[d,e1,e2]:=LX.mp e;exact#[G,ρ,d,er,e1,λv G' H' s' r'=>#[b,?_,oN!]];cases d with
  |non=>cases eS r';rcases e2;exact(rfl:θ=θ)
  |bl x=>cases dI r';rcases e2;exact χ
  |int i=>cases bC r';rcases e2;exact(rfl:gC_=gC_)
  |str x=>cases e2
  |fn a=>cases e2
  |dk a=>cases e2
  |tup xs=>
   let#[a,vs,e3,q,r3]:=bV r';subst e3;rcases e2;exact Er_ #[vs,bU s'.sub q,tH r3]
  |lst xs=>
   let#[a,vs,e3,q,r3]:=bS r';subst e3;rcases e2;exact .inl #[vs,s'.sub.seq q,tH r3]
def Go(ft fu:bz_):Ae->ι Bool:=λρ=>(ho_).bind λb=>if b then fu ρ else ψ θ
def Qy(ft fu:bz_):Ae->ι Bool:=λρ=>(ho_).bind λb=>if b then ψ τ else fu ρ
def Dr(ft:bz_):Ae->ι Bool:=λρ=>(ho_).map (!·)
variable{rest:List Expr}
def qY(h:hp!):Ee_ DW mx!:=w5!
def lV(h:hp!):Ee_ DW mx_:=w5_
def xD(ha:hp!)(J:DW X own eT! fu):DW X own eT_ (Go ft fu):=
 d1u w6_ λZ G H Q ρ d er e k=>by
  let#[x,e1,e]:=LX.mp e;exact oO_;cases x with
  |true=>exact nM w7!
  |false=>cases e;exact nN (k G1 H1 s1)
def qX(ha:hp!)(J:DW X own eU_ fu):DW X own eV! (Qy ft fu):=
 d1u w8! λZ G H Q ρ d er e k=>by
  let#[x,e1,e]:=LX.mp e;exact oO_;cases x with
  |false=>exact nN w7!
  |true=>cases e;exact nM (k G1 H1 s1)
def qZ(h:Ee_ DW e):Ee_ DT e:=#[h.ok.pt]
def fW(h:hp!):Ga! eV_ (Dr ft):=
 xE (b9y h.ok) λZ G H Q ρ d er e k=>by
  let#[x,e1,rfl]:=MQ.mp e;exact#[G,ρ,x,er,e1,λG1 H1 s1=>k G1 H1 s1]
def Iv(fa fb:n_):Ae->ι D:=λρ=>(oP_).bind λb=>if b then fb ρ else ψ C_
def Ng(fa fb:n_):Ae->ι D:=λρ=>(oP_).bind λb=>if b then ψ u_ else fb ρ
def CQ(fa:n_):Ae->ι D:=λρ=>(oP_).map λb=>.bl (!b)
def iS(h:I!):De! mz! fa:=w8_
def lX(ha:I!)(J:De! eT! fb):De! eT_ (Iv fa fb):=
 eG w9! λZ G H Q ρ d er e k=>by
  let#[x,e1,e]:=LX.mp e;exact oQ_;obtain rfl:=dI r1;exact ka!;cases x with
  |true=>exact nM ka_
  |false=>cases e;exact nN xb!
def a0l(ha:I!)(J:De! eU_ fb):De! eV! (Ng fa fb):=
 eG xb_ λZ G H Q ρ d er e k=>by
  let#[x,e1,e]:=LX.mp e;exact oQ_;obtain rfl:=dI r1;exact ka!;cases x with
  |false=>exact nN ka_
  |true=>cases e;exact nM xb!
def d5j(ha:I!):De! eV_ (CQ fa):=
 eG (c0o ha.ok) λZ G H Q ρ d er e k=>by
  let#[x,e1,rfl]:=MQ.mp e;exact oQ_;obtain rfl:=dI r1;exact#[x,χ,xc!]
def Xn(ft:bz_)(fa fb:n_):Ae->ι D:=λρ=>(ho_).bind λb=>if b then fa ρ else fb ρ
def c4n(hc:Ee_ DT c)(ha:I!)(J:cg!):De! mz_ (Xn ft fa fb):=
 eG xc_ λZ G H Q ρ d er e k=>by
  let#[x,e1,e]:=LX.mp e;exact oO_;cases x with
  |true=>exact nM ka_
  |false=>exact nN ka_
nonrec def f3(g h:hn!)(fa fb fc:n_):Ae->ι D:=λρ=>(cf_).bind λx=>(hn_).bind λy=>(g x y).bind λz=>match z with
 |.bl true=>(fc ρ).bind λw=>h y w
 |.bl false=>ψ C_
 |_=>υ
def Af:Ae->ι aK!:=λ_=>ψ []
def Ac(f:n_)(fs:a2!):Ae->ι aK!:=λρ=>(aj!).bind λd=>(fx_).bind λds=>ψ ei!
def aJ:DA X own [] Af:=c4p eU λZ G H Q ρ d er e k=>by
 rcases e;exact k [] G H hm_ Al.nil
def aE(h:ds!)(hs:kb!)(bp:ap!:=by rfl):DA X own aI! (Ac f fs):=
 c4p xd! λZ G H Q ρ d er e' k=>by
  let#[x,e1,e']:=LX.mp e';let#[xs,e2,e']:=LX.mp e';rcases e';exact JM_ #[G1,ρ,xs,dr_,e2,λvs G2 H2 s2 r2=>k _ G2 H2 bT! (E8! fw_ r2)]
def Bn(fs:a2!):Ae->ι D:=λρ=>(fx_).bind λds=>if g_<=1000 then ψ bQ_ else υ
def Im(fs:a2!):Ae->ι D:=λρ=>(fx_).bind λds=>if g_<=1000 then ψ ce! else υ
def fN(h:n<=1000):n<=sizeLine:=RY (b5j h)
protected def dO(h:kb!):De! tW! (Bn fs):=
 eG (c0k h.ok) λZ G H Q ρ d er e k=>by
  show"!P"
  .show"!K";exact D8! eO
  .rcases e
protected def lW(h:kb!):De! je_ (Im fs):=
 eG kc_ λZ G H Q ρ d er e k=>by
  show"!P"
  .show"!K";exact D8! cJ
  .rcases e
def Md(KF:zE!)(r:e1_)(g:bj!):Prop:=∀{vs:s_} {ds:d_} {d:D} {G H:Hp} {Q:VK},Bb G H->Da! G->g ds=ψ d->j7!->r vs H Q
nonrec def f1(g:bj!)(fs:a2!):Ae->ι D:=λρ=>(fx_).bind g
def cK{id:String}(hc:nB!)(hd:Md X.K r g)(hg:V!)(hm:cv_)(hv:nB_)(ha:hq_)(hn:cw!:=by decide)
  (bh:C!:=by decide)(he:ap!:=by rfl)(ba:aS!:=by rfl):De! bc_ kd!:=
 eG xg_ λZ G H Q ρ d er e' k=>by
  show"#4";exact xh_
def iD{T:String}{x:Str}{r:e1_}{g:bj!}(hc:nC!)(hd:Md X.K r g)(hg:V!)(hm:cv_)(hv:jn_)(ha:hq_)(hn:cw!:=by decide)
  (bh:C!:=by decide)(he:ap!:=by rfl)(ba:aS!:=by rfl):De! bc_ kd!:=
 eG xi! λZ G H Q ρ d er e' k=>by
  show"#4";exact xh_
def CI(KF:zE!)(n:δ)(g:bj!):Sp:=λvs H Q _=>bu_=n/\∃G ds d,Bb G H/\Da! G/\g ds=ψ d/\∀v G' H',DP_ G H->DZ! G' v->Q v H'
def c9u(F:J7! aj xi_)(hr:b9_)(hg:V!)(hm:X.mg x=ψ bT_)(hk:EH_ X.K bT_=τ)
  (J:kd_)(ha:hq_)(hn:xk_:=by rfl)(ao:xl!)
  (bh:C!:=by decide)(he:ap!:=by rfl)(ba:aS!:=by rfl):
  DE X own bc_ kd!:=
 eG (b3h F hr hg hm hk J .nil vJ ha.ok bh he ba) λZ G H Q ρ d er e' k=>by
  show"#4";exact#[G,ρ,ds,er,e1,λvs G1 H1 s1 r1=>?_];rw[NP];exact#[by rw[<-aL r1];exact ao ρ ds e1,G1,ds,d,s1.sub,r1,e',w9_]
end
def aV(h:Af ρ=ψ ds):g_=0:=by rcases h;rfl
def aI(hf:xl_):∀(ρ:Ae) (ds:d_),Ac f fs ρ=ψ ds->g_=n+1:=λρ ds e=>by
 show"!6";let#[xs,e2,e]:=LX.mp e;rcases e;rw[MX,hf ρ xs e2]
def pF(p:PlainL h a its):∃n sl,h.get? a=ψ {cls:=.type "list",dict:=υ,data:=G8_ its,slots:=sl}:=by let#[#[cls,dd,data,sl],n,e,Y,h2,h3]:=p;simp only at Y h2 h3;subst Y h2 h3;exact#[n,sl,e]
section
variable{X:Cx}
def CK(KF:zE!):R2:=λx y H Q=>∃l b xs zs,x=.ref l/\y=.ref b/\FW! l xs/\FW! b zs/\j!+zs.length<=sizeLine/\∀p,H p=υ->Eo! H vi!
def c7m:Fi! e2! CK:=by
 intro hb s Z H x y v u Q I rx ry h;let#[l,b,xs,zs,rfl,rfl,hH,hB,hz,q]:=h;subst rx;subst ry;let#[its,r,pl,z]:=I.list hH;let#[ie,r2,pl2,z2]:=I.list hB;let#[n,sl,e]:=pF pl;let#[n2,jo,e2]:=pF pl2;let Y:=ay_;let h2:=r2.length;exact concat_meets do! #[_,e2,rfl] PySem.noFill_list_add PySem.seq_list_add PySem.F.slot_list_add PySem.F.entry_list_add (PySem.F.args_list_add_2 _ _)
  (HA! list_addW l υ υ sl jo oS_) #[e,e2,?_]
 let ea:an_++ie.toArray=(its++ie).toArray:=by simp
 rw[ea];exact#[.ref _,_,I.lnew (r.append r2) ke_,χ,q _ I.fresh]
def Zk(KF:zE!):R2:=λx y H Q=>∃a b ys,x=.ref a/\y=.ref b/\Eh! a []/\Eh! b ys/\Q d9! H
def c1a:Fi! e2! Zk:=by
 intro hb s Z H x y v u Q I rx ry h;let#[a,b,ys,rfl,rfl,ha,J,q]:=h;subst rx;subst ry;let#[its,r1,p1,_]:=DA! ha;let#[ie,r2,p2,_]:=DA! J;let#[#[cls,dd,data,sl],ho,hc,n,hd]:=id p1;let#[#[z9,ll,data2,jo],jp,jq,n2,jr]:=id p2;simp only at hc hd jq jr;subst hc hd jq jr;let e0:=r1.nil_iff.mpr χ;exact Dv_ _
  (HA! tuple_addW0 a dd ll sl jo (D2! e0)) #[ho,jp,#[.ref b,H,I,χ,q]]
abbrev big:Nat:=100000
def cO(h:n<=big):n<=sizeLine:=NR h xm_
def Ar:D->D->ι D
 |.int i,.int j=>Da_ (i+j)
 |.str x,.str y=>if dd_+aA_<=big then Et! (x++y) else υ
 |.tup xs,.tup ys=>if j!+ab!<=big then DB_ eL! else υ
 |.lst xs,.lst ys=>if j!+ab!<=big then sM! eL! else υ
 |_,_=>υ
def Su(KF:zE!):R2:=λx y H Q=>Ss (λi j=>.int (i+j)) x y H Q\/((∃i j,x=.str i/\y=.str j/\i.length+j.length<=sizeLine/\Q (.str (i++j)) H)\/(CJ KF x y H Q\/(Zk KF x y H Q\/CK KF x y H Q)))
def aQ:Fi! e2! Su:=d3j.or (a9r.or (c7l.or (c1a.or c7m)))
protected def bO{KF:zE!}:Gt_ Su Ar:=by
 show"!1";delta Ar at e;show"!7"
 .show"!C";exact .inl #[_,_,χ,χ,dt!]
 .show"!|";show"!7"
  .show"!K";exact Er_ #[_,_,χ,χ,cO hl,kg!]
  .rcases e
 .show"!Z";let#[b,ws,rfl,qb,rb]:=bV ry;show"!7"
  .show"!K";let l1:=aL ra;let l2:=aL rb;by_cases hv:vs=[]
   .subst hv;exact JO! (.inl #[a,b,ws,χ,χ,kg_,oT_,k _ G H aL! ?_]);let:(_:d_)=[]:=VW.mp l1;rw[this,QD];exact Aq.tup qb rb
   .exact Dt_ (.inl #[a,b,vs,ws,χ,χ,kg_,oT_,hv,by rw[<-l1,<-l2];exact cO hl,λhw=>?_,λhw p hp=>?_])
    .subst hw;let:(_:d_)=[]:=VW.mp l2;exact k _ G H aL! ?_;rw[this,NP];exact Aq.tup qa ra
    .exact H7_ fz! (eO el! (dL ra rb))
  .rcases e
 .show"#)";let#[b,ws,rfl,qb,rb]:=bS ry;show"!7"
  .show"!K";exact JO! (.inr #[a,b,vs,ws,χ,χ,sub.seq qa,sub.seq qb,by rw[<-aL ra,<-aL rb];exact cO hl,λp hp=>k _ _ _ fz! (cJ el! (dL ra rb))])
  .rcases e
 .rcases e
def Rt(c:tf_)(g:Int->Int->D):D->D->ι D
 |.int i,.int j=>if c i j=τ then ψ bu! else υ
 |_,_=>υ
def a1t{KF:zE!}(hc:∀i j,c i j=τ->C i j)(hg:xp_):Gr KF (rI C gv) (Rt c g):=by
 show"!1";delta Rt at e;show"!7"
 .obtain rfl:=bC rx;obtain rfl:=bC ry;show"!7"
  .rename_i h;rcases e;exact#[_,_,χ,χ,hc _ _ h,xq!]
  .rcases e
 .rcases e
def Hw(g:Int->Int->D):D->D->ι D
 |.int i,.int j=>ψ bu!
 |_,_=>υ
def tW{KF:zE!}(hg:xp_):Gr KF (Ss gv) (Hw g):=by
 show"!1";delta Hw at e;show"!7"
 .show"!C";exact#[_,_,χ,χ,xq!]
 .rcases e
def Ko:D->D->ι D:=Hw λi j=>.int (i - j)
def vS{KF:zE!}:Gr KF ti! Ko:=tW λ_ _ _=>Aq.int
def Xi(i j:Int):Bool:=(decide (-gB!<i)&&decide (i<2 ^ 64))||(decide (-gB!<j)&&decide (j<2 ^ 64))
def d3o{KF:zE!}:Gr KF m0_ (Ga_ Xi (i*j)):=a1t (λi j h=>by
 delta Xi at h;simp![Bool.or_eq_true,NQ,NS]at h;exact h) λ_ _ _=>Aq.int
def d3p{KF:zE!}:Gr KF m1_ (Ga_ xr_ (i%j)):=a1t (λi j h=>by simpa using h) λ_ _ _=>Aq.int
def c7t{KF:zE!}:Gr KF m1! (Ga_ xs! (i / j)):=a1t (λi j h=>by
 simp![NQ,NS]at h;exact h) λ_ _ _=>Aq.int
def d3n{KF:zE!}:Gr KF m2! (Ga_ xt! m2_):=a1t (λi j h=>by
 simp![NQ,NS]at h;exact#[h.1.1,h.1.2,h.2]) λ_ _ _=>Aq.int
def d7i{KF:zE!}:FN! m6! m5_:=tW λ_ _ _=>Aq.bl
def d7j{KF:zE!}:FN! m8! m7_:=tW λ_ _ _=>Aq.bl
def d7k{KF:zE!}:FN! m9! m8_:=tW λ_ _ _=>Aq.bl
def Rx(x y:Str):Bool:=!decide (y.cps.toList<x.cps.toList)
def b6d:Gb X m6_ (Fk_ xt_):=by intro hb s Z H x y v u Q I rx ry h;let#[i,j,rfl,rfl,q]:=h;let#[t,rfl]:=rx;let#[t',rfl]:=ry;exact PySem.P.le_str (eX I q χ)
def Ji:D->Bool
 |.non=>τ
 |_=>θ
def Oa:D->D->ι D
 |x,.non=>Df! (Ji x)
 |_,_=>υ
def yZ{KF:zE!}(r:Dr! d x):decide (x=V.non)=Ji d:=by
 cases d with
 |non=>cases eS r;rfl
 |bl b=>cases dI r;rfl
 |int b=>cases bC r;rfl
 |str b=>cases bP r;rfl
 |tup b=>let#[a,vs,rfl,_]:=bV r;rfl
 |lst b=>let#[a,vs,rfl,_]:=bS r;rfl
 |fn b=>cases gQ r;rfl
 |dk b=>let#[a,rfl,_]:=d2o r;rfl
def a1s{KF:zE!}:Gr KF to! Oa:=by
 show"!1";delta Oa at e;show"!7"
 .show"!m"
 .rcases e
def Bp:D->D->ι D
 |x,.non=>Df! (!Ji x)
 |_,_=>υ
def oJ{KF:zE!}:Gr KF tp_ Bp:=by
 show"!1";delta Bp at e;show"!7"
 .show"!m"
 .rcases e
def Ak:D->D->ι D
 |.tup xs,.int i=>Fs xs i
 |.lst xs,.int i=>Fs xs i
 |.str x,.int i=>if dd_<=big then(Fs x.cps.toList i).map λc=>.str H_ else υ
 |_,_=>υ
def pW{KF:zE!}(r:cI_)(h:Fs ds i=ψ d):∃v,Fs vs i=ψ v/\Dr! d v:=by delta Fs at h ⊢;let#[j,Y,h2]:=LX.mp h;let#[v,h3,h4]:=fX r h2;exact#[v,LX.mpr #[j,by rw[<-aL r];exact Y,h3],h4]
def aN{KF:zE!}:Gt_ IU Ak:=by
 show"!1";delta Ak at e;show"!7"
 .show"!Z";show"#O";exact Er_ #[a,vs,_,v,χ,χ,kg_,Y,xu!]
 .show"#)";show"#O";exact .inl #[a,vs,_,v,χ,χ,sub.seq qa,Y,xu!]
 .obtain rfl:=bP rx;obtain rfl:=bC ry;show"!7"
  .rename_i hl;let#[c,Y,rfl]:=MQ.mp e;exact Dt_ #[_,_,c,χ,χ,cO hl,Y,kg!]
  .rcases e
 .rcases e
def Ei(xs:X!)(lo hi:aB_):μ α:=(xs.drop nN!).take nN_
def a5c{KF:zE!}(r:cI_)(lo hi:aB_):D6_ (Ei ds lo hi) (Va vs lo hi):=by delta Ei Va;rw[aL r];exact rN _ (rP _ r)
end
section
variable{X:Cx}{own:List Nat}{e a b c:Expr}{es:List Expr}{pos p2:Pos}{f fa fb fc:Ae->Option D}{fs:Ae->Option (List D)}{ft fu:Ae->Option Bool}{ol oh:Ae->Option (Option Int)}
inductive DD(KF:zE!)(own:i_)(o:oZ!)(Z:St)(H:Hp)(Q:uC!):Prop
 |mk (G:Hp) (ρ:Ae) (i:aB_) (r:cf!) (e:o ρ=ψ i) (k:∀G' H',DP_ G H->Q i H'):EA_ DD o Z H Q
def Au:Ae->ι o0!:=λ_=>ψ υ
def Ao(f:n_):Ae->ι o0!:=λρ=>(aj!).bind λd=>match d with|.int i=>ψ jx!|_=>υ
def dD:PO X υ (Eb! DD Au):=by rintro hb s Z H Q I ⟨G,ρ,i,er,e,k⟩;rcases e;exact KG_ c7a (k G H hm_)
def cQ(h:ds!):PO X iL! (Eb! DD (Ao f)):=by
 rintro hb s Z H Q I ⟨G,ρ,i,er,e',k⟩;let#[d,e1,e2]:=LX.mp e';exact c6z h.ok hb s Z H Q I #[G,ρ,d,er,e1,λv G' H' s' r'=>?_];cases d<;>first
  |cases e2
  |skip
 obtain rfl:=bC r';exact F3! oN!
def Cu:D->Dl_ Int->Dl_ Int->ι D
 |.tup xs,lo,hi=>if Eb_ 0 lo=0/\Kk! hi=j! then υ else DB_ (Ei xs lo hi)
 |.lst xs,lo,hi=>sM! (Ei xs lo hi)
 |_,_,_=>υ
def Ek(f:n_)(ol oh:oZ!):Ae->ι D:=λρ=>(aj!).bind λd=>(ol ρ).bind λl=>(oh ρ).bind λh=>Cu d l h
def cH{lo hi:Dl_ Expr}(ha:I!)(hl:xv!)(hh:xv_):De! o1_ (Ek fa ol oh):=
 eG (c0m (CU.or d2k c6f) ha.ok hl hh) λZ G H Q ρ d er e k=>by
  show"!6";show"!E";let sub:=s4.sub;delta Cu at e;show"!7"
  .show"!7"
   .rcases e
   .rename_i hw;rcases e;let#[p,vs,rfl,q,rr]:=bV r3;exact .inl #[p,vs,χ,bU sub q,?_,λp hp=>k _ _ _ xx_ (eO el! (a5c rr l h))];rw[<-aL rr];exact hw
  .rcases e;let#[p,vs,rfl,q,rr]:=bS r3;exact .inr #[p,vs,χ,ki!,λp hp=>k _ _ _ xx_ (cJ el! (a5c rr l h))]
  .rcases e
def JQ:D->Value
 |.non=>.type "NoneType"
 |.bl _=>.type "bool"
 |.int _=>.type "int"
 |.str _=>.type "str"
 |.tup _=>.type "tuple"
 |.lst _=>.type "list"
 |.fn _=>.none
 |.dk _=>.none
def IV(KF:zE!)(T:String):μ V->Hp->VK->Prop:=λxs H Q=>∃x d b,xs=[x,.ty T]/\Dr! d x/\I6_ d=ψ b/\(∀a,d≠.fn a)/\(∀a,d≠.dk a)/\Q aH_ H
def c5d:Gk X o2! (IV X.K T):=by
 intro hb s Z H xs us Q I r h;let#[x,d,b,rfl,rx,e,hf,sf,q]:=h;let#[u,w',rfl,r1,r2]:=a4h r;subst r2;let fin:∀tk,DR_ mu! {s with toks:=tk}:=λtk=>#[.bl b,H,I.tok tk,χ,q];cases d with
 |non=>cases eS rx;subst r1;exact DT! W.kitx_none
 |bl y=>cases dI rx;subst r1;exact DT! W.kitx_bool
 |int y=>cases bC rx;let#[t,rfl]:=r1;exact DT! W.kitx_int
 |str y=>cases bP rx;let#[t,rfl]:=r1;exact DT! W.kitx_str
 |tup ys=>
  show"!Z";subst r1;let#[its,_,#[o,Y,h2,_],_]:=DA! qa;exact Is_ W.kitx_tuple
 |lst ys=>
  show"#)";subst r1;let#[its,_,pl,_]:=EK_ qa;let#[o,n,Y,h2,_]:=pl;exact Is_ W.kitx_list
 |fn a=>exact Dl! (hf a)
 |dk a=>exact Dl! (sf a)
def Ym(T:String):D->Dl_ Bool
 |.non=>Jn_ T
 |.bl _=>DG! T T
 |.int _=>JJ_ T
 |.str _=>JK! T
 |.tup _=>Jx! T
 |.lst _=>JC_ T
 |.fn _=>υ
 |.dk _=>υ
structure Yt(KF:zE!)(T:String):Prop where
 ok:∀d b,Ym T d=ψ b->I6_ d=ψ b
def a2r:Kk_ hu!=Jn_ "int":=by decide+kernel
def a6m:Kk_ bA!=DG! "int" "int":=by decide+kernel
def a2v:Kk_ bj_=JJ_ "int":=by decide+kernel
def a2p:Kk_ aW!=JK! "int":=by decide+kernel
def a2n:Kk_ bf_=Jx! "int":=by decide+kernel
def a2t:Kk_ a0!=JC_ "int":=by decide+kernel
def c8q{KF:zE!}:Yt KF "int":=⟨λd b h=>match d,b,h with
 |.non,b,h=>by rcases h;exact a2r
 |.bl _,b,h=>by rcases h;exact a6m
 |.int _,b,h=>by rcases h;exact a2v
 |.str _,b,h=>by rcases h;exact a2p
 |.tup _,b,h=>by rcases h;exact a2n
 |.lst _,b,h=>by rcases h;exact a2t
 |.fn _,b,h=>by rcases h
 |.dk _,b,h=>by rcases h⟩
def yH:Kl! hu!=Jn_ "bool":=by decide+kernel
def a2x:Kl! bA!=DG! "bool" "bool":=by decide+kernel
def yL:Kl! bj_=JJ_ "bool":=by decide+kernel
def yF:Kl! aW!=JK! "bool":=by decide+kernel
def yD:Kl! bf_=Jx! "bool":=by decide+kernel
def yJ:Kl! a0!=JC_ "bool":=by decide+kernel
def c3b{KF:zE!}:Yt KF "bool":=⟨λd b h=>match d,b,h with
 |.non,b,h=>by rcases h;exact yH
 |.bl _,b,h=>by rcases h;exact a2x
 |.int _,b,h=>by rcases h;exact yL
 |.str _,b,h=>by rcases h;exact yF
 |.tup _,b,h=>by rcases h;exact yD
 |.lst _,b,h=>by rcases h;exact yJ
 |.fn _,b,h=>by rcases h
 |.dk _,b,h=>by rcases h⟩
def a2q:Kl_ hu!=Jn_ "str":=by decide+kernel
def a6l:Kl_ bA!=DG! "str" "str":=by decide+kernel
def a2u:Kl_ bj_=JJ_ "str":=by decide+kernel
def a2o:Kl_ aW!=JK! "str":=by decide+kernel
def a2m:Kl_ bf_=Jx! "str":=by decide+kernel
def a2s:Kl_ a0!=JC_ "str":=by decide+kernel
def a3f{KF:zE!}:Yt KF "str":=⟨λd b h=>match d,b,h with
 |.non,b,h=>by rcases h;exact a2q
 |.bl _,b,h=>by rcases h;exact a6l
 |.int _,b,h=>by rcases h;exact a2u
 |.str _,b,h=>by rcases h;exact a2o
 |.tup _,b,h=>by rcases h;exact a2m
 |.lst _,b,h=>by rcases h;exact a2s
 |.fn _,b,h=>by rcases h
 |.dk _,b,h=>by rcases h⟩
def wK:Km! hu!=Jn_ "tuple":=by decide+kernel
def yM:Km! bA!=DG! "tuple" "tuple":=by decide+kernel
def wM:Km! bj_=JJ_ "tuple":=by decide+kernel
def wJ:Km! aW!=JK! "tuple":=by decide+kernel
def wI:Km! bf_=Jx! "tuple":=by decide+kernel
def wL:Km! a0!=JC_ "tuple":=by decide+kernel
def kW{KF:zE!}:Yt KF "tuple":=⟨λd b h=>match d,b,h with
 |.non,b,h=>by rcases h;exact wK
 |.bl _,b,h=>by rcases h;exact yM
 |.int _,b,h=>by rcases h;exact wM
 |.str _,b,h=>by rcases h;exact wJ
 |.tup _,b,h=>by rcases h;exact wI
 |.lst _,b,h=>by rcases h;exact wL
 |.fn _,b,h=>by rcases h
 |.dk _,b,h=>by rcases h⟩
def yG:Km_ hu!=Jn_ "list":=by decide+kernel
def a2w:Km_ bA!=DG! "list" "list":=by decide+kernel
def yK:Km_ bj_=JJ_ "list":=by decide+kernel
def yE:Km_ aW!=JK! "list":=by decide+kernel
def yC:Km_ bf_=Jx! "list":=by decide+kernel
def yI:Km_ a0!=JC_ "list":=by decide+kernel
def c3a{KF:zE!}:Yt KF "list":=⟨λd b h=>match d,b,h with
 |.non,b,h=>by cases h;exact yG
 |.bl _,b,h=>by cases h;exact a2w
 |.int _,b,h=>by cases h;exact yK
 |.str _,b,h=>by cases h;exact yE
 |.tup _,b,h=>by cases h;exact yC
 |.lst _,b,h=>by cases h;exact yI
 |.fn _,b,h=>by cases h
 |.dk _,b,h=>by cases h⟩
def Jn(T:String)(f:n_):Ae->ι D:=λρ=>(aj!).bind λd=>(Ym T d).map D.bl
def jQ(ht:Yt X.K T)(hg:Gl X "isinstance")(hm:X.mg "isinstance"=υ)(xf:V!)(xg:cv_)(hv:Dn! "isinstance"=ψ o2!)(hv2:jn_)(ha:I!)
  (ip:cw!:=by decide)(jr:C!:=by decide)
  (he:Dm! [a,cM!]=dY!::Dm! [cM!]:=by rfl)(nq:Dm! [cM!]=(θ,eval dt_ X.env)::starEach [] X.env:=by rfl)
  (ba:(JO_ (Dm! [cM!])).any d!=false:=by rfl):De! (.Call (.Name "isinstance" p) [a,cM!] [] pos) (Jn T fa):=
 eG (vI c5d hg hm hv (dC ha.ok (dC (c7h (v:=V.ty T) xf xg hv2 χ ip jr) eU nq) he) a_ a_ he ba) λZ G H Q ρ d er e k=>by
  show"!6";let#[b,e2,rfl]:=MQ.mp e;exact JM_ #[v,x,b,χ,r1.mono s1.sub,ht.ok x b e2,xA_,xA_,xc!]
def dJ{KF:zE!}(h:D6_ [d] vs):∃v,vs=[v]/\Dr! d v:=by let#[v,r,rfl,Y,h2]:=bR h;obtain rfl:=cR h2;exact#[v,χ,Y]
def Bw:μ D->ι D
 |[.tup xs]=>Da_ j!
 |[.lst xs]=>Da_ j!
 |[.str x]=>if dd_<=big then Da_ dd_ else υ
 |_=>υ
protected def eZ{KF:zE!}:Md KF xB! Bw:=by
 show"!:";delta Bw at e;show"!7"
 .show"!g";rcases e;exact#[_,_,χ,.inr #[ws,bU sub q,aL rr],dt!]
 .show"!I";rcases e;exact#[_,_,χ,.inl #[ws,ki!,aL rr],dt!]
 .show"!4";obtain rfl:=bP rv;show"!7"
  .show"!K";exact#[_,_,χ,#[cO hl,χ],dt!]
  .rcases e
 .rcases e
def BW:μ D->ι D
 |[.int i]=>Da_ i1_
 |_=>υ
def d5r{KF:zE!}:Md KF tw_ BW:=by
 show"!:";delta BW at e;show"!7"
 .show"!4";obtain rfl:=bC rv;rcases e;exact F3! dt!
 .rcases e
def EE:μ D->ι D
 |[.str x]=>if dd_=1 then ψ ty! else υ
 |_=>υ
protected def d5q{KF:zE!}:Md KF ty_ EE:=by
 show"!:";delta EE at e;show"!7"
 .show"!4";obtain rfl:=bP rv;show"!7"
  .show"!K";exact#[_,χ,hl,dt!]
  .rcases e
 .rcases e
def Me:μ D->ι D
 |[.lst xs]=>ψ aO!
 |[.tup xs]=>ψ aO!
 |_=>υ
def xJ{KF:zE!}:Md KF (KT! KF KF) Me:=by
 show"!:";delta Me at e;show"!7"
 .show"!I";cases e;exact#[a,ws,χ,.inl #[ki!,λp hp=>k _ _ _ fz! (eO el! rr)]]
 .show"!g";cases e;exact#[a,ws,χ,.inr #[bU sub q,k _ G H aL! rv]]
 .cases e
def Zz:μ D->ι D
 |[.lst xs]=>ψ H!
 |[.tup xs]=>ψ H!
 |_=>υ
def d0c{KF:zE!}:Md KF xD! Zz:=by
 show"!:";delta Zz at e;show"!7"
 .show"!I";cases e;exact#[a,ws,χ,.inl o4!,xD_]
 .show"!g";cases e;exact#[a,ws,χ,.inr hv_,xD_]
 .cases e
def uQ:∀{bs:kj!} {us:o!},Ax (bs.map V.bl) us->us=bs.map Value.bool
 |[],_,.nil=>rfl
 |b::bs,_,.cons r t=>by subst r;rw[uQ t];rfl
def FT(KF:zE!):μ V->Hp->VK->Prop:=λxs H Q=>∃(p:yJ!) (bs:kj!),xs=fh_/\FW! p (bs.map V.bl)/\EA! o5_
def b8d:∀(bs:kj!),((Ee! bs.length).all λi=>(bs[i]?).getD τ)=bs.all id:=λbs=>by
 rw[RE,QM,QM];show"!i"
 .intro h x hx;let#[i,hi,rfl]:=OZ.mp hx;let:=h i (RQ.mpr hi);simpa[hi]using this
 .intro h i hi;let d7:=RQ.mp hi;simpa[d7]using h bs[i] (QL d7)
def xK(hc:az!):Gk X xE! (FT X.K):=by
 intro hb s Z H xs us Q I r h;let#[p,bs,rfl,hq,q]:=h;let#[u,rfl,r1]:=iT r;subst r1;let#[its,rv,pl,hz]:=EK_ hq;let e:=uQ rv;subst e;let hl:=pl.isList;let ar:p<k_:=by let#[_,e,_]:=hl;exact NN e
 exact call_all_walk (TQ hl ?_);exact⟨k_,[k_,p],[k_],(kk!).toArray.size,_,_,λi=>(bs[i]?).getD τ,χ,Walks.list (A:=X.A.in1) aV! _ p (NX ar) (kk!).toArray,
  #[dV!,hl.push _],λi v s' Q' E' hP hQ=>?_,λh' tk hk=>?_⟩
 .let YY:kk![i]?=ψ v:=by simpa using hP
  rw[OC]at YY;let#[b,J,rfl]:=MQ.mp YY;simp![J,Option.getD_some]at hQ;exact OT hQ
 .let e:((List.range (kk!).toArray.size).all λi=>(bs[i]?).getD τ)=bs.all id:=by
   rw[MN,MJ];exact b8d bs
  rw[e];exact#[.bl _,H,I.kept λb x ex=>hk b x (λhm=>by rw[NB.mp hm]at ex;exact QQ _ (NN ex)) (MC _ ex),χ,q]
def Jo:μ D->JP! Bool
 |[]=>ψ []
 |.bl b::r=>(Jo r).map (b::·)
 |_=>υ
def Vb:μ D->ι D
 |[.lst xs]=>(Jo xs).map λbs=>.bl o5_
 |_=>υ
def zA{KF:zE!}:∀{ds:d_} {vs:s_} {bs:kj!},Da! H->Jo ds=ψ bs->vs=bs.map V.bl
 |[],vs,bs,r,e=>by obtain rfl:=cR r;rcases e;rfl
 |d::ds,vs,bs,r,e=>by
  let#[v,t,rfl,r1,r2]:=bR r;cases d<;>first|cases e|skip
  let#[bs',e1,rfl]:=MQ.mp e;obtain rfl:=dI r1;rw[zA r2 e1];rfl
def b1s{KF:zE!}:Md KF (FT KF) Vb:=by
 show"!:";delta Vb at e;show"!7"
 .show"!I";let#[bs,e1,rfl]:=MQ.mp e;let:=zA rr e1;subst this;exact#[a,bs,χ,ki!,em!]
 .rcases e
end
def AQ(KF:zE!)(al:It)(ds:d_)(G1:Hp):Prop:=∀(i:δ) (G' H':Hp),Bb G1 G'->Bb G' H'->
 xF!/\xF_
inductive JT(KF:zE!)(own:i_)(fi:a2!)(Z:St)(H:Hp)(R:iP!):Prop
 |mk (G:Hp) (ρ:Ae) (ds:d_) (o:cf!) (e:fi ρ=ψ ds) (k:∀al G1 H1,Bs G H G1 H1->HE! al ds->R al H1):EA_ JT fi Z H R
structure DI(X:Cx)(own:i_)(tg iter:Expr)(fi:a2!):Prop where
 ok:Ha_ iter (Eb! JT fi)
section
variable{X:Cx}{own:List Nat}{e a b c tg:Expr}{es:List Expr}{pos p2:Pos}{f fa fb fc:Ae->Option D}{fs fi:Ae->Option (List D)}{ft fu:Ae->Option Bool}
def a0k(h:Ha_ e wi)(hw:∀Z G H R ρ ds,JJ! G->fi ρ=ψ ds->(∀al G1 H1,Bs G H G1 H1->AQ X.K al ds G1->R al H1)->wi Z H R):EU_ DI e fi:=#[by rintro hb s Z H R I ⟨G,ρ,ds,er,e,k⟩;exact h hb s Z H R I (hw Z G H R ρ ds er e k)]
def Ce(f:n_):Ae->ι aK!:=λρ=>(aj!).bind λd=>match d with|.lst xs=>ψ xs|_=>υ
def Ru(f:n_):Ae->ι aK!:=λρ=>(aj!).bind λd=>match d with|.tup xs=>ψ xs|_=>υ
def a6t{KF:zE!}{ad:yJ!}(q:El KF G1 ad vs)(r:o7_):HE! (JK KF ad) ds:=by intro i G' H' s1 s2;let q':El KF H' ad vs:=s2.seq (s1.seq q);exact xG_;let#[v,Y,h2]:=fX r hd;exact xH!;let#[e1,e2]:=hy;subst e1;let:=e2 vs q';rw[Y]at this;rcases this;exact xH_
def c8o{KF:zE!}{G1:Hp}{ad:yJ!}(q:Fd KF G1 ad vs)(r:o7_):HE! (JJ KF ad) ds:=by intro i G' H' s1 s2;let q':H6_ ad vs:=H8! q;exact xG_;let#[v,Y,h2]:=fX r hd;exact xH!;let#[e1,e2]:=hy;subst e1;let:=e2 vs q';rw[Y]at this;cases this;exact xH_
def eA(h:I!):Kx_ DI Ce:=a0k (b3c h.ok) λZ G H R ρ ds er e k=>by
 let#[d,e1,e2]:=LX.mp e;cases d<;>first|cases e2|skip
 exact cg_;let#[p,vs,rfl,q,rr]:=bS r1;exact#[p,χ,#[vs,s1.sub.seq q],k _ G1 H1 s1 (a6t q rr)]
def c4k(h:I!):Kx_ DI Ru:=a0k (d2w h.ok) λZ G H R ρ ds er e k=>by
 let#[d,e1,e2]:=LX.mp e;cases d<;>first|cases e2|skip
 exact cg_;let#[p,vs,rfl,q,rr]:=bV r1;exact#[p,χ,#[vs,bU s1.sub q],k _ G1 H1 s1 (c8o q rr)]
def Cz(n:δ):μ D:=(o8_).map λi=>.int (i:δ)
def Ez(f:n_):Ae->ι aK!:=λρ=>(aj!).bind λd=>match d with|.int j=>if -1000<=j/\j<=100000 then ψ (Cz j.toNat)else υ|_=>υ
def b7h{KF:zE!}:HE! (GQ 0 n) (Cz n):=by intro i G' H' s1 s2;delta Cz;exact xJ!;rw[OC]at hd;let#[j,hj,rfl]:=MQ.mp hd;let#[hl,he]:=NH.mp hj;rw[XE]at he;subst he;rw[PX]at hl;exact#[hl,fB_];let#[e1,e2]:=hy;subst e1 e2;exact#[G',kk_,?_];rw[Int.zero_add];exact Aq.int
def fZ(hg:iR_)(hm:iS!)(h:I!)(hs:s0_:=by rfl)(bw:em_:=by rfl):
  DI X own tg s2_ (Ez fa):=a0k (b5x hg hm (dC h.ok eU bw) hs) λZ G H R ρ ds er e k=>by
 let#[d,e1,e2]:=LX.mp e;cases d<;>first|cases e2|skip
 rename_i j;let e3:(if -1000<=j/\j<=100000 then ψ (Cz j.toNat)else υ)=ψ ds:=e2;split at e3
 .rename_i hj;rcases e3;exact cg_;obtain rfl:=bC r1;exact#[j,χ,o_,o_,k _ G1 H1 s1 b7h]
 .rcases e3
def Cg(bnd:bV!)(ft:bz_)(fe:n_)(ρ:Ae):μ D->Dl_ aK!
 |[]=>ψ []
 |d::ds=>(km!).bind λap=>(ft ap).bind λb=>if b then(fe ap).bind λy=>(EM! ρ).map km_ else EM! ρ
def GD(KF:zE!)(g:TG)(bnd:bV!):Prop:=∀{x:V} {d:D} {Z:St} {G H:Hp} {ρ ap:Ae} {Q:iL_},Fy! Z ρ->DZ! G x->bnd d ρ=ψ ap->(∀fg,OR KF [] G H fg ap->Le ρ ap->Q fg H)->g x Z H Q
def Am(i:δ):D->Ae->ι Ae:=λd ρ=>match ρ[i]? with|some none=>ψ bR!|_=>υ
def cB{KF:zE!}(i:δ):GD KF eX_ (Am i):=by
 intro x d Z G H ρ ap Q er r e k;delta Am at e;show"!7"
 .rename_i h;rcases e;exact k _ (er.set nofun r) ((Le.refl ρ).set h)
 .rcases e
def Rc(i j:δ):D->Ae->ι Ae:=λd ρ=>match d with
 |.tup [x,y]=>(Am i x ρ).bind λap=>Am j y ap
 |_=>υ
def Le.trans(a:Le ρ ap)(b:Le ap bi):Le ρ bi:=#[a.1.trans b.1,λi d h=>b.2 i d (a.2 i d h)]
def c9b{KF:zE!}(i j:δ):GD KF xL! (Rc i j):=by
 intro x d Z G H ρ ap Q er r e k;delta Rc at e;show"!7"
 .let#[bi,e1,e2]:=LX.mp e;show"!c";show"!8";exact#[p,[v1,v2],χ,bU er.sub q,χ,v1,[v2],χ,?_];exact cB i er r1 e1 λfg nr l1=>#[v2,[],χ,?_];exact cB j nr r2 e2 λdu dq l2=>#[χ,k du dq (l1.trans l2)]
 .rcases e
def Bq(nl:δ)(ix:i_)(fi:a2!)(bnd:bV!)(ft:bz_)(fe:n_):Ae->ι D:=λρ=>(fi ρ).bind λds=>if g_<=big then(EM! oJ_).map D.lst else υ
def d5p{KF:zE!}{Fin:c7!}
  (J:g_<=big)(gf:xM!)(hg:GD KF g bnd)(er:OR KF [] G1 H1 xh nv)(e:EM! nv=ψ jy)(k:∀ys G' H',DP_ G1 H1->Hd_ jy->Fin ys H'):
  Xq al g (DC KF [] ft) (tD KF [] fe) Fin xh H1:=by
 exact⟨λi m ys ac H'=>i<=g_/\m=g_ - i/\∃G' ws r,DP_ G1 H1/\OR KF [] G' H' ac nv/\Hd_ ws/\cb!<=i/\Cg bnd ft fe nv (H8_ i)=ψ r/\ws++r=jy,
  #[g_,OA _,χ,G1,[],jy,Bs.refl er.sub,er,Al.nil,OA _,e,χ],?_⟩
 rintro i m ys ac H' ⟨hi,rfl,G',ws,r,x,de,a7,hw,dq,et⟩;exact xO!;let#[ny,nz]:=gf i G' H' x.g de.sub;by_cases ar:i<g_
 .right;let hd:ds[i]?=ψ ds[i]:=by simp[ar]
  let xi:=QR ar;rw[xi]at dq;delta Cg at dq;let#[ap,e1,dq]:=LX.mp dq;let#[b,e2,dq]:=LX.mp dq;let#[go,yl]:=ny _ hd;exact#[go,ko!];let#[G2,x2,r2]:=yl v H2 hy;exact hg (de.grow x2) r2 e1 λfg nr sj=>#[G2,ap,b,nr,e2,λG3 H3 x3=>?_];let km:=nr.grow x3;let lp:=x.trans (x2.trans x3);cases b with
  |true=>
   let#[y,e3,dq]:=LX.mp dq;let#[zs,e4,rfl]:=MQ.mp dq;exact nM #[G3,ap,y,km,e3,λu G4 H4 x4 r4=>#[_,?_,ar,χ,G4,ws++[y],zs,lp.trans x4,(km.grow x4).le sj,?_,?_,e4,?_]]
   .omega
   .exact dL xP_ (DK_ r4)
   .rw[MH,QS];omega
   .rw[OE];exact et
  |false=>
   exact nN #[_,?_,ar,χ,G3,ws,r,lp,km.le sj,(pc!).mono x3.g,o_,dq,et];omega
 .left;let ja:i=g_:=by omega
  exact#[nz ja,k ys G' H' x ?_];rw[ja,WB]at dq;rcases dq;rw[NP]at et;subst et;exact a7
def fI
  (db:dp_)(cx:dq!)(kj:∀y∈cc_,y.2=.local->scope.names.lookup y.1=D4! ψ)
  (io:hj!)(cap:dp!)(og:j6!)(calm:az!)(ax:EU_ DI iter fi)
  (hg:hj_)(oj:pd_)(hi:∀cl C av bf fp,ID! xQ!)(he:∀cl C av bf fp,DE cd! [] fm fe)
  (hs:db_:=by intro _;rfl):
  DE X own hg! (Bq NL.length ix fi bnd ft fe):=
 eG xR! λZ G H Q ρ d er e k=>by
  show"!P"
  .rename_i J;let#[jy,e2,rfl]:=MQ.mp e;exact#[G,ρ,ds,er,e1,xR_];exact d5p J gf oj ((er.grow x1).cap NL.length ix og) e2 λys G' H' x r p hp=>?_;exact H7_ (x1.trans (x.trans hy!)) (cJ pe_ r)
  .rcases e
def mD:Pg X [] (DC X.K [] λ_=>ψ τ):=by rintro hb s Z H Q I ⟨G,ρ,b,er,e,k⟩;rcases e;exact KG_ a5k (k G H hm_)
def d1e(h:DT X [] c ft):Pg X [c] xQ!:=a5j h.ok
end
inductive Fl where
 |nx (ρ:Ae)|rt (d:D)
structure SR(KF:zE!)(own:i_)(G0 F0 G H:Hp)(Z:St)(ρ:Ae):Prop where
 or:Ke_ G H
 ext:Bs G0 F0 G H
 fr:∀i∈own,∀p,Z[i]?=ψ ce_->F0 p=υ
inductive GY(KF:zE!)(G0 F0:Hp)(own c9:i_)(f:cO!)(E:Yu)(Z:St)(H:Hp):Prop
 |mk (G:Hp) (ρ:Ae) (r:Fl) (o:fE_) (e:f ρ=ψ r) (k:match(generalizing:=false) r with
  |.nx ρ'=>∀G' ac H',SR KF c9 G0 F0 G' H' ac ρ'->E.nx ac H'
  |.rt d=>∀v G' H',DP_ G0 F0->DZ! G' v->E.rt v H'):GY KF G0 F0 own c9 f E Z H
structure DS(X:Cx)(own c9:i_)(st:Stmt)(f:cO!):Prop where
 ok:∀G0 F0,PS X st xS_
structure Yx(X:Cx)(own c9:i_)(st:iF_)(f:cO!):Prop where
 ok:∀G0 F0,Vc X st xS_
section
variable{X:Cx}{own bg jz:List Nat}{st:Stmt}{rest body:List Stmt}{e a b c tg:Expr}{es:List Expr}{pos p2:Pos}{f fa fb fc:Ae->Option D}{fs fi:Ae->Option (List D)}{ft fu:Ae->Option Bool}{q1 q2 q3:Ae->Option Fl}
def d1v(h:iK!)(hw:∀G0 F0 E Z G H ρ r,Eb! SR G0 F0 G H Z ρ->q1 ρ=ψ r->(match r with
  |.nx ρ'=>∀G' ac H',SR X.K bg G0 F0 G' H' ac ρ'->E.nx ac H'
  |.rt d=>∀v G' H',DP_ G0 F0->EK! G'->E.rt v H')->t E Z H):DH_ DS st q1:=#[by rintro G0 F0 hb s Z H E I ⟨G,ρ,r,er,e,k⟩;exact h hb s Z H E I (hw G0 F0 E Z G H ρ r er e k)]
def SR.grow{KF:zE!}(s:fE_)(x:j5_):JW! G0 F0:=#[s.or.grow x,s.ext.trans x,s.fr]
def SR.set{KF:zE!}(s:fE_)(hi:bi!)(r:cJ_):EA_ SR G0 F0 G H eQ_ bR!:=
 ⟨s.or.set hi r,s.ext,λj hj p e=>by
  let ne:i≠j:=λz=>IE! z;rw[NZ ne]at e;exact s.fr j hj p e⟩
def Em:Ae->ι Fl:=λρ=>ψ ab_
nonrec def sSeq(q1 q2:cO!):Ae->ι Fl:=λρ=>(q1 ρ).bind λr=>match r with|.nx ρ'=>q2 ρ'|.rt d=>ψ ac!
def dG:Eh_ Yx [] Em:=⟨by
 rintro G0 F0 hb s Z H E I ⟨G,ρ,r,er,e,k⟩;rcases e;exact DC! b2y E I (k G Z H er)⟩
def aX(Y:xT!)(h2:Yx X bg jz rest q2):Yx X own jz mE! (sSeq q1 q2):=⟨by
 rintro G0 F0 hb s Z H E I ⟨G,ρ,r,er,e,k⟩;exact a5i pg_ (h2.ok G0 F0) hb s Z H E I ?_;let#[r1,e1,e2]:=LX.mp e;exact#[G,ρ,r1,er,e1,?_];cases r1 with
 |nx ρ'=>exact λG' ac H' de=>#[G',ρ',r,de,e2,k]
 |rt d=>
  rcases e2;exact k⟩
def aW(Y:xT!):DH_ Yx [st] q1:=#[λG0 F0=>b2x pg_]
def SR.free{KF:zE!}(s:fE_):SR KF [] G0 F0 fu_ H Z ρ:=by
 let o:=s.or.full;exact#[o,#[j4_,s.ext.h,o.sub,bh_],au!]
 .let z:=s.ext.g b u e;delta Kg;split
  .exact IF! z
  .exact z
 .delta Kg at h;split at h
  .rename_i J;let#[i,hi,q]:=oK J;exact .inr (s.fr i hi b q)
  .exact s.ext.new b h
def a7m(h:Yx X [] jz rest q1):Yx X own jz rest q1:=#[by rintro G0 F0 hb s Z H E I ⟨G,ρ,r,er,e,k⟩;exact h.ok G0 F0 hb s Z H E I #[_,ρ,r,er.free,e,k]]
def Bh(f:n_):Ae->ι Fl:=λρ=>(aj!).map Fl.rt
def bK(h:ds!):DH_ DS mF! (Bh f):=d1v (c0b h.ok) λG0 F0 E Z G H ρ r er e' k=>by
 let#[d,e1,rfl]:=MQ.mp e';exact#[G,ρ,d,er.or,e1,λv G' H' x r=>k v G' H' (er.ext.trans x) r]
def Dj(i:δ)(f:n_):Ae->ι Fl:=λρ=>(aj!).map λd=>.nx bR!
def eM(hN:br!)(hi:ao!)(hx:br_)(h:ds!)(bx:bi!:=by decide)(hs:xU!:=by rfl)
  (hf:X.fn x=τ\/CG! x=D4! some:=by first|exact .inl χ|exact .inr χ|assumption):Eh_ DS xV! (Dj i f):=
 d1v xU_ λG0 F0 E Z G H ρ r er e' k=>by
  let#[d,e1,rfl]:=MQ.mp e';exact#[G,ρ,d,er.or,e1,λv G' H' x r=>k G' _ H' ((hz!).set bx r)]
def Ii(ft:bz_)(q1 q2:cO!):Ae->ι Fl:=λρ=>(ho_).bind λb=>if b then q1 ρ else q2 ρ
def fQ(hc:Ee_ DT c)(Y:DH_ Yx b1 q1)(h2:DH_ Yx b2 q2):DH_ DS xW! (Ii ft q1 q2):=⟨by
 rintro G0 F0 hb s Z H E I ⟨G,ρ,r,er,e',k⟩;exact d1c hc.ok pg_ (h2.ok G0 F0) hb s Z H E I ?_;let#[x,e1,e2]:=LX.mp e';exact#[G,ρ,x,er.or,e1,λG' H' x'=>?_];cases x with
 |true=>exact nM xW_
 |false=>exact nN xW_⟩
def Sq(i:δ)(fs:a2!):Ae->ι Fl:=λρ=>(fx_).bind λds=>if g_<=1000 then DM_ pj_ else υ
def SR.ownNew{KF:zE!}(s:fE_)(hi:bi!)(hl:i<gn!)(r:kr!)(hp:cJ!):
  SR KF (i::own) G0 F0 G j3! (Z.set i ce_) pj_:=by
 let xk:i<j5!:=by rw[s.or.len];exact hl
 let xm:Bb H j3!:=jC hp;show"#9";exact#[#[xX_,by rw[RB,RB,s.or.len],xY!,kr_,λj hj k hk be a b e1 e2=>?_],#[s.ext.g,s.ext.h.trans xm,xX_,s.ext.new],λj hj a e=>?_]
 .let dr:i≠j:=λz=>n (AT! z MB);rw[NZ dr]at q ⊢;exact s.or.at_ j d q λz=>n (LY _ z)
 .obtain z|z:=MD.mp hj
  .subst z;exact#[p,ds,vs,by rw[PR xk],by rw[PR hl],cC,s.or.sub.free hp,r]
  .let dr:i≠j:=λy=>hi (y▸z);let#[a,qg,gr,Y,h2,h3,h4,h5]:=Gb! j z;exact#[a,qg,gr,by rw[NZ dr];exact Y,by rw[NZ dr];exact h2,by rw[bB (ne h3)];exact h3,h4,h5]
 .let look:∀{j:δ} {a:yJ!},j∈i::own->(Z.set i ce_)[j]?=Es_ fs_->(j=i/\a=p)\/(j≠i/\j∈own/\Z[j]?=ψ (ψ fs_)/\a≠p):=λ{j a} hj e=>by
   by_cases dr:i=j
   .subst dr;rw[PR hl]at e;cases e;exact .inl az_
   .rw[NZ dr]at e;let hm:=(MD.mp hj).elim xZ! id;let#[a',qg,gr,Y,h2,h3,h4,h5]:=Gb! j hm;rw[e]at h2;cases h2;exact .inr #[OB dr,hm,e,ne h3]
  obtain⟨z1,z2⟩|⟨z1,z2,z3,z4⟩:=look hj e1
  .obtain⟨y1,y2⟩|⟨y1,y2,y3,y4⟩:=look hk e2
   .exact Df_ (z1.trans y1.symm) be
   .rw[z2];exact OB y4
  .obtain⟨y1,y2⟩|⟨y1,y2,y3,y4⟩:=look hk e2
   .rw[y2];exact z4
   .exact s.or.dis j z2 k y2 be a b z3 y3
 .by_cases dr:i=j
  .subst dr;rw[PR hl]at e;cases e;exact s.ext.h.free hp
  .rw[NZ dr]at e;exact s.fr j ((MD.mp hj).elim xZ! id) a e
def pN{p3 p4:Pos}(hN:br!)(hi:ao!)(hx:br_)(h:kb!)(bx:bi!:=by decide)
  (hf:X.fn x=τ\/CG! x=D4! some:=by first|exact .inl χ|exact .inr χ|assumption)(bv:swapsWith pl_ (ψ (.Name x p3)) p4.line X.env=pure false:=by rfl):DS X own (i::own) (.Assign [.Name x p3] pl_ p4) (Sq i fs):=⟨by
  rintro G0 F0 hb s Z H E I ⟨G,ρ,r,er,e',k⟩;exact a9l hN hi hx kc_ bv hf hb s Z H E I ?_;let hl:i<gn!:=by rw[I.len];exact(NH.mp hi).1
  let#[ds,e1,e2]:=LX.mp e';split at e2
  .rename_i bj;rcases e2;exact#[G,ρ,ds,er.or,e1,λvs G' H' x r=>#[by rw[<-aL r];exact fN bj,λp hp=>k G' _ _ ((hz!).ownNew bx hl r hp)]]
  .rcases e2⟩
def SR.upd{KF:zE!}(s:fE_)(hi:ej_)(hp:wN_)(r:kr!):
  SR KF own G0 F0 G j3! Z pj_:=by
 let#[p',qg,gr,Y,h2,h3,h4,h5]:=Gb! i hi;rw[hp]at h2;cases h2;let hG:∀{b u},G b=ψ u->b≠p:=λe=>cP e h4;let hF:∀{b u},F0 b=ψ u->b≠p:=λe=>cP e (s.fr i hi p hp);let xk:=(ks_).1;exact#[#[x0!,by rw[RB,s.or.len],xY!,kr_,s.or.dis],#[s.ext.g,λb u e=>by rw[bB (hF e)];exact s.ext.h b u e,x0!,s.ext.new],s.fr]
 .let dr:i≠j:=λz=>n (z▸hi);rw[NZ dr]at q;exact s.or.at_ j d q n
 .by_cases dr:i=j
  .subst dr;exact#[p,ds,vs,by rw[PR xk],hp,cC,h4,r]
  .let#[a,ds2,vs2,g1,g2,g3,g4,g5]:=Gb! j hj;let ne:=OB (s.or.dis i hi j hj dr p a hp g2);exact#[a,ds2,vs2,by rw[NZ dr];exact g1,g2,by rw[bB ne];exact g3,g4,g5]
def Qg(i:δ)(f:n_):Ae->ι Fl:=λρ=>(aj!).bind λd=>match ρ[i]? with|some (some (.lst ds))=>if g_<big then ψ x3! else υ|_=>υ
def sM(bx:ej_:=by decide)(h:ds!)(hN:ao!:=by rfl)(hv:c8!:=by first|exact Or.inl χ|exact Fj! e!|exact Fj! aK_)
  (hd:C!:=by decide)(cb:c8_:=by decide)
  (bp:hA!:=by rfl)(cz:(EL_ jL!&&DY_ bg_
   &&decide x3_)=true:=by rfl) (c8:bO!:=by rfl)
  (cy:De_ bl! "append" ku!=Dq_ bl!:=by rfl) (b9:dw!:=by rfl) (ky:Dn_ x4! υ=pure false:=by rfl):
  DS X own own (Ha! x4!) (Qg i f):=⟨by
  rintro G0 F0 hb s Z H E I ⟨G,ρ,r,er,e',k⟩;exact Ky! (D8_ j6_ x5!);let#[d,e1,e2]:=LX.mp e';let#[p,ds,vs,Y,h2,h3,h4,h5]:=H9! i;rw[Y]at e2;simp only at e2;split at e2
  .rename_i hl;rcases e2;exact#[fG!,h2,pn_,G,ρ,d,er.or,e1,λv G' H' x r=>#[p,vs,v,χ,χ,x.h _ _ h3,?_,?_]]
   .rw[<-aL h5];exact NK hl ku_
   .exact k G' Z _ ((hz!).upd bx h2 (dL po! (DK_ r)))
  .rcases e2⟩
def Wa(i:δ)(fx fv:n_):Ae->ι Fl:=λρ=>(fv ρ).bind λd=>(fx ρ).bind λx=>match x,ρ[i]? with|.int j,some (some (.lst ds))=>(po_).map λk=>.nx x6_|_,_=>υ
def c4f(bx:ej_:=by decide)(hx:x7!)(hv:De! e fv)(hN:ao!:=by rfl)(xn:c8!:=by first|exact Or.inl χ|exact Fj! e!|exact Fj! aK_)
  (hd:C!:=by decide)(cb:c8_:=by decide)
  (ha:∀v,assign x7_ X.env v=(do
   let ov <-holding [v] ku!
   let iv <-holding [v,ov] (eval ix X.env)
   standAt p2
   holding eY! mI!
   release eY! []):=by intro _;rfl)
  (hs:Ez_ kw!=pure false:=by rfl) (hw:Fu! kw!=pure none:=by rfl)
  (Y:DK! kw!=[assign x7_ X.env]:=by rfl):
  DS X own own (EC_ kw! e) (Wa i fx fv):=⟨by
  rintro G0 F0 hb s Z H E I ⟨G,ρ,r,er,e',k⟩;exact c0d hv.ok (c0i x8! hx.ok a4u ha) hs hw Y hb s Z H E I ?_;let#[d,e1,e2]:=LX.mp e';let#[z,e3,e4]:=LX.mp e2;let#[p,ds,vs,Y,h2,h3,h4,h5]:=H9! i;rw[Y]at e4;cases z<;>first|cases e4|skip
  rename_i j;let#[n,e5,rfl]:=MQ.mp (show(po_).map _=ψ r from e4);exact#[G,ρ,d,er.or,e1,λv G' H' x r=>#[fG!,h2,G',ρ,e0!,er.or.grow x,e3,x9!]];obtain rfl:=bC r2;exact#[p,vs,j,n,χ,χ,x9_,by rw[<-aL h5];exact e5,?_];exact JE! (vD (r.mono x2.g) n ((po!).mono x2.g))⟩
def Lf(i:δ)(fx:n_):Ae->ι D:=λρ=>(fx ρ).bind λx=>match x,ρ[i]? with|.int j,some (some (.lst ds))=>Fs ds j|_,_=>υ
def sN(bx:ej_:=by decide)(hx:x7!)(hs:Ps ix)(hN:ao!:=by rfl)(xn:c8!:=by first|exact Or.inl χ|exact Fj! e!|exact Fj! aK_)
  (hd:C!:=by decide)(cb:c8_:=by decide):De! (JI_ bl! ix) (Lf i fx):=
 eG (c0r b4c x8! hx.ok hs) λZ G H Q ρ d er e k=>by
  let#[z,e3,e4]:=LX.mp e;let#[p,ds,vs,Y,h2,h3,h4,h5]:=er.own_ i bx;rw[Y]at e4;cases z<;>first|cases e4|skip
  rename_i j;let e5:=e4;let#[v,e6,r6]:=pW h5 e5;exact#[fG!,h2,G,ρ,e0!,er,e3,x9!];obtain rfl:=bC r2;exact#[p,vs,j,v,χ,χ,El.of (x2.h _ _ h3),e6,k v G2 H2 x2 (r6.mono x2.g)]
def Ol(bnd:bV!)(q:cO!):μ D->Ae->Dl_ Fl
 |[],ρ=>ψ ab_
 |d::ds,ρ=>(km!).bind λap=>(q ap).bind λr=>match r with|.nx bi=>Ol bnd q ds bi|.rt d=>ψ ac!
def Wb(fi:a2!)(bnd:bV!)(q:cO!):Ae->ι Fl:=λρ=>(fi ρ).bind λds=>Ol bnd q ds ρ
def Rb(F0 G1:Hp):Hp:=λb=>match F0 b with|some o=>ψ o|none=>G1 b
def SR.base{KF:zE!}(s:EA_ SR G0 F0 G1 H1 Z ρ):EA_ SR G1 hC! G1 H1 Z ρ:=by
 exact#[s.or,#[Bb.refl _,j4_,s.or.sub,cS!],yb_]
 .delta Rb at e;show"!7"
  .rename_i o ho;rcases e;exact s.ext.h b _ ho
  .exact IF! e
 .let#[p',ds,vs,Y,h2,h3,h4,h5]:=Gb! i hi;rw[e]at h2;cases h2;delta Rb;rw[GW_ s.fr];exact h4
def xB(x:yc_)(y:DP_ G1 hC!):DP_ G0 F0:=by
 exact#[x.g.trans y.g,λb u e=>y.h b u ?_,y.sub,bh_]
 .delta Rb;rw[e]
 .obtain z|z:=y.new b h
  .exact x.new b z
  .right;delta Rb at z;split at z
   .rcases z
   .assumption
def SR.unbase{KF:zE!}(x:yc_)(s:JW! G1 hC!):JW! G0 F0:=
 ⟨s.or,xB x s.ext,λi hi p e=>by
  let z:=GW_ s.fr;delta Rb at z;split at z
  .rcases z
  .assumption⟩
def Cb(i:δ):D->Ae->ι Ae:=λd ρ=>ψ bR!
def b1f(hp:gv_)(hc:az!)(ax:DI X own dt_ iter fi)(hN:br!)(hi:ao!)(hx:br_)(J:Eh_ Yx body q1)(bx:bi!:=by decide)
  (hf:X.fn x=τ\/CG! x=D4! some:=by first|exact .inl χ|exact .inr χ|assumption)(hs:db_:=by intro _;rfl):
  DS X own own (.For dt_ iter body [] pos) (Wb fi (Cb i) q1):=⟨by
 rintro G0 F0 hb s Z H E I ⟨G,ρ,r,er,e',k⟩;let#[ds,e1,e2]:=LX.mp e';let j0:Ix_ (λE Z H=>∃A B,GY X.K A B own own q1 E Z H):=by rintro hb s Z H E I ⟨A,B,h⟩;exact J.ok A B hb s Z H E I h
 exact F3_ (aY hN hi hx hf) #[G,ρ,ds,er.or,e1,xR_];let YZ:=er.ext.trans x1;exact⟨λn m ac H'=>n<=g_/\m=g_ - n/\∃G' ρ',Eb! SR G1 hC! G' H' ac ρ'/\Ol (Cb i) q1 oE_ ρ'=ψ r,
  #[g_,OA _,χ,G1,ρ,(er.grow x1).base,e2],?_⟩
 rintro n m ac H' ⟨hn,rfl,G',ρ',de,e3⟩;let#[ny,nz]:=gf n G' H' de.ext.g de.or.sub;by_cases ar:n<g_
 .right;let hd:ds[n]?=ψ ds[n]:=by simp[ar]
  let xi:=QR ar;rw[xi]at e3;delta Ol at e3;let#[ap,e4,e3]:=LX.mp e3;let#[r1,e5,e3]:=LX.mp e3;rcases e4;let#[go,yl]:=ny _ hd;exact#[go,λdu H2=>∃G2 bi,SR X.K own G1 hC! G2 H2 du bi/\Ol (Cb i) q1 (H8_ bm!) bi=ψ r,by rintro du H2 ⟨G2,bi,Y,h2⟩;exact#[g_ - bm!,o_,ar,χ,G2,bi,Y,h2],ko!];let#[G2,x2,r2]:=yl v H2 hy;exact#[G1,Rb F0 G1,G2,_,r1,(de.grow x2).set bx r2,e5,?_];cases r1 with
  |nx bi=>exact λG3 ic H3 km=>#[G3,bi,km,e3]
  |rt d=>
   rcases e3;exact λw G3 H3 x3 r3=>k w G3 H3 (xB YZ x3) r3
 .left;let ja:n=g_:=by omega
  exact pr!;rw[ja,WB]at e3;rcases e3;exact k G' ac H' (SR.unbase YZ de)⟩
def a4p{KF:zE!}(s:K_)(r:kr!):Fy! (L2.start N vs) cS_:=by
 let hl:=aL r;delta L2.start;exact#[s,by simp[hl],oJ!,au!,au!];by_cases hi:i<g_
 .rw[PQ gR_,OC]at q;let#[d',Y,h2]:=MQ.mp q;rcases h2;let#[v,h3,h4]:=fX r Y;exact#[v,by rw[PQ (by simpa[<-hl]using hi),OC,h3];rfl,h4]
 .rw[fb_,UH]at q;split at q<;>cases q
end
def d5g{KF:zE!}{st:Stmt}
  (F:ye!)(S:eg!)
  (J:∀(am:yL!) (A:yK!) (outer:aO_) (s:yY!) (H:Hp) (E:XK),Ai k pr_->GX! Yx ps!)
  (hg:∀ds d,g_=af!->g ds=ψ d->q cS_=ψ ac!\/∃ρ,q cS_=ψ ab_/\d=.non):
  Fe P w KF mg base Pi W! aj fd ps ps_:=by
 exact yf!;let#[hl,G,ds,d,sub,r,e,kk]:=h;exact#[_,(yf_).ok G H,?_];let er:=a4p (N:=N) sub r;rcases hg ds d (by rw[aL r];exact hl) e with z|⟨ρ,z,rfl⟩
 .exact#[G,_,_,yg_,z,λv G' H' x r=>kk v G' H' x r]
 .exact#[G,_,_,yg_,z,λG' ac H' de=>kk _ G' H' de.ext Aq.non]
mutual
noncomputable def Dv:D->D->Bool
 |.non,.non=>τ
 |.bl a,.bl b=>a==b
 |.bl a,.int b=>u3!==b
 |.int a,.bl b=>a==u3_
 |.int a,.int b=>a==b
 |.str a,.str b=>a==b
 |.tup xs,.tup ys=>Ig xs ys
 |.lst xs,.lst ys=>Ig xs ys
 |_,_=>θ
noncomputable def Ig:List D->List D->Bool
 |[],[]=>τ
 |x::xs,y::ys=>Dv x y&&Ig xs ys
 |_,_=>θ
end
mutual
noncomputable def Bd:D->Bool
 |.fn _=>θ
 |.dk _=>θ
 |.tup xs=>Bj xs
 |.lst xs=>Bj xs
 |_=>τ
noncomputable def Bj:List D->Bool
 |[]=>τ
 |d::ds=>Bd d&&Bj ds
end
section
variable{X:Cx}{hb:List (Addr×Obj)}{Z:St}{H:Hp}{s:yY!}
def uT(I:e_)(h:ky!)(h':F8! a ws):False:=by let#[_,_,#[o,e,c,_],_]:=DA! h;let#[_,_,#[o',n,e',c',_],_]:=EK_ h';rw[e]at e';rcases e';rw[c]at c';exact Df_ c' nofun
mutual
theorem a1e(I:e_):∀(d d':D) (v:V),Bd d=τ->Bd d'=τ->EK! H->Aq X.K H d' v->d=d'
 |.non,d',v,n,n',r,r'=>by
  obtain rfl:=eS r;cases d'<;>first
   |rfl
   |(delta Aq at r';cases r';done)
   |(let#[a,vs,e,_]:=bV r';cases e)
   |(let#[a,vs,e,_]:=bS r';cases e)
   |(delta Bd at n';cases n')
 |.bl b,d',v,n,n',r,r'=>by
  obtain rfl:=dI r;cases d'<;>first
   |(cases dI r';rfl;done)
   |(delta Aq at r';cases r';done)
   |(let#[a,vs,e,_]:=bV r';cases e)
   |(let#[a,vs,e,_]:=bS r';cases e)
   |(delta Bd at n';cases n')
 |.int b,d',v,n,n',r,r'=>by
  cases bC r;cases d'<;>first
   |(cases bC r';rfl;done)
   |(delta Aq at r';cases r';done)
   |(let#[a,vs,e,_]:=bV r';cases e)
   |(let#[a,vs,e,_]:=bS r';cases e)
   |(delta Bd at n';cases n')
 |.str b,d',v,n,n',r,r'=>by
  cases bP r;cases d'<;>first
   |(cases bP r';rfl;done)
   |(delta Aq at r';cases r';done)
   |(let#[a,vs,e,_]:=bV r';cases e)
   |(let#[a,vs,e,_]:=bS r';cases e)
   |(delta Bd at n';cases n')
 |.tup xs,d',v,n,n',r,r'=>by
  let#[a,vs,rfl,q,rr]:=bV r;cases d' with
  |tup ys=>
   let#[a',gr,e,q',b6]:=bV r';cases e;let:=I.tuple_inj q q';subst this;delta Bd at n n';rw[yh_]
  |lst ys=>
   let#[a',gr,e,q',b6]:=bS r';cases e;exact(uT I q q').elim
  |fn b=>delta Bd at n';cases n'
  |dk b=>delta Bd at n';cases n'
  |non=>cases eS r'
  |bl b=>cases dI r'
  |int b=>cases bC r'
  |str b=>cases bP r'
 |.lst xs,d',v,n,n',r,r'=>by
  let#[a,vs,rfl,q,rr]:=bS r;cases d' with
  |lst ys=>
   let#[a',gr,e,q',b6]:=bS r';cases e;let:=I.list_inj q q';subst this;delta Bd at n n';rw[yh_]
  |tup ys=>
   let#[a',gr,e,q',b6]:=bV r';cases e;exact(uT I q' q).elim
  |fn b=>delta Bd at n';cases n'
  |dk b=>delta Bd at n';cases n'
  |non=>cases eS r'
  |bl b=>cases dI r'
  |int b=>cases bC r'
  |str b=>cases bP r'
 |.fn a,d',v,n,n',r,r'=>by delta Bd at n;cases n
 |.dk a,d',v,n,n',r,r'=>by delta Bd at n;cases n
theorem vF(I:e_):∀(ds es:d_) (vs:s_),Bj ds=τ->Bj es=τ->Fc_ ds->Fc_ es->ds=es
 |[],es,vs,n,n',r,r'=>by
  obtain rfl:=cR r;cases es with
  |nil=>rfl
  |cons e es=>let#[v,t,z,_]:=bR r';rcases z
 |d::ds,es,vs,n,n',r,r'=>by
  let#[v,t,rfl,r1,r2]:=bR r;cases es with
  |nil=>cases cR r'
  |cons e es=>
   let#[v',t',z,xo,xp]:=bR r';cases z;delta Bj at n n';rw[NQ]at n n';rw[a1e I d e v n.1 n'.1 r1 xo,vF I ds es t n.2 n'.2 r2 xp]
end
mutual
theorem kY:∀d:D,Bd d=τ->Dv d d=τ
 |.non,_=>by rfl
 |.bl b,_=>by simp[Dv]
 |.int i,_=>by simp[Dv]
 |.str s,_=>by simp[Dv]
 |.tup xs,h=>by delta Dv;exact sK xs yj!
 |.lst xs,h=>by delta Dv;exact sK xs yj!
 |.fn a,h=>by simp[Bd]at h
 |.dk k,h=>by simp[Bd]at h
theorem sK:∀ds:List D,Bj ds=τ->Ig ds ds=τ
 |[],_=>by simp[Ig]
 |d::ds,h=>by
  delta Bj at h;rw[NQ]at h;delta Ig;rw[kY d h.1,sK ds h.2];rfl
end
def a4z(I:e_)(d d':D)(v:V)(n:ci_)(n':fH!)(r:ep!)(r':Aq X.K H d' v):Dv d d'=true:=by rw[<-I7! I];exact kY d n
def iC(A:yK!):A.in1.units=A.units+1:=χ
def nV:∀(xs ys:d_),j!=ab!->((Ee! j!).all λj=>Dv (xs.getD j .non) (ys.getD j .non))=Ig xs ys
 |[],[],_=>rfl
 |x::xs,y::ys,h=>by
  let ih:=nV xs ys ky_;delta Ig;rw[MX,List.range_succ_eq_map,SS,<-ih,List.all_map];rfl
 |[],_::_,h=>by simp at h
 |_::_,[],h=>by simp at h
def nS:∀(xs ys:d_),j!≠ab!->Ig xs ys=θ
 |[],[],h=>Dl! h
 |x::xs,y::ys,h=>by
  delta Ig;rw[nS xs ys ky_,VN]
 |[],_::_,_=>rfl
 |_::_,[],_=>rfl
def qN(rd:hE_)(re:hE!)(rv:eR!)(a7:Ax ws us')
  (h:∀(j:δ) u u',us[j]?=ψ u->us'[j]?=ψ u'->DB! u' kz!):
  ∀j (Y:j<kz_) (h2:j<pt_),IB! A eq![j] pu_[j] kz!:=λj Y h2=>by
 let l1:j<as_:=by simpa using Y
 let l2:j<us'.length:=by simpa using h2
 exact h j _ _ (D2! l1) (D2! l2)
def zC(I:e_)(qa:ky!)(qb:GV_ b ws)(rd:hE_)(re:hE!)(hu:aq!)
  (h:kA!):Ex_ V_ d9! (Ig ds es):=by
 let#[us,rv,p1,_]:=DA! qa;let#[us',a7,p2,_]:=DA! qb;let Y:=aL rd;let h2:=aL re;let h3:=da_;let h4:=kA_;let z:=SeqAt.RcAt.tuples p1 p2 hu kB!;let e:yl!=Ig ds es:=by
  show"#7"
  .rw[hl,Nat.min_self,<-hl,kB_,hl];simp
  .rw[kC!];let:(g_==al_)=false:=by simpa using hl
   rw[this,VN]
 rw[e]at z;exact z
def a5e(I:e_)(qa:pv_)(qb:F8! b ws)(rd:hE_)(re:hE!)(hu:aq!)
  (h:kA!):Ex_ V_ d9! (Ig ds es):=by
 show"!H";let h4:=kA_;by_cases hl:g_=al_
 .let z:=EB_ SeqAt.RcAt.lists oS_ kB!;rw[MN,<-h3,<-Y,kB_]at z;exact z
 .rw[kC!];exact EB_ SeqAt.RcAt.lists_lengths yl_
def c3c(I:e_)(q:ky!):∃ag,Ey! a ag:=by let#[its,_,p,_]:=DA! q;exact#[_,p]
def b7i(I:e_)(q:pv_):∃ag,H9_ a ag:=by let#[its,_,p,_]:=I.list q;exact#[_,p.isList]
inductive RV(X:Cx)(H:Hp)(s:yY!):D->Value->Prop
 |non:RV X H s .non .none
 |bl (b:Bool):GX_ aH_ mu!
 |int (i:Int) (t:Tok):GX_ ae! dN_
 |str (x:Str) (t:Tok):GX_ dS! l3!
 |tup {xs:d_} {a:yJ!} {its:bp!}:Ey! a its->GX_ aO! V_
 |lst {xs:d_} {a:yJ!} {its:bp!}:H9_ a its->GX_ H! V_
def yY(I:e_)(n:ci_)(r:ep!)(ru:bs!):GX_ d u:=by
 cases d with
 |non=>cases eS r;subst ru;exact .non
 |bl b=>cases dI r;subst ru;exact .bl b
 |int b=>cases bC r;let#[t,rfl]:=ru;exact .int b t
 |str b=>cases bP r;let#[t,rfl]:=ru;exact .str b t
 |tup ys=>let#[a,ws,rfl,q,_]:=bV r;subst ru;let#[its,p]:=c3c I q;exact .tup p
 |lst ys=>let#[a,ws,rfl,q,_]:=bS r;subst ru;let#[its,p]:=b7i I q;exact .lst p
 |fn a=>delta Bd at n;exact Dd_ n
 |dk a=>delta Bd at n;exact Dd_ n
def nT(I:e_)(n:ci_)(n':fH!)(hu:aq!)(r:ep!)(r':hF!)(ru:bs!)(a8:hF_)(hT:∀xs ys,d=.tup xs->d'=.tup ys->DB! u' dx!)(hL:∀xs ys,d=.lst xs->d'=.lst ys->DB! u' dx!):DB! u' dx!:=by
 show"!p"
 all_goals first|exact Fd! hT|exact Fd! hL|(delta Dv;with_reducible first|exact .none_none|exact .same _|exact .none_bool _|exact .none_int _ _|exact .none_str _ _|exact .none_tuple ‹_› hu|exact .none_list ‹_› hu|exact .bool_none _|exact IF_ _|exact Ia! _|exact Ia_ _|exact .bool_tuple _ ‹_› hu|exact .bool_list _ ‹_› hu|exact .int_none _ _|exact Ib! _|exact HE_ _|exact HF! _|exact IG! _ ‹_› hu|exact .int_list _ _ ‹_› hu|exact .str_none _ _|exact Ib_ _|exact HF_ _|exact HG! _|exact IG_ _ ‹_› hu|exact .str_list _ _ ‹_› hu|exact .tuple_none ‹_› hu|exact .tuple_bool _ ‹_› hu|exact IH! _ ‹_› hu|exact IH_ _ ‹_› hu|exact .tuple_list ‹_› ‹_› hu|exact .list_none ‹_› hu|exact .list_bool _ ‹_› hu|exact .list_int _ _ ‹_› hu|exact .list_str _ _ ‹_› hu|exact .list_tuple ‹_› ‹_› hu)
def d2p(I:e_)(n:ci_)(n':fH!)(hu:aq!)(r:ep!)(r':hF!)(ru:bs!)(a8:hF_)(hT:∀xs ys,d=.tup xs->d'=.tup ys->Kf! u)(hL:∀xs ys,d=.lst xs->d'=.lst ys->Kf! u):Kf! u:=by
 show"!p"
 all_goals first|exact Fd! hT|exact Fd! hL|(delta Dv;with_reducible first|exact .none_none|exact .same _|exact .none_bool _|exact .none_int _ _|exact .none_str _ _|exact .none_tuple ‹_› hu|exact .none_list ‹_› hu|exact .bool_none _|exact IF_ _|exact Ia! _|exact Ia_ _|exact .bool_tuple _ ‹_› hu|exact .bool_list _ ‹_› hu|exact .int_none _ _|exact Ib! _|exact HE_ _|exact HF! _|exact IG! _ ‹_› hu|exact .int_list _ _ ‹_› hu|exact .str_none _ _|exact Ib_ _|exact HF_ _|exact HG! _|exact IG_ _ ‹_› hu|exact .str_list _ _ ‹_› hu|exact .tuple_none ‹_› hu|exact .tuple_bool _ ‹_› hu|exact IH! _ ‹_› hu|exact IH_ _ ‹_› hu|exact .tuple_list ‹_› ‹_› hu|exact .list_none ‹_› hu|exact .list_bool _ ‹_› hu|exact .list_int _ _ ‹_› hu|exact .list_str _ _ ‹_› hu|exact .list_tuple ‹_› ‹_› hu)
mutual
theorem c3x(I:e_):∀(d d':D) (A:yK!) (v v':V) (u u':yL!),Bd d=τ->Bd d'=τ->A.units+Io d<cLine->EK! H->Aq X.K H d' v'->Bi v u->Bi v' u'->DB! u' dx!
 |.non,d',A,v,v',u,u',n,n',hu,r,r',ru,a8=>Kn! I
 |.bl _,d',A,v,v',u,u',n,n',hu,r,r',ru,a8=>Kn! I
 |.int _,d',A,v,v',u,u',n,n',hu,r,r',ru,a8=>Kn! I
 |.str _,d',A,v,v',u,u',n,n',hu,r,r',ru,a8=>Kn! I
 |.fn _,d',A,v,v',u,u',n,n',hu,r,r',ru,a8=>Kn! I
 |.dk _,d',A,v,v',u,u',n,n',hu,r,r',ru,a8=>Kn! I
 |.tup xs,d',A,v,v',u,u',n,n',hu,r,r',ru,a8=>nT I n n' a! r r' ru a8 (λ_ ys e e'=>by
  cases e;subst e';let#[a,vs,rfl,q,rr]:=bV r;let#[b,ws,rfl,q',b6]:=bV r';cases ru;cases a8;by_cases lq:a=b
  .subst lq;rw[ym_];exact .same _
  .delta Bd at n n';delta Io at hu;delta Dv;exact DF_ zC) a6_
 |.lst xs,d',A,v,v',u,u',n,n',hu,r,r',ru,a8=>Dr_ I (λ_ ys e e'=>by
  cases e;subst e';let#[a,vs,rfl,q,rr]:=bS r;let#[b,ws,rfl,q',b6]:=bS r';cases ru;cases a8;by_cases lq:a=b
  .subst lq;rw[ym_];exact .same _
  .delta Bd at n n';delta Io at hu;delta Dv;exact DF_ a5e)
theorem lU(I:e_):∀(ds es:d_) (A:yK!) (vs ws:s_) (us us':o!),Bj ds=τ->Bj es=τ->A.units+Ct ds<cLine->Fc_ ds->Al X.K H es ws->Ax vs us->Ax ws us'->
  ∀(j:δ) u u',us[j]?=ψ u->us'[j]?=ψ u'->DB! u' kz!
 |[],es,A,vs,ws,us,us',n,n',hu,r,r',rv,a7,j,u,u',e,e'=>by
  obtain rfl:=cR r;cases rv;simp at e
 |d::ds,es,A,vs,ws,us,us',n,n',hu,r,r',rv,a7,j,u,u',e,e'=>by
  let#[v,t,rfl,r1,r2]:=bR r;cases es with
  |nil=>
   obtain rfl:=cR r';cases a7;simp at e'
  |cons c es=>
   let#[w,t',rfl,xo,xp]:=bR r';delta Bj at n n';rw[NQ]at n n';delta Ct at hu;cases rv with
   |cons lu om=>
    cases a7 with
    |cons rw1 rw2=>
     cases j with
     |zero=>
      simp at e e';subst e e';exact c3x I d c A v w _ _ n.1 n'.1 a! r1 xo lu rw1
     |succ j=>
      exact lU I ds es A t t' _ _ n.2 n'.2 a! r2 xp om rw2 j u u' c3_ (Di_ e')
end
def d2q(I:e_)(d d':D)(n:ci_)(n':fH!)(hu:yn!)(r:ep!)(r':hF!)(ru:bs!)(a8:hF_):Kf! u:=
 d2p I n n' a! r r' ru a8 (λxs ys e e'=>by
  subst e e';let#[a,vs,rfl,q,rr]:=bV r;let#[b,ws,rfl,q',b6]:=bV r';subst ru;subst a8;delta Bd at n n';delta Io at hu;delta Dv;exact Fy_ zC λus us' rv a7=>Dq! I) (λxs ys e e'=>by
  subst e e';let#[a,vs,rfl,q,rr]:=bS r;let#[b,ws,rfl,q',b6]:=bS r';subst ru;subst a8;delta Bd at n n';delta Io at hu;delta Dv;exact Fy_ a5e λus us' rv a7=>Dq! I)
def FS(KF:zE!):R2:=λx y H Q=>∃dx dy,Dr! dx x/\Dr! dy y/\Bd dx=τ/\Bd dy=τ/\Io dx<=40/\EA! (Dv dx dy)
def bY(hu:aj_):Fi! (compareOp .Eq) FS:=by intro hb s Z H x y v u Q I rx ry h;let#[dx,dy,r1,r2,n1,n2,hd,q]:=h;exact ER! d2q
def Av:D->D->ι D:=λx y=>if Bd x&&Bd y&&decide (Io x<=40)then Df! (Dv x y) else υ
protected def bZ{KF:zE!}:Gt_ FS Av:=by
 show"!1";delta Av at e;show"!7"
 .show"!v";rcases e;exact yo!
 .rcases e
end
section
variable{X:Cx}{own:List Nat}{e a b c o i tg:Expr}{es:List Expr}{pos p2:Pos}{f fa fb fc fe:Ae->Option D}{fs fi:Ae->Option (List D)}{ft fu:Ae->Option Bool}
def Ie(g g':hn!)(fa fb fc:n_):Ae->ι D:=λρ=>(cf_).bind λx=>(hn_).bind λy=>(g x y).bind λz=>match z with
 |.bl true=>(fc ρ).bind λu=>g' y u
 |.bl false=>ψ C_
 |_=>υ
def a7r(ho:b8!)(hg:ek!)(f9:iY_)(sm:Gr X.K r' g')(ha:I!)(J:cg!)(hc:De! c fc)
  (hm:iZ!:=by with_unfolding_all rfl):De! iZ_ yo_:=
 eG (HG_ c0s) λZ G H Q ρ d er e k=>by
  let#[x,e1,e]:=LX.mp e;let#[y,e2,e]:=LX.mp e;let#[z,e3,e]:=LX.mp e;exact yp!;let on:=s1.trans fx!;cases z<;>first|cases e|skip
  rename_i bb;obtain rfl:=dI r3;exact yp_;cases bb with
  |true=>
   let#[u,e4,e]:=LX.mp e;exact nM #[G3,ρ,u,er.grow on,e4,λq G4 H4 s4 r4=>sm s4.sub yq! r4 e λv G5 H5 s5 r5=>k v G5 H5 yq_ r5]
  |false=>
   rcases e;exact nN (k _ G3 H3 on Aq.bl)
def GG(f:n_):Ae->ι D:=λρ=>(aj!).bind λd=>match d with|.int i=>Da_ (-i)|_=>υ
def d5k(h:I!):De! (.UnaryOp .USub a pos) (GG fa):=
 eG (d6z d2c h.ok) λZ G H Q ρ d er e k=>by
  let#[x,e1,e]:=LX.mp e;cases x<;>first|cases e|skip
  exact cg_;obtain rfl:=bC r1;exact#[_,χ,k _ G1 H1 s1 Aq.int]
def Kb:D->Bool
 |.non=>τ
 |.bl _=>τ
 |.int _=>τ
 |.str _=>τ
 |_=>θ
def a7f{KF:zE!}(h:Kb d=τ)(r:hl_):Mc v=true:=by
 cases d<;>first
  |(exact Dd_ h;done)
  |(obtain rfl:=eS r;rfl)
  |(obtain rfl:=dI r;rfl)
  |(obtain rfl:=bC r;rfl)
  |(obtain rfl:=bP r;rfl)
def c9g{KF:zE!}(h:Kb d=τ)(h':Kb d'=τ)(r:hl_)(r':Dr! d' v'):AM v v'=Dv d d':=by
 cases d<;>first
  |(exact Dd_ h;done)
  |skip
 all_goals (cases d'<;>first
  |(exact Dd_ h';done)
  |skip)
 all_goals first
  |(obtain rfl:=eS r)
  |(obtain rfl:=dI r)
  |(obtain rfl:=bC r)
  |(obtain rfl:=bP r)
 all_goals first
  |(obtain rfl:=eS r')
  |(obtain rfl:=dI r')
  |(obtain rfl:=bC r')
  |(obtain rfl:=bP r')
 all_goals simp[AM,Dv]
def a7h{KF:zE!}:∀{ds:d_} {vs:s_},ds.all Kb=τ->Da! H->vs.all Mc=τ
 |[],vs,_,r=>by obtain rfl:=cR r;rfl
 |d::ds,vs,h,r=>by
  let#[v,t,rfl,r1,r2]:=bR r;rw[SS,NQ]at h;rw[SS,NQ];exact#[a7f h.1 r1,a7h h.2 r2]
def a7g{KF:zE!}(hx:Kb x=τ)(rx:Dr! x v):∀{ds:d_} {vs:s_},ds.all Kb=τ->Da! H->HF v vs=ds.any λd=>Dv d x
 |[],vs,_,r=>by obtain rfl:=cR r;rfl
 |d::ds,vs,h,r=>by
  let#[w,t,rfl,r1,r2]:=bR r;rw[SS,NQ]at h;let ih:=a7g hx rx h.2 r2;delta HF at ih ⊢;rw[RO,RO,ih,c9g h.1 hx r1 rx]
def EF:D->Dl_ aK!
 |.tup xs=>ψ xs
 |.lst xs=>ψ xs
 |_=>υ
def Uw(neg:Bool):D->D->ι D:=λx y=>(EF y).bind λds=>if Kb x&&ds.all Kb then ψ ys! else υ
def d1h{KF:zE!}:Gr KF (FQ KF neg) (Uw neg):=by
 show"!1";show"!P"
 .rename_i h;rw[NQ]at h;rcases e;let fin:∀{p:yJ!} {vs:s_},(El KF H p vs\/Fd KF H p vs)->Da! G->y=V.ref p->FQ KF neg x y H Q:=λ{p vs} q r ey=>by
   exact#[p,vs,ey,q,a7f h.1 rx,a7h h.2 r,?_];rw[a7g h.1 rx h.2 r];exact He! k
  cases dy<;>first|(rcases e1;done)|skip
  .rcases e1;let#[p,vs,ey,q,r]:=bV ry;exact fin (.inr hv_) r ey
  .rcases e1;let#[p,vs,ey,q,r]:=bS ry;exact fin (.inl o4!) r ey
 .rcases e
structure Vf(X:Cx)(x:Str)(b7:hJ!):Prop where
 ex:∃(ad:yJ!) (h1:μ oA_) (vs:μ Bi!),X.mg x=ψ kG!/\px!=θ/\(∀h:Heap,X.K.In h->h.DictOf (mixKind X.prog X.w) ad vs)/\KV h1 vs/\
  (∀y,Mr h1 es!=υ↔He_ y=υ)/\∀y d,He_ y=ψ d->∃v,Mr h1 es!=ψ v/\∀H,EK! H
def BR(b7:hJ!)(neg:Bool)(f:n_):Ae->ι D:=λρ=>(aj!).bind λd=>match d with|.str y=>Df! (Jn! px_ px_)|_=>υ
def Ux(b7:hJ!)(f:n_):Ae->ι D:=λρ=>(aj!).bind λd=>match d with|.str y=>He_ y|_=>υ
def c9s(hd:Vf X x b7)(hg:V!)(ha:I!)(bv:GN a)(bh:C!:=by decide):De! (JI_ dt_ a) (Ux b7 fa):=by
 show"#N";exact eG (t:=λZ H Q=>Eb! tD fa Z H λv H1=>∃y u,v=.str y/\Mr h1 es!=ψ u/\Q u H1) yt! λZ G H Q ρ d er e k=>?_
 .exact c6c PySem.F.slot_dict_getitem.lookup bv (lN I hg kg (dP yt_ ?_) bh);rintro v s1 ⟨y,H1,I1,r1,z,u,hz,hu,q1⟩;subst hz;let dd:=xq _ I1.kIn;let#[w',hw,a7]:=Nk.some_of (by rw[<-hu];exact xr.val (H2! z));let ty:s1.TypeIs kG! "dict":=by
   let#[o,es,ep,Y,h2,_]:=dd;exact#[o,Y,h2.1]
  exact#[ty,wpAny_getItem_of yu_ dd.mapOf hw #[u,H1,I1.tok _,a7,q1]]
 .let#[x,e1,e]:=LX.mp e;cases x<;>first|(rcases e;done)|skip
  rename_i y;let#[v,hv,hr]:=hs y d e;exact#[G,ρ,_,er,e1,λw G1 H1 s1 r1=>?_];obtain rfl:=bP r1;exact#[y,v,χ,hv,k _ G1 H1 s1 (hr G1)]
def Ok(P:yW!)(w:yM!)(KF:zE!)(mg:U_)(base:Heap)(k:δ)(x:Str)(ps:G_)(g:bj!):Prop:=
 ∃aj fd,Jf_ ps_/\DS! KF/\mg x=ψ bT_/\EH_ KF bT_=τ
def aR(F:yw!)(hr:b9_)(hg:V!)(ha:hq_)(ao:xl!)
  (hn:xk_:=by rfl)(bh:C!:=by decide)(he:ap!:=by rfl)(ba:aS!:=by rfl):
  DE X own bc_ kd!:=by
 let#[aj,fd,Y,h2,h3,h4]:=F;exact c9u Y hr hg h3 h4 h2 ha hn ao bh he ba
def CW(P:yW!)(w:yM!)(KF:zE!)(mg:U_)(base:Heap)(k n:δ)(b7:yw_):Prop:=
 ∀aj g,b7 aj=ψ g->∃fd ps,af!=n/\Jf_ ps_/\DS! KF/\EH_ KF bT_=τ
def Oc(b7:yw_)(i:δ)(fs:a2!):Ae->ι D:=λρ=>(Aa i ρ).bind λd=>match d with|.fn aj=>(b7 aj).bind λg=>(fx_).bind g|_=>υ
def c4o(F:yJ_ CW X.mg X.base k n b7)(hr:b9_)(ha:hq_)(ao:xl_)
  (hj:j∉own:=by decide)(hN:vZ_:=by rfl)(hv:c8!:=by first|exact Or.inl χ|exact Fj! e!|exact Fj! aK_)(bh:C!:=by decide)(cb:c8_:=by decide)
  (he:ap!:=by rfl)(ba:aS!:=by rfl):
  DE X own bc_ (Oc b7 j fs):=⟨by
 intro hb s Z H Q I h;let#[G,ρ,d,er,e1,kk]:=h;let#[z,e2,e1]:=LX.mp e1;cases z<;>first|(rcases e1;done)|skip
 rename_i aj;let#[g,e3,e1]:=LX.mp e1;let#[ds,e4,e1]:=LX.mp e1;let#[fd,ps,l9,F1,F2,F3]:=F aj g e3;let#[v,Y,h2]:=er.at_ j _ (join_some e2) hj;obtain rfl:=gQ h2;exact QO (dP (pG hN hv bh cb hb s Z H (λu H'=>u=.ref aj/\H'=H) I #[_,Y,χ,χ]) ?_);rintro u s1 ⟨y,H1,I1,r1,hy,hH⟩;subst hy hH;subst r1;exact W.callWith_K (h₀:=X.base) I1.ok.mod.kin F3 (dP (ha.ok pos hb s1 Z H1 _ I1 #[G,ρ,ds,er,e4,λvs G2 H2 s2 r2=>(?_:(λvs H2=>CI X.K ps.length g vs H2 Q E0) vs H2)]) λus s2 ⟨vs,H2,I2,r2,q2⟩=>sE!) he ba
 .exact#[by rw[<-aL r2,ao ρ ds e4,l9],G2,ds,d,s2.sub,r2,e1,λv G3 H3 s3 r3=>kk v G3 H3 fx! r3]
 .exact a1d F1 hr F2 .nil vJ I2 r2 (AT! NP q2)⟩
def HS(x:Str):It:=#[yx_,λi H v H'=>H'=H/\∃c,x.cps[i]?=ψ c/\v=.str H_,yy!]
def EH(f:n_):Ae->ι aK!:=λρ=>(aj!).bind λd=>match d with|.str x=>ψ yy_|_=>υ
def c8p{KF:zE!}:HE! (HS x) yy_:=by intro i G' H' s1 s2;exact#[du_,λhi=>by rw[MJ,QG]at hi;exact VF hi.symm];rw[OC]at hd;let#[c,hc,rfl]:=MQ.mp hd;rw[SO]at hc;exact yz!;let#[e1,c',b8,e2]:=hy;subst e1;rw[hc]at b8;rcases b8;subst e2;exact#[G',kk_,Aq.str]
def a4i{KF:zE!}(hd:yz_)
  (W:∀A':Around,pA!=υ->Walks P w A' it [it] [it] x.cps.size (SignAt x) gg)(hself:∀(A:yK!) (i:δ) (s:yY!) (Q:X_) (E:X_),gg i s.heap->Q b6_ s->K3! b6_):
  Re P w KF hL_ (HS x) [it] it yA_ where
 mem:=by simp
 obj:=λi h st b J=>by
  let e:b=it:=by simpa using J
  subst e;exact hd i h st.2
 keep:=λi h h' st k=>⟨st.1,by
  let Wd:=W callerA χ;exact Wd.frame i h h' st.2 λb J o e=>k b J o e⟩
 item:=by
  show"!0";show"!2";exact(W X.A aV!).item i s _ _ hg st.2 λv h' tk hv ab kk=>?_;let#[cc,u,g9,rfl]:=hv;show"!f";exact JW_ _ #[.str (FN_ cc),H,I1,pA_,#[χ,cc,g9,χ],#[hg,ab],iQ_]
 done:=by
  show"!0";show"!2";let hi:=I7_ hg;subst hi;exact(W X.A aV!).done s _ _ st.2 λh' tk kk=>GI_ mR!
 self:=λA i s Q E st h=>hself A i s Q E st.2 h
def d2x(hl:PE X a tl):PI X hL_ a (λZ H R=>tl Z H λv H1=>∃x,v=.str x/\R (HS x) H1):=by
 intro hb s Z H R I h;exact dP mR_ ?_;rintro v s1 ⟨u,H1,I1,r1,x,hx,q⟩;subst hx;let#[t,rfl]:=r1;let Y4:∀(ty:String) (i:δ) (h:Heap),FO! h.IsStrIter ty i->∃o,h.get? x!=ψ o/\∀v,o.data≠.cell v:=λty i h st=>by
  show"!Y"
 let fin:∀(ob:Obj) (gg:gw!),yJ_ Re hL_ (HS x) [x!] s1.heap.objs.size yA_->gg 0 (II! ob)->
   HM X hb Z hL_ R (.ref x!) {s1 with heap:=II! ob}:=λob gg T st=>by
  exact#[x!,[x!],_,_,H1,χ,yD!,T,#[OA _,st],bt!,q];let e:b=x!:=by simpa using J
  show"!T"
 cases ha:x.cps.all (·<128)with
 |false=>
  exact wpAny_pyIter_wide ha (fin _ _ (a4i yE! (λA' hA=>Walks.strWide hA _ x t) λA i s Q E st h=>wpAny_pyIter_striter_wide st h) dV!)
 |true=>
  exact wpAny_pyIter_ascii ha (fin _ _ (a4i yE! (λA' hA=>Walks.strAscii hA _ x t) λA i s Q E st h=>wpAny_pyIter_striter_ascii st h) dV!)
def d5f(h:I!):DI X own hL_ a (EH fa):=a0k (d2x h.ok) λZ G H R ρ ds er e k=>by
 let#[d,e1,e2]:=LX.mp e;cases d with
 |str x=>
  rcases e2;exact cg_;obtain rfl:=bP r1;exact#[x,χ,k _ G1 H1 s1 c8p]
 |_=>cases e2
def yR:∀{ys:G_} {us:o!},Ax yF! us->StrsAre us ys
 |[],_,.nil=>.nil
 |y::ys,_,.cons r t=>by
  let#[k,rfl]:=r;exact .cons y k (yR t)
def FK(KF:zE!):V->μ V->Hp->VK->Prop:=λx vs H Q=>∃(z:Str) (p:yJ!) (ys:G_),x=.str z/\vs=fh_/\FW! p yF!/\(hM_).sum+ab!*S!<=16777216/\Q yG! H
def b3s:GP X "str.join" (FK X.K):=by intro hb s Z H x xs v us Q I rx r h;let#[z,p,ys,rfl,rfl,hq,hz,q]:=h;let#[t,rfl]:=rx;let#[u,rfl,r1]:=iT r;subst r1;let#[its,rv,pl,_]:=EK_ hq;exact Fv! join_list (by simpa using yR rv) hz λt' k=>tx!
def Ly:μ D->JP! Str
 |[]=>ψ []
 |.str x::r=>(Ly r).map (x::·)
 |_=>υ
def vC{KF:zE!}:∀{ds:d_} {vs:s_} {ys:G_},Da! H->Ly ds=ψ ys->vs=ys.map V.str
 |[],vs,ys,r,e=>by obtain rfl:=cR r;rcases e;rfl
 |d::ds,vs,ys,r,e=>by
  let#[v,t,rfl,r1,r2]:=bR r;cases d<;>first|(rcases e;done)|skip
  let#[ys',e1,rfl]:=MQ.mp e;obtain rfl:=bP r1;rw[vC r2 e1];rfl
def Hv:D->D->ι D
 |.str z,.lst xs=>(Ly xs).bind λys=>if(hM_).sum+ab!*S!<=big then ψ yG! else υ
 |_,_=>υ
def Om(fo fa:n_):Ae->ι D:=λρ=>(kL_).bind λx=>(cf_).bind λy=>Hv x y
protected def a3q(ho:kM!)(ha:I!)
  (cy:JB_ "join"=Dq_ o:=by rfl)
  (cz:(EL_ fL_&&DY_ bg_
   &&decide fM!)=true:=by rfl)
  (c8:bO!:=by rfl) (hs:em_:=by rfl) (b9:dw!:=by rfl):
  DE X own (K5! o) (Om fo fa):=
 eG (D5! ho.ok) λZ G H Q ρ d er e k=>by
  show"!@";delta Hv at e;show"!7"
  .let#[ys,e3,e]:=LX.mp e;show"!7"
   .show"!K";exact cg_;obtain rfl:=bP r1;exact kN!;let#[p,vs,rfl,q,rr]:=bS r2;let:=vC rr e3;subst this;exact#[_,p,ys,χ,χ,s2.sub.seq q,NR hl a_,k _ G2 H2 bT! Aq.str]
   .rcases e
  .rcases e
end
section
variable{prog:yW!}{w:yM!}{A:yK!}{E:Value->Shared->Prop}{s:yY!}
def a1v(g1:yH_)(g2:yI!)(g3:xs[n]?=ψ v)
  (k:∀h',DV_ jt tt bm!->Dy! jt->Q v {s with heap:=h'}):oW_ n! yI_:=by
 show"!?";show"!e";exact LW (XV eo ed c! (LZ (JW_ v (k _ ?_ eu!))));exact#[_,TL _ eo (GY! ed),(yM_).trans ec,by rw[VZ ed];simp[rawInt]]
def vU(hh:bN_)(g1:yH_)(g2:yI!)(g3:xs[n]?=υ)
  (k:∀h' e,It! jt s.heap->(∃o,h'.get? e=ψ o/\o.cls=.type "StopIteration")->E cl! {s with heap:=h'}):oW_ n! yI_:=by
 show"!?";show"!e";exact Fz! (LW (XV eo ed c! ?_));exact LW ?_;dsimp only[newExc,newTuple];exact LW (QI ?_ hN!);exact ET_ wpAny_of_eq yN_;exact QI ?_ hN!;dsimp only[raiseNew];exact LW yP_
 first|rw[yO_]|rw[hh]
 exact LW yP!;exact k _ _ yQ! kO_
def cI(x:Ic! aa tt n)(hs:It! bb h)(ne:aa≠bb):DV_ aa tt n:=by let#[ob,eo,r]:=x;exact#[ob,hs _ _ ne eo,r]
def a8n{TI TO:yJ!}{Q:X_}(D:kP!)
  (gz:kP_)(gI:kQ!)(gO:kQ_)
  (g1:kR!)(g2:kR_)(ir:hN_)(jb:hO!)(gx:yT_)(gy:Cq_)
  (kk:∀h',D2_ h' (rawInt k_)->Hf_ h' y->DV_ i1 l1 (k1+1)->DV_ i2 l2 (k2+1)->Dy_ IsPair h' x y->
   kS!->Q bt_ {s with heap:=h'}):
  wpAny n! A yU! yV_ E s:=by
 show"!y";show"!G";exact LW yX_
 replace me:Kn_ Y:=me
 exact LW ?_;dsimp only[List.zipIdx_cons,List.zipIdx_nil,List.forIn_cons,List.forIn_nil];exact LW kT!;exact LW y0!;let sn:=Fp! D.TOi1 y0_;exact LW y1!;exact LW y1_
 replace vf:Hf_ h3 q:=vf
 exact LW (TD Y_);exact LW kT!;exact LW (a1v y2_ y3! gy λh4 g24 j4=>LZ ?_);let Y6:=K5_ D.TOi2 vf;exact HS! QU Y6;exact LW (XJ Y6 λh5 vg mf=>?_)
 replace vg:Hf_ h5 y:=vg
 exact LW (TD (LZ Y_));exact HS! QU vg;exact Fa_ XW;let sz:h5.objs.size=k_:=by rw[mf.1,j4.1,d8.1,bo.1,bw.1]
 let Y7:=mf.extBut _ _ D.TOz.symm (K5_ D.i2z.symm y4!);let gk5:∀c ob,c≠z->c≠TO->c≠i1->c≠i2->yY_ c=ψ ob->h5.get? c=ψ ob:=λc ob c1 c2 c3 c4 e=>mf.extBut _ _ c2 (K5_ c4 (Ka! (bw.extBut _ _ c1 e)));let g15:=cI (cI (cI Y5 d8.extBut D.TOi1.symm) j4.extBut D.i12) mf.extBut D.TOi1.symm;let g25:=cI g24 mf.extBut D.TOi2.symm;let Y8:=NN Y7;exact LW ?_;delta Builtin.SmallTypes.ownedTupleHandOut;let gz6:Kn_ (h5.push {cls:=.type "tuple",data:=.seq [x,y].toArray}):=MC _ Y7;exact LW (QN gz6 c! λh7 xv Y9=>?_)
 replace xv:D2_ h7 y5_:=xv
 exact QN xv c! λh8 vh Y'=>?_
 replace vh:D2_ h8 y5_:=vh
 let up:∀c ob,c≠z->h5.get? c=ψ ob->h8.get? c=ψ ob:=λc ob c1 e=>Y'.extBut _ _ c1 (Y9.extBut _ _ c1 (MC _ e));let ZA:=Y'.extBut _ _ (RL Y8) (Y9.extBut _ _ (RL Y8) hQ_);rw[sz]at vh ZA;exact LZ pH!;rw[sz];let#[ob1,eo1,r1]:=g15;let#[ob2,eo2,r2]:=g25;exact kk h8 vh (up _ _ D.TOz vg) #[ob1,up _ _ D.i1z eo1,r1] #[ob2,up _ _ D.i2z eo2,r2] ZA λc ob c1 c2 c3 c4 e=>up c ob c1 (gk5 c ob c1 c2 c3 c4 e)
def b4z{TI TO:yJ!}(hh:bN_)(D:kP!)
  (gz:kP_)(gI:kQ!)(gO:kQ_)
  (g1:kR!)(g2:kR_)(ir:hN_)(jb:hO!)(ge:y6_)
  (kk:∀h' e,kS!->(∃ob,h'.get? e=ψ ob/\ob.cls=.type "StopIteration")->E cl! {s with heap:=h'}):
  wpAny n! A yU! Q E s:=by
 show"!y";show"!G";exact LW yX_
 replace me:Kn_ Y:=me
 exact LW ?_;dsimp only[List.zipIdx_cons,List.zipIdx_nil,List.forIn_cons,List.forIn_nil];exact LW kT!;cases gx:xs[k1]? with
 |none=>
  exact LW (vU hh yZ! yZ_ gx λh2 e bo he=>?_);let#[oe,oo,so]:=he;let ZB:=bo _ _ D.i1z.symm me;let xw:e≠z:=λx=>by subst x;rw[ZB]at oo;rcases oo;simp at so
  exact QN ZB c! λh3 _ d8=>kk h3 e (λc ob c1 _ c3 _ x=>d8.extBut _ _ c1 (bo _ _ c3 y8!)) #[oe,d8.extBut _ _ xw oo,so]
 |some x=>
  let gy:ys[k2]?=none:=by
   obtain h|h:=ge
   .rw[gx]at h;rcases h
   .exact h
  exact LW y0!;let sn:=Fp! D.TOi1 y0_;exact LW y1!;exact LW y1_;exact LW (TD Y_);exact LW kT!;exact LW (vU hh y2_ y3! gy λh4 e j4 he=>?_);let#[oe,oo,so]:=he;let ZC:=j4 _ _ D.i2z.symm y4!;let xw:e≠z:=λx=>by subst x;rw[ZC]at oo;rcases oo;simp at so
  exact QN ZC c! λh5 _ mf=>kk h5 e (λc ob c1 c2 c3 c4 x=>mf.extBut _ _ c1 (j4 _ _ c4 (Ka! y8!))) #[oe,mf.extBut _ _ xw oo,so]
def a9j{TI TO:yJ!}(D:kP!)
  (gz:kP_)(gI:kQ!)(gO:kQ_)
  (g1:kR!)(g2:kR_)(ir:hN_)(jb:hO!)(gx:yT_)(gy:Cq_)
  (kk:∀h',D2_ h' (rawInt k_)->Hf_ h' y->DV_ i1 l1 (k1+1)->DV_ i2 l2 (k2+1)->Dy_ IsPair h' x y->
   kS!->Q (ψ bt_) {s with heap:=h'}):
  wpAny n! A (pyNext hO_) Q E s:=by
 let gT:F9! hO_ "zip":=y8_;delta pyNext;exact LW (TR (OU gT XH (OM XH gT y9!
  (a8n D gz gI gO g1 g2 ir jb gx gy λh' a1 a2 a3 a4 a5 a6=>LZ (kk h' a1 a2 a3 a4 a5 a6)) y9_)))
def xU{TI TO:yJ!}(hh:bN_)(D:kP!)
  (gz:kP_)(gI:kQ!)(gO:kQ_)
  (g1:kR!)(g2:kR_)(ir:hN_)(jb:hO!)(ge:y6_)
  (kk:∀h',kS!->Q υ {s with heap:=h'}):Jy! (pyNext hO_):=by
 let gT:F9! hO_ "zip":=y8_;delta pyNext;exact LW (TR (OU gT XH (OM XH gT y9!
  (b4z hh D gz gI gO g1 g2 ir jb ge λh' e hk he=>?_) y9_)))
 let#[ob,ho,hc]:=he;exact LW (wpAny_isInstance #[ob,ho,hc] isSubtype_stop (LZ (kk _ hk)))
abbrev GV(h:Heap)(l1:yJ!):Heap:=h.push {cls:=.type "tuple_iterator",data:=DN! l1}
abbrev GU(h:Heap)(l1 l2:yJ!):Heap:=(GV h l1).push {cls:=.type "tuple_iterator",data:=DN! l2}
abbrev GT(h:Heap)(l1 l2:yJ!):Heap:=(GU h l1 l2).push {cls:=.type "tuple",data:=.seq [.ref c4_,.ref (GV h l1).objs.size].toArray}
abbrev GS(h:Heap)(l1 l2:yJ!):Heap:=(GT h l1 l2).push {cls:=.type "tuple",data:=.seq [.none,.none].toArray}
abbrev ES(h:Heap)(l1 l2:yJ!):Heap:=(GS h l1 l2).push {cls:=.type "zip",data:=.fields [.none,.bool θ,.bool θ,.ref (GU h l1 l2).objs.size,.ref (GT h l1 l2).objs.size].toArray}
def b0h(l1 l2:yJ!)(xs ys:bp!):
  Meets (Builtin.«zip.__new__» #[[.type "zip",.ref l1,.ref l2],[]]) (λ_ R s=>Ey! l1 xs/\Ey! l2 ys/\R (Ku! pJ!) {s with heap:=Eg! ES l1 l2}):=
 .of_wp λprog w A R s h=>by
  let#[hp,g,d,tk,os]:=s;let#[ir,jb,h]:=h;let sv:=sub_zip;let gL1:=ir;let gL2:Heap.IsTuple (Shared.heap #[hp.push {cls:=.type "tuple_iterator",data:=.fields [.ref l1,.int 0 0].toArray},g,d,tk,os]) l2 ys:=by let#[ob,eo,r]:=jb;exact#[ob,MC _ eo,r]
  wp_walk using YC gL1,YC gL2
  exact hS!
def c5f(ir:hN_)(jb:hO!)
  (kk:∀h',IsZip h' (k_+4) (k_+2) (k_+3) .none->IsPair h' (k_+2) bt_ fP!->
   IsPair h' (k_+3) .none .none->DV_ s.heap.objs.size l1 0->DV_ Z_ l2 0->(∀c ob,s.heap.get? c=ψ ob->h'.get? c=ψ ob)->Q (.ref (k_+4)) {s with heap:=h'}):
  wpAny n! A (call pK! [.ref l1,.ref l2]) Q E s:=by
 exact callType_new F.called_zip a_ (F.typeCall_zip_2 _ _) (F.newCall_zip_2 _ _) (λobj=>F.args_object_init_3 obj _ _) F.entry_zip_new (b0h l1 l2 xs ys) #[ir,jb,?_];let z1:(zd!).objs.size=k_+1:=RX ..;let z2:(zd_).objs.size=k_+2:=by rw[RX,z1]
 let z3:(ze!).objs.size=k_+3:=by rw[RX,z2]
 let z4:(pJ!).objs.size=k_+4:=by rw[RX,z3]
 let y5:Eq! pJ!=ψ _:=NI _ χ;let y4:Eq! ze!=ψ _:=MC _ hQ_;let y3:Eq! zd_=ψ _:=MC _ pL!;let y2:Eq! zd!=ψ _:=Hg! pL!;let y1:(hS_).get? k_=ψ _:=Hg! (MC _ pL!);show _/\_;rw[z2,z3,z4]at y5;rw[z1,z2]at y3;rw[z3]at y4;rw[z1]at y2;rw[z4];exact#[Ku_ y5,kk _ y5 y3 y4 #[_,y1,χ,χ] #[_,y2,χ,χ] λc ob x=>MC _ (MC _ (MC _ (Hg! x)))]
end
def HR(KF:zE!)(a b:yJ!):It:=
 ⟨λi H=>∃xs ys x y,Eh! a xs/\Eh! b ys/\xs[i]?=ψ x/\ys[i]?=ψ y,
   λi H v H'=>∃T,v=.ref T/\H T=υ/\∀xs ys,Eh! a xs->Eh! b ys->∃x y,xs[i]?=ψ x/\ys[i]?=ψ y/\H'=Hb_ T [x,y],
   λi H=>∃xs ys,Eh! a xs/\Eh! b ys/\(j!<=i\/ab!<=i)⟩
def c3s{P:kV!}:∀x∈([]:μ α),P x:=λ_ h=>by exact(dA!).elim
def iI{P:kV!}(h:P a)(k:∀x∈l,P x):∀x∈a::l,P x:=λx hx=>by
 obtain rfl|hx:=MD.mp hx
 .exact h
 .exact k x hx
def zZ{ch:bJ!}(I:e_)(hf:∀c∈ch,D6! H c)(kp:∀c o,c∉ch->yY_ c=ψ o->Du_ c=ψ o):oV_ H {s with heap:=h',toks:=s.toks}:=by
 exact zg_
 .let#[_,f2,_,f4,f5,f6]:=hf c hc;exact#[f4,f2,f5,f6]
 .show"#@";exact zh_
 .exact HS_ c λ_ _ e'=>e';let hn:=(hf d hm).1;obtain rfl|hd:=hd
  .rw[hn]at e;rcases e
  .rw[hn]at hd;rcases hd
def ne4(h:c∉[a1,a2,a3,a4]):c≠a1/\c≠a2/\c≠a3/\c≠a4:=by simpa using h
def d6s{P:kV!}(h:∀x∈[a1,b,a2,a3,a4],P x):∀x∈[a1,a2,a3,a4],P x:=λx hx=>h x (by simp![MD]at hx ⊢;exact hx.imp_right .inr)
def b5f{w:yM!}{KF:zE!}{a b TI TO:yJ!}(D:ZipApart z TI TO i1 i2 a b):
  Re P w KF dA_ (HR KF a b) zj_ z (λi h=>D2_ h .none/\IsPair h TI (.ref i1) (.ref i2)/\(∃p q,IsPair h TO p q)/\Ic! i1 a i/\Ic! i2 b i) where
 mem:=by simp
 obj:=λi h st=>by
  let#[s1,s2,#[p,q,s3],#[o4,s4,c4,d4],#[o5,s5,c5,d5]]:=st;exact iI #[_,s1,pO!] (iI #[_,s2,pO!] (iI #[_,s3,pO!] (iI #[o4,s4,λv y=>by rw[d4]at y;cases y] (iI #[o5,s5,λv y=>by rw[d5]at y;cases y] c3s))))
 keep:=λi h h' st k=>by
  let#[s1,s2,#[p,q,s3],#[o4,s4,r4],#[o5,s5,r5]]:=st;exact#[k z c! _ s1,k TI c! _ s2,#[p,q,k TO c! _ s3],#[o4,k i1 c! _ s4,r4],#[o5,k i2 c! _ s5,r5]]
 item:=by
  intro X hP hw hK hc i hb s Z H E I hf st hg;subst hP hw hK;let#[xs,ys,x,y,qa,qb,hx,hy]:=hg;let#[s1,s2,#[p,q,s3],s4,s5]:=st;let#[ia,ra,ta,za]:=DA! qa;let#[ib,rb,tb,zb]:=DA! qb;let#[u,hu,ru]:=ra.get hx;let#[v,hv,rv]:=rb.get hy;exact a9j D s1 s2 s3 s4 s5 ta tb mO_ jp_ λh' a1 a2 a3 a4 a5 a6=>?_;exact#[_,χ,wpAny_letOwnedTupleGo_zip a1 λh2 b1 bo=>?_];let qh:Ft! z h' h2:=bo;let neT:∀c o,yY_ c=ψ o->k_≠c:=λc o e=>RL c5_;let I1:oV_ H {s with heap:=h2,toks:=s.toks}:=zZ I (d6s hf) λc o hc e=>by
   let#[n1,n2,n3,n4]:=ne4 hc;exact qh.extBut _ _ n1 (a6 c o n1 n2 n3 n4 e)
  let sw:=FT! u!;let eT:h2.get? k_=ψ {cls:=.type "tuple",data:=.seq [u,v].toArray}:=qh.extBut _ _ (neT z _ s1) a5;let I2:oV_ (Kt_ (.tup [x,y])) {s with heap:=h2,toks:=s.toks}:=by
   let ne:∀c o,H c=ψ o->c≠k_:=λc o e=>cP e sw;let hpin:∀p∈X.pn++hb,p.1≠k_:=λp hp=>NX sP!;exact Inv.step (s:={s with heap:=h2,toks:=s.toks}) (g':=s.gens) (d':=s.drawn) (t':=s.toks) (h':=h2) (ch:=[k_]) I1 pM! zm! zl_ zn! zm_
    (zn_) zo! zo_ or! pM_ I1.bare
   .let e:c=k_:=by simpa using hc
    subst e;exact#[.inr I.sz,RL I.lt,λx c h=>(λz=>by let#[v,o,ho,_]:=I.cell x c h;rw[z]at ho;exact ξ iA! dP!),hpin]
   .rw[or_];exact n
   .by_cases J:c=k_
    .show"#&";exact#[by show 2<=sizeLine;rw[OP];decide,[u,v],.cons ru (FH! rv),HC_ eT _]
    .rw[bB J]at e;exact(zp_).stay os! zq_ λd xs q=>by rw[pP_];exact q
  exact#[dm!,_,I2,χ,#[_,χ,sw,λxs' ys' fq sy=>#[x,y,?_,?_,χ]],#[b1,qh.extBut _ _ D.TIz (a6 TI _ D.TIz D.TITO D.TIi1 D.TIi2 s2),#[u,v,qh.extBut _ _ D.TOz a2],cI a3 qh.extBut D.i1z,cI a4 qh.extBut D.i2z],pQ_]
  .rw[I.tuple_inj fq qa];exact hx
  .rw[I.tuple_inj sy qb];exact hy
  .let b8:∀c∈zj_,∃o,yY_ c=ψ o:=by
    let#[o4,t4,_]:=s4;let#[o5,t5,_]:=s5;exact iI #[_,s1] (iI #[_,s2] (iI #[_,s3] (iI #[_,t4] (iI #[_,t5] c3s))))
   let#[o,ho]:=b8 c hc;rw[bB (OB (neT c o ho))];exact(hf c hc).1
 done:=by
  intro X hP hw hK hc i hb s Z H E I hf st hg;subst hP hw hK;let#[xs,ys,qa,qb,hend]:=hg;let#[s1,s2,#[p,q,s3],s4,s5]:=st;let#[ia,ra,ta,za]:=DA! qa;let#[ib,rb,tb,zb]:=DA! qb;let l1:=ra.length;let l2:=rb.length;exact xU aV! D s1 s2 s3 s4 s5 ta tb (by
   obtain h|h:=hend
   .left;simp;omega
   .right;simp;omega) λh2 a6=>j_
  exact zZ I (ch:=[z,TO,i1,i2]) (d6s hf) λc o hc e=>by
   let#[n1,n2,n3,n4]:=ne4 hc;exact a6 c o n1 n2 n3 n4 e
 self:=λA i s Q E st h=>wpAny_pyIter_zip st.1 h
section
variable{X:Cx}{own:List Nat}{e a b c o i tg:Expr}{es jc:List Expr}{pos p2 p tp:Pos}{f fa fb fc fe:Ae->Option D}{n1:Nat}
def c7e(hg:Gl X "zip")(hm:zs_)(hv:zt!)(ha:PA X O! ta)(hs:zt_:=by rfl)(ba:zu_:=by rfl):
  PI X dA_ zv! (λZ H R=>ta Z H λvs H1=>∃x y xs ys,vs=[.ref x,.ref y]/\Fd X.K H1 x xs/\Fd X.K H1 y ys/\R (HR X.K x y) H1):=by
 intro hb s Z H R I h;exact GF_ hv (PU (dP gA! ?_) hs ba);rintro us s1 ⟨vs,H1,I1,r1,q1⟩;let#[x,y,xs,ys,rfl,qx,qy,q]:=q1;let#[u,u',rfl,ru,a8]:=a4h r1;subst ru;subst a8;let#[ia,ra,ZD,za]:=I1.tuple qx;let#[ib,rb,ZE,zb]:=I1.tuple qy;let lx:x<x!:=by let#[ob,eo,_]:=ZD;exact NN eo
 let ly:y<x!:=by let#[ob,eo,_]:=ZE;exact NN eo
 exact c5f ZD ZE λh' a1 a2 a3 a4 a5 a6=>?_;exact wpAny_pyIter_zip a1 ?_;let I2:oV_ H1 {s1 with heap:=h',toks:=s1.toks}:=I1.kept a6;let D:ZipApart (x!+4) (x!+2) (x!+3) s1.heap.objs.size (x!+1) x y:=by
  constructor<;>(intro z;let z':@Eq δ _ _:=z;let l1:@LT.lt δ _ x _:=lx;let l2:@LT.lt δ _ y _:=ly;omega)
 exact#[_,_,_,HR X.K x y,H1,χ,I2,b5f D,#[a1,a2,#[_,_,a3],a4,a5],pQ_,q];let ig:x!<=c:=by
  simp![MD,ML,RF]at hc;obtain rfl|rfl|rfl|rfl|rfl:=hc<;>omega
 exact I1.fpOk ig (Fv_ ig)
def Km:μ D->μ D->μ D
 |x::xs,y::ys=>.tup [x,y]::Km xs ys
 |_,_=>[]
def EG(fa fb:n_):Ae->ι aK!:=λρ=>(cf_).bind λx=>(hn_).bind λy=>match x,y with|.tup xs,.tup ys=>ψ kX_|_,_=>υ
def a4d:∀(xs ys:d_) (n:δ) (d:D),kX_[n]?=ψ d->∃x y,xs[n]?=ψ x/\ys[n]?=ψ y/\d=.tup [x,y]
 |[],_,n,d,h=>by simp[Km]at h
 |_::_,[],n,d,h=>by simp[Km]at h
 |x::xs,y::ys,0,d,h=>by
  simp[Km]at h;exact#[x,y,χ,χ,h.symm]
 |x::xs,y::ys,n+1,d,h=>by
  let#[u,v,Y,h2,h3]:=a4d xs ys n d (by simpa[Km]using h);exact#[u,v,l6_,by simpa using h2,h3]
def a4c:∀(xs ys:d_),j!<=(kX_).length\/ab!<=(kX_).length
 |[],ys=>.inl bn!
 |_::_,[]=>.inr bn!
 |x::xs,y::ys=>by
  obtain h|h:=a4c xs ys
  .left;simp[Km];exact h
  .right;simp[Km];exact h
def c8n{KF:zE!}{es:d_}(qa:Fd KF G1 x vs)(qb:Fd KF G1 y ws)(ra:o7_)(rb:Al KF G1 es ws):HE! (HR KF x y) (Km ds es):=by
 intro n G' H' s1 s2;let fq:H6_ x vs:=H8! qa;let sy:H6_ y ws:=H8! qb;exact#[du_,λhn=>#[vs,ws,fq,sy,?_]]
 .let#[u,v,Y,h2,rfl]:=a4d ds es n d hd;let#[v1,g1,r1]:=fX ra Y;let#[v2,g2,r2]:=fX rb h2;exact#[#[vs,ws,v1,v2,fq,sy,g1,g2],λx' gc hy=>?_];let#[T,rfl,hT,hh]:=hy;let#[x1,y1,e1,e2,rfl]:=hh vs ws fq sy;rw[g1]at e1;rw[g2]at e2;rcases e1;rcases e2;exact#[_,Bs.laid s2 hT,eO (s2.free hT) (Al.cons (r1.mono s1) (DK_ (r2.mono s1)))]
 .rw[hn,<-aL ra,<-aL rb];exact a4c ds es
def d5e(hg:Gl X "zip")(hm:zs_)(hv:zt!)(ha:I!)(J:cg!)(hs:zt_:=by rfl)
  (bo:Dm! [b]=iS_::starEach [] X.env:=by rfl)(ba:zu_:=by rfl):DI X own dA_ zv! (EG fa fb):=
 a0k (c7e hg hm hv zx_ hs ba) λZ G H R ρ ds er e k=>by
  let#[x,e1,e]:=LX.mp e;let#[y,e2,e]:=LX.mp e;cases x with
  |tup xs=>
   cases y with
   |tup ys=>
    rcases e;exact zz!;let#[p,vs,rfl,q,rr]:=bV fw_;let#[p',ws,rfl,q',b6]:=bV r2;exact#[p,p',vs,ws,χ,bU s2.sub q,bU s2.sub q',k _ G2 H2 bT! (c8n q q' rr b6)]
   |_=>cases e
  |_=>cases e
end
def Nz:D->D->ι D:=Rt Xi λi j=>.int (i*j)
def rT{KF:zE!}:Gr KF m0_ Nz:=d3o
def Fc:D->D->ι D:=Rt xr_ λi j=>.int (i%j)
def fL{KF:zE!}:Gr KF m1_ Fc:=d3p
def Jm:D->D->ι D:=Rt xs! λi j=>.int (i / j)
def oG{KF:zE!}:Gr KF m1! Jm:=c7t
def ED:D->D->ι D:=Rt xt! λi j=>.int m2_
def d3k{KF:zE!}:Gr KF m2! ED:=d3n
def Vk:D->D->ι D:=Hw λi j=>.bl m5_
def b3m{KF:zE!}:Gr KF m6! Vk:=d7i
def Yv:D->D->ι D:=Hw λi j=>.bl m7_
def a5r{KF:zE!}:Gr KF m8! Yv:=d7j
def KI:D->D->ι D:=Hw λi j=>.bl m8_
def d7h{KF:zE!}:Gr KF m9! KI:=d7k
section
variable{X:Cx}{own:List Nat}{pos p2:Pos}
def mO:Gb X m6_ zz_:=d7d.or b6d
def Rg:D->D->ι D
 |.int i,.int j=>Df! m7!
 |.str x,.str y=>Df! (Rx x y)
 |_,_=>υ
def mR{KF:zE!}:Gr KF zz_ Rg:=by
 show"!1";delta Rg at e;show"!7"
 .show"!C";exact .inl kZ!
 .show"!|";rcases e;exact .inr kZ!
 .rcases e
def AL:D->D->ι D
 |.int i,.int j=>Df! (!(i==j))
 |.str x,.str y=>Df! (!(x==y))
 |_,_=>υ
def zH{KF:zE!}:Gr KF JX AL:=by
 show"!1";delta AL at e;show"!7"
 .show"!C";exact j_;rw[b4o];exact He! k
 .show"!|";rcases e;exact j_;rw[b4n];exact He! k
 .rcases e
def gA(hm:∃t,X.mg x=ψ dN_)(hg:V!)(hd:C!:=by decide):J9_ cv! ae!:=by let#[t,ht]:=hm;exact c9r hg ht hd
end
def bF{X:Cx}{scope sc:Scope}(h:X.env.scope=sc)(hd:∀y∈cc_,y.2=.free->(sc.names.lookup y.1=ψ .cell\/sc.names.lookup y.1=ψ .free)):
  ∀y∈cc_,y.2=.free->wp_:=λy hy hf=>by
 delta Env.kindOf;rw[h];exact hd y hy hf
section
variable{X:Cx}{own:List Nat}{a b c:Expr}{pos p2:Pos}{fa fb fc:Ae->Option D}
def c4d(ho:b8!)(hg:ek!)(f9:iY_)(sm:Gr X.K r' g')(ha:I!)(J:cg!)(hc:De! c fc)
  (hm:iZ!:=by with_unfolding_all rfl):Ga! iZ_ (fT yo_):=
 xE (HG_ b9z) λZ G H Q ρ d er e k=>by
  let e:=lT e;let#[x,e1,e]:=LX.mp e;let#[y,e2,e]:=LX.mp e;let#[z,e3,e]:=LX.mp e;exact yp!;let on:=s1.trans fx!;cases z with
  |bl bb=>
   obtain rfl:=dI r3;exact yp_;cases bb with
   |true=>
    let#[u,e4,e]:=LX.mp e;exact nM #[G3,ρ,u,er.grow on,e4,λq G4 H4 s4 r4=>sm s4.sub yq! r4 e λv G5 H5 s5 r5=>?_];obtain rfl:=dI r5;exact#[d,χ,k G5 H5 yq_]
   |false=>
    cases e;exact nN #[θ,χ,k G3 H3 on]
  |_=>cases e
def b7q(hd:Vf X x b7)(hg:V!)(ha:I!)(hm:behindInMarks .NotIn dt_=false:=by rfl)(bh:C!:=by decide):Ga! (.Compare a [.NotIn] [cM!] pos) (fT (BR b7 τ fa)):=by
 show"#N";exact xE (t:=λZ H Q=>Eb! tD fa Z H λv H1=>∃y,v=.str y/\Q (!(Mr h1 es!).isSome) H1) yt! λZ G H Q ρ d er e k=>?_
 .exact XB (dP yt_ λv s1 ⟨y,H1,I1,r1,z,hz,q1⟩=>lN I1 hg kg ?_ bh) hm;subst hz;exact wpAny_notIn_of yu_ Y3 (xq _ I1.kIn).mapOf ?_;rw[<-(xr.val (H2! z)).isSome_eq];exact OT #[H1,I1.tok _,q1]
 .let e:=lT e;let#[x,e1,e]:=LX.mp e;cases x with
  |str y=>
   cases e;exact cg_;obtain rfl:=bP r1;exact#[y,χ,?_];let J:(Mr h1 es!).isSome=(px_).isSome:=by
    cases ht:He_ y with
    |none=>rw[(hn y).mpr ht];rfl
    |some d=>let#[v,hv,_]:=hs y d ht;rw[hv];rfl
   rw[J];exact k G1 H1 s1
  |_=>cases e
end
def eC:Dn! "len"=ψ tz!:=by decide+kernel
def d5w:Dn! "abs"=ψ tw!:=by decide+kernel
def d5u:Dn! "ord"=ψ tx_:=by decide+kernel
def b1u:Dn! "all"=ψ xE!:=by decide+kernel
def cW:Dn! "isinstance"=ψ o2!:=by decide+kernel
def c5h:Dn! "int"=ψ bj_:=by decide+kernel
def d0f:Dn! "bool"=ψ bA!:=by decide+kernel
def xM:Dn! "str"=ψ aW!:=by decide+kernel
def iN:Dn! "tuple"=ψ bf_:=by decide+kernel
def uK:Dn! "list"=ψ a0!:=by decide+kernel
def d5t:Dn! "zip"=ψ pK!:=by decide+kernel
def Dw(KF:zE!)(mg:U_)(x:Str)(st:Stmt)(ps:G_):Prop:=∃aj fd,Gb_ x x/\DS! KF/\mg x=ψ bT_
def Dk(N:G_)(n:δ)(q:cO!)(ds:d_):ι D:=if g_=n then(match q cS_ with|some (.rt d)=>ψ d|some (.nx _)=>ψ .non|none=>υ)else υ
def dY{KF:zE!}{st:Stmt}(h:zC!)(S:eg!)
  (J:∀{aj:yJ!} {am:yL!} {A:yK!} {outer:aO_} {s:yY!} {H:Hp} {E:XK},Ai k pS_->N.Nodup->GY_ Yx pT!):
  Ok P w KF mg base W! x ps (Dk N ps.length q):=by
 let#[aj,fd,F,B,m]:=h;exact#[aj,fd,d5g F S (λam A outer s H E hr=>J hr S.nd) (λds d hl e=>?_),B,m,F.kp];delta Dk at e;rw[MM hl]at e;show"!7"
 .rcases e;left;assumption
 .rcases e;right;exact#[_,by assumption,χ]
 .rcases e
def GA:Const->ι D
 |.int i=>ψ ae!
 |.str i=>ψ hm!
 |.bool i=>Df! i
 |.none=>ψ .non
 |_=>υ
mutual
noncomputable def Wp:Nat->Expr->Option D
 |0,_=>υ
 |n+1,e=>match e with
  |.Constant c _ _=>GA c
  |.Tuple es _ _=>(pT_).bind λds=>if g_<=1000 then ψ bQ_ else υ
  |.List es _=>(pT_).bind λds=>if g_<=1000 then ψ ce! else υ
  |_=>υ
noncomputable def Wo:Nat->List Expr->Option aK!
 |0,_=>υ
 |n+1,[]=>ψ []
 |n+1,e::es=>(Wp n e).bind λd=>(pT_).bind λds=>ψ ei!
end
section
variable{X:Cx}{own:List Nat}
def c2f(h:Wp n e=ψ d):Dm! aI!=e8_::Dm! es:=by
 cases n with
 |zero=>delta Wp at h;rcases h
 |succ n=>
  cases e<;>first|rfl|(simp[Wp]at h;done)
set_option tactic.hygienic true in
mutual
theorem gH:∀{n:δ} {e:Expr} {d:D},Wp n e=ψ d->J9_ e d
 |0,e,d,h=>by delta Wp at h;rcases h
 |n+1,e,d,h=>by
  delta Wp at h;split at h
  .delta GA at h;split at h
   .rcases h;exact aD
   .rcases h;exact aT
   .rcases h;exact fE
   .rcases h;exact dH
   .rcases h
  .let#[ds,e1,e2]:=LX.mp h;split at e2
   .rename_i hl;rcases e2;exact eG (dO (b1k e1)).ok λZ G H Q ρ d er e k=>?_;show"#J"
   .rcases e2
  .let#[ds,e1,e2]:=LX.mp h;split at e2
   .rename_i hl;rcases e2;exact eG (lW (b1k e1)).ok λZ G H Q ρ d er e k=>?_;show"#J"
   .rcases e2
  .rcases h
theorem b1k:∀{n:δ} {es:dR_} {ds:d_},Wo n es=ψ ds->DA X own es (λ_=>ψ ds)
 |0,e,d,h=>by delta Wo at h;rcases h
 |n+1,[],d,h=>by
  delta Wo at h;rcases h;exact aJ
 |n+1,e::es,d,h=>by
  delta Wo at h;let#[d1,e1,h]:=LX.mp h;let#[ds,e2,h]:=LX.mp h;rcases h;exact c4p (aE (gH e1) (b1k e2) (c2f e1)).ok λZ G H Q ρ d er e k=>#[G,ρ,_,er,e,k]
end
end
section
variable{P:yW!}{w:yM!}{KF:zE!}{mg:Str->Option Value}{h:Heap}
def aU{st:Stmt}{kV:yL!}(X:hT_)(G:eu_)
  (a:zF!)(l:zG!)
  (c:zG_)(k:k0!)
  (b:zH!):Dw KF mg x st ps:=
 #[f,_,k0_,pU!,k1!]
def EN(KF:zE!)(mg:U_)(x:Str)(st:Stmt)(ps:G_):Prop:=∃aj fd,Gb_ x x/\(∀us:List Value,as_=af!->bindArgs fd dk!=pure di_)/\mg x=ψ bT_
def c9o{st:Stmt}{kV:yL!}(X:hT_)(G:eu_)
  (a:zF!)(l:zG!)
  (c:zG_)(k:k0!)
  (b:zH!):EN KF mg x st ps:=
 #[f,_,k0_,Fw_ b _ _,k1!]
def qS(X:hT_)(G:eu_)(a:Ei! KF x=ψ (D9_ i)):∃tk,mg x=D9_ i:=#[tk,k1!]
def fV(X:hT_)(G:eu_)(e:Ei! KF x=Es_ V_):mg x=ψ V_:=W.mg_of X G e
def dS(X:hT_)(G:eu_)(e:Ei! KF x=ψ υ):mg x=none:=W.mg_none_of X G e
def a0a{KF:zE!}:∀(ns:q_),D6_ pU_ cb_
 |[]=>Al.nil
 |n::r=>E8! Aq.int (a0a r)
abbrev Wv:=Str×Tok×Addr
def DO(w:yM!)(r:Wv):DictEntry:=#[PyData.keyHash w.params r.1,.str r.1 r.2.1,.ref r.2.2]
def Wu(KF:zE!):μ Wv->μ ck!->ν
 |[],[]=>True
 |r::rs,t::ts=>r.1=t.1/\(∀H,Aq KF H t.2 (V.ref r.2.2))/\Wu KF rs ts
 |_,_=>False
abbrev Xg(rows:hU!):μ oA_:=rows.map λr=>(Sum.inr r.1,V.ref r.2.2)
abbrev Ue(rows:hU!):μ Bi!:=rows.map λr=>(Sum.inr r.1,Value.ref r.2.2)
def vB:∀(rows:hU!),Pairs bp_ zH_ pV!
 |[]=>.nil
 |r::rs=>.cons (nB P w r.1 r.2.1) χ (vB rs)
def rJ:∀{rows:hU!} {b7:hJ!},Wu KF rows b7->(Mr pV_ es!=υ↔b7.lookup y=υ)/\∀d,He_ y=ψ d->∃v,Mr pV_ es!=ψ v/\∀H,Dr! d v
 |[],[],_=>#[#[cA_,cA_],λd e=>by rcases e]
 |[],t::ts,h=>h.elim
 |r::rs,[],h=>h.elim
 |r::rs,(x,d0)::ts,h=>by
  let#[Y,h2,h3]:=h;let ih:=rJ (y:=y) h3;let jd:r.1=x:=Y;delta Mr at ih ⊢;simp![MO,RD,PM];by_cases e:y=x
  .subst e;let:decide zI_=true:=by simp[jd]
   simp![this,OH];exact#[#[zJ!,zJ!],λd z=>?_];rcases z;exact F3! h2
  .let e1:decide zI_=false:=by
    rw[jd];exact MU λz=>e (zJ_).symm
   let e2:(y==x)=false:=by simp[e]
   simp![e1,e2];exact ih
def b3y:∀(rows:hU!),KV pV_ pV!
 |[]=>.nil
 |r::rs=>.cons az_ (b3y rs)
def c3m{ad:yJ!}(hw:X.w=w)(hK:X.K=KF)(kg:X.mg=mg)(hm:mg x=ψ kG!)(hs:px!=θ)(hl:II_ ad=ψ {cls:=.type "dict",data:=.dict (zH_).toArray ep})
  (nd:fS!)(ht:Wu KF rows b7):Vf X x b7:=by
 subst hw hK kg;exact#[ad,Xg rows,Ue rows,hm,hs,λh hK=>#[_,_,_,hK _ _ hl,zL!,χ,?_,?_,?_],b3y rows,λy=>(rJ ht).1,λy d=>(rJ ht).2 d]
 .intro e he;let je:e∈rows.map (DO X.w):=by simpa using he
  let#[r,hr,rfl]:=NC.mp je;exact#[Sum.inr r.1,nB _ _ r.1 r.2.1,χ]
 .simpa using vB rows
 .let e:Dj_ pV!=(pX!).map (Sum.inr:Str->L2.Key):=by simp[Ue]
  rw[e];exact List.Pairwise.map _ (λa b lq z=>lq zJ_) nd
def a5b:∀(fs:bJ!),D6_ (fs.map D.fn) zL_
 |[]=>Al.nil
 |n::r=>E8! (by delta Aq;rfl) (a5b r)
def yS:∀(fs:bJ!),Ax zL_ zM!
 |[]=>.nil
 |n::r=>.cons χ (yS r)
def iK{fs:bJ!}(l:II_ a=ψ #[cV_,od,.seq (zM!).toArray n,sl])(hz:bq!<=1000)(H:Hp):Dr! (.tup (fs.map D.fn)) fs_:=
 Aq.tup (.inr #[_,_,n,l,χ,χ,by simpa using fN hz,by simpa using yS fs]) (a5b fs)
end
section
variable{own bg:List Nat}{e a b c o:Expr}{pos p2:Pos}{f fa fb fc fe:Ae->Option D}{fs fi:Ae->Option (List D)}{st:Stmt}
def a8d:Gk X aW! zM_:=by
 intro hb s Z H xs us Q I r h;obtain h|⟨z,rfl,q⟩:=h
 .exact DC! a3w xs us Q I r h
 .let#[u,rfl,t,rfl]:=iT r;exact PySem.P.str_of_str #[.str z,H,I,A_,q]
def Tp:μ D->ι D
 |[.int i]=>if dd!<1920 then ψ nd! else υ
 |[.str z]=>Et! z
 |_=>υ
def c5b:Md KF zM_ Tp:=by
 show"!:";delta Tp at e;show"!7"
 .show"!4";cases bC rv;show"!7"
  .rename_i hl;cases e;exact .inl #[_,χ,hl,kg!]
  .cases e
 .show"!4";cases bP rv;cases e;exact .inr (F3! kg!)
 .cases e
def b8a:Gk X bj_ zN!:=by intro hb s Z H xs us Q I r h;let#[z,n,rfl,hn,hl,q]:=h;let#[u,rfl,t,rfl]:=iT r;exact W.KIN.call_text hn hl #[ar!,H,aP_,A_,q]
def Xk:μ D->ι D
 |[.str z]=>if S!<=640 then(FO_ z).map D.int else υ
 |_=>υ
def d0d:Md KF zN! Xk:=by
 show"!:";delta Xk at e;show"!7"
 .show"!4";cases bP rv;show"!7"
  .rename_i hl;let#[n,e1,rfl]:=MQ.mp e;exact#[_,n,χ,e1,hl,dt!]
  .cases e
 .cases e
def HG:D->D->ι D
 |.str i,.str j=>ψ iY!
 |x,y=>Uw θ x y
def d3h:Gb X e4! (Ei_ X.K):=zF.or b6f
def d3l:Gr KF (Ei_ KF) HG:=by
 show"!1";delta HG at e;show"!7"
 .cases bP rx;cases bP ry;cases e;exact .inr kZ!
 .exact .inl (Ic_ d1h)
def Iz(x y:Str)(ak:δ):μ Str:=
 if(decide (dd_<aA_)||decide (EM_ x<EM_ y))=τ then[x]else
 if(pZ_).isEmpty=τ then[x]else Go_ x
def rE:∀(l:G_) (k:δ),Ax (l.map V.str) (strsFrom k l)
 |[],_=>.nil
 |y::r,k=>.cons #[k,χ] (rE r W!)
def zI(x y:Str)(ak:δ)(h:ak<=big+1):(Go_ x).length<=sizeLine:=by
 rw[length_partsBetween];let:=StrLaws.occ_length_le x y 0 x.length ak;let h2:big+2<=sizeLine:=by rw[OP];decide
 omega
def BD:V->μ V->Hp->VK->Prop:=λx vs H Q=>∃(z y:Str),x=.str z/\vs=[.str y]/\(aA_==0)=θ/\S!<=big/\∀p,H p=υ->Kx! ((zO_).map V.str)
def b6y:GP X "str.split" BD:=by
 intro hb s Z H x xs v us Q I rx r h;let#[z,y,rfl,rfl,hy,hz,q]:=h;let#[t,rfl]:=rx;let#[u,rfl,t',rfl]:=iT r;let q':=q _ I.fresh;delta Iz at q';cases Y:zP! with
 |true=>
  rw[Y]at q';exact J1_ (meets_str_split_cannot_occur z y t t' Y);exact k3_
 |false=>
  rw[Y]at q';cases hf:(FH_ (S!+1)).isEmpty with
  |true=>
   rw[hf]at q';exact J1_ (meets_str_split_not_found z y t t' Y hy hf);exact k3_
  |false=>
   rw[hf]at q';let hs:=zI z y (S!+1) a!;exact J1_ (meets_str_split_sep z y t t' Y hy hf (cO hz) hs);exact zQ_
def BC:V->μ V->Hp->VK->Prop:=λx vs H Q=>∃(z y:Str) (k:Int),x=.str z/\vs=[.str y,ev_]/\(aA_==0)=θ/\S!<=big/\0<=k/\k<=1000/\∀p,H p=υ->Kx! ((Iz z y k5!).map V.str)
def b6x:GP X "str.split" BC:=by
 intro hb s Z H x xs v us Q I rx r h;let#[z,y,k,rfl,rfl,hy,hz,k0,k1,q]:=h;let#[t,rfl]:=rx;let#[u,u2,rfl,#[t',rfl],#[t2,rfl]]:=a4h r;let q':=q _ I.fresh;let hk:(decide (k< -(2 ^ 63:Int))||decide (k>=2 ^ 63))=false:=by
  rw[Bool.or_eq_false_iff,RZ,RZ];omega
 let qc:limitOf z k<=big+1:=by
  delta limitOf big at *;split<;>omega
 delta Iz at q';cases Y:zP! with
 |true=>
  rw[Y]at q';exact EV! p1! (meets_str_split_max_cannot_occur z y k t t' t2 hk Y) ?_;exact k3_
 |false=>
  rw[Y]at q';cases hf:(FH_ k5!).isEmpty with
  |true=>
   rw[hf]at q';exact EV! p1! (meets_str_split_max_not_found z y k t t' t2 hk Y hy hf) ?_;exact k3_
  |false=>
   rw[hf]at q';let hs:=zI z y k5! qc;exact EV! p1! (meets_str_split_sep_max z y k t t' t2 hk Y hy hf (cO hz) hs) ?_;exact zQ_
def Rw(l:G_):D:=.lst (l.map D.str)
def rO:∀(l:G_),D6_ (l.map D.str) (l.map V.str)
 |[]=>Al.nil
 |_::r=>E8! Aq.str (rO r)
def Pk:D->D->ι D
 |.str z,.str y=>if aA_≠0/\S!<=big then ψ (Rw zO_)else υ
 |_,_=>υ
def Nf(fo fa:n_):Ae->ι D:=λρ=>(kL_).bind λx=>(cf_).bind λy=>Pk x y
def b7v(ho:kM!)(ha:I!)
  (cy:zR!:=by rfl)
  (cz:(EL_ fL_&&DY_ bg_
   &&decide fM!)=true:=by rfl)
  (c8:bO!:=by rfl) (hs:em_:=by rfl) (b9:dw!:=by rfl):
  DE X own (Hf! zR_ ai) (Nf fo fa):=
 eG (Ea! b6y kM_) λZ G H Q ρ d er e k=>by
  show"!@";delta Pk at e;show"!7"
  .show"!7"
   .rename_i hl;show"!M";exact#[_,_,χ,χ,zS!,hl.2,λp hp=>k _ _ _ (DQ! bT! (K6! s2.sub hp)) (cJ (s2.sub.free hp) (rO _))]
   .cases e
  .cases e
def Pj:D->D->D->ι D
 |.str z,.str y,.int k=>if aA_≠0/\S!<=big/\0<=k/\k<=1000 then ψ (Rw (Iz z y k5!))else υ
 |_,_,_=>υ
def Xm(fo fa fb:n_):Ae->ι D:=λρ=>(kL_).bind λx=>(cf_).bind λy=>(hn_).bind λz=>Pj x y z
def b7u(ho:kM!)(ha:I!)(J:cg!)
  (cy:zR!:=by rfl)
  (cz:(Ka_ O!&&DY_ bg_
   &&decide (GW! O!))=true:=by rfl)
  (c8:bO!:=by rfl) (hs:zU_:=by rfl) (bo:zV!:=by rfl) (b9:(F9_ zu!).any d!=false:=by rfl):
  DE X own (Jo_ zR_ O!) (Xm fo fa fb):=
 eG (Ea! b6x zx_) λZ G H Q ρ d er e k=>by
  show"!@";let#[z,e3,e]:=LX.mp e;delta Pj at e;show"!7"
  .show"!7"
   .rename_i hl;show"!M";exact#[G2,ρ,_,er.grow bT!,e3,λw G3 H3 s3 r3=>?_];cases bC r3;exact#[_,_,_,χ,χ,zS!,hl.2.1,hl.2.2.1,hl.2.2.2,λp hp=>k _ _ _ (DQ! wZ_ (K6! s3.sub hp)) (cJ (s3.sub.free hp) (rO _))]
   .cases e
  .cases e
def c9k:DH_ DS st gI!:=#[λG0 F0 hb s Z H E I ⟨G,ρ,r,er,e,k⟩=>by cases e]
def c4e{hs:zW!}(J:I8! Yx):DH_ DS zW_ q1:=⟨λG0 F0 hb s Z H E I ⟨G,ρ,r,er,e,k⟩=>by
 exact EY_ (J.ok G0 F0 hb s Z H E mD_ #[G,ρ,r,er,e,k]);cases f with
 |next=>exact UR cw_
 |brk=>exact cw_
 |cont=>exact cw_
 |ret u=>exact cw_⟩
end
abbrev MK:=Dl_ (Sum L2.Key (μ L2.Key))
abbrev FY:Int:=0xFCA86420
section
variable{P:yW!}{w:yM!}{A:yK!}{E:Value->Shared->Prop}{s:yY!}
variable (P w)in
def Ju(h:Heap):MK->Value->ν
 |none,v=>v=.none
 |some (.inl k),v=>Qr k v=τ
 |some (.inr ks),v=>∃a,v=.ref a/\IsTupleKey bp_ h ks a
variable (P w)in
nonrec def mkHash:MK->Int
 |none=>FY
 |some (.inl k)=>GB w k
 |some (.inr ks)=>tupleKeyHash bp_ ks
def a6g(hx:Id! x v)(hy:Id! y v):x=y:=by
 obtain _|x|x:=x<;>obtain _|y|y:=y
 .rfl
 .cases zY!;obtain⟨i,t,_,e⟩|⟨i,t,_,e⟩:=bX hy<;>exact nomatch e
 .cases zY!;let#[a,e,_]:=hy;exact nomatch e
 .cases hW!;obtain⟨i,t,_,e⟩|⟨i,t,_,e⟩:=bX hx<;>exact nomatch e
 .rw[(bp_).inj v x y hx hy]
 .let#[a,rfl,_]:=hy;obtain⟨i,t,_,e⟩|⟨i,t,_,e⟩:=bX hx<;>exact nomatch e
 .cases hW!;let#[a,e,_]:=hx;exact nomatch e
 .let#[a,rfl,_]:=hx;obtain⟨i,t,_,e⟩|⟨i,t,_,e⟩:=bX hy<;>exact nomatch e
 .let#[a,rfl,hx]:=hx;let#[b,e,hy]:=hy;cases e;rw[hx.inj hy]
def lC(x:IsTupleKey bp_ h ks a):∃its,h.IsTuple a its:=by let#[o,its,n,Y,h2,h3,_]:=x;exact#[its,o,Y,h2,n,h3]
def c1u(hu:aq!)(hx:p3_)(hy:Hg_ y)(h:E3_ Q (x=y) s):J0! (eqBool u v):=by
 obtain _|x|x:=x<;>obtain _|y|y:=y
 .cases hW_;cases hW!;rw[ew!]at h;exact Fw_ SeqAt.EqAt.same _ h
 .cases hW_;rw[fV!]at h;obtain⟨i,t,rfl,rfl⟩|⟨i,t,rfl,rfl⟩:=bX hy
  .exact Gc! SeqAt.EqAt.none_int
  .exact Gc! SeqAt.EqAt.none_str
 .cases hW_;rw[fV!]at h;let#[a,rfl,q]:=hy;let#[its,q]:=lC q;exact SeqAt.EqAt.none_tuple q hu _ _ _ _ h
 .cases hW!;rw[fV!]at h;obtain⟨i,t,rfl,rfl⟩|⟨i,t,rfl,rfl⟩:=bX hx
  .exact Gc! SeqAt.EqAt.int_none
  .exact Gc! SeqAt.EqAt.str_none
 .exact(bp_).eqBool hx hy ?_;by_cases e:x=y
  .subst e;rw[ew!]at h ⊢;exact h
  .rw[MU c3_]at h;rw[MU e];exact h
 .rw[fV!]at h;let#[a,rfl,q]:=hy;let#[its,q]:=lC q;obtain⟨i,t,rfl,rfl⟩|⟨i,t,rfl,rfl⟩:=bX hx
  .exact EV_ SeqAt.EqAt.int_tuple
  .exact EV_ SeqAt.EqAt.str_tuple
 .cases hW!;rw[fV!]at h;show"#1";let#[its,q]:=lC q;exact SeqAt.EqAt.tuple_none q hu _ _ _ _ h
 .rw[fV!]at h;let#[a,rfl,q]:=hx;let#[its,q]:=lC q;obtain⟨i,t,rfl,rfl⟩|⟨i,t,rfl,rfl⟩:=bX hy
  .exact EV_ SeqAt.EqAt.tuple_int
  .exact EV_ SeqAt.EqAt.tuple_str
 .show"#1";let#[b,rfl,q2]:=hy;exact wpAny_eqBool_tuple hu q q2 ?_;by_cases e:x=y
  .subst e;rw[ew!]at h ⊢;exact h
  .rw[MU c3_]at h;rw[MU e];exact h
def a6f(hx:p3_)(h:Q τ s):J0! (eqIsQuiet 8 u):=by
 obtain _|x|x:=x
 .cases hW_;rw[eqIsQuiet_byValue _ χ];exact LZ h
 .rw[eqIsQuiet_byValue _ ((bp_).byValue x u hx)];exact LZ h
 .show"#1";exact wpAny_eqIsQuiet_tuple q h
def uB(hu:aq!)(hx:p3_)(h:∀tk,Q (mkHash P w x) {s with toks:=tk}):J0! (pyHash u):=by
 obtain _|x|x:=x
 .cases hW_;delta pyHash;let hv:[gi!].any Value.onHeap=false:=χ;exact LW ?_;rw[cRoomFor,JF_ hv];exact LZ ?_;let hT:s.TypeIs .none "NoneType":=χ;exact LW zZ!;rw[MY (show¬(ψ (Value.builtin "NoneType.__hash__")==ψ Value.none)=τ by rw[beq_builtin_none];exact NO)];exact LW zZ!;exact LW (wpAny_callSpecialIfBoundUnlessNone?_slot hT SX (OM SX hT PySem.F.entry_NoneType_hash ?_ (PySem.F.args_NoneType_hash_1 _)));exact wpAny_ret_mkInt ?_;exact LZ (h _)
 .exact(bp_).pyHash hx (h _)
 .show"#1";exact wpAny_pyHash_tuple hu q (h _)
end
def Lu(ks:hZ!)(k:MK):ι Nat:=ks.findIdx? λx=>decide (x=k)
def Gw(ks:hZ!)(k:MK)(i:δ):Bool:=decide (ks[i]?=ψ k)
def qJ(h:z1!):ks[j]?=ψ k/\∀i,i<j->ks[i]?≠ψ k:=by let#[Y,h2,h3]:=XF.mp h;exact#[by rw[ND Y];exact congrArg ψ (PB h2),λi hi e=>?_];let:=h3 i hi;let#[q1,q2]:=NH.mp e;rw[q2]at this;simp at this
def a6p(h:Lu ks k=υ)(i:δ):ks[i]?≠ψ k:=λe=>by
 let:=List.findIdx?_eq_none_iff.mp h k (SZ e);simp at this
def b1b(ks:hZ!)(k:MK):(Ee! k6_).find? dD_=Lu ks k:=by
 cases h:Lu ks k with
 |none=>
  rw[List.find?_eq_none];intro i hi z;exact a6p h i (PB z)
 |some j=>
  let#[Y,h2]:=qJ h;rw[List.find?_range_eq_some];exact#[by delta Gw;exact NG Y,RQ.mpr (ks_).1,λi hi=>?_];delta Gw;rw[MU (h2 i hi)];rfl
section
variable{P:yW!}{w:yM!}{A:yK!}{E:Value->Shared->Prop}{s:yY!}
variable (P w)in
structure Nm(h:Heap)(es:jQ_)(ks:hZ!):Prop where
 len:es.size=k6_
 at_:∀(i:δ) (e:DictEntry) (k:MK),es[i]?=ψ e->ks[i]?=ψ k->Id! k e.key/\e.hash=mkHash P w k
 nd:h0_
def Nm.get(x:k7_){i:δ}(q:es[i]?=ψ e):∃k,ks[i]?=ψ k/\Id! k e.key/\e.hash=mkHash P w k:=by
 let hl:i<k6_:=by rw[<-x.len];exact(VE.mp q).1
 exact#[ks[i],ND hl,x.at_ i e _ q (ND hl)]
def Nm.one(x:k7_)(Y:FW_ i=τ)(h2:FW_ j=τ):i=j:=by let e1:=PB Y;let e2:=PB h2;exact(List.getElem?_inj (NH.mp e1).1 x.nd).mp r5_
abbrev plc(es:jQ_)(h:Int):μ Nat:=placesWithHash es.size (λi=>es[i]?.map (·.hash)) h
def a7i{es:jQ_}{ks:hZ!}(x:k7_)(k:MK):(k9!).find? dD_=Lu ks k:=by
 delta plc placesWithHash;rw[List.find?_filter,<-b1b,x.len];congr 1;funext i;cases hp:FW_ i with
 |false=>simp
 |true=>
  let e1:=PB hp;let hl:i<es.size:=by rw[x.len];exact(NH.mp e1).1
  let#[k',q1,q2,q3]:=Gu! hl;rw[e1]at q1;rcases q1;simp[OG hl,q3]
def c0e(hi:i∈plc es h):i<es.size:=by let:=(NT.mp hi).1;simpa using this
def d2v:(plc es h).Nodup:=List.nodup_range.sublist TY
def a8r(hu:aq!)(x:z2_)(hk:ex!)
  (ho:z2!)(hd:z3!)(h:Q h2! s):oW_ E_ z3_:=by
 show"!o";generalize plc es dE!=L at hf hl ⊢;rw[<-hf]at h;delta dictWalkPlain;exact LW (WM _ (λrest b s'=>s'=s/\b=h2_/\rest.find? dD_=L.find? dD_/\∀i∈rest,i<es.size) _ ?_ ?_ _ _ #[rfl,rfl,rfl,hl])
 .rintro i rest b s' ⟨rfl,rfl,Y,h2⟩;let ar:=h2 i MB;let he:=OG ar;let#[k',q1,q2,q3]:=x.get he;let no:k'≠k->rest.find? dD_=L.find? dD_:=λbe=>by
   rw[<-Y,RD];let:FW_ i=false:=by delta Gw;rw[q1];exact MU z5!
   rw[this]
  show"#;";rw[he];show"#:";split
  .exact LW p7!;rw[bx_];by_cases mh:k'=k
   .subst mh;rw[ew!];let hi:Gw ks k' i=true:=by delta Gw;exact NG q1
    let:L.find? (Gw ks k')=ψ i:=by rw[<-Y,RD,hi]
    rw[this]at h;exact Fz! (LZ (LZ h))
   .rw[MU mh];exact Fz! (LZ #[χ,χ,no mh,rs])
  .rename_i hh;exact LZ #[χ,χ,no z6_,rs]
 .rintro b s' ⟨rfl,rfl,Y,_⟩;rw[<-Y]at h;exact LZ h
def a4j(hk:ex!)(hl:∀v∈L,∃k',Hg_ k')(h:Q θ s):J0! (tableMayTell u L):=by
 delta tableMayTell;split
 .exact LZ h
 .exact ET_ a6f hk;rw[bY!];exact LW (WM _ (λrest r s'=>s'=s/\r=h2_/\∀v∈rest,v∈L) _ ?_ ?_ _ _ #[χ,χ,λ_ z=>z])
  .rintro v rest r s' ⟨rfl,rfl,hr⟩;let#[k',q]:=hl v (hr v MB);exact ET_ a6f q;rw[bY!];exact LZ #[χ,χ,λy hy=>hr y cH_]
  .rintro r s' ⟨rfl,rfl,_⟩;exact LZ h
def c5y(q1:z7!)(e:k'=k):FW_ i=true:=by delta Gw;rw[<-e];exact NG q1
def b5c{rest:i_}(hc:(ax=υ/\(i::rest).find? dD_=Lu ks k)\/∃j,ax=ψ j/\Lu ks k=ψ j/\FW_ j=τ/\j∉i::rest)(q1:z7!)(be:¬k'=k):
  z8!\/∃j,ax=ψ j/\Lu ks k=ψ j/\FW_ j=τ/\j∉rest:=by
 obtain⟨e,Y⟩|⟨j,e,Y,h4,h5⟩:=hc
 .exact .inl jI!;rw[<-Y,RD];let:FW_ i=false:=by delta Gw;rw[q1];exact MU z5!
  rw[this]
 .exact .inr #[j,e,Y,h4,λz=>h5 (LY _ z)]
def sH(q:Id! k v):v.isStr z=decide (k=ψ fW!):=by
 by_cases e:k=ψ fW!
 .subst e;rw[ew!];obtain⟨i,t,e,_⟩|⟨i,t,e,rfl⟩:=bX q
  .cases e
  .cases e;simp[Value.isStr]
 .rw[MU e];cases v<;>first|rfl|skip
  rename_i y t;simp![Value.isStr,OL,ne_eq];rintro rfl;exact e (a6g q (sD y t))
def c3r(x:k7_)(z:Str):(es.findIdx? λe=>e.key.isStr z)=Lu ks (ψ fW!):=by
 cases hk:Lu ks (ψ fW!)with
 |none=>
  rw[Array.findIdx?_eq_none_iff];intro e he;let#[i,hi]:=Array.mem_iff_getElem?.mp he;let#[k',q1,q2,_]:=x.get hi;rw[sH q2];exact MU λ(e:k'=_)=>a6p hk i z9_
 |some j=>
  let#[Y,h2]:=qJ hk;let hj:j<es.size:=by rw[x.len];exact(ks_).1
  rw[Array.findIdx?_eq_some_iff_getElem];exact#[hj,?_,λi hi=>?_]
  .let#[k',q1,q2,_]:=Gu! hj;rw[sH q2];rw[Y]at q1;rcases q1;exact NG χ
  .let#[k',q1,q2,_]:=Gu! (Nat.lt_trans hi hj);rw[sH q2,MU (λ(e:k'=_)=>h2 i hi z9_)];decide
def d6t(h:∃T:Prop,(T->g)/\T):g:=by let#[_,f,k]:=h;exact f k
def qT(hu:aq!)(x:z2_)(hk:ex!)
  (ho:z2!)(hd:z3!)(h:Q h2! s):J0! (dictFind d u dE!):=by
 let bp:∀v∈(k9!).filterMap (λi=>es[i]?.map la_),∃k',Hg_ k':=λv hv=>by
  let#[i,_,e]:=SH.mp hv;let#[e',e1,rfl]:=MQ.mp e;let#[k',_,q,_]:=x.get e1;exact#[k',q]
 let hany:¬(es.any λe=>e.key==u&&e.hash != mkHash P w k)=true:=λz=>by
  let#[i,hi,z]:=Array.any_eq_true.mp z;rw[NQ,PP,bne_iff_ne]at z;let#[k',_,q,q3]:=Gu! hi;rw[z.1]at q;exact z.2 (by rw[q3,a6g q hk])
 show"!o";let qi:(k9!).Nodup:=d2v;let ba:oW_ E_ z3_:=a8r hu x hk ho hd h;delta dictFind;exact Ko! p9!;exact d6t ?_;apply Exists.intro;apply And.intro
 .intro tl;let xb:(∃a,u=.ref a)\/(∃z t,u=.str z t/\k=ψ fW!)\/(u=.none\/∃i t,u=.int i t):=by
   clear tl;obtain _|k|k:=k
   .exact Dt_ (.inl hk)
   .obtain⟨i,t,rfl,rfl⟩|⟨i,t,rfl,rfl⟩:=bX hk
    .exact JO! #[i,t,χ]
    .exact Er_ #[i,t,χ,χ]
   .let#[a,rfl,_]:=hk;exact .inl #[a,χ]
  obtain⟨a,ea⟩|⟨z,t,ea,ZF⟩|ea|⟨i,t,ea⟩:=xb
  all_goals rw[ea]
  all_goals dsimp only
  rotate_left
  exact Hh! (λi'=>?_) λ_=>?_
  .clear tl;delta foundByValue;rw[c3r x z,<-ZF];cases hj:Lu ks k with
   |none=>rw[hj]at h;exact LZ h
   |some j=>
    let#[Y,_]:=qJ hj;let ar:j<es.size:=by rw[x.len];exact(ks_).1
    let#[k',q1,q2,_]:=Gu! ar;rw[Y]at q1;rcases q1;show"#:";rw[OG ar,<-ea];exact LW p7!;rw[bx_,ew!];rw[hj]at h;exact Fz! (LZ h)
  all_goals rw[<-ea]
  all_goals exact Hh! (λ_=>ba) λ_=>?_
  rotate_right
  rw[MY hany]
  all_goals exact Hh! (λ_=>LW Y_) λ_=>LW (a4j hk bp ?_)
  all_goals rw[bY!]
  all_goals exact tl
 exact LW (WM _ (λrest b s'=>s'=s/\∃ax,b=(υ,ax)/\(∀i∈rest,i<es.size)/\rest.Nodup/\
  (z8!\/∃j,ax=ψ j/\Lu ks k=ψ j/\FW_ j=τ/\j∉rest)) _ ?_ ?_ _ _ #[χ,υ,χ,hl,qi,.inl #[χ,hf]])
 rotate_left
 .rintro b s' ⟨rfl,ax,rfl,_,_,hc⟩;obtain⟨rfl,Y⟩|⟨j,rfl,Y,_⟩:=hc
  .rw[<-Y]at h;exact LZ h
  .rw[Y]at h;exact LZ h
 .rintro i rest b s' ⟨rfl,ax,rfl,h2,h3,hc⟩;let ar:=h2 i MB;let he:=OG ar;let#[k',q1,q2,q3]:=x.get he;let#[n1,n2]:=NJ.mp h3;show"#;";let stay:=λbe=>b5c hc q1 be;rw[he];show"#:";split
  .exact LW p7!;rw[bx_];by_cases mh:k'=k
   rotate_left
   .rw[MU mh];simp![NW,OY,Bool.false_and];exact Fz! (J2! mh)
   .let hi:=c5y q1 mh;rw[NG mh];obtain⟨rfl,Y⟩|⟨j,e,Y,h4,h5⟩:=hc
    .let hL:=Y;rw[RD,hi]at hL;dsimp only[if_true,Option.isSome_none,Bool.false_eq_true,if_false];exact LW fN_;split
     .rw[<-hL]at h;exact Id_ h
     .exact LZ #[χ,M_,χ,rs,n2,.inr #[i,χ,hL.symm,hi,n1]]
    .exact Df_ (x.one hi h4) λz=>h5 (z▸MB)
  .rename_i hh;exact J2! z6_
end
def Nn(h:Heap)(a:yJ!)(es:cW_)(ep:δ):Prop:=∃o,h.get? a=ψ o/\iv!/\o.data=H2_ es.toArray
def Nn.typeIs{s:yY!}(D:h3!):F9! V_ "dict":=by let#[o,ho,hc,_]:=D;exact#[o,ho,hc.1]
def BQ(es:cW_)(j:Dl_ δ)(h:Int)(u v:yL!):μ DictEntry:=match j with
 |some j=>es.modify j λe=>{e with val:=v}
 |none=>es++[#[h,u,v]]
def FW(j:Dl_ δ)(ep:δ):Nat:=match j with
 |some _=>ep
 |none=>ep+1
section
variable{P:yW!}{w:yM!}{A:yK!}{E:Value->Shared->Prop}{s:yY!}{a:yJ!}{es:List DictEntry}{ep:Nat}{ks:List MK}{k:MK}{u v:yL!}
def d8e(hu:aq!)(D:h3!)(x:lc_)(hk:ex!)(h:∀tk,Q ((h2!).bind λj=>es[j]?.map (·.val)) {s with toks:=tk}):
  wpAny E_ A (dictGet a u) Q E s:=by
 let#[o,ho,_,hd]:=D;delta dictGet;exact OJ qa_;let h:=h tk;cases hj:Lu ks k with
 |none=>rw[hj]at h;exact LZ h
 |some j=>
  rw[hj]at h;exact LW (RJ ho hd Y_);rw[RN];exact h
def uJ{h:Heap}(ho:h.get? a=ψ o)(hc:iv!)(hd:o.data=H2_ es.toArray)(he:f es.toArray=a9.toArray):
  Nn (h.update a (Obj.mapDict f)) a a9 ep/\Nn (h.update a (Obj.mapDictKeys f)) a a9 cn!:=
 #[#[_,TL _ ho (HA_ Obj.data_mapDict),hc.mapDict _,by rw[Obj.data_mapDict hd,he]],#[_,TL _ ho (HA_ Obj.data_mapDictKeys),hc.mapDictKeys _,by rw[Obj.data_mapDictKeys hd,he]]]
def d8c(hu:aq!)(D:h3!)(x:lc_)(hk:ex!)(hl:qc_)
  (h:∀h' tk,Nn h' a (BQ es h2! dE! u v) (FW h2! ep)->Dy! a->Q () {s with heap:=h',toks:=tk}):oW_ E_ Ae_:=by
 let#[o,ho,hc,hd]:=D;delta dictSet;exact Ko! (uB hu hk λtk=>?_);delta dictSetHashed;exact Ko! Ad!;cases hj:Lu ks k with
 |none=>
  rw[hj]at h;exact Fz! (XN ho hd (h _ tk (Af!).2 eu!))
 |some j=>
  rw[hj]at h;exact Fz! (LW (wpAny_updateDict ho hd (wpAny_point (h _ tk (Af!).1 eu!))))
def qW(hu:aq!)(D:h3!)(x:lc_)(hk:ex!)(hl:qc_)
  (Y:∀j e tk,Lu ks k=ψ j->es[j]?=ψ e->Q e.val {s with toks:=tk})
  (h2:∀h' tk,Lu ks k=υ->Nn h' a (es++[#[mkHash P w k,u,v]]) cn!->Dy! a->Q v {s with heap:=h',toks:=tk}):J0! (dictSetDefault a u v):=by
 let#[o,ho,hc,hd]:=D;delta dictSetDefault;exact OJ qa_;cases hj:Lu ks k with
 |none=>
  exact Fz! (LW (XN ho hd (LZ (h2 _ tk hj (uJ ho hc hd c!).2 eu!))))
 |some j=>
  let ar:j<al_:=by
   let:=(NH.mp (qJ hj).1).1;rw[<-x.len]at this;simpa using this
  exact LW p9!;rw[RN,ND ar];exact Fz! (LZ (Y j _ tk hj (ND ar)))
def d4x(hu:aq!)(D:h3!)(x:lc_)(hk:ex!)(hl:qc_)(hj:z1!)(he:es[j]?=ψ e)
  (h:∀h' tk,Nn h' a Af_ cn!->Dy! a->Q iL! {s with heap:=h',toks:=tk}):oW_ E_ Ag!:=by
 let#[o,ho,hc,hd]:=D;delta Builtin.Dict.takeOut;exact OJ qa_;rw[hj];exact LW p9!;rw[RN,he];let ar:=(NH.mp he).1;exact LW (XN ho hd (LZ (h _ tk (uJ ho hc hd ?_).2 eu!)) (hf:=?_))
 .rw[Array.eraseIdxIfInBounds,dif_pos qe!];simp
 .rw[Array.eraseIdxIfInBounds];split
  .rw[Array.size_eraseIdx];omega
  .omega
end
def Kz:μ D->JP! L2.Key
 |[]=>ψ []
 |.int i::r=>(Kz r).map (Sum.inl i::·)
 |.str x::r=>(Kz r).map (Sum.inr x::·)
 |_::_=>υ
def Co:D->Dl_ MK
 |.non=>ψ υ
 |.int i=>Es_ (.inl (.inl i))
 |.str x=>Es_ (J1! x)
 |.tup xs=>(Kz xs).map λks=>ψ (.inr ks)
 |_=>υ
def zW:∀{xs ys:d_} {ks:μ L2.Key},Kz xs=ψ ks->Kz ys=ψ ks->xs=ys
 |[],ys,ks,h,h'=>by
  cases h;cases ys with
  |nil=>rfl
  |cons y r=>cases y<;>simp[Kz]at h'
 |x::xs,[],ks,h,h'=>by
  cases h';cases x<;>simp[Kz]at h
 |x::xs,y::ys,ks,h,h'=>by
  cases x<;>simp![Kz]at h<;>first|(rcases h;done)|skip
  all_goals (let#[l,e1,rfl]:=MQ.mp h)
  all_goals (cases y<;>simp![Kz]at h'<;>first|(rcases h';done)|skip)
  all_goals (let#[l',e2,e3]:=MQ.mp h')
  all_goals (injection e3 with e4 e5)
  all_goals first|(injection e4;done)|skip
  all_goals (injection e4 with e4;subst e4 e5;rw[zW e1 e2])
def b3t(h:aG!)(h':aU!):x=y:=by
 cases x<;>simp![Co]at h<;>first|(rcases h;done)|skip
 all_goals (cases y<;>simp![Co]at h'<;>first|(rcases h';done)|skip)
 all_goals first
  |rfl
  |(cases h;cases h';rfl)
  |(cases h;cases h')
  |(cases h;let#[l,e1,e2]:=MQ.mp h';cases e2)
  |(cases h';let#[l,e1,e2]:=MQ.mp h;cases e2)
  |(let#[l,e1,e2]:=MQ.mp h;let#[l',e3,e4]:=MQ.mp h';cases e2;cases e4;rw[zW e1 e3])
def Ck(KF:zE!)(G:Hp)(d:D)(u:yL!):Prop:=∃v,DZ! G v/\Bi v u
def Ck.mono{KF:zE!}(e:ld_)(h:Hh_ G):Hh_ G':=by let#[v,Y,h2]:=h;exact#[v,Y.mono e,h2]
def a5a{KF:zE!}:∀{ds:d_} {vs:s_} {ks:μ L2.Key},Da! G->Kz ds=ψ ks->vs=ks.map kV
 |[],vs,ks,r,e=>by cases cR r;cases e;rfl
 |d::ds,vs,ks,r,e=>by
  let#[v,t,rfl,r1,r2]:=bR r;cases d<;>simp![Kz]at e<;>first|(rcases e;done)|skip
  all_goals (let#[l,e1,rfl]:=MQ.mp e;rw[a5a r2 e1])
  .cases bC r1;rfl
  .cases bP r1;rfl
def rL(I:e_)(sub:K_)(r:bY_)(e:bo!):DE! Ju s.heap k u:=by
 let#[v,r,ru]:=r;cases d<;>simp![Co]at e<;>first|(rcases e;done)|skip
 .cases e;cases eS r;exact ru
 .cases e;cases bC r;let#[t,rfl]:=ru;exact zX _ _
 .cases e;cases bP r;let#[t,rfl]:=ru;exact sD _ _
 .let#[ks,e1,rfl]:=MQ.mp e;let#[a,vs,rfl,q,rr]:=bV r;cases ru;show"#8";rw[a5a rr e1]at rv;exact#[a,χ,o,an_,n,Y,h2,h3,by simpa using sE rv]
open Classical in
nonrec def kget:μ ar_->D->ι D
 |[],_=>υ
 |(k,v)::r,d=>if k=d then ψ v else kget r d
open Classical in
def Br:μ ar_->D->D->μ ar_
 |[],d,v=>[(d,v)]
 |(k,x)::r,d,v=>if k=d then(k,v)::r else(k,x)::Br r d v
open Classical in
def Hu:μ ar_->D->μ ar_
 |[],_=>[]
 |(k,x)::r,d=>if k=d then r else(k,x)::Hu r d
section
variable{P:yW!}{w:yM!}{KF:zE!}{G G':Hp}
variable (P w KF G)in
def GR(p:D×D)(e:DictEntry):Prop:=Ck KF G p.1 e.key/\Ck KF G p.2 e.val/\∃k,Co p.1=ψ k/\e.hash=mkHash P w k
variable (P w KF G)in
def Ha(h1:q!)(es:cW_):Prop:=DX_ (GR P w KF G) h1 es/\(fX_).Nodup
def Ha.mono(e:ld_)(h:fZ!):Db! Ha G' h1 es:=
 #[Paired.mapP h.1 λp q z=>#[z.1.mono e,z.2.1.mono e,z.2.2],h.2]
def Ht(h1:q!):μ MK:=h1.map λp=>(Co p.1).getD υ
def gZ:∀{l:X!} {m:μ β} {i:δ} {a:α},E9_ l m->l[i]?=ψ a->∃b,m[i]?=ψ b/\F a b
 |_,_,_,_,.nil,e=>by simp at e
 |_,_,0,_,.cons r _,e=>by simp at e;subst e;exact l7!
 |_,_,i+1,a,.cons _ t,e=>by
  let#[b,Y,h2]:=gZ t c3_;exact#[b,l6_,h2]
def oU(h:E9_ l m)(h':E9_ l' m'):E9_ (l++l') (m++m'):=by
 induction h with
 |nil=>exact h'
 |cons r _ ih=>exact F6_ r
def xV{l:X!}{m:μ β}(j:δ)(h:E9_ l m):(∀a b,l[j]?=ψ a->m[j]?=ψ b->F a b->F (f a) (g b))->E9_ (l.modify j f) (m.modify j g):=by
 induction h generalizing j with
 |nil=>intro _;simpa using Paired.nil
 |cons r t ih=>
  intro h;cases j with
  |zero=>exact .cons (h _ _ χ χ r) t
  |succ j=>exact .cons r (ih j λa b e1 e2=>h a b (Di_ e1) (Di_ e2))
def pY:∀{l:X!} {m:μ β} (j:δ),E9_ l m->E9_ (l.eraseIdx j) (m.eraseIdx j)
 |_,_,_,.nil=>.nil
 |_,_,0,.cons _ t=>t
 |_,_,j+1,.cons r t=>.cons r (pY j t)
def Ha.ents(I:e_)(sub:K_)(h:yJ_ Ha G h1 es):Kb! Nm:=by
 let#[Y,h2]:=h;exact#[by simp[Ht,TV Y],λi e k he hk=>?_,?_]
 .rw[RN]at he;delta Ht at hk;rw[OC]at hk;let#[p,hp,rfl]:=MQ.mp hk;let#[e',je,q1,_,k',q2,q3]:=gZ Y hp;rw[he]at je;cases je;rw[q2];exact#[rL I sub q1 q2,q3]
 .let kz:∀{l:q!} {m:cW_},Paired (yJ_ GR G) l m->(ex_).Nodup->(Ht l).Nodup:=by
   intro l m hp
   induction hp with
   |nil=>intro _;exact QC
   |@cons p e l m q t ih=>
    intro nd;rw[MO,NJ]at nd;show(_::Ht l).Nodup;rw[NJ];exact#[co!,ih nd.2];let#[p',bz,e']:=NC.mp z;let#[_,_,k,hk,_]:=q;let#[i,hi]:=SK.mp bz;let#[_,_,_,_,k',cm,_]:=gZ t hi;dsimp only at e';rw[hk,cm]at e';let:k'=k:=e';subst this;exact nd.1 (NC.mpr #[p',bz,b3t cm hk])
  exact kz Y h2
def Ha.look(h:fZ!)(hd:bo!):
  (Lu fZ_ k=υ/\Et_ d=υ/\(∀v,Br h1 d v=h1++[(d,v)])/\d∉h1.map d!)\/∃j x e,Lu fZ_ k=ψ j/\h1[j]?=ψ dF_/\es[j]?=ψ e/\Et_ d=ψ x/\Ck KF G x e.val/\(∀v,Br h1 d v=h1.modify j λp=>(p.1,v))/\Hu h1 d=h1.eraseIdx j:=by
 let#[Y,h2]:=h
 induction Y with
 |nil=>exact .inl #[χ,χ,cA_,Q!]
 |@cons p e l m q t ih=>
  let#[y,z]:=p;rw[MO,NJ]at h2;let#[_,q2,k',q3,_]:=q;let q3:=q3;let oq:Ht ((y,z)::l)=k'::Ht l:=by delta Ht;rw[MO,q3];rfl
  by_cases hy:y=d
  .subst hy;rw[hd]at q3;cases q3;exact .inr #[0,z,e,?_,χ,χ,by simp[kget],q2,λv=>by simp[Br,List.modify],by simp[Hu]];rw[oq];delta Lu;rw[XG];simp
  .let be:k'≠k:=λe=>hy (b3t q3 (e▸hd));let cm:Lu (Ht ((y,z)::l)) k=(Lu (Ht l) k).map (·+1):=by
    rw[oq];delta Lu;rw[XG];simp[be]
   obtain⟨i1,i2,i3,i4⟩|⟨j,x,e',i1,i2,i3,i4,i5,i6,i7⟩:=ih h2.2
   .exact .inl #[An!,by simp[kget,hy,i2],λv=>by simp[Br,hy,i3 v],?_];rw[MO,MD,UZ];exact#[λe=>hy e.symm,i4]
   .exact .inr #[j+1,x,e',An!,by simpa using i2,by simpa using i3,by simp[kget,hy,i4],i5,λv=>by simp[Br,hy,i6 v],by simp[Hu,hy,i7]]
def Ha.put(h:fZ!)(hd:bo!)(ru:Hh_ G)(rv:Ck KF G x v):Db! Ha G qf_ (BQ es (Lu fZ_ k) dE! u v):=by
 obtain⟨i1,i2,i3,i4⟩|⟨j,y,e',i1,i2,i3,i4,i5,i6,i7⟩:=h.look hd
 .rw[i1,i3];exact#[oU h.1 (FH! #[ru,rv,k,hd,χ]),?_];rw[NM,NU];exact#[h.2,Q!,λa ha b J e=>?_];simp at J;subst J e;exact i4 ha
 .rw[i1,i6];exact#[xV j h.1 λa b _ _ q=>#[q.1,rv,q.2.2],?_];let:∀(l:q!) (j:δ),(l.modify j λp=>(p.1,x)).map d!=l.map d!:=by
   intro l
   induction l with
   |nil=>intro j;simp
   |cons p l ih=>
    intro j;cases j with
    |zero=>simp
    |succ j=>simp[ih j]
  rw[this];exact h.2
def Ha.del(h:fZ!):Db! Ha G (h1.eraseIdx j) Af_:=by exact#[pY j h.1,?_];exact h.2.sublist ((List.eraseIdx_sublist h1 j).map _)
end
inductive Dd where
 |lst (xs:d_)|dct (h1:q!) (ep:δ)|obj (C:yJ!) (fs:hJ!)
nonrec def Dd.tg:Dd->δ
 |.lst _=>0|.dct _ _=>1|.obj _ _=>2
def cne{P:ν}{x y:Dd}(h:ψ x=ψ y)(e:(x.tg==y.tg)=θ):P:=by cases h;rw[OH]at e;cases e
abbrev Mh:=Addr->Dl_ Dd
nonrec def mup(M:Mh)(a:yJ!)(c:Dd):Mh:=λb=>if b=a then ψ c else M b
def mup_same:Hi! a a=ψ c:=by delta mup;rw[y!]
def mup_ne(h:b≠a):Hi! a b=M b:=by delta mup;rw[MY h]
nonrec def dE(a:yJ!)(es:cW_)(ep:δ):HO:=.ext λh=>HT! a/\dO_=θ/\al_<=big
def Kc(KF:zE!)(G:Hp):μ ck!->μ c4!->Prop:=Paired λp q=>p.1=q.1/\Aq KF G p.2 q.2
section
variable(P:yW!)(w:yM!)(KF:zE!)
def Gs(G H:Hp)(a:yJ!):Dd->ν
 |.lst xs=>∃vs,H a=ψ ei_/\Al KF G xs vs
 |.dct h1 ep=>∃es,H a=ψ lf!/\Db! Ha G h1 es
 |.obj C fs=>∃dx vs,H a=ψ Ap!/\Kc KF G fs vs
structure MR(M:Mh)(G H:Hp):Prop where
 cell:∀a c,M a=ψ c->G a=υ/\Db! Gs G H a c
end
structure XM(M:Mh)(G H:Hp)(M':Mh)(G' H':Hp):Prop where
 g:Bb G G'
 sub:Bb G' H'
 new:∀b,G' b≠υ->G b≠υ\/H b=υ
 keep:∀b o,H b=ψ o->M b=υ->H' b=ψ o
 dom:∀b,M' b≠υ->M b≠υ\/H b=υ
 cells:∀b,M b≠υ->M' b≠υ
def XM.refl(s:K_):DE_ M G H:=#[fu!,s,j3_,λ_ _ h _=>h,j3_,λ_ h=>h]
def XM.free(x:lg!)(hM:M b=υ)(h:H' b=υ):H b=none:=by
 cases e:H b with
 |none=>rfl
 |some o=>rw[x.keep b o e hM]at h;cases h
section
variable{P:yW!}{w:yM!}{KF:zE!}{M M1 M2:Mh}{G H G' H' G1 H1 G2 H2:Hp}
def Kc.mono(e:ld_)(h:lh!):Kc KF G' fs vs:=Paired.mapP h λ_ _ z=>#[z.1,z.2.mono e]
def Gs.mono(e:ld_)(h:Ap_)(hH:H' a=H a):Db! Gs G' H' a c:=by
 cases c with
 |lst xs=>let#[vs,Y,h2]:=h;exact#[vs,qg!,qg_]
 |dct h1 ep=>let#[es,Y,h2]:=h;exact#[es,qg!,qg_]
 |obj C fs=>let#[dx,vs,Y,h2]:=h;exact#[dx,vs,qg!,qg_]
def Gs.has(h:Ap_):H a≠none:=by
 cases c with
 |lst xs=>let#[vs,Y,h2]:=h;rw[Y];simp
 |dct h1 ep=>let#[es,Y,h2]:=h;rw[Y];simp
 |obj C fs=>let#[dx,vs,Y,h2]:=h;rw[Y];simp
def MR.has(m:co_)(h:M c≠υ):H c≠none:=by
 cases e:M c with
 |none=>exact ξ e h
 |some q=>exact(I8_ c q).2.has
def XM.trans(a:DE_ M1 G1 H1)(b:XM M1 G1 H1 M2 G2 H2)(m:Ar!):DE_ M2 G2 H2 where
 g:=a.g.trans b.g
 sub:=b.sub
 new:=λc h=>by
  obtain z|z:=b.new c h
  .exact a.new c z
  .cases hM:M c with
   |none=>exact .inr (a.free hM z)
   |some q=>exact GZ! (m.has (a.cells c Ar_))
 keep:=λc o h hM=>by
  exact b.keep c o (a.keep c o h hM) ?_;cases e:M1 c with
  |none=>rfl
  |some q=>
   rcases a.dom c lh_ with z|z
   .exact Df_ hM z
   .rw[h]at z;cases z
 dom:=λc h=>by
  obtain z|z:=b.dom c h
  .exact a.dom c z
  .cases hM:M c with
   |none=>exact .inr (a.free hM z)
   |some q=>exact .inl nofun
 cells:=λc h=>b.cells c (a.cells c h)
def XM.ext(x:j5_):Jv_ M:=#[x.g,x.sub,x.new,λb o h _=>x.h b o h,j3_,λ_ h=>h]
def MR.ext(m:co_)(x:j5_):Jj! M:=⟨λa c e=>by
 let#[Y,h2]:=I8_ a c;let hn:=h2.has;exact As_
 .cases q:G' a with
  |none=>rfl
  |some o=>
   rcases x.new a cG! with z|z
   .exact ξ Y z
   .exact GZ! hn
 .cases q:H a with
  |none=>exact ξ q hn
  |some o=>exact x.h a o q⟩
end
structure Th(P:yW!)(w:yM!)(KF:zE!)(own:i_)(G H:Hp)(Z:St)(ρ:Ae)(M:Mh):Prop where
 or:Ke_ G H
 mr:Jw! M
 dj:∀i∈own,∀p,Z[i]?=ψ ce_->M p=υ
section
variable{P:yW!}{w:yM!}{KF:zE!}{own:List Nat}{M M' M1 M2:Mh}{G H G' H' G1 H1 G2 H2:Hp}{Z:St}{ρ:Ae}
def OR.growM(h:cf!)(x:lg!)(dj:∀i∈own,∀p,Z[i]?=ψ ce_->M p=υ):Ke_ G' H' where
 sub:=x.sub
 len:=h.len
 at_:=λi d q n=>by let#[v,Y,h2]:=h.at_ i d q n;exact wM!
 own_:=λi hi=>by
  let#[p,ds,vs,Y,h2,h3,h4,h5]:=h.own_ i hi;exact#[p,ds,vs,Y,h2,x.keep _ _ h3 (dj i hi p h2),?_,h5.mono x.g];cases q:G' p with
  |none=>rfl
  |some o=>
   rcases x.new p cG! with z|z
   .exact Df_ h4 z
   .rw[h3]at z;cases z
 dis:=h.dis
def Th.grow(s:h5!)(x:lg!)(m:Au!):Db! Th own G' H' Z ρ M':=
 ⟨s.or.growM x s.dj,m,λi hi p e=>by
  cases q:M' p with
  |none=>rfl
  |some c=>
   let#[p',ds,vs,Y,h2,h3,h4,h5]:=Gb! i hi;rw[e]at h2;cases h2;rcases x.dom p cG! with z|z
   .exact Df_ (s.dj i hi p e) z
   .rw[h3]at z;cases z⟩
end
abbrev WE:=Ae->Mh->Au_->ν
abbrev WA:=Ae->Mh->Av!->ν
abbrev WT:=Ae->Mh->(Bool->Mh->ν)->ν
section
variable(P:yW!)(w:yM!)(KF:zE!)(own:List Nat)
inductive EY(f:WE)(Z:St)(H:Hp)(Q:VK):Prop
 |mk (G:Hp) (ρ:Ae) (M:Mh) (R:P_) (st:h5!) (e:h5_) (k:∀d M' v G' H',R d M'->Jv_ M'->Jj! M'->DZ! G' v->Q v H'):EY f Z H Q
inductive JS(f:WA)(Z:St)(H:Hp)(Q:c7!):Prop
 |mk (G:Hp) (ρ:Ae) (M:Mh) (R:qj!) (st:h5!) (e:h5_) (k:∀d M' v G' H',R d M'->Jv_ M'->Jj! M'->Al KF G' d v->Q v H'):JS f Z H Q
inductive CA(f:WT)(Z:St)(H:Hp)(Q:dR!):Prop
 |mk (G:Hp) (ρ:Ae) (M:Mh) (R:cX_) (st:h5!) (e:h5_) (k:∀d M' G' H',R d M'->Jv_ M'->Jj! M'->Q d H'):CA f Z H Q
end
structure ME(X:Cx)(own:i_)(e:Expr)(f:WE):Prop where
 ok:PE X e (Eq_ EY f)
structure MA(X:Cx)(own:i_)(es:dR_)(f:WA):Prop where
 ok:PA X es (Eq_ JS f)
structure MT(X:Cx)(own:i_)(e:Expr)(f:WT):Prop where
 ok:PT X e Aw_
structure MW(X:Cx)(own:i_)(e:Expr)(f:WT):Prop where
 ok:PW X e Aw_
nonrec def wl(f:n_):WE:=λρ M R=>match f ρ with|some d=>R d M|none=>False
def Cp(f:bz_):WT:=λρ M R=>match f ρ with|some d=>R d M|none=>False
section
variable{X:Cx}{own:List Nat}{e a b c:Expr}{es rest:List Expr}{pos:Pos}{f fa fb fc:WE}{fs:WA}{ft fu:WT}{g:Ae->Option D}{gs:Ae->Option (List D)}{gt:Ae->Option Bool}
def fD(h:iG!)(hw:∀Z G H Q ρ M R,Jl_ G->f ρ M R->(DL_ Aq)->t Z H Q):Dk! e f:=
 Ax!
def d1p(h:gL!)(hw:∀Z G H Q ρ M R,Jl_ G->Hi_ fs->(DL_ Al)->t Z H Q):MA X own es fs:=
 (D9! p)
def b3r(h:PT X e t)(hw:Ax_):Ee_ MT e:=
 Ax!
def d1j(h:PW X e t)(hw:Ax_):Ee_ MW e:=
 (D9! wh)
def c5t(h:wl g ρ M R):∃d,g ρ=ψ d/\R d M:=by
 delta wl at h;split at h
 .exact Ay!
 .exact h.elim
def b8j(h:Cp gt ρ M R):∃d,gt ρ=ψ d/\R d M:=by
 delta Cp at h;split at h
 .exact Ay!
 .exact h.elim
def aB(h:De! e g):Dk! e (wl g):=fD h.ok λZ G H Q ρ M R st e' k=>by
 let#[d,e1,e2]:=c5t e';exact#[G,ρ,d,st.or,e1,λv G' H' x r=>k d M v G' H' e2 li! ql! r]
def fJ(h:Ga! e gt):MT X own e (Cp gt):=b3r h.ok λZ G H Q ρ M R st e' k=>by
 let#[d,e1,e2]:=b8j e';exact#[G,ρ,d,st.or,e1,λG' H' x=>k d M G' H' e2 li! ql!]
def Ad:WA:=λ_ M R=>R [] M
def Ab(f:WE)(fs:WA):WA:=λρ M R=>f ρ M λd M1=>fs ρ M1 λds M2=>R ei! M2
def aK:MA X own [] Ad:=d1p eU λZ G H Q ρ M R st e k=>k [] M [] G H e qm! st.mr Al.nil
def aC(h:b0!)(hs:f0!)(bp:ap!:=by rfl):MA X own aI! (Ab f fs):=
 d1p xd! λZ G H Q ρ M R st e' k=>⟨G,ρ,M,_,st,e',λd M1 v G1 H1 r1 x1 m1 q1=>⟨G1,ρ,M1,_,st.grow x1 m1,r1,λds M2 vs G2 H2 r2 x2 m2 q2=>
  k _ M2 _ G2 H2 r2 cp! m2 (E8! bH! q2)⟩⟩
def AO(P:yW!)(w:yM!)(KF:zE!)(r:R2)(g:ey!):Prop:=∀{x y:V} {dx dy d:D} {M:Mh} {G H:Hp} {Q:VK},Bb G H->Jw! M->H7! dx x->H7! dy y->g M dx dy=ψ d->j7!->Gs_ r
def Gr.m{KF:zE!}{g:hn!}(h:Gr KF r g):Db! AO r (λ_=>g):=λs _ rx ry e k=>h s rx ry e k
nonrec def w2(g:ey!)(fa fb:WE):WE:=λρ M R=>fa ρ M λx M1=>fb ρ M1 λy M2=>match g M2 x y with|some d=>R d M2|none=>False
def c6a(hg:h6_)(st:Az!)(e:w2 gm fa fb ρ M R)
  (k:∀d M' v G' H',R d M'->Jv_ M'->Ky_ MR->EK! G'->Q v H'):ET r (Eq_ EY fa) (Eq_ EY fb) Z H Q:=
 ⟨G,ρ,M,_,st,e,λx M1 u G1 H1 r1 x1 m1 q1=>⟨G1,ρ,M1,_,st.grow x1 m1,r1,λy M2 v G2 H2 r2 x2 m2 q2=>by
  let r2:=r2;split at r2
  .rename_i d hd;exact hg x2.sub m2 bH! q2 hd λz G3 H3 x3 q3=>k d M2 z G3 H3 r2 ((cp!).trans (.ext x3) m2) (m2.ext x3) q3
  .exact r2.elim⟩⟩
def qE(ho:mY_)(hg:h6_)(ha:ak!)(J:cp_):Dk! mZ! li_:=
 fD w1! λZ G H Q ρ M R st e k=>IJ_ e k
def jN(ho:b8!)(hg:h6_)(ha:ak!)(J:cp_)(hm:dS_):Dk! dT! li_:=
 fD w0! λZ G H Q ρ M R st e k=>IJ_ e k
def cG(hr:Ys X r)(hg:h6_)(ha:ak!)(J:cp_)(hs:Ps b):Dk! nT! li_:=
 fD w0_ λZ G H Q ρ M R st e k=>IJ_ e k
nonrec def wT(f:WE):WT:=λρ M R=>f ρ M λd M1=>match d with|.bl b=>R b M1|_=>False
def cU(ho:b8!)(hg:h6_)(ha:ak!)(J:cp_)(hm:dS_):MT X own dT! (wT li_):=
 b3r w1_ λZ G H Q ρ M R st e k=>IJ_ e λd M' v G' H' r' x' m' q'=>by
  cases d<;>first|exact r'.elim|skip
  obtain rfl:=dI q';exact Az_
def eK(h:b0!)(he:iG_:=by intro _;rfl):MT X own e (wT f):=
 b3r (b9w h.ok he) λZ G H Q ρ M R st e k=>⟨G,ρ,M,_,st,e,λd M' v G' H' r' x' m' q'=>by
  cases d<;>first|exact r'.elim|skip
  obtain rfl:=dI q';exact Az_⟩
def Ex(ft fu:WT):WT:=λρ M R=>ft ρ M λb M1=>if b then FX! fu else R θ M1
def Xb(ft fu:WT):WT:=λρ M R=>ft ρ M λb M1=>if b then R τ M1 else FX! fu
def Je(ft:WT):WT:=λρ M R=>ft ρ M λb M1=>R (!b) M1
def iH(h:h7!):Ee_ MW mx!:=w5!
def rY(h:h7!):Ee_ MW mx_:=w5_
def kD(ha:h7!)(J:MW X own eT! fu):MW X own eT_ (Ex ft fu):=
 d1j w6_ λZ G H Q ρ M R st e k=>⟨G,ρ,M,_,st,e,λx M1 G1 H1 r1 x1 m1=>by
  cases x with
  |true=>exact nM AA!
  |false=>exact nN AA_⟩
def vX(ha:h7!)(J:MW X own eU_ fu):MW X own eV! (Xb ft fu):=
 d1j w8! λZ G H Q ρ M R st e k=>⟨G,ρ,M,_,st,e,λx M1 G1 H1 r1 x1 m1=>by
  cases x with
  |false=>exact nN AA!
  |true=>exact nM AA_⟩
def oR(h:Ee_ MW e):Ee_ MT e:=#[h.ok.pt]
def nA(h:h7!):MT X own eV_ (Je ft):=
 b3r (b9y h.ok) λZ G H Q ρ M R st e k=>#[G,ρ,M,_,st,e,λx M1 G1 H1 r1 x1 m1=>k _ M1 G1 H1 r1 x1 m1]
def Jx(fa fb:WE):WE:=λρ M R=>wT fa ρ M λb M1=>if b then FX! fb else R C_ M1
def Vq(fa fb:WE):WE:=λρ M R=>wT fa ρ M λb M1=>if b then R u_ M1 else FX! fb
def Yy(fa:WE):WE:=λρ M R=>wT fa ρ M λb M1=>R (.bl (!b)) M1
def sA(h:ak!):Dk! mz! fa:=w8_
def wD(ha:ak!)(J:Dk! eT! fb):Dk! eT_ qm_:=
 fD w9! λZ G H Q ρ M R st e k=>⟨G,ρ,M,_,st,e,λd M1 v G1 H1 r1 x1 m1 q1=>by
  cases d<;>first|exact r1.elim|skip
  rename_i x;obtain rfl:=dI q1;exact ka!;cases x with
  |true=>exact nM lk!
  |false=>exact nN AB_⟩
def d1n(ha:ak!)(J:Dk! eU_ fb):Dk! eV! (Vq fa fb):=
 fD xb_ λZ G H Q ρ M R st e k=>⟨G,ρ,M,_,st,e,λd M1 v G1 H1 r1 x1 m1 q1=>by
  cases d<;>first|exact r1.elim|skip
  rename_i x;obtain rfl:=dI q1;exact ka!;cases x with
  |false=>exact nN lk!
  |true=>exact nM AB_⟩
def d3z(ha:ak!):Dk! eV_ (Yy fa):=
 fD (c0o ha.ok) λZ G H Q ρ M R st e k=>⟨G,ρ,M,_,st,e,λd M1 v G1 H1 r1 x1 m1 q1=>by
  cases d<;>first|exact r1.elim|skip
  obtain rfl:=dI q1;exact#[_,χ,k _ M1 _ G1 H1 r1 x1 m1 Aq.bl]⟩
def GX(ft:WT)(fa fb:WE):WE:=λρ M R=>ft ρ M λb M1=>if b then FX! fa else FX! fb
def d1o(hc:qn!)(ha:ak!)(J:cp_):Dk! mz_ (GX ft fa fb):=
 fD xc_ λZ G H Q ρ M R st e k=>⟨G,ρ,M,_,st,e,λx M1 G1 H1 r1 x1 m1=>by
  cases x with
  |true=>exact nM lk!
  |false=>exact nN lk!⟩
def Ri(fs:WA):WE:=λρ M R=>fs ρ M λds M1=>g_<=1000/\R bQ_ M1
def Vr(fs:WA):WE:=λρ M R=>fs ρ M λds M1=>g_<=1000/\R ce! M1
def a2b(h:f0!):Dk! (.Tuple es n pos) (Ri fs):=
 fD (c0k h.ok) λZ G H Q ρ M R st e k=>⟨G,ρ,M,_,st,e,λds M1 vs G1 H1 r1 x1 m1 q1=>⟨by rw[<-aL q1];exact fN r1.1,λp hp=>
  k _ M1 _ _ _ r1.2 AC! (m1.ext qn_) (eO AC_ q1)⟩⟩
def c1w(h:f0!):Dk! je_ (Vr fs):=
 fD kc_ λZ G H Q ρ M R st e k=>⟨G,ρ,M,_,st,e,λds M1 vs G1 H1 r1 x1 m1 q1=>⟨by rw[<-aL q1];exact fN r1.1,λp hp=>
  k _ M1 _ _ _ r1.2 AC! (m1.ext qn_) (cJ AC_ q1)⟩⟩
end
section
variable{P:yW!}{w:yM!}{KF:zE!}{M:Mh}{G H:Hp}{p a:yJ!}{o:HO}{c c0:Dd}
def MR.nocell(m:co_)(h:cJ!):M p=none:=by
 cases e:M p with
 |none=>rfl
 |some q=>exact ξ h (m.has lh_)
def XM.laid(s:K_)(hp:cJ!):DE_ (mup M p c) G ft_:=by
 show"#9";exact#[fu!,λb u e=>by rw[bB (ne (s b u e))];exact s b u e,cS!,λb u e _=>by rw[bB (ne e)];exact e,bh_,bh_]
 .by_cases J:b=p
  .subst J;exact .inr hp
  .rw[cY!]at h;exact .inl h
 .by_cases J:b=p
  .subst J;rw[mup_same];simp
  .rw[cY!];exact h
def MR.laid(m:co_)(hp:cJ!)(s:K_)(h:Db! Gs G ft_ p c):Db! MR (FX_ c) G ft_:=⟨λb q e=>by
 by_cases J:b=p
 .show"#-";exact#[s.free hp,h]
 .rw[cY!]at e;let#[Y,h2]:=I8_ b q;exact AD_⟩
def XM.write(m:co_)(s:K_)(ha:M a=ψ c0):DE_ (mup M a c) G c5!:=by
 let hG:=(m.cell a c0 ha).1;exact#[fu!,λb u e=>by rw[bB (cP e hG)];exact s b u e,cS!,λb u e J=>?_,bh_,bh_]
 .let:b≠a:=λz=>by subst z;rw[ha]at J;rcases J
  rw[bB this];exact e
 .by_cases J:b=a
  .subst J;exact .inl (Eu! ha)
  .rw[cY!]at h;exact .inl h
 .by_cases J:b=a
  .subst J;rw[mup_same];simp
  .rw[cY!];exact h
def MR.write(m:co_)(ha:M a=ψ c0)(h:Db! Gs G c5! a c):Db! MR (Hi! a) G c5!:=⟨λb q e=>by
 by_cases J:b=a
 .show"#-";exact#[(m.cell _ c0 ha).1,h]
 .rw[cY!]at e;let#[Y,h2]:=I8_ b q;exact AD_⟩
end
open Classical in
def Il(h1:q!)(d:D)(ep:δ):Nat:=if(dG!).isSome then ep else ep+1
def KR(KF:zE!)(G:Hp):ι D->Dl_ Value->ν
 |some d,some u=>Hh_ G
 |none,none=>True
 |_,_=>False
section
variable{X:Cx}{hb:List (Addr×Obj)}{Z:St}{G H:Hp}{s:yY!}{M:Mh}{a:yJ!}{h1:List (D×D)}{ep:Nat}{A:yK!}{E:Value->Shared->Prop}{d x:D}{k:MK}{u v:yL!}
def fF(I:e_)(m:bH_)(sub:K_)(e:cq!):∃es,H a=ψ lf!/\yJ_ Ha G h1 es/\Eg! Nn a es ep/\dO_=θ/\al_<=big/\Kb! Nm:=by let#[es,Y,h2]:=(I8_ a _).2;let#[#[h3,h4,h5],_]:=(show Et X.prog X.w H s.heap a lf! from I.hok a _ Y);exact#[es,Y,h2,h3,h4,h5,h2.ents I sub]
def a3r(I:e_)(e:H a=ψ lf!)(D':Nn h' a a9 bm)(hs:vn_)(hn:dO_=θ)(hl:a9.length<=big):oV_ (K2_ (dE a a9 bm)) {s with heap:=h',toks:=t'}:=by exact c9v I tM_ hs (by let#[o,h,_]:=D';exact qo!) #[#[D',hn,hl],let⟨o,h,_⟩:=D';qo!,AE!];let#[#[o,z1,z2,z3],z4]:=z;exact ll_
def a3t(hu:aq!)(I:e_)(m:bH_)(sub:K_)(e:cq!)(r:bY_)(hk:bo!)
  (h:∀o s',oV_ H s'->KR X.K G dG! o->Q o s'):JD_ (dictGet a u):=by
 let#[es,Y,h2,h3,h4,h5,h6]:=D3! I;exact GJ! d8e λtk=>h _ _ i9_ ?_;obtain⟨i1,i2,i3,i4⟩|⟨j,y,e',i1,i2,i3,i4,i5,i6,i7⟩:=h2.look hk
 .rw[i1,i2];exact jb!
 .rw[i1,i4];show KR X.K G (ψ y) (es[j]?.map (·.val));rw[i3];exact i5
def kput_len:∀(l:q!) (d x:D),(Br l d x).length<=S_+1
 |[],_,_=>by simp[Br]
 |(y,z)::l,d,x=>by
  delta Br;split
  .simp
  .let:=Ie! l d x;dsimp only[List.length_cons];omega
def b1m(hu:aq!)(I:e_)(m:bH_)(sub:K_)(e:cq!)(r:bY_)(hk:bo!)(rv:lm!)(hl:cY_)
  (h:AF_):oW_ h! Ae_:=by
 let#[es,Y,h2,h3,h4,h5,h6]:=D3! I;exact GJ! d8c f0_ λh' tk D' hs=>?_;let mi:=h2.put hk r rv;let qj:FW (Lu fZ_ k) ep=Il h1 d ep:=by
  delta Il;obtain⟨i1,i2,i3,i4⟩|⟨j,y,e',i1,i2,i3,i4,i5,i6,i7⟩:=h2.look hk
  .rw[i1,i2];rfl
  .rw[i1,i4];rfl
 rw[qj]at D';let mj:=TV mi.1;let:=Ie! h1 d x;exact h _ _ (a3r I Y D' hs h4 a!) #[_,cC,mi]
def b1n(hu:ey_)(I:e_)(m:bH_)(sub:K_)(e:cq!)(r:bY_)(hk:bo!)(hx:Al_)
  (h:∀o s',oV_ H s'->Gu_ x->Q o s'):JD_ (getItem V_ u):=by
 let#[es,Y,h2,h3,h4,h5,h6]:=D3! I;let hT:=f1!;delta getItem;exact FI! (OU hT PySem.slot_dict_getitem (OM PySem.slot_dict_getitem hT PySem.entry_dict_getitem ?_ (PySem.args_dict_getitem _ _)));show DF! h! lo!;exact LW lo_;rw[hx]at ho;cases o with
 |none=>exact ho.elim
 |some o=>exact LZ (JW_ o (h o s' I' ho))
def tJ(hu:ey_)(I:e_)(m:bH_)(sub:K_)(e:cq!)(r:bY_)(hk:bo!)
  (h:∀s',oV_ H s'->Q (dG!).isSome s'):JD_ (contains V_ u):=by
 let#[es,Y,h2,h3,h4,h5,h6]:=D3! I;let hT:=f1!;delta contains;exact Ko! (VP hT VQ.lookup ?_);rw[JF_ beq_builtin_none];exact LW (wpAny_callSpecialUnlessNone?_slot hT VQ (OM VQ hT PySem.entry_dict_contains ?_ (PySem.args_dict_contains _ _)));show DF! h! lo!;exact LW lo_;cases o with
 |none=>
  let hn:Et_ d=none:=by
   cases q:Et_ d with
   |none=>rfl
   |some y=>rw[q]at ho;exact ho.elim
  let h:=h s' I';rw[hn]at h;exact LW (wpAny_pendingKey_other h4 (LZ AJ!))
 |some o=>
  let hn:(dG!).isSome=true:=by
   cases q:Et_ d with
   |none=>rw[q]at ho;exact ho.elim
   |some y=>rfl
  let h:=h s' I';rw[hn]at h;exact LZ AJ!
def b1l(hu:ey_)(I:e_)(m:bH_)(sub:K_)(e:cq!)(r:bY_)(hk:bo!)(rv:lm!)(hl:cY_)
  (h:AF_):JD_ (setItem V_ u v):=by
 let#[es,Y,h2,h3,h4,h5,h6]:=D3! I;let hT:=f1!;delta setItem;exact FI! (OU hT PySem.slot_dict_setitem (OM PySem.slot_dict_setitem hT PySem.entry_dict_setitem ?_ (PySem.args_dict_setitem _ _ _)));exact ET_ TC hT;show DF! h! (dictSet a u v>>=_);exact LW (b1m hu I m sub e r hk rv hl λa9 s' I' c'=>LZ #[.none,χ,LZ (h a9 s' I' c')])
def c9x(hu:ey_)(I:e_)(m:bH_)(sub:K_)(e:cq!)(r:bY_)(hk:bo!)
  (h:∀o s',oV_ H s'->Gu_ (J2_ dG!)->Q o s'):JD_ (call AL! [dg!,u]):=by
 let#[es,Y,h2,h3,h4,h5,h6]:=D3! I;exact Fl! (PySem.F.args_dict_get_2 _ _);show DF! h! lo!;exact LW lo_;cases q:Et_ d with
 |none=>
  rw[q]at ho;cases o with
  |none=>
   let h:=h .none s' I';rw[q]at h;exact Gv! #[.none,χ,h #[V.non,Aq.non,χ]]
  |some o=>exact ho.elim
 |some y=>
  rw[q]at ho;cases o with
  |none=>exact ho.elim
  |some o=>
   let h:=h o s' I';rw[q]at h;exact LZ AM_
def c9w(hu:ey_)(I:e_)(m:bH_)(sub:K_)(e:cq!)(r:bY_)(hk:bo!)(rv:lm!)
  (h:∀o s',oV_ H s'->Gu_ ((dG!).getD x)->Q o s'):JD_ (call AL! [dg!,u,v]):=by
 let#[es,Y,h2,h3,h4,h5,h6]:=D3! I;exact Fl! (PySem.F.args_dict_get_3 _ _ _);show DF! h! lo!;exact LW lo_;cases q:Et_ d with
 |none=>
  rw[q]at ho;cases o with
  |none=>
   let h:=h v s' I';rw[q]at h;exact Gv! #[v,χ,h rv]
  |some o=>exact ho.elim
 |some y=>
  rw[q]at ho;cases o with
  |none=>exact ho.elim
  |some o=>
   let h:=h o s' I';rw[q]at h;exact LZ AM_
def yO(hu:ey_)(I:e_)(m:bH_)(sub:K_)(e:cq!)(r:bY_)(hk:bo!)(rv:lm!)(hl:cY_)
  (hs:∀y o s',Et_ d=ψ y->oV_ H s'->Gu_ y->Q o s')
  (hn:Et_ d=υ->∀a9 s',Ju_ lr!->Kb_ qf_->Q v s'):JD_ (K1_ "dict.setdefault" [dg!,u,v]):=by
 let#[es,Y,h2,h3,h4,h5,h6]:=D3! I;let ao:=TV h2.1;let hT:=f1!;exact OM YB hT PySem.F.entry_dict_setdefault ?_ (PySem.F.args_dict_setdefault_3 _ _ _);delta Builtin.«dict.setdefault» AN_;exact LW qr!;dsimp only;rw[JF_ h4];obtain⟨i1,i2,i3,i4⟩|⟨j,y,e',i1,i2,i3,i4,i5,i6,i7⟩:=h2.look hk
 .exact LW (qW hu h3 h6 h8! f0_ (λj e tk q=>by rw[i1]at q;rcases q) λh' tk _ D' bv=>LZ #[_,χ,hn i2 _ _ AO! #[_,cC,?_]])
  .rw[MH,QS];omega
  .let:=h2.put hk r rv;rw[i1]at this;show"#E"
 .exact LW (GJ! qW f0_ (λj' e tk q q2=>by
   rw[i1]at q;rcases q;rw[i3]at q2;rcases q2;exact LZ #[_,χ,hs y _ _ i4 i9_ i5]) λh' tk q=>by rw[i1]at q;rcases q)
def d5l(hu:ey_)(I:e_)(m:bH_)(sub:K_)(e:cq!)(r:bY_)(hk:bo!)(hx:Al_)
  (h:∀a9 o s',Ju_ lr!->Kb_ (Hu h1 d)->Gu_ x->Q o s'):JD_ (K1_ "dict.pop" [dg!,u]):=by
 let#[es,Y,h2,h3,h4,h5,h6]:=D3! I;let hT:=f1!;obtain⟨i1,i2,i3,i4⟩|⟨j,y,e',i1,i2,i3,i4,i5,i6,i7⟩:=h2.look hk
 .rw[i2]at hx;rcases hx
 .rw[i4]at hx;rcases hx;exact OM PySem.F.slot_dict_pop hT PySem.F.entry_dict_pop ?_ (PySem.F.args_dict_pop_2 _ _);delta Builtin.«dict.pop» AN_;exact LW qr!;dsimp only;let fin:wpAny h! A.in1 Ag! (λah s'=>∃e o,ah=ψ e/\e.val=o/\Q o s') E s:=by
   exact GJ! d4x f0_ i1 i3 λh' tk D' bv=>#[e',_,χ,χ,h _ _ _ AO! #[_,cC,?_] i5]
   .exact NR (List.length_eraseIdx_le _ _) h5
   .rw[i7];exact h2.del
  let#[o,ho,_,hd]:=id h3;let be:es.toArray.isEmpty=false:=by
   cases es with
   |nil=>simp at i3
   |cons _ _=>rfl
  by_cases hp:(keyPart u).isSome=τ
  .rw[MM hp];exact LW Y_;rw[MY NO];show"!j"
  .rw[MY hp];exact LW (RJ ho hd (LW Y_));rw[be,MY NO];show"!j"
end
section
variable{X:Cx}{hb:List (Addr×Obj)}{Z:St}{H:Hp}{s:yY!}
def a5d(I:e_)(qa:ky!)(qb:GV_ b ws)(rd:hE_)(re:hE!)(hu:aq!)
  (h:kA!):Ec! V_ d9! (!Ig ds es):=by
 let#[us,rv,p1,_]:=DA! qa;let#[us',a7,p2,_]:=DA! qb;let Y:=aL rd;let h2:=aL re;let h3:=da_;let h4:=kA_;let z:=SeqAt.RcNeAt.tuples p1 p2 hu kB!;let e:yl!=Ig ds es:=by
  show"#7"
  .rw[hl,Nat.min_self,<-hl,kB_,hl];simp
  .rw[kC!];let:(g_==al_)=false:=by simpa using hl
   rw[this,VN]
 rw[e]at z;exact z
def a9h(I:e_)(qa:pv_)(qb:F8! b ws)(rd:hE_)(re:hE!)(hu:aq!)
  (h:kA!):Ec! V_ d9! (!Ig ds es):=by
 show"!H";let h4:=kA_;by_cases hl:g_=al_
 .let z:=EB_ SeqAt.RcNeAt.lists oS_ kB!;rw[MN,<-h3,<-Y,kB_]at z;exact z
 .rw[kC!];exact EB_ SeqAt.RcNeAt.lists_lengths yl_
def b9m(I:e_)(n:ci_)(n':fH!)(hu:aq!)(r:ep!)(r':hF!)(ru:bs!)(a8:hF_)(hT:∀xs ys,d=.tup xs->d'=.tup ys->Kf_ u)(hL:∀xs ys,d=.lst xs->d'=.lst ys->Kf_ u):Kf_ u:=by
 show"!p"
 all_goals first|exact Fd! hT|exact Fd! hL|(delta Dv;(try simp![Bool.not_false,SW]);with_reducible first|exact .none_none|exact .same _|exact .none_bool _|exact .none_int _ _|exact .none_str _ _|exact .none_tuple ‹_› hu|exact .none_list ‹_› hu|exact .bool_none _|exact IF_ _|exact Ia! _|exact Ia_ _|exact .bool_tuple _ ‹_› hu|exact .bool_list _ ‹_› hu|exact .int_none _ _|exact Ib! _|exact HE_ _|exact HF! _|exact IG! _ ‹_› hu|exact .int_list _ _ ‹_› hu|exact .str_none _ _|exact Ib_ _|exact HF_ _|exact HG! _|exact IG_ _ ‹_› hu|exact .str_list _ _ ‹_› hu|exact .tuple_none ‹_› hu|exact .tuple_bool _ ‹_› hu|exact IH! _ ‹_› hu|exact IH_ _ ‹_› hu|exact .tuple_list ‹_› ‹_› hu|exact .list_none ‹_› hu|exact .list_bool _ ‹_› hu|exact .list_int _ _ ‹_› hu|exact .list_str _ _ ‹_› hu|exact .list_tuple ‹_› ‹_› hu)
def b9n(I:e_)(d d':D)(n:ci_)(n':fH!)(hu:yn!)(r:ep!)(r':hF!)(ru:bs!)(a8:hF_):Kf_ u:=
 b9m I n n' a! r r' ru a8 (λxs ys e e'=>by
  subst e e';let#[a,vs,rfl,q,rr]:=bV r;let#[b,ws,rfl,q',b6]:=bV r';subst ru;subst a8;delta Bd at n n';delta Io at hu;delta Dv;exact Fy_ a5d λus us' rv a7=>Dq! I) (λxs ys e e'=>by
  subst e e';let#[a,vs,rfl,q,rr]:=bS r;let#[b,ws,rfl,q',b6]:=bS r';subst ru;subst a8;delta Bd at n n';delta Io at hu;delta Dv;exact Fy_ a9h λus us' rv a7=>Dq! I)
def DP(KF:zE!):R2:=λx y H Q=>∃dx dy,Dr! dx x/\Dr! dy y/\Bd dx=τ/\Bd dy=τ/\Io dx<=40/\EA! (!Dv dx dy)
def gE(hu:aj_):Fi! tl! DP:=by intro hb s Z H x y v u Q I rx ry h;let#[dx,dy,r1,r2,n1,n2,hd,q]:=h;exact ER! b9n
def Eb:D->D->ι D:=λx y=>if Bd x&&Bd y&&decide (Io x<=40)then Df! (!Dv x y) else υ
protected def pI{KF:zE!}:Gt_ DP Eb:=by
 show"!1";delta Eb at e;show"!7"
 .show"!v";rcases e;exact yo!
 .rcases e
open Classical in
def Ti(KF:zE!)(H:Hp)(x:D)(u:yL!):Bool:=decide (∃d,Hh_ H/\Bd d=τ/\Dv d x=τ)
open Classical in
def b1c(I:e_)(r:Ck X.K H d u)(n:ci_):Ti X.K H x u=Dv d x:=by
 delta Ti;cases h:Dv d x with
 |true=>exact NG #[d,r,n,h]
 |false=>
  exact MU ?_;rintro⟨d',⟨v',r',a8⟩,n',h'⟩;let#[v,r,ru]:=r;let:=ru.inj a8;subst this;rw[I7! I]at h;rw[h]at h';exact Dd_ h'
def rC(I:e_):∀{ds:d_} {vs:s_} {us:o!},Fc_ ds->Ax vs us->Bj ds=τ->us.any (Ti X.K H x)=ds.any λd=>Dv d x
 |[],vs,us,r,rv,_=>by obtain rfl:=cR r;cases rv;rfl
 |d::ds,vs,us,r,rv,n=>by
  let#[v,t,rfl,r1,r2]:=bR r;delta Bj at n;rw[NQ]at n;cases rv with
  |cons lu om=>rw[RO,RO,Gc_ v,rC I r2 om n.2]
def oM(I:e_)(rx:Aq X.K H x y)(ry:Bi y v)(nx:Bd x=τ):∀{ds:d_} {vs:s_} {us:o!},Fc_ ds->Ax vs us->Bj ds=τ->A.units+Ct ds<cLine->∀u∈us,DB! v (Ti X.K H x u)
 |[],vs,us,r,rv,_,_=>λu hu=>by obtain rfl:=cR r;cases rv;exact(ML hu).elim
 |d::ds,vs,us,r,rv,n,hd=>λu hu=>by
  let#[z,t,rfl,r1,r2]:=bR r;delta Bj at n;rw[NQ]at n;delta Ct at hd;cases rv with
  |cons lu om=>
   obtain rfl|hu:=MD.mp hu
   .rw[Gc_ z];exact c3x I d x A z y _ _ n.1 nx a! r1 rx lu ry
   .exact oM I rx ry nx r2 om n.2 a! u hu
def DR(KF:zE!)(neg:Bool):R2:=λx y H Q=>∃p ys dx ds,y=.ref p/\o3_/\Dr! dx x/\D6_ ds ys/\Bd dx=τ/\Bj ds=τ/\Ct ds<=40/\EA! (Jp! dx)
def d3f(hu:aj_):I5_ DR:=by
 intro hb s Z H x y v u Q I rx ry h;let#[p,ys,dx,ds,rfl,hq,r1,r2,n1,n2,hd,q]:=h;subst ry;obtain hq|hq:=hq
 .show"!V";exact Hz! ez_ ls_;rw[lt!,lt_];exact q
 .show"!z";exact I6! ez_ ls_;rw[lt!,lt_];exact q
def b6b(hu:aj_):Gb X qv! (DR X.K τ):=by
 intro hb s Z H x y v u Q I rx ry h;let#[p,ys,dx,ds,rfl,hq,r1,r2,n1,n2,hd,q]:=h;subst ry;obtain hq|hq:=hq
 .show"!V";exact SeqAt.notIn_listAt ez_ pl.isList ls_ fh!;rw[lt!,lt_];exact q
 .show"!z";exact SeqAt.notIn_tupleAt ez_ pl ls_ fh!;rw[lt!,lt_];exact q
def DU(P:yW!)(w:yM!)(KF:zE!)(neg:Bool):R2:=λx y H Q=>∃(M:Mh) (G:Hp) (a:yJ!) (h1:q!) (ep:δ) (d:D) (k:MK),y=.ref a/\Bb G H/\Jw! M/\M a=ψ h7_/\DZ! G x/\Co d=ψ k/\EA! (Jn! dG! dG!)
def d3g(hu:aj_):KH! DU:=by intro hb s Z H x y v u Q I rx ry h;let#[M,G,a,h1,ep,d,k,rfl,sub,m,e,r,hk,q]:=h;subst ry;exact LW AW!
def b6c(hu:aj_):Gb X qv! (yJ_ DU τ):=by intro hb s Z H x y v u Q I rx ry h;let#[M,G,a,h1,ep,d,k,rfl,sub,m,e,r,hk,q]:=h;subst ry;exact LW AW!
def BF(P:yW!)(w:yM!)(KF:zE!)(neg:Bool):R2:=λx y H Q=>DR KF neg x y H Q\/Db! DU neg x y H Q
def iA(hu:aj_):KH! BF:=(d3f hu).or (d3g hu)
def hX(hu:aj_):Gb X qv! (yJ_ BF τ):=(b6b hu).or (b6c hu)
def Kv(M:Mh):D->Dl_ aK!
 |.lst xs=>ψ xs
 |.tup xs=>ψ xs
 |.fn a=>match M a with|some (.lst xs)=>ψ xs|_=>υ
 |_=>υ
def a1c{KF:zE!}(sub:K_)(m:co_)(r:cJ_)(e:Kv M d=ψ xs):∃p ys,v=.ref p/\o3_/\Al KF G xs ys:=by
 cases d<;>first|(rcases e;done)|skip
 .rcases e;show"!c";exact#[p,vs,χ,.inr hv_,rr]
 .rcases e;let#[p,vs,rfl,q,rr]:=bS r;exact#[p,vs,χ,.inl o4!,rr]
 .rename_i a;obtain rfl:=gQ r;dsimp only[Kv]at e;show"!7"
  .rename_i ys hy;rcases e;let#[_,vs,Y,h2]:=m.cell a _ hy;exact#[a,vs,χ,.inl (El.of Y),h2]
  .rcases e
def Fq(neg:Bool)(M:Mh)(x y:D):ι D:=match y with
 |.fn a=>match M a with
  |some (.dct h1 _)=>(Co x).bind λ_=>Df! (if neg then !(kget h1 x).isSome else(kget h1 x).isSome)
  |_=>inS M x y
 |_=>inS M x y
where inS (M:Mh) (x y:D):ι D:=(Kv M y).bind λds=>if Bd x&&Bj ds&&decide (Ct ds<=40)then ψ ys! else υ
protected def eJ{KF:zE!}:Db! AO (BF P w KF neg) (Fq neg):=by
 intro x y dx dy d M G H Q sub m rx ry e k;let seq:Fq.inS neg M dx dy=ψ d->Db! BF neg x y H Q:=λe=>by
  let#[ds,e1,e2]:=LX.mp e;split at e2
  .show"!v";rcases e2;let#[p,ys,rfl,q,rr]:=a1c sub m ry e1;exact .inl #[p,ys,dx,ds,χ,q,rx.mono sub,rr.mono sub,h.1.1,h.1.2,h.2,em!]
  .rcases e2
 delta Fq at e;show"!7"
 .rename_i a;show"!7"
  .show"#I";rcases e2;obtain rfl:=gQ ry;exact .inr #[M,G,a,h1,ep,dx,kk,χ,sub,m,hM,rx,e1,em!]
  .exact seq e
 .exact seq e
def FO(P:yW!)(w:yM!)(KF:zE!):R2:=λx y H Q=>∃(M:Mh) (G:Hp) (a:yJ!) (h1:q!) (ep:δ) (d z:D) (k:MK),x=.ref a/\Bb G H/\Jw! M/\M a=ψ h7_/\DZ! G y/\Co d=ψ k/\Et_ d=ψ z/\∀v,H7! z v->Q v H
def d4l(hu:aj_):Ys X (DE! FO X.K):=by
 intro value slice hb s Z H x y v u Q I rx ry h hs;let#[M,G,a,h1,ep,d,z,k,rfl,sub,m,e,r,hk,hz,q]:=h;subst rx;let#[es,Y,h2,h3,h4,h5,h6]:=D3! I;delta subscriptTail;exact LW ?_;rw[IC! h3.typeIs.not_modules];exact LW (VP h3.typeIs PySem.F.slot_dict_getitem.lookup ?_);let fin:BQ_ (subscripted slice θ V_ u) (λr fh=>wpAny h! X.A (FM_ V_) aP! X.xe fh) X.xe s:=by
  rw[hs];exact wpAny_operating (b1n a! I m sub e #[_,r,ry] hk hz λo s' I' ⟨v',r',a8⟩=>LW (HD! #[v',H,I',a8,q v' r']))
 first
  |exact LZ jK!
  |exact Hb! jK!
  |exact LW fin
def FP(P:yW!)(w:yM!)(KF:zE!):R2:=λx y H Q=>IU KF x y H Q\/Db! FO x y H Q
def bN(hu:aj_):Ys X (DE! FP X.K):=aH.or (d4l hu)
def Cc(M:Mh)(x y:D):ι D:=match x with
 |.fn a=>match M a with
  |some (.dct h1 _)=>(f3!).bind λ_=>Et_ y
  |some (.lst xs)=>match y with|.int i=>Fs xs i|_=>υ
  |_=>υ
 |_=>Ak x y
protected def bM{KF:zE!}:Db! AO (Db! FP) Cc:=by
 show"!h";delta Cc at e;show"!7"
 .rename_i a;obtain rfl:=gQ rx;show"!7"
  .show"#I";exact .inr #[M,G,a,h1,ep,dy,d,kk,χ,sub,m,hM,ry,e1,e2,λv r=>k v G H aL! r]
  .rename_i xs hM;show"!7"
   .rename_i i;obtain rfl:=bC ry;show"!w";let#[v,e6,r6]:=pW h2 e;exact FT_ #[a,vs,i,v,χ,χ,El.of Y,e6,k v G H aL! r6]
   .rcases e
  .rcases e
 .exact .inl (Ic_ aN)
def Lw(M:Mh)(x y:D):ι D:=match x with
 |.fn a=>match M a,y with
  |some (.lst xs),.lst ys=>if j!+ab!<=big then sM! eL! else υ
  |_,_=>υ
 |_=>Ar x y
protected def iX{KF:zE!}:Db! AO (Su KF) Lw:=by
 show"!h";delta Lw at e;show"!7"
 .rename_i a;obtain rfl:=gQ rx;show"!7"
  .rename_i xs ys hM;show"!7"
   .show"!K";show"!w";let#[b,ws,rfl,qb,rb]:=bS ry;exact JO! (.inr #[a,b,vs,ws,χ,χ,El.of Y,sub.seq qb,by rw[<-aL h2,<-aL rb];exact cO hl,λp hp=>k _ _ _ fz! (cJ el! (dL h2 rb))])
   .rcases e
  .rcases e
 .exact Ic_ bO
end
def Dq{α:Type}(o:Dl_ α)(R:kV!):Prop:=match o with|some a=>R a|none=>False
def cY(h:Dq o R):∃a,o=ψ a/\R a:=by
 cases o with
 |none=>exact h.elim
 |some a=>exact#[a,χ,h]
def Gf(C:yJ!)(x:Str)(M:Mh)(d:D):ι D:=match d with
 |.fn a=>match M a with
  |some (.obj C' fs)=>if C'=C then DY! x else υ
  |_=>υ
 |_=>υ
def Hs(f:Str)(v:D):μ ck!->μ ck!
 |[]=>[(f,v)]
 |(g,x)::r=>if g=f then(g,v)::r else(g,x)::Hs f v r
def c3p{KF:zE!}{x:Str}(h:lh!):DY! x=ψ d->∃v,vs.lookup x=ψ v/\DZ! G v:=by
 delta Kc at h
 induction h with
 |nil=>intro e;rcases e
 |@cons p q _ _ h t ih=>
  intro e;rw[PM]at e ⊢;rw[<-h.1];show"!7"
  .rcases e;exact#[_,χ,h.2]
  .exact ih e
def c3o{KF:zE!}{x:Str}(h:lh!):DY! x=υ->vs.lookup x=none:=by
 delta Kc at h
 induction h with
 |nil=>exact λ_=>χ
 |@cons p q _ _ h t ih=>
  intro e;rw[PM]at e ⊢;rw[<-h.1];show"!7"
  .rcases e
  .exact ih e
def c9f{KF:zE!}{x:Str}(r:cJ_)(h:lh!):Kc KF G (Hs x d fs) (Kj x v vs):=by
 delta Kc at h
 induction h with
 |nil=>exact .cons #[χ,r] .nil
 |@cons p q fs vs h t ih=>
  show Kc KF G (if p.1=x then(p.1,d)::fs else p::Hs x d fs) (if q.1=x then(q.1,v)::vs else q::Kj x v vs);rw[<-h.1];by_cases e:p.1=x
  .rw[MM e,MM e];exact .cons #[χ,r] t
  .rw[MY e,MY e];exact F6_ h
section
variable{X:Cx}{own:List Nat}{e o a b:Expr}{es:List Expr}{pos ay ai p:Pos}{f fa fb fo:WE}{fs:WA}{x m:Str}{C:yJ!}
def Ap(C:yJ!)(x:Str)(f:WE):WE:=λρ M R=>f ρ M λd M1=>Dq (Gf C x M1 d) λv=>R v M1
def bE(c:d6!)(n:Dp X.K C x)(h:b0!)(J:De_ e x eS!=Dq_ e:=by rfl):Dk! (.Attribute e x pos) (Ap C x f):=
 fD (d3a h.ok J) λZ G H Q ρ M R st e k=>⟨G,ρ,M,_,st,e,λd M1 v G1 H1 r1 x1 m1 q1=>by
  let#[z,Y,h2]:=cY r1;cases d<;>first|(rcases Y;done)|skip
  rename_i ad;obtain rfl:=gQ q1;dsimp only[Gf]at Y;split at Y
  .rename_i C' fs hM;split at Y
   .rename_i hC;subst hC;let#[_,dx,vs,h3,h4]:=m1.cell ad _ hM;let#[u,h5,h6]:=c3p h4 Y;exact#[ad,_,dx,vs,u,χ,h3,c,n,h5,k z M1 u G1 H1 h2 x1 m1 h6]
   .rcases Y
  .rcases Y⟩
def Sc(P:yW!)(w:yM!)(KF:zE!)(r:e1_)(g:qx!):Prop:=∀{vs:s_} {ds:d_} {d:D} {M:Mh} {G H:Hp} {Q:VK},Bb G H->Jw! M->Da! G->g M ds=ψ d->j7!->r vs H Q
nonrec def w1(g:qx!)(fs:WA):WE:=λρ M R=>fs ρ M λds M1=>Dq (g M1 ds) λd=>R d M1
def nH{id:String}(hc:nB!)(hd:AZ!)(hg:V!)(hm:cv_)(hv:nB_)(ha:ib!)(hn:cw!:=by decide)
  (bh:C!:=by decide)(he:ap!:=by rfl)(ba:aS!:=by rfl):Dk! bc_ (w1 g fs):=
 fD xg_ λZ G H Q ρ M R st e' k=>⟨G,ρ,M,_,st,e',λds M1 vs G1 H1 r1 x1 m1 q1=>by
  let#[d,Y,h2]:=cY r1;exact hd x1.sub m1 q1 Y λv G2 H2 x2 q2=>F4! k⟩
def zP{T:String}{r:e1_}{g:qx!}(hc:nC!)(hd:AZ!)(hg:V!)(hm:cv_)(hv:jn_)(ha:ib!)(hn:cw!:=by decide)
  (bh:C!:=by decide)(he:ap!:=by rfl)(ba:aS!:=by rfl):Dk! bc_ (w1 g fs):=
 fD xi! λZ G H Q ρ M R st e' k=>⟨G,ρ,M,_,st,e',λds M1 vs G1 H1 r1 x1 m1 q1=>by
  let#[d,Y,h2]:=cY r1;exact hd x1.sub m1 q1 Y λv G2 H2 x2 q2=>F4! k⟩
def Pe(M:Mh):μ D->ι D
 |[.str x]=>Bw [.str x]
 |[d]=>(Kv M d).map λxs=>.int j!
 |_=>υ
def a3v{KF:zE!}:Db! Sc xB! Pe:=by
 show"![";delta Pe at e;show"!7"
 .exact eZ sub r e k
 .let#[xs,e1,rfl]:=MQ.mp e;show"!q";exact#[fG!,j!,χ,?_,dt!];rw[aL rr];exact q.elim (λz=>.inl A1!) λz=>.inr A1!
 .rcases e
def Xj(M:Mh):μ D->ι D
 |[d]=>(Kv M d).bind λxs=>if j!<=big then ψ H! else υ
 |_=>υ
def d0a{KF:zE!}:Db! Sc xD! Xj:=by
 show"![";delta Xj at e;show"!7"
 .let#[xs,e1,e2]:=LX.mp e;split at e2
  .cases e2;show"!q";exact#[p,ys,χ,q,λl hl=>k _ _ _ A1_ (cJ (sub.free hl) rr)]
  .cases e2
 .cases e
def Rv(fs:WA):WE:=λρ M R=>fs ρ M λds M1=>g_<=1000/\∀p,M1 p=υ->R B! (mup M1 p ce!)
def a2d(h:f0!):Dk! je_ (Rv fs):=
 fD kc_ λZ G H Q ρ M R st e k=>⟨G,ρ,M,_,st,e,λds M1 vs G1 H1 r1 x1 m1 q1=>⟨by rw[<-aL q1];exact fN r1.1,λp hp=>
  k _ _ _ _ _ (r1.2 p (IK! hp)) (J3! (.laid x1.sub hp)) (m1.laid hp x1.sub #[vs,cC,q1]) Aq.fn⟩⟩
def Lg(M:Mh)(d:D):Dl_ (Addr×μ D):=match d with
 |.fn p=>match M p with|some (.lst xs)=>ψ (p,xs)|_=>υ
 |_=>υ
protected def nU{KF:zE!}(m:co_)(r:cJ_)(e:Lg M d=ψ q):d=.fn q.1/\v=.ref q.1/\M q.1=ψ (.lst q.2)/\∃vs,H q.1=ψ ei_/\Al KF G q.2 vs:=by
 cases d<;>first|(rcases e;done)|skip
 show"#L";dsimp only[Lg]at e;show"!7"
 .rename_i xs hM;rcases e;exact#[χ,χ,hM,(m.cell p _ hM).2]
 .rcases e
def Dl(M:Mh)(d:D):Dl_ (Addr×μ ar_×δ):=match d with
 |.fn p=>match M p with|some (.dct h1 ep)=>ψ lv_|_=>υ
 |_=>υ
protected def cV{KF:zE!}(r:cJ_)(e:Dl M d=ψ q):d=.fn q.1/\v=.ref q.1/\M q.1=ψ qy!:=by
 cases d<;>first|(rcases e;done)|skip
 show"#L";dsimp only[Dl]at e;show"!7"
 .rename_i xs ep hM;rcases e;exact Ie_ hM
 .rcases e
def Pv(fo fa:WE):WE:=λρ M R=>fo ρ M λd M1=>Dq qy_ λ_=>fa ρ M1 λv M2=>Dq qA_ λq=>qz_<big/\D5_ A2_
def a2e(ho:cs!)(ha:ak!)(bp:em_:=by rfl)(cz:(EL_ fL_&&DY_ bg_
   &&decide fM!)=true:=by rfl) (c8:bO!:=by rfl)
  (cy:JB_ "append"=Dq_ o:=by rfl) (b9:dw!:=by rfl):Jh! "append" Pv:=
 fD (D8_ ho.ok A3_) λZ G H Q ρ M R st e k=>
  ⟨G,ρ,M,_,st,e,λd M1 v G1 H1 r1 x1 m1 q1=>by
   let#[c1,e1,r1]:=cY r1;let#[rfl,rfl,_,xy,hH,_]:=nU m1 q1 e1;exact A4!;let#[#[p2,ZG],e2,r2]:=cY r2;let#[z1,z2,z3,vs,Y,h2]:=nU m2 bH! e2;cases z2;exact#[_,vs,u,χ,χ,Y,by rw[<-aL h2];exact NK r2.1 ku_,?_];exact Fw_ k _ r2.2 A5! (m2.write z3 #[_,cC,dL h2 (DK_ q2)]) Aq.non⟩
def lY{q:Addr×μ ar_×δ}(I:e_)(m:bH_)(sub:K_)(e:M q.1=ψ qy!):
  s.TypeIs (.ref q.1) "dict"/\∀b,Value.ref q.1=.ref b->∃ob,yY_ b=ψ ob/\ob.dict=none:=by
 let#[es,_,_,h3,_]:=D3! I;exact#[f1!,oL_];cases z;let#[o,h,hc,_]:=h3;exact#[o,h,hc.2.1]
def ME.run(h:b0!)(I:e_)(st:Az!)(hf:h5_)
  (k:∀d M' v G' H' u s',R d M'->Jv_ M'->Ky_ MR->EK! G'->Ju_ H'->Bi v u->Q u s'):Ji_ eS! Q:=
 dP (DC! h.ok (λv H'=>∃d M' G',R d M'/\XM M G H M' G' H'/\MR X.prog X.w X.K M' G' H'/\Aq X.K G' d v) I #[G,ρ,M,R,st,hf,λd M' v G' H' r x m q=>#[d,M',G',r,x,m,q]]) λu s' ⟨v,H',I',rv,d,M',G',r,x,m,q⟩=>IK_ k u s' r x m q I' rv
def No(fo fa:WE):WE:=λρ M R=>fo ρ M λd M1=>Dq ic! λ_=>fa ρ M1 λy M2=>HT_ M2 d λq=>Dq f3! λ_=>R (J2_ qB_) M2
def c1x(hu:aj_)(ho:cs!)(ha:ak!)(m:M1 X o "get" ay a ai):Dk! (Jo_ A7_ [a]) (No fo fa):=⟨by
 rintro hb s Z H Q I ⟨G,ρ,M,R,st,e,k⟩;exact Kc! US;let#[c1,e1,r1]:=cY r1;let#[rfl,rfl,hM]:=cV q1 e1;subst rx;let#[t1,t2]:=EN! lY;exact ly!;rw[m.trees];exact SV χ A8!;let#[#[p2,xz,ml],e2,r2]:=cY r2;let#[kk,e3,r2]:=cY r2;let#[z1,z2,gh]:=cV bH! e2;cases z1;exact HH! c9x λov s' I' ⟨v',r',a8⟩=>#[v',H2,I',a8,k _ M2 v' G2 H2 r2 cp! m2 r']⟩
def Hn(fo fa fb:WE):WE:=λρ M R=>fo ρ M λd M1=>Dq ic! λ_=>fa ρ M1 λy M2=>fb ρ M2 λz M3=>HT_ M3 d λq=>Dq f3! λ_=>R ((qB_).getD z) M3
def qG(hu:aj_)(ho:cs!)(ha:ak!)(J:cp_)(m:M2 X o "get" ay a b ai):K6_ A7_ Hn:=⟨by
 rintro hb s Z H Q I ⟨G,ρ,M,R,st,e,k⟩;exact Kc! US;let#[c1,e1,r1]:=cY r1;let#[rfl,rfl,hM]:=cV q1 e1;subst rx;let#[t1,t2]:=EN! lY;exact ly!;rw[m.trees];exact SV χ (UD (QY (ha.run I1 f5! r1 λy M2 yv G2 H2 iv s2 r2 x2 m2 q2 I2 ry=>
  QY Bb!)))
 let#[#[p2,xz,ml],e2,r3]:=cY r3;let#[kk,e3,r3]:=cY r3;let#[z1,z2,gh]:=cV Bc! e2;cases z1;exact GQ_ c9w λov s' I' ⟨v',r',a8⟩=>Fz_ qD!⟩
def Jr(fo fa fb:WE):WE:=λρ M R=>fo ρ M λd M1=>Dq ic! λ_=>fa ρ M1 λy M2=>fb ρ M2 λz M3=>HT_ M3 d λq=>Dq f3! λ_=>q.2.1.length<big/\
 match kget q.2.1 y with
 |some v=>R v M3
 |none=>R z (IL! M3 (Br q.2.1 y z))
def zO(hu:aj_)(ho:cs!)(ha:ak!)(J:cp_)(m:M2 X o "setdefault" ay a b ai):K6_ (.Attribute o "setdefault" ay) Jr:=⟨by
 rintro hb s Z H Q I ⟨G,ρ,M,R,st,e,k⟩;exact DX! YB PySem.F.type_dict_setdefault;let#[c1,e1,r1]:=cY r1;let#[rfl,rfl,hM]:=cV q1 e1;subst rx;let#[t1,t2]:=EN! lY;exact ly!;rw[m.trees];exact SV χ (UD (QY (ha.run I1 f5! r1 λy M2 yv G2 H2 iv s2 r2 x2 m2 q2 I2 ry=>
  QY Bb!)))
 let#[#[p2,xz,ml],e2,r3]:=cY r3;let#[kk,e3,hl,r3]:=cY r3;let#[z1,z2,gh]:=cV Bc! e2;cases z1;let lp:=DQ! cp! x3 m2;exact GQ_ yO hl (λw ov s' hw I' ⟨v',r',a8⟩=>?_) λhn a9 s' I' c'=>?_
 .dsimp only at r3;rw[hw]at r3;exact Fz_ lp
 .dsimp only at r3;rw[hn]at r3;exact#[zv,_,I',rz,k _ _ zv G3 _ r3 (lp.trans (.write m3 x3.sub gh) m3) (m3.write gh c') q3]⟩
def Vp(fo fa:WE):WE:=λρ M R=>fo ρ M λd M1=>Dq ic! λ_=>fa ρ M1 λy M2=>HT_ M2 d λq=>Dq f3! λ_=>Dq qB_ λv=>R v (IL! M2 (Hu q.2.1 y))
def c1v(hu:aj_)(ho:cs!)(ha:ak!)(m:M1 X o "pop" ay a ai):Jh! "pop" Vp:=⟨by
 rintro hb s Z H Q I ⟨G,ρ,M,R,st,e,k⟩;exact DX! PySem.F.slot_dict_pop PySem.F.type_dict_pop;let#[c1,e1,r1]:=cY r1;let#[rfl,rfl,hM]:=cV q1 e1;subst rx;let#[t1,t2]:=EN! lY;exact ly!;rw[m.trees];exact SV χ A8!;let#[#[p2,xz,ml],e2,r2]:=cY r2;let#[kk,e3,r2]:=cY r2;let#[w,e4,r2]:=cY r2;let#[z1,z2,gh]:=cV bH! e2;cases z1;exact HH! d5l e4 λa9 ov s' I' c' ⟨v',r',a8⟩=>#[v',_,I',a8,k _ _ v' G2 _ r2 ((cp!).trans (GR! gh) m2) (m2.write gh c') r']⟩
def Gi:WE:=λρ M R=>∀p,M p=υ->R B! eC!
def gD:Dk! (.Dict [] [] pos) Gi:=⟨by
 rintro hb s Z H Q I ⟨G,ρ,M,R,st,e,k⟩;let hp:=I.fresh;let D0:Ko_ 0:=qE_;exact wpAny_Dict_empty #[dm!,upd H s.heap.objs.size Bg_,qF!,χ,?_]
 .show"!^"
 .exact H7_ G _ (e _ (IL_ hp)) (.laid st.or.sub hp) (HU! hp) Aq.fn⟩
end
abbrev WP:=Ae->Mh->(μ ar_->Mh->ν)->ν
def CV(KF:zE!)(G:Hp):μ ar_->μ qG!->Prop:=Paired λp q=>Ck KF G p.1 q.1/\Ck KF G p.2 q.2
structure MP(X:Cx)(own:i_)(pos:Pos)(keys:List (Option Expr))(j5:dR_)(f:WP):Prop where
 ok:∀(hb:z!) (s:yY!) (Z:St) (G H:Hp) (ρ:Ae) (M:Mh) (R:Bi_) (Q:μ qG!->Shared->ν),oV_ H s->Jl_ G->f ρ M R->
  (∀h1 M' G' H' us s',R h1 M'->Jv_ M'->Ky_ MR->CV X.K G' h1 us->Ju_ H'->Q us s')->Ji_ (evalPairs (pairTrees keys j5 X.env pos)) Q
section
variable{X:Cx}{own:List Nat}{e o a b:Expr}{es:List Expr}{pos ay ai p:Pos}{f fa fb fo:WE}{fs:WA}{fp:WP}{keys:List (Option Expr)}{j5:List Expr}
def Mq:WP:=λ_ M R=>R [] M
def Dx(fa fb:WE)(fp:WP):WP:=λρ M R=>fa ρ M λx M1=>fb ρ M1 λy M2=>fp ρ M2 λh1 M3=>R ((x,y)::h1) M3
def vZ:MP X own pos [] [] Mq:=#[λhb s Z G H ρ M R Q I st e k=>pairTrees_nil_walk (k [] M G H [] s e qm! st.mr .nil I)]
def iZ(ha:ak!)(J:cp_)(hp:Bj!):MP X own pos (some a::keys) (b::j5) (Dx fa fb fp):=⟨λhb s Z G H ρ M R Q I st e k=>
 pairTrees_cons_walk (ha.run I st e λx M1 v G1 H1 u s1 r1 x1 m1 q1 I1 ru=>J.run I1 f5! r1 λy M2 v2 G2 H2 u2 s2 r2 x2 m2 q2 I2 ru2=>
  hp.ok hb s2 Z G2 H2 ρ M2 _ _ I2 Ba_ r2 λh1 M3 G3 H3 us s3 r3 x3 m3 q3 I3=>
   k _ M3 G3 H3 _ s3 r3 qD! m3 (.cons #[#[v,(bH!).mono x3.g,ru],#[v2,q2.mono x3.g,ru2]] q3) I3)⟩
def kU:∀{l:q!} {d x:D},d∉l.map d!->Br l d x=l++[dF_]
 |[],_,_,_=>rfl
 |(y,z)::l,d,x,h=>by
  rw[MO,MD,UZ]at h;delta Br;rw[lA_,kU h.2];rfl
def qK:∀{l:q!} {d:D},d∉l.map d!->kget l d=υ
 |[],_,_=>rfl
 |(y,z)::l,d,h=>by
  rw[MO,MD,UZ]at h;delta kget;rw[lA_,qK h.2]
def yU(hu:aq!):∀{h1:q!} {us:μ qG!} {σ:q!} {H:Hp} {s:yY!} {M:Mh} {n:δ} {Q:PUnit->Shared->ν},CV X.K G h1 us->oV_ H s->K7! M H->Bb G H->
  M c=BS! σ n->cZ_+ay!<=1000->(∀p∈h1,(Co p.1).isSome=τ)->((σ++h1).map d!).Nodup->
  (∀H' s',Ju_ H'->DE_ Bk! G H'->K7! Bk! H'->Q PUnit.unit s')->
  wpAny h! A (forIn us PUnit.unit λ(x:Value×Value) (_:PUnit)=>(do dictSet c x.1 x.2;pure (ForInStep.yield PUnit.unit):Sem (ForInStep PUnit))) Q E s
 |_,_,σ,H,s,M,n,Q,.nil,I,m,sub,hM,hl,hk,nd,k=>by
  rw[List.forIn_nil];let hc:It_ (σ++[]) (n+0)=M:=by
   show"#5";split
   .rename_i e;rw[e,NP,hM];rfl
   .rfl
  let k:=k H s I;rw[RC,hc]at k;exact LZ (k (.refl sub) m)
 |(d,x)::h1,(u,v)::us,σ,H,s,M,n,Q,.cons r t,I,m,sub,hM,hl,hk,nd,k=>by
  rw[UI];let#[kk,hd]:=VS.mp (hk _ MB);let p8:d∉σ.map d!:=λz=>by
   rw[NM,NU]at nd;exact nd.2.2 d z d c! χ
  dsimp only[List.length_cons]at hl;exact J0_ (b1m hu I m sub hM r.1 hd r.2 (NK a! (show 1001<=big by decide)) λa9 s' I' c'=>LZ ?_);let qj:Il σ d n=n+1:=by delta Il;rw[qK p8];rfl
  rw[qj,kU p8]at c';rw[qj]at I';let m':=m.write hM c';let sub':Bb G (upd H c (dE c a9 bm!)):=(XM.write (c:=.dct (σ++[dF_]) bm!) m sub hM).sub;exact yU hu t I' m' sub' mup_same Bl_ (λp hp=>hk p jV!) (AT! OE nd) λH2 s2 I2 x2 m2=>?_;let hc:mup (It_ (σ++[dF_]) bm!) c (.dct (σ++[dF_]++h1) (n+1+ay!))=It_ (σ++dF_::h1) (n+(dF_::h1).length):=by
   show"#5";split
   .rw[OE,MX];dsimp only[List.singleton_append];rw[show n+1+h1.length=n+(h1.length+1)by omega]
   .rfl
  rw[hc]at x2 m2;exact k H2 s2 I2 ((XM.write m sub hM).trans x2 m') m2
def Oi(fp:WP):WE:=λρ M R=>∀p,M p=υ->fp ρ eC! λh1 M1=>M1 p=ψ eB_/\ay!<=1000/\(∀q∈h1,(Co q.1).isSome=τ)/\(fX_).Nodup/\R B! (mup M1 p (.dct h1 ay!))
def qF(hu:aj_)(hp:Bj!)(i':keys.all (·.isSome)=true:=by rfl)(hl:keys.length=j5.length:=by rfl)(h0:keys≠[]:=by simp)(ZH:keys.length<=15:=by decide):Dk! (.Dict keys j5 pos) (Oi fp):=⟨by
 rintro hb s Z H Q I ⟨G,ρ,M,R,st,e,k⟩;let hn:=Gv_ pairTrees_length i' hl;let gu:Gv_ pairTrees≠[]:=λz=>by rw[z]at hn;exact h0 (VW.mp hn.symm)
 rw[arm_eval_Dict,Gv_ zip_pairTrees i' hl,dictDisplay_pairs _ gu a!];delta subDict;let hf:=I.fresh;let D0:Ko_ 0:=qE_;let I1:oV_ dI! {s with heap:=s.heap.push {cls:=.type "dict",data:=.dict #[]}}:=by
  exact qF!;show"!^"
 let x0:DE_ if! G dI!:=.laid st.or.sub hf;let m0:yJ_ MR if! G dI!:=HU! hf;exact LW (VL (J0_ (wpAny_alloc (Fa_ OJ))));rw[aN_];exact LW (hp.ok hb _ Z G _ ρ _ _ _ I1 (st.grow x0 m0) (e _ (IL_ hf)) λh1 M1 G1 H1 us s1 r1 x1 m1 q1 I2=>?_);let#[hM1,ao,hk,nd,r1]:=r1;exact Ko! (yU a! q1 I2 m1 x1.sub hM1 (Di_ ao) hk nd λH2 s2 I3 x2 m2=>LZ (Id_ #[dm!,H2,I3,χ,?_]));let ZI:=(x0.trans x1 m0).trans x2 m1;simp![QD,UB]at ZI m2;exact H7_ G1 H2 r1 ZI m2 Aq.fn⟩
end
abbrev WS:=Ae->Mh->(Fl->Mh->ν)->ν
structure Jd(P:yW!)(w:yM!)(KF:zE!)(own:i_)(M0:Mh)(G0 F0:Hp)(M:Mh)(G H:Hp)(Z:St)(ρ:Ae):Prop where
 st:Db! Th own G H Z ρ M
 x:XM M0 G0 F0 M G H
 fr:∀i∈own,∀p,Z[i]?=ψ ce_->F0 p=υ
inductive HA(P:yW!)(w:yM!)(KF:zE!)(M0:Mh)(G0 F0:Hp)(own c9:i_)(f:WS)(E:Yu)(Z:St)(H:Hp):Prop
 |mk (G:Hp) (ρ:Ae) (M:Mh) (R:r_) (st:b1_) (e:h5_) (a:∀ρ' M' G' ac H',R c0! M'->Jr! c9 M'->E.nx ac H') (b:∀d M' v G' H',R ac! M'->Gw! M'->Jj! M'->DZ! G' v->E.rt v H'):Db! HA M0 G0 F0 own c9 f E Z H
structure MS(X:Cx)(own c9:i_)(st:Stmt)(f:WS):Prop where
 ok:∀M0 G0 F0,PS X st Bm!
structure Vn(X:Cx)(own c9:i_)(st:iF_)(f:WS):Prop where
 ok:∀M0 G0 F0,Vc X st Bm!
section
variable{P:yW!}{w:yM!}{KF:zE!}{own c9:List Nat}{M0 M M':Mh}{G0 F0 G H G' H':Hp}{Z ac:St}{ρ ρ':Ae}
def Jd.grow(s:b1_)(x:lg!)(m:Au!):Db! Jd own M0 G0 F0 M' G' H' Z ρ:=#[s.st.grow x m,s.x.trans x s.st.mr,s.fr]
def Jd.set(s:b1_)(hi:bi!)(r:cJ_):Db! Jd own M0 G0 F0 M G H eQ_ bR!:=by
 let ne:∀j∈own,i≠j:=λj hj z=>IE! z;exact#[#[s.st.or.set hi r,s.st.mr,Bm_],s.x,Bm_]
 .rw[NZ (ne j hj)]at e;exact s.st.dj j hj p e
 .rw[NZ (ne j hj)]at e;exact s.fr j hj p e
def Fu(own:i_)(Z:St)(H:Hp):Hp:=λb=>if b∈Jy own Z then υ else H b
def Jd.sr(s:b1_):EA_ SR G lB_ G H Z ρ:=by
 exact#[s.st.or,#[fu!,j4_,s.st.or.sub,cS!],yb_]
 .delta Fu at e;show"!7"
  .rcases e
  .exact e
 .delta Fu;rw[MM (a4y hi e)]
def Jd.root(s:b1_)(h:b∈Jy own Z):M b=υ/\F0 b=none:=by let#[i,hi,q]:=oK h;exact#[s.st.dj i hi b q,s.fr i hi b q]
def Jd.noF(s:b1_)(h:Fu own Z H b=υ):F0 b=none:=by
 delta Fu at h;split at h
 .rename_i J;exact(lC!).2
 .cases hM:M0 b with
  |none=>exact s.x.free hM h
  |some c=>exact ξ h (s.st.mr.has (s.x.cells b Ar_))
def Jd.cellF(s:b1_)(h:M b=ψ c):Fu own Z H b=H b/\H b≠none:=by exact#[?_,s.st.mr.has (Eu! h)];delta Fu;rw[F4_ h]
def Jd.mr'(s:b1_)(x:Bn!):Jj! M:=⟨λa c e=>by
 let#[Y,h2]:=s.st.mr.cell a c e;let#[e1,e2]:=s.cellF e;exact As_
 .cases q:G' a with
  |none=>rfl
  |some o=>
   rcases x.new a cG! with z|z
   .exact ξ Y z
   .rw[e1]at z;exact GZ! e2
 .cases q:H a with
  |none=>exact ξ q e2
  |some o=>exact x.h a o (e1.trans q)⟩
def Jd.x'(s:b1_)(x:Bn!):Gw! M:=by
 exact#[s.x.g.trans x.g,x.sub,bh_,Bn_,s.x.dom,s.x.cells]
 .obtain z|z:=x.new b h
  .exact s.x.new b z
  .exact qJ_
 .let Y:=s.x.keep b o e J;exact x.h b o ?_;delta Fu;rw[Bo!];exact Y
def Jd.after(s:b1_)(r:SR KF c9 G lB_ G' H' ac ρ'):Jr! c9 M:=
 ⟨⟨r.or,s.mr' r.ext,λi hi p e=>by
  cases q:M p with
  |none=>rfl
  |some c=>
   let#[e1,e2]:=s.cellF q;let:=GW_ r.fr;rw[e1]at this;exact Df_ this e2⟩,s.x' r.ext,λi hi p e=>s.noF (GW_ r.fr)⟩
end
section
variable{X:Cx}{own bg jz:List Nat}{st:Stmt}{rest body:List Stmt}{e a b c tg o:Expr}{es:List Expr}{pos p2:Pos}{f fa fb fc fo:WE}{fs:WA}{ft fu:WT}{q1 q2 q3:WS}{q:Ae->Option Fl}
def qC(h:iK!)(hw:∀M0 G0 F0 E Z G H ρ M R,yJ_ Jd own M0 G0 F0 M G H Z ρ->Hi_ q1->
  (∀ρ' M' G' ac H',R c0! M'->yJ_ Jd bg M0 G0 F0 M' G' H' ac ρ'->E.nx ac H')->(∀d M' v G' H',R ac! M'->XM M0 G0 F0 M' G' H'->MR X.prog X.w X.K M' G' H'->Aq X.K G' d v->E.rt v H')->t E Z H):DH_ MS st q1:=
 #[by rintro M0 G0 F0 hb s Z H E I ⟨G,ρ,M,R,sr,e,k1,k2⟩;exact DC! h E I (hw M0 G0 F0 E Z G H ρ M R sr e k1 k2)]
def Vi(q:cO!):WS:=λρ M R=>Dq (q ρ) λr=>R r M
def b7c(h:DH_ DS st q):DH_ MS st (Vi q):=⟨by
 rintro M0 G0 F0 hb s Z H E I ⟨G,ρ,M,R,sr,e,k1,k2⟩;let#[r,e1,e2]:=cY e;exact h.ok G lB_ hb s Z H E I #[G,ρ,r,sr.sr,e1,?_];cases r with
 |nx ρ'=>exact λG' ac H' de=>k1 ρ' M G' ac H' e2 (sr.after de)
 |rt d=>exact λv G' H' x r=>k2 d M v G' H' e2 (sr.x' x) (sr.mr' x) r⟩
def Bl:WS:=λρ M R=>R ab_ M
def Ag(q1 q2:WS):WS:=λρ M R=>q1 ρ M λr M1=>match r with|.nx ap=>q2 ap M1 R|.rt d=>R ac! M1
def bQ:Eh_ Vn [] Bl:=#[by rintro M0 G0 F0 hb s Z H E I ⟨G,ρ,M,R,sr,e,k1,k2⟩;exact b2y hb s Z H E I (k1 ρ M G Z H e sr)]
def aF(Y:Bo_)(h2:Vn X bg jz rest q2):Vn X own jz mE! (Ag q1 q2):=⟨λM0 G0 F0 hb s Z H E I ⟨G,ρ,M,R,sr,e,k1,k2⟩=>
 a5i qK_ Bp! hb s Z H E I #[G,ρ,M,_,sr,e,λρ' M' G' ac H' r fw=>#[G',ρ',M',R,fw,r,k1,k2],λd M' v G' H' r x m q=>IK_ k2 r x m q]⟩
def aG(Y:Bo_):DH_ Vn [st] q1:=#[λM0 G0 F0=>b2x qK_]
def Jd.free{KF:zE!}{M0 M:Mh}(s:b1_):Db! Jd [] M0 G0 F0 M fu_ H Z ρ:=by
 let o:=s.st.or.full;let sG:Bb G fu_:=λb u e=>by
  delta Kg;split
  .exact s.st.or.sub b u e
  .exact e
 exact#[#[o,#[λa c e=>?_],au!],#[s.x.g.trans sG,o.sub,bh_,s.x.keep,s.x.dom,s.x.cells],au!]
 .let#[Y,h2]:=s.st.mr.cell a c e;exact#[?_,h2.mono sG χ];delta Kg;rw[F4_ e];exact Y
 .delta Kg at h;split at h
  .rename_i J;exact .inr (lC!).2
  .exact s.x.new b h
def vY(h:Vn X [] jz rest q1):Vn X own jz rest q1:=#[by rintro M0 G0 F0 hb s Z H E I ⟨G,ρ,M,R,sr,e,k1,k2⟩;exact h.ok M0 G0 F0 hb s Z H E I #[_,ρ,M,R,sr.free,e,k1,k2]]
def Ay(f:WE):WS:=λρ M R=>f ρ M λd M1=>R ac! M1
def bD(h:b0!):DH_ MS mF! (Ay f):=qC (c0b h.ok) λM0 G0 F0 E Z G H ρ M R sr e k1 k2=>
 #[G,ρ,M,_,sr.st,e,λd M' v G' H' r x m q=>IK_ k2 r (sr.x.trans x sr.st.mr) m q]
def Oh:WS:=λ_ M R=>R (.rt .non) M
def a1z:DH_ MS sC! Oh:=qC c6y λM0 G0 F0 E Z G H ρ M R sr e k1 k2=>k2 _ M _ G H e sr.x sr.st.mr Aq.non
def An(i:δ)(f:WE):WS:=λρ M R=>f ρ M λd M1=>DZ_ bR! M1
def bG(hN:br!)(hi:ao!)(hx:br_)(h:b0!)(bx:bi!:=by decide)(hs:xU!:=by rfl)
  (hf:X.fn x=τ\/CG! x=D4! some:=by first|exact .inl χ|exact .inr χ|assumption):Eh_ MS xV! (An i f):=
 qC xU_ λM0 G0 F0 E Z G H ρ M R sr e k1 k2=>#[G,ρ,M,_,sr.st,e,λd M' v G' H' r x m q=>k1 _ M' G' _ H' r ((qL!).set bx q)]
def At(ft:WT)(q1 q2:WS):WS:=λρ M R=>ft ρ M λb M1=>if b then FX! q1 else FX! q2
def cF(hc:qn!)(Y:DH_ Vn b1 q1)(h2:DH_ Vn b2 q2):DH_ MS xW! (At ft q1 q2):=⟨by
 rintro M0 G0 F0 hb s Z H E I ⟨G,ρ,M,R,sr,e,k1,k2⟩;exact d1c hc.ok qK_ Bp! hb s Z H E I #[G,ρ,M,_,sr.st,e,λb M' G' H' r x m=>?_];cases b with
 |true=>exact nM Br!
 |false=>exact nN Br!⟩
def Bg(f:WE):WS:=λρ M R=>f ρ M λ_ M1=>R ab_ M1
def cE(h:b0!)(hs:sA!:=by rfl):Eh_ MS (Ha! e) (Bg f):=
 qC (tU h.ok hs) λM0 G0 F0 E Z G H ρ M R sr e k1 k2=>#[G,ρ,M,_,sr.st,e,λd M' v G' H' r x m q=>k1 ρ M' G' Z H' r qL!]
def Di:WS:=λ_ _ _=>False
def eL:DH_ MS st Di:=#[by rintro M0 G0 F0 hb s Z H E I ⟨G,ρ,M,R,sr,e,k1,k2⟩;exact e.elim]
def Gg(C:yJ!)(x:Str)(fo f:WE):WS:=λρ M R=>f ρ M λy M1=>fo ρ M1 λd M2=>match d with
 |.fn p=>(match M2 p with|some (.obj C' fs)=>C'=C/\bq!<100/\R ab_ Bu_|_=>False)
 |_=>False
def gV(c:d6!)(n:Dp X.K C x)(ho:cs!)(h:b0!)(hs:JU! e (.Attribute o x p2)=pure false:=by rfl):Eh_ MS (EC_ [.Attribute o x p2] e) (Gg C x fo f):=
 qC (d2t ho.ok h.ok hs) λM0 G0 F0 E Z G H ρ M R sr e k1 k2=>⟨G,ρ,M,_,sr.st,e,λy M1 v G1 H1 r1 x1 m1 q1=>⟨G1,ρ,M1,_,Gd! x1,r1,λd M2 u G2 H2 r2 x2 m2 q2=>by
  cases d<;>first|exact r2.elim|skip
  rename_i p;obtain rfl:=gQ q2;dsimp only at r2;split at r2
  .rename_i C' fs hM;let#[hC,hl,r2]:=r2;subst hC;let#[_,dx,vs,h3,h4]:=m2.cell p _ hM;let ao:bq!=bu_:=TV h4;exact#[p,_,dx,vs,χ,h3,c,n,o_,k1 ρ _ G2 Z _ r2 ((Bv_).grow (GR! hM) (m2.write hM #[dx,_,cC,c9f bH! h4]))]
  .exact r2.elim⟩⟩
def Ki(M:Mh)(d y v:D):ι Mh:=match d with
 |.fn p=>match M p with
  |some (.dct h1 ep)=>if(f3!).isSome&&decide (ay!<big)then ψ f6_ else υ
  |some (.lst xs)=>match y with
   |.int j=>(Fx! j).map λk=>FX_ (J3_ k)
   |_=>υ
  |_=>υ
 |_=>υ
def FJ(P:yW!)(w:yM!)(KF:zE!):V->V->V->Hp->mH!->Prop:=λo i v H Q=>∃(M:Mh) (G:Hp) (a:yJ!) (h1:q!) (ep:δ) (d x:D) (k:MK),o=.ref a/\Bb G H/\Jw! M/\M a=ψ h7_/\DZ! G i/\Co d=ψ k/\H7! x v/\ay!<big/\
 ∀a9,Db! Gs G lm_ a AF!->Q lm_
def c6j(hu:aj_):Yn X (DE! FJ X.K):=by intro hb s Z H o i v ov iv u Q I ro ri rv h;let#[M,G,a,h1,ep,d,x,k,rfl,sub,m,e,r,hk,rx,hl,q]:=h;subst ro;exact b1l a! I m sub e #[_,r,ri] hk #[_,rx,rv] hl λa9 s' I' c'=>#[_,I',q a9 c']
def c6w(h:Yn X r)(h':Yn X r'):Yn X (λo i v H Q=>r o i v H Q\/r' o i v H Q):=by
 intro hb s Z H o i v ov iv u Q I ro ri rv q;obtain q|q:=q
 .exact JN! h
 .exact JN! h'
def Bv(fo fi f:WE):WS:=λρ M R=>f ρ M λv M1=>fo ρ M1 λd M2=>fi ρ M2 λy M3=>Dq qL_ λM4=>R ab_ M4
def dU(hu:aj_)(ho:cs!)(hi:Dk! i fi)(h:b0!)
  (ha:∀v,assign Bw! X.env v=(do
   let ov <-holding [v] b6!
   let iv <-holding [v,ov] sF_
   standAt p2
   holding eY! mI!
   release eY! []):=by intro _;rfl)
  (hs:Ez_ lC_=pure false:=by rfl) (hw:Fu! lC_=pure none:=by rfl)
  (Y:DK! lC_=[assign Bw! X.env]:=by rfl):Eh_ MS (EC_ lC_ e) (Bv fo fi f):=
 qC (c0d h.ok (c0i ho.ok hi.ok (c6w a4u (c6j hu)) ha) hs hw Y) λM0 G0 F0 E Z G H ρ M R sr e k1 k2=>⟨G,ρ,M,_,sr.st,e,λv M1 vv G1 H1 r1 x1 m1 q1=>⟨G1,ρ,M1,_,Gd! x1,r1,λd M2 dv G2 H2 r2 x2 m2 q2=>
  ⟨G2,ρ,M2,_,(Gd! x1).grow x2 m2,r2,λy M3 yv G3 H3 r3 x3 m3 q3=>by
   let#[M4,e4,r4]:=cY r3;let vi:=(Bv_).grow x3 m3;let qd:=q2.mono x3.g;let qv:=(bH!).mono x3.g;delta Ki at e4;split at e4
   .rename_i p;obtain rfl:=gQ qd;split at e4
    .rename_i h1 ep hM;split at e4
     .rename_i hc;rw[NQ,NS]at hc;rcases e4;let#[kk,hk]:=VS.mp hc.1;exact .inr #[M3,G3,p,h1,ep,y,v,kk,χ,x3.sub,m3,hM,q3,hk,qv,hc.2,λa9 c'=>k1 ρ _ G3 Z _ r4 (HH_ c')]
     .rcases e4
    .rename_i xs hM;split at e4
     .rename_i j;obtain rfl:=bC q3;let#[n,e5,rfl]:=MQ.mp e4;let#[_,vs,h3,h4]:=m3.cell p _ hM;exact .inl #[p,vs,j,n,χ,χ,h3,by rw[<-aL h4];exact e5,k1 ρ _ G3 Z _ r4 (HH_ #[_,cC,vD qv n h4])]
     .rcases e4
    .rcases e4
   .rcases e4⟩⟩⟩
def Oj(i:δ)(f:WE):WS:=λρ M R=>match ρ[i]? with
 |some (some (.int a))=>f ρ M λd M1=>(match d with|.int b=>R (JE_ (Da_ (a+b))) M1|_=>False)
 |_=>False
def c1s(hN:br!)(hi:ao!)(hx:br_)(h:b0!)(bx:bi!:=by decide)
  (hf:X.fn x=τ\/CG! x=D4! some:=by first|exact .inl χ|exact .inr χ|assumption):Eh_ MS (.AugAssign dt_ .Add e pos) (Oj i f):=
 qC (d2u hN hi hx h.ok d4n hf) λM0 G0 F0 E Z G H ρ M R sr e k1 k2=>by
  delta Oj at e;show"!7"
  .rename_i a hρ;let#[v,Y,h2]:=sr.st.or.at_ i _ hρ bx;obtain rfl:=bC h2;exact#[_,Y,G,ρ,M,_,sr.st,e,Bx!];cases d<;>first|exact r.elim|skip
   obtain rfl:=bC q;exact#[a,_,χ,χ,k1 _ M' G' _ H' r ((qL!).set bx Aq.int)]
  .exact e.elim
def Bz(ft:WT)(q:WS):δ->WS
 |0=>λ_ _ _=>False
 |n+1=>λρ M R=>ft ρ M λb M1=>if b then q ρ M1 (λr M2=>match r with|.nx bi=>Bz ft q n bi M2 R|.rt d=>R ac! M2)else R ab_ M1
def Iw(ft:WT)(q:WS):WS:=λρ M R=>∃n,Bz ft q n ρ M R
def kR(hp:gv_)(hc:qn!)(J:Bx_):Eh_ MS sK! (Iw ft q1):=⟨by
 rintro M0 G0 F0 hb s Z H E I ⟨G,ρ,M,R,sr,⟨n,e⟩,k1,k2⟩;exact c0a hp hc.ok (J.ok M0 G0 F0) hb s Z H E I #[λm ac H'=>∃G' ρ' M',Jd X.prog X.w X.K own M0 G0 F0 M' G' H' ac ρ'/\Bz ft q1 m ρ' M' R,#[n,G,ρ,M,sr,e],?_];rintro m ac H' ⟨G',ρ',M',fw,e'⟩;cases m with
 |zero=>exact e'.elim
 |succ m=>
  exact#[G',ρ',M',_,fw.st,e',λb M1 G1 H1 r1 x1 m1=>?_];cases b with
  |true=>exact nM #[λdu H2=>∃G2 bi M2,Jd X.prog X.w X.K own M0 G0 F0 M2 G2 H2 du bi/\Bz ft q1 m bi M2 R,λdu H2 h=>#[m,UU m,h],G1,ρ',M1,_,fw.grow x1 m1,r1,λbi M2 G2 du H2 r2 x5=>#[G2,bi,M2,x5,r2],λd M2 v G2 H2 r2 x2 m2 q2=>k2 d M2 v G2 H2 r2 x2 m2 q2]
  |false=>exact nN (k1 ρ' M1 G1 ac H1 r1 (fw.grow x1 m1))⟩
end
def HU(P:yW!)(w:yM!)(KF:zE!)(al:It)(ds:d_)(ck:f7!)(G1:Hp):Prop:=∀(i:δ) (M':Mh) (G' H':Hp),Bb G1 G'->Bb G' H'->Jj! M'->ck M'->
 xF!/\xF_
abbrev WI:=Ae->Mh->(μ D->(Mh->ν)->Mh->ν)->ν
inductive JR(P:yW!)(w:yM!)(KF:zE!)(own:i_)(fi:WI)(Z:St)(H:Hp)(R:iP!):Prop
 |mk (G:Hp) (ρ:Ae) (M:Mh) (T:μ D->(Mh->ν)->Mh->ν) (st:h5!) (e:fi ρ M T) (k:∀ds ck M1 al G1 H1,T ds ck M1->DE_ M1 G1 H1->Db! MR M1 G1 H1->J4! ck->R al H1):Db! JR own fi Z H R
structure MI(X:Cx)(own:i_)(tg iter:Expr)(fi:WI):Prop where
 ok:Ha_ iter (Eq_ JR fi)
section
variable{X:Cx}{own bg jz:List Nat}{st:Stmt}{rest body:List Stmt}{e a b c tg o:Expr}{es:List Expr}{pos p2:Pos}{f fa fb fc fo:WE}{fs:WA}{fi:WI}{ft fu:WT}{q1 q2 q3:WS}{di:Ae->Option (List D)}
def d1l(h:Ha_ e wi)(hw:∀Z G H R ρ M T,Jl_ G->fi ρ M T->(∀ds ck M1 al G1 H1,T ds ck M1->XM M G H M1 G1 H1->MR X.prog X.w X.K M1 G1 H1->HU X.prog X.w X.K al ds ck G1->R al H1)->wi Z H R):EU_ MI e fi:=
 #[by rintro hb s Z H R I ⟨G,ρ,M,T,st,e,k⟩;exact DC! h R I (hw Z G H R ρ M T st e k)]
def Hb(di:a2!):WI:=λρ M T=>Dq (di ρ) λds=>T ds N! M
def AQ.m{KF:zE!}(h:xM!):J4! N!:=λi M' G' H' s1 s2 _ _=>h i G' H' s1 s2
def nF(h:EU_ DI e di):EU_ MI e (Hb di):=d1l h.ok λZ G H R ρ M T st e k=>by
 let#[ds,e1,e2]:=cY e;exact#[G,ρ,ds,st.or,e1,λal G1 H1 x gf=>k ds _ M al G1 H1 e2 li! ql! gf.m]
def Ca(f:WE):WI:=λρ M T=>f ρ M λd M1=>match d with
 |.lst xs=>T xs N! M1
 |.fn p=>(match M1 p with|some (.lst xs)=>T xs (λM=>M p=ψ H!) M1|_=>False)
 |_=>False
def eF(h:ak!):Kx_ MI Ca:=d1l (b3c h.ok) λZ G H R ρ M T st e k=>⟨G,ρ,M,_,st,e,λd M1 v G1 H1 r1 x1 m1 q1=>by
 cases d<;>first|exact r1.elim|skip
 .let#[p,vs,rfl,q,rr]:=bS q1;exact#[p,χ,#[vs,x1.sub.seq q],k _ _ M1 _ G1 H1 r1 x1 m1 (a6t q rr).m]
 .rename_i p;obtain rfl:=gQ q1;dsimp only at r1;split at r1
  .rename_i xs hM;let#[_,vs,Y,h2]:=m1.cell p _ hM;exact#[p,χ,#[vs,El.of Y],k _ _ M1 _ G1 H1 r1 x1 m1 λi M' G' H' s1 s2 m' ck=>?_];let#[_,gr,h3,h4]:=m'.cell p _ ck;let q':El X.K H' p gr:=El.of h3;exact#[du_,λhi=>GZ_ gr h4];let#[v,g1,g2]:=fX h4 hd;exact#[#[gr,v,q',g1],fB_];let#[e1,e2]:=hy;subst e1;let:=e2 gr q';rw[g1]at this;rcases this;exact#[G',kk_,g2]
  .exact r1.elim⟩
def Ga(bnd:bV!)(ck:f7!)(q:WS):μ D->WS
 |[]=>λρ M R=>ck M/\R ab_ M
 |d::ds=>λρ M R=>ck M/\Dq km! λap=>q ap M λr M1=>match r with|.nx bi=>Ga bnd ck q ds bi M1 R|.rt d=>R ac! M1
def Cs(fi:WI)(bnd:bV!)(q:WS):WS:=λρ M R=>fi ρ M λds ck M1=>Ga bnd ck q ds ρ M1 R
def JM(KF:zE!)(own:i_)(g:TG)(bnd:bV!):Prop:=∀{P:yW!} {w:yM!} {x:V} {d:D} {Z:St} {M0 M:Mh} {G0 F0 G H:Hp} {ρ ap:Ae} {Q:iL_},Db! Jd own M0 G0 F0 M G H Z ρ->DZ! G x->bnd d ρ=ψ ap->(∀fg,Jd P w KF own M0 G0 F0 M G H fg ap->Q fg H)->g x Z H Q
def dN{KF:zE!}(i:δ)(hi:bi!:=by decide):EA_ JM eX_ (Cb i):=by intro P w x d Z M0 M G0 F0 G H ρ ap Q sr r e k;rcases e;exact k _ (sr.set hi r)
def Nj(i j:δ):D->Ae->ι Ae:=λd ρ=>match d with|.tup [x,y]=>ψ ((ρ.set i gu_).set j (ψ y))|_=>υ
def a7d{KF:zE!}(i j:δ)(hi:bi!:=by decide)(hj:j∉own:=by decide):EA_ JM xL! (Nj i j):=by
 intro P w x d Z M0 M G0 F0 G H ρ ap Q sr r e k;delta Nj at e;show"!7"
 .rcases e;show"!c";show"!8";exact#[p,[v1,v2],χ,bU sr.st.or.sub q,χ,v1,[v2],χ,v2,[],χ,χ,k _ ((sr.set hi r1).set hj r2)]
 .rcases e
def Jd.base{KF:zE!}{M0 M1:Mh}(s:qN!):Db! Jd own M1 G1 ig! M1 G1 H1 Z ρ:=
 #[s.st,#[Bb.refl _,s.st.or.sub,cS!,λb o e _=>s.sr.ext.h b o e,cS!,λb h=>h],λi hi p e=>GW_ s.sr.fr]
def Jd.unx{KF:zE!}{M0 M1 M':Mh}(s:qN!)(y:Gw_ ig!):Gw! M':=by
 exact#[s.x.g.trans y.g,y.sub,bh_,Bn_,bh_,λb h=>y.cells b (s.x.cells b h)]
 .obtain z|z:=y.new b h
  .exact s.x.new b z
  .exact qJ_
 .exact y.keep b o ?_ ?_
  .delta Fu;rw[Bo!];exact s.x.keep b o e J
  .cases q:M1 b with
   |none=>rfl
   |some c=>
    rcases s.x.dom b cG! with z|z
    .exact ξ J z
    .rw[e]at z;rcases z
 .obtain z|z:=y.dom b h
  .exact s.x.dom b z
  .exact qJ_
def Jd.unbase{KF:zE!}{M0 M1 M':Mh}(s:qN!)(s':Db! Jd bg M1 G1 ig! M' G' H' ac ρ'):Jr! bg M':=
 #[s'.st,s.unx s'.x,λi hi p e=>s.noF (GW_ s'.fr)]
def eV(hp:gv_)(hc:az!)(ax:qO!)(hg:mI_)(oj:Eb! JM g bnd)(J:Bx_)
  (hs:db_:=by intro _;rfl):Eh_ MS s6! (Cs fi bnd q1):=⟨by
 rintro M0 G0 F0 hb s Z H E I ⟨G,ρ,M,R,sr,e,k1,k2⟩;let j0:Ix_ (λE Z H=>∃A B C,HA X.prog X.w X.K A B C own own q1 E Z H):=by rintro hb s Z H E I ⟨A,B,C,h⟩;exact J.ok A B C hb s Z H E I h
 exact F3_ hg #[G,ρ,M,_,sr.st,e,λds ck M1 al G1 H1 r1 x1 m1 gf=>?_];let ya:=sr.grow x1 m1;exact⟨λn m ac H'=>n<=g_/\m=g_ - n/\∃G' ρ' M',yJ_ Jd own M1 G1 ig! M' G' H' ac ρ'/\Ga bnd ck q1 oE_ ρ' M' R,
  #[g_,OA _,χ,G1,ρ,M1,ya.base,r1],?_⟩
 rintro n m ac H' ⟨hn,rfl,G',ρ',M',fw,e3⟩;let cp:ck M':=by
  cases hd:H8_ n with
  |nil=>rw[hd]at e3;exact e3.1
  |cons _ _=>rw[hd]at e3;exact e3.1
 let#[ny,nz]:=gf n M' G' H' fw.x.g fw.st.or.sub fw.st.mr cp;by_cases ar:n<g_
 .right;let hd:ds[n]?=ψ ds[n]:=by simp[ar]
  rw[QR ar]at e3;let#[_,e3]:=e3;let#[ap,e4,e3]:=cY e3;let#[go,yl]:=ny _ hd;exact#[go,λdu H2=>∃G2 bi M2,Jd X.prog X.w X.K own M1 G1 ig! M2 G2 H2 du bi/\Ga bnd ck q1 (H8_ bm!) bi M2 R,by rintro du H2 ⟨G2,bi,M2,Y,h3⟩;exact#[g_ - bm!,o_,ar,χ,G2,bi,M2,Y,h3],ko!];let#[G2,x2,r2]:=yl v H2 hy;let x5:=fw.grow lv! (fw.st.mr.ext x2);exact oj x5 r2 e4 λic vi=>#[M1,G1,Fu own Z H1,G2,ap,M',_,vi,e3,λs9 M4 G4 σ4 H4 r4 sr4=>#[G4,s9,M4,sr4,r4],λd M4 v G4 H4 r4 x4 m4 q4=>k2 d M4 v G4 H4 r4 (ya.unx x4) m4 q4]
 .left;let ja:n=g_:=by omega
  exact pr!;rw[ja,WB]at e3;exact k1 ρ' M' G' ac H' e3.2 (ya.unbase fw)⟩
def On(bnd:bV!)(ck:f7!)(ft:WT)(fe:WE)(ρ:Ae):μ D->Mh->Av!->ν
 |[],M,R=>ck M/\R [] M
 |d::ds,M,R=>ck M/\Dq km! λap=>ft ap M λb M1=>if b then fe ap M1 λy M2=>Ej! ρ ds M2 λys M3=>R (y::ys) M3 else Ej! ρ ds M1 R
def Be(nl:δ)(ix:i_)(fi:WI)(bnd:bV!)(ft:WT)(fe:WE):WE:=λρ M R=>fi ρ M λds ck M1=>g_<=big/\Ej! oJ_ ds M1 λys M2=>R bf! M2
def b4t{KF:zE!}{M1:Mh}{Fin:c7!}
  (J:g_<=big)(gf:J4! ck)(hg:GD KF g bnd)(er:Db! Th [] G1 H1 xh nv M1)(e:Ej! nv ds M1 R)(k:∀jy ys M' G' H',R jy M'->Gw_ H1->Jj! M'->Hd_ jy->jy.length<=g_->Fin ys H'):
  Xq al g (Db! CA [] ft) (Db! EY [] fe) Fin xh H1:=by
 exact⟨λi m ys ac H'=>i<=g_/\m=g_ - i/\∃G' M' ws,Gw_ H1/\Db! Th [] G' H' ac nv M'/\Hd_ ws/\cb!<=i/\Ej! nv (H8_ i) M' λr M2=>R (ws++r) M2,
  #[g_,OA _,χ,G1,M1,[],.refl er.or.sub,er,Al.nil,OA _,e],?_⟩
 rintro i m ys ac H' ⟨hi,rfl,G',M',ws,x,de,a7,hw,e2⟩;exact xO!;let cp:ck M':=by
  cases hd:H8_ i with
  |nil=>rw[hd]at e2;exact e2.1
  |cons _ _=>rw[hd]at e2;exact e2.1
 let#[ny,nz]:=gf i M' G' H' x.g de.or.sub de.mr cp;by_cases ar:i<g_
 .right;let hd:ds[i]?=ψ ds[i]:=by simp[ar]
  rw[QR ar]at e2;let#[_,e2]:=e2;let#[ap,e1,e2]:=cY e2;let#[go,yl]:=ny _ hd;exact#[go,ko!];let#[G2,x2,r2]:=yl v H2 hy;let dq:=de.grow lv! (de.mr.ext x2);let xx2:=x.trans lv! de.mr;exact hg dq.or r2 e1 λfg nr sj=>#[G2,ap,M',_,BD_,e2,λb M3 G3 H3 r3 x3 m3=>?_];let km:=(show Th P w KF [] G2 H2 fg ap M' from BD_).grow x3 m3;let lp:=xx2.trans x3 dq.mr;cases b with
  |true=>
   exact nM #[G3,ap,M3,_,km,r3,λy M4 u G4 H4 r4 x4 m4 q4=>#[g_ - w_,o_,ar,χ,G4,M4,ws++[y],lp.trans x4 m3,#[(km.grow x4 m4).or.le sj,m4,au!],?_,?_,?_]]
   .exact dL xP_ (DK_ q4)
   .rw[MH,QS];omega
   .let e5:(λr M2=>R (ws++[y]++r) M2)=λr M2=>R (ws++y::r) M2:=by
     funext r M2;rw[OE];rfl
    rw[e5];exact r4
  |false=>
   exact nN #[g_ - w_,o_,ar,χ,G3,M3,ws,lp,#[km.or.le sj,m3,au!],(pc!).mono x3.g,o_,r3]
 .left;let ja:i=g_:=by omega
  exact pr!;rw[ja,WB]at e2;let this:R (ws++[]) M':=e2.2;rw[NP]at this;exact k ws ys M' G' H' this x de.mr a7 a!
def gW
  (db:dp_)(cx:dq!)(kj:∀y∈cc_,y.2=.local->scope.names.lookup y.1=D4! ψ)
  (io:hj!)(cap:dp!)(og:j6!)(calm:az!)(ax:qO!)
  (hg:hj_)(oj:pd_)(hi:BI!)(he:BI_)
  (hs:db_:=by intro _;rfl):
  ME X own hg! BJ!:=
 fD xR! λZ G H Q ρ M R st e k=>⟨G,ρ,M,_,st,e,λds ck M1 al G1 H1 r1 x1 m1 gf=>by
  let#[J,r1]:=r1;let qe:=st.grow x1 m1;exact b4t J gf oj BJ_ r1 λjy ys M' G' H' r x m q _ p hp=>?_;exact k _ M' _ _ _ r ((J3! x).trans (.ext hy!) m) (m.ext hy!) (cJ pe_ q)⟩
def sY:Pg X [] (CA X.prog X.w X.K [] λρ M R=>R τ M):=by rintro hb s Z H Q I ⟨G,ρ,M,R,st,e,k⟩;exact KG_ a5k (k τ M G H e qm! st.mr)
def nE(h:MT X [] c ft):Pg X [c] BH_:=a5j h.ok
abbrev WF:=μ D->Mh->Au_->ν
def DN(P:yW!)(w:yM!)(KF:zE!)(n:δ)(g:WF):Sp:=λvs H Q _=>bu_=n/\∃G ds M R,Bb G H/\Jw! M/\Da! G/\g ds M R/\∀d M' v G' H',R d M'->Jv_ M'->Jj! M'->DZ! G' v->Q v H'
def Ih(P:yW!)(w:yM!)(KF:zE!)(mg:U_)(base:Heap)(k:δ)(x:Str)(ps:G_)(g:WF):Prop:=
 ∃aj fd,Jf_ qQ_/\DS! KF/\mg x=ψ bT_/\EH_ KF bT_=τ
nonrec def gl(g:bj!):WF:=λds M R=>Dq (g ds) λd=>R d M
def Ok.m{KF:zE!}{mg:U_}{k:δ}{g:bj!}(h:Db! Ok mg base k x ps g):Db! Ih mg base k x ps (gl g):=by let#[aj,fd,Y,h2,h3,h4]:=h;exact#[aj,fd,Y.imp λvs H Q E z=>?_,h2,h3,h4];let#[hl,G,ds,M,R,sub,m,r,e,k]:=z;let#[d,e1,e2]:=cY e;exact#[hl,G,ds,d,sub,r,e1,λv G' H' x q=>k d M v G' H' e2 li! (m.ext x) q]
def Ah(n:δ)(g:WF)(fs:WA):WE:=λρ M R=>fs ρ M λds M1=>g_=n/\g ds M1 R
def aM(F:yJ_ Ih X.mg X.base k x ps g)(hr:b9_)(hg:V!)(ha:ib!)
  (bh:C!:=by decide)(he:ap!:=by rfl)(ba:aS!:=by rfl):
  ME X own bc_ (Ah ps.length g fs):=by
 let#[aj,fd,Y,h2,h3,h4]:=F;exact fD (b3h Y hr hg h3 h4 h2 .nil vJ ha.ok bh he ba) λZ G H Q ρ M R st e' k=>#[G,ρ,M,_,st,e',λds M1 vs G1 H1 r1 x1 m1 q1=>?_];rw[NP];exact#[by rw[<-aL q1];exact r1.1,G1,ds,M1,R,x1.sub,m1,q1,r1.2,AB!]
def Db(P:yW!)(w:yM!)(KF:zE!)(mg:U_)(base:Heap)(k:δ)(C:yJ!)(m:Str)(ps:G_)(g:WF):Prop:=
 Vh KF C/\∃aj fd,Yr KF C m aj/\Jf_ qQ_/\DS! KF
def Da(C:yJ!)(m:Str)(M:Mh)(d:D):Prop:=match d with
 |.fn p=>(match M p with|some (.obj C' fs)=>C'=C/\fs.lookup m=υ|_=>False)
 |_=>False
protected def a6u{KF:zE!}(mr:co_)(r:cJ_)(h:lH!):∃p dx vs,d=.fn p/\v=.ref p/\H p=ψ Ap!/\vs.lookup m=none:=by
 delta Da at h;split at h
 .show"#L";split at h
  .rename_i C' fs hM;let#[rfl,hl]:=h;let#[_,dx,vs,Y,h2]:=mr.cell p _ hM;exact#[p,dx,vs,χ,χ,Y,c3o h2 hl]
  .exact h.elim
 .exact h.elim
def Ba(C:yJ!)(m:Str)(n:δ)(g:WF)(fo:WE)(fs:WA):WE:=λρ M R=>fo ρ M λd M1=>Da C m M1 d/\fs ρ M1 λds M2=>g_+1=n/\g ei! M2 R
def cD(F:BK!)(hr:b9_)(ho:cs!)(ha:ib!)
  (bp:ap!:=by rfl)(ba:aS!:=by rfl)
  (ht:eval jg_ X.env=(do
   let ov <-eval o X.env
   standAt gJ!
   let(f,first) <-holding [ov] gJ_
   callWith pos f first t3_ e7_):=by rfl):Dk! jg_ (IM! fs):=by
 let#[cl,aj,fd,Y,h2,h3]:=F;exact fD (c7f ho.ok cl Y h2 hr h3 .nil vJ ha.ok bp ba ht) λZ G H Q ρ M R st e' k=>BL_;show"!r";exact#[p,dx,vs,χ,hH,hl,G1,ρ,M1,_,lj_,r1,λds M2 us G2 H2 r2 x2 m2 q2=>?_];rw[NP];exact#[by rw[MX,<-aL q2];exact r2.1,G2,.fn p::ds,M2,R,x2.sub,m2,Al.cons Aq.fn q2,r2.2,λd M3 v G3 H3 r3 x3 m3 q3=>k d M3 v G3 H3 r3 qD! m3 q3]
def a6j(F:BK!)(hr:b9_)(ho:cs!)
  (ht:eval jh_ X.env=(do
   let ov <-eval o X.env
   standAt gJ!
   let(f,first) <-holding [ov] gJ_
   callWith pos f first nv! e7_):=by rfl):Dk! jh_ (IM! Ad):=by
 let#[cl,aj,fd,Y,h2,h3]:=F;exact fD (c0p ho.ok cl Y h2 hr h3 .nil vJ ht) λZ G H Q ρ M R st e' k=>BL_;show"!r";exact#[p,dx,vs,χ,hH,hl,?_];let r2:=r1;exact#[r2.1,G1,[.fn p],M1,R,x1.sub,m1,Al.cons Aq.fn Al.nil,r2.2,λd M3 v G3 H3 r3 x3 m3 q3=>k d M3 v G3 H3 r3 (J3! x3) m3 q3]
def Yq(P:yW!)(w:yM!)(KF:zE!)(mg:U_)(base:Heap)(k:δ)(x:Str)(C:yJ!)(ps:G_)(g:WF):Prop:=
 mg x=ψ ao_/\∃aj fd,Mk KF C aj/\Jf_ qQ_/\DS! KF
def Gh(C:yJ!)(n:δ)(g:WF)(fs:WA):WE:=λρ M R=>fs ρ M λds M1=>g_+1=n/\∀p,M1 p=υ->g (.fn p::ds) (mup M1 p (.obj C [])) λd M2=>d=.non/\R B! M2
def c2a{KF:zE!}{M1:Mh}(sub:Bb G1 H1)(m1:Ar!)(hx:H1 x=υ)(j6:H1 dx=υ)(ne:dx≠x):
  XM M1 G1 H1 BM! G1 nq_/\Db! MR BM! G1 nq_:=by
 let ah:∀b o,H1 b=ψ o->upd tZ! x nr! b=ψ o:=λb o e=>by rw[bB (cP e hx),bB (cP e j6)];exact e
 exact#[#[Bb.refl G1,λb o e=>ah b o (sub b o e),cS!,λb o e _=>ah b o e,bh_,bh_],#[λb q e=>?_]]
 .by_cases J:b=x
  .subst J;exact .inr hx
  .rw[cY!]at h;exact .inl h
 .by_cases J:b=x
  .subst J;rw[mup_same];simp
  .rw[cY!];exact h
 .by_cases J:b=x
  .show"#-";exact#[sub.free hx,dx,[],cC,.nil]
  .rw[cY!]at e;let#[Y,h2]:=m1.cell b q e;exact#[Y,h2.mono (Bb.refl G1) ?_];cases hq:H1 b with
   |none=>exact Df_ hq h2.has
   |some o=>exact ah b o hq
def b3v(F:BN_)(hr:gN!)(hg:V!)(ha:ib!)
  (bh:C!:=by decide)(he:ap!:=by rfl)(ba:aS!:=by rfl):Dk! bc_ (Gh C ps.length g fs):=by
 let#[hm,aj,fd,Y,h2,h3]:=F;exact fD (c7g Y h2 hr hg hm h3 .nil vJ ha.ok bh he ba) λZ G H Q ρ M R st e' k=>#[G,ρ,M,_,st,e',λds M1 vs G1 H1 r1 x1 m1 q1=>λy dx hy j6 ne=>?_];let#[z1,z2]:=c2a x1.sub m1 hy j6 ne;rw[NP];exact⟨by rw[MX,<-aL q1];exact r1.1,G1,.fn y::ds,_,_,z1.sub,z2,E8! Aq.fn q1,r1.2 y (IK! hy),λd M2 v G2 H2 r2 x2 m2 q2=>by
  let#[rfl,r2]:=r2;exact FY! ((J3! z1).trans x2 z2)⟩
def nG(F:BN_)(hr:gN!)(hg:V!)
  (bh:C!:=by decide):Dk! t9! (Gh C ps.length g Ad):=by
 let#[hm,aj,fd,Y,h2,h3]:=F;exact fD (c0q Y h2 hr hg hm h3 .nil vJ bh) λZ G H Q ρ M R st e' k=>λy dx hy j6 ne=>?_;let#[z1,z2]:=c2a st.or.sub st.mr hy j6 ne;let r1:=e';exact⟨r1.1,G,[.fn y],_,_,z1.sub,z2,DK_ Aq.fn,r1.2 y (IL_ hy),λd M2 v G2 H2 r2 x2 m2 q2=>by
  let#[rfl,r2]:=r2;exact FY! (z1.trans x2 z2)⟩
def Bm(N:G_)(n:δ)(q:WS):WF:=λds M R=>g_=n/\q cS_ M λr M'=>match r with|.rt d=>R d M'|.nx _=>D5_ M'
end
def uI{KF:zE!}{st:Stmt}
  (F:ye!)(S:eg!)
  (J:∀(am:yL!) (A:yK!) (outer:aO_) (s:yY!) (H:Hp) (E:XK),Ai k pr_->GX! Vn ps!):
  Fe P w KF mg base Pi W! aj fd ps (Db! DN ps.length lI_):=by
 exact yf!;let#[hl,G,ds,M,R,sub,m,r,e,kk]:=h;exact#[_,(yf_).ok M G H,?_];let er:=a4p (N:=N) sub r;exact#[G,_,M,_,#[#[er,m,au!],.refl sub,au!],e.2,λρ' M' G' ac H' r sr=>kk _ M' _ G' H' r sr.x sr.st.mr Aq.non,λd M' v G' H' r x m q=>kk d M' v G' H' r x m q]
section
variable{P:yW!}{w:yM!}{A:yK!}{E:Value->Shared->Prop}{s:yY!}{d it:yJ!}{es:List DictEntry}{ep i:Nat}
def Nn.at(D:HT! d)(e:∀o,h.get? d=ψ o->Du_ d=ψ o):Nn h' d es ep:=by let#[o,ho,r]:=D;exact#[o,e o ho,r]
def c2z(hd:BP!)(D:qR_)
  (h:Q bt_ {s with heap:=s.heap.push {cls:=.type "dict_keyiterator",data:=.fields [.ref d,.int 0 0,.int es.length 0,.int ep 0].toArray}}):K3! (.ref d):=by
 let hT:=D.typeIs;let#[o,ho,hc,ZJ]:=id D;exact wpAny_pyIter_slot hT PySem.F.slot_dict_iter (OM PySem.F.slot_dict_iter hT PySem.F.entry_dict_iter ?_ (PySem.F.args_dict_iter_1 _));delta Builtin.«dict.__iter__» Builtin.Dict.dictSlotNone;exact LW qr!;show DF! E_ (Builtin.Dict.showsAll d>>=_);delta Builtin.Dict.showsAll;rw[JF_ hd];exact Hb! (LW (RJ ho ZJ (LW (RK ho ZJ (LW (QI (LZ #[_,χ,"dict_keyiterator",_,kO_,QH.lookup,?_])))))));simpa[rawInt]using h
def a6c(ax:BQ!)(D:qR_)(hx:es[i]?=ψ e)
  (h:∀h',h'.IsKeyIter it d w_ es.length ep->Dy! it->Q (ψ e.key) {s with heap:=h'}):oW_ E_ iO_:=by
 show"!d";let#[ar,ii]:=NH.mp hx;show"#6"
 first|exact G0! SI lJ_|exact G0! UM lJ_
 show"!A";exact LW BT_;rw[bx_];exact LZ ?_;simp![BU!,OY,SU,RN,hx];exact LW ?_
 first|exact G0! SI BU_|exact G0! UM BU_
 show DF! E_ (setField b6_ 1 (rawInt dJ!)>>=_);let jf:(s.heap.update it (Obj.mapFields (·.setIfInBounds 1 (rawInt dJ!)))).IsKeyIter it d w_ es.length ep:=
  #[_,TL _ ho (GY! hd),DQ! yM_ hc,by rw[VZ hd];simp[rawInt]]
 exact LW (XV ho hd c! (LW (OJ (ET_ XC jf.typeIs))));exact Id_ (JW_ _ (h _ jf eu!))
def b4k(hh:bN_)(ax:BQ!)(D:qR_)(hx:al_<=i)
  (h:BV!):oW_ E_ iO_:=by
 show"!d";show"#6"
 first|exact G0! SI lJ_|exact G0! UM lJ_
 show"!A";exact LW BT_;rw[bx_];exact LZ ?_;simp![BU!,OY,SU,RN,PK hx];exact LW ?_
 first|exact G0! SI Y_|exact G0! UM Y_
 show DF! E_ (setField b6_ 0 .none>>=_);exact LW (XV ho hd c! ?_);exact LW ?_;dsimp only[newExc,newTuple];exact LW (QI (LW (wpAny_of_eq yN_ (QI ?_ hN!))) hN!);dsimp only[raiseNew];exact LW yP_;rw[yO_];exact LW yP!;exact FA! (show Shared.TypeIs _ _ _ from kO_);exact LZ (h _ yQ!)
def b5b(hh:bN_)(I d:yJ!)(be:d≠I)(es:cW_)(ep:δ):Walks P w A I [I,d] [I] es.length qX! (λi h=>h.IsKeyIter I d i es.length ep/\Nn h d es ep) where
 sub:=λb J=>by simp at J;simp[J]
 frame:=λ_ _ _ st hk=>#[st.1.at λo e=>hk I c! o e,st.2.at λo e=>hk d c! o e]
 item:=λi s Q E hi st hQ=>by
  exact a6c st.1 st.2 (ND hi) λh' jf bv=>?_;exact hQ _ h' s.toks #[_,ND hi,χ] #[jf,st.2.at λo e=>(bv.2 d be).trans e] λb o J e=>(bv.2 b gy_).trans e
 done:=λs Q E st hQ=>b4k hh st.1 st.2 u! λh' je=>hQ h' s.toks λb o J e=>je b o gy_ e
 self:=λ_ _ _ _ st hQ=>wpAny_pyIter_keyiter st.1 hQ
def d5m(D:HT! d)(D':Nn h d a9 bm):es=a9/\ep=bm:=by
 let#[o,Y,_,h2]:=D;let#[o',h3,_,h4]:=D';rw[Y]at h3;rcases h3;rw[h2]at h4;injection h4 with h5 h6
 exact#[by simpa using congrArg Array.toList h5,h6]
def KU(d:yJ!)(ep n:δ):It:=#[λi H=>∃es e x,H d=ψ dJ_/\al_=n/\es[i]?=ψ e/\Bi x e.key,λi H x H'=>H'=H/\∀es,H d=ψ dJ_->∃e,es[i]?=ψ e/\Bi x e.key,λi H=>∃es,H d=ψ dJ_/\al_=n/\n<=i]
def a3s(hok:bq_)(e:H d=ψ dJ_):HT! d:=by let#[#[h3,_],_]:=(show Et P w H h d dJ_ from hok d _ e);exact h3
def b8s{KF:zE!}(d it:yJ!):Db! Re tg (KU d ep n) [it] it (λi h=>h.IsKeyIter it d i n ep) where
 mem:=by simp
 obj:=λi h st b J=>by
  let e:b=it:=by simpa using J
  subst e;show"!Y"
 keep:=λi h h' st k=>st.at λo e=>k it c! o e
 item:=by
  intro X hP hw hK hc i hb s Z H E I hf st hg;subst hP hw hK;let#[es,e,x,hH,hl,hx,rx]:=hg;let D:=a3s I.hok hH;let#[f0,f1,f2,f3,f4,f5]:=hf it c!;subst hl;exact a6c st D hx λh' ab sb=>?_;let I1:oV_ H {s with heap:=h'}:=I.turned mP! f0 f1 f3 f4 f5;let#[o,eo,c,dd]:=id ab;exact⟨_,χ,b4g eo c dd a_ ⟨x,H,I1,rx,⟨χ,λa9 hy=>by
   let#[rfl,_]:=d5m D (a3s I.hok hy);exact#[e,hx,rx]⟩,ab,λb J=>(eZ!).1⟩⟩
 done:=by
  show"!0";let#[es,hH,hl,hx]:=hg;show"!2";subst hl;exact b4k aV! st (a3s I.hok hH) hx λh' eb=>GI_ sW!
 self:=λ_ _ _ _ _ st h=>wpAny_pyIter_keyiter st h
end
section
variable{X:Cx}{own:List Nat}{a tg:Expr}{fa:WE}
def Kn(f:WE):WI:=λρ M T=>f ρ M λd M1=>Dq ic! λq=>T il! (λM=>M q.1=ψ qy!) M1
def b0g(h:ak!):Kx_ MI Kn:=⟨by
 rintro hb s Z H R I ⟨G,ρ,M,T,st,e,k⟩;exact h.run I st e λd M1 v G1 H1 u s1 r1 x1 m1 q1 I1 rx=>?_;let#[#[p,h1,ep],e1,r2]:=cY r1;let#[rfl,rfl,hM]:=cV q1 e1;subst rx;let#[es,Y,h2,h3,h4,h5,h6]:=EN! fF;let ao:ay!=al_:=TV h2.1;exact c2z h4 h3 #[x!,[x!],_,KU p ep al_,H1,χ,yD!,b8s p _,dV!,bt!,k _ _ M1 _ G1 H1 r2 x1 m1 λi M' G' H' s2 s3 m' ck=>?_]
 .let e:b=x!:=by simpa using J
  show"!T"
 .let#[_,a9,g1,g2]:=m'.cell p _ ck;let hlen':ay!=a9.length:=TV g2.1;exact#[du_,λhi=>#[a9,g1,o_,by rw[hi,MJ];show al_<=ay!;omega]];rw[OC]at hd;let#[q,hq,rfl]:=MQ.mp hd;let#[e',je,#[v,r1,rv],_,_]:=gZ g2.1 hq;exact#[#[a9,e',v,g1,o_,je,rv],fB_];let#[z1,z2]:=hy;subst z1;let#[e2,nq,rx]:=z2 a9 g1;rw[je]at nq;rcases nq;rw[rx.inj rv];exact#[G',Bs.refl s3,r1]⟩
end
section
variable{X:Cx}{hb:List (Addr×Obj)}{Z:St}{H:Hp}{s:yY!}
def gM{wr:bJ!}(I:e_)(hf:∀b∈wr,D6! H b)(kp:∀c o,c∉wr->yY_ c=ψ o->h2.get? c=ψ o):oV_ H {s with heap:=h2,toks:=t'}:=by
 exact zg_
 .let#[f0,f1,f2,f3,f4,f5]:=hf c hc;exact#[f3,f1,f4,f5]
 .show"#@";exact zh_
 .exact HS_ c λ_ _ e'=>e';let hn:=(hf d hm).1;obtain rfl|hd:=hd
  .rw[hn]at e;rcases e
  .rw[hn]at hd;rcases hd
def b8t(I:oV_ H s0)(I1:e_)(hT:BX_<=T)(eT:Ey! T eq!)(rv:dO!)(hz:j!<=sizeLine):oV_ (upd H T aO!) s:=by
 let sw:=FT! hT;let ne:∀c o,H c=ψ o->c≠T:=λc o e=>cP e sw;exact Inv.step (ch:=[T]) I1 pM! zm! zl_ zn! zm_
  (zn_) zo! zo_ or! pM_ I1.bare
 .let e:c=T:=by simpa using hc
  subst e;let#[_,g1,_,g3,g4,g5]:=I.fpOk hT sw;exact#[g3,g1,g4,g5]
 .rw[or_];exact n
 .by_cases J:c=T
  .show"#&";exact#[hz,us,rv,eT]
  .rw[bB J]at e;exact(zp_).stay os! zq_ λd xs q=>by rw[pP_];exact q
end
def KS(x:Str):It:=#[yx_,λi H v H'=>∃T c,v=.ref T/\H T=υ/\x.cps[i]?=ψ c/\H'=upd H T (.tup [eS_,eb_]),yy!]
def a8u{KF:zE!}(jg:f8!)(hd:yz_)
  (D:∀A':Around,pA!=υ->Draws P w A' it [it] x.cps.size BY! gg):
  Re P w KF dA_ (KS x) c1_ e (λi h=>i<=kI!/\BY_/\gg i h) where
 mem:=by simp
 obj:=λi h st b J=>by
  simp![MD,ML,RF]at J;let#[_,#[ah,s1],s2]:=st;obtain rfl|rfl:=J
  .exact BZ_
  .exact hd i h s2
 keep:=λi h h' st k=>by
  let W:=G0_ (D callerA.in1 χ) qY_;exact#[st.1,W.frame i h h' st.2 λb J o q=>k b gy_ o q]
 item:=by
  intro X hP hw hK hc i hb s Z H E I hf st hg;subst hP hw hK;let hh:=I.ok.hd hc;let W:=G0_ B0! qY_;exact Iy! i hg st.2 λT u9 h' tk hP hT yb hm kp=>EW! i;let#[t,y,#[c,u,g9,rfl],rfl]:=hP;let hfw:=hf;let I1:oV_ H {s with heap:=h2,toks:=tk}:=gM I hfw λc o hc eo=>d9 c o hc B0_;let tu:=W.apart i T _ hm;let eT:h2.IsTuple T [.int i t,.str H_ u].toArray:=by
   let#[o,eo,r]:=yb;exact B1!
  let I2:=b8t (xs:=[eS_,eb_]) I I1 hT eT (.cons cF_ (FH! pA_)) B1_;exact#[.ref T,_,I2,χ,#[T,c,χ,B2!,g9,χ],#[hg,bt],bt!];rw[B2_];exact(eZ!).1
 done:=by
  show"!0";let hh:=I.ok.hd hc;let W:=G0_ B0! qY_;let hi:=I7_ hg;subst hi;exact W.done s _ _ st.2 λh' tk kp=>B3!
 self:=λA i s Q E st h=>by
  let#[_,#[ah,s1],_]:=st;exact UX s1 h
section
variable{X:Cx}{own:List Nat}{a:Expr}{jc:List Expr}{n1:Nat}{tp p pos:Pos}{fa:Ae->Option D}
def Wq(f:n_):Ae->ι aK!:=λρ=>(aj!).bind λd=>match d with|.str x=>ψ (x.cps.toList.zipIdx.map λq=>.tup B4!)|_=>υ
def c4l(hg:q1_)(hm:q0_)(h:I!)(hs:q1!:=by rfl)(ba:B5!:=by rfl):
  DI X own dA_ (Hf! B4_ pos) (Wq fa):=⟨by
 rintro hb s Z H R I ⟨G,ρ,ds,er,e,k⟩;let#[d,e1,e2]:=LX.mp e;cases d<;>first|(rcases e2;done)|skip
 rename_i x;rcases e2;exact Call_ (Kc_ (PU (dP (dC h.ok eU hs pos hb s Z H (λvs H1=>∃v G1,vs=[v]/\Bs G H G1 H1/\Aq X.K G1 dS! v) I #[G,ρ,_,er,e1,λv G1 H1 x1 r1=>#[v,G1,χ,x1,r1]]) ?_) hs ba));rintro us s1 ⟨vs,H1,I1,r1,v,G1,q1,x1,rr⟩;subst q1;obtain rfl:=bP rr;let#[u,rfl,t,rfl]:=iT r1;exact call_enumerate_str λh' he ax bj hk=>?_;exact UX he ?_;let I2:oV_ H1 {s1 with heap:=h',toks:=s1.toks}:=I1.kept hk;let ig:∀b∈q2_,x!<=b:=λb J=>by
  simp![MD,ML,RF]at J;obtain rfl|rfl:=J<;>omega
 let fin:∀{gg:gw!},gg 0 h'->(∀i h,gg i h->∃o,h.get? x!=ψ o/\∀v,o.data≠.cell v)->(∀A':Around,pA!=υ->Draws X.prog X.w A' s1.heap.objs.size [x!] x.cps.size BY! gg)->
   HM X hb Z dA_ R (.ref (x!+1)) {s1 with heap:=h'}:=λ{gg} h0 hd D=>by
  exact#[_,_,_,KS x,H1,χ,I2,a8u (XZ _) hd D,#[OA _,#[_,he],h0],B6!,k _ G1 H1 x1 ?_];intro i G' H' g1 g2;exact#[du_,λhi=>by rw[MJ,VH,QG]at hi;exact VF hi.symm];rw[OC,WL]at hd;let#[q,hq,rfl]:=MQ.mp hd;let#[c,hc,rfl]:=MQ.mp hq;rw[SO]at hc;exact yz!;let#[T,c',rfl,hT,b8,rfl]:=hy;rw[hc]at b8;rcases b8;exact Jp_ Aq.str;rw[UB];exact Aq.int
 cases ha:x.cps.all (·<128)
 .let jf:FO! h'.IsStrIter "str_iterator" 0:=by simpa[strIterType,ha]using ax
  exact fin jf B7_ λA' hh=>Draws.strWide hh _ x t
 .let jf:FO! h'.IsStrIter "str_ascii_iterator" 0:=by simpa[strIterType,ha]using ax
  exact fin jf B7_ λA' hh=>Draws.strAscii hh _ x t⟩
def Sr(a:Int)(n:δ):μ D:=(o8_).map λi=>.int (a+(i:δ))
def Tb(f g:n_):Ae->ι aK!:=λρ=>(aj!).bind λx=>(g ρ).bind λy=>match x,y with|.int i,.int j=>if -1000<=i/\i<=100000/\-1000<=j/\j<=100000 then ψ (Sr i (dX_).toNat)else υ|_,_=>υ
end
end DL
namespace HT
open PySem PySem.Spec PyProof.Rows
def b9o(A:yK!)(s:yY!)(a:Int)(t:Tok)(c:Int)(u:Tok)(prog:yW!)(w:yM!)(E:X_)(Q:X_)(h:Q (.bool (decide (c<a))) s):
  wpAny n! A (richCompare .Gt gS! nC_) Q E s:=
 (PyProof.Rows.gt_int h:Jy! (compareOp .Gt gS! nC_))
section
open PySem.SeqAt
open PySem.AutoSeq1 (wpAny_loadPart')
open PySem.MeetsSeq PySem.MeetsSeq2 PySem.MeetsSeq3
def xP(l b:yJ!)(ag k8:bp!)(n n2:δ)(dd ll:do_)(sl jo:jT!)(ns ms:q_)(hi:B8!)(hj:B8_):
  Meets (Builtin.«tuple.__gt__» #[[b3!,.ref b],[]])
   (λ_ R s=>yY_ l=ψ {cls:=.type "tuple",dict:=dd,data:=G8_ ag,slots:=sl}/\yY_ b=ψ {cls:=.type "tuple",dict:=ll,data:=.seq k8 n2,slots:=jo}/\
    R (E3! q3!) s):=
 .of_wp λprog w A R s h=>by
  let#[hp,g,d,tk,os]:=s;let#[hl,J,h]:=h;let f2:=AutoSeq1.sub_tuple_tuple;let z1:ag.size=de_:=by rw[<-hi.length];rfl
  let z2:k8.size=b3_:=by rw[<-hj.length];rfl
  wp_walk using PZ hl,PZ J,WM _ (λrest b s'=>b.1=υ/\s'=im_/\∃(vs ws:o!) (qk ql:q_),rest=vs.zip ws/\
   IntsAre vs qk/\EY! ws ql/\qk.length+k8.size=ql.length+ag.size/\R (E3! (.bool (lexLt ql qk))) im_) _
  case turn=>
   rintro⟨y,x⟩ rest b s' ⟨j0,rfl,vs,ws,qk,ql,hz,yc,vj,ao,hR⟩;cases yc with
   |nil=>rw[List.zip_nil_left]at hz;cases hz
   |cons a t hvi'=>
    cases vj with
    |nil=>rw[List.zip_nil_right]at hz;cases hz
    |cons c u hwi'=>
     rw[VG]at hz;injection hz with hyx hrest
     injection hyx with hy hx
     subst hy hx;rw[lexLt_cons]at hR;simp![MX]at ao;let#[e,he,ZK]:=c3w A.in1 im_ a t c u;exact LW (he prog w _ _ ?_);cases e with
     |true=>
      rw[MM (ZK.mp χ).symm]at hR
      wp_walk
      exact#[χ,χ,_,_,_,_,hrest,hvi',hwi',o_,hR]
     |false=>
      rw[MY (λq=>ξ (ZK.mpr q.symm) NO)]at hR;let hri:=b9o A.in1 im_ a t c u prog w
      wp_walk using hri
      exact#[_,χ,by simpa using hR]
  case fin=>
   rintro⟨b1,b2⟩ s' ⟨j0,rfl,vs,ws,qk,ql,hz,yc,vj,ao,hR⟩;simp only at j0;subst j0;let hv:lexLt ql qk=decide (k8.size<ag.size):=by
    cases yc with
    |nil=>
     cases vj with
     |nil=>
      simp![RC]at ao;rw[lexLt_nil_nil];exact(MU a!).symm
     |cons c u hw=>
      simp![RC,MX]at ao;rw[wH];exact(MU a!).symm
    |cons a t hv=>
     cases vj with
     |nil=>
      simp![RC,MX]at ao;rw[wG];exact(NG a!).symm
     |cons c u hw=>
      rw[VG]at hz;cases hz
   rw[hv]at hR
   wp_walk
   exact#[_,χ,by simpa[Builtin.Tuple.tupleCompareSizes]using hR]
  case h=>
   exact#[χ,χ,ag.toList,k8.toList,ns,ms,χ,hi,hj,o_,h]
end
section
variable{prog:yW!}{w:yM!}{A:yK!}{E:Value->Shared->Prop}{s:yY!}
def gt_tupInts(hl:JP_ l ag)(J:JP_ b k8)(hi:B8!)(hj:B8_)
  (hu:aq!)(h:Q q3! s):Jy! (compareOp .Gt fi! d9!):=by
 let#[#[cls,dd,data,sl],ho,hc,n,hd]:=id hl;let#[#[z9,ll,data2,jo],jp,jq,n2,jr]:=id J;simp only at hc hd jq jr;subst hc hd jq jr;exact richCompare_meets_room (op:=.Gt) jo_ jp! PySem.F.slot_tuple_gt PySem.F.entry_tuple_gt (PySem.F.args_tuple_gt_2 _ _) (xP l b ag k8 n n2 dd ll sl jo ns ms hi hj)
  #[ho,jp,show Value.bool (lexLt ms ns)≠Value.notImplemented/\Q q3! s from#[(λx=>nomatch x),h]] hu
end
end HT
namespace DL
open PySem PySem.Spec PyProof.Rows L2
section
variable{X:Cx}{own bg:List Nat}{a b e tg o:Expr}{es:List Expr}{p pos:Pos}{fa fb f:Ae->Option D}
def FR(KF:zE!):R2:=λx y H Q=>∃a b ns ms,x=.ref a/\y=.ref b/\Eh! a cb_/\Eh! b (ms.map V.int)/\EA! q3_
def d3i(hu:X.A.units<cLine):Fi! tm! FR:=by intro hb s Z H x y v u Q I rx ry h;let#[a,b,ns,ms,rfl,rfl,ha,J,q]:=h;subst rx;subst ry;let#[its,r1,p1,_]:=DA! ha;let#[ie,r2,p2,_]:=DA! J;let i1:Kw_ its.toArray.toList:=wU r1;let i2:EY! ie.toArray.toList ms:=wU r2;exact HT.gt_tupInts p1 p2 i1 i2 hu (JZ! q3_ q)
def Mb:μ D->JP! Int
 |[]=>ψ []
 |.int i::r=>(Mb r).map (i::·)
 |_=>υ
def nZ{KF:zE!}:∀{ds:d_} {vs:s_} {ns:q_},Da! G->Mb ds=ψ ns->vs=ns.map V.int
 |[],vs,ns,r,e=>by obtain rfl:=cR r;rcases e;rfl
 |d::ds,vs,ns,r,e=>by
  let#[v,t,rfl,r1,r2]:=bR r;cases d<;>simp![Mb]at e<;>first|(rcases e;done)|skip
  let#[l,e1,rfl]:=MQ.mp e;rw[nZ r2 e1];obtain rfl:=bC r1;rfl
def EV:D->D->ι D
 |.tup xs,.tup ys=>(Mb xs).bind λns=>(Mb ys).map λms=>.bl q3_
 |_,_=>υ
def d3q{KF:zE!}:Gt_ FR EV:=by
 show"!1";delta EV at e;show"!7"
 .let#[ns,e1,e]:=LX.mp e;let#[ms,e2,rfl]:=MQ.mp e;show"!Z";let#[b,ws,rfl,qb,rb]:=bV ry;rw[nZ ra e1]at qa;rw[nZ rb e2]at qb;exact#[a,b,ns,ms,χ,χ,kg_,oT_,em!]
 .rcases e
def DQ(neg:Bool):R2:=λx y H Q=>∃b c,x=.bl b/\y=.bl c/\Q Cb_ H
def d3e:Gb X tn_ (DQ θ):=by
 intro hb s Z H x y v u Q I rx ry h;let#[b,c,rfl,rfl,q]:=h;cases rx;cases ry;exact Hj! wpAny_is_plain;let e:Cc!=(b==c):=by cases b<;>cases c<;>rfl
 rw[e];exact hG!
def b6e:Gb X to_ (DQ τ):=by
 intro hb s Z H x y v u Q I rx ry h;let#[b,c,rfl,rfl,q]:=h;cases rx;cases ry;exact Hj! wpAny_isNot_plain;let e:Cc!=(b==c):=by cases b<;>cases c<;>rfl
 rw[e];exact hG!
def EU(neg:Bool):D->D->ι D
 |.bl b,.bl c=>ψ Cb_
 |_,_=>υ
def c1g{KF:zE!}{neg:Bool}:Gr KF (DQ neg) (EU neg):=by
 show"!1";delta EU at e;show"!7"
 .cases e;cases dI rx;cases dI ry;exact kZ!
 .cases e
def b7s(hg:iR_)(hm:iS!)(ha:I!)(J:cg!)(hs:s3_:=by rfl)(bo:s4!:=by rfl)
  (d8:zU_:=by rfl)(j4:zV!:=by rfl):EU_ DI s4_ (Tb fa fb):=
 a0k (b5w hg hm (dC ha.ok (dC J.ok eU j4) d8) hs bo) λZ G H R ρ ds er e k=>by
  let#[x,e1,e3]:=LX.mp e;let#[y,e2,e4]:=LX.mp e3;clear e e3;split at e4
  .rename_i i j;split at e4
   .rename_i h;rcases e4;exact zz!;obtain rfl:=bC r1;obtain rfl:=bC r2;exact#[i,j,χ,o_,k _ G2 H2 bT! ?_];intro n G' H' g1 g2;delta Sr;exact xJ!;rw[OC]at hd;let#[m,hj,rfl]:=MQ.mp hd;let#[hl,he]:=NH.mp hj;rw[XE]at he;subst he;rw[PX]at hl;exact#[hl,fB_];let#[z1,z2]:=hy;subst z1 z2;exact#[G',Bs.refl g2,Aq.int]
   .rcases e4
  .rcases e4
def BE:V->μ V->Hp->VK->Prop:=λx vs H Q=>∃l xs k y,x=.ref l/\vs=[.int (k:δ),y]/\H l=ψ H!/\k<=j!/\j!<sizeLine/\Fb_ (xs.take k++y::xs.drop k)
def b7a:HP X "list.insert" BE:=by
 intro hb s Z H x vs v us Q I rx rv h;let#[l,xs,k,y,rfl,rfl,hH,hk,hz,q]:=h;subst rx;let#[u,u2,rfl,#[t,rfl],ru]:=a4h rv;let#[z,its,n,r,hl,e]:=I.lstM hH;let w5:¬(!Builtin.List.listFitsIndex (k:Int))=true:=by
  rw[fitsIndex_both (Int.le_trans a_ (Int.natCast_nonneg k)) (Int.lt_of_le_of_lt (Int.ofNat_le.mpr (NR hk (RY hz))) xm_)];exact NO
 let bj:be_<=sizeLine:=by rw[MN];omega
 exact SD (S:=?S) PySem.F.slot_list_insert do! PySem.F.entry_list_insert (PySem.F.args_list_insert_3 _ _ _) ?g ?h
 case g=>exact @PySem.AutoSeq1.list_insert_list_int_val_1 l its.toArray n (k:Int) t u2 w5 bj
 exact jI!;exact#[.non,_,I.lset (its':=its.take k++u2::its.drop k) hH e ?_ ((r.take k).append (.cons ru (r.drop k))) ?_,χ,q]
 .let Y:¬c2!<0:=by omega
  let h2:min (c2!).toNat be_=k:=by simp;omega
  simp![Y,OY,h2];simp[List.extract_eq_drop_take];rw[RH c!]
 .simp only[MH,MX,QF,SE];omega
def Zh(i:δ)(fk f:n_):Ae->ι Fl:=λρ=>(fk ρ).bind λx=>(aj!).bind λd=>match x,ρ[i]? with
 |.int j,some (some (.lst ds))=>if 0<=j/\j.toNat<=g_/\g_<big then ψ (JE_ (sM! (ds.take j.toNat++d::ds.drop j.toNat)))else υ
 |_,_=>υ
def b7r(bx:ej_:=by decide)(hk:De! ek fk)(h:ds!)(hN:ao!:=by rfl)(hv:c8!:=by first|exact Or.inl χ|exact Fj! e!|exact Fj! aK_)
  (hd:C!:=by decide)(cb:c8_:=by decide)
  (bp:starEach (ek::[e]) X.env=(θ,eval ek X.env)::Dm! [e]:=by rfl)(hst2:hA!:=by rfl)(cz:(Ka_ [ek,e]&&DY_ bg_
   &&decide ([ek,e].length+(dn!).length+ed_<30))=true:=by rfl) (c8:bO!:=by rfl)
  (cy:De_ bl! "insert" ku!=Dq_ bl!:=by rfl) (b9:(jL!).any d!=false:=by rfl) (ky:Dn_ Cf_ υ=pure false:=by rfl):
  DS X own own (Ha! Cf_) (Zh i fk f):=⟨by
  rintro G0 F0 hb s Z H E I ⟨G,ρ,r,er,e',k⟩;exact Ky! (oS SA PySem.F.slot_list_insert PySem.F.type_list_insert b7a j6_ (dC hk.ok (dC h.ok eU hst2) bp) cy cz c8 bp b9);let#[z,e1,e4]:=LX.mp e';let#[d,e3,e2]:=LX.mp e4;clear e' e4;let#[p,ds,vs,Y,h2,h3,h4,h5]:=H9! i;rw[Y]at e2;cases z<;>first|(rcases e2;done)|skip
  rename_i j;simp only at e2;split at e2
  .rename_i hj;rcases e2;exact#[fG!,h2,pn_,G,ρ,_,er.or,e1,λv G' H' x r=>#[G',ρ,d,er.or.grow x,e3,λv2 G2 H2 x2 r2=>?_]];obtain rfl:=bC r;let hl:=aL h5;exact#[p,vs,j.toNat,v2,χ,?_,x9_,o_,by rw[<-hl];exact NK hj.2.2 ku_,?_]
   .rw[Int.toNat_of_nonneg hj.1]
   .let h6:=(po!).mono x2.g;exact JE! (dL (rN _ h6) (E8! r2 (rP _ h6)))
  .rcases e2⟩
end
section
variable{X:Cx}{own bg:List Nat}{a b e tg o:Expr}{es:List Expr}{p p2 pos:Pos}{fa fb fo f:WE}{fs:WA}
def AS(i:δ)(f:WE):WS:=λρ M R=>f ρ M λd M1=>Dq qy_ λq=>match ρ[i]? with
 |some (some (.lst ds))=>g_+qz_<=big/\R (JE_ (sM! (ds++q.2))) M1
 |_=>False
def b7d(bx:ej_:=by decide)(h:b0!)(hN:ao!:=by rfl)(hv:c8!:=by first|exact Or.inl χ|exact Fj! e!|exact Fj! aK_)
  (hd:C!:=by decide)(cb:c8_:=by decide)
  (bp:hA!:=by rfl)(cz:(EL_ jL!&&DY_ bg_
   &&decide x3_)=true:=by rfl) (c8:bO!:=by rfl)
  (cy:De_ bl! "extend" ku!=Dq_ bl!:=by rfl) (b9:dw!:=by rfl) (ky:Dn_ Ch_ υ=pure false:=by rfl):
  MS X own own (Ha! Ch_) (AS i f):=
 qC (tU (oS SA PySem.F.slot_list_extend PySem.F.type_list_extend b7b j6_ x5! cy cz c8 bp b9) ky) λM0 G0 F0 E Z G H ρ M R sr e' k1 k2=>by
  let#[p,ds,vs,Y,h2,h3,h4,h5]:=sr.st.or.own_ i bx;exact#[fG!,h2,pn_,G,ρ,M,_,sr.st,e',Bx!];let#[#[c,zs],e1,r]:=cY r;let#[z1,z2,z3,us,h6,h7]:=nU m q e1;subst z2;rw[Y]at r;let fw:=sr.grow x m;let#[p',qg,gr,g1,g2,g3,g4,g5]:=fw.st.or.own_ i bx;rw[h2]at g2;cases g2;rw[Y]at g1;cases g1;exact#[p,c,gr,us,χ,χ,g3,h6,?_,k1 _ M' G' Z _ r.2 (fw.after (fw.sr.upd bx h2 (dL g5 h7)))];let:=r.1;rw[<-aL g5,<-aL h7];exact cO this
def Pt(s0:Str)(fa:WE):WE:=λρ M R=>fa ρ M λy M2=>Dq (Hv (.str s0) y) λd=>R d M2
def b3w(ha:ak!)
  (cy:De_ lO_ "join" (Dq_ lO_)=Dq_ lO_:=by rfl)
  (cz:(EL_ fL_&&DY_ bg_
   &&decide fM!)=true:=by rfl)
  (c8:bO!:=by rfl) (hs:em_:=by rfl) (b9:dw!:=by rfl):
  ME X own (K5! lO_) (Pt s0 fa):=
 fD (D5! c0l) λZ G H Q ρ M R st e k=>⟨χ,G,ρ,M,_,st,e,λy M2 w G2 H2 r2 x2 m2 q2=>by
  let#[d,e3,r3]:=cY r2;cases y<;>first|(rcases e3;done)|skip
  rename_i xs;let#[ys,e4,e5]:=LX.mp (show((Ly xs).bind λys=>if(hM_).sum+ab!*s0.length<=big then ψ (.str (Hj_ s0))else υ)=ψ d from e3);split at e5
  .rename_i hl;rcases e5;let#[p,vs,rfl,q,rr]:=bS q2;let:=vC rr e4;subst this;exact#[_,p,ys,χ,χ,x2.sub.seq q,NR hl a_,k _ M2 _ G2 H2 r3 x2 m2 Aq.str]
  .rcases e5⟩
def Wz(fs:WA)(fb:WE):WE:=λρ M R=>fs ρ M λds M1=>g_<=1000/\fb ρ M1 λy M2=>match y with
 |.int k=>Ck!/\∀p,M2 p=υ->R B! (mup M2 p Cl!)
 |_=>False
def a7j{p:yJ!}{o:HO}(s:K_)(hp:cJ!):Bs G H G ft_:=#[fu!,jC hp,s.trans (jC hp),cS!]
def vE{KF:zE!}(r:kr!):∀k:Nat,Al KF G (Dk_ k ds).flatten (Dk_ k vs).flatten
 |0=>Al.nil
 |k+1=>by
  rw[RA,RA,SQ,SQ];exact dL r (vE r k)
def c7x(ha:f0!)(J:cp_):Dk! Cl_ (Wz fs fb):=
 fD Cm_ λZ G H Q ρ M R st e k=>⟨G,ρ,M,_,st,e,λds M1 vs G1 H1 r1 x1 m1 q1=>⟨by rw[<-aL q1];exact fN r1.1,λp hp=>by
  let xj:Bs G1 H1 G1 Cn_:=a7j x1.sub hp;let hM:=IK! hp;exact Co!;cases y<;>first|exact r2.elim|skip
  rename_i n;obtain rfl:=bC q2;let#[#[hn,ip,hl],r2]:=r2;let yd:=x2.keep p _ cC hM;exact Co_;let ye:=DQ! Cp! x2 q8_;exact H7_ G2 _ (r2 c (m2.nocell hc)) (ye.trans (.laid x2.sub hc) m2) (m2.laid hc x2.sub #[_,cC,vE bH! _]) Aq.fn⟩⟩
end
nonrec def rk(r:q9!)(xs:lQ!)(i:δ):Int:=(xs[i]?.map r).getD 0
def b9k(hs:c<xs.size)(hd:d<=c)(k:δ):Hk! (bubble xs c d)=if k=c - d then FY_ c else if c - d<k/\k<=c then FY_ (k - 1) else Hk! xs:=by
 delta rk;rw[getElem?_bubble hs d hd k];split
 .rfl
 .split<;>rfl
def a9f(hj:j<=xs.size)(k:δ):Hk! Cp_=if i<=k/\k<j then FY_ (i+j - 1 - k) else Hk! xs:=by delta rk;rw[getElem?_mirror_all hj k];split<;>rfl
def pT(hj:j<=xs.size)(he:∀k,i<=k->k<j->FY_ k=FY_ eG!)(k:δ):Hk! Cp_=Hk! xs:=by
 rw[a9f hj];by_cases h:i<=k/\k<j
 .rw[MM h,he _ a! a!,he k h.1 h.2]
 .rw[MY h]
def Up(r:q9!)(xs:lQ!)(n:δ):Prop:=∀i j,i<=j->j<n->FY_ i<=FY_ j
def Dn(r:q9!)(xs:lQ!)(n:δ):Prop:=∀i j,i<=j->j<n->FY_ j<=FY_ i
structure SB(kd:SortKind)(a0:lQ!)(st:SortSt):Prop where
 pm:(B_).Perm a0
 kn:kindOf st=kd
 fl:Fd_ st=υ
 pd:Hk_ st=#[]
def SB.sz{st:SortSt}(h:cs_):(B_).size=a0.size:=h.pm.size_eq
def SB.put{st:SortSt}(h:cs_)(hp:xs.Perm B_):Gd_ (setArr st xs):=#[hp.trans h.pm,h.kn,h.fl,h.pd]
section
variable{prog:yW!}{w:yM!}{A:yK!}{E:Value->Shared->Prop}{s:yY!}{a0:Array Keyed}{kd:SortKind}{r:Keyed->Int}
variable (prog w A s a0 kd r)in
def Ve:Prop:=∀(x y:Keyed) (F:X_) (Q:Bool->Shared->ν),x∈ip!->y∈ip!->E3_ Q (r x<r y) s->DW_ n! (keyLt' kd x.1 y.1) Q F s
def b9i{st:SortSt}(hl:dL!)(b:cs_)(hi:i<a0.size)(hj:j<a0.size)(h:Q (E3_ ψ (rk r B_ i<rk r B_ j)) st):DN_ (ltAt' i j):=by
 let at_:∀k,k<a0.size->∃p,B_[k]?=ψ p/\p∈ip!/\Hk! B_=r p:=λk hk=>by
  let cm:k<(B_).size:=by rw[b.sz];exact hk
  exact#[B_[k],Cr!,(GR_ b.pm).mem_iff.mp c!,?_];delta rk;rw[Cr!];rfl
 let#[x,ex,mx,rx]:=at_ i hi;let#[y,ey,my,ry]:=at_ j hj;rw[rx,ry]at h;rw[ltAt'_eq];exact PV gc!;show DN_ (elem' B_ i>>=λx=>elem' B_ j>>=λy=>lt' x y);rw[elem'_eq,elem'_eq,ex,ey];exact PV (RI (PV (RI ?_)));rw[lt'_eq];exact PV gc!;rw[b.kn];exact PV (wpS_lift (TR (hl x y _ _ mx my #[χ,RI h])))
def d0w{st:SortSt}(hl:dL!)(hn:gc_)(ha:1<=a)(han:a<=n)(b:cs_)(hu:Up r B_ a)
  (h:∀m,a<=m->m<=n->Up r B_ m->(m=n\/rk r B_ m<rk r B_ lS!)->Q (υ,m) st):DN_ (ascLoop a n):=by
 delta ascLoop;exact WQ (I:=λx c ab=>ab=st/\c=(υ,x)/\Up r B_ x) ?_ ?_ (Ie_ hu)
 .rintro x c ab Y h2 ⟨rfl,rfl,u⟩;exact PV (b9i hl b (NK h2 hn) a! ?_);by_cases q:Eu_ x<Eu_ ip_
  .rw[NG q];exact RI (h x Y (RY h2) u (.inr q))
  .rw[MU q];exact RI (Ie_ Cs_);obtain h5|h5:=QX j x
   .exact u i j h3 h5
   .let:j=x:=by omega
    subst this;obtain h6|h6:=QX i j
    .let:=Hl! u;omega
    .let:i=j:=by omega
     rw[this];exact QK _
 .rintro c ab ⟨rfl,rfl,u⟩;rw[show max a n=n by omega]at u ⊢;exact h n han u! u N_
def b9f{st:SortSt}(hl:dL!)(hn:gc_)(Y:1<=m)(hm:m<=n)(b:cs_)(hd:Dn r B_ m)
  (h:rb!):DN_ (tail3 m n):=by
 delta tail3;let b':Gd_ (setArr st (mirror B_ 0 m ((m - 0) / 2))):=b.put lS_;let hz:m<=(B_).size:=by rw[b.sz];omega
 exact Fj_ (PV (d0w hl hn Y hm b' (λi j h3 h4=>?_) λk h3 h4 u _=>RI (h k _ b' a! h4 u)));rw[a9f hz,a9f hz,aN_,aN_];exact hd _ _ a! a!
def d2m{st:SortSt}(hl:dL!)(hn:gc_)(Y:1<=m)(hm:m<=n)(b:cs_)(hd:Dn r B_ m)
  (h:∀k q ab,Gd_ ab->m<=k->k<=n->Dn r x_ k->q+1<=k->(∀i,k - (q+1)<=i->i<k->rk r x_ i=rk r x_ (k - 1))->Q (υ,k,q) ab):DN_ (descLoop m n):=by
 delta descLoop;exact WQ (I:=λx c ab=>∃q,c=(υ,x,q)/\Gd_ ab/\Dn r x_ x/\q+1<=x/\∀i,x - (q+1)<=i->i<x->Eu_ i=Eu_ ip_) ?_ ?_ #[0,χ,b,hd,o_,λi h2 h3=>by rw[show i=m - 1 by omega]]
 .rintro x c ab h2 h3 ⟨q,rfl,b',d,hq,he⟩;let hz:x<=(x_).size:=by rw[b'.sz];omega
  exact G1! (NK h3 hn) Ct!;by_cases p:Eu_ x<Eu_ ip_
  .rw[NG p];let pz:∀xs:Array Keyed,(∀k,rk r xs k=rk r x_ k)->Dn r xs (x+1):=λxs hk i j h4 h5=>by
    rw[hk,hk];obtain h6|h6:=QX j x
    .exact d i j h4 h6
    .let:j=x:=by omega
     subst this;obtain h7|h7:=QX i j
     .let:=Hl! d;omega
     .show"#="
   by_cases tz:q>0
   .simp only[PL,tz];exact Fj_ (RI #[0,χ,b'.put lS_,pz _ (pT hz he),o_,Ct_])
   .simp only[PL,tz,OY];exact RI #[0,χ,b',pz _ λ_=>χ,o_,Ct_]
  .rw[MU p];dsimp only[Bool.false_eq_true,if_false];exact G1! Ct! (NK h3 hn);by_cases p2:Eu_ ip_<Eu_ x
   .rw[NG p2];exact RI (h x q ab b' h2 (RY h3) d hq he)
   .rw[MU p2];let ex:Eu_ x=rk r x_ ip_:=by omega
    exact RI #[q+1,χ,b',λi j h4 h5=>?_,o_,λi h4 h5=>?_]
    .obtain h6|h6:=QX j x
     .exact d i j h4 h6
     .let:j=x:=by omega
      subst this;obtain h7|h7:=QX i j
      .rw[ex];exact Hl! d
      .show"#="
    .rw[show x+1 - 1=x by omega];obtain h6|h6:=QX i x
     .rw[ex];exact he i a! h6
     .rw[show i=x by omega]
 .rintro c ab ⟨q,rfl,b',d,hq,he⟩;rw[show max m n=n by omega]at d hq he ⊢;exact h n q ab b' hm u! d hq he
def b9h{st:SortSt}(hl:dL!)(hn:gc_)(hm:m+1<=n)(b:cs_)(hd:Dn r B_ c2_)
  (h:rb!):DN_ (descPart m n):=by
 delta descPart;exact G1_ (d2m hl hn a! hm b hd λk q ab b' Y h2 d hq he=>?_);by_cases tz:q>0
 .simp only[PL,tz];exact Fj_ (b9f hl hn a! h2 (b'.put lS_) (λi j h4 h5=>?_) h);let hz:k<=(x_).size:=by rw[b'.sz];omega
  rw[pT hz he,pT hz he];exact d i j h4 h5
 .simp only[tz,OY];exact b9f hl hn a! h2 b' d h
def c6n{st:SortSt}(hl:dL!)(hn:gc_)(Y:1<=n)(b:cs_)(h:rb!):
  wpS n! A E s (countRun' 0 n) Q st:=by
 rw[countRun0_eq];exact PV (d0w hl hn (MZ 1) Y b (λi j h3 h4=>by rw[gd!];exact QK _) λm h3 h4 u hor=>?_);by_cases e:m=n
 .simp only[PP,e,PL];rw[<-e];exact RI Cw_
 .let ar:=hor.resolve_left e;simp![PP,e,OY];by_cases hg:m>1
  .simp only[hg,PL];exact PV (b9i hl b a! a! ?_);by_cases p:rk r B_ 0<rk r B_ lS!
   .rw[NG p];exact RI Cw_
   .rw[MU p];let t0:∀k,0<=k->k<m->Hk! B_=rk r B_ lS!:=λk _ hk=>by
     let a1:=u 0 k a! hk;let a2:=u k lS! a! a!;omega
    let hz:m<=(B_).size:=by rw[b.sz];omega
    exact Fj_ (b9h hl hn a! (b.put lS_) Cx_ h);rw[pT hz t0,pT hz t0];obtain h7|h7:=QX j m
    .rw[t0 i a! a!,t0 j a! h7];exact QK _
    .let:j=m:=by omega
     subst this;obtain h8|h8:=QX i j
     .rw[t0 i a! h8];omega
     .show"#="
  .simp only[hg,OY];let:m=1:=by omega
   subst this;exact b9h hl hn a! b Cx_ h;obtain h8|h8:=QX i j
   .rw[show i=0 by omega,show j=1 by omega];exact IM_ ar
   .show"#="
def d3x{lo hi k x n:δ}(h:¬lo>=hi)(g2:hi<=k)(g3:hi - lo<=k - x)(hk:k<n):lo<=bI! / 2/\bI! / 2<hi/\bI! / 2<k/\bI! / 2<n/\bI! / 2 - lo<=k - (x+1)/\hi - (bI! / 2+1)<=k - (x+1):=by
 let e1:lo<=bI! / 2:=by omega
 let e2:bI! / 2<hi:=by omega
 generalize bI! / 2=m at *;let e3:=NK e2 g2;exact#[e1,e2,e3,Nat.lt_trans e3 hk,Nat.le_sub_one_of_lt (NK (Nat.sub_lt_sub_right e1 e2) g3),Nat.le_sub_one_of_lt (NK (Nat.sub_lt_sub_left (Nat.not_le.mp h) (Nat.lt_succ_of_le e1)) g3)]
def d6v{st:SortSt}(hl:dL!)(hn:gc_)(hk:k0<=n)(b:cs_)(hu:Up r B_ k0)(h:∀ab,Gd_ ab->Up r x_ n->Q τ ab):
  wpS n! A E s (binarySort' 0 n k0) Q st:=by
 rw[binarySort'_eq];simp![UB];exact PV (wpS_mono (WQ (I:=λk c ab=>c=h2_/\SB kd a0 ab/\Up r x_ (min k n)) (Q:=λc ab=>c=h2_/\SB kd a0 ab/\Up r x_ n) ?_ ?_ #[χ,b,Cs_]) ?_)
 .rintro k c ab h2 h3 ⟨rfl,b',u⟩;rw[show min k n=k by omega]at u;let k9:k<a0.size:=by omega
  exact PV (wpS_mono (WQ (I:=λx c bt=>bt=ab/\∃lo hi,c=(υ,lo,hi)/\lo<=hi/\hi<=k/\hi - lo<=k - x/\CA!/\∀i,hi<=i->i<k->Eu_ k<Eu_ i)
   (Q:=λc bt=>bt=ab/\∃lo hi,c=(υ,lo,hi)/\lo<=k/\CA!/\∀i,lo<=i->i<k->Eu_ k<Eu_ i) ?_ ?_ #[χ,0,k,χ,o_,o_,o_,λi hi=>by omega,λi h4 h5=>by omega]) ?_)
  .rintro x c bt h4 h5 ⟨rfl,lo,hi,rfl,g1,g2,g3,g4,g5⟩;show"#:";by_cases yf:lo>=hi
   .rw[MM yf];let:lo=hi:=by omega
    subst this;exact RI CB!
   .rw[MY yf];let#[m1,m2,m3,m4,m5,m6]:=d3x yf g2 g3 k9;exact G1! k9 m4;by_cases p:Hk! rc_<rk r rc_ rd!
    .rw[NG p];exact RI #[χ,lo,bI! / 2,χ,m1,RY m3,m5,g4,λi h6 h7=>Int.lt_of_lt_of_le p (u rd! i h6 h7)]
    .rw[MU p];exact RI #[χ,bI! / 2+1,hi,χ,m2,g2,m6,λi h6=>Int.le_trans (u i rd! (Nat.le_of_lt_succ h6) m3) (Int.not_lt.mp p),g5]
  .rintro c bt ⟨rfl,lo,hi,rfl,g1,g2,g3,g4,g5⟩;let:lo=hi:=by omega
   subst this;exact CB!
  .rintro c bt ⟨rfl,lo,hi,rfl,g1,g4,g5⟩;rw[moveDown'_eq];exact PV (wpS_modify (RI #[χ,b'.put (bubble_perm _ _ _),λi j h6 h7=>?_]));rw[show min W! n=k+1 by omega]at h7;let oq:k<(rc_).size:=by rw[b'.sz];exact k9
   rw[b9k oq a!,b9k oq a!,show k - (k - lo)=lo by omega];let n1:=g4;let n2:=g5;by_cases ei:i=lo
   .rw[MM ei];by_cases ej:j=lo
    .rw[MM ej];exact QK _
    .rw[MY ej];by_cases fj:lo<j/\j<=k
     .rw[MM fj];exact IM_ (n2 eG! a! a!)
     .omega
   .rw[MY ei];by_cases fi:lo<i/\i<=k
    .rw[MM fi,d9_,aN_];exact u (i - 1) eG! a! a!
    .rw[MY fi];by_cases ej:j=lo
     .rw[MM ej];exact n1 i a!
     .rw[MY ej];by_cases fj:lo<j/\j<=k
      .rw[MM fj];exact Hl! u
      .rw[MY fj];exact u i j h6 a!
 .rintro c ab ⟨e,b',u⟩;rw[show min (max (max k0 1) n) n=n by omega]at u;exact#[e,b',u]
 .by_cases h0:k0=0
  .show"#="
  .exact hu i j h3 a!
 .rintro c ab ⟨rfl,b',u⟩;exact RI (h ab b' u)
def b9g{st:SortSt}(hl:dL!)(b:cs_)(h2:2<=a0.size)(ou:a0.size<64)
  (h:∀ab,IN! a0->Fd_ ab=υ->GJ_ x_->Q () ab):DN_ sortRuns':=by
 rw[sortRuns'_eq];exact PV gc!;let hmr:minRun' a0.size a0.size 0=a0.size:=by
  let:∀f,minRun' (f+1) a0.size 0=a0.size:=λf=>by rw[minRun'_succ,MM ou];rfl
  let q:=this (a0.size - 1);rwa[show a0.size - 1+1=a0.size by omega]at q
 dsimp only;simp![b.sz,hmr];let fin:∀{ab:SortSt},Gd_ ab->GJ_ x_->(arrOf lU_).Perm a0/\Fd_ lU_=υ/\Hk_ lU_=[lU!].toArray/\GJ_ (arrOf lU_):=
  λ{ab} b' u=>#[b'.pm,b'.fl,by show(CD!).push _=_;rw[b'.pd];rfl,u]
 exact PV (wpS_mono (WQ (I:=λx c ab=>(x=0/\c=(υ,0)/\SB kd a0 ab)\/(1<=x/\c=CD_/\(x_).Perm a0/\failedOf ab=υ/\pendingOf ab=[lU!].toArray/\Up r x_ a0.size))
  (Q:=λc ab=>c=CD_/\IN! a0/\Fd_ ab=υ/\Hk_ ab=[lU!].toArray/\GJ_ x_) ?_ ?_ (.inl (Ie_ b))) ?_)
 .rintro x c ab _ hx (⟨rfl,rfl,b'⟩|⟨_,rfl,d⟩)
  .show"#:";rw[d9_];simp![Nat.sub_zero,Nat.min_self,UB];exact PV (c6n hl u! a! b' λm bt b2 g1 g2 u2=>?_);by_cases ar:m<a0.size
   .simp only[ar,PL];exact G1_ (d6v hl u! g2 b2 u2 λu4 b3 u3=>?_);simp![SW,NW,OY];exact PV gc!;rw[show(Hk_ u4).back?=υ by rw[b3.pd];rfl];exact Fp_ b3 u3
   .simp only[ar,OY];let:m=a0.size:=by omega
    subst this;exact PV gc!;rw[show(Hk_ bt).back?=υ by rw[b2.pd];rfl];exact Fp_ b2 u2
  .show"#:";rw[MM u!];exact RI #[χ,d]
 .rintro c ab (⟨hx,_⟩|⟨_,e,d⟩)
  .omega
  .exact#[e,d]
 .rintro c ab ⟨rfl,d1,d2,d3,d4⟩;exact PV (wpS_mono (WQ (I:=λ_ c bt=>bt=ab/\c=h2_) ?_ CE_ az_) ?_)
  .rintro x c bt _ _ ⟨rfl,rfl⟩;exact PV gc!;rw[MM (by rw[d3];exact MZ 1)];exact RI az_
  .rintro c bt ⟨rfl,rfl⟩;exact RI (h _ d1 d2 d4)
end
abbrev DB:Bool->SortKind:=sortPriv%PySem.Builtin.KeyKind.tuples
section
variable{prog:yW!}{w:yM!}{A:yK!}{E:Value->Shared->Prop}{s:yY!}
def Gz(h:Heap)(v:yL!)(a b:Int):Prop:=∃(p:yJ!) (o:Obj) (n:δ) (t u:Tok),v=.ref p/\h.get? p=ψ o/\o.cls=.type "tuple"/\o.data=.seq [.int a t,.int b u].toArray n
def FZ(a b c d:Int):Bool:=if a=c then decide (b<d)else decide (a<c)
def zG(h:E3_ Q (a<b) s):Jy! (oneLt' f gS! (.int b u)):=by
 cases f with
 |true=>exact oneLt_int h
 |false=>
  rw[oneLt'_eq];rw[MY NO];exact LW (show wpAny n! A (compareOp .Lt gS! (.int b u)) _ E s from PyProof.Rows.lt_int ?_);exact OT h
def wP(hx:Eg! Gz x a b)(hy:Eg! Gz y c d)(h:Q (FZ a b c d) s):Jy! (keyLt' (DB f) x y):=by
 let#[p,o,n,t,u,rfl,Y,_,h2]:=hx;let#[p',o',n',t',u',rfl,jd,_,mi]:=hy;exact LW (WU Y h2 (LW (WU jd mi gF!)));show DW_ n! (forIn [((Value.int a t,Value.int c t'),0),((Value.int b u,Value.int d u'),1)] _ _) _ E s;rw[UI];exact J0_ (VY a t c t' _ _ _ _ ?_);delta FZ at h;by_cases e:a=c
 .rw[MM e]at h;let e1:(a==c)=true:=by simpa using e
  rw[e1];dsimp only[Bool.not_true,Bool.false_eq_true,if_false];exact LZ ?_;show"#:";rw[UI];exact J0_ (VY b u d u' _ _ _ _ ?_);by_cases e2:b=d
  .let e3:(b==d)=true:=by simpa using e2
   rw[e3];dsimp only[Bool.not_true,Bool.false_eq_true,if_false];exact LZ ?_;dsimp only;rw[List.forIn_nil];exact LZ Y_;let e4:decide (b<d)=false:=by rw[e2];simp
   rw[e4]at h;simpa using h
  .let e3:(b==d)=false:=by simpa using e2
   rw[e3];show"!~"
 .rw[MY e]at h;let e1:(a==c)=false:=by simpa using e
  rw[e1];show"!~"
def b1y:∀(xs:X!),CG_->(I9! Q ys.toArray)->Jy! (xs.toArray.mapM f):=by
 intro xs hf hq;rw[Array.mapM_eq_mapM_toList];let kz:∀(xs:X!) (R:μ β->Shared->ν),CG_->(I9! R ys)->DW_ n! (xs.mapM f) R E s:=by
  intro xs
  induction xs with
  |nil=>
   intro R _ h;rw[List.mapM_nil];exact LZ (h [] .nil)
  |cons x xs ih=>
   intro R Y h2;rw[List.mapM_cons];exact LW (Y x MB _ λy hy=>LW (ih _ (λz hz=>Y z lW!) λys qm=>LZ (h2 _ (.cons hy qm))))
 let:(List.toArray<$>xs.toArray.toList.mapM f:Sem (Array β))=(xs.toArray.toList.mapM f>>=λl=>pure l.toArray):=by rw[map_eq_pure_bind]
 rw[this];exact LW (kz _ _ (Di_ hf) λys qm=>LZ (hq ys (Di_ qm)))
def a6o(h:∀v∈vs,∃a b,Eg! Gz v a b)(h0:vs≠[])(hq:Q (DB τ) s):Jy! (keyKind' cE!):=by
 exact LW (b1y (F:=λ_ y=>∃a t,y=ψ lX!) vs CI_ λys qm=>?_)
 .let#[a,b,p,o,n,t,u,rfl,Y,h2,h3]:=h v hv;exact ET_ XA o2_;rw[MY a_];exact LW (WU Y h3 (LZ (hR _ #[a,t,χ])))
 .let i':∀y∈ys,∃a t,y=ψ lX!:=by
   let kz:∀{l:o!} {m:μ vE!},DX_ (λ_ y=>∃a t,y=ψ lX!) l m->∀y∈m,∃a t,y=ψ lX!:=by
    intro l m hp
    induction hp with
    |nil=>intro y hy;exact(ML hy).elim
    |cons q _ ih=>
     intro y hy;obtain rfl|hy:=MD.mp hy
     .exact q
     .exact ih y hy
   exact kz qm
  let be:ys≠[]:=λz=>by subst z;cases qm;exact h0 χ
  rw[MM (by rw[List.all_toArray,QM];intro y hy;let#[a,t,rfl]:=i' y hy;rfl)];exact LW fN_;let hints:∀v∈(CK_).toList,∃a t,v=Value.int a t:=λv hv=>by
   simp![List.filterMap_toArray,SH,id]at hv;let#[y,hy,e]:=hv;let#[a,t,e2]:=i' y hy;rw[e2]at e;exact#[a,t,(OF e).symm]
  let hz:(CK_).toList≠[]:=λz=>by
   cases ys with
   |nil=>exact be χ
   |cons y r=>
    let#[a,t,rfl]:=i' y MB;simp at z
  generalize hZ:ys.toArray.filterMap id=Z at hints hz ⊢;let#[zs]:=Z;exact LW ?_;exact LW (b1y (F:=λ_ y=>y=Value.type "int") zs CI_ λts ZL=>?_)
  .let#[a,t,rfl]:=hints v jp_;exact XA (typeIs_int s a t) (hR _ χ)
  .let ZM:∀t∈ts,t=Gr! "int":=by
    let kz:∀{l m:o!},DX_ (λ_ y=>y=Value.type "int") l m->∀y∈m,y=Gr! "int":=by
     intro l m hp
     induction hp with
     |nil=>intro y hy;exact(ML hy).elim
     |cons q _ ih=>
      intro y hy;obtain rfl|hy:=MD.mp hy
      .exact q
      .exact ih y hy
    exact kz ZL
   cases ts with
   |nil=>cases ZL;exact Dl! hz
   |cons t r=>
    let ht:=ZM t MB;subst ht;let e1:((CL!).toArray)[0]?=ψ (Gr! "int"):=χ;rw[e1];let e2:((CL!).toArray.all λx=>x==Value.type "int")=true:=by
     rw[List.all_toArray,QM];intro y hy;rw[ZM y hy];rfl
    show"#:";rw[MM e2];exact Id_ hq
end
def Ka(p q:Int×Int):Bool:=FZ p.1 p.2 q.1 q.2
def qH:Ka p q=τ↔(p.1<q.1\/(p.1=q.1/\p.2<q.2)):=by
 delta Ka FZ;split
 .rename_i h;rw[NS];omega
 .rename_i h;rw[NS];omega
def b3x(p:Int×Int):Ka p p=false:=by
 cases h:Ka p p with
 |false=>rfl
 |true=>let:=qH.mp h;omega
def kS(Y:Ka p q=τ)(h2:Ka q r=τ):Ka p r=true:=by rw[qH]at Y h2 ⊢;omega
def a2h(h:p≠q)(Y:Ka p q=θ):Ka q p=true:=by
 let jd:¬Ka p q=true:=by rw[Y];decide
 rw[qH]at jd ⊢;let:¬(p.1=q.1/\p.2=q.2):=λz=>h (Prod.ext z.1 z.2);omega
section
variable{α:Type}(kf:α->Int×Int)
def Qs(x:α):μ α->μ α
 |[]=>[x]
 |y::r=>if If! kf then x::y::r else y::Qs x r
def Iy:μ α->μ α
 |[]=>[]
 |x::r=>Qs kf x (Iy r)
def Oe(l:X!):Prop:=l.Pairwise λx y=>If! kf=τ
variable {kf}
def sI(x:α):∀l:List α,(Qs kf x l).Perm (x::l)
 |[]=>UQ _
 |y::r=>by
  delta Qs;split
  .exact UQ _
  .exact((sI x r).cons y).trans (List.Perm.swap x y r)
def bL:∀l:List α,(Iy kf l).Perm l
 |[]=>UQ _
 |x::r=>(sI x _).trans ((bL r).cons x)
def wW:∀{l:X!},Oe kf l->(∀y∈l,kf x≠kf y)->Oe kf (Qs kf x l)
 |[],_,_=>List.pairwise_singleton _ _
 |y::r,h,hn=>by
  delta Qs;delta Oe at h;rw[QA]at h;split
  .rename_i ar;exact QA.mpr #[rg_,QA.mpr h];obtain rfl|hz:=MD.mp hz
   .exact ar
   .exact kS ar (h.1 z hz)
  .rename_i ar;exact QA.mpr #[rg_,wW h.2 λz hz=>hn z lW!];obtain rfl|hz:=MD.mp ((sI x r).mem_iff.mp hz)
   .exact a2h (hn y MB) qe!
   .exact h.1 z hz
def jA:∀{l:X!},(l.map kf).Nodup->Oe kf (Iy kf l)
 |[],_=>jO!
 |x::r,h=>by
  rw[MO,NJ]at h;exact wW (jA h.2) λy hy e=>h.1 ?_;rw[e];exact NE (HU_ r hy)
def mL:∀{l m:X!},Oe kf l->Oe kf m->l.Perm m->l=m
 |[],m,_,_,h=>(List.Perm.nil_eq h)
 |x::l,m,Y,h2,h=>by
  cases m with
  |nil=>exact Df_ h.length_eq nofun
  |cons y m=>
   let e:x=y:=by
    obtain e|hx:=MD.mp (h.mem_iff.mp MB)
    .exact e
    .obtain e|hy:=MD.mp (h.symm.mem_iff.mp MB)
     .exact e.symm
     .let a1:=(QA.mp Y).1 y hy;let a2:=(QA.mp h2).1 x hx;let:=kS a1 a2;rw[b3x]at this;exact Dd_ this
   subst e;rw[mL (QA.mp Y).2 (QA.mp h2).2 ((List.perm_cons x).mp h)]
def c0j(h:l.Perm m):∀{L:X!},m=L.map f->∃L':List α,L'.Perm L/\L'.map f=l:=by
 induction h with
 |nil=>intro L e;exact#[[],by rw[List.map_eq_nil_iff.mp e.symm],χ]
 |cons x _ ih=>
  intro L e;cases L with
  |nil=>cases e
  |cons y L=>
   injection e with e1 e2
   let#[L',Y,h2]:=ih e2;exact#[y::L',Y.cons y,by rw[MO,h2,e1]]
 |swap x y l=>
  intro L e
  match L,e with
  |a::b::L,e=>
   injection e with e1 e2
   injection e2 with e3 e4
   exact#[b::a::L,List.Perm.swap a b L,by rw[MO,MO,<-e1,<-e3,<-e4]]
 |trans _ _ ih1 ih2=>
  intro L e;let#[L2,Y,h2]:=ih2 e;let#[L1,h3,h4]:=ih1 h2.symm;exact#[L1,h3.trans Y,h4]
def Kf(ks:μ eH_)(k:Int×Int):Int:=((ks.filter λx=>Ka x k).length:δ)
def rK(hp:p∈ks)(h:Ka p q=τ):Kf ks p<Kf ks q:=by
 delta Kf;let kz:∀l:List eH_,(CM_).length<=(CN!).length:=by
  intro l
  induction l with
  |nil=>simp
  |cons x l ih=>
   simp![YA];by_cases hx:Ka x p=τ
   .simp only[hx,kS hx h,PL,MX];omega
   .by_cases hy:Ka x q=τ
    .simp only[hx,hy,PL,MX];show"#<";omega
    .simp only[hx,hy];show"#<";exact ih
 let aux2:∀l:List eH_,p∈l->(CM_).length<(CN!).length:=by
  intro l hl
  induction l with
  |nil=>cases hl
  |cons x l ih=>
   obtain e|hl:=MD.mp hl
   .subst e;let:=kz l;simp![YA,b3x,h,PL,MX,NW,OY];omega
   .let:=ih hl;simp![YA];by_cases hx:Ka x p=τ
    .simp only[hx,kS hx h,PL,MX];omega
    .by_cases hy:Ka x q=τ
     .simp only[hx,hy,PL,MX];show"#<";omega
     .simp only[hx,hy];show"#<";show"#E"
 let:=aux2 ks hp;omega
def b2t(hp:p∈ks)(hq:q∈ks):decide (Kf ks p<Kf ks q)=Ka p q:=by
 cases h:Ka p q with
 |true=>exact NG (rK hp h)
 |false=>
  exact MU λz=>?_;by_cases e:p=q
  .subst e;omega
  .let:=rK hq (a2h e h);omega
end
section
open Classical
variable{h:Heap}
def Gz.inj(x:If_ v)(y:Gz h v c d):(a,b)=(c,d):=by
 let#[p,o,n,t,u,rfl,Y,_,h2]:=x;let#[p',o',n',t',u',e,jd,_,mi]:=y;cases e;rw[Y]at jd;rcases jd;rw[h2]at mi;injection mi with h3 _
 let:=Jx_ h3;simp at this;rw[this.1.1,this.2.1]
def Mz(h:Heap)(v:yL!):Int×Int:=if x:∃a b,If_ v then(x.choose,x.choose_spec.choose)else(0,0)
def qL(x:If_ v):Mz h v=(a,b):=by let z:∃a b,If_ v:=#[a,b,x];delta Mz;rw[dif_pos z];exact z.choose_spec.choose_spec.inj x
def sS(ha:ip!=L.map d!)(hk:∀q∈L,Gz h q.1.1 (kf q.2).1 (kf q.2).2)(nd:(rh_).Nodup)(hp:t3.Perm a0)
  (hu:Up CP! t3 a0.size):∃L':List (Keyed×D),L'.Perm L/\t3.toList=HV! d!/\HV! Q_=Iy kf rh!:=by
 let bz:t3.toList.Perm ip!:=GR_ hp;let#[L',Y,h2]:=c0j bz ha;exact#[L',Y,h2.symm,mL ?_ (jA nd) ((Y.map _).trans (bL _).symm)];let ow:((HV! Q_).map kf).Nodup:=(((Y.map _).map _).nodup_iff).mpr nd;delta Oe;rw[TJ];intro i j hi hj vk;let d7:i<is!:=by simpa using hi
 let ox:j<is!:=by simpa using hj
 let bo:a0.size=is!:=by rw[<-QG,ha,MJ,Y.length_eq]
 let ZN:∀k (cm:k<is!),rk CP! t3 k=Kf rh_ (G2! k):=λk cm=>by
  delta rk;let e:t3[k]?=ψ L'[k].1:=by
   rw[<-SO,<-h2,OC,ND cm];rfl
  rw[e];show Kf _ (Mz h L'[k].1.1)=_;rw[qL (hk L'[k] CQ_)]
 let ig:=hu i j (RY vk) a!;rw[ZN i d7,ZN j ox]at ig;simp![List.getElem_map];let mem:∀k (cm:k<is!),G2! k∈(rh!).map kf:=λk cm=>NE (NE CQ_);let ne:G2! i≠G2! j:=λe=>by
  let q:=(List.getElem_inj (i:=i) (j:=j) (h₀:=by simpa using d7) (h₁:=by simpa using ox) ow).mp c3_;omega
 cases ar:Ka (G2! i) (G2! j)with
 |true=>rfl
 |false=>
  let:=rK (mem j ox) (a2h ne ar);omega
end
def b1v(a v:yL!):argsOk "list.sort" CS!:=by delta argsOk;kernel_rfl
def a3z(a v:yL!):argsOk "sorted" CS!:=by delta argsOk;kernel_rfl
section
variable{X:Cx}{hb:List (Addr×Obj)}{Z:St}{G H:Hp}{s:yY!}{A:yK!}{E:Value->Shared->Prop}
def c6p(F:J7! f sp)(hr:gK!)(J:kd_)(e0:JQ! A)
  (I:e_)(r:eR!)(h:Fw! E0):Kz! (call ag_ us) aP!:=by
 let hl:(us++[]).length=af!:=by rw[NP,<-r.length];exact Fw_ F.len h
 let j0:=J s us I.kIn hl;rw[NP]at j0;exact GQ! (F.run A X.stack s H dk! us vs Q E0 hr e0 j0 r h);cases r with
 |error e=>exact hq.elim
 |ok fl=>
  cases fl with
  |ret u=>exact I.after hq
  |next=>exact DA_ hq
  |brk=>exact DA_ hq
  |cont=>exact DA_ hq
def Lv:D->Dl_ eH_
 |.tup [.int a,.int b]=>ψ (a,b)
 |_=>υ
def a5o(I:e_)(sub:K_)(r:bY_)(e:Lv d=ψ (a,b)):Eg! Gz u a b:=by
 delta Lv at e;show"!7"
 .cases e;let#[v,r,ru]:=r;show"!c";subst ru;show"!8";obtain rfl:=bC r1;obtain rfl:=bC r2;show"#8";let#[x,y,rfl,#[t,rfl],#[u,rfl]]:=a4h rv;exact#[p,o,n,t,u,χ,Y,h2,h3]
 .rcases e
def Ml(g:bj!):μ D->JP! eH_
 |[]=>ψ []
 |d::r=>(g [d]).bind λx=>(Lv x).bind λk=>(Ml g r).map (k::·)
def d6w(I:E2! (hb++[gg!,(c,oc)]) s)(hc:D6! H c)(jh:a≠c)(kp:∀b o,b≠c->yY_ b=ψ o->Du_ b=ψ o)(ho:Du_ c=ψ yg)(hd:∀v,yg.data≠.cell v):
  Inv X (hb++[gg!,(c,yg)]) Z H {s with heap:=h',toks:=t'}:=by
 let I1:E2! rj! s:=I.pins_of λp hp=>I.pin p (MF _ (by
  obtain z|z:=NA.mp hp
  .exact MV _ z
  .exact MF _ (by simp at z;simp[z])))
 let la:∀b∈[c],Fp X rj! H b:=λb J=>by
  let e:b=c:=by simpa using J
  subst e;let#[f0,f1,f2,f3,f4,f5]:=hc;exact#[f0,f1,f2,f3,f4,dQ_];obtain z|z:=NA.mp hp
  .exact f5 p go!
  .obtain z|z:=NA.mp z
   .exact f5 p iU!
   .let:p=gg!:=by simpa using z
    rw[this];exact jh
 let I2:E2! rj! {s with heap:=h',toks:=t'}:=gM I1 la λb o J e=>kp b o gy_ e;exact I2.pins_of λp hp=>?_;obtain z|z:=NA.mp hp
 .exact I2.pin p (MF _ go!)
 .obtain z|z:=MD.mp z
  .subst z;exact I2.pin _ gg_
  .let:p=(c,yg):=by simpa using z
   subst this;exact#[ho,hc.1,hc.2.1,hc.2.2.1,hd]
def zV(F:CT!)(hr:rj_)(J:kd_)(l9:af!=1)(jh:a≠c)
  (p5:∀x (R:ForInStep PUnit->Shared->ν) s,FL! (call ag_ [x]) (λk s'=>wpAny h! X.A.in1.in1 (Builtin.List.listUpdate (.ref c) (·.push k)) (λ_ s2=>R (.yield ⟨⟩) s2) E s') E s->FL! (body x ⟨⟩) R E s):
  ∀{ds:d_} {us:o!} {kd:d_} {ku:o!} {n:δ} {ks:μ eH_} {s:yY!} {G H:Hp},E2! (hb++[gg!,CU!]) s->Bb G H->Kz_ dM!->DX_ dM! kd ku->Ml g ds=ψ ks->
   (∀H':Hp,H' c=υ->D6! H' c)->ku.length+g_<=1000->
   (∀s' H' G' qo t6 n',Inv X (hb++[gg!,(c,seqObj "list" (ku++qo).toArray n')]) Z H' s'->DP_ G H->DX_ (Ck X.K G') (kd++t6) (ku++qo)->DX_ rk! t6 ks->Q ⟨⟩ s')->
   wpAny h! X.A.in1.in1 (forIn us ⟨⟩ body) Q E s
 |_,_,kd,ku,n,ks,s,G,H,I,sub,.nil,pk,e,st,hl,hq=>by
  rw[List.forIn_nil];rcases e;exact LZ (hq s H G [] [] n ?_ aL! ?_ .nil)
  .rw[NP];exact I
  .rw[NP,NP];exact pk
 |d::ds,u::us,kd,ku,n,ks,s,G,H,I,sub,.cons r t,pk,e,st,hl,hq=>by
  show"!t";let#[v,rv,ru]:=r;rw[UI];dsimp only[List.length_cons]at hl;exact LW (p5 u _ s (dP (c6p (Q:=λv' H'=>∃G',Bs G H G' H'/\Aq X.K G' x v') F hr J I.env0.in1.in1 I n7! #[l9.symm,G,[d],x,sub,Al.cons rv Al.nil,e1,λv' G' H' x' r'=>#[G',x',r']]) ?_));rintro kv s1 ⟨v1,H1,I1,rk1,G1,x1,r1⟩;let pc:=I1.pin CU! gg_;exact VC pc.1 χ ?_ lZ! (by simp![YK,MN];rw[OP];omega);let e4:=UK pc.1 (·.push kv);let I2:=d6w (t':=s1.toks) I1 (st H1 pc.2.1) jh (λb o J e=>DQ! uY_ e) (by rw[e4,List.push_toArray]) wc_;exact zV F hr J l9 jh p5 I2 x1.sub (EW_ t x1.g) (oU (EW_ pk x1.g) (FH! #[v1,r1,rk1])) e3 st Bl_ λs' H' G' qo t6 n' I' x' p' k'=>?_;exact hq s' H' G' (kv::qo) (x::t6) n' ?_ (x1.trans x') ?_ (.cons e2 k')
  .rw[OE]at I';exact I'
  .rw[OE,OE]at p';exact p'
end
def Jh(g:bj!)(d:D):Int×Int:=((g [d]).bind Lv).getD (0,0)
def wO:∀{ds:d_} {ks:μ eH_},Ml g ds=ψ ks->ks=ds.map eI_
 |[],_,e=>by rcases e;rfl
 |d::r,ks,e=>by
  show"!t";rw[MO,<-wO e3];congr 1;delta Jh;rw[e1];show q=(Lv x).getD _;rw[e2];rfl
section
variable{X:Cx}{hb:List (Addr×Obj)}{Z:St}{G H:Hp}{s:yY!}{A:yK!}{E:Value->Shared->Prop}
def a6i{P:Value->D->ν}{R:D->Value->ν}(Y:Paired P ku ds):∀{us:o!},Paired R ds us->∀q∈(lZ_).zip ds,P q.1.1 q.2/\R q.2 q.1.2:=by
 induction Y with
 |nil=>intro _ _ q h;simp at h
 |cons p t ih=>
  intro _ h2 q h;cases h2 with
  |cons r u=>
   rw[VG,VG]at h;obtain rfl|h:=MD.mp h
   .exact#[p,r]
   .exact ih u q h
def kB:∀{l:μ γ},(∀q∈l,R (f q) (h q))->Paired R gh! (l.map h)
 |[],_=>.nil
 |q::r,hh=>.cons (hh q (MB ..)) (kB λz hz=>hh z lW!)
def jF(h:Paired R l m):S_=m.length:=by
 induction h with
 |nil=>rfl
 |cons _ _ ih=>rw[MX,MX,ih]
def a5n(hp:∀d u a b,Ck X.K G d u->Lv d=ψ (a,b)->If_ u)(Y:CU_):∀{ds:d_},DX_ rk! kd (ds.map kf)->DX_ (λv d=>Gz h v (kf d).1 (kf d).2) ku ds:=by
 induction Y with
 |nil=>intro ds h;cases ds with|nil=>exact .nil|cons=>cases h
 |cons r t ih=>intro ds h;cases ds with|nil=>cases h|cons=>cases h with|cons k u=>exact .cons (hp _ _ _ _ r k) (ih u)
def d6p{st:SortSt}{us':o!}{ku:o!}(yh:Ex! B_=pu_)(hz:us'.length<64)(ZF:ku.length<64)(hf:Fd_ st=υ)(jh:a≠c)
  (g6:rk_)(la:CV_)(I:CX!)
  (hP:∀s' n',oV_ H s'->EU! a=ψ it!->P it_ s'):Kz! CX_ P:=by
 let pa:=I.pin l0! gg_;let pc:=I.pin CW! gg_;delta ksk_tail;show"#:";rw[yh];exact LW (VC pc.1 χ ?_ lZ! bn!);exact Fa_ TD;let ea:(DV! c CY_).get? a=ψ rl!:=(OK _ _ (OB jh)).trans pa.1;exact HS! seqEpoch_at ea;show"#<";exact GK! ea lZ!;rw[hf];simp![XO,NW,OY];let I1:=I.unpinned;exact LZ (hP _ _ (gM (wr:=[a,c]) I1 mn_ λb o J q=>?_) (UK ea λ_=>pu_))
 .obtain rfl|J:=MD.mp J
  .exact g6 H pa.2.1
  .rw[l0_];exact la H pc.2.1
 .let Y:b≠a:=λz=>J (by rw[z];exact MB ..);let h2:b≠c:=λz=>J (by rw[z];exact LY _ (MB ..));exact Ge! (OB Y) ((OK _ _ (OB h2)).trans q)
def d9j{ds:d_}(ou:g_<64)(nd:(ds.map eI_).Nodup)(jh:a≠c)
  (g6:rk_)(la:CV_)(I:CX!)(sub:K_)
  (pu:rm!)(pk:CU_)(kk:DX_ rk! kd (ds.map eI_))
  (hP:∀s' us' n',oV_ H s'->DX_ dM! rm_ us'->EU! a=ψ it!->P it_ s'):Kz! (ksk_end a θ us.toArray e1 (.ref c) ku.toArray) P:=by
 let z:=a5n (λd u a b r q=>a5o I sub r q) pk kk;let l1:=(jF pu).symm;let l2:=jF z;let mem:=a6i z pu;let iu:(l1!).toList=Dj_ iu!:=by
  rw[ksk_zip,CZ!]
 let hd:Ex! iu!=ds:=List.map_snd_zip rn!;let fin:∀{L':rn_} {st:SortSt},L'.Perm iu!->(B_).toList=HV! d!->HV! Q_=Iy eI_ ds->Fd_ st=υ->Kz! CX_ P:=λ{L' st} Y h2 h3 h4=>by
  exact d6p (us':=L'.map (·.1.2)) ?_ (by rw[MJ,Y.length_eq,QE,QE];omega) a! h4 jh g6 la I λs' n' I' e'=>hP s' _ n' I' ?_ e'
  .apply UV.mp;rw[Array.toList_map,h2,NY];rfl
  .rw[<-h3];exact kB λq hq=>(mem q (Y.mem_iff.mp hq)).2
 delta ksk_end;show"#:";show"#<";by_cases h2:kz_<2
 .rw[MM h2,MM h2];exact LW Y_;rw[StateT.run_pure];exact LW Y_;show"#:";exact fin (UQ _) iu ?_ χ;rw[hd];rw[MN,l1]at h2
  match ds,h2 with
  |[],_=>rfl
  |[x],_=>rfl
  |_::_::r,h2=>simp at h2;omega
 .rw[MY h2,MY h2];rw[MN]at h2;exact LW (a6o C0! (λz=>by rw[z]at l2;simp at l2;omega) ?_)
  .show"!l"
  .let bj:(l1!).size=g_:=by rw[<-QG,iu,MJ,QE,QE];omega
   let hk:∀q∈(lZ_).zip ds,Eg! Gz q.1.1 (ro!).1 (ro!).2:=λq hq=>(mem q hq).1;let ow:(l1_).Nodup:=by rw[hd];exact nd
   exact LW (PH (b9g (Q:=λ_ ab=>IN! l1!/\Fd_ ab=υ/\IN_ l1_ s.heap (l1!).size)
    (C0_) C1! C1_ C2! λab a1 a2 a3=>C2_) ?_ λ_ _ e=>e)
   .rw[iu]at hx hy;let#[p,hp,rfl]:=NC.mp hx;let#[q,bc,rfl]:=NC.mp hy;exact wP l2! l2_ ?_;let mm:∀p∈(lZ_).zip ds,Jh g p.2∈(Ex! iu!).map eI_:=λp hp=>NE (NE hp);let hh:decide (Kf l1_ (Mz s.heap p.1.1)<Kf l1_ (Mz s.heap q.1.1))=Ka (Jh g p.2) ro!:=by
     show"#H"
    let j7:=hq;rw[hh]at j7;exact j7
   .show"!N";exact fin b1 b2 C4_ a2
def d6o(F:CT!)(hr:rj_)(J:kd_)(l9:af!=1)
  (I:e_)(sub:K_)(pu:rm!)(ha:C5!)(ji:ix_)
  (g6:rk_)(ek:Ml g ds=ψ ks)(nd:h0_)(ou:g_<64)
  (hP:∀s' H' G' us' n',Ju_ H'->DP_ G H->DX_ (Ck X.K G') rm_ us'->H' a=υ->EU! a=ψ it!->P it_ s'):
  wpAny h! X.A.in1.in1 (ksk_tree a ag_ θ) P E s:=by
 let l1:as_=g_:=(jF pu).symm;let ekm:=wO ek;obtain⟨e1,t9⟩:∃e1,Jt! a=ψ (Gx! e1):=C6!;delta ksk_tree;exact LW C6_;exact LW C7!;exact LW C7_;exact LW C8!;exact LW rp_;exact OJ ?_;let bj:(eJ_).objs.size=k_+1:=by rw[size_push',Heap.size_update]
 let g9:(rq!).get? (eJ_).objs.size=ψ dN!:=NI _ χ;rw[bj]at g9 ⊢;let jh:a≠k_+1:=NX (UO (NN ha));let la:∀H':Hp,H' Z_=υ->D6! H' Z_:=λH' q=>I.fpOk (QV _) q;let mz:(rq!).get? a=ψ rl!:=Hg! t9;let I1:oV_ H {s with heap:=(eJ_).push dN!}:=
  gM I (λb J=>by rw[l0_];exact g6 H ji) λb o J q=>MC _ C9!
 let fa:=g6 H ji;let fc:=la H t6!;let I2:E2! (hb++[l0!,(k_+1,seqObj "list" (wb_).toArray 0)]) {s with heap:=(eJ_).push dN!}:=I1.pins_of λp hp=>by
  obtain z|z:=NA.mp hp
  .exact I1.pin p iU!
  .obtain rfl|z:=MD.mp z
   .exact#[mz,ji,fa.2.1,fa.2.2.1,hi_]
   .rw[eK!];exact#[g9,fc.1,fc.2.1,fc.2.2.1,hi_]
 generalize k_+1=c at *;delta ksk_rest;exact LW fN_
 first
  |rw[List.forIn_toArray]
  |(rw[<-Array.forIn_toList];dsimp only[List.toList_toArray])
  |rw[<-Array.forIn_toList]
 exact LW (PH (zV (E:=wf_) F hr J l9 jh (λx R s' hx=>?_) I2 sub pu .nil ek la (EB! RC) λs' H' G' qo t6 n' I' x' p' k'=>?_) CE_ λ_ _ z=>z.elim)
 .exact LW (TR (PH hx (λkv s2 hk=>?_) λ_ _ z=>z.elim));show"#:";exact LW (PH hk (λ_ s3 z=>LZ z) λ_ _ z=>z)
 .rw[QD]at I';rw[QD,QD]at p';let pc:=I'.pin (c,seqObj "list" qo.toArray n') gg_;let pa:=I'.pin l0! gg_;exact LW (WU pc.1 χ ?_);rw[ekm]at k' nd;exact d9j ou nd jh g6 la I' x'.sub (EW_ pu x'.g) p' k' λs3 us' n3 I3 p3 e3=>hP s3 H' G' us' n3 I3 x' p3 pa.2.1 e3
def DM(g:bj!)(ds:d_):ι aK!:=(Ml g ds).bind λks=>if h0_/\g_<64 then ψ rm_ else υ
def Wr(g:bj!)(fa:n_):Ae->ι D:=λρ=>(cf_).bind λd=>match d with
 |.lst ds=>(DM g ds).map D.lst
 |_=>υ
def mN{KF:zE!}:∀{ds:d_} {vs:s_} {us:o!},Da! G->Ax vs us->Kz_ eK_
 |[],vs,us,r,p=>by obtain rfl:=cR r;cases p;exact .nil
 |d::ds,vs,us,r,p=>by
  let#[v,t,rfl,r1,r2]:=bR r;cases p with
  |cons a b=>exact .cons #[v,r1,a] (mN r2 b)
def sV{KF:zE!}(h:Kz_ eK_):∃vs,Da! G/\Ax vs us:=by
 induction h with
 |nil=>exact#[[],Al.nil,.nil]
 |cons p _ ih=>
  let#[v,r,p]:=p;let#[vs,r2,p2]:=ih;exact#[v::vs,Al.cons r r2,.cons p p2]
def b2g(I0:oV_ H0 s0)(I:e_)(sub:K_)(hs:BX_<=a)(pu:DX_ dM! ds us')(hz:g_<=sizeLine)(ho:yY_ a=ψ it!)(hn:ix_)
  (hQ:∀v G' H',DP_ G H->Aq X.K G' ce! v->Q v H'):DR_ V_ s:=by
 let#[vs,r,p]:=sV pu;let f:=I0.fpOk hs hn;exact#[dg!,upd H a ei_,I.track ho p (by rw[<-aL r];exact hz) hn ?_ f.2.1 f.2.2.2.2.1 f.2.2.2.2.2,χ,hQ _ _ _ (K6! sub hn) ?_]
 .exact NR I0.sz hs
 .exact HD_ cC (r.mono (λb u e=>by rw[bB (λz=>by rw[z]at e;rw[sub _ _ e]at hn;rcases hn)];exact e))
def a0q:Dn! "sorted"=ψ l5!:=by decide+kernel
def a1a{us:o!}(hl:rs_)(hz:as_<64)
  (h:FL! (ksk_tree Z_ ag_ θ) (λfin s'=>∃v,fin=.done (.ret v)/\Q fP! s') E {s with heap:=(l5_).push l6!}):
  wpAny h! X.A (call l5! [b3!] [(Str.ofString "key",.ref f)]) Q E s:=by
 exact FL_ call_function_entry_kw (a3z _ _) ?_;delta Builtin.«sorted»;exact LW Y_;exact LW (collect_list hl ?_ ru!);exact LW (WK ?_ ru!);let bj:(l5_).objs.size=k_+1:=by
  rw[Heap.size_update,size_push']
 let li:((l5_).push l6!).get? Z_=ψ l6!:=by
  rw[<-bj];exact NI _ χ
 rw[bj];exact EZ! wpAny_call_entry_kw (b1v _ _)
 case body=>
  rw[ksk_t1];exact PH h (λfin s' hq=>?_) λ_ _ z=>z;let#[v,rfl,hq]:=hq;exact JW_ v rv!
variable{own:List Nat}{fa:Ae->Option D}{e:Expr}{pos p p2 kp:Pos}{x:Str}
def c4m{ps:G_}(F:yw!)(hr:rj_)(hgx:V!)(yi:Gl X "sorted")(yj:X.mg "sorted"=υ)(ha:De! e fa)(l9:af!=1:=by rfl)(bh:C!:=by decide)
  (he:hA!:=by rfl):
  DE X own (Hl_ "sorted" [e] [#[ψ "key",cM!,kp]] pos) (Wr g fa):=⟨by
 let#[aj,fd,Y,h2,h3,h4]:=F;rintro hb s Z H Q I ⟨G,ρ,d,er,e1,kq⟩;let#[d0,e2,e1]:=LX.mp e1;cases d0 with
 |lst ds=>
  let#[qg,e3,rfl]:=MQ.mp e1;let#[ks,e4,e5]:=LX.mp e3;let qi:h0_/\g_<64:=by
   by_cases z:h0_/\g_<64
   .exact z
   .rw[MY z]at e5;rcases e5
  rw[MM qi]at e5;rcases e5;let da:=(aE ha aJ he).ok;exact QO (iP I yi yj a0q ?_ a_ a_);exact FZ! (da pos hb s Z H _ I #[G,ρ,[.lst ds],er,by delta Ac Af;rw[e2];rfl,λvs G1 H1 x1 r1=>(#[G1,x1,r1]:∃G1,Bs G H G1 H1/\Al X.K G1 [.lst ds] vs)]);rintro us s1 ⟨vs,H1,I1,r,G1,x1,r1⟩;exact kws_cons (lN I1 hgx h3 l8_ bh);let#[v,t,rfl,rv,rr]:=bR r1;obtain rfl:=cR rr;let#[l,xs,rfl,sq,rx]:=bS rv;let#[its,hv,pl,hz]:=I1.list rx!;cases r with
  |cons ra rb=>
   cases rb;subst ra;let lz:g4_=g_:=by rw[<-hv.length,<-aL rx]
   let#[nn,sl,ho]:=pF pl;exact a1a (HC_ ho nn) (by rw[lz];exact qi.2) ?_;let keep:∀b o,s1.heap.get? b=ψ o->H3_ ry_=ψ o:=λb o q=>by
    let ar:=NN q;exact MC _ ((Heap.get?_update_ne _ _ _ _ (NX ar)).trans ((Heap.get?_push_ne _ _ _ (NX ar)).trans q))
   let bj:(rx_).objs.size=x!+1:=by
    rw[Heap.size_update,size_push']
   let li:(ry_).get? (x!+1)=ψ ry!:=by
    rw[<-bj];exact NI _ χ
   let I2:=I1.kept (t':=s1.toks) keep;let bw:x!<=x!+1:=QV _;exact d6o Y hr h2 l9 I2 x1.sub (mN rx hv) li (Fv_ bw) (λH' q=>I1.fpOk bw q) e4 qi.1 qi.2 λs3 H3 G3 us3 n3 I3 x3 p3 hn3 yk=>pH!;exact b2g I1 I3 x3.sub bw p3 rz_ yk hn3 λv G4 H4 x4 r4=>kq v G4 H4 (x1.trans (x3.trans x4)) r4
 |_=>cases e1⟩
end
def b2f(hd:BP!):W.KdlSrc P w "dict" d d es.length qX! (λh=>Nn h d es ep) where
 type:=λ_ hm=>hm.typeIs
 there:=λ_ hm=>by let#[_,ho,_]:=hm;exact#[NN ho,NN ho]
 keep:=λ_ _ hm hk=>hm.at λo e=>hk d N_ o e
 notList:=by decide
 notTuple:=by decide
 hint:=λ_ _ _ _ hm hq=>W.kdl_hint_dict hm.typeIs hq
 iter:=λ_ _ hh hm=>#[_,_,(λ_ _ hq=>c2z hd hm hq),b5b hh _ d (by let#[_,ho,_]:=hm;exact NX iA!) es ep,#[dV!,hm.at λo e=>MC _ e]]
section
variable{X:Cx}{hb:List (Addr×Obj)}{Z:St}{G H:Hp}{s:yY!}{A:yK!}{E:Value->Shared->Prop}
def d4e{KF:zE!}(ok:fZ!)(hi:rD!):DX_ eK_ fX_ iv_:=by
 let ea:iv_=es.map la_:=by
  apply XS;intro i;rw[OC];by_cases h:i<al_
  .let Y:i<σ.size:=by rw[hi.1];exact h
   show"!s"
  .rw[rC_,PK a!];rfl
 rw[ea];let:∀{h1:q!} {es:cW_},DX_ rD_ h1 es->DX_ eK_ fX_ eM!:=λ{h1 es} h=>by
  induction h with
  |nil=>exact .nil
  |cons a _ ih=>exact F6_ a
 exact this rE!
nonrec def kf2(d:D):Int×Int:=(Lv d).getD (0,0)
def Zf(ds:d_):ι aK!:=if ma!=τ/\(ma_).Nodup/\g_<64 then ψ mb! else υ
def d6n(I:e_)(sub:K_)(pu:rm!)(ha:C5!)(ji:ix_)
  (g6:D6! H a)(ek:ma!=τ)(nd:(ma_).Nodup)(ou:g_<64)
  (hP:∀s' us' n',oV_ H s'->DX_ dM! mb! us'->EU! a=ψ it!->P it_ s'):
  wpAny h! A (Builtin.«list.sort» og!) P E s:=by
 let l1:=(jF pu).symm;obtain⟨e1,t9⟩:∃e1,Jt! a=ψ (Gx! e1):=C6!;rw[list_sort_plain];exact LW C6_;exact LW C7!;exact LW C7_;exact LW C8!;exact LW rp_;exact OJ ?_;let I1:oV_ H {s with heap:=(eJ_).push dN!}:=
  gM I rF_ λb o J q=>MC _ C9!
 let mz:(rq!).get? a=some rl!:=MC _ (MC _ t9);generalize (eJ_).push dN!=h3 at I1 mz ⊢;let pk:∀d∈ds,Lv d=some iw!:=λd hd=>by
  let:=QM.mp ek d hd;delta kf2;cases q:Lv d with
  |none=>rw[q]at this;exact Dd_ this
  |some z=>rfl
 let z:DX_ rG! us ds:=by
  let gen:∀{ds:d_} {us:o!},Kz_ dM!->(∀d∈ds,Lv d=ψ iw!)->DX_ rG! us ds:=λ{ds us} h=>by
   induction h with
   |nil=>exact λ_=>.nil
   |cons r _ ih=>exact λhk=>.cons (a5o I1 sub r (hk _ (MB ..))) (ih λd hd=>hk d (LY _ hd))
  exact gen pu pk
 let mem:=a6i z pu;let iu:(gk_).toList=Dj_ eM_:=by
  rw[ksk_zip,CZ!]
 let hd:Ex! eM_=ds:=List.map_snd_zip rn!;let fin:∀{L':rn_} {st:SortSt},L'.Perm eM_->(B_).toList=HV! d!->HV! Q_=Iy kf2 ds->Fd_ st=υ->
   P it_ {s with heap:=h3.update a (Obj.mapSeq λ_=>(B_).map Q_)}:=λ{L' st} b1 b2 b3 b4=>by
  let yh:Ex! B_=(rH_).toArray:=by
   apply UV.mp;rw[Array.toList_map,b2,NY];rfl
  rw[yh];exact hP _ _ _ (gM (s:={s with heap:=h3}) (wr:=[a]) (t':=s.toks) I1 rF_ λb o J q=>(C8_).trans q) ?_ (UK mz λ_=>(rH_).toArray);rw[<-b3];exact kB λq hq=>(mem q (b1.mem_iff.mp hq)).2
 let ZO:∀{L':rn_} {st:SortSt},L'.Perm eM_->(B_).toList=HV! d!->(Ex! B_).size<=sizeLine+1:=λ{L' st} b1 b2=>by
  rw[Array.size_map,<-QG,b2,MJ,b1.length_eq,QE,QE,OP];omega
 by_cases h2:kz_<2
 .rw[MM h2,MM h2];exact LW Y_;show"#:";rw[StateT.run_pure];exact LW Y_;show"#:";exact LW rI!;exact GK! mz (ZO (L':=(gl!).zip ds) (UQ _) iu);simp![failedOf,XO,NW,OY];exact LZ (fin (L':=(gl!).zip ds) (st:=SortSt.mk' general' gk_ #[] 7 υ) (UQ _) iu ?_ χ);rw[hd];rw[MN,l1]at h2
  match ds,h2 with
  |[],_=>rfl
  |[x],_=>rfl
  |_::_::r,h2=>simp at h2;omega
 .rw[MY h2,MY h2];rw[MN]at h2;exact LW (a6o (vs:=us) C0! (λz=>by rw[z]at h2;simp at h2) ?_)
  .show"!l"
  .let bj:(gk_).size=g_:=by rw[<-QG,iu,MJ,QE,QE];omega
   let hk:∀q∈(gl!).zip ds,Gz h3 q.1.1 (md!).1 (md!).2:=λq hq=>(mem q hq).1;let ow:(gm_).Nodup:=by rw[hd];exact nd
   exact LW (PH (b9g (kd:=DB τ) (a0:=us.toArray.zip eq!) (r:=λp=>Kf gm_ (Mz h3 p.1)) (Q:=λ_ ab=>IN! gk_/\Fd_ ab=υ/\IN_ gm_ h3 (gk_).size)
    (C0_) C1! C1_ C2! λab a1 a2 a3=>C2_) ?_ λ_ _ e=>e)
   .rw[iu]at hx hy;let#[p,hp,rfl]:=NC.mp hx;let#[q,bc,rfl]:=NC.mp hy;exact wP l2! l2_ ?_;let mm:∀p∈(gl!).zip ds,kf2 p.2∈(Ex! eM_).map kf2:=λp hp=>NE (NE hp);let hh:decide rJ!=Ka (kf2 p.2) md!:=by
     show"#H"
    let j7:E3_ Q rJ! {s with heap:=h3}:=hq;rw[hh]at j7;exact j7
   .show"!N";exact LW rI!;exact GK! mz (ZO b1 b2);rw[a2];simp![XO,NW,OY];exact LZ (fin b1 b2 C4_ a2)
def Zj(f:μ V->VK->Hp->ν):μ V->Hp->VK->Prop:=λxs H Q=>∃d es ep ys,xs=[.ref d]/\H d=ψ dJ_/\Ax ys eM!/\f ys Q H
def tG{es:cW_}(hi:rD!):iv_=es.map la_:=by
 apply XS;intro i;rw[OC];by_cases h:i<al_
 .let Y:i<σ.size:=by rw[hi.1];exact h
  show"!s"
 .rw[rC_,PK a!];rfl
def yQ(hc:az!):Gk X a0! rJ_:=by
 intro hb s Z H xs us Q I r ⟨d,es,ep,ys,e1,e2,hv,k⟩;subst e1;cases r with
 |cons ra rb=>
  cases rb;cases ra;let#[#[h3,h4,h5],_]:=rK!;exact W.kdl_call (b2f h4) aV! h3 f0_ λh' tk σ c hk hs hi=>?_;let hn:H k_=none:=FT! u!;let f:=I.fpOk (H':=H) u! hn;exact#[dm!,upd H s.heap.objs.size bf!,?_,χ,k _ hn];let ia:=tG hi;exact(I.kept (t':=tk) hk).track (us:=iv_) (n:=c) (AT! Array.toArray_toList hs) (AT! ia hv) ?_ hn I.sz f.2.1 f.2.2.2.2.1 f.2.2.2.2.2;rw[hv.length,MJ];exact cO h5
def Qq(M:Mh):μ D->ι D
 |[d]=>(Dl M d).map λq=>.lst il!
 |_=>υ
def zU{KF:zE!}(ok:fZ!):∃ys,Al KF G fX_ ys/\Ax ys eM!:=by
 let:∀{h1:q!} {es:cW_},DX_ rD_ h1 es->DX_ eK_ fX_ eM!:=λ{h1 es} h=>by
  induction h with
  |nil=>exact .nil
  |cons a _ ih=>exact F6_ a
 exact sV (this rE!)
def c4y{KF:zE!}:Db! Sc rJ_ Qq:=by
 show"![";delta Qq at e;show"!7"
 .let#[q,e1,rfl]:=MQ.mp e;show"!B";exact#[q.1,es,q.2.2,ys,χ,Y,g2,λl hl=>k _ _ _ A1_ (cJ (sub.free hl) g1)]
 .cases e
def Zi(KF:zE!):μ V->Hp->VK->Prop:=λxs H Q=>∃G ds,Bb G H/\(∃d es ep,xs=[.ref d]/\H d=ψ dJ_/\Paired eK_ ds eM!)/\ma!=τ/\(ma_).Nodup/\g_<64/\∀v G' H',DP_ G H->Aq KF G' (.lst mb!) v->Q v H'
def yP(hc:az!):Gk X l5! (Zi X.K):=by
 rintro hb s Z H xs us Q I r ⟨G,ds,sub,⟨d,es,ep,e1,e2,hv⟩,q1,q2,q3,k⟩;subst e1;cases r with
 |cons ra rb=>
  cases rb;subst ra;let#[#[h3,h4,h5],_]:=rK!;let lz:al_=g_:=by rw[jF hv,MJ]
  exact FL_ Calls.call_function_entry (args_sorted1 _) ?_;delta Builtin.«sorted»;exact LW Y_;exact LW (W.kdu_collect (b2f h4) aV! h3 f0_ λh' tk σ hk hi=>?_);let ia:=tG hi;exact LW (WK ?_ (by rw[ia,MJ,OP];omega));rw[ia];let I1:=I.kept (t':=tk) hk;let li:(h'.push md_).get? nZ!=ψ md_:=NI _ χ;let I2:oV_ H {s with heap:=h'.push md_,toks:=tk}:=I1.kept λb u q=>MC _ q;let hn:=Fv_ u!;exact EZ! OM (args_list_sort _)
  case body=>
   exact d6n I2 sub hv li hn (I1.fpOk u! hn) q1 q2 q3 λs3 us3 n3 I3 p3 yk=>JW_ _ pH!;exact b2g I1 I3 sub u! p3 rz_ yk hn k
def So(M:Mh):μ D->ι D
 |[d]=>(Dl M d).bind λq=>(Zf il!).map D.lst
 |_=>υ
def c4x{KF:zE!}:Db! Sc (Zi KF) So:=by
 show"![";delta So at e;show"!7"
 .let#[q,e1,e]:=LX.mp e;let#[l,e2,rfl]:=MQ.mp e;delta Zf at e2;split at e2
  .rename_i hz;rcases e2;show"!B";exact#[G,_,sub,#[q.1,es,q.2.2,χ,Y,mN g1 g2],hz.1,hz.2.1,hz.2.2,k]
  .rcases e2
 .rcases e
end
def Wc(M:Mh):D->D
 |.fn a=>match M a with|some (.lst xs)=>.lst xs|_=>.fn a
 |d=>d
def Uu(M:Mh)(x y:D):ι D:=Eb (Wc M x) (Wc M y)
def b2u{KF:zE!}(sub:K_)(m:co_)(r:cJ_):Dr! (Wc M d) v:=by
 cases d<;>first|exact r.mono sub|skip
 rename_i a;dsimp only[Wc];split
 .rename_i xs hM;show"!w";obtain rfl:=gQ r;exact HD_ Y (Ig! sub)
 .exact r.mono sub
protected def mQ{KF:zE!}:Db! AO (DP KF) Uu:=by
 show"!h";delta Uu Eb at e;show"!7"
 .show"!v";rcases e;exact#[_,_,b2u sub m rx,b2u sub m ry,h.1.1,h.1.2,h.2,em!]
 .rcases e
def Cn(KF:zE!)(C:yJ!)(m qual:Str)(st:Stmt)(ps:G_):Prop:=∃aj fd,Gb_ m qual/\DS! KF/\Yr KF C m aj
def Vg(KF:zE!)(mg:U_)(x:Str)(C:yJ!)(qual:Str)(st:Stmt)(ps:G_):Prop:=mg x=ψ ao_/\∃aj fd,Gb_ "__init__" qual/\DS! KF/\Mk KF C aj
section
variable{P:yW!}{w:yM!}{KF:zE!}{mg:Str->Option Value}{base h:Heap}{x qual:Str}{st:Stmt}{N ps:List Str}{k:Nat}{c9:List Nat}{q:WS}{C:yJ!}
def bW(d:zC!)(S:eg!)
  (J:∀{aj:yJ!} {am:yL!} {A:yK!} {outer:aO_} {s:yY!} {H:Hp} {E:XK},Ai k pS_->N.Nodup->GY_ Vn pT!):
  Ih P w KF mg base W! x ps lI_:=by
 let#[aj,fd,F,B,m]:=d;exact#[aj,fd,mg!,B,m,F.kp]
def cM(c:Vh KF C)(d:Cn KF C x qual st ps)(S:eg!)
  (J:rN!):
  Db P w KF mg base W! C x ps lI_:=by
 let#[aj,fd,F,B,m]:=d;exact#[c,aj,fd,m,mg!,B]
def a1r(d:IO! x)(S:eg!)
  (J:rN!):
  Yq P w KF mg base W! x C ps lI_:=by
 let#[m,aj,fd,F,B,mk]:=d;exact#[m,aj,fd,mk,mg!,B]
def dW{kV:yL!}
  (a:DH! KF x=ψ d5!)(i:rO!)(l:II_ f=ψ vH_)
  (c:rO_)(k:k0!)
  (b:vG!):Cn KF C x qual st ps:=
 #[f,_,k0_,pU!,#[a,i,k]]
def c1t{kV:yL!}(m:mg x=ψ ao_)
  (a:J8_ KF=ψ d5!)(i:rO!)(l:II_ f=Ep! rP!)
  (c:rO_)(k:k0!)(mm:W.makesIn KF C=τ)(kc:EH_ KF ao_=τ)
  (b:∀(kV bu pm:yL!) (an:do_) (am ct:yL!) (us:o!),as_=af!->GH! rP!=pure di_):IO! x:=
 #[m,f,_,k0_,pU!,#[mm,a,i,kc]]
def c8h(hd:EN KF mg x st [y])(S:Gc N [y] by!)(g6:mg x=ψ fm!)
  (J:∀(base:Heap) (aj:yJ!) (am:yL!) (A:yK!) (outer:aO_) (s:yY!) (H:Hp) (E:XK),Ai k pS_->GX! Vn pT!):
  ∃fd:FuncData,(Fl_ y)/\∀base:Heap,KF.In base->DJ! base.Ns->Db! Fe mg base Pi W! fa fd [y] (DN P w KF 1 (Bm N 1 q)):=by
 let#[f,fd,F,B,m]:=hd;rw[g6]at m;cases m;exact#[fd,λs u=>.of_eq (B [u] χ),λbase _ _=>uI F S λam A outer s H E hr=>J base _ am A outer s H E hr]
def usS{p:eO!}(h:∀a us,as_=n->p (a::us))(us:X!)(e:as_=n+1):p us:=by
 cases us with
 |nil=>cases e
 |cons a us=>exact h a us (Nat.succ.inj e)
def jY{p:eO!}(h:∀a,p [a]):∀us:List α,as_=1->p us:=usS λa us e=>by cases us with|nil=>exact h a|cons=>cases e
def kL{p:eO!}(h:∀a b,p O!):∀us:List α,as_=2->p us:=usS λa=>jY (h a)
def us3{p:eO!}(h:∀a b c,p eO_):∀us:List α,as_=3->p us:=usS λa=>kL (h a)
def us4{p:eO!}(h:∀a b c d,p [a,b,c,d]):∀us:List α,as_=4->p us:=usS λa=>us3 (h a)
def us5{p:eO!}(h:∀a b c d e,p [a,b,c,d,e]):∀us:List α,as_=5->p us:=usS λa=>us4 (h a)
def M0:Mh:=λ_=>υ
def c8g{ns:q_}(hS:FW! a cb_)(hg:g mi! M0 λd _=>d=.bl τ):Db! DN 1 g bb! H jP_ λ_ _ _=>False:=
 #[χ,H,mi!,M0,_,Bb.refl H,#[λa c e=>by rcases e],DK_ (Aq.lst hS (a0a ns)),hg,λd M' v G' H' r _ _ q=>by subst r;exact dI q]
end
end DL
namespace L2
open PySem PySem.Spec PyProof.Rows
def c6x
  (hN:br!)(d7:ao!)(hx:br_)
  (db:dp_)(cx:dq!)(kj:∀y∈cc_,y.2=.local->scope.names.lookup y.1=D4! ψ)
  (io:hj!)(cap:dp!)(calm:az!)(ax:mW_)
  (hg:hj_)(hi:wq!)(he:wr!)
  (hs:db_:=by intro _;rfl)
  (ky:JU! iA_ mJ!=pure true:=by rfl)
  (hf:X.fn x=τ\/CG! x=D4! some:=by first|exact .inl χ|exact .inr χ|assumption):
  PS X (EC_ [.Name x lj] iA_) (DJ wr_ eX_):=by
 intro hb s Z H D I h;show"!}"
 rw[exec_Assign_Name_used x lj _ pos ky];exact LW (VL gF!);delta evalThenUse;exact LW (E7_ hs);let#[it,fp,tn,al,H2,e,I2,T,bt,f2,hw]:=h2;subst e;exact Ep_ T;rintro D' C us n ys H' s' I' eD rv ao nD hD hC jw nC ⟨m,hn⟩ fin;let gb:∀b,b<W_->b≠C/\b≠D':=λb J=>wt!;let qf:∀x c,Dc_ x=ψ c->c<W_:=λx c h=>by let#[_,_,ho,_]:=Hc_ h;exact NN ho
 let se:∀p∈X.pn++hb,p.1<W_:=λp hp=>Hd! hp;let ID:=I'.track eD rv ao nD (NR I2.sz hD) (OB (hk!).2) ww! λp hp=>(j1!).2;exact Fa_ VL;exact wpAny_bindName (yT ID hN d7 hx (v:=.ref D') χ (?_) hf);rintro s3 I3 ⟨a,sb,ha⟩;let haC:a≠C:=by
  obtain rfl|ha:=ha
  .exact(hk!).1
  .exact(gb _ (qf _ _ ha)).1
 exact#[m,hn.sameBut sb (OB haC),λh' bv=>?_];let nC':upd H' D' bf! C=none:=by rw[bB (OB jw)];exact nC
 let IC:Inv X hb (Z.set i (D0! D')) (upd H' D' bf!) {s3 with heap:=h',toks:=s3.toks}:=ID_ I3.turned nC' λp hp=>(j1!).1;exact Id_ #[_,_,IC,fin D' nD]
end L2
namespace DL
open PySem PySem.Spec PyProof.Rows L2
section
variable{X:Cx}{own:List Nat}{tg:Expr}{fi:WI}{ft:WT}
def jT{pos p2:Pos}
  (hN:br!)(d7:ao!)(hx:br_)
  (db:dp_)(cx:dq!)(kj:∀y∈cc_,y.2=.local->scope.names.lookup y.1=D4! ψ)
  (io:hj!)(cap:dp!)(og:j6!)(calm:az!)(ax:qO!)
  (hg:hj_)(oj:pd_)(hi:BI!)(he:BI_)
  (bx:bi!:=by decide)(hs:db_:=by intro _;rfl)
  (ky:JU! iA_ dt_=pure true:=by rfl)
  (hf:X.fn x=τ\/CG! x=D4! some:=by first|exact .inl χ|exact .inr χ|assumption):
  MS X own own (EC_ [cM!] iA_) (An i BJ!):=
 qC (c6x hN d7 hx db cx kj io cap calm ax.ok hg hi xQ_ hs ky hf) λM0 G0 F0 E Z G H ρ M R sr e k1 k2=>⟨G,ρ,M,_,sr.st,e,λds ck M1 al G1 H1 r1 x1 m1 gf=>by
  let#[J,r1]:=r1;let qe:=Gd! x1;exact b4t J gf oj BJ_ r1 λjy ys M' G' H' r x m q _ p hp=>?_;exact k1 _ M' _ _ _ r ((((Bv!).grow x m).grow (.ext hy!) (m.ext hy!)).set bx (cJ pe_ q))⟩
end
section
variable{X:Cx}{own:List Nat}{a b:Expr}{pos q1 q2 q3 q4 q5:Pos}{s1 s2 s3:Str}{j1 j2 j3:Nat}{fa fb:Ae->Option D}
def c9e{hb:z!}{Z:St}{G H:Hp}{ρ:Ae}{i:Int}{Q:X_}(h:I!)(I:e_)(er:wZ!)(e:rS!)(hi:dd!<1920)
  (hQ:∀G' H' s' t,DP_ G H->Ju_ H'->Q (.str d4! t) s'):Ji_ (eval (.FormattedValue a (-1) υ pos) X.env) Q:=by
 exact FormattedValue_plain (dP (h.ok hb s Z H (λv H'=>v=.int i/\∃G',Bs G H G' H') I #[G,ρ,_,er,e,λv G' H' x r=>#[bC r,G',x]]) ?_);rintro u s' ⟨x,H',I',r,rfl,G',xx⟩;show"#+";exact formatField_int_small hi (hQ G' H' _ _ xx ((I'.tok _).tok _))
end
def JZ:Dl_ mk_->Array Value
 |none=>#[]
 |some (b,t)=>[.int b t,.int b t].toArray
def Zx(k:Int):Dl_ mk_->μ Int->Int
 |some (b,_),xs=>EC! b
 |none,x::xs=>EC! x
 |none,[]=>k
section
variable{P:yW!}{w:yM!}{A:yK!}{R:Result->Shared->Prop}{s:yY!}{l I S:yJ!}{kw:List (Str×Value)}{full:List Value}{k:Int}
def uR{h h':Heap}(k:∀b o,b∉[I]->h.get? b=ψ o->Du_ b=ψ o):∀b o,b≠I->b≠S->h.get? b=ψ o->(h'.update S f).get? b=ψ o:=λb o b1 b2 e=>Ge! (OB b2) (k b o mm! e)
def b8r:(JZ (ψ (b,t))).size<=sizeLine:=by show 2<=sizeLine;rw[OP];decide
def b3p(hh:bN_)(ym:l≠I)(ua:S≠I)(yn:S≠l):∀(xs:q_) (us:o!) (j:δ) (σ:Dl_ mk_) (h:Heap) (tk c:δ),full.drop j=us->j<=mm_->EY! us xs->(σ=υ->xs=[]->∃t,kw=[(Str.ofString "default",.int k t)])->
  h.IsListIter I l j->h.IsList l iD!->h.get? S=ψ (GK_ (JZ σ) c)->
  (∀t h' gi,rU!->R (E3! (.int (Zx k σ xs) t)) {s with heap:=h',toks:=gi})->
  codeAny E_ A rV_ R {s with heap:=h,toks:=tk}
 |[],us,j,σ,h,tk,c,hd,hj,hi,ha,it,il,hS,hR=>by
  let W:=Walks.list (prog:=P) (w:=w) (A:=A.in1) hh I l ym iD!;cases hi;let e1:=List.drop_eq_nil_iff.mp hd;let ej:j=full.toArray.size:=by rw[MN];omega
  exact HI! TH;rw[VJ RG];exact LW rW_;exact LW (XU (W.done _ _ _ #[by rw[<-ej];exact it,il] λh' gi k=>?_))
  match σ,ha with
  |none,ha=>
   let#[t,rfl]:=Ig_ ha;exact Fz! (LZ (hR t _ _ λb o b1 b2 e=>k b o mm! e))
  |some (b,t),_=>
   exact LW (WZ (hz:=b8r) (k S _ rX! hS) χ (LW (TD (LZ (hR t _ _ (uR k))))))
 |x::xs,us,j,σ,h,tk,c,hd,hj,hi,ha,it,il,hS,hR=>by
  let W:=Walks.list (prog:=P) (w:=w) (A:=A.in1) hh I l ym iD!;let nm:rX_="max.loop":=by decide
  cases hi with
  |@cons _ t us _ hi=>
   let ar:j<mm_:=by
    obtain z|z:=QX j mm_
    .exact z
    .rw[List.drop_eq_nil_iff.mpr z]at hd;rcases hd
   let hv:full[j]?=ψ (.int x t):=by
    let:=congrArg (·[0]?) hd;simpa[VI]using this
   let m9:full.drop c6_=us:=by
    rw[<-List.tail_drop,hd];rfl
   exact HI! TH;rw[VJ RG];exact LW rW_;let go:∀(y:Int) (ty:Tok),y=max (Zx k σ [x]) y->∀(h':Heap) (gi c':δ),rU!->EN_ I c6_->h'.IsList l iD!->Du_ S=ψ (seqObj "list" [.int y ty,.int y ty].toArray c')->Zx k σ dh_=EC! y->
     codeAny E_ A rV_ R {s with heap:=h',toks:=gi}:=λy ty _ h' gi c' k it' il' j8 e=>
    b3p hh ym ua yn xs us c6_ (ψ (y,ty)) h' gi c' m9 ar hi (λz=>by rcases z) it' il' j8 λt' h2 tk2 k2=>by
     let:=hR t' h2 tk2 λb o b1 b2 e=>k2 b o b1 b2 (k b o b1 b2 e);rw[e]at this;show"#E"
   exact LW (XU (W.item j _ _ _ (AT! MN ar) #[it,il] λv h' gi hP st k=>?_));let ev:v=.int x t:=by
    let:full[j]?=ψ v:=by simpa using hP
    rw[hv]at this;exact(OF this).symm
   subst ev;let j8:=k S _ rX! hS;let kk:∀b o,b≠I->b≠S->h.get? b=ψ o->Du_ b=ψ o:=λb o b1 _ e=>k b o mm! e
   match σ,hR,j8,go with
   |none,hR,j8,go=>
    show FZ_ (updateSeq S (λ_=>[.int x t,.int x t].toArray)>>=_);exact HS! WZ j8;rw[nm];exact LZ #[TU RG _,go x t (D2! Zx) _ _ _ (uR k) ?_ ?_ r2! χ]
    .let#[o,e1,e2]:=st.1;exact r3_
    .let#[o,e1,e2]:=st.2;exact r4!
   |some (b,tb),hR,j8,go=>
    show FZ_ (tryCatch (holding [.int x t,.int x t] (richCompare .Gt (.int x t) (.int b tb)>>=_)) _>>=_);exact LW (XU (Ko! (CmpOf.ints_gt (prog:=P) (w:=w) (A:=A.in1) (P:=λi v=>∃t,v=.int (if i=0 then x else b) t) (λi=>if i=0 then x else b) (λi v h=>h) 0 1 _ _ _ _ _ cF_ #[tb,χ] ?_)));exact LW (OJ (OT ?_));exact LW (TD Y_);show FZ_ (JX! (x>b));by_cases g:x>b
    .rw[NG g,y!];exact LW (WZ (hz:=b8r) j8 χ (Fa_ TD));rw[nm];exact LZ #[TU RG _,go x t r6! _ _ _ (uR k) ?_ ?_ r2! (EE! x)]
     .let#[o,e1,e2]:=st.1;exact r3_
     .let#[o,e1,e2]:=st.2;exact r4!
    .rw[MU g,bY!];exact Fa_ TD;rw[nm];exact LZ #[TU RG _,go b tb r6! _ _ _ kk st.1 st.2 j8 (EE! b)]
end
def b8c:∀(a:yL!) (k:Dl_ Value),argsOk "max" #[[a],(k.map λv=>r8_).toList]
 |_,none=>by delta argsOk;kernel_rfl
 |_,some _=>by delta argsOk;kernel_rfl
def d5v:Dn! "max"=ψ r9!:=by decide+kernel
section
variable{P:yW!}{w:yM!}{A:yK!}{E:Value->Shared->Prop}{Q:Value->Shared->Prop}{s:yY!}{l:yJ!}{dv:Option Value}{k:Int}
def c1z(hh:bN_)(hl:rs_)(hi:EY! us xs)(be:xs=[]->∃t,dv=ψ (.int k t))
  (hQ:∀t h' gi,mo_->Q (.int (Zx k υ xs) t) {s with heap:=h',toks:=gi}):
  wpAny E_ A (call r9! [b3!] (sb!).toList) Q E s:=by
 let nm:rX_="max.loop":=by decide
 let#[ol,hol,_]:=id hl;let ub:=NN hol;exact kmb_tree PySem.F.kind_max PySem.F.plain_max PySem.F.entry_max (b8c _ _) ?_;exact LW (wpAny_of_eq (show Builtin.Builtins.bindParams "max" ["key","default"] 0 #[[],(sb!).toList]=pure [none,dv]by cases dv<;>rfl) ?_);exact LW (LZ (LW (TQ hl (LW rp_))));rw[nm];generalize hG:s.heap.push {cls:=.type "list_iterator",data:=.fields [.ref l,.int 0 0].toArray}=G;let hS:G.objs.size=k_+1:=by rw[<-hG];exact size_push' ..
 let gI:G.get? k_=ψ {cls:=.type "list_iterator",data:=DN! l}:=by rw[<-hG];exact NI _ χ
 let gk:∀b o,yY_ b=ψ o->G.get? b=ψ o:=λb o e=>by rw[<-hG];exact MC _ e
 exact LZ ⟨TU RG _,b3p hh (NX ub) (HV_ RL (UU _)) (HV_ RL (UO ub)) xs us 0 υ _ _ 0 χ bn! hi (λ_ z=>by let#[t,rfl]:=be z;exact cF_)
  #[_,MC _ gI,χ,χ] ?_ hQ_ λt h' gi k=>hQ t h' gi λb o e=>?_⟩
 .let#[o,e1,e2]:=hl;exact#[o,MC _ (gk _ _ e1),e2]
 .let J:=NN e;exact k b o (NX J) (HV_ NX (UO J)) (MC _ (gk b o e))
end
section
variable{X:Cx}{own:List Nat}{e:Expr}{fa:WE}{p p2 kp pos:Pos}{k:Int}{j:Nat}
def a6x:∀{xs:q_} {us:o!},Ax (xs.map V.int) us->EY! us xs
 |[],_,.nil=>.nil
 |x::xs,_,.cons r t=>by let#[tk,rfl]:=r;exact .cons x tk (a6x t)
def Zy(k:aB_):μ D->ι D
 |[.lst ds]=>(Mb ds).bind λxs=>if xs=[]then k.map .int else ψ sd_
 |_=>υ
def d7q{k:aB_}(h:(G2_ xs sd_)=ψ d):∃i,d=.int (Zx i υ xs)/\(xs=[]->k=ψ i):=by
 match xs with
 |[]=>let#[i,e,rfl]:=MQ.mp h;exact#[i,χ,λ_=>e]
 |x::xs=>cases h;exact#[0,χ,λz=>by rcases z]
def c7z(hgm:Gl X "max")(yj:X.mg "max"=υ)(hc:az!)(ha:Dk! e fa)(he:hA!:=by rfl):
  ME X own (Hl_ "max" [e] [#[ψ "default",.Constant go_ j p2,kp]] pos) (G3! (λ_=>Zy (ψ k)) fa):=⟨by
 rintro hb s Z H Q I ⟨G,ρ,M,R,st,e1,kq⟩;exact QO (iP I hgm yj d5v ?_ a_ a_);exact FZ! ((aC ha aK he).ok pos hb s Z H _ I #[G,ρ,M,_,st,e1,λds M1 vs G1 H1 r1 x1 m1 q1=>(#[ds,M1,G1,r1,x1,m1,q1]:∃ds M1 G1,Dq (Zy (ψ k) ds) (λd=>R d M1)/\XM M G H M1 G1 H1/\MR X.prog X.w X.K M1 G1 H1/\Al X.K G1 ds vs)]);rintro us s1 ⟨vs,H1,I1,r,ds,M1,G1,r1,x1,m1,q1⟩;exact kws_cons (YE l8_);let#[d,Y,h2]:=cY r1;delta Zy at Y;split at Y
 .rename_i qg;let#[xs,e2,Y]:=LX.mp Y;let#[v,t,rfl,rv,rr]:=bR q1;obtain rfl:=cR rr;let#[l,vs,rfl,sq,rx]:=bS rv;rw[nZ rx e2]at sq;let#[its,hv,pl,hz]:=I1.list rx!;let#[u,rfl,ru]:=iT r;subst ru;let#[i,rfl,hi]:=d7q Y;exact c1z (dv:=ψ _) (I1.ok.hd hc) pl.isList (a6x hv) (λz=>#[_,by obtain rfl:=OF (hi z);rfl]) λt h' gi kp=>#[.int _,H1,I1.kept kp,cF_,kq _ M1 _ G1 H1 h2 x1 m1 Aq.int]
 .rcases Y⟩
end
abbrev En(h:Heap)(e it:yJ!)(f:yL!)(b:Bool)(i:Int)(ah:yL!):Prop:=
 h.get? e=ψ {cls:=.type "enumerate",dict:=υ,data:=.fields [f,.bool b,.ref it,rawInt i,.none,ah].toArray,slots:=#[]}
section
variable{prog:yW!}{w:yM!}{A:yK!}{E:Value->Shared->Prop}{s:yY!}
def a4e(h:Q (yY_ a) s):Jy! (loadIfAlive a):=λΓ p hG=>h
def a7k{i T:δ}{Q:X_}
  (he:Eg! En e it eR_ b i ah)(hT:yY_ T=ψ oT)(hTi:T≠it)(hTe:T≠e)(ax:mq_)(hl:iE_)(hx:ag[i]?=ψ x)(be:f8!)
  (hQ:∀h',E4! h' τ->EN_ it w_->
   h'.get? k_=ψ {cls:=.type "tuple",data:=Fe! s.toks}->nZ!=k_+1->
   sg_->Q bt_ {s with heap:=h',toks:=s.toks+1}):
  wpAny n! A (Builtin.«enumerate.__next__» #[[.ref e],[]]) yV_ E s:=by
 show"!W";show Ds! sh_ _;exact LW si!;exact LW (wpAny_nextOf_list_item ax hl hx λh₁ ZP qq=>?_)
 replace qq:Ft! it hp h₁:=qq
 let vm:=(qq.2 e be).trans he;exact LW si_;exact LW si_;exact Fa_ wpAny_mkInt;exact LW (QN vm c! λju vn qr=>?_)
 replace qr:Ft! e h₁ ju:=qr
 replace vn:E4! ju b:=vn
 exact LW (QN vn c! λiq vo qt=>?_)
 replace qt:Ft! e ju iq:=qt
 replace vo:E4! iq b:=vo
 show wpAny _ _ (newTuple [.int i tk,x]>>=_) _ _ #[iq,g,d,tk+1,os];exact LW (XW ?_);let uc:En (iq.push {cls:=.type "tuple",data:=.seq [.int i tk,x].toArray}) e it eR_ b dJ! ah:=MC _ vo;generalize ud:iq.push {cls:=.type "tuple",data:=.seq [.int i tk,x].toArray}=jx at uc;let bj:iq.objs.size=gp!:=by rw[qt.1,qr.1,qq.1]
 let vp:e<gp!:=NN he;let ht₄:jx.get? gp!=ψ {cls:=.type "tuple",data:=Fe! tk}:=by rw[<-ud,<-bj];exact NI _ χ
 let hz₄:jx.objs.size=gp!+1:=by rw[<-ud,RX,bj]
 let ZQ:∀b o,b≠e->b≠it->hp.get? b=ψ o->jx.get? b=ψ o:=λb o g8 vq J=>by
  rw[<-ud];exact MC _ (qt.extBut b o g8 (qr.extBut b o g8 (qq.extBut b o vq J)))
 let hit₄:jx.IsListIter it l w_:=by
  rw[<-ud];let#[o,ho,r]:=(ZP.extBut qr.extBut (OB be)).extBut qt.extBut (OB be);exact#[o,MC _ ho,r]
 let hT₄:=ZQ T oT hTe hTi hT;show Ds! (Builtin.SmallTypes.ownedTupleIsFree cl!>>=_) #[jx,g,d,tk+1,os];rw[bj];clear ud vo qt vn qr vm qq ZP bj iq ju h₁;exact LW ?_;delta Builtin.SmallTypes.ownedTupleIsFree;exact LW (PN uc χ (x:=rawInt T) χ ?_);show Ds! (loadIfAlive (((T:δ):Int).toNat)>>=_) _;rw[SU];exact Fa_ a4e;show Ds! (if(jx.get? T).isNone=τ then _ else _) _;rw[hT₄];show Ds! (field cl! 1>>=_) _;exact LW (PN uc χ (x:=.bool b) χ ?_);let fin:∀kh,E4! kh τ->Ft! e jx kh->Q (.ref gp!) #[kh,g,d,tk+1,os]:=λkh yo qu=>
  hQ kh yo (hit₄.extBut qu.extBut (OB be)) (qu.extBut _ _ (RL vp) ht₄) (by rw[qu.1,hz₄]) λb o g8 vq J=>qu.extBut b o g8 (ZQ b o g8 vq J)
 cases b with
 |true=>exact Id_ #[_,χ,fin jx uc #[χ,gq!]]
 |false=>
  show Ds! (setField cl! 1 fl!>>=_) _;exact LW (QN uc c! λkh yo qu=>LZ (LZ #[_,χ,fin kh yo qu]))
def c9j(a:yJ!)(xs:bp!)(name:Str)(u:Tok)(ZR:Gt! gq_ name=pure υ)(hname:(["__module__","__name__","__qualname__","__doc__","__annotations__"]:μ Str).contains name=θ)(bj:name.length+100<=sizeLine):
  Meets (Builtin.«object.__getattribute__» #[[dg!,.str name u],[]]) (λA R s=>yY_ a=ψ {cls:=.type "enumerate",dict:=υ,data:=H3! xs,slots:=#[]}/\raisesAttr V_ name A R s):=
 Meets.of_wp λprog w A R s hs=>by
  show"!W";let#[hx,hs]:=hs;delta Builtin.«object.__getattribute__»
  repeat (any_goals (first|assumption|wp_step))
  simp![hname,NW,OY]
  repeat (any_goals (first|assumption|wp_step))
  exact wpAny_raiseAttrError hs.1 hs.2 (attrMsg_fits c_ bj)
def c4a:entryFor table "enumerate.__getattribute__"=ψ Builtin.«object.__getattribute__»:=
 entryFor_alias (id':="object.__getattribute__") ah! c_ c_ ah!
def b1e(hx:yY_ a=ψ {cls:=.type "enumerate",dict:=υ,data:=H3! xs,slots:=#[]})(hA:bN_)
  (h:∀h' tk,mo_->Q υ {s with heap:=h',toks:=tk}):Jy! (getAttr? V_ "keys"):=by
 show"!W";let hT:∀gi,(#[hp,g,d,gi,os]:yY!).TypeIs V_ "enumerate":=λ_=>Ku_ hx;let ZR:Gt! gq_ "keys"=pure none:=am_miss_of_fast c_;let f1:=sub_AttributeError;let f3:=VD.lookup;let f4:=VD.bind V_;let f5:Gt! gq_ "__getattr__"=pure none:=F.plainAttrs_enumerate.noGetattr;delta getAttr? getAttrBy? getAttrBy
 repeat (any_goals (first|assumption|exact hT _|((with_reducible show wpAny _ _ (call (Value.builtin "enumerate.__getattribute__") _ _) _ _ _);exact SD VD (hT _) c4a (F.args_enumerate_getattribute_2 _ _) (c9j a xs _ _ ZR c_ hN!) #[hx,hA,λh' gi e ii=>?_])|wp_step))
 let#[t',u',he]:=ii.there;show Ds! (getattributeRaised _ _ _ _ _ _ _) _;delta getattributeRaised
 repeat (any_goals (first|assumption|wp_step))
 exact h _ _ ii.keeps
end
def a0j:entryFor table "dict.update.loop"=ψ Builtin.«dict.update.loop»:=entryFor_of_tree ah!
def a0i:plainId "dict.update.loop"=true:=by decide+kernel
section
variable{X:Cx}{hb:List (Addr×Obj)}{Z:St}{G H:Hp}{M:Mh}{s:yY!}{A:yK!}{R:Result->Shared->Prop}{e it c l:yJ!}{vs:List V}{xs:List D}
def EX(X:Cx)(hb:z!)(H:Hp)(h:Heap)(e it:yJ!)(i:δ):Prop:=
 BY_\/∃T b ah o,En h e it (rawInt (T:δ)) b i ah/\h.get? T=ψ o/\(∀v,o.data≠.cell v)/\T≠it/\T≠e/\D6! H T
def c3y(I:e_)(st:sp_)(ax:mq_)(hl:iE_)(hx:ag[i]?=ψ x)(be:f8!)
  (hQ:∀h',Hm! H h' w_->EN_ it w_->Du_ k_=ψ {cls:=.type "tuple",data:=Fe! s.toks}->
   (∀b o,b∉c1_->yY_ b=ψ o->Du_ b=ψ o)->Q (ψ bt_) {s with heap:=h',toks:=s.toks+1}):
  wpAny h! A (pyNext cl!) Q E s:=by
 let kp:∀{h':Heap},sg_->∀b o,b∉c1_->yY_ b=ψ o->Du_ b=ψ o:=λk b o J eo=>k b o sq! sq! eo;obtain⟨ah,he⟩|⟨T,b,ah,o,he,hT,hd,Y,h2,hf⟩:=st
 .let ne1:k_≠e:=λz=>Ge_ he;let xc:k_≠it:=λz=>by
   let#[o,q,_]:=ax;exact Ge_ q
  exact wpAny_pyNext_enum_item he ax hl hx be λh' a b c d k=>Ih! #[_,_,_,_,sr_,c,λv z=>(Kp! z),xc,ne1,I.fpOk u! fa_]
 .let ZS:F9! cl! "enumerate":=my!;exact LW (TR (OU ZS VB
   (G3_ ZS
    (a7k he hT Y h2 ax hl hx be λh' a b c d k=>LZ (Ih! #[T,_,_,o,sr_,k T o h2 Y hT,hd,Y,h2,hf])) st!)))
def c9i(hh:bN_)(st:sp_)(ax:mq_)(hl:iE_)(hx:ag[i]?=υ)
  (hQ:BV!):JD_ (pyNext cl!):=by
 let hg:∃f b ah,Eg! En e it f b i ah:=by
  obtain⟨ah,he⟩|⟨T,b,ah,o,he,_⟩:=st
  .exact sv!
  .exact sv!
 let#[f,b,ah,he]:=hg;let hT:F9! cl! "enumerate":=my!;exact LW (TR (OU hT VB
  (G3_ hT ?_ st!)))
 show Ds! sh_ _;exact LW si!;exact LW (wpAny_nextOf_list_end hh ax hl hx λh' x je ii=>?_);let#[o,ho,hc]:=ii;exact FA! #[o,ho,hc];exact LZ (hQ _ je)
def c3z(st:Hm! H h i)(ax:h.IsListIter it l i)(hf:sw!):
  ∃fp:List Addr,(∀b∈c1_,b∈fp)/\mN_/\(∀b∈fp,∃o,h.get? b=ψ o/\∀v,o.data≠.cell v)/\∀(h2:Heap) (H2:Hp),(Fo_ h2.get?)->(∀b∈fp,Fp X hb H2 b)->Hm! H2 h2 i:=by
 let#[oi,q1,_,q2]:=ax;let hi:∃o,h.get? it=ψ o/\∀v,o.data≠.cell v:=#[oi,q1,λv z=>by rw[q2]at z;cases z];obtain⟨ah,he⟩|⟨T,b,ah,o,he,hT,hd,Y,h2,hfT⟩:=st
 .exact#[c1_,λb J=>J,hf,bt!,λh2 H2 k _=>.inl #[ah,k e c! _ he]];simp![MD,ML,RF]at J;obtain rfl|rfl:=J
  .exact sx!
  .exact hi
 .exact#[[T,e,it],λb J=>LY _ J,bt!,bt!,λmi H2 k k2=>.inr #[T,b,ah,o,k e c! _ he,k T c! _ hT,hd,Y,h2,k2 T c!]]
  .obtain rfl|J:=MD.mp J
   .exact hfT
   .exact hf b J
  .simp only[MD,ML,RF]at J;obtain rfl|rfl|rfl:=J
   .exact#[o,hT,hd]
   .exact sx!
   .exact hi
def b8e(hi:i<j!):sx_=iJ!++[(D.int (i:δ),xs[i])]:=by rw[RT hi,List.zipIdx_append,NM,QF,WH a!];simp
def b1x:D.int (i:δ)∉Dj_ iJ!:=λz=>by
 rw[NY]at z;show"#M";let:=List.snd_lt_of_mem_zipIdx hq;let h2:=D.int.inj e;rw[QF]at this;omega
def c4c(hc:az!)(hA:bN_)(hu:A.in1.units<cLine)(be:f8!)(hq:∀{H:Hp},Bb G H->F8! l vs)(rl:sy_)(hl:j!<=1000):∀(n i:δ) (j:Int) (s:yY!) (H:Hp) (M:Mh),j! - i=n->i<=j!->oV_ H s->K7! M H->Bb G H->M c=BS! iJ! i->
  (∀b∈c1_,D6! H b)->Hm! H s.heap i->Fm! i->
  (∀H' s',Ju_ H'->DE_ (JK_ c) G H'->K7! (JK_ c) H'->R mC! s')->
  codeAny h! A (.builtin "dict.update.loop" #[[.ref c,.ref e,rawInt j,.none],[]]) R s:=by
 intro n
 induction n with
 |zero=>
  intro i j s H M hn hi I m sub hM hf st ax hR;let#[its,rv,pl,hz]:=EK_ (hq sub);let Y:=aL rl;let h2:=da_;exact TH a0j ?_;exact LW (c9i hA st ax pl.isList aV_ λh' eb=>?_);let I':oV_ H {s with heap:=h',toks:=s.toks}:=gM I hf λc o hc eo=>eb c o iD_ eo;let hx:JK_ c=M:=by
   let ei:i=j!:=by omega
   subst ei;rw[List.take_length]at hM;show"#5";split
   .rename_i z;rw[z,hM]
   .rfl
  let:=hR H _ I';rw[hx]at this;exact Hb! (LZ (this (.refl sub) m))
 |succ n ih=>
  intro i j s H M hn hi I m sub hM hf st ax hR;let#[its,rv,pl,hz]:=EK_ (hq sub);let d7:i<j!:=by omega
  let#[v,gv,rvx]:=fX rl (ND d7);let#[u,oy,ru]:=rv.get gv;exact TH a0j ?_;exact LW (c3y I st ax pl.isList (Di_ oy) be λh' ab jf hT kp=>?_);let I':oV_ H {s with heap:=h',toks:=s.toks+1}:=gM I hf kp;let#[fp,f1,f2,f3,f4]:=c3z ab jf hf;let I2:=I'.pinned f2 f3;let hT':({s with heap:=h',toks:=s.toks+1}:yY!).TypeIs bt_ "tuple":=Ku_ hT;exact Fa_ OJ;exact Fa_ XU;exact ET_ XA hT';exact LW (QU hT χ Y_);exact OJ (b1m hu I2 m sub hM #[_,Aq.int,A_] χ #[v,rvx,ru] (by rw[MJ,VH,QF];exact NK (show min i j!<1001 by omega) a_) λa9 s' I3 c'=>?_);let qj:Il iJ! mE_ i=i+1:=by delta Il;rw[qK b1x];rfl
  rw[qj]at I3 c';rw[kU b1x,<-b8e d7]at c';let m':=m.write hM c';let x':DE_ sA_ G sB!:=XM.write m sub hM;let hcn:∀b∈fp,b≠c:=λb J z=>m.has (by rw[hM];simp:M c≠υ) (z▸(d0!).1);let fk:∀b∈fp,D6! sB! b:=λb J=>#[by rw[bB (hcn b J)];exact(d0!).1,(d0!).2];let pk:∀b∈fp,∀o,Du_ b=ψ o->EU! b=ψ o:=λb J o eo=>(I3.pin (b,o) (MF _ (MF _ (jM J eo)))).1;let hit3:s'.heap.IsListIter it l w_:=by
   let#[o,q1,q2]:=jf;exact#[o,pk it (f1 it c!) o q1,q2]
  exact LZ #[TU a0i _,ih w_ c6_ s' _ _ a! d7 I3.unpinned m' x'.sub mup_same (λb J=>fk b (f1 b J)) (f4 _ _ pk fk) hit3 λH4 s4 I4 x4 m4=>?_];let g9:mup sA_ c b5_=JK_ c:=by
   show"#5";split<;>rfl
  rw[g9]at x4 m4;exact hR H4 s4 I4 (x'.trans x4 m') m4
end
def xT(l:yJ!)(ag:bp!)(n:δ)(x:yL!)(e:Value->Bool)(j:δ)(hj:j<ag.size)(ax:e ag[j]=τ)(k:δ)(bw:nH!):
  ∀i:Nat,j - i=k->i<=j->(∀m (hm:m<ag.size),i<=m->m<j->e ag[m]=θ)->Meets (Builtin.«list.remove.loop» #[[b3!,x,rawInt i],[]])
   sD_:=by
 induction k with
 |zero=>
  intro i hk vk nj prog w A R s h;let#[hp,g,d,tk,os]:=s;let#[hl,he,h]:=h;let hij':i=j:=by omega
  subst hij'
  wp_walk using PZ hl
  let hi:ag[(bs_).toNat]?=ψ ag[i]:=by simp[hj]
  rw[hi];exact Fe_ hj;rw[ax];let hz':(ag.eraseIdxIfInBounds i).size<=sizeLine+1:=NR (PySem.MeetsSeq.size_erased ag _) (XQ bw)
  wp_walk using(WZ hl χ (_hz':=hz')),PZ hl
  simpa using h
 |succ k ih=>
  intro i hk vk nj prog w A R s h;let#[hp,g,d,tk,os]:=s;let#[hl,he,h]:=h;let ar:i<ag.size:=by omega
  wp_walk using PZ hl
  let hi:ag[(bs_).toNat]?=ψ ag[i]:=by simp[ar]
  let hc:dJ!=((i+1:δ):Int):=by omega
  rw[hi];exact Fe_ ar;rw[nj i ar u! a!]
  wp_walk
  rw[hc];exact⟨TU RS _,TH XI (by
   rw[VJ RS _];exact ih w_ a! a! (λm hm Y h2=>nj m hm a! h2) prog w A R _ #[hl,he,h])⟩
def yA(l:yJ!)(ag:bp!)(n:δ)(x:yL!)(e:Value->Bool)(j:δ)(hj:j<ag.size)(ax:e ag[j]=τ)(nj:∀m (hm:m<ag.size),m<j->e ag[m]=θ)(bw:nH!):
  Meets (Builtin.«list.remove» #[[b3!,x],[]])
   sD_:=by
 intro prog w A R s h;show"!W";let#[hl,he,h]:=h
 wp_walk using PZ hl
 exact⟨TU RS _,TH XI (by
  rw[VJ RS _];exact xT l ag n x e j hj ax _ bw 0 χ bn! (λm hm _ h2=>nj m hm h2) prog w A R _ #[hl,he,h])⟩
section
variable{own:List Nat}{e a b o tg:Expr}{pos p2 p ay ai:Pos}{f fa fb fo:WE}
def IT(KF:zE!):V->μ V->Hp->VK->Prop:=λx vs H Q=>∃l xs y dx ds j,x=.ref l/\vs=[y]/\H l=ψ H!/\Dr! dx y/\D6_ ds xs/\Bd dx=τ/\Bj ds=τ/\Ct ds<=40/\ds.findIdx? (λd=>Dv d dx)=ψ j/\Fb_ (xs.eraseIdx j)
def b1d(I:e_):∀{ds:d_} {vs:s_} {us:o!},Fc_ ds->Ax vs us->Bj ds=τ->∀(m:δ) (h:m<as_) (h':m<g_),Ti X.K H x us[m]=Dv ds[m] x
 |[],vs,us,r,rv,_=>λm h h'=>by cases h'
 |d::ds,vs,us,r,rv,n=>λm h h'=>by
  let#[v,t,rfl,r1,r2]:=bR r;delta Bj at n;rw[NQ]at n;cases rv with
  |cons lu om=>
   cases m with
   |zero=>exact Gc_ v
   |succ m=>exact b1d I r2 om n.2 m _ _
def b6z(hu:aj_):HP X "list.remove" (IT X.K):=by
 intro hb s Z H x vs v us Q I rx rv h;let#[l,xs,y,dx,ds,j,rfl,rfl,hH,ry,rd,n1,n2,hd,hj,q]:=h;cases rx;let#[u,rfl,ru]:=rv.one;let#[z,its,n,r,hl,e]:=I.lstM hH;let Y:=aL rd;let#[hjl,hj1,hj2]:=XF.mp hj;exact SD F.slot_list_remove do! F.entry_list_remove (F.args_list_remove_2 _ _) (yA l its.toArray n u ez_ j jH_ ?_ (λm hm hmj=>?_) jH_) #[e,λw hw=>oM I ry ru n1 rd r n2 (by let:=iC X.A;omega) w jq_,?_]
 .rw[List.getElem_toArray,b1d I rd r n2 j _ hjl];exact hj1
 .rw[List.getElem_toArray,b1d I rd r n2 m _ a!];simpa using hj2 m hmj
 .exact#[.non,_,I.lset hH e ?_ (r.eraseIdx j) ?_,χ,q]
  .show its.toArray.eraseIdxIfInBounds j=(its.eraseIdx j).toArray;rw[List.eraseIdxIfInBounds_toArray]
  .let:=zS xs j;omega
def Xa(fo fa:WE):WE:=λρ M R=>fo ρ M λd M1=>Dq qy_ λ_=>fa ρ M1 λv M2=>Dq qA_ λq=>Bd v=τ/\Bj q.2=τ/\Ct q.2<=40/\Dq (q.2.findIdx? λx=>Dv x v) λj=>D5_ (mup M2 q.1 (.lst (q.2.eraseIdx j)))
def a9g(j:δ):∀{ds:d_} {vs:s_},Da! G->Al KF G (ds.eraseIdx j) (vs.eraseIdx j):=by
 induction j with
 |zero=>
  intro ds vs r;cases ds with
  |nil=>cases cR r;exact r
  |cons d ds=>let#[v,t,rfl,r1,r2]:=bR r;exact r2
 |succ j ih=>
  intro ds vs r;cases ds with
  |nil=>cases cR r;exact r
  |cons d ds=>let#[v,t,rfl,r1,r2]:=bR r;exact E8! r1 (ih r2)
def c7y(hu:aj_)(ho:cs!)(ha:ak!)(bp:em_:=by rfl)(cz:(EL_ fL_&&DY_ bg_
   &&decide fM!)=true:=by rfl) (c8:bO!:=by rfl)
  (cy:JB_ "remove"=Dq_ o:=by rfl) (b9:dw!:=by rfl):Jh! "remove" Xa:=
 fD (oS SA PySem.F.slot_list_remove PySem.F.type_list_remove (b6z hu) ho.ok A3_ cy cz c8 bp b9) λZ G H Q ρ M R st e k=>
  ⟨G,ρ,M,_,st,e,λd M1 v G1 H1 r1 x1 m1 q1=>by
   let#[c1,e1,r1]:=cY r1;let#[rfl,rfl,_,xy,hH,_]:=nU m1 q1 e1;exact A4!;let#[#[p2,ZG],e2,n1,n2,hd,r2]:=cY r2;let#[j,e3,r3]:=cY r2;let#[z1,z2,z3,vs,Y,h2]:=nU m2 bH! e2;cases z2;exact#[_,vs,u,z,ZG,j,χ,χ,Y,q2.mono x2.sub,h2.mono x2.sub,n1,n2,hd,e3,?_];exact Fw_ k _ r3 A5! (m2.write z3 #[_,cC,a9g j h2]) Aq.non⟩
end
def d0e:Dn! "dict"=ψ sJ!:=by decide+kernel
section
variable{X:Cx}{hb:List (Addr×Obj)}{Z:St}{G H:Hp}{M:Mh}{s:yY!}{e it l:yJ!}{vs:List V}{xs:List D}{E:Value->Shared->Prop}{Q:Value->Shared->Prop}
def a8e(hc:az!)(hu:aj_)(I:e_)(m:bH_)(sub:K_)(q:El X.K G l vs)(rl:sy_)(hl:j!<=1000)(he:Eg! IsEnum e it 0 .none)(ax:Fm! 0)(hf:sw!)(be:f8!)
  (k:∀p H' s',M p=υ->Ju_ H'->DE_ (JK_ p) G H'->K7! (JK_ p) H'->Q bb_ s'):JA_ (call sJ! [.ref e]):=by
 let yp:=I.fresh;exact callType_codes (Q₁:=λobj au=>obj=.ref k_/\au={s with heap:=s.heap.push {cls:=.type "dict",data:=.dict #[]}}) F.kt_called_dict (F.kt_typeCall_dict_1 _) F.entry_dict_init (kt_code_dict_new _ az_) ?_;rintro obj au ⟨rfl,rfl⟩;let D0:Ko_ 0:=qE_;let I1:oV_ dI! {s with heap:=s.heap.push {cls:=.type "dict",data:=.dict #[]}}:=by
  exact qF!;show"!^"
 let x0:DE_ if! G dI!:=.laid sub yp;let m0:yJ_ MR if! G dI!:=m.laid yp sub qF_;let u7:({s with heap:=s.heap.push {cls:=.type "dict",data:=.dict #[]}}:yY!).TypeIs bt_ "dict":=kO_;let yq:IsEnum lz_ e it 0 .none:=MC _ he;exact#[u7,F.args_dict_init_2 _ _,?_];exact LW ?_;exact ET_ TC u7;exact LZ ?_;exact ET_ XA (Ku_ yq);exact LW (b1e yq aV! λh' tk kp=>?_);exact LW fN_;let I2:oV_ dI! {s with heap:=h',toks:=tk}:=I1.kept kp;let nq:=kp _ _ yq;exact LW (UX nq (LZ #[TU a0i _,?_]));let fk:∀b∈c1_,D6! dI! b:=λb J=>by
  exact#[?_,(eZ!).2];let:b≠k_:=λz=>by
   subst z;simp![MD,ML,RF]at J;obtain z|z:=J
   .exact Ge_ he
   .let#[o,q1,_]:=ax;exact Ge_ q1
  rw[bB this];exact(eZ!).1
 let hit2:EN_ it 0:=by
  let#[o,q1,q2]:=ax;exact#[o,kp _ _ (MC _ q1),q2]
 exact c4c (A:=X.A.in1) hc aV! (by let:=iC X.A;let:=iC X.A.in1;omega) be (λsb=>sb.seq q) rl hl xs.length 0 0 _ _ _ a! bn! I2 m0 x0.sub mup_same fk (.inl #[_,nq]) hit2 λH4 s4 I4 x4 m4=>?_;let g9:Dy_ mup if! b5_=Dy_ mup M b5_:=by
  show"#5";split<;>rfl
 rw[g9]at x4 m4;exact#[χ,k _ H4 s4 (m.nocell yp) I4 (x0.trans x4 m0) m4]
variable{own:List Nat}{a:Expr}{pos ue p p2:Pos}{fa:WE}
def Xc(f:WE):WE:=λρ M R=>f ρ M λd M1=>match d with
 |.lst xs=>j!<=1000/\∀p,M1 p=υ->R B! sK_
 |_=>False
def b7e(hu:aj_)(hg:Gl X "dict")(hm:X.mg "dict"=υ)(xf:q1_)(xg:q0_)(hc:az!)(h:ak!)(hs:q1!:=by rfl)(ba:(backTo ue nv_).any d!=false:=by rfl)
  (bo:Dm! sL_=(θ,eval (Hf! sL! ue) X.env)::starEach [] X.env:=by rfl)(hpl2:B5!:=by rfl):
  ME X own (Hl_ "dict" sL_ [] pos) (Xc fa):=⟨by
 rintro hb s Z H Q I ⟨G,ρ,M,R,st,e,k⟩;exact GF_ d0e (PU ?_ bo hpl2);exact QY ?_;exact Call_ (iP I xf xg boot_enumerate (PU (Ey_ (dC h.ok eU hs ue hb s Z H (λvs H1=>∃v xs M1 G1,vs=[v]/\(j!<=1000/\∀p,M1 p=υ->R B! sK_)/\XM M G H M1 G1 H1/\MR X.prog X.w X.K M1 G1 H1/\Aq X.K G1 H! v) I sN!)) hs ba))
 .cases d<;>first|exact r1.elim|skip
  exact sN_
 subst q1;let#[l,ys,rfl,q,rl]:=bS rr;let#[u,rfl,ru]:=iT r1;subst ru;let#[its,rv,pl,hz]:=I1.list sP_;exact Fv! call_enumerate_list λh' he ax bj hk=>?_;let ig:∀b∈q2_,x!<=b:=λb J=>by
  simp![MD,ML,RF]at J;obtain rfl|rfl:=J<;>omega
 exact UA ?_;exact a8e hc hu (I1.kept hk) m1 x1.sub q rl t1.1 he ax (λb J=>I1.fpOk (ig b J) B6_) (XZ _) λp H' s' hp I2 x2 m2=>#[.ref p,H',I2,χ,k _ _ _ G1 H' (t1.2 p hp) cp! m2 Aq.fn]⟩
end
def KA:μ D->ι D
 |[.int i,.int j]=>Da_ (if j>i then j else i)
 |_=>υ
section
variable{X:Cx}{own:List Nat}{b:Expr}{es:List Expr}{pos p2:Pos}{fs:WA}{fb:WE}
def Tl(fs:WA)(fb:WE):WE:=λρ M R=>fs ρ M λds M1=>g_<=1000/\fb ρ M1 λy M2=>match y with
 |.int k=>Ck!/\R Cl! M2
 |_=>False
def a2c(ha:f0!)(J:cp_):Dk! Cl_ (Tl fs fb):=
 fD Cm_ λZ G H Q ρ M R st e k=>⟨G,ρ,M,_,st,e,λds M1 vs G1 H1 r1 x1 m1 q1=>⟨by rw[<-aL q1];exact fN r1.1,λp hp=>by
  let xj:Bs G1 H1 G1 Cn_:=a7j x1.sub hp;let hM:=IK! hp;exact Co!;cases y<;>first|exact r2.elim|skip
  rename_i n;obtain rfl:=bC q2;let#[#[hn,ip,hl],r2]:=r2;let yd:=x2.keep p _ cC hM;exact Co_;let ye:=DQ! Cp! x2 q8_;let xl:Bs G2 H2 (upd G2 c sQ!) (upd H2 c sQ!):=K6! x2.sub hc;exact Fw_ k _ r2 (ye.trans (.ext xl) m2) (m2.ext xl) (cJ (x2.sub.free hc) (vE bH! _))⟩⟩
end
end DL
namespace TX
open PySem Builtin.Str
def Qz(x:δ):μ cy_->μ cy_
 |w::ws=>(x::w)::ws
 |[]=>[[x]]
def Ni(p:i_):μ cy_->μ cy_
 |w::ws=>(p++w)::ws
 |[]=>[p]
def Gp(c:δ):δ->μ δ->μ cy_
 |_,[]=>[[]]
 |n,x::xs=>if x=c then(match n with|0=>Qz x (Gp c 0 xs)|m+1=>[]::Gp c m xs)else Qz x (Gp c n xs)
def Ij(c:δ):μ δ->δ->δ->μ δ
 |[],_,_=>[]
 |x::xs,i,n=>if x=c then(match n with|0=>Ih_ c 0|m+1=>i::Ih_ c m)else Ih_ c n
def rQ(c:δ):∀(xs:i_) (i:δ),Ij c xs i 0=[]
 |[],_=>rfl
 |x::xs,i=>by
  delta Ij;split<;>exact rQ c xs _
def b3a{c x m i:δ}(h:x=c):Ij c dh_ i c2_=i::Ih_ c m:=by
 conv=>lhs;unfold Ij
 rw[MM h]
def b2z{c x n i:δ}(h:¬x=c):Ij c dh_ i n=Ih_ c n:=by
 conv=>lhs;unfold Ij
 rw[MY h]
def c4s(c:δ):∀(n:δ) (xs:i_),Gp c n xs≠[]
 |_,[]=>by simp[Gp]
 |n,x::xs=>by
  delta Gp;let h:∀l,Qz x l≠[]:=λl=>by cases l<;>simp[Qz]
  split
  .split
   .exact h _
   .simp
  .exact h _
def a0m{l:bK!}(h:l≠[]):Ni [] l=l:=by
 cases l with
 |nil=>exact Dl! h
 |cons w ws=>rfl
def b4s(p:i_)(x:δ)(l:bK!):Ni (p++[x]) l=Ni p (Qz x l):=by cases l<;>simp[Ni,Qz]
def b5h(s:Str)(c i:δ)(h:i<F!):Gx_ s=decide (a8_[i]?=ψ c):=by
 let hs:i<s.cps.size:=h;let e:s.cps.extract i w_=[s.cps[i]].toArray:=by
  apply Array.ext
  .simp;omega
  .intro j Y h2;simp at h2;subst h2;simp
 delta subAt;let hl:(da!).length=1:=χ;rw[hl,e];let e2:a8_[i]?=ψ s.cps[i]:=by simp[hs]
 rw[e2];by_cases hc:s.cps[i]=c
 .simp[hc]
 .simp[hc]
def mY(s:Str)(c ak:δ):∀(n i:δ) (bn:mO!) (free:δ),i+n=F!+1->free<=i->bn.size<=ak->
  (forIn (m:=Id) (List.range' i n) (bn,free) (StrLaws.occBody s H_ s.length ak)).run.fst.toList=bn.toList++Ij c sU! i (ak - bn.size)
 |0,i,bn,free,h,hf,hs=>by
  let:E4_ i=[]:=by
   apply SG;let:b7!=F!:=by simp[Str.length]
   omega
  rw[this];simp[Ij]
 |n+1,i,bn,free,h,hf,hs=>by
  let hl:b7!=F!:=by simp[Str.length]
  rw[List.range'_succ,UI];by_cases hi:i<F!
  .let hd:E4_ i=a8_[i]' a!::s.cps.toList.drop w_:=QR a!;let hg:a8_[i]?=ψ (a8_[i]' a!):=by simp
   let sv:=b5h s c i hi;rw[hd];by_cases hc:a8_[i]' a!=c
   .let bp:Gx_ s=true:=by rw[sv,hg,hc];simp
    by_cases qc:bn.size<ak
    .let cond:sU_/\Gx_ s=true:=#[#[#[qc,hf],by show i+1<=_;omega],bp];let ih:=mY s c ak n w_ (bn.push i) w_ a! u! (EB! YK);delta StrLaws.occBody;rw[MM cond];delta StrLaws.occBody at ih;exact Eq.trans ih ?_;rw[YK,Array.toList_push];obtain⟨m,hm⟩:∃m,ak - bn.size=m+1:=#[ak - bn.size - 1,o_];rw[hm,show ak - (bn.size+1)=m by omega,b3a hc];simp
    .let cond:¬mQ!:=λz=>qc z.1.1.1;show"!3";rw[show ak - bn.size=0 by omega,rQ,rQ]
   .let bp:¬Gx_ s=true:=by
     rw[sv,hg];intro z;exact hc (OF (PB z))
    let cond:¬mQ!:=λz=>bp z.2;show"!3";rw[b2z hc]
  .let hd:E4_ i=[]:=SG a!;let cond:¬mQ!:=λz=>by let:=z.1.2;let e:(da!).length=1:=χ;omega
   show"!3";let m9:E4_ w_=[]:=SG a!;rw[hd,m9];simp[Ij]
def b3n(s:Str)(c ak:δ):EO! ak=Ij c s.cps.toList 0 ak:=by rw[StrLaws.occ_eq];let:=mY s c ak (F!+1) 0 #[] 0 a! u! bn!;simpa using this
def Mj(cs:i_)(start:δ)(uf:i_):μ cy_:=((start::uf.map (·+1)).zip (uf++[aQ!])).map λ(i,j)=>(cs.drop i).take dX_
def a9o(cs:i_)(start:δ):Ii! Mj []=[(gx!).take (aQ! - start)]:=χ
def a5m(cs:i_)(start i:δ)(uf:i_):Ii! Mj (i::uf)=(gx!).take gy!::Mj cs w_ uf:=χ
def oB(c:δ)(cs:i_):∀(ys:i_) (i start n:δ),cs.drop i=ys->i<=aQ!->start<=i->Ii! Mj (Ij c ys i n)=Ni ((gx!).take gy!) (Gp c n ys)
 |[],i,start,n,h,hi,hs=>by
  let hl:aQ!<=i:=by
   show"#K"
  let e:i=aQ!:=by omega
  subst e;simp[Ij,a9o,Gp,Ni]
 |y::ys,i,start,n,h,hi,hs=>by
  let ar:i<aQ!:=by
   show"#K"
  let h':cs.drop w_=ys:=by
   rw[<-List.tail_drop,h];rfl
  let hy:cs[i]?=ψ y:=by
   let:=Dp! (λl=>l[0]?) h;simpa using this
  let step:(gx!).take (i+1 - start)=(gx!).take gy!++[y]:=by
   let e:i+1 - start=gy!+1:=by omega
   rw[e,List.take_add_one];congr 1;rw[VI,show start+gy!=i by omega,hy];rfl
  delta Ij Gp;by_cases hc:y=c
  .rw[MM hc,MM hc];cases n with
   |zero=>
    let ih:=Gp! start 0 a!;show Ii! Mj (Ij c ys w_ 0)=Ni _ (Qz y (Gp c 0 ys));rw[ih,step,b4s]
   |succ m=>
    let ih:=Gp! w_ m u!;show Ii! Mj (i::Ij c ys w_ m)=Ni _ ([]::Gp c m ys);rw[a5m,ih,Nat.sub_self,List.take_zero,a0m (c4s c m ys)];simp[Ni]
  .rw[MY hc,MY hc];let ih:=Gp! start n a!;rw[ih,step,b4s]
nonrec def mk(w:i_):Str:=#[w.toArray]
def b5z(s:Str)(c ak:δ):partsBetween s (EO! ak) 1=(Gp c ak a8_).map mk:=by
 let h:=oB c s.cps.toList s.cps.toList 0 0 ak χ bn! u!;rw[Nat.sub_self,List.take_zero,a0m (c4s c ak _)]at h;rw[<-h,b3n];delta partsBetween Mj;simp![NY];let hl:b7!=F!:=by simp[Str.length]
 rw[hl];apply OQ;rintro⟨i,j⟩ _;show strSub s i j=mk ((sU!).take dX_);delta strSub mk;congr 1;apply UV.mp;simp[List.extract_eq_drop_take]
nonrec def joinL(c:δ):μ cy_->μ δ
 |[]=>[]
 |[w]=>w
 |w::ws=>w++c::joinL c ws
def gF{c:δ}{w:i_}(h:ws≠[]):joinL c (w::ws)=w++c::joinL c ws:=by
 cases ws with
 |nil=>exact Dl! h
 |cons v vs=>rfl
def a0d(c:δ):∀(ws:bK!) (σ:mO!),F5! mS! da!=σ++(sY!).flatten.toArray
 |[],σ=>by simp
 |w::ws,σ=>by
  rw[MO,RU,a0d c ws];apply UV.mp;simp[mk]
def wQ(c:δ):∀(w:i_) (ws:bK!),joinL c (w::ws)=w++(sY!).flatten
 |w,[]=>by simp[joinL]
 |w,v::vs=>by
  rw[dV_,wQ c v vs];simp
def c8j(c:δ)(ws:bK!):Txt.join H_ mS!=mk iR!:=by
 delta Txt.join glued;cases ws with
 |nil=>rfl
 |cons w ws=>
  simp![MO,WY,WO,List.headD_cons];rw[a0d,wQ];delta mk;congr 1;apply UV.mp;simp
def a7w{c:δ}:∀{w:i_} (n:δ),c∉w->Gp c n w=[w]
 |[],n,_=>by simp[Gp]
 |x::w,n,h=>by
  simp![MD,UZ]at h;delta Gp;rw[sY_,a7w n h.2];rfl
def a7s{c:δ}:∀(w:i_),Gp c 0 w=[w]
 |[]=>by simp[Gp]
 |x::w=>by
  delta Gp;let ih:=a7s (c:=c) w;by_cases hc:x=c
  .rw[MM hc,ih];rfl
  .rw[MY hc,ih];rfl
def c4t{c n:δ}:∀{w:i_} (ys:i_),c∉w->Gp c bm! (w++c::ys)=w::Gp c n ys
 |[],ys,_=>by
  show Gp c bm! (c::ys)=_
  conv=>lhs;unfold Gp
  rw[y!]
 |x::w,ys,h=>by
  simp![MD,UZ]at h;show Gp c bm! (x::(w++c::ys))=_
  conv=>lhs;unfold Gp
  rw[sY_,c4t ys h.2];rfl
def a7u{c:δ}:∀(pre:bK!) (last:i_) (n:δ),(∀w∈pre,c∉w)->dW!<=n->(c∉last\/dW!=n)->Gp c n mT_=pre++dW_
 |[],last,n,_,_,hl=>by
  show Gp c n last=dW_;obtain h|h:=hl
  .exact a7w n h
  .let e:n=0:=h.symm;subst e;exact a7s last
 |w::pre,last,n,hp,hn,hl=>by
  obtain⟨m,rfl⟩:∃m,n=m+1:=#[n - 1,by simp at hn;omega];rw[QW,dV_,c4t _ (hp w MB),a7u pre last m (λv hv=>hp v (LY _ hv)) (by simp at hn;omega) (hl.imp id λz=>by simp at z;omega)]
def uX{c ak:δ}{pre:bK!}(hp:∀w∈pre,c∉w)(hn:dW!<=ak)(hl:c∉last\/dW!=ak)(hc:c<256):
  DL.Iz gz_ H_ ak=(aA!).map mk:=by
 let yr:=a7u pre last ak hp hn hl;let yt:=b5z gz_ c ak;let e1:(gz_).cps.toList=joinL c aA!:=by simp[mk]
 rw[e1,yr]at yt;let hone:(da!).length=1:=χ;delta DL.Iz;rw[hone];split
 .rename_i h;let hk:strKind da!=1:=by
   delta Builtin.Str.strKind;simp[hc]
  rw[Bool.or_eq_true,NS,NS,hk]at h;let ZT:1<=strKind gz_:=by
   delta Builtin.Str.strKind;split
   .exact MZ _
   .split<;>decide
  let h0:(gz_).length<1:=by
   obtain h|h:=h
   .exact h
   .omega
  let hj:joinL c aA!=[]:=by
   let:(mT_).length<1:=by simpa[mk,Str.length]using h0
   exact List.eq_nil_of_length_eq_zero a!
  rw[hj]at yr;let:pre++dW_=[[]]:=by rw[<-yr];simp[Gp]
  rw[this];rfl
 .split
  .rename_i h;rw[List.isEmpty_iff]at h;rw[<-yt,h];delta partsBetween;simp[strSub,mk,Str.length]
  .exact yt
def d4q(s:Str)(c:δ):(!(EO! 1).isEmpty)=decide (c∈a8_):=by
 rw[b3n];generalize a8_=xs;let:∀(xs:i_) (i:Nat),(!(Ij c xs i 1).isEmpty)=decide (c∈xs):=by
  intro xs
  induction xs with
  |nil=>intro i;simp[Ij]
  |cons x xs ih=>
   intro i;by_cases hc:x=c
   .rw[b3a hc];simp[hc]
   .rw[b2z hc,ih];simp[show¬c=x from λz=>hc z.symm]
 exact this xs 0
open NumText PyProof.Rows PySem.W
nonrec def intC(i:Int):μ Nat:=(BS_ d4!).cps.toList
def c7w(i:Int):mk aJ!=Str.ofString d4!:=by delta mk intC;simp
def Ny(m:δ):μ Nat:=(Nat.toDigits 10 m).map Char.toNat
def qQ(m:δ):intC (m:Int)=Ny m:=KIN.signs_num m
def qP(m:δ):intC s3!=45::Ny c2_:=by delta intC Ny;rw[signs_ofString];show("-"++Nat.repr c2_).toList.map Char.toNat=_;rw[String.toList_append,NM,Nat.toList_repr];rfl
def iL(m:δ):AllDigits (Ny m):=by intro c hc;let#[ch,ik,e]:=NC.mp hc;let r:=digit_range (Nat.isDigit_of_mem_toDigits a_ a_ ik);rw[<-e];exact r
def tX(m:δ):Ny m≠[]:=by intro e;let h:=toDigits_len_ge 10 m;rw[List.map_eq_nil_iff.mp e]at h;exact ξ h a_
def a5z{m:δ}(h:m<10 ^ 61):(Ny m).length<=61:=by delta Ny;rw[MJ];exact toDigits_len_pow a_ a_ h
def a5y(m:δ):digitsVal (Ny m)=m:=KIN.val_back m
def b0q(i:Int):∀c∈intC i,c=45\/(48<=c/\c<=57):=by
 intro c hc;cases i with
 |ofNat m=>
  let hc:c∈Ny m:=by rw[<-qQ];exact hc
  exact .inr (iL m c hc)
 |negSucc m=>
  rw[qP]at hc;obtain rfl|hc:=MD.mp hc
  .exact cu!
  .exact .inr (iL _ c hc)
def fY{i:Int}(h:e0_):(aJ!).length<=62:=by
 cases i with
 |ofNat m=>
  let:=a5z (m:=m) h;rw[s5!];omega
 |negSucc m=>
  let:=a5z (m:=m+1) h;rw[qP,MX];omega
def c8r(i:Int):intC i≠[]/\intC i≠[45]:=by
 cases i with
 |ofNat m=>
  rw[s5!];exact#[tX m,iT!];let:=iL m 45 lh_;omega
 |negSucc m=>
  rw[qP];exact#[Q!,iT!];simp![QJ,true_and]at e;exact tX _ e
def d4p{i:Int}(h:e0_):FO_ dY_=ψ i:=by
 let hl:=fY h;let ao:(dY_).length<=4300:=by
  let:(dY_).length=(aJ!).length:=by simp[mk,Str.length]
  omega
 let e1:(dY_).cps.toList=intC i:=by simp[mk]
 cases i with
 |ofNat m=>
  let e2:intC mV_=Ny m:=qQ m;let:=intText_digits (x:=mk (intC mV_)) (I9_ iL) (I9_ tX) ao;rw[e1,e2,a5y]at this;rw[e2];show"#E"
 |negSucc m=>
  let e2:=qP m;let:=intText_neg (x:=mk (intC s3!)) (cs:=Ny c2_) (by rw[e1,e2]) (iL _) (tX _) ao;rw[a5y]at this;rw[this];rfl
end TX
namespace DL
open PySem PySem.Spec PyProof.Rows L2
def c7d(l:i_)(a:δ):∀m:Nat,((Ee! m).map λk=>a+k).filterMap (λk=>l[k]?)=(l.drop a).take m:=λm=>by
 induction m with
 |zero=>rfl
 |succ m ih=>
  rw[List.range_succ,NM,List.filterMap_append,ih,List.take_succ,VI];cases e:l[a+m]?<;>simp[e]
def c8k{i j n:δ}(h:i<=j):Ej_ s5_ n=(Ee! (min j n - min i n)).map λk=>min i n+k:=by
 rw[<-StrLaws.strSliceIndices_plain (len:=n) a! a!];delta Builtin.Str.strSliceIndices;let e:∀k:Nat,max (0:Int) (min (if(k:Int)<0 then(k:Int)+n else k) n)=max 0 (min (if mX!<0 then mX!+n else mX!) n):=λk=>by
  rw[d9_,d9_];omega
 simp![jB!,PL];rw[e i,e j]
def a4q{i j:δ}(h:i<=j):Gf! z s5_=#[((mX_).take dX_).toArray]:=by
 let hl:S!=nU_:=by rfl
 let e:((z.cps.toList.drop (min i S!)).take (min j S! - min i S!))=(mX_).take dX_:=by
  rw[hl];generalize z.cps.toList=l;obtain c|c:=Nat.le_total i S_
  .rw[WH c];obtain d|d:=Nat.le_total j S_
   .rw[WH d]
   .rw[Nat.min_eq_right d,s7!,s7!]
  .rw[Nat.min_eq_right c,SG u!,SG c,List.take_nil,List.take_nil]
 delta Txt.slice;rw[c8k h];split
 .rename_i c;simp![OH,UJ,PP,MJ,PX]at c;let h0:min i S!=0:=by omega
  rw[<-e,c,h0,WO,hl,List.take_length]
 .rw[<-e,<-c7d];congr 2;exact congrArg (λf=>List.filterMap f _) (funext λk=>?_);simp
def c6e{i:δ}:Gf! z υ=#[(mX_).toArray]:=by
 let hl:S!=nU_:=by rfl
 let e:Gf! z υ=Gf! z s9!:=by
  delta Txt.slice;let e2:Ej_ υ S!=Ej_ s9! S!:=by
   delta Builtin.Str.strSliceIndices;simp![jB!,PL];congr 1;rw[d9_];omega
  rw[e2]
 rw[e,a4q (Nat.le_max_left _ _),RH (by rw[SE,<-hl];omega)]
section
variable{X:Cx}{own:List Nat}{a:Expr}{te:TE}{tl th:TO}{pos p2:Pos}{fa:Ae->Option D}{ol oh:Ae->Option (Option Int)}{lo hi:Option Expr}
def IQ:V->Dl_ Int->Dl_ Int->Hp->VK->Prop:=λx lo hi H Q=>∃z i,x=.str z/\lo=ψ i/\S!<=sizeLine/\Q (.str s9_) H
def b5y(he:PE X a te)(hl:PO X lo tl)(hu:PO X hi th):PE X o1_ (JV IQ te tl th):=by
 intro hb s Z H Q I h;exact HQ! c9_;rintro v s1 ⟨x,H1,I1,r1,q1⟩;exact wpAny_Slice uF_;rintro vu s3 ⟨u,H3,I3,pu,q3⟩;rw[evalPart_none];exact LZ ?_;let#[z,i,rfl,rfl,hz,q]:=q3;let#[t,rfl]:=r1;cases pl;let kp:KeptH λh=>oV_ H3 {s3 with heap:=h}:=λh ob p=>p.kept λb u q=>MC _ q;let fin:∀(h':Heap) (t':Tok) (k:δ),oV_ H3 {s3 with heap:=h'}->DR_ (.str (Txt.slice z jx! u) t') {s3 with heap:=h',toks:=k}:=λh' t' k p=>#[.str _,H3,p.tok k,A_,q];cases pu with
 |none=>
  let#[T,id,hT,ht,hg]:=PySem.SBH.sliceItem_sn kp I3 fin hz;exact tail_any ht hT hg nM_
 |int j tj=>
  let#[T,id,hT,ht,hg]:=PySem.SBH.sliceItem_ss kp I3 fin hz;exact tail_any ht hT hg nM_
def AF(z:Str)(i:Int)(hi:aB_):ι D:=if 0<=i/\S!<=big then(match hi with
 |none=>Et! #[(tb!).toArray]
 |some j=>if i<=j then Et! #[((tb!).take (j.toNat - i.toNat)).toArray] else υ)else υ
def c9z{hi:aB_}(h:AF z i hi=ψ d):d=.str s9_/\S!<=big:=by
 delta AF at h;split at h
 .rename_i c;obtain⟨n,hn⟩:∃n:Nat,(n:Int)=i:=#[i.toNat,o_];subst hn;exact#[?_,c.2];cases hi with
  |none=>rw[c6e];exact(OF h).symm
  |some j=>
   let h:(if(n:Int)<=j then ψ (D.str #[((z.cps.toList.drop ((n:Int)).toNat).take (j.toNat - ((n:Int)).toNat)).toArray])else υ)=ψ d:=h;split at h
   .rename_i c2;obtain⟨m,hm⟩:∃m:Nat,(m:Int)=j:=#[j.toNat,o_];subst hm;rw[a4q a!];exact(OF h).symm
   .rcases h
 .rcases h
def Zg(d:D)(l h:aB_):ι D:=match d,l with
 |.str z,some i=>AF z i h
 |_,_=>υ
def Uz(f:n_)(ol oh:oZ!):Ae->ι D:=λρ=>(aj!).bind λd=>(ol ρ).bind λl=>(oh ρ).bind λh=>Zg d l h
def b7w(ha:I!)(hl:xv!)(hh:xv_):De! o1_ (Uz fa ol oh):=
 eG (b5y ha.ok hl hh) λZ G H Q ρ d er e k=>by
  show"!6";show"!E";delta Zg at e;show"!7"
  .obtain rfl:=bP r3;let#[c1,c2]:=c9z e;rw[c1]at k;exact#[_,_,χ,χ,NR c2 c_,k _ _ _ s4 Aq.str]
  .rcases e
end
section
variable{own:List Nat}
def BB:V->μ V->Hp->VK->Prop:=λx vs H Q=>∃(z y:Str),x=.str z/\vs=[.str y]/\Q te_ H
def b6w:GP X "str.startswith" BB:=by intro hb s Z H x xs v us Q I rx r h;let#[z,y,rfl,rfl,q]:=h;let#[t,rfl]:=rx;let#[u,rfl,t',rfl]:=iT r;exact SC.startswith hG!
def Xd:D->D->ι D
 |.str z,.str y=>ψ te_
 |_,_=>υ
def Pp(fo fa:n_):Ae->ι D:=λρ=>(kL_).bind λx=>(cf_).bind λy=>Xd x y
def b7t(ho:kM!)(ha:I!)
  (cy:JB_ "startswith"=Dq_ o:=by rfl)
  (cz:(EL_ fL_&&DY_ bg_
   &&decide fM!)=true:=by rfl)
  (c8:bO!:=by rfl) (hs:em_:=by rfl) (b9:dw!:=by rfl):
  DE X own (Jo_ (D7_ o "startswith") [a]) (Pp fo fa):=
 eG (oS SF PySem.F.slot_str_startswith PySem.F.type_str_startswith b6w ho.ok kM_ cy cz c8 hs b9) λZ G H Q ρ d er e k=>by
  show"!@";delta Xd at e;show"!7"
  .show"!M";exact#[_,_,χ,χ,k _ _ _ bT! Aq.bl]
  .cases e
end
def a7n{n:δ}{St:gw!}(D:Draws prog w A it fp n P St)(k:δ):
  Draws prog w A it fp (n+k) (λi v=>∃j,i=j+k/\P j v) (λi h=>∃j,i=j+k/\St j h) where
 live:=λi h ⟨j,_,st⟩=>D.live j h st
 frame:=λi h h' ⟨j,e,st⟩ hk=>#[j,e,D.frame j h h' st hk]
 item:=λi s Q E hi ⟨j,e,st⟩ hQ=>by
  subst e;exact D.item j s Q E a! st λx h' tk hp ab sb=>hQ x h' tk #[j,χ,hp] #[j+1,o_,ab] sb
 done:=λs Q E ⟨j,e,st⟩ hE=>by
  let:j=n:=by omega
  subst this;exact D.done s Q E st hE
def JL(K:zE!)(l:yJ!)(k:δ):It:=
 #[λi H=>∃xs x,El K H l xs/\xs[i]?=ψ x,λi H v H'=>∃T x,v=.ref T/\H T=υ/\(∀xs,El K H l xs->xs[i]?=ψ x)/\H'=Hb_ T [.int iX_,x],λi H=>∃xs,El K H l xs/\j!=i]
def a8v{K:zE!}{n1 k:δ}(jg:f8!)(vp:e≠l)(yu:l≠it):
  Re P w K dA_ (JL K l k) c1_ e (λi h=>(∃ah,IsEnum h e it iX_ ah)/\h.IsListIter it l i) where
 mem:=by simp
 obj:=λi h st b J=>by
  simp![MD,ML,RF]at J;let#[#[ah,s1],s2]:=st;obtain rfl|rfl:=J
  .exact BZ_
  .let#[o,e,c,d]:=s2;exact gw_
 keep:=λi h h' st hk=>by
  let#[#[ah,s1],s2]:=st;exact#[#[ah,hk e c! _ s1],s2.at λo q=>hk it c! o q]
 item:=by
  intro X hP hw hK hc i hb s Z H E I hf st hg;subst hP hw hK;let hh:=I.ok.hd hc;let#[xs,x,hq,hx]:=hg;let#[its,rv,p,hz]:=EK_ hq;let#[u,hu,ru]:=rv.get hx;let ar:=(NH.mp hu).1;let D:=Draws.list (prog:=X.prog) (w:=X.w) (A:=X.A.in1) hh it l yu an_;let W:=G0_ (a7n D k) tj_;exact Iy! (i+k) qe! (Ii_ i) λT u9 h' tk hP hT yb hm kp=>EW! (i+k);let#[t,y,#[j,hj,hy],rfl]:=hP;obtain rfl:i=j:=by omega
  obtain rfl:u=y:=by
   let:its[i]?=ψ y:=by simpa using hy
   rw[hu]at this;cases this;rfl
  let I1:oV_ H {s with heap:=h2,toks:=tk}:=gM I hf λc o hc eo=>d9 c o hc B0_;let tu:=W.apart (i+k) T _ hm;let eT:h2.IsTuple T [.int iX_ t,u].toArray:=by
   let#[o,eo,r]:=yb;exact B1!
  let I2:=b8t (xs:=[.int iX_,x]) I I1 hT eT (.cons cF_ n7!) B1_;let#[#[ah,z1],j',ox,z2,_]:=bt;obtain rfl:j'=i+1:=by omega
  exact#[.ref T,_,I2,χ,#[T,x,χ,B2!,sV_,χ],#[#[ah,?_],z2],bt!]
  .rw[show i+1+k=i+k+1 by omega];exact z1
  .rw[B2_];exact(eZ!).1
 done:=by
  intro X hP hw hK hc i hb s Z H E I hf st hg;subst hP hw hK;let hh:=I.ok.hd hc;let#[xs,hq,rfl]:=hg;let#[its,rv,p,hz]:=EK_ hq;let hl:=da_;let D:=Draws.list (prog:=X.prog) (w:=X.w) (A:=X.A.in1) hh it l yu an_;let W:=G0_ (a7n D k) tj_;let ab:(∃ah,IsEnum s.heap e it ((be_+k:δ):Int) ah)/\∃j,be_+k=j+k/\Fm! j/\H9_ l an_:=by
   rw[show its.toArray.size=xs.length by simp[hl]];exact Ii_ _
  exact W.done s _ _ ab λh' tk kp=>B3!
 self:=λA i s Q E st h=>by
  let#[#[ah,s1],_]:=st;exact UX s1 h
end DL
namespace WR
open PySem
open AutoSeq1 (wpAny_loadPart')
def b6u(l:yJ!)(ag:bp!)(n:δ)(dct:do_)(sl:jT!)(k:Int)(t:Tok)(hk:tk_):
  Meets (Builtin.«enumerate.__new__» m5!) (λ_ R s=>yY_ l=ψ {cls:=.type "list",dict:=dct,data:=G8_ ag,slots:=sl}/\
   R (Ku! d2!)
    {s with heap:=(d2!).push {cls:=.type "enumerate",data:=Dh_ k}}):=
 .of_wp λprog w A R s h=>by
  show"!W";let#[hl,h]:=h;let sv:=sub_enumerate;let hL:Heap.IsList (Shared.heap im_) l ag:=HC_ hl n
  wp_walk using PZ hl
  exact wpAny_stack_any λst=>LZ ?_;split
  .rename_i c _ _ _ _ _;cases (c==Value.type "enumerate")
   .wp_walk using PZ hl,TQ hL
    exact hS!
   .wp_walk using PZ hl,TQ hL
    exact hS!
  .wp_walk using PZ hl,TQ hL
   exact hS!
def a4k(l:yJ!)(k:Int)(t:Tok):checkTypeCall "enumerate" #[[b3!],e3!]=pure ():=by delta checkTypeCall;kernel_rfl
def a6d(l:yJ!)(k:Int)(t:Tok):checkBuiltinCall "enumerate.__new__" m5!=pure ():=by delta checkBuiltinCall;kernel_rfl
def a7a(obj:yL!)(l:yJ!)(k:Int)(t:Tok):argsOk "object.__init__" #[[obj,b3!],e3!]:=by delta argsOk;kernel_rfl
def b0r(self:yL!)(l:yJ!)(k:Int)(t:Tok):Meets (Builtin.«object.__init__» #[[self,b3!],e3!]) (λ_ R s=>s.TypeIs self "enumerate"/\R mC! s):=by
 exact Meets.of_wp λprog w A R s hs=>?_;let#[hT,hq]:=hs;let hl:=YH.init.lookup;let hm:=YH.made
 repeat (any_goals (first|assumption|wp_step))
 exact rv!
def call_enumK{s:yY!}{k:Int}(hL:iE_)(hk:tk_)
  (h:∀h',IsEnum h' Z_ s.heap.objs.size k .none->EN_ s.heap.objs.size 0->mo_->Q fP! {s with heap:=h'}):
  wpAny n! A (call gq_ [b3!] e3!) Q E s:=by
 let#[#[c,dct,dt,sl],hl,hc,n,hd]:=hL
 replace hc:c=.type "list":=hc
 replace hd:dt=G8_ ag:=hd
 subst hc hd;let ft:=YH;let#[c,tl,hmro]:=ft.mro;let hmade:=ft.made;let sv:=ft.sub;let h2:=ft.canCreate;let hct:=a4k l k t;exact wpAny_call (codeAny_of_tree ?_);show Ds! (callAny gq_ _) _;exact LZ #[Code.quiet_builtin _ c_,TH F.entry_type_call ?_];rw[Around.under_plain (weight_type_call_type _ _ _) (units_type_call_type _ _ _)]
 repeat (any_goals (first|assumption|wp_step))
 obtain⟨R0,ZU⟩:∃R0:Result->Shared->Prop,R0=λr au=>r=E3! (.ref (s.heap.push {cls:=.type "list_iterator",data:=.fields [.ref l,.int 0 0].toArray}).objs.size)/\au={s with heap:=(d2!).push {cls:=.type "enumerate",data:=Dh_ k}}:=A_
 let hN:Gp_ "enumerate.__new__" m5! R0 s:=
  codeAny_call_builtin ft.plain F.entry_enumerate_new (wpAny_of_eq (a6d l k t) (b6u l ag n dct sl k t hk prog w A.in1 R0 s #[hl,by rw[ZU];exact az_]))
 exact VA hN λr au hr=>?_;rw[ZU]at hr;let#[rfl,rfl]:=hr;let hz:(d2!).objs.size=k_+1:=RX ..;rw[hz];let he:IsEnum ((d2!).push
   {cls:=.type "enumerate",data:=Dh_ k}) Z_ s.heap.objs.size k .none:=by
  let:=NI d2!
   (o:={cls:=.type "enumerate",data:=Dh_ k}) χ
  rw[hz]at this;show"#E"
 let hq:=h _ he #[_,MC _ hQ_,rfl,rfl] λb o x=>MC _ (MC _ x);generalize hh:(d2!).push {cls:=.type "enumerate",data:=.fields [.none,.bool false,.ref k_,rawInt k,.none,.none].toArray}=h9 at he hq ⊢;let hT:({s with heap:=h9}:yY!).TypeIs fP! "enumerate":=my!;let yu:=ft.init.lookup;let vq:=ft.init.bind fP!
 repeat (any_goals (first|assumption|wp_step))
 obtain⟨R1,ZV⟩:∃R1:Result->Shared->Prop,R1=λr av=>r=.ok (.ret .none)/\av={s with heap:=h9}:=A_
 let hI:Gp_ "object.__init__" #[[.ref Z_,b3!],e3!] R1 {s with heap:=h9}:=
  codeAny_call_builtin ft.init.plain F.entry_object_init (Fw_ ft.init.check _ _ _ _ hT (a7a _ l k t) (b0r fP! l k t prog w A.in1 R1 {s with heap:=h9} #[hT,by rw[ZV];exact az_]))
 exact VA hI λr₂ av ZW=>?_;rw[ZV]at ZW;let#[rfl,rfl]:=ZW
 repeat (any_goals (first|assumption|wp_step))
open PyProof.Rows
def callWith_typeK
  (h:DW_ M (spliced m9_) (λvs au=>DW_ M (evalAll (Ex! gC!))
   (λh1 av=>DW_ M (call cD_ vs (((gC!).filterMap d!).zip h1)) Q E av) E au) E s)
  (he:JO_ tp!=(θ,eval e env)::JO_ (F0! env))(b9:(m9_).any d!=θ)
  (i':(gC!).all (·.1.isSome)=τ)(hkw:(gC!).any (·.1.isNone)=θ):
  wpAny M A (callWith pos cD_ [] m9_ gC!) Q E s:=by
 delta callWith;exact LW (OJ (?_:wpAny M A (evalArgs cD_ τ _ _) _ _ s));rw[he]at h ⊢;exact evalArgs_kwB i' (PH h (λvs s1 Y=>PH Y (λh1 s2 h2=>LW (VL ?_)) λ_ _ x=>x) λ_ _ x=>x);rw[he]at b9;simp![b9,hkw,VX];exact LW Y_;exact LW (PH h2 (λr av hr=>LW (OJ (wpAny_point (LZ hr)))) λ_ _ x=>x)
end WR
namespace DL
open PySem PySem.Spec PyProof.Rows L2
section
variable{own:List Nat}{n1:Nat}{pos p tp p3 kp:Pos}
def Wy(k:δ)(f:WE):WI:=λρ M T=>f ρ M λd M1=>match d with
 |.lst xs=>T ts_ N! M1
 |_=>False
def d3y(hg:q1_)(hm:q0_)(h:ak!)(k:δ)(hk:Builtin.SmallTypes.fitsIndex (k:Int)=τ)(hs:q1!:=by rfl)(ba:(JO_ yG_).any d!=false:=by rfl):
  MI X own dA_ (.Call B4_ [a] [#[ψ "start",.Constant (.int (k:Int)) cj p3,kp]] pos) (Wy k fa):=⟨by
 intro hb s Z H R I ⟨G,ρ,M,T,st,e,k'⟩;exact QO (Kc_ (WR.callWith_typeK (Ey_ (dC h.ok eU hs pos hb s Z H (λvs H1=>∃v xs M1 G1,vs=[v]/\T ts_ N! M1/\XM M G H M1 G1 H1/\MR X.prog X.w X.K M1 G1 H1/\Aq X.K G1 H! v) I sN!)) (FF_ hs) ba χ χ))
 .cases d<;>first|exact r1.elim|skip
  exact sN_
 subst q1;let#[l,ys,rfl,q,rl]:=bS rr;let#[u,rfl,ru]:=iT r1;cases ru;exact kws_cons (YE l8_);let ZX:=I1.tok (s1.toks+1);let#[its,rv,pl,hz]:=ZX.list sP_;exact Fv! WR.call_enumK hk λh' he ax cm=>?_;exact UX he ?_;let ig:∀b∈q2_,x!<=b:=λb J=>by
  simp![MD,ML,RF]at J;obtain rfl|rfl:=J<;>omega
 let ub:l<x!:=by let#[o,n,z,_]:=pl;exact NN z
 exact#[_,_,_,_,H1,χ,ZX.kept cm,a8v (XZ _) (RL (UO ub)) (NX ub),#[#[_,by rw[UB];exact he],ax],B6!,k' _ _ M1 _ G1 H1 t1 x1 m1 ?_];intro i M' G' H' g1 g2 m' _;let hl:=aL rl;let q':El X.K H' l ys:=g2.seq (g1.seq q);exact#[du_,λhi=>#[ys,q',by rw[MJ,VH]at hi;omega]];rw[OC,WL]at hd;let#[q2,j7,rfl]:=MQ.mp hd;let#[c,hc,rfl]:=MQ.mp j7;let#[v,gv,rv']:=fX rl hc;exact#[#[ys,v,q',gv],fB_];let#[T',x',rfl,hT,ii,rfl]:=hy;let:=ii ys q';rw[gv]at this;cases this;exact Jp_ (rv'.mono g1);rw[UB];exact Aq.int⟩
end
def CS(s1:Str)(fa:n_):Ae->ι D:=λρ=>(cf_).bind λx=>match x with
 |.int i=>if dd!<1920/\(tv!).length<=big then Et! tv! else υ
 |_=>υ
def c9t{own:i_}(ha:I!):De! (.JoinedStr [.Constant (.str s1) j1 q1,.FormattedValue a (-1) υ q2] pos) (CS s1 fa):=⟨λhb s Z H Q I ⟨G,ρ,d,er,e,k⟩=>by
 let#[x,e1,e]:=LX.mp e;cases x<;>first|(cases e;done)|skip
 rename_i i;simp only at e;show"!7"
 .rename_i h;cases e;let#[Y,h3]:=h;let h4:=NR h3 ku_;simp![strLen_append]at h4;exact JoinedStr_many (joinParts_cons (Calls.Constant_str #[by rw[Str.empty_append];omega,?_]));rw[Str.empty_append];exact joinParts_cons (c9e ha i9_ er e1 Y λG1 H1 s' t x1 I1=>#[by simp![strLen_append];omega,?_]);exact joinParts_nil ?_ (by simp![strLen_append];omega);exact#[.str _,H1,(I1.tok _),A_,k _ G1 H1 x1 Aq.str]
 .cases e⟩
def xF{own:i_}{x i:Str}(hm:∃t,X.mg x=ψ (.str i t))(hg:V!)(hd:C!:=by decide):J9_ cv! hm!:=by let#[t,ht]:=hm;exact b7x (b3e (v:=V.str i) hg ht cF_ hd) fv_ λ_=>Aq.str
def c8y{K:zE!}{h:Heap}{mg:U_}(X:K.In h)(G:eu_)(a:Ei! K x=Es_ (.str i tk)):∃tk,mg x=ψ (.str i tk):=#[tk,k1!]
section
variable{own bg:List Nat}
def c7v{hs:zW!}(J:I8! Vn):DH_ MS zW_ q1:=⟨λM0 G0 F0 hb s Z H D I ⟨G,ρ,M,R,sr,e,k1,k2⟩=>by
 exact EY_ (J.ok M0 G0 F0 hb s Z H D mD_ #[G,ρ,M,R,sr,e,k1,k2]);cases f with
 |next=>exact UR cw_
 |brk=>exact cw_
 |cont=>exact cw_
 |ret u=>exact cw_⟩
end
end DL
namespace K30
open PySem L2 DL
nonrec def top(i:δ):Stmt:=PySem.Challenge.pw_manyhands_k30_saved.main.body.getD i tz_
def Ik(i j:δ):Stmt:=match top i with
 |.ClassDef _ _ _ b _ _ _ _ _ _ _=>b.getD j tz_
 |s=>s
structure Az where
 mk::
 A0:Addr
 A7:Addr
 A8:Addr
 A9:Addr
 B0:Addr
 B1:Addr
 B2:Addr
 B3:Addr
 B4:Addr
 B5:Addr
 B6:Addr
 B7:Addr
abbrev Tt:Stmt:=top 12
abbrev Tv:Stmt:=top 13
abbrev Qa:Stmt:=top 14
abbrev Vv:Stmt:=top 15
abbrev Ov:Stmt:=top 16
abbrev Vw:Stmt:=top 17
abbrev Rl:Stmt:=top 18
abbrev Si:Stmt:=top 19
abbrev Vt:Stmt:=top 20
abbrev Pz:Stmt:=top 21
abbrev Tu:Stmt:=top 22
abbrev Mt:Stmt:=top 24
abbrev Vx:Stmt:=top 25
abbrev Ox:Stmt:=top 26
abbrev Np:Stmt:=top 27
abbrev Tw:Stmt:=top 28
abbrev Xx:Stmt:=Ik 30 0
abbrev Sk:Stmt:=Ik 30 1
abbrev Mu:Stmt:=Ik 30 2
abbrev Oy:Stmt:=Ik 30 3
abbrev Rm:Stmt:=Ik 30 4
abbrev Ro:Stmt:=Ik 31 0
abbrev Qe:Stmt:=Ik 31 1
abbrev Lp:Stmt:=Ik 31 2
abbrev Kt:Stmt:=Ik 31 3
abbrev Qd:Stmt:=Ik 31 4
abbrev Lq:Stmt:=Ik 31 5
abbrev Oz:Stmt:=Ik 31 6
abbrev Nr:Stmt:=Ik 31 7
abbrev Qf:Stmt:=Ik 31 8
abbrev Kd:Stmt:=Ik 31 9
abbrev Ks:Stmt:=Ik 31 10
abbrev Jt:Stmt:=Ik 31 11
abbrev Hf:Stmt:=Ik 31 12
abbrev Ho:Stmt:=Ik 31 13
abbrev Ke:Stmt:=Ik 31 14
abbrev Mf:Stmt:=top 33
abbrev Rk:Stmt:=top 34
abbrev Xr:Stmt:=top 35
abbrev AX:Stmt:=top 36
abbrev Xs:Stmt:=top 37
abbrev Vz:Stmt:=Ik 40 0
abbrev Sn:Stmt:=Ik 40 1
abbrev Sj:Stmt:=top 41
abbrev Rj:Stmt:=top 42
abbrev Se:Stmt:=top 43
abbrev Vu:Stmt:=top 44
abbrev Sh:Stmt:=top 45
abbrev Nq:Stmt:=top 46
abbrev Qc:Stmt:=top 47
abbrev Jf:Stmt:=top 48
abbrev Xw:Stmt:=top 49
abbrev Ft:Stmt:=top 50
abbrev Vs:Stmt:=top 51
abbrev AW:Stmt:=top 52
abbrev Xf:Stmt:=top 53
abbrev Pw:Stmt:=top 55
abbrev Tq:Stmt:=top 56
abbrev Sf:Stmt:=top 57
abbrev Py:Stmt:=top 58
abbrev Qb:Stmt:=top 59
abbrev Xe:Stmt:=top 60
abbrev Ou:Stmt:=top 63
abbrev Px:Stmt:=top 64
abbrev Tr:Stmt:=top 65
abbrev Ot:Stmt:=top 66
abbrev Ts:Stmt:=top 67
abbrev Sg:Stmt:=top 68
abbrev Xv:Stmt:=top 69
abbrev Os:Stmt:=top 71
abbrev Kq:Stmt:=top 72
abbrev Js:Stmt:=top 73
abbrev Za:Stmt:=top 74
abbrev Xt:Stmt:=top 75
abbrev Tx:Stmt:=top 76
abbrev AV:Stmt:=top 77
abbrev Xu:Stmt:=top 78
abbrev Ms:Stmt:=top 80
abbrev AY:Stmt:=top 81
abbrev DK:Stmt:=top 82
abbrev Ze:Stmt:=top 84
abbrev AZ:Stmt:=top 85
abbrev Ry:Stmt:=top 88
abbrev Xz:Stmt:=top 89
abbrev Tz:Stmt:=top 90
abbrev Zc:Stmt:=top 91
abbrev Ud:Stmt:=top 92
abbrev Xy:Stmt:=top 93
abbrev Ua:Stmt:=top 94
abbrev Vy:Stmt:=top 95
abbrev Uc:Stmt:=top 96
abbrev Ub:Stmt:=top 97
abbrev Zd:Stmt:=top 98
abbrev Sl:Stmt:=top 99
abbrev Zb:Stmt:=top 100
abbrev Mv:Stmt:=top 101
abbrev Ku:Stmt:=top 102
abbrev Nt:Stmt:=top 103
abbrev Kr:Stmt:=top 104
def jZ:Gc tA_ [bL_] (Aj Kr):=f_
def Wg:Ae->ι Fl:= (Bh (Iv (Jn "int" k!) (Iv (CQ (Jn "bool" k!)) (f2 Vk (f1 BW R!) tD!))))
def Gn:μ D->ι D:=EO_ Wg
def Wi:Ae->ι Fl:= (KH_ (f1 Gn R!) (Ie Rg Vk M! k! v!))
def Hz:μ D->ι D:=Dk nf_ 2 (Wi)
def Rp:Ae->ι Fl:= (KH_ (f1 Gn R!) (f2 KI k! D!))
def Ef:μ D->ι D:=EO_ Rp
def Yg:Ae->ι Fl:= (sSeq (Ec_ aW_) (KH_ (f1 Hz (Dh! aR_ b8_)) (ED! Ef gE_)))
def Fk:μ D->ι D:=EO_ Yg
def Qk:Ae->ι Fl:= (sSeq (Ec_ ah_) (KH_ tI! (f1 Hz (Dh! e5! b8_))))
def Eo:μ D->ι D:=EO_ Qk
def Yh:Ae->ι Fl:= (Bh (Ng (f1 Fk R!) (Ng tJ! tJ_)))
def Lm:μ D->ι D:=EO_ Yh
def Sx:Ae->ι Fl:= (Bh (Ng ni_ (f1 Fk R!)))
def Hk:μ D->ι D:=EO_ Sx
def Uk:Ae->ι Fl:= (Bh (Ng ni_ (f1 Eo R!)))
def Iq:μ D->ι D:=EO_ Uk
def Ye:Ae->ι Fl:= (KH_ (IO_ Ie) (f2 AL (f1 EE R!) (DO! 37)))
def Fj:μ D->ι D:=Dk gG_ 1 (Ye)
def Yd:Ae->ι Fl:= (sSeq (J4_ (Qy (Dr nk!) tK_)) (K2! Vb (Di! (EH k!) gH!)))
def Ll:μ D->ι D:=EO_ Yd
def Wh:Ae->ι Fl:= (Bh (f1 Hz (Dh! k! cA!)))
def Dy:μ D->ι D:=EO_ Wh
def Ed(t:Az):μ ck!:=[("put",.tup [d5_,.fn t.A7]),("move",.tup [d5_,d5_,.fn t.A7]),("drop",.tup [d5_]),("write",.tup [d5_,.fn t.A8,.fn t.A9]),("cut",.tup [d5_,.fn t.B0,.fn t.B1]),("set",.tup [d5_,.fn t.B2,.fn t.B3]),("undo",.tup [.fn t.B4]),("redo",.tup [.fn t.B4])]
def Jl(t:Az):Addr->ι pz!:=λa=>if a=t.A0 then ψ Lm else if a=t.A7 then ψ Hk else if a=t.A8 then ψ Iq else if a=t.A9 then ψ Ll else if a=t.B0 then ψ Eo else if a=t.B1 then ψ Ef else if a=t.B2 then ψ Dy else if a=t.B3 then ψ Gn else if a=t.B4 then ψ Fk else υ
def Ul(t:Az):Ae->ι Fl:= (sSeq (J4_ (fT (f2 AL cz! nl_))) (K2! Vb (Hm_ 2)))
def Fm(t:Az):μ D->ι D:=Dk nm! 2 (Ul t)
def Yi(t:Az):Ae->ι Fl:= (sSeq (J4_ (Qy i4_ (Ds_ cz! M!))) (sSeq (J4_ (Qy tO! tO_)) (FP_ (J4_ (Dr tQ!)) (Ng tQ_ tR!))))
def Jj(t:Az):μ D->ι D:=Dk z_ 1 (Yi t)
def Ql(t:Az):Ae->ι Fl:= (sSeq (Ec_ cA!) (KH_ tI! (Iv (ED! Ef e5!) (ED! (Jj t) jc!))))
def Bc(t:Az):μ D->ι D:=Dk z_ 1 (Ql t)
def Pa:Ae->ι Fl:= (Bh (KI! e5! aR_))
def De:μ D->ι D:=Dk aY! 1 (Pa)
def Qm:Ae->ι Fl:= (Bh (Wr De k!))
def Cy:μ D->ι D:=Dk cB! 1 (Qm)
def Zs(t:Az):WS:= (Ag (Gg t.B7 "following" i! tT_) (Gg t.B7 "preceding" i! tT_))
def Fx(t:Az):WF:=EE_ [K!] Zs
def Kw(t:Az):WS:= (Ay (Jx (wl jd!) (IP! bN!)))
def Fn(t:Az):WF:=Dm_ aB! Kw
def Nv(t:Az):WS:= (Ag (An 3 (GX tU! y_ bM!)) (Ag (An 4 (IP_ bN!)) (Ag (Bv bN! ai_ p!) (Ag (Bv e8! p! ai_) (Ag (Bv bN! p! aY_) (Bv e8! aY_ p!))))))
def Cj(t:Az):WF:=F0_ [K!,ai!,di!,"ahead","follower"] Nv
def Qn(t:Az):WS:= (Ag (An 2 (Vp e8! p!)) (Ag (An 3 (Vp bN! p!)) (Ag (Bv bN! y_ ai_) (Bv e8! ai_ y_))))
def Ic(t:Az):WF:=Dm_ [K!,ai!,"ahead","follower"] Qn
def Mx(t:Az):WS:= (Ag np_ (Ag (An 2 (w2 Cc bN! bM!)) (Ag (Iw tX_ tY!) cC!)))
def Hl(t:Az):WF:=EE_ [K!,"names",ai!] Mx
def Sy(t:Az):WS:= (Ag (Gg t.B6 "parents" i! (HI_ bM! bM!)) (Ag (Gg t.B6 "rows" i! (HI_ gL_ gL_)) (Ag (Gf_ "texts") (Ag (Gf_ "numbers") (Ag (Gf_ "written") (Gf_ "hidden"))))))
def Hm(t:Az):WF:=EE_ [K!] Sy
def Lz(t:Az):WS:= (Ay (IP! dj_))
def Cd(t:Az):WF:=Dm_ aB! Lz
def Hq(t:Az):WS:= (Ay (IP! e9_))
def Bx(t:Az):WF:=Dm_ aB! Hq
def Ls(t:Az):WS:= (Ag (Iw gM! gM_) (Ay (wl jd!)))
def Fb(t:Az):WF:=F0_ nt! Ls
def Rr(t:Az):WS:= (Ag (An 4 (GX (wT t0_) y_ jf!)) (Ag t1_ (Ag t3! (Ag t4! (Ag zU! t5!)))))
def Jb(t:Az):WF:=Bm [K!,bc!,"parent",nw_,"place"] 4 (Rr t)
def Hr(t:Az):WS:= (Ay (Jx nx! (Jx t0_ (Yy (Ba t.B6 "is_within" 3 (Fb t) i! (Ab y_ at!))))))
def Ea(t:Az):WF:=F0_ nx_ Hr
def Qo(t:Az):WS:= (Ag t8! (Ag (Bg (Ba t.B7 "take_out" 2 (Ic t) (w2 Cc dj_ jg!) at!)) (Ag (Bg (E5! y_)) (Bv nr_ p! y_))))
def Fz(t:Az):WF:=Bm gN_ 4 (Qo t)
def Jz(t:Az):WS:= (Ag (At (F5_ i! cB_) Oh Bl) (Ag (An 5 ai_) (Cs (Hb (Wq aa!)) (Nj 6 7) (Ag nz! (Ag uc_ (Ag ud_ (An 5 gO_)))))))
def He(t:Az):WF:=Bm [K!,ug!,bc!,"behind","text","ahead","k","sign",ai!] 5 (Jz t)
def Ma(t:Az):WS:= (Ag (At (Je (wT nx!)) Oh Bl) (Cs (Hb (Tb fb! uh_)) (Cb 4) (Ag ui! uj_)))
def Jc(t:Az):WF:=Bm [K!,bc!,"first","many","k",ai!] 4 (Ma t)
def Kx(t:Az):WS:= (At (wT nx!) (Bv ul! y_ ai_) Bl)
def Er(t:Az):WF:=Bm nz_ 4 (Kx t)
def Hg(t:Az):WS:= (Ay jg!)
def Fa(t:Az):WF:=Dm_ aB! Hg
def Gj(t:Az):WS:= (Ay (G4! (w2 Cc dj_ p!)))
def Eh(t:Az):WF:=Dm_ aB! Gj
def Mg(t:Az):WS:= (Ay (Be 1 [0] (Ca (G4! uj!)) m_ (wT (w2 fc! i! (Ap t.B6 "hidden" p!))) i!))
def Dz(t:Az):WF:=Dm_ cC_ Mg
def My(t:Az):WS:= (Ay (Pt "" (Be 1 [0] un! m_ cD! (w2 Cc (Ap t.B6 "written" p!) i!))))
def Fy(t:Az):WF:=Dm_ cC_ My
def Gv(t:Az):WS:= (Ay (G3! Xj ul!))
def Es(t:Az):WF:=Dm_ cC_ Gv
def Mw:Ae->ι Fl:= (Bh (Ng (f2 Av jm! jm_) (f2 Av jm! (fC nA_))))
def Aw:μ D->ι D:=Dk aY! 1 (Mw)
def Sw:WS:= (Ag (An 1 Gi) (Iu! ca_ up!))
def Fw:WF:=Bm [gI_,fd!,bw!] 1 (Sw)
def Zl:WS:= (Ag (An 1 (EI! Fw)) (Ag nD! (Ag (Cs (Hb gT!) R_ jr!) ea!)))
def La:WF:=Bm [gI_,fd!,"names",bw!,ai!] 1 (Zl)
def DZ(t:Az):WS:= (At us! (Bg (Ba t.B6 "put" 4 (Jb t) i! (Ab p! (Dt! dl! jt_)))) (At ut! (E8_ "move" Fz) (At uu! (Bg (Ba t.B6 "move" 4 (Fz t) i! uv!)) (At uw! (Bg (Ba t.B6 "write" 5 (He t) i! (Ab p! gU!))) (At uw_ (E8_ "cut" Jc) (At ux_ (E8_ "set_number" Er) Bl))))))
def Mm(t:Az):WF:=F0_ nI_ DZ
def Zm(t:Az):WS:= (Ag uy! (Ag (An 2 (EI! La)) (Iu! R_ (Ag gT_ uB!))))
def Lb(t:Az):WF:=EE_ [gI_,jv_,"left_out",bw!,ai!] Zm
def Yk(t:Az):WS:= (Ag (IQ! "ours" p!) (Ag (IQ! "taken" Gi) (Ag (IQ! "waiting" (Rv Ad)) uD_)))
def Jk(t:Az):WF:=Dm_ nJ_ Yk
def Ur(t:Az):WS:= (Ay (G3! Pe (Hn ea_ p! nK!)))
def Fo(t:Az):WF:=Dm_ nK_ Ur
def Um(t:Az):WS:= (Ag np_ (HW! (AS 1 nM!)))
def Ep(t:Az):WF:=EE_ [E!,gI_,di!] Um
def Sv(t:Az):WS:= (Ag (At (wT (w2 (λ_=>Oa) uH_ bM!)) (IQ! "outline" (JF! (Lb t) jy!)) Bl) (Ay uH_))
def Dh(t:Az):WF:=EE_ aZ_ Sv
def Uf(t:Az):WS:= (Ay (w2 (λ_=>Rg) (wl nO!) uJ_))
def Dg(t:Az):WF:=Dm_ aC! Uf
def Yf(t:Az):WS:= (Ay (w2 fd_ (wl nO!) (w2 Lw uJ_ fe_)))
def Do(t:Az):WF:=Dm_ aC! Yf
def Uj(t:Az):WS:= (Ag (At (wT (w2 fd_ (Ij_ at!) aS_)) (Ay aS_) Bl) (Ay (w2 Cc (w2 Cc (w2 Cc ea_ p!) (wl (GG D!))) (wl aW_))))
def Du(t:Az):WF:=Dm_ nR! Uj
def Pb(t:Az):WS:= (Ag nD! (Ag (Cs (Ca (w2 Lw cE_ p!)) R_ (Ag gT_ (Ag uN_ uP!))) ea!))
def Ec(t:Az):WF:=Dm_ [E!,nS_,jz_,bw!,ai!,"same"] Pb
def Rq(t:Az):WS:= (Ag nD! (Cs (Ca (w1 So at!)) R_ (Ag uR! (Ag uT_ uW!))))
def Ja(t:Az):WF:=Dm_ [E!,jz_,"times",ai!,"time"] Rq
def Pc(t:Az):WS:= (Ag (JL! (Ik! uX!)) (Bg (Jr_ (Ja t) (Ah 2 (Ec t) dm_))))
def Df(t:Az):WF:=Dm_ ec! Pc
def Zr(t:Az):WS:= (Ag (Bg (Pv (Jr ea_ (wl nP!) (Rv Ad)) p!)) uD_)
def Ib(t:Az):WF:=Dm_ aC! Zr
def Nu(t:Az):WS:= (Ag (An 1 aS_) (Ag u0! (Ag (Iw (FA_ u1!) (Ag u1_ (Ag u2_ (Ag (Oj 1 fe_) u0!)))) cC!)))
def Ew(t:Az):WF:=EE_ [E!,"many","found"] Nu
def Yb(t:Az):WS:= (Ag (At fg_ (Ag (Bg (Ah 2 gX_ dm_)) (Ay (w2 Lw fe_ (EI! (Ew t))))) Bl) (Ag (An 2 (Vq jC! nV_)) (Ag (At (Ex (Ik! (fT D_)) u4_) (Bg (Pv cE_ p!)) Bl) (Ay aS_))))
def Fi(t:Az):WF:=Dm_ [E!,bw!,"known"] Yb
def DX(t:Az):WS:= (Ag nX! (Ag (An 2 aS_) (Ag (Cs g0_ R_ (Oj 2 u7!)) ea!)))
def Hx(t:Az):WF:=Dm_ [E!,nS_,"many",bw!] DX
def EB(t:Az):WS:= (Ag (An 2 (Xc p!)) (Ay (Be 1 [2] (Ca jy!) m_ (wT (w2 nY! jE_ (Hn p! jF! aS_))) i!)))
def Ob(t:Az):WF:=Dm_ [E!,"have",nY_] EB
def Ya:Ae->ι Fl:= (sSeq (KA! (fT ni_) u9!) (FP_ (KA! tF! (Om jF_ u9_)) nZ_))
def Fh:μ D->ι D:=Dk g2_ 1 (Ya)
def Pl:Ae->ι Fl:= (Bh (Om i8! (Di! (Ru n1_) (f1 Fh R!))))
def Cw:μ D->ι D:=Dk aY! 1 (Pl)
def Ug:Ae->ι Fl:= (FP_ (Dj 1 (f1 Xk R!)) v!)
def Dt:μ D->ι D:=Dk ["word",jl_] 1 (Ug)
def Yc:Ae->ι Fl:= (sSeq (KA! (Ds_ k! u9!) bS!) (sSeq (KA! (Qy (fT tJ!) (fT tJ_)) k!) (sSeq (Ii (fT (f2 HG jF_ k!)) (K2! Me (JG! n2! g3!)) Em) (Bh g3!))))
def Ee:μ D->ι D:=Dk dn_ 1 (Yc)
def Gm:Ae->ι Fl:= (sSeq (Dj 1 n4!) (Bh (f1 Me (Ac (f2 Ar (f2 Ar n3_ (JG! g3_ jG_)) (Ek k! (Ao v!) Au)) Af))))
def Ev:μ D->ι D:=Dk [fd!,"end"] 1 (Gm)
def DY(t:Az):Ae->ι Fl:= (sSeq (Dj 1 (Xm k! i8! (fC g4!))) (sSeq (Dj 2 (f1 Me (Ac (f2 Ar (JG! n5_ g3!) (Im vg!)) Af))) (FP_ (Ii (Qy vg_ vh!) gI! Em) D_)))
def Hc(t:Az):μ D->ι D:=Dk [ee!,fd!,bw!] 1 (DY t)
def Qj:Ae->ι Fl:= (Bh (CS "hand " k!))
def Bu:μ D->ι D:=Dk [gV!] 1 (Qj)
def BJ(t:Az):WS:= (Ag (An 1 (IQ_ jy! g5_)) (Ag (An 2 (IQ_ cE_ n7_)) (Ay (w2 Lw (w2 Lw vl! p!) y_))))
def Jv(t:Az):WF:=EE_ [E!,"taken","waiting"] BJ
def We(t:Az):WS:= (G4_ vm_
 Di)
def Qu(t:Az):WF:=EE_ [fk!,gV!] We
def Qi(t:Az):WS:= (Ag (JL! (Xb (wT (w2 nY! nW! aS_)) (Je fg_))) (Ay (w2 nY! (wl n8!) (Ah 2 gX! (Ab i! uJ!)))))
def Hy(t:Az):WF:=Dm_ aC! Qi
def Wf(t:Az):WS:= (Ag (JL! (Xb fg_ (Xb (wT jC!) (wT nV_)))) (Ag (JL! (wT (w2 fd_ nW! u4!))) (Ag (Bg (Jr_ (Df t) (wl (Im b9!)))) (Ay gR!))))
def Mn(t:Az):WF:=Dm_ aC! Wf
def Ui(t:Az):WS:= (Ag (An 3 (wl (Pp v! ee_))) (Ag oa_ (At (Ex (FA_ Y!) (wT (Er! Mn ob_))) (Bg (Pv cE_ aY_)) (At (Ex (Ik! (fT Y!)) (wT (Er! Hy ob_))) (Bg (Ah 2 gX_ ob_)) Di))))
def Gx(t:Az):WF:=F0_ [E!,ee!,"k","waits",bw!] Ui
def Zp(t:Az):WS:= (Ag (An 1 (EI! (Qu t))) (Ag (Cs vr! g7_ (Bg vs!)) cC!))
def Nb(t:Az):WF:=EE_ [fk!,E!,"k",ee!] Zp
def Qh(t:Az):WS:= (KW! vt_)
def Fv(t:Az):WF:=Dm_ [E!,ai!,jv_] Qh
def Lr(t:Az):WS:= (KW! (F5_ y_ at!))
def Ch(t:Az):WF:=Dm_ [E!,bc!,jv_] Lr
def Kh(t:Az):WS:= (Ag vv! (Ay jN_))
def Eg(t:Az):WF:=F0_ fl_ Kh
def BI(t:Az):WS:= (Ay vv_)
def Lj(t:Az):WF:=Dm_ a0_ BI
def Zn(t:Az):WS:= (Ik_ "parent_of" Fa)
def Na(t:Az):WF:=Dm_ a0_ Zn
def Wj(t:Az):WS:= (Ay (Ba t.B6 "children_of" 2 (Eh t) vw! at!))
def Ia(t:Az):WF:=Dm_ a0_ Wj
def DV(t:Az):WS:= (Ik_ "text_of" Fy)
def Td(t:Az):WF:=Dm_ a0_ DV
def Zo(t:Az):WS:= (Ay (Ij! (Ba t.B6 "numbers_of" 2 (Es t) (K7_ Eg (Ab i! (Ab p! cB_))) at!)))
def Lc(t:Az):WF:=F0_ fl_ Zo
def Uh(t:Az):WS:= (Ay (w2 Lw fe_ (G3! (λ_=>Zy (ψ 0)) vw_)))
def Ip(t:Az):WF:=EE_ aZ_ Uh
def EA(t:Az):WS:= (Ag (An 2 (Ri (KA_ jz! (w2 Lw (Ij_ (Ab jz! Ad)) fe_)))) (Ag (Bg (Jr_ gX_ vx!)) ea!))
def Qv(t:Az):WF:=Dm_ [E!,"deed",ai!] EA
def FU(t:Az):WS:= (Ag (Bg vw!) (Ay (Ah 2 (Qv t) (Ab i! (Kg! (Bn (Ac js! (Ac v! bd_))))))))
def Rz(t:Az):WF:=F0_ om! FU
def BP:Ae->ι Fl:= (FP_ (Ii (KI_ k!) vy_ Em) M!)
def Te:μ D->ι D:=Dk g9! 2 (BP)
def EC:Ae->ι Fl:= (sSeq (Dj 2 (f2 Fc (f2 Ar (f1 Te (Ac k! b9!)) (f2 Nz (DO! 104729) vz_)) (DO! 4294967291))) (sSeq (Dj 2 (f2 Fc (f2 Nz D_ (DO! 48271)) (DO! 4294967279))) (Bh (f2 Fc (f2 Ar (f2 Nz (f2 Jm D_ (DO! 64)) (DO! 69621)) D_) (DO! 4294967231)))))
def Cf:μ D->ι D:=Dk [bL_,aR!,cG_] 2 (EC)
def Zv:Ae->ι Fl:= (Bh (f2 Ar (f2 Ar (Gg! [df_]) (GL! 1)) (Gg! [gG!,vC_])))
def Ld:μ D->ι D:=Dk bP! 1 (Zv)
def Zu:Ae->ι Fl:= (sSeq (Sq 1 (Dh! bS! (KB! [jS_,jS_,a9_]))) (FP_ (Wb gT! ca_ (Ii vE_ vG_ Em)) v!))
def Nc:μ D->ι D:=Dk [bv!,ne!,bQ!,aR!] 1 (Zu)
def BK:Ae->ι Fl:= (sSeq (Dj 2 (fC (.str " abcXYZ.,;!019~[]\\\"'|{}<>@#$&*()-+/=_^:?`"))) (Bh (Om (fC ha!) (Hn! 1))))
def Pn:μ D->ι D:=Dk [cG_,ha_,oo_] 2 (BK)
def BL:Ae->ι Fl:= vy_
def Dm:μ D->ι D:=Dk op_ 2 (BL)
def Pm:Ae->ι Fl:= (sSeq vN! (sSeq vN_ (sSeq vO! (sSeq vP_ (sSeq vQ! (sSeq vQ_ (sSeq vS! (sSeq vU! (sSeq vW! (sSeq vX! (sSeq vX_ (sSeq vY_ (sSeq v0! (sSeq v1! (sSeq v1_ v2!)))))))))))))))
def Jw:μ D->ι D:=Dk [bL_,jX_,bv!,ha_,cG_,"_law_items_here",a1_,i3_,"_law_kinds","_law_kind","_law_sign","_law_names"] 4 (Pm)
def Zt:Ae->ι Fl:= (sSeq (Sq 3 Af) (sSeq (Sq 4 v3_) (sSeq (Sq 5 v3_) (sSeq (Wb (Ez D_) (Cb 6) (sSeq v6! (sSeq v6_ (sSeq v7_ (sSeq v8! (sSeq v8_ v9!)))))) (Bh Y!)))))
def Qw:μ D->ι D:=Dk [bL_,jX_,"_law_many",bv!,"_law_counts","_law_times",aR!,cG_,jZ!,fp_] 3 (Zt)
def Wk:WS:= (Ag np_ (Ag (Cs (Hb gT!) ca_ (GS! (Go wa! wb!))) cC!))
def Fg:WF:=Bm [bv!,ne!,bQ!,jZ!] 1 (Wk)
def Yj:WS:= (Ag (An 1 Gi) (Ag (Cs ox! ca_ (At wd_ we! Bl)) cC!))
def Ln:WF:=Bm [bv!,"_law_last",bQ!] 1 (Yj)
def BO:WS:= (Ag (An 4 (Kg_ (FA_ wg!) i!)) (Ag (An 5 aS_) (Ag (Iw (Cp (Go wg_ wi!)) wi_) (Ag (Cs (Kp_ hi!) (Cb 6) (At wm! wm_ Bl)) (Bv i! hh_ (wl (f2 Ar wn_ wo!)))))))
def Iu:WF:=Bm [cd_,a1_,wo_,wp!,op!,jZ!,aR!] 4 (BO)
def BN:WS:= (Ag (Iw (Cp jf_) (Ag wq_ (Ag ws_ (An 1 gW_)))) (Ay gR!))
def Lo:WF:=Bm [cd_,a1_,i3_,"_law_above"] 3 (BN)
def BM:WS:= (At (Ex (wT (IP! by_)) (Xb (wT (w2 bM_ y_ by_)) (wT (w2 bM_ y_ wv_)))) (At wx! wz_ Bl) Bl)
def Ir:WF:=Bm hk_ 4 (BM)
def Zw:WS:= (Ag oB! (Ag oB_ (At us! (Ag wC! (Ag wC_ (Ag wE! wG!))) (At ut! oD_ (At uu! oE! (At (Ex ux_ (wT hl!)) wH! (At (Ex uw! (wT hl!)) (Ag j2_ (Ag (An 6 aS_) (Ag (Cs wI! (Cb 7) wJ!) (Ag (An 8 oF_) wK_)))) (At (Ex uw_ (wT hl!)) (Ag (An 9 oH!) (Ag j2_ wM_)) Bl))))))))
def Xl:WF:=Bm [cd_,bQ!,fp_,oI_,"_law_good",op!,jZ!,aR!,"_law_new",de!] 2 (Zw)
def Xh:WS:= (Ag wO_ (Ag wP! (Ag (Cs ox! R_ (At (Ex wP_ wQ_) wR! Bl)) cC!)))
def Po:WF:=Bm [bv!,cd_,"_law_undone_here",bQ!] 1 (Xh)
def Uq:WS:= (Ay (Kg_ (Cp (Ds_ gE_ v!)) jF!))
def Gy:WF:=Bm fv! 2 (Uq)
def Rs:WS:= (Ay (Pt "" (Be 1 [] wR_ m_ (FA_ e5!) jE_)))
def Gu:WF:=Bm fv! 2 (Rs)
def Uo(t:Az):WS:= (Ag wS! (Ag (Cs wT! R_ (J5! wU_)) (Ag (Cs (Kn oK_) R_ (Ag wV_ (Ag wX! wY!))) wY_)))
def Qx(t:Az):WF:=Dm_ [e4_,bv!,cd_,a1_] Uo
def Zq(t:Az):WS:= (Ag (An 1 (wl (f1 Qw (Ac k! (Ac M! (Ac (f2 Fc (Jg! tD_) tC_) Af)))))) (Ag (An 2 (wl (Ek (Bq 1 [] jA! m_ (Ds_ aR_ hd!) k!) Au (Ao (f2 Fc (Jg! (fC (.int 61))) ah_))))) (Ag (An 3 (GS_ (Kg! ah_))) (Ag (Bg (Ah 2 (Hx t) (Dt! ai_ (Be 1 [2] g0_ m_ oM! i!)))) (Ag (Cs (Kp_ (f2 Fc (f1 Cf w2_) cA!)) (Cb 4) (Bg oN_)) (Ag (An 5 w4!) (Ag (An 6 (Be 1 [2,5] g0_ m_ w4_ i!)) (Ag (An 7 (wl (f2 Ar (f2 Ar w6! (JG! aa_ g5_)) (JG! aZ! n7_)))) (Ag (An 8 w7_) (Ag (J5! (Cp (Qy (Dr (fT (Jn "list" bd!))) (fT (f2 Eb bd! bw_))))) (Ag (An 9 (JF! (Nb t) (wl (ED! Zz bd!)))) (Ag (J5! (Xb (Lg_ xa! (wl bw_)) (Lg_ (Ah 2 (Ob t) (Dt! hq! oO!)) jl!))) (Ag (J5! (Xb (wT (w2 Uu (Er! Hx (Ab hq! cB_)) (Er! Hx (Ab ai_ cB_)))) (Lg_ (K7_ Rz (Ab hq! w3_)) oN_))) (Ay (Jx (w2 fd_ xa! w7_) (Ah 2 (Qx t) (Dt! hq! w4!)))))))))))))))))
def CP(t:Az):WF:=EE_ tA_ Zq
structure Txt(P:yW!)(w:yM!)(K:zE!)(mg:U_)(t:Az):Prop where
 D1:AS! "is_whole" Tt z_
 D2:AS! "is_below" Tv nf_
 D3:AS! "is_from_one" Qa z_
 D4:AS! "is_name" Vv z_
 D5:AS! "is_sign_name" Ov z_
 D6:AS! "is_item" Vw z_
 D7:AS! "is_sibling" Rl z_
 D8:AS! "is_behind" Si z_
 D9:AS! "is_sign" Vt gG_
 E1:AS! "is_text" Pz z_
 E2:AS! "is_place" Tu z_
 E3:AS! "are_parts" Mt nm!
 E4:AS! "is_deed" Vx z_
 E5:AS! "is_operation" Ox z_
 E6:AS! "time_and_hand" Np aY!
 E7:AS! "in_order" Tw cB!
 E8:Vg K mg "Row" t.B7 "Row.__init__" Xx [K!]
 E9:IR! Cn "holds" "Row.holds" Sk aB!
 F6:IR! Cn "put_behind" "Row.put_behind" Mu [K!,ai!,di!]
 F7:IR! Cn "take_out" "Row.take_out" Oy aB!
 F8:IR! Cn "listed" "Row.listed" Rm [K!]
 F9:Vg K mg "Outline" t.B6 "Outline.__init__" Ro [K!]
 G6:DT_ "has" "Outline.has" Qe aB!
 G7:DT_ "has_item" "Outline.has_item" Lp aB!
 G8:DT_ "is_within" "Outline.is_within" Kt nt!
 G9:DT_ "put" "Outline.put" Qd gN_
 H9:DT_ "can_move" "Outline.can_move" Lq nx_
 J0:DT_ "move" "Outline.move" Oz gN_
 J1:DT_ "write" "Outline.write" Nr xf_
 J2:DT_ "cut" "Outline.cut" Qf xg!
 J3:DT_ "set_number" "Outline.set_number" Kd nz_
 J4:DT_ "parent_of" "Outline.parent_of" Ks aB!
 J5:DT_ "children_of" "Outline.children_of" Jt aB!
 J6:DT_ "signs_of" "Outline.signs_of" Hf cC_
 J7:DT_ "text_of" "Outline.text_of" Ho cC_
 J8:DT_ "numbers_of" "Outline.numbers_of" Ke cC_
 J9:AS! "is_undo_or_redo" Mf aY!
 K0:AS! "last_words" Rk cB!
 K3:AS! "undone" Xr cB!
 K4:AS! "play" AX nI_
 K5:AS! "played" Xs cB!
 K6:Vg K mg "Hand" t.B5 "Hand.__init__" Vz nJ_
 K7:Cn K t.B5 "have" "Hand.have" Sn nK_
 K8:AS! "all_taken" Sj aZ_
 K9:AS! "outline_of" Rj aZ_
 L0:KJ! "was_taken" Se
 L4:KJ! "is_next" Vu
 L5:AS! "last_time" Sh nR!
 L6:AS! "not_yet_taken" Nq ec!
 L7:AS! "check_times" Qc [E!,jz_]
 L8:AS! "check_message" Jf ec!
 L9:KJ! "accept" Xw
 M9:AS! "accept_waiting" Ft aZ_
 N0:KJ! "receive" Vs
 N3:AS! "take" AW ec!
 N4:AS! "give" Xf [E!,"have"]
 N5:AS! "word_of" Pw g2_
 N6:AS! "shown" Tq aY!
 N7:AS! "number_of" Sf dn_
 N8:AS! "part_of" Py dn_
 N9:AS! "deed_of" Qb [fd!]
 O0:AS! "read" Xe [ee!]
 O3:AS! "line_of_hand" Ou [gV!]
 O4:AS! "saved" Px aZ_
 O5:AS! "new_hand" Tr [fk!]
 O6:KJ! "may_be_taken" Ot
 O7:KJ! "may_wait" Ts
 O8:AS! "load_line" Sg [E!,ee!,"k"]
 O9:AS! "loaded" Xv [fk!]
 P0:AS! "outline_with" Os [E!,ai!]
 P1:AS! "outline_with_item" Kq a0_
 P2:AS! "outline_with_number" Js fl_
 P3:AS! "there" Za a0_
 P4:AS! "parent" Xt a0_
 P5:AS! "children" Tx a0_
 P6:AS! "text" AV a0_
 P7:AS! "number" Xu fl_
 P8:AS! "next_time" Ms aZ_
 P9:AS! "make" AY [E!,"deed"]
 Q0:AS! "put" DK om!
 Q3:AS! "_law_cell" Ze g9!
 Q4:AS! "_law_mix" AZ g9!
 Q5:AS! "_law_items" Ry bP!
 Q6:AS! "_law_signs" Xz bP!
 Q7:AS! "_law_text" Tz [cG_,ha_]
 Q8:AS! "_law_pick" Zc op_
 Q9:AS! "_law_deed" Ud xj!
 R3:AS! "_law_world" Xy xj_
 R4:AS! "_law_ordered" Ua bP!
 R5:AS! "_law_undone" Vy bP!
 R6:AS! "_law_hang" Uc hk_
 R7:AS! "_law_lies" Ub xk!
 R8:AS! "_law_move" Zd hk_
 R9:AS! "_law_do" Sl [cd_,bQ!]
 S0:AS! "_law_play" Zb bP!
 S3:AS! "_law_children" Mv fv!
 S4:AS! "_law_shown_text" Ku fv!
 S5:AS! "_law_shows" Nt [e4_,bv!]
 S6:AS! "law" Kr [bL_]
 S7:mg "abs"=υ
 S8:mg "all"=υ
 S9:mg "bool"=υ
 T0:mg "dict"=υ
 T1:mg "enumerate"=υ
 T2:mg "int"=υ
 T3:mg "isinstance"=υ
 T4:mg "len"=υ
 T5:mg "list"=υ
 T6:mg "max"=υ
 T7:mg "ord"=υ
 T8:mg "range"=υ
 T9:mg "sorted"=υ
 U0:mg "str"=υ
 U1:mg "tuple"=υ
 U2:mg "zip"=υ
 U3:∃tk,mg "HANDS"=D9_ 16
 U4:∃tk,mg "SIGNS"=D9_ 16
 U5:∃tk,mg "PLACES"=D9_ 4
 U6:∃tk,mg "LEFT_OUT"=D9_ 37
 U7:∃tk,mg "MOST_WAITING"=D9_ 8
 U8:∃tk,mg "WAITS"=ψ (.str "waits " tk)
 U9:mg "is_item"=D0! t.A0
 V0:mg "is_sibling"=D0! t.A7
 V1:mg "is_behind"=D0! t.A8
 V2:mg "is_text"=D0! t.A9
 V3:mg "is_sign_name"=D0! t.B0
 V4:mg "is_from_one"=D0! t.B1
 V5:mg "is_place"=D0! t.B2
 V6:mg "is_whole"=D0! t.B3
 V7:mg "is_name"=D0! t.B4
 V8:Vh K t.B5
 V9:Vh K t.B6
 W3:IR! Vh
 W4:IR! Dp "following"
 W5:IR! Dp "preceding"
 W6:Gg_ "parents"
 W7:Gg_ "rows"
 W8:Gg_ "texts"
 W9:Gg_ "numbers"
 X0:Gg_ "written"
 X3:Gg_ "hidden"
 X8:IR_ "ours"
 X9:IR_ "taken"
 Y0:IR_ "waiting"
 Y1:IR_ "outline"
 Y2:∀X:Cx,X.prog=P->X.w=w->X.K=K->X.mg=mg->Vf X "PARTS" e7!
open Classical
def jU:∀(l:q!) (d v:D),IJ! hr!=ψ v
 |[],d,v=>by simp[Br,kget]
 |(k,x)::r,d,v=>by
  delta Br;by_cases h:k=d
  .rw[MM h];simp[kget,h]
  .rw[MY h];simp[kget,h,jU r d v]
def oX(h:d≠e):∀(l:q!) (v:D),kget hr! e=kget l e
 |[],v=>by simp[Br,kget,h]
 |(k,x)::r,v=>by
  delta Br;show"#*"
  .rw[ba!];subst hk;simp[kget,h]
  .rw[ba_];dsimp only[kget];rw[oX h r v]
def c2o(h:d≠e):∀(l:q!),kget hs! e=kget l e
 |[]=>rfl
 |(k,x)::r=>by
  delta Hu;show"#*"
  .rw[ba!];subst hk;simp[kget,h]
  .rw[ba_];dsimp only[kget];rw[c2o h r]
def b0n:∀{l:q!} {d:D},kget l d≠υ↔d∈l.map d!
 |[],d=>by simp[kget]
 |(k,x)::r,d=>by
  delta kget;show"#*"
  .subst hk;simp
  .rw[ba_,b0n];simp[OB hk]
def a6r:∀{l:q!} {d:D},(ex_).Nodup->IJ! hs!=υ
 |[],d,_=>rfl
 |(k,x)::r,d,h=>by
  rw[MO,NJ]at h;delta Hu;show"#*"
  .rw[ba!];subst hk;cases e:kget r k with
   |none=>rfl
   |some v=>exact Df_ (b0n.mp lh_) h.1
  .rw[ba_];delta kget;rw[ba_];exact a6r h.2
def b3z:∀{l:q!} {d v:D} {e:D},e∈Dj_ hr!↔e=d\/e∈l.map d!
 |[],d,v,e=>by simp[Br]
 |(k,x)::r,d,v,e=>by
  delta Br;show"#*"
  .rw[ba!];subst hk;simp
  .rw[ba_];simp![MO,MD];rw[b3z];constructor<;>(rintro(h|h|h)<;>simp[h])
def lP:∀{l:q!} {d v:D},(ex_).Nodup->(Dj_ hr!).Nodup
 |[],d,v,_=>by simp[Br]
 |(k,x)::r,d,v,h=>by
  rw[MO,NJ]at h;delta Br;show"#*"
  .rw[ba!];simp![MO,NJ];exact h
  .rw[ba_];simp![MO,NJ];exact#[co!,lP h.2];obtain z|z:=b3z.mp z
   .exact hk z
   .exact h.1 z
def c2q:∀{l:q!} {d e:D},e∈Dj_ hs!->e∈l.map d!
 |[],d,e,h=>by simp[Hu]at h
 |(k,x)::r,d,e,h=>by
  delta Hu at h;show"#*"
  .rw[ba!]at h;simp![MO,MD];exact .inr h
  .rw[ba_]at h;simp![MO,MD]at h ⊢;obtain h|h:=h
   .exact .inl h
   .exact .inr (c2q h)
def c2r:∀{l:q!} {d:D},(ex_).Nodup->(Dj_ hs!).Nodup
 |[],d,_=>by simp[Hu]
 |(k,x)::r,d,h=>by
  rw[MO,NJ]at h;delta Hu;show"#*"
  .rw[ba!];exact h.2
  .rw[ba_];simp![MO,NJ];exact#[λz=>h.1 (c2q z),c2r h.2]
def kH:kget hr! z=if z=d then ψ v else kget l z:=by
 by_cases h:z=d
 .rw[MM h,h,jU]
 .rw[MY h,oX (OB h)]
def c2p(nd:oT!):kget hs! z=if z=d then υ else kget l z:=by
 by_cases h:z=d
 .rw[MM h,h,a6r nd]
 .rw[MY h,c2o (OB h)]
def Sz:D->μ D->D->ι D
 |a,[],z=>if z=a then ψ .non else υ
 |a,x::r,z=>if z=a then ψ x else Sz x r z
nonrec def lst:D->μ D->D
 |a,[]=>a
 |_,x::u=>lst x u
def uC:∀{u:d_} {a:D},lst a u∈a::u
 |[],_=>MB
 |_::_,_=>LY _ uC
def a2i:∀{u:d_} {a:D},lst a (u++[x])=x
 |[],_=>rfl
 |_::u,_=>a2i (u:=u)
def qI:∀{u:d_} {a:D},u.reverse.headD a=lst a u
 |[],_=>rfl
 |x::u,a=>by
  rw[List.reverse_cons];exact Eq.trans ?_ (qI (a:=x));cases u.reverse<;>rfl
def c2e:∀{l:d_},Sz a l a=ψ (l.headD .non)
 |[]=>MM χ
 |_::_=>MM χ
def d4d(h:z≠a)(g:z≠b):∀{l:d_},Sz a l z=Sz b l z
 |[]=>(MY h).trans (MY g).symm
 |_::_=>(MY h).trans (MY g).symm
def a2k:∀{l:d_} {a z:D},Sz a l z≠υ↔z∈a::l
 |[],a,z=>by delta Sz;by_cases h:z=a<;>simp[h]
 |x::r,a,z=>by
  delta Sz;by_cases h:z=a
  .simp[h]
  .rw[MY h,a2k,MD];simp[h]
def d4c(h:z∉a::l):Sz a l z=none:=TM λe=>h (a2k.mp e)
def uD:∀{l:d_} {a z v:D},Sz a l z=ψ v->v=.non\/v∈l
 |[],a,z,v,h=>by
  delta Sz at h;split at h
  .rcases h;exact .inl χ
  .rcases h
 |x::r,a,z,v,h=>by
  delta Sz at h;split at h
  .rcases h;exact .inr MB
  .exact(uD h).imp_right (LY _)
def a2l:∀{u:d_} {a:D},(a::u).Nodup->Sz a af_ (lst a u)=ψ fy!
 |[],_,_=>c2e
 |x::u,a,nd=>by
  rw[NJ]at nd;exact(MY λe:lst x u=a=>nd.1 (Do! e uC)).trans (a2l nd.2)
def uE:∀{u:d_} {a:D},n∉a::u->(a::u).Nodup->∀z,Sz a cL! z=if z=n then ψ fy! else if z=lst a u then ψ n else Sz a af_ z
 |[],a,hn,_,z=>by
  show(if z=a then ψ n else Sz n v z)=if z=n then _ else if z=a then _ else Sz a v z
  by_cases c:z=n
  .subst c;rw[MY λe:z=a=>hn fy_,y!,c2e]
  .rw[MY c];by_cases d:z=a
   .rw[MM d,MM d]
   .rw[MY d,MY d];exact d4d c d
 |x::u,a,hn,nd,z=>by
  rw[MD,UZ]at hn;rw[NJ]at nd;show(GL_ cL!)=if z=n then _ else if z=lst x u then _ else(GL_ af_)
  rw[uE hn.2 nd.2];by_cases c:z=a
  .rw[MM c,MM c,MY λe:z=n=>hn.1 (e.symm.trans c),MY λe:z=lst x u=>nd.1 (by rw[<-c,e];exact uC)]
  .rw[MY c,MY c]
structure Gq(xs:d_)(k:q!):Prop where
 f:∀z,kget k z=Sz .non xs z
 kn:(k.map d!).Nodup
 nd:(D.non::xs).Nodup
 hk:∀x∈xs,∃k,Co x=ψ k
def c1m:∀{l m:X!},l.Nodup->(∀a∈l,a∈m)->S_<=m.length
 |[],_,_,_=>OA _
 |a::l,m,h,hs=>by
  rw[NJ]at h;let ha:=hs a MB;let:=c1m h.2 λb J=>(List.mem_erase_of_ne λz:b=a=>h.1 (z▸J)).mpr (hs b (LY _ J));rw[List.length_erase_of_mem ha]at this;let:=List.length_pos_of_mem ha;rw[MX];omega
section
variable{xs u v:List D}{k k':List (D×D)}{n z:D}
def Gq.has(h:Gq xs k):kget k z≠υ↔z∈D.non::xs:=by rw[h.f];exact a2k
def Gq.len(h:Gq xs k):el_<=j!+1:=by let:=c1m h.kn λa ha=>h.has.mp (b0n.mpr ha);simpa using this
def Gq.key(h:Gq xs k)(hz:z∈D.non::xs):∃k,Co z=ψ k:=by
 obtain rfl|hz:=MD.mp hz
 .exact A_
 .exact h.hk z hz
def Gq.ins(h:Gq af_ k)(hn:n∉D.non::af_)(hm:∃k,Co n=ψ k)(kn:xq_)(e:∀z,kget k' z=if z=n then ψ fy! else if z=Il! u then ψ n else kget k z):Gq cL! k':=by
 let nd:=h.nd;show"!u";exact#[co!,kn,p.nodup_iff.mpr (NJ.mpr #[hn,nd]),aC_]
 .rw[<-QW,NA,UZ]at hn;rw[e,h.f,uE hn.1 (oX!).1]
 .obtain z|z:=NA.mp hx
  .exact h.hk x go!
  .obtain rfl|z:=MD.mp z
   .exact hm
   .exact h.hk x iU!
def Gq.out(h:Gq cL! k)(kn:xq_)(e:∀z,kget k' z=if z=Il! u then ψ fy! else if z=n then υ else kget k z):Gq af_ k':=by
 show"!u";let nd:=Fm_ h.nd;show"#A";rw[<-QW]at n2;let nu:=(NU.mp n2).1;exact#[co!,kn,nd.2,λx hx=>h.hk x (NA.mpr ((oX_).imp_right (LY _)))];rw[e,h.f,uE n1.1 nu];by_cases c:z=Il! u
 .rw[MM c,c,a2l nu]
 .rw[MY c];by_cases d:z=n
  .rw[MM d,d,d4c nd.1]
  .rw[MY d,MY d,MY c]
end
def a4x:Gq [] oY!:=#[λz=>by show(FF! D.non z)=if z=D.non then _ else _;simp![eq_comm];rfl,Q!,Q!,λ_ h=>by exact(dA!).elim]
def jO:∀{l:HN! α β} {a:α} {b c:β},(ex_).Nodup->(a,b)∈l->(a,c)∈l->b=c
 |[],_,_,_,_,h,_=>by exact(dA!).elim
 |(x,y)::r,a,b,c,nd,Y,h2=>by
  rw[MO,NJ]at nd;obtain z|z:=MD.mp Y<;>obtain w|w:=MD.mp h2
  .cases z;cases w;rfl
  .cases z;exact Df_ (NE w) nd.1
  .cases w;exact Df_ (NE z) nd.1
  .exact jO nd.2 z w
def AB(n a:D):μ D->μ D
 |[]=>[]
 |x::r=>if x=a then x::n::r else x::AB n a r
def Mi(n a:D)(xs:d_):μ D:=if a∈xs then AB n a xs else n::xs
def lS:∀{u v:d_},a∉u->AB n a (u++a::v)=u++a::n::v
 |[],v,_=>by simp[AB]
 |x::u,v,h=>by
  rw[MD,UZ]at h;dsimp only[List.cons_append,AB];rw[lA_,lS h.2]
def kN:∀{l:X!},a∈l->∃u v,l=u++a::v/\a∉u
 |x::r,h=>by
  by_cases e:a=x
  .exact#[[],r,mW!,Q!]
  .let#[u,v,rfl,hu]:=kN (Iu_ e);exact#[x::u,v,χ,by simp[e,hu]]
def pE(n o:D)(xs:d_):∃u v,xs=u++v/\Mi n o xs=u++n::v/\Il! u=if o∈xs then o else .non:=by
 delta Mi;by_cases h:o∈xs
 .let#[u,v,rfl,hu]:=kN h;exact#[u++[o],v,Q!,by rw[MM h,lS hu];simp,by rw[MM h,a2i]]
 .exact#[[],xs,χ,xu_,xu_]
def d9o:(BR_ "preceding" "following")=false:=by decide+kernel
def b4i:(BR_ "following" "following")=true:=by decide+kernel
def lkP:Je! "preceding" [(Str.ofString "following",a),(Str.ofString "preceding",b)]=ψ b:=by rfl
structure Hi(t:Az)(M:Mh)(r f p:yJ!)(xs:d_):Prop where
 ob:M r=ψ o1!
 dc:∃kf ef kp ep,M f=BS! kf ef/\M p=Kh! kp/\Gq xs kf/\Il_ Gq
 ne:f≠p
def zY:Ji d=τ↔d=.non:=by cases d<;>simp[Ji]
def kX(hd:d≠.non):Ji d=false:=by cases q:Ji d with|false=>rfl|true=>exact Df_ (zY.mp q) hd
section
variable{t:Az}{M:Mh}{r f p:yJ!}{xs:List D}{R:D->Mh->Prop}
def a7b(h:kh_)(hk:bo!)(hR:Dw_ R (d∈xs) M):Fn t [.fn r,d] M R:=by
 let#[kf,ef,kp,ep,hf,hp,K,_]:=h.dc;exact j_;by_cases hd:d=.non
 .subst hd;rw[MU (NJ.mp K.nd).1]at hR;simpa[Kw,Ay,Jx,wT,wl,f2,Aa,fC,Bp,Ji]using hR
 .let e3:(IJ! kf).isSome=decide (d∈xs):=by
   let:=K.has (z:=d);cases q:IJ! kf with
   |none=>rw[q]at this;simp[hd]at this;simp[this]
   |some v=>rw[q]at this;simp[hd]at this;simp[this]
  rw[<-e3]at hR;simpa[Kw,Ay,Jx,wT,wl,f2,Aa,fC,Bp,kX hd,w2,Ap,Gf,h.ob,Dq,Fq,hf,hk,b4i]using hR
structure RW(t:Az)(M0 M:Mh)(r f p:yJ!)(kf kp:q!):Prop where
 ob:M r=ψ o1!
 hf:∃e,M f=BS! kf e
 hp:∃e,M p=BS! kp e
 ne:f≠p/\r≠f/\r≠p
 fr:∀b,b≠f->b≠p->M b=M0 b
section
variable{M0:Mh}{kf kp:List (D×D)}{ρ:Ae}{fi fv:Ae->Option D}{y v:D}{k:MK}{Q:Fl->Mh->Prop}{i:Nat}
def RW.upF(h:cL_):EI_ (Kv! f c) c kp:=by let#[n1,n2,n3]:=h.ne;let#[ep,hp]:=h.hp;exact#[(Dw! n2).trans h.ob,xx!,#[ep,(Dw! (OB n1)).trans hp],h.ne,λb b1 b2=>(Dw! b1).trans xy!]
def RW.upP(h:cL_):EI_ (Kv! p c) kf c:=by let#[n1,n2,n3]:=h.ne;let#[ef,hf]:=h.hf;exact#[(Dw! n3).trans h.ob,#[ef,(Dw! n1).trans hf],xx!,h.ne,λb b1 b2=>(Dw! b2).trans xy!]
def RW.fol(h:cL_)(h0:fz_)(K:P_):Ap t.B7 "following" i! ρ M K=K (.fn f) M:=by simp[Ap,wl,h0,Gf,h.ob,b4i,Dq]
def RW.pre(h:cL_)(h0:fz_)(K:P_):Ap t.B7 "preceding" i! ρ M K=K B! M:=by simp[Ap,wl,h0,Gf,h.ob,lkP,Dq]
def RW.pf(h:cL_)(h0:fz_)(hi:fA_)(hv:fv ρ=ψ v)(hk:aU!)(hl:kf.length<big)(q:∀M',EI_ M' (Br kf y v) kp->Q ab_ M'):HB! bN! fv Q:=by let#[e,hf]:=h.hf;simpa[Bv,wl,hv,hi,h.fol h0,Ki,hf,hk,hl,Dq]using q _ h.upF
def RW.pp(h:cL_)(h0:fz_)(hi:fA_)(hv:fv ρ=ψ v)(hk:aU!)(hl:kp.length<big)(q:∀M',EI_ M' kf (Br kp y v)->Q ab_ M'):HB! e8! fv Q:=by let#[e,hp]:=h.hp;simpa[Bv,wl,hv,hi,h.pre h0,Ki,hp,hk,hl,Dq]using q _ h.upP
def RW.popF(h:cL_)(h0:fz_)(hi:fA_)(hk:aU!)(hv:kget kf y=ψ v)(q:∀M',EI_ M' (Hu kf y) kp->K v M'):Vp bN! ht_ ρ M K:=by let#[e,hf]:=h.hf;simpa[Vp,wl,hi,h.fol h0,Dl,hf,hk,hv,Dq]using q _ h.upF
def RW.popP(h:cL_)(h0:fz_)(hi:fA_)(hk:aU!)(hv:kget kp y=ψ v)(q:∀M',EI_ M' kf (Hu kp y)->K v M'):Vp e8! ht_ ρ M K:=by let#[e,hp]:=h.hp;simpa[Vp,wl,hi,h.pre h0,Dl,hp,hk,hv,Dq]using q _ h.upP
def RW.of(h:kh_):∃kf kp,RW t M M r f p kf kp/\Gq xs kf/\Il_ Gq:=by let#[kf,ef,kp,ep,hf,hp,K,Kp]:=h.dc;exact#[kf,kp,#[h.ob,#[ef,hf],#[ep,hp],#[h.ne,(λz=>by let:=h.ob;rw[z,hf]at this;rcases this),λz=>by let:=h.ob;rw[z,hp]at this;rcases this],λ_ _ _=>χ],K,Kp]
def RW.at(h:cL_)(K:Gq xs kf)(Kp:Il_ Gq):FI_ M xs:=by let#[ef,hf]:=h.hf;let#[ep,hp]:=h.hp;exact#[h.ob,#[kf,ef,kp,ep,hf,hp,K,Kp],h.ne.1]
def sq(h:q1 ρ M λr M1=>match r with|.nx bi=>q2 bi M1 Q|.rt d=>Q ac! M1):Ag q1 q2 ρ M Q:=h
end
def kA(h:kh_)(hn:Co n=ψ kn)(ho:Co o=ψ ko)(nx:n∉D.non::xs)(hl:j!<5000)
  (hR:∀M',FI_ M' (Mi n o xs)->xz_->D5_ M'):Cj t [.fn r,n,o] M R:=by
 let#[kf,kp,w,K,Kp]:=RW.of h;let#[u,v,rfl,c2,ea]:=pE n o xs;let nd:=K.nd;let j9:=(K.f _).trans (a2l (oX!).1);let ma:lst D.non u∈D.non::af_:=by rw[<-QW];exact MV _ uC
 let mb:v.headD D.non∈D.non::af_:=by
  obtain z|z:=uD xA!
  .rw[z];exact MB
  .exact LY _ z
 let#[ka,vw]:=K.key ma;let#[kb,yw]:=K.key mb;let nb:v.headD D.non≠n:=λz=>nx (z▸mb);let ev:v.headD D.non=lst .non o3!:=by rw[<-qI,List.reverse_reverse]
 let eu:lst D.non u=u.reverse.headD .non:=qI.symm;let L:=K.len;let L':=Kp.len;rw[List.length_reverse]at L';rw[List.reverse_append]at Kp;generalize iu:lst D.non u=a0 at *;generalize vx:v.headD D.non=b0 at *;let K1:=K.ins nx #[kn,hn] (lP (lP K.kn)) λz=>by rw[kH,kH,vx,iu]
 let K2:=Kp.ins (k':=Br (Br kp n a0) b0 n) (λz=>nx (by simpa[or_comm]using z)) #[kn,hn] (lP (lP Kp.kn)) λz=>by
  rw[kH,kH,<-ev,<-eu];by_cases c:z=b0
  .rw[MM c,MY (c▸nb),MM c]
  .rw[MY c,MY c]
 let l1:kf.length<big:=by delta big;omega
 let l2:kp.length<big:=by delta big;omega
 let l3:(Br kf a0 n).length<big:=PD hu_ a2_;let l4:(Br kp n a0).length<big:=PD hu_ a2_;exact j_;let#[ef,hf]:=w.hf;let hm:Da t.B7 "holds" M ki_:=by simp[Da,h.ob];exact#[gE!,gE!]
 let e1:∀K:D->Mh->Prop,K a0 M->GX tU! y_ bM! [fB!,bA_,ψ o,υ,υ] M K:=λK hK=>by
  exact#[hm,χ,a7b h ho ?_];rw[ea]at hK;by_cases c:o∈u++v
  .rw[MM c]at hK;rw[NG c];exact hK
  .rw[MY c]at hK;rw[MU c];exact hK
 exact e1 _ ?_;let e2:Cc M (.fn f) a0=ψ b0:=by simp[Cc,hf,vw,j9]
 let e3:∀K:D->Mh->Prop,K b0 M->IP_ bN! [fB!,bA_,ψ o,ψ a0,υ] M K:=λK hK=>by
  delta w2;rw[w.fol χ];simpa[wl,Aa,e2]using hK
 exact e3 _ ?_;exact sq (w.pf (ρ:=[fB!,bA_,ψ o,ψ a0,ψ b0]) χ χ χ vw l1 λM1 w=>?_);exact sq (w.pp χ χ χ hn l2 λM2 w=>?_);exact sq (w.pf χ χ χ hn l3 λM3 w=>?_);exact Ig_ w.pp χ yw l4 λM4 w=>hR M4 (by rw[c2];exact w.at K1 xB_) w.fr
def a4l(h:FI_ M cL!)(hn:Co n=ψ kn)(hl:(cL!).length<5000)
  (hR:∀M',FI_ M' af_->xz_->D5_ M'):Ic t [.fn r,n] M R:=by
 let#[kf,kp,w,K,Kp]:=RW.of h;let e1:(cL!).reverse=o3!++n::u.reverse:=by simp
 let at_:∀{u v:d_} {k:q!},Gq cL! k->kget k n=ψ fy!/\n∉D.non::af_:=λ{u v k} K=>by
  show"!u";let nd:=Fm_ K.nd;exact#[?_,nd.1];show"#A";rw[K.f,uE n1.1 (NU.mp n2).1,y!]
 let L:=K.len;let L':=Kp.len;rw[List.length_reverse]at L';rw[e1]at Kp;let ev:v.headD D.non=lst .non o3!:=by rw[<-qI,List.reverse_reverse]
 let j9:=(at_ K).1;let yx:=(at_ Kp).1;let#[kb,yw]:=K.key (z:=v.headD .non) (E5_ xA!);let#[ka,vw]:=Kp.key (z:=u.reverse.headD .non) (E5_ ((Kp.f _).symm.trans yx));let eu:lst D.non u=u.reverse.headD .non:=qI.symm;let K1:=K.out (lP (c2r K.kn)) λz=>by rw[kH,c2p K.kn]
 let K2:=Kp.out (lP (c2r Kp.kn)) λz=>by rw[kH,c2p Kp.kn]
 rw[<-ev]at K2;rw[eu]at K1;generalize u.reverse.headD D.non=a0 at *;generalize v.headD D.non=b0 at *;let dl:∀{l:q!},(Hu l n).length<=S_:=λ{l}=>by
  induction l with
  |nil=>exact MZ _
  |cons q l ih=>delta Hu;split;exact QV _;exact UT ih
 let l1:(Hu kf n).length<big:=PD dl a2_;let l2:(Hu kp n).length<big:=PD dl a2_;exact j_;exact sq ?_;delta An;exact Dg_ w.popP hn yx λM1 w=>sq ?_;exact Dg_ w.popF hn j9 λM2 w=>sq ?_;exact w.pf (ρ:=[fB!,bA_,ψ a0,ψ b0]) χ χ χ vw l1 λM3 w=>?_;exact Ig_ w.pp χ yw l2 λM4 w=>hR M4 (w.at K1 xB_) w.fr
end
abbrev root:D:=.str "root"
abbrev binn:D:=.str "bin"
def b9p:root≠binn:=by intro z;simp![D.str.injEq]at z;exact GZ! c_
def Hj(x:D):Prop:=∃a b,x=.tup o4_
def Pf(x:D):Prop:=∃a b c,x=.tup o5!
def Hj.key(h:Hj x):∃k,Co x=ψ k:=by let#[a,b,rfl]:=h;exact A_
def Pf.key(h:Pf x):∃k,Co x=ψ k:=by let#[a,b,c,rfl]:=h;exact A_
def Hj.nn(h:Hj x):x≠.non/\x≠root/\x≠binn:=by let#[a,b,rfl]:=h;exact#[?_,?_,?_]<;>(intro z;cases z)
def Pf.nn(h:Pf x):x≠.non:=by let#[a,b,c,rfl]:=h;intro z;cases z
structure OW where
 rows:μ ar_
 its:μ D
 txt:D->μ du!
 num:D->μ D
open Classical in
nonrec def chl(rows:q!)(x:D):μ D:=(rows.filter λq=>q.2=x).map d!
open Classical in
nonrec def wo(rows:q!)(i:D):μ ar_:=rows.filter λq=>q.1≠i
inductive Wn(rows:q!)(i:D):D->Prop
 |here:Gh! Wn i
 |up {x p:D}:a3!∈rows->Gh! Wn p->Gh! Wn x
def Ph(rows:q!)(i p s:D)(rows':q!):Prop:=∃u v,Gh! wo=u++v/\rows'=u++bU!::v/\((s∉chl cM_ p/\chl u p=[])\/∃u',u=u'++[cN!])
def Ge(W:OW)(x:D):Prop:=x∈W.its\/x=root\/x=binn
structure By(W:OW):Prop where
 nd:W.its.Nodup
 nm:∀x∈W.its,Hj x
 rnd:(kj_).Nodup
 ri:∀x,x∈W.rows.map d!↔x∈W.its
 rp:∀i p,bU!∈W.rows->Ge W p
 rk:∃rk:D->Nat,∀i p,bU!∈W.rows->rk p<rk i
 snd:∀x∈W.its,(o6!).Nodup
 sg:∀x∈W.its,∀q∈W.txt x,Pf q.1
 su:∀x∈W.its,∀y∈W.its,∀q∈W.txt x,∀q'∈W.txt y,q.1=q'.1->x=y
 nl:∀x∈W.its,(bU_).length=4
section
def kE:q∈Gh! wo↔q∈rows/\q.1≠i:=by delta wo;rw[NT];simp
def gC:c∈chl rows x↔(c,x)∈rows:=by
 delta chl;rw[NC];show"!i"
 .rintro⟨⟨a,b⟩,h,rfl⟩;rw[NT]at h;let:=h.2;simp at this;rw[<-this];exact h.1
 .intro h;exact#[(c,x),NT.mpr #[h,Q!],χ]
def eY:chl af_ x=chl u x++chl v x:=by delta chl;rw[PF,NM]
def kJ:chl (bU!::v) p=i::chl v p:=by delta chl;rw[OD c!];rfl
def tN(h:p≠x):chl (bU!::v) x=chl v x:=by delta chl;rw[OO ky_]
def uN:(Dj_ cM_).Sublist pX!:=by delta wo;exact(TY).map _
def Ph.chl_same(h:hw!)(nd:fS!):IS! p=Mi i s (chl cM_ p):=by
 let#[u,v,e,rfl,hc]:=h;rw[eY,kJ];let lb:(Dj_ af_).Nodup:=by rw[<-e];exact nd.sublist uN
 obtain⟨Y,h2⟩|⟨u',rfl⟩:=hc
 .delta Mi;rw[MY Y,e,eY,h2];rfl
 .rw[e];let hs:s∈chl xE_ p:=gC.mpr c!;delta Mi;let h2:chl (u'++[cN!]) p=chl u' p++[s]:=by rw[eY,kJ];rfl
  let h3:chl xE_ p=chl u' p++s::chl v p:=by rw[eY,h2];simp
  rw[MM hs,h2,h3];let hu:s∉chl u' p:=λz=>by
   let:=gC.mp z;simp![NM,MO,RM,OE]at lb;rw[NU]at lb;exact lb.2.2 _ (NE this) s c! χ
  rw[lS hu];simp
def Ph.chl_ne(h:hw!)(hx:p≠x):IS! x=chl cM_ x:=by let#[u,v,e,rfl,hc]:=h;rw[eY,tN hx,e,eY]
def Ph.mem(h:hw!):q∈rows'↔q=bU!\/q∈Gh! wo:=by
 let#[u,v,e,rfl,hc]:=h;rw[e];simp![NA,MD];show"!i"
 .rintro(z|z|z)<;>simp[z]
 .rintro(z|z|z)<;>simp[z]
def Ph.nd(h:hw!)(nd:fS!):(rows'.map d!).Nodup:=by
 let#[u,v,e,rfl,hc]:=h;let lb:(Dj_ af_).Nodup:=by rw[<-e];exact nd.sublist uN
 let ni:i∉Dj_ af_:=λz=>by
  let#[q,hq,hi]:=NC.mp z;rw[<-e]at hq;exact(o6_).2 hi
 simp![NM,MO]at lb ni ⊢;rw[NU]at lb ⊢;rw[NA,UZ]at ni;exact#[lb.1,NJ.mpr #[ni.2,lb.2.1],λa ha b J=>?_];obtain rfl|J:=MD.mp J
 .exact λz=>ni.1 (z▸ha)
 .exact lb.2.2 a ha b J
def a0o(h:(i,x)∉rows):chl cM_ x=chl rows x:=by delta chl wo;rw[QB];congr 1;apply PY;intro q hq;simp![ne_eq,decide_not,Bool.and_eq_left_iff_imp,NS,WJ,SW,RZ];rintro rfl z;exact h o7!
def b1q(nd:fS!)(h:(i,x)∈rows):∃u v,chl rows x=u++i::v/\chl cM_ x=u++v:=by
 let#[a,b,e,_]:=kN h;let n1:i∉(a++b).map d!:=by
  rw[e]at nd;simp![NM,MO]at nd ⊢;rw[NU,NJ]at nd;rw[NA,UZ];exact#[λz=>nd.2.2 _ z i c! χ,nd.2.1.1]
 let e2:Gh! wo=a++b:=by
  delta wo;rw[e,PF,OO c!];let keep:∀l:List ar_,i∉l.map d!->l.filter (λq=>decide (q.1≠i))=l:=λl hl=>ON.mpr λq hq=>by
   simp![ne_eq,decide_not,WJ,SW,RZ];exact λz=>hl o8!
  rw[NM,NA,UZ]at n1;rw[keep a n1.1,keep b n1.2]
 exact#[chl a x,chl b x,?_,?_]
 .rw[e,eY,kJ]
 .rw[e2,eY]
def a8q(nd:fS!)(h:a3!∈rows)(hx:x≠i):Gh! Wn x↔Gh! Wn p:=by
 show"!i"
 .intro z;cases z with
  |here=>exact Dl! hx
  |up h2 z=>rw[jO nd h h2];exact z
 .exact λz=>.up h z
def b8i(h:∀p,a3!∉rows)(hx:x≠i):¬Gh! Wn x:=λz=>by
 cases z with
 |here=>exact hx χ
 |up h2 _=>exact h _ h2
def Ph.winv(h:JT! i)(w:By W)(hi:dv!)(hp:Ge W p)(hw:¬Kq! p):By {W with rows:=rows'}:=by
 exact#[w.nd,w.nm,h.nd w.rnd,kl_,kl!,?_,w.snd,w.sg,w.su,w.nl]
 .show x∈rows'.map d!↔x∈W.its;rw[<-w.ri x];show"!i"
  .intro z;let#[q,hq,rfl]:=NC.mp z;obtain rfl|hq:=G5! hq
   .exact(w.ri i).mpr hi
   .exact NE (o6_).1
  .intro z;by_cases hx:x=i
   .subst hx;exact NC.mpr xI!
   .let#[q,hq,rfl]:=NC.mp z;exact KB_ (kE.mpr #[hq,hx])
 .show Ge W b;obtain z|z:=G5! hm
  .cases z;exact hp
  .exact w.rp _ _ (kE.mp z).1
 .let#[rk,ij]:=w.rk;exact#[λx=>if Wn W.rows i x then rk x+rk p+1 else rk x,kl!];obtain z|z:=G5! hm
  .cases z;show"#:";rw[MY hw,MM .here];omega
  .let#[z1,z2]:=kE.mp z;let:=ij _ _ z1;let q:=a8q w.rnd z1 z2;show"#:";by_cases c:Kq! a
   .rw[MM c,MM (q.mp c)];omega
   .rw[MY c,MY (λz=>c (q.mpr z))];show"#E"
def Jg(W:OW)(n:D)(rows':q!):OW:=#[rows',W.its++[n],xJ_,xK!]
def Ph.winv_put(h:JT! n)(w:By W)(hn:n∉W.its)(ht:Hj n)(hp:Ge W p):By fC!:=by
 let nn:n∉W.rows.map d!:=λz=>hn ((w.ri n).mp z);let vy:DQ_ wo n=W.rows:=by
  exact ON.mpr λq hq=>?_;simp![ne_eq,decide_not,WJ,SW,RZ];exact λz=>nn o8!
 let pn:p≠n:=λz=>by
  obtain q|q|q:=hp
  .exact hn (z▸q)
  .exact ht.nn.2.1 (z▸q)
  .exact ht.nn.2.2 (z▸q)
 let im:∀x,x∈(fC!).its↔x∈W.its\/x=n:=λx=>by simp[Jg]
 exact#[?_,aC_,h.nd w.rnd,kl_,kl!,?_,aC_,aC_,kn!,aC_]
 .show(W.its++[n]).Nodup;rw[NU];exact#[w.nd,Q!,λa ha b J=>by simp at J;subst J;exact λz=>hn (z▸ha)]
 .obtain z|rfl:=(im x).mp hx
  .exact w.nm x z
  .exact ht
 .rw[im,<-w.ri x];show"!i"
  .intro z;let#[q,hq,rfl]:=NC.mp z;obtain rfl|hq:=G5! hq
   .exact .inr χ
   .rw[vy]at hq;exact .inl (NE hq)
  .rintro(z|rfl)
   .let#[q,hq,rfl]:=NC.mp z;exact KB_ (AT! vy hq)
   .exact NC.mpr xI!
 .let up:∀y,Ge W y->Ge fC! y:=λy hy=>by
   obtain q|q:=hy
   .exact .inl ((im y).mpr (.inl q))
   .exact .inr q
  obtain z|z:=G5! hm
  .cases z;exact up _ hp
  .rw[vy]at z;exact up _ (Im! z)
 .let#[rk,ij]:=w.rk;exact#[λx=>if x=n then rk p+1 else rk x,kl!];obtain z|z:=G5! hm
  .cases z;show"#:";rw[MY pn,y!];omega
  .rw[vy]at z;let ha:a≠n:=λq=>nn (q▸NE z);let J:b≠n:=λq=>by
    obtain y|y|y:=Im! z
    .exact hn (q▸y)
    .exact ht.nn.2.1 (q▸y)
    .exact ht.nn.2.2 (q▸y)
   show"#:";rw[MY ha,MY J];exact ij _ _ z
 .show(Dj_ kn_).Nodup;split
  .decide
  .rename_i q;exact w.snd x pb_
 .show∀q∈kn_,Pf q.1;split
  .intro q hq;exact(hx_).elim
  .rename_i q;exact w.sg x pb_
 .show∀q∈kn_,∀q'∈xM_,q.1=q'.1->x=y;split
  .intro q hq;exact(hx_).elim
  .rename_i q1;split
   .intro q hq q' bc;exact(ML bc).elim
   .rename_i q2;exact w.su x ((pb!).resolve_right q1) y (((im y).mp hy).resolve_right q2)
 .show(xN_).length=4;split
  .rfl
  .rename_i q;exact w.nl x pb_
def AA(b:D)(nw:a3_):μ du!->μ du!
 |[]=>[]
 |x::r=>if x.1=b then x::(nw++r)else x::AA b nw r
nonrec def wrT(b:D)(nw l:a3_):μ du!:=if b∈l.map d! then AA b nw l else nw++l
def wV(hq:q.1=b):b∉u.map d!->AA b nw (u++q::v)=u++q::(nw++v):=by
 induction u with
 |nil=>intro _;simp[AA,hq]
 |cons x u ih=>
  intro h;rw[MO,MD,UZ]at h;dsimp only[List.cons_append,AA];rw[lA_,ih h.2]
def rD(b:D)(nw l:a3_):∃u v,l=u++v/\wrT b nw l=u++nw++v/\((u=[]/\b∉l.map d!)\/∃u' q,u=u'++[q]/\q.1=b/\b∉u'.map d!):=by
 by_cases h:b∈l.map d!
 .let#[u,v,e,hu]:=kN h;let#[u',r,e1,e2,e3]:=List.map_eq_append_iff.mp e;let#[q,v',e4,e5,e6]:=List.map_eq_cons_iff.mp e3;subst e4;exact#[u'++[q],v',by simp[e1],?_,.inr #[u',q,χ,e5,by rw[e2];exact hu]];delta wrT;rw[MM h,e1,wV e5 (AT! e2 hu)];simp
 .exact#[[],l,χ,by delta wrT;rw[MY h];rfl,.inl cN_]
nonrec def setT(W:OW)(a:D)(l:a3_):OW:={W with txt:=λx=>if x=a then l else W.txt x}
def rH(w:By W)(ha:fD_)(Y:oT!)(h2:∀q∈l,Pf q.1)(h3:∀q∈l,∀y∈W.its,∀q'∈W.txt y,q.1=q'.1->y=a):By pc_:=by
 exact#[w.nd,w.nm,w.rnd,w.ri,w.rp,w.rk,aC_,aC_,kn!,w.nl]
 .show(Dj_ pd!).Nodup;split
  .exact Y
  .exact w.snd x hx
 .show∀q∈pd!,Pf q.1;split
  .exact h2
  .exact w.sg x hx
 .show∀q∈pd!,∀q'∈(if y=a then l else W.txt y),q.1=q'.1->x=y;split
  .rename_i e1;subst e1;split
   .rename_i e2;intro _ _ _ _ _;exact e2.symm
   .intro q hq q' bc e;exact(h3 q hq y hy q' bc e).symm
  .split
   .rename_i e2;subst e2;intro q hq q' bc e;exact h3 q' bc x hx q hq e.symm
   .exact w.su x hx y hy
def BA(W:OW)(a:D)(l:d_):OW:={W with num:=λx=>if x=a then l else W.num x}
def b5m(w:By W)(hl:S_=4):By (BA W a l):=by
 exact#[w.nd,w.nm,w.rnd,w.ri,w.rp,w.rk,w.snd,w.sg,w.su,aC_];show(if x=a then l else W.num x).length=4;split
 .exact hl
 .exact w.nl x hx
end
nonrec def oF(a1 a2 a3 a4 a5 a6:yJ!):μ ck!:=[dv_,fE!,pe!,xS!,("written",.fn a5),("hidden",.fn a6)]
section
variable{a1 a2 a3 a4 a5 a6:yJ!}
def oF1:Je! "parents" bV_=Ev! a1:=by kernel_rfl
def oF2:Es! pg! bV_=Ev! a2:=by kernel_rfl
def oF3:Es! pf! bV_=Ev! a3:=by kernel_rfl
def oF4:Es! pf_ bV_=Ev! a4:=by kernel_rfl
def oF5:Je! "written" bV_=Ev! a5:=by kernel_rfl
def oF6:Je! "hidden" bV_=Ev! a6:=by kernel_rfl
def oM1:Je! "has" bV_=none:=by kernel_rfl
def oM2:Je! "has_item" bV_=none:=by kernel_rfl
end
def rM:Je! "put_behind" ko_=υ/\Je! "take_out" ko_=υ/\Je! "listed" ko_=υ/\Je! "holds" ko_=none:=#[kp!,kp!,kp!,kp!]
inductive Tk
 |ob|par|dir (b:Bool)|nums|wri|hid|row (x:D) (b:Bool)|fol (x:D) (b:Bool)|pre (x:D) (b:Bool)|nm (x:D)
structure Ix where
 pr:D->D->ν
 dm:Bool->D->ν
 nd:D->ν
 ls:D->Bool->μ D
 wr:D->D->ν
 hi:D->ν
 nu:D->μ D
def Jq(V:Ix):Tk->ν
 |.row x b=>V.dm b x
 |.fol x b=>V.dm b x
 |.pre x b=>V.dm b x
 |.nm x=>V.nd x
 |_=>True
def Dc(B:δ)(c:Dd)(P:μ ar_->ν):Prop:=∃k e,c=.dct k e/\el_<=B/\P k
def TF(B:δ)(c:Dd)(l:d_):Prop:=S_<=B/\∃k e,c=.dct k e/\Gq l k
def Ty(t:Az)(ad:ph!)(V:Ix)(B:δ)(c:Dd):Tk->ν
 |.ob=>c=IS_ xT_
 |.par=>Dc B c λk=>kget k root=ψ .non/\kget k binn=ψ .non/\∀i p,V.pr i p->kget k i=ψ p
 |.dir b=>Dc B c λk=>∀x,pi!/\pi_
 |.nums=>Dc B c λk=>∀x,V.nd x->kget k x=ψ (.fn kp_)
 |.wri=>Dc B c λk=>∀s v,V.wr s v->kget k s=ψ v
 |.hid=>Dc B c λk=>∀s,(kget k s).isSome=τ↔V.hi s
 |.row x b=>c=.obj t.B7 (Em! (ad cP!) (ad cP_))
 |.fol x b=>TF B c kq!
 |.pre x b=>TF B c (kq!).reverse
 |.nm x=>c=.lst (V.nu x)
structure Ej(t:Az)(M:Mh)(ad:ph!)(V:Ix)(B:Nat):Prop where
 ty:∀r,Jq V r->∃c,M hz_=ψ c/\Ty t ad V B c r
 inj:∀r r',Jq V r->Jq V r'->ad r=ad r'->r=r'
def Yo(ad:ph!)(V:Ix)(b:yJ!):Prop:=∃r,Jq V r/\ad r=b
def Sm(V V':Ix):Tk->ν
 |.par=>V'.pr=V.pr
 |.dir b=>V'.dm b=V.dm b
 |.nums=>V'.nd=V.nd
 |.wri=>V'.wr=V.wr
 |.hid=>V'.hi=V.hi
 |.fol y b=>V'.ls y b=V.ls y b
 |.pre y b=>V'.ls y b=V.ls y b
 |.nm x=>V'.nu x=V.nu x
 |_=>0=0
def Sm.rfl{V:Ix}:Sm V V r:=by cases r<;>exact Eq.refl _
section
variable{t:Az}{M M':Mh}{o:yJ!}{ad bd:Tk->Addr}{V V':Ix}{W:OW}{B B':Nat}{R:D->Mh->Prop}{c:Dd}{r:Tk}{x:D}{b:Bool}
def Dc.mono(h:Dc B c P)(hB:cQ_)(q:∀k,P k->Q k):Dc B' c Q:=by let#[k,e,Y,h2,h3]:=h;exact#[k,e,Y,NR h2 hB,q k h3]
def Ty.tr(hB:cQ_)(ah:kq_)(l:Jq V r)(s:Sm V V' r)(ty:Ty t ad V B c r):GM! bd r:=by
 cases r with
 |ob=>exact ty.trans (by rw[ah .par ο,ah (.dir τ) ο,ah (.dir θ) ο,ah .nums ο,ah .wri ο,ah .hid ο])
 |par=>let s:=s;exact Gy! ty λk h=>by rw[s];exact h
 |dir b=>let s:=s;exact Gy! ty λk h x=>by rw[s];exact#[λz=>by rw[ah fF_ z];exact(h x).1 z,(h x).2]
 |nums=>let s:=s;exact Gy! ty λk h x z=>by rw[s]at z;rw[ah kS_ z];exact h x z
 |wri=>let s:=s;exact Gy! ty λk h=>by rw[s];exact h
 |hid=>let s:=s;exact Gy! ty λk h=>by rw[s];exact h
 |row x b=>exact ty.trans (by rw[ah cP! l,ah cP_ l])
 |fol x b=>let s:=s;exact xY_
 |pre x b=>let s:=s;exact xY_
 |nm x=>let s:=s;exact ty.trans (by rw[s])
def Ej.go(h:a4!)(hB:cQ_)(ah:kq_)(inj:∀r r',Jq V' r->Jq V' r'->bd r=bd r'->r=r')
  (k:∀r,Jq V' r->(∃c,M' (bd r)=ψ c/\Ty t bd V' B' c r)\/(Jq V r/\M' hz_=M hz_/\Sm V V' r)):HW_ V' B':=⟨λr hr=>by
 obtain z|⟨l,e,s⟩:=k r hr
 .exact z
 .let#[c,e1,e2]:=h.ty r l;exact#[c,by rw[ah r l,e];exact e1,e2.tr hB ah l s],inj⟩
def Ej.cv(h:a4!)(hB:cQ_)(hL:∀r,Jq V' r->Jq V r/\Sm V V' r):IT! V' B':=
 h.go hB p_ (λr r' a b=>h.inj r r' (hL r a).1 (hL r' b).1) λr l=>.inr #[(hL r l).1,χ,(hL r l).2]
def Ej.up(h:a4!)(hB:cQ_)(l0:Jq V r0)(hc:GM! ad r0)(s:∀r,r≠r0->Jq V' r->Jq V r/\Sm V V' r):Ej t (Hi! (ad r0)) ad V' B':=by
 let hL:∀r,Jq V' r->Jq V r:=λr l=>by
  by_cases e:r=r0
  .rw[e];exact l0
  .exact(s r e l).1
 exact h.go hB p_ (λr r' a b=>h.inj r r' (hL r a) (hL r' b)) λr l=>?_;by_cases e:r=r0
 .subst e;exact .inl #[c,mup_same,hc]
 .exact .inr #[hL r l,mup_ne λz=>e (h.inj r r0 (hL r l) l0 z),(s r e l).2]
def uS(l0:Jq V r0)(ha:¬Yo ad V a):Hi! (ad r0) a=M a:=mup_ne λz=>ha #[r0,l0,z.symm]
def Ej.ob(h:a4!):M (ad .ob)=ψ (IS_ xT_):=by let#[_,e,rfl]:=h.ty .ob ο;exact e
def Ej.row(h:a4!)(hd:V.dm b x):Gy_ M kq!/\(kq!).length<=B:=by let#[_,e,rfl]:=h.ty fF_ hd;let#[_,e1,l1,kf,ef,rfl,K]:=h.ty cP! hd;let#[_,e2,l2,kp,ep,rfl,K2]:=h.ty cP_ hd;exact#[#[e,#[kf,ef,kp,ep,e1,e2,K,K2],λz=>by let:=h.inj cP! cP_ hd hd z;cases this],l1]
nonrec def Ix.sl(V:Ix)(x:D)(b:Bool)(l:d_):Ix:={V with ls:=λy c=>if y=x/\c=b then l else V.ls y c}
def yV:(V.sl x b l).ls x b=l:=MM az_
def Ej.sl(h:a4!)(hB:cQ_)(hd:V.dm b x)(hr:Gy_ M' xs)(fr:∀a,a≠ad cP!->a≠ad cP_->M' a=M a)(hl:j!<=B'):Ej t M' ad (V.sl x b xs) B'/\∀a,¬Yo ad V a->M' a=M a:=by
 let#[kf,ef,kp,ep,hf,hp,K,Kp]:=hr.dc;exact#[h.go hB p_ h.inj λr l=>?_,λa ha=>fr a (λz=>ha #[.fol x b,hd,z.symm]) λz=>ha #[.pre x b,hd,z.symm]];let l':Jq V r:=l;by_cases e1:r=.fol x b
 .subst e1;exact .inl #[_,hf,by rw[yV];exact hl,kf,ef,χ,by rw[yV];exact K]
 by_cases e2:r=.pre x b
 .subst e2;exact .inl #[_,hp,by rw[yV];simpa using hl,kp,ep,χ,by rw[yV];exact Kp]
 exact .inr #[l',fr _ (λz=>e1 x4_) (λz=>e2 x4_),?_];cases r with
 |fol y c=>exact MY λz=>e1 eo!
 |pre y c=>exact MY λz=>e2 eo!
 |_=>rfl
def Kk(W:OW):Ix where
 pr:=λi p=>bU!∈W.rows
 dm:=λb x=>match b with|true=>Ge W x|false=>x∈W.its
 nd:=λx=>x∈W.its
 ls:=λx b=>match b with|true=>DQ_ chl x|false=>Dj_ bB!
 wr:=λs v=>∃x∈W.its,∃q∈W.txt x,q.1=s/\q.2.1=v
 hi:=λs=>∃x∈W.its,∃q∈W.txt x,q.1=s/\q.2.2=θ
 nu:=W.num
def Bk(t:Az)(M:Mh)(o:yJ!)(O:aE!)(W:OW)(B:δ):Prop:=∃ad,ad .ob=o/\(∀b,O b↔Yo ad bl_ b)/\IT! bl_ B
def Fr(M:Mh)(O:aE!)(M':Mh)(O':aE!):Prop:=∀b,M b≠υ->¬O b->M' b=M b/\¬O' b
def Fr.refl:Fr M O M O:=λb _ h=>cN_
def Fr.trans{M2:Mh}(Y:Dz_ O1)(h2:Fr M' O1 M2 O2):Fr M O M2 O2:=λb J hr=>by
 let#[e1,e2]:=Y b J hr;let#[e3,e4]:=h2 b x5_ e2;exact#[e3.trans e1,e4]
variable{O:Addr->Prop}
def Bk.mono(h:ap_)(hB:cQ_):D3_ M W B':=by let#[ad,e,hO,hI]:=h;exact#[ad,e,hO,hI.cv hB λr l=>#[l,Sm.rfl]]
def Bk.live(h:ap_){b:yJ!}(J:O b):M b≠none:=by let#[ad,e,hO,hI]:=h;let#[r,l,rfl]:=(hO b).mp J;let#[c,e,_]:=hI.ty r l;rw[e];simp
def Bk.keep(h:ap_)(k:x6!):D3_ M' W B:=by let#[ad,e,hO,hI]:=h;exact#[ad,e,hO,hI.go u! p_ hI.inj λr l=>.inr #[l,k _ ((hO _).mpr #[r,l,χ]),Sm.rfl]]
def qO(w:By W)(h:cR!):∃k,Co x=ψ k:=by
 obtain h|rfl|rfl:=h
 .exact(w.nm x h).key
 .exact A_
 .exact A_
def Ej.noOb(h:a4!)(hm:pp!):Da t.B6 m M kv_:=by simp[Da,h.ob,hm]
def Bk.noOb(h:ap_)(hm:pp!):Da t.B6 m M av_:=by let#[ad,rfl,hO,hI]:=h;exact hI.noOb hm
def Ej.dirV(h:a4!):∃k e,M (ad hA_)=BS! k e/\el_<=B/\∀x,pi!/\pi_:=by let#[_,e,k,ep,rfl,q]:=h.ty hA_ ο;exact#[k,ep,e,q]
def a7o(h:∀x,pi!/\pi_):(kget k x).isSome=decide (V.dm b x):=by
 by_cases z:V.dm b x
 .rw[(h x).1 z,NG z];rfl
 .rw[(h x).2 z,MU z];rfl
def wZ(h:ap_)(hk:aG!)(hR:R x8_ M):FB! Cd:=by let#[ad,rfl,hO,hI]:=h;let#[k2,e2,h2,_,q]:=hI.dirV (b:=τ);let e3:=a7o (x:=x) q;exact j_;rw[show decide (Ge W x)=(FP! k2).isSome from e3.symm]at hR;simpa[Lz,Ay,w2,wl,Ap,Gf,Dq,Aa,hI.ob,oF2,Fq,h2,hk]using hR
def iM(h:ap_)(hk:aG!)(hR:R ya! M):FB! Bx:=by let#[ad,rfl,hO,hI]:=h;let#[k2,e2,h2,_,q]:=hI.dirV (b:=θ);let e3:=a7o (x:=x) q;exact j_;rw[show decide kw_=(FP! k2).isSome from by rw[e3];congr]at hR;simpa[Hq,Ay,w2,wl,Ap,Gf,Dq,Aa,hI.ob,oF3,Fq,h2,hk]using hR
def Ej.numV(h:a4!)(hx:V.nd x):∃k e,M (ad .nums)=BS! k e/\kget k x=ψ (.fn kp_)/\M kp_=sM! (V.nu x):=by let#[_,e,k,ep,rfl,_,q]:=h.ty .nums ο;let#[_,e2,rfl]:=h.ty kS_ hx;exact#[k,ep,e,q x hx,e2]
end
def a0f:∀(xs ys:q_),Ig (xs.map D.int) (ys.map D.int)=(xs==ys)
 |[],[]=>by rfl
 |[],y::ys=>by rfl
 |x::xs,[]=>by rfl
 |x::xs,y::ys=>by simp[Ig,Dv,a0f xs ys]
def Sd(d:D):Prop:=d=.non\/(∃x,d=.str x)\/(∃i,d=.int i)\/∃ns:List Int,d=.tup jN!
def a6w:∀{xs ys:q_},xs.map D.int=ys.map D.int->xs=ys
 |[],[],_=>rfl
 |[],_::_,h=>by simp at h
 |_::_,[],h=>by simp at h
 |x::xs,y::ys,h=>by
  simp![MO,QJ,D.int.injEq]at h;rw[h.1,a6w h.2]
def nR(hx:Sd x)(hy:Sd y):Dv x y=(open Classical in decide (x=y)):=by
 obtain rfl|⟨a,rfl⟩|⟨i,rfl⟩|⟨ns,rfl⟩:=hx<;>obtain rfl|⟨b,rfl⟩|⟨j,rfl⟩|⟨ms,rfl⟩:=hy<;>simp[Dv,a0f]
 all_goals
  rw[RE]
  first
   |(simp![PP,NS,D.tup.injEq];exact#[λz=>by rw[z],a6w])
   |(simp![PP,NS])
   |simp
def zJ:∀(ns:q_),Bj pU_=τ
 |[]=>by rfl
 |n::ns=>by simp[Bj,Bd,zJ ns]
def eI(h:Sd x):Bd x=true:=by obtain rfl|⟨a,rfl⟩|⟨i,rfl⟩|⟨ns,rfl⟩:=h<;>simp[Bd,zJ]
def a7q:∀(ns:q_),Ct pU_<=1
 |[]=>by simp[Ct]
 |n::ns=>by let:=a7q ns;simp[Ct,Io];omega
def kI(h:Sd x):Io x<=5:=by
 obtain rfl|⟨a,rfl⟩|⟨i,rfl⟩|⟨ns,rfl⟩:=h<;>simp[Io]
 let:=a7q ns;omega
def Hj.sd(h:Hj x):Sd x:=by let#[a,b,rfl]:=h;exact .inr pq!
def Pf.sd(h:Pf x):Sd x:=by let#[a,b,c,rfl]:=h;exact .inr yb!
def jB(x:Str):Sd dS!:=Er_ #[x,χ]
def a3h(w:By W)(h:cR!):Sd x:=by
 obtain h|rfl|rfl:=h
 .exact(w.nm x h).sd
 .exact jB _
 .exact jB _
def a1w(hx:Sd x)(hy:Sd y):Eb x y=Df! (!(open Classical in decide (x=y))):=by delta Eb;let:=kI hx;rw[eI hx,eI hy,nR hx hy];rw[MM aV_]
def oO(hx:Sd x)(hy:Sd y):Av x y=ψ (.bl (open Classical in decide (x=y))):=by delta Av;let:=kI hx;rw[eI hx,eI hy,nR hx hy];rw[MM aV_]
section
variable{t:Az}{M:Mh}{R:D->Mh->Prop}
def wA(hR:∀r f p M',M r=υ->M f=υ->M p=υ->r≠f->r≠p->FI_ M' []->f≠p->(∀b,b≠r->b≠f->b≠p->M' b=M b)->R ki_ M'):Gh t.B7 1 (Fx t) Ad ρ M R:=by
 exact#[χ,λr hr=>j_];let nf:∀{f:yJ!},mup M r (.obj t.B7 []) f=υ->f≠r/\M f=none:=λ{f} z=>by
  by_cases e:f=r
  .rw[e,mup_same]at z;rcases z
  .rw[mup_ne e]at z;exact#[e,z]
 intro f hf;let#[f1,f2]:=nf hf;exact#[mup_same,P!,by simp[Co],Q!,?_];simp[wl,Aa,mup_ne,mup_same,OB f1,Hs];intro p hp;let p1:p≠r:=λe=>by rw[e,mup_same]at hp;rcases hp
 rw[pq_]at hp;let p2:p≠f:=λe=>by rw[e,mup_same]at hp;rcases hp
 rw[Dw! p2,Dw! p2,pq_]at hp;simp[Dx,Mq,wl,fC,Aa,mup_ne,mup_same,OB f1,OB p1,Hs,Co];exact hR r f p _ hr f2 hp (OB f1) (OB p1) #[mup_same,#[oY!,1,oY!,1,?_,?_,a4x,a4x],OB p2] (OB p2) λb Y h2 h3=>?_
 .rw[Dw! f1,yd_,yd_,Dw! f1,mup_same]
 .rw[pq_,mup_same]
 .rw[fG_,Dw! h3,Dw! h3,fG_,kx!,kx!,fG_]
end
section
variable{t:Az}{M:Mh}{o:yJ!}{O:Addr->Prop}{W:OW}{B:Nat}{R:D->Mh->Prop}
def a9d(w:By W)(h:a5_):∃p,a3!∈W.rows:=by let#[#[a,p],hq,rfl]:=NC.mp ((w.ri x).mpr h);exact#[p,hq]
def mZ(w:By W)(h:x∉W.its):∀p,a3!∉W.rows:=λp z=>h ((w.ri x).mp (NE z))
def b2r(w:By W):root∉W.its:=λz=>(w.nm _ z).nn.2.1 χ
def c5i(w:By W):binn∉W.its:=λz=>(w.nm _ z).nn.2.2 χ
def d6u(h:Hj x\/x=root\/x=binn):x≠.non:=by
 obtain h|rfl|rfl:=h
 .exact h.nn.1
 .intro z;cases z
 .intro z;cases z
def d4m(w:By W)(h:cR!):x≠.non:=d6u (h.imp_left (w.nm x))
def sR(h:IT! bl_ B)(w:By W)(hi:Hj i){rk:D->δ}(ij:ye_):
  ∀(n:δ) (x:D),rk x<n->Ge W x->∀(R':r_),(Wn W.rows i x->R' (.nx [dw_,M_,M_]) M)->(IT_ (.nx [dw_,ψ .non,M_]))->
   ∃m,Gz! pt!
 |0,x,hn,_,_,_,_=>by omega
 |n+1,x,hn,hx,R',r1,r2=>by
  let#[_,Y,k1,e1,rfl,_,p0,p1,pr]:=h.ty .par ο;let x0:=d4m w hx;let ne:=a1w (a3h w hx) hi.sd;by_cases e:x=i
  .subst e;let:=r1 .here;exact hD!;simpa[Bz,Cp,Go,fT,f2,Aa,fC,Bp,kX x0,ne]using this
  .let st:∀(p:D) (m:δ),FP! k1=ψ p->Gz! [dw_,cT!,M_]->
     Bz gM! gM_ c2_ pt! M R':=λp m hp hw=>by
    let#[k,hk]:=qO w hx;rw[Bz];simpa[Cp,Go,fT,f2,Aa,fC,Bp,kX x0,ne,e,An,w2,wl,Ap,Gf,Dq,h.ob,oF1,Cc,Y,hk,hp]using hw
   let top:FP! k1=ψ .non->yh!->∃m,Gz! pt!:=λhp hr=>by
    let:=r2 (b8i hr e);exact#[1+1,st .non 1 hp ?_];simpa[Bz,Cp,Go,fT,f2,Aa,fC,Bp,Ji]using this
   obtain hx|rfl|rfl:=hx
   .let#[p,hp]:=a9d w hx;let q:=a8q w.rnd hp e;let:=ij _ _ hp;let#[m,hm]:=sR h w hi ij n p a! (Im! hp) R' yi_ (λz=>r2 λy=>z (q.mp y));exact#[m+1,st p m (pr _ _ hp) hm]
   .exact top p0 (mZ w (b2r w))
   .exact top p1 (mZ w (c5i w))
def a3g(h:ap_)(w:By W)(hx:cR!)(hi:Hj i)(hR:Dw_ R (Wn W.rows i x) M):Fb t [a5!,x,i] M R:=by
 let#[ad,rfl,hO,h]:=h;let#[rk,ij]:=w.rk;let#[m,hm]:=sR h w hi ij (rk x+1) x a! hx (EF! (wl jd!))
  (λz=>by simp![z,VT]at hR;simpa[Ay,wl,f2,Aa,fC,Bp,kX hi.nn.1]using hR)
  (λz=>by simp![z,XY]at hR;simpa[Ay,wl,f2,Aa,fC,Bp,Ji]using hR)
 exact j_;exact#[m,hm]
def a8c(h:ap_)(w:By W)(df:fH_)(qw:pu!)(hR:∀b:Bool,(b=τ↔ep_)->R aH_ M):Ea t [a5!,i,x] M R:=by
 exact j_;dsimp only[Hr,Ay,Jx,wT,Ba,wl,Ab,Ad,Aa];simp[pv!];exact iM h df ?_;show"#$"
 .simp only[c1,VT,PL];exact#[h.noOb oM1,?_];exact wZ h qw ?_;by_cases c2:Ge W x
  .simp only[c2,VT,PL,Yy,wT,Ba,wl,Ab,Ad,Aa];exact#[h.noOb cj!,χ,?_];exact a3g h w c2 (w.nm i c1) ?_;exact hR _ (by simp[c1,c2])
  .simp only[c2,XY];exact hR _ (D2! c2)
 .simp only[c1,XY];exact hR _ (D2! c1)
def xS(h:ap_)(w:By W)(df:fH_)(p0:0<=p)(p3:p<=3)
  (hR:∀M',D3_ M' (HX! BA yk_) B->Dz_ O->D5_ M'):Er t [a5!,i,.int p,ar!] M R:=by
 exact j_;exact#[pv!,χ,iM h df ?_];show"#$"
 .simp only[c1,PL]at hR;let#[ad,rfl,hO,hI]:=h;let#[k4,e4,h4,e,hq]:=hI.numV c1;let hq:M (ad (.nm i))=sM! fI!:=hq;let hx:Kl (fI!).length p=ψ p.toNat:=by
   rw[w.nl i c1];delta Kl;rw[MM p0,aN_]
  let fin:D5_ (KW_ (ad (.nm i)) yk_):=by
   exact hR _ #[ad,χ,hO,hI.up u! c1 (by show _=Dd.lst er!;rw[y!]) λr hn l=>pw!] λb _ hr=>#[uS (V:=Kk W) c1 λz=>hr kD!,hr];cases r with
   |nm y=>exact MY λz=>hn (by rw[z])
   |_=>rfl
  simpa[c1,Bv,w2,wl,Ap,Gf,Dq,Aa,hI.ob,oF4,Cc,h4,df,e,Ki,hq,hx]using fin
 .simp only[c1,OY]at hR;let:=hR M h .refl;simpa[c1,Bl]using this
def nX(i:D):setT W i cT_=W:=by
 delta setT;cases W with
 |mk a b c d=>
  congr 1;funext x;split
  .rename_i e;rw[e]
  .rfl
nonrec def cutT(ug:d_)(l:a3_):μ du!:=l.map λq=>(q.1,q.2.1,q.2.2&&!decide (q.1∈ug))
def c4u(l:a3_):cutT [] l=l:=by delta cutT;simp
def lZ(g:d_)(l:a3_):(cutT g l).map d!=l.map d!:=by delta cutT;simp
def c4v(g:d_)(s:D)(l:a3_):cutT [s] (cutT g l)=cutT (g++[s]) l:=by delta cutT;rw[NY];apply OQ;intro q _;dsimp only[Function.comp,List.mem_append];congr 2;rw[Bool.and_assoc];congr 1;by_cases Y:q.1∈g<;>by_cases h2:q.1∈[s]<;>simp[Y,h2]
def c9y(h:s∉l.map d!):cutT [s] l=l:=by
 conv=>rhs;rw[<-VV l]
 apply OQ;intro q hq;let:q.1≠s:=λz=>h o8!;simp[this]
def b7y(w:By W)(hi:dv!)(g:d_):By kD_:=by
 exact rH w hi (by rw[lZ];exact w.snd i hi) er_ pw_
 .show"!b";exact w.sg i hi q0 h0
 .show"!b";exact(w.su i hi y hy q0 h0 q' bc e).symm
def yX(i:D)(l l':a3_):setT hG_ i l'=setT W i l':=by delta setT;congr 1;funext x;dsimp only;split<;>rfl
def tT(i:D)(l:a3_):(hG_).txt i=l:=by simp[setT]
def sJ{P:fJ!}(hi:dv!):(∃x∈W.its,∃q∈(hG_).txt x,P q)↔(∃q∈l,P q)\/∃x∈W.its,x≠i/\∃q∈W.txt x,P q:=by
 show"!i"
 .rintro⟨x,hx,q,hq,h⟩;let hq:q∈yn_:=hq;split at hq
  .exact .inl #[q,hq,h]
  .rename_i c;exact .inr #[x,hx,c,q,hq,h]
 .rintro(⟨q,hq,h⟩|⟨x,hx,c,q,hq,h⟩)
  .exact#[i,hi,q,by rw[tT];exact hq,h]
  .exact#[x,hx,q,by show q∈yn_;rw[MY c];exact hq,h]
def a3l{P:fJ!}:(∃q∈cutT g l,P q)↔∃q∈l,P (q.1,q.2.1,q.2.2&&!decide (q.1∈g)):=
 #[by rintro⟨q,hq,h⟩;let#[q0,h0,rfl]:=NC.mp hq;exact#[q0,h0,h],by rintro⟨q,hq,h⟩;exact#[_,NE hq,h]]
def d2j(hi:dv!)(hn:l'.map d!=l.map d!)(hw:∀s v,(∃q∈l',q.1=s/\q.2.1=v)↔∃q∈l,q.1=s/\q.2.1=v)(h:r≠.hid):Sm (Kk hG_) yr! r:=by
 let ls:∀(y:D) (b:Bool),(yr!).ls y b=(Kk hG_).ls y b:=λy b=>by
  cases b with
  |true=>rfl
  |false=>
   show Ek! l'=Ek! l;split
   .exact hn
   .rfl
 cases r with
 |hid=>exact Dl! h
 |wri=>exact funext λs=>funext λv=>propext (DQ! kE! (Iff.trans (by rw[hw]) (kE!).symm))
 |fol y b=>exact ls y b
 |pre y b=>exact ls y b
 |_=>rfl
abbrev GJ(t:Az):WS:=(Ag ui!
 uj_)
def a7t{x y z m:Int}(hi:dv!)(w:By W):∀(js:q_) (M:Mh) (g:d_) (B:δ) (s9 yz:ac_) (R:r_),B+js.length<4000->D3_ M kD_ B->
  (∀M' ρ,D3_ M' (setT W i (cutT (g++js.map λj=>.tup hI!) cT_)) (B+js.length)->Dz_ O->R ab_ M')->
  Ga (Cb 4) N! (GJ t) (js.map .int) [am!,M_,ψ fK!,ψ dx_,s9,yz] M R
 |[],M,g,B,s9,yz,R,hB,h,hR=>#[ο,hR M _ ky_ .refl]
 |j::js,M,g,B,s9,yz,R,hB,h,hR=>by
  exact am_;let#[ki,df]:=(kF_).key;let#[ad,eo,hO,hI]:=h;let ob:=hI.ob;rw[eo]at ob;let#[k3,e3,h3,_,g1]:=hI.dirV (b:=θ);let g1:=(g1 i).1 hi;let g2:Hi t M _ _ _ (GM_ kD_ d!):=(py!).1;let#[_,h6,k6,e6,rfl,l6',hk6]:=hI.ty .hid ο;let l6:k6.length<big:=by delta big;simp at hB;omega
  dsimp only[List.length_cons]at hB hR;let vz:Ar ys_ (.tup [e0!])=ψ hK!:=by rfl
  let ZY:Im_ fK! (ψ 2)=ψ ys_:=by rfl
  simp[Dq,Cb,Ag,An,wl,f2,Ek,Aa,Au,Ao,fC,Bn,Ac,Af,ZY,vz,At,wT,Ba,DL.w2,Ap,Gf,ob,oF3,Cc,h3,df,g1,Da,g2.ob,Ab,Ad,rM,-List.lookup_eq_none_iff];exact a7b g2 hc! ?_;let rc:=λM1 h h2 h3=>a7t (x:=x) (y:=y) (z:=z) (m:=m) hi w js M1 yu! (B+1) (ψ a7!) (ψ hK!) R h h2 h3;by_cases c:D.tup hI!∈GM_ kD_ d!
  .simp only[c,VT,PL];let q1:D3_ yv! yv_ (B+1):=by
    rw[tT,lZ]at c;exact#[ad,eo,hO,hI.up fK_ ο #[_,_,χ,kH!,λa=>?_] λr hn l=>#[l,d2j hi (by rw[lZ,lZ]) (λs v=>by rw[a3l,a3l]) hn]];let h0:=(hk6 a).trans kE!;exact Iff.trans ?_ (kE!).symm;rw[kH];by_cases e:a=.tup hI!
    .let#[q,hq,e2]:=NC.mp c;rw[MM e];exact#[λ_=>.inl #[_,NE hq,e2.trans e.symm,by simp[e2]],cA_]
    .rw[MY e,h0];exact or_congr ?_ Iff.rfl;rw[a3l,a3l];exact exists_congr λq=>and_congr_right λ_=>and_congr_right λe2=>?_;let e2:q.1=a:=e2;simp[e2,e]
   let q2:Fr M O yv! O:=λb _ hr=>#[uS ο λz=>hr kD!,hr];let:=Fq! (q2.trans f');simpa[Bv,wl,Ap,Gf,Dq,Aa,fC,ob,oF6,Ki,h6,show Co hK!=ψ _ from χ,l6]using this
  .simp only[c,XY];let q1:D3_ M yv_ (B+1):=by
    rw[<-c4v,c9y (by rw[tT]at c;exact c)];exact Bk.mono #[ad,eo,hO,hI] fK_
   let:=Fq! f';simpa[Bl]using this
def d5o(h:ap_)(w:By W)(df:fH_)(hB:hK_)(z0:0<=z)(m1:1<=m)(m16:z+m<=16)
  (hR:∀M',D3_ M' (HX! setT (cutT kJ_ cT_)) bE_->Dz_ O->D5_ M'):
  Jc t [a5!,i,.tup kF!,et!] M R:=by
 exact j_;dsimp only[Ma,Ag,At,Je,wT,Ba,wl,Ab,Ad,Aa];simp[pv!];exact iM h df ?_;show"#$"
 .simp only[c1,PL]at hR;let hr:Tb fb! uh_ [am!,M_,ψ fK!,ψ dx_,υ,υ]=ψ (Hn_ yA!):=by
   let e1:Ak fK! cz_=Da_ z:=χ;let e2:(z+m - z).toNat=m.toNat:=by congr 1;omega
   let b:-1000<=z/\z<=100000/\-1000<=z+m/\z+m<=100000:=by omega
   simp[Tb,f2,Aa,fC,e1,Ar,b,e2,Sr,Function.comp]
  let:=a7t (z:=z) (m:=m) c1 w yA! M [] B υ υ hD_ aV_ (by rw[c4u,nX];exact h) (λM' ρ h2 f2=>hR M' (by
   simp![QD,NY,MJ,PX]at h2;exact Ig! a!) f2)
  simp![c1,VT,SW,NW,OY,Bl,Cs,Hb,Dq,hr];show"#E"
 .simp only[c1,OY]at hR;let:=hR M (h.mono a!) .refl;simpa[c1,Oh]using this
def JN(eh:D)(U l:a3_):Prop:=(U=[]/\eh∉l.map d!)\/∃u' q,U=u'++[q]/\q.1=eh/\eh∉u'.map d!
def JN.names(h:JN eh U (U++v)):Mi s eh ((U++v).map d!)=Dj_ kK_:=by
 obtain⟨rfl,h⟩|⟨u',q,rfl,e,h⟩:=h
 .delta Mi;rw[MY h];rfl
 .delta Mi;rw[MM fy_];simp![NM,MO,RM,OE,QW,QD];rw[e,lS h]
def a8o(w:By W)(hi:dv!)(hl:W.txt i=U++v)(hs:Pf s)(hf:yB!):By kL!:=by
 let fi:=hf i hi;rw[hl]at fi;let p:(kK_).Perm (hM!::(U++v)):=TN;exact rH w hi ?_ er_ pw_
 .rw[(p.map _).nodup_iff,MO,NJ];exact#[fi,by rw[<-hl];exact w.snd i hi]
 .obtain rfl|z:=MD.mp yC_
  .exact hs
  .exact w.sg i hi q yD_
 .obtain rfl|z:=MD.mp yC_
  .exact Df_ (NC.mpr #[q',bc,e.symm]) (hf y hy)
  .exact(w.su i hi y hy q yD_ q' bc e).symm
def b8f(hI:IT! yE_ B)(hk:∀a v,(bl_).wr a v->kget k5 a=ψ v)(h5:k5.length<B)(hi:dv!)(hl:W.txt i=U++v)(J:l=Dj_ kK_)(hf:yB!):
  Ej t (mup M ph_ (.dct (Br k5 s c) e5)) ad (Kk kL!) B:=by
 let hm:∀{P:fJ!},(∃q∈U++hM!::v,P q)↔P hM!\/∃q∈W.txt i,P q:=λ{P}=>by
  rw[hl];simp![NA,MD];show"!i"
  .rintro⟨q,z|z|z,h⟩
   .exact .inr yF_
   .exact .inl (z▸h)
   .exact .inr #[q,.inr z,h]
  .rintro(h|⟨q,z|z,h⟩)
   .exact#[_,.inr N_,h]
   .exact yF_
   .exact#[q,.inr eh_,h]
 let hx:∀{P:fJ!},(∃x∈W.its,∃q∈(kL!).txt x,P q)↔P hM!\/∃x∈W.its,∃q∈W.txt x,P q:=λ{P}=>by
  let h0:=sJ (l:=W.txt i) (P:=P) hi;rw[nX]at h0;rw[sJ hi,hm,h0,or_assoc]
 exact hI.up u! ο #[_,_,χ,NR hu_ h5,λa w hw=>?_] λr hn l'=>#[l',?_]
 .rw[kH];obtain⟨rfl,rfl⟩|z:=hx.mp hw
  .rw[y!]
  .let#[x,hx,q,hq,e,_]:=id z;rw[MY λy=>hf x hx (by rw[<-y,<-e];exact NE hq)];exact hk a w z
 .let ls:∀(y:D) (b:Bool),(Kk kL!).ls y b=(yE_).ls y b:=λy b=>by
   cases b with
   |true=>exact(MY λz=>by exact Bool.noConfusion (z.2)).symm
   |false=>
    show Ek! _=if y=i/\θ=θ then l else(W.txt y).map d!
    by_cases z:y=i
    .rw[MM z,MM #[z,χ],J]
    .rw[MY z,MY λy=>z y.1]
  cases r with
  |wri=>exact Dl! hn
  |hid=>exact funext λa=>F1! (Iff.trans (hx) #[λz=>z.resolve_left λy=>Bool.noConfusion y.2,λz=>.inr z])
  |fol y b=>exact ls y b
  |pre y b=>exact ls y b
  |_=>rfl
def JO(t:Az):WS:=(Ag nz!
 (Ag uc_
 (Ag ud_
 (An 5 gO_))))
nonrec def sgn(h n:Int)(q:δ×δ):D×D×Bool:=(.tup [aF!,ar!,.int q0!],.str #[[q.1].toArray],τ)
nonrec def eN(q:δ×δ):D:=.tup B4!
def uL:∀(cs:i_) (k0:δ) (M:Mh) (W:OW) (B:δ) (U v:a3_) (eh:D) (ka:MK) (zc zd qz:ac_) (R:r_),B+aQ!<4000->D3_ M W B->By W->i∈W.its->W.txt i=U++v->JN eh U (U++v)->Co eh=ψ ka->
  (∀x∈W.its,∀k':Nat,k0<=k'->D.tup yK_∉Dj_ bB!)->
  (∀M' ρ,D3_ M' yL_ (B+aQ!)->By yL_->Dz_ O->R ab_ M')->
  Ga (Nj 6 7) N! (JO t) ((pC_).map eN) [am!,cU!,M_,dy_,ψ tx,ψ eh,zc,zd,qz] M R
 |[],k0,M,W,B,U,v,eh,ka,zc,zd,qz,R,hB,hO,w,hi,hl,J,hk,hf,hR=>by
  exact#[ο,hR M _ ?_ ?_ .refl]
  .simp only[List.zipIdx_nil,RM,NP,RC,Nat.add_zero];rw[<-hl,nX];exact hO
  .simp only[List.zipIdx_nil,RM,NP];rw[<-hl,nX];exact w
 |c::cs,k0,M,W,B,U,v,eh,ka,zc,zd,qz,R,hB,hO,w,hi,hl,J,hk,hf,hR=>by
  exact am_;let#[ki,df]:=(kF_).key;let#[ad,eo,hO,hI]:=hO;let ob:=hI.ob;rw[eo]at ob;let#[k3,e3,h3,_,g1]:=hI.dirV (b:=θ);let g1:=(g1 i).1 hi;let g2:Hi t M _ _ _ pD!:=(py!).1;let lt:(pD!).length<=B:=(py!).2;simp![MX]at hB hR;let hs:Pf bW_:=yN!;let oz:∀x∈W.its,D.tup kO!∉Dj_ bB!:=λx hx=>hf x hx k0 u!;let vz:Ar aq_ (.tup [.int (k0:δ)])=ψ bW_:=by rfl
  let hm:Da t.B7 "put_behind" M yO!:=by simp![Da,g2.ob,rM.1,and_self]
  let hx:∀R',Ij! e9_ pE! M R'=R' yO! M:=by
   intro R';simp[w2,wl,Ap,Gf,ob,oF3,Cc,h3,df,g1,Dq,Aa]
  show JO t pE_ M _;show Fq_ nz! pE_;let e8:IU! v! ny_ pE_=ψ bW_:=by
   rfl
  simp![Ag,An,wl,e8,List.set_cons_succ,List.set_cons_zero,Bg,Ba,hx];exact#[hm,χ,?_];exact kA g2 hc! hk (by rw[MD,UZ];exact#[hs.nn,oz i hi]) a! λM1 hr fr=>?_;let#[hJ,fj]:=hI.sl fK_ (b:=θ) hi hr fr (by let#[u,v,e1,e2,_]:=pE bW_ eh pD!;rw[e2];rw[e1]at lt;simp at lt ⊢;omega);let#[_,h5,k5,e5,rfl,l5',hk5]:=hI.ty .wri ο;let ne:∀{r:Tk},Jq bl_ r->r≠.fol i θ->r≠.pre i θ->M1 hz_=M hz_:=λl Y h2=>fr _ (λz=>Y yR!) λz=>h2 yR!;let h5':=(ne (r:=.wri) ο nofun nofun).trans h5;let ZZ:=(ne (r:=.ob) ο nofun nofun).trans hI.ob;rw[eo]at ZZ;let l5:k5.length<big:=by delta big;omega
  let q1:=b8f (c:=eb_) (e5:=Il k5 bW_ e5) hJ hk5 a! hi hl (AT! hl J.names) oz;let q2:Fr M O yR_ O:=λb _ hr=>#[(uS (r0:=.wri) ο λz=>hr kD!).trans (fj b λz=>hr kD!),hr];let q3:=a8o (c:=eb_) w hi hl hs oz;let hU:U++yT!::v=(U++[yT!])++v:=by simp
  let rc:=λka M2 Y h2 h3 h4 h5 h6 h7 h8 h9=>uL (i:=i) (b:=b) (tx:=tx) (h:=h) (n:=n) cs (k0+1) M2 yU_ (B+1) (U++[pF_]) v bW_ ka (ψ yQ_) (ψ cF!) (ψ bW_) R Y h2 h3 h4 h5 h6 h7 h8 h9;let:=rc _ _
   (a!) #[ad,eo,hO,q1] q3 hi (by rw[tT,hU]) (.inr #[U,_,χ,χ,λz=>oz i hi yX!]) hc!
   (λx hx k' cm z=>by
    let tx:(yU_).txt x=if x=i then U++pF_::v else W.txt x:=χ
    rw[tx]at z;by_cases y:x=i
    .subst y;rw[y!]at z;simp![NM,MO,NA,MD]at z;obtain z|z|z:=z
     .exact hf x hi k' a! yX!
     .simp at z;omega
     .exact hf x hi k' a! (by rw[hl,NM];exact MF _ z)
    .rw[MY y]at z;exact hf x hx k' a! z)
   (λM' ρ Y h2 f'=>hR M' ρ (by
    rw[yX]at Y;rw[show B+(cs.length+1)=B+1+cs.length by omega,List.zipIdx_cons];simpa[sgn]using Y) (by
    rw[yX]at h2;simpa[sgn]using h2) (q2.trans f'))
  let hp:∀R',Bv ud! gO_ (wl bw_) pE! M1 R'=R' (.nx pE!) yR_:=by
   intro R';simp[Bv,wl,Ap,Gf,Dq,Aa,fC,ZZ,oF5,Ki,h5',show Co bW_=ψ _ from χ,l5]
  simp![hp];show"#E"
def b8h(hO:ap_)(w:By W)(df:fH_)(ze:Co b=ψ kb)(hB:hK_)(hs:hP!)
  (hf:∀x∈W.its,∀k':Nat,D.tup yK_∉Dj_ bB!)
  (hR:∀M',D3_ M' y2! bE_->By y2!->Dz_ O->D5_ M'):
  He t [a5!,.tup bF!,i,b,bF_] M R:=by
 exact j_;simp![Jz,Ag,At,Je,wT,Ba,wl,Ab,Ad,Aa];simp[hO.noOb oM2];exact iM hO df ?_;show"#$"
 .simp only[c1,PL]at hR;let#[U,v,e1,e2,e3]:=rD b hP_ cT_;let hl:b7!<=16:=by simpa[Str.length]using hs
  let hi:Wq aa! [am!,cU!,M_,dy_,ψ aT!,dy_,υ,υ,υ]=ψ (Ek_ eN):=by
   rfl
  let:=uL (b:=b) (tx:=bF_) s.cps.toList 0 M W B U v b kb υ υ υ hD_ a! hO w c1 e1 (Do! e1 e3) ze (λx hx k' _=>hf x hx k')
   (λM' ρ Y h2 f'=>hR M' (by rw[<-e2]at Y;exact Y.mono a!) (by rw[<-e2]at h2;exact h2) f')
  simp![c1,VT,SW,NW,OY,Bl,An,wl,Cs,Hb,Dq];show"#E"
 .simp only[c1,OY]at hR;let:=hR M pG! w .refl;simpa[c1,Oh]using this
end
def eB{N:Mh}(J:N b≠υ)(hq:N q=υ):b≠q:=λz=>J (AT! z hq)
section
variable{t:Az}{M:Mh}{ρ:Ae}{R:Fl->Mh->Prop}
def c6k(h:f ρ M λv M1=>fo ρ M1 λd M2=>fi ρ M2 λy M3=>Dq qL_ λM4=>q ρ M4 R):DL! (Bv fo fi f) q:=by exact h
def a4v(h:y4_):DL! (Bg f) q:=h
def vH{Q:f7!}(h0:y5!)(Y:fA_)(hM:M o=ψ pG_)(hx:DY! x=ψ B!)(hp:bG_)(hk:aU!)(hl:cY_)
  (hQ:Q f6_):Ap C x cU_ ρ M (λd M2=>wl fi ρ M2 λy M3=>Dq qL_ λM4=>Q M4):=by
 let e:Ki M B! y v=ψ f6_:=by simp[Ki,hp,hk,hl]
 simp![Ap,wl,h0,Gf,hM,PL,hx,Dq,Y,e];exact hQ
def d7s{f1 f2:n_}(h0:∀K,IU_ fo=K d M)(ho:lH!)(Y:fO!)(h2:hR!)(k:g [d,a,b] M K):Ba C m 3 g fo y6! ρ M K:=by delta Ba Ab Ad;rw[h0];simp![wl,Y,h2];exact pH_
def FV(t:Az):WS:=Ag t1_
 (Ag t3!
 (Ag t4!
 (Ag zU!
 t5!)))
end
section
variable{t:Az}{M M' M1:Mh}{ad bd:Tk->Addr}{V V':Ix}{B B':Nat}{x:D}{b:Bool}{ρ:Ae}{R:Fl->Mh->Prop}
def Ej.lv(h:a4!)(l:Jq V q):M (ad q)≠none:=by let#[c,e,_]:=h.ty q l;rw[e];simp
def Ej.alloc{N:Tk->ν}(h:a4!)(hB:cQ_)(ah:kq_)(cs:y7!)(nw:y7_)(ni:∀q q',N q->N q'->bd q=bd q'->q=q')
  (hd:∃c,M' (ad rd)=ψ c/\GM! bd rd)(nt:∀q,N q->∃c,M' (bd q)=ψ c/\GM! bd q)(k:∀q,Jq V q->q≠rd->M' (ad q)=M (ad q)/\Sm V V' q)(lr:Jq V rd):HW_ V' B':=by
 exact h.go hB ah (λq q' l l' e=>?_) λq l=>?_
 .obtain l|l:=cs q l<;>obtain l'|l':=cs q' l'
  .rw[ah q l,ah q' l']at e;exact h.inj q q' l l' e
  .rw[ah q l]at e;exact Df_ (e▸nw q' l') (h.lv l)
  .rw[ah q' l']at e;exact Df_ (e▸nw q l) (h.lv l')
  .exact ni q q' l l' e
 .obtain l|l:=cs q l
  .by_cases e:q=rd
   .subst e;rw[ah q l];exact .inl hd
   .exact .inr #[l,k q l e]
  .exact .inl (nt q l)
def b3i{N:Tk->ν}(lr:Jq V rd)(ah:kq_)(cs:y7!)(nw:y7_)(k:∀a,M a≠υ->a≠ad rd->M' a=M a):F1_ V':=λa ha hn=>by
 exact#[k a ha λz=>hn #[rd,lr,z.symm],?_];rintro⟨q,l,e⟩;obtain l|l:=cs q l
 .exact hn #[q,l,by rw[<-ah q l];exact e]
 .exact ha (e▸nw q l)
nonrec def Ix.nw(V:Ix)(x:D)(b:Bool):Ix:={V.sl x b []with dm:=λc y=>V.dm c y\/(c=b/\y=x)}
def zK(h:a4!)(hx:¬V.dm b x)(hk:aG!)(hB:B<3990)(hf:∀{a1 a2 a3 a4 a5 a6:yJ!},GG! bV_ f=ψ (.fn (match b with|true=>a2|false=>a3)))(e0:za!)(e1:za_)
  (hR:∀M' bd,bd .ob=ad .ob->F1_ pJ_->HW_ pJ_ (B+1)->q ρ M' R):DL! (Bv (Ap t.B6 f i!) p! gL_) q:=by
 exact c6k (wA λr f p M1 z1 z2 z3 n1 n2 hr n3 fr=>?_);let#[kd,ed,hd,ld,kv]:=h.dirV;let m1:∀a,M a≠υ->M1 a=M a:=λa ha=>fr a (eB ha z1) (eB ha z2) (eB ha z3);let ob:=DQ! zb_ h.ob;let hd1:=(m1 _ kU!).trans hd;exact vH (p:=ad hA_) e0 e1 ob (hf.trans (by cases b<;>rfl)) hd1 hk a2_ ?_
 let -nondep bd:Tk->Addr:=λq=>if q=.row x b then r else if q=.fol x b then f else if q=.pre x b then p else ad q
 let a1:bd fF_=r:=MM χ;let a2:bd cP!=f:=HJ! c!;let a3:bd cP_=p:=(MY c!).trans (HJ! c!);let ah:∀q,Jq V q->bd q=ad q:=λq l=>DQ! pK_ ((pK_).trans pK_);let cs:∀q,Jq pJ_ q->Jq V q\/zc_:=λq l=>by
  cases q with
  |row y c=>exact l.imp_right λz=>.inl eo!
  |fol y c=>exact l.imp_right λz=>Er_ eo!
  |pre y c=>exact l.imp_right λz=>Dt_ eo!
  |_=>exact .inl l
 let nw:∀q,zc_->M (bd q)=none:=by
  rintro q (rfl|rfl|rfl)
  .rw[a1];exact z1
  .rw[a2];exact z2
  .rw[a3];exact z3
 let#[kf,ef,kp,ep,hf,hp,K,Kp]:=hr.dc;let md:∀{c:Dd} {a:yJ!},M a=υ->mup M1 (ad hA_) c a=M1 a:=λha=>Dw! (OB (eB kU! ha));exact hR _ bd ze_ (b3i (rd:=.dir b) ο ah cs nw λa ha hn=>(pL_).trans (m1 a ha)) ?_;exact h.alloc fK_ ah cs nw ?_ #[_,mup_same,_,_,χ,kH!,λy=>?_] ?_ (λq l hn=>Gq! (h.inj q hA_ l ο z)) ο
 .rintro q q' (rfl|rfl|rfl) (rfl|rfl|rfl) e
  .rfl
  .rw[a1,a2]at e;exact ξ e n1
  .rw[a1,a3]at e;exact ξ e n2
  .rw[a1,a2]at e;exact Kh_ n1
  .rfl
  .rw[a2,a3]at e;exact ξ e n3
  .rw[a1,a3]at e;exact Kh_ n2
  .rw[a2,a3]at e;exact Kh_ n3
  .rfl
 .rw[kH];by_cases c:y=x
  .rw[MM c,c,a1];exact#[cA_,λz=>ξ (.inr az_) z]
  .rw[MY c];exact#[λz=>by let z:=z.resolve_right λw=>c w.2;rw[ah (.row y b) z];exact(kv y).1 z,λz=>(kv y).2 λw=>z (.inl w)]
 .rintro q (rfl|rfl|rfl)
  .rw[a1];exact#[_,(md z1).trans hr.ob,by show Dd.obj _ _=Dd.obj _ (Iv! (bd cP!) (bd cP_));rw[a2,a3]]
  .rw[a2];exact#[_,(md z2).trans hf,by show TF _ _ zh!;rw[yV];exact#[OA _,_,_,χ,K]]
  .rw[a3];exact#[_,(md z3).trans hp,by show TF _ _ (zh!).reverse;rw[yV];exact#[OA _,_,_,χ,Kp]]
 .cases q with
  |dir c=>exact funext λy=>F1! #[λz=>z.resolve_right λw=>hn (by rw[w.1]),.inl]
  |fol y c=>exact MY λz=>hx zj!
  |pre y c=>exact MY λz=>hx zj!
  |_=>rfl
nonrec def Ix.nn(V:Ix)(x:D)(l:d_):Ix:={V with nd:=λy=>V.nd y\/y=x,nu:=λy=>if y=x then l else V.nu y}
def b6v(h:a4!)(hx:¬V.nd x)(hk:aG!)(hB:B<3990)(e0:za!)(e1:za_)
  (hR:∀M' bd,bd .ob=ad .ob->F1_ pN_->HW_ pN_ (B+1)->R ab_ M'):Bv nu! p! t4_ ρ M R:=by
 exact#[P!,zk!,λq z=>?_];let#[_,hd,kd,ed,rfl,ld,kv]:=h.ty .nums ο;let m1:∀{c:Dd} a,M a≠υ->Hi! q a=M a:=λa ha=>Kd! ha z;exact vH e0 e1 (DQ! zb_ h.ob) oF4 ((m1 _ kU!).trans hd) hk a2_ ?_
 let -nondep bd:Tk->Addr:=λr=>if r=.nm x then q else ad r
 let a1:bd kS_=q:=MM χ;let ah:∀r,Jq V r->bd r=ad r:=λr l=>MY λz=>hx zc!;let cs:∀r,Jq pN_ r->Jq V r\/r=.nm x:=λr l=>by
  cases r with
  |nm y=>exact l.imp_right λz=>by rw[z]
  |_=>exact .inl l
 let nw:∀r,r=.nm x->M (bd r)=none:=λr e=>by rw[e,a1];exact z
 exact hR _ bd ze_ (b3i (rd:=.nums) ο ah cs nw λa ha hn=>(pL_).trans (m1 a ha)) ?_;exact h.alloc fK_ ah cs nw (λr r' e e' _=>e.trans e'.symm) #[_,mup_same,_,_,χ,kH!,λy hy=>?_] (λr e=>?_) (λr l hn=>Gq! (h.inj r .nums l ο z)) ο
 .rw[kH];by_cases c:y=x
  .rw[MM c,c,a1]
  .rw[MY c,ah (.nm y) zl!];exact kv y zl!
 .subst e;rw[a1];exact#[_,(Dw! (OB (eB kU! z))).trans mup_same,by show Dd.lst _=Dd.lst (FF! x x);rw[y!];rfl]
 .cases r with
  |nums=>exact Dl! hn
  |nm y=>exact MY λz=>hx (Do! z l)
  |_=>rfl
end
section
variable{t:Az}{M:Mh}{o:yJ!}{O:Addr->Prop}{W:OW}{B:Nat}{R:D->Mh->Prop}
def c0v{V:Ix}(h:a4!)(hi:Hj i)(hl:el_<=B)(h0:kget k root=ψ .non)(Y:kget k binn=ψ .non)(hp:∀i p,V.pr i p->kget k i=ψ p):
  Ej t (Kv! hy_ (Br k i x)) ad {V with pr:=λa p=>(V.pr a p/\a≠i)\/(a=i/\p=x)} (B+1):=by
 exact h.up fK_ ο #[_,_,χ,kH!,?_,?_,?_] λr hn l=>pw!
 .rw[oX hi.nn.2.1];exact h0
 .rw[oX hi.nn.2.2];exact Y
 .rintro a p (⟨z,y⟩|⟨rfl,rfl⟩)
  .rw[oX (OB y)];exact hp a p z
  .rw[jU]
 .cases r with
  |par=>exact Dl! hn
  |_=>rfl
def a5g{o:D}:(Mi n o xs).length=j!+1:=by let#[u,v,e1,e2,_]:=pE n o xs;rw[e1,e1.symm,e2,e1];simp;omega
def c3n(h:∀a,¬P a->M' a=M a):Fr M P M' P:=λa _ hn=>#[h a hn,hn]
def d2r(hO:ap_)(w:By W)(hn:n∉W.its)(ht:Hj n)(k9:dC!)(ze:Co b=ψ kb)(hB:hK_)(hg:JL_ n)
  (hR:∀M' O',GN! fC! bE_->Dz_ O'->D5_ M'):Jb t [a5!,n,a,b] M R:=by
 let#[kn,gj]:=ht.key;let hp:Ge W fR_:=by split;assumption;exact .inr ed!
 let nP:¬Ge W n:=λz=>z.elim hn λz=>z.elim ht.nn.2.1 ht.nn.2.2;exact j_;generalize hK:zq!=KK;let g7:∀ρ' M',R .non M'->KK c0! M':=λρ' M' z=>by rw[<-hK];exact z
 let key:∀pl,pl=fR_->FV t [am!,bA_,ψ a,dy_,ψ pl] M KK:=by
  intro pl epl;rw[<-epl]at hg hp;let#[kpl,hkpl]:=qO w hp;let#[ad,eo,hO,hI]:=hO;let pn:n∉D.non::DQ_ chl pl:=by
   rw[MD,UZ];exact#[ht.nn.1,λz=>mZ w hn pl pQ!]
  subst eo;let#[_,Y,k1,e1,rfl,l1,p0,p1,pr]:=hI.ty .par ο;let v0:Aa 1 zr_=ψ n:=χ;let f0:Aa 0 zr_=ψ kv_:=χ;exact vH f0 v0 hI.ob oF1 Y gj a2_ ?_;let I1:=c0v (e:=Il k1 n e1) (x:=pl) hI ht l1 p0 p1 pr;let F1:Fr M (Yo ad bl_) (mup M hy_ (.dct (Br k1 n pl) (Il k1 n e1))) (Yo ad bl_):=c3n λa ha=>uS ο ha;let#[k2,e2,h2,_,kv]:=I1.dirV (b:=τ);let r1:=I1.row (b:=τ) hp;exact a4v (d7s (λR'=>?_) (by simp![Da,r1.1.ob,rM.1,and_self]) χ χ (kA r1.1 gj ze pn (by let:=r1.2;omega) λM2 R2 K2=>?_))
  .simp[w2,wl,Ap,Gf,I1.ob,oF2,Cc,h2,hkpl,(kv pl).1 hp,Dq,Aa]
  let#[I2,f2]:=I1.sl (b:=τ) (B':=B+2) a! hp R2 K2 zs!;exact zK (b:=τ) I2 nP gj a! oF2 χ χ λM3 a3 o3 F3 I3=>?_;exact zK (b:=θ) I3 (λz=>z.elim hn λy=>by exact Dd_ (y.1)) gj a! oF3 (FF_ o3) χ λM4 a4 o4 F4 I4=>?_;exact b6v I4 hn gj a! (by rw[o4,o3];rfl) χ λM5 a5 o5 F5 I5=>g7 _ _ ?_;let F:=((F1.trans (c3n f2)).trans F3).trans (F4.trans F5);let hm:∀q,q∈rows'↔q=(n,pl)\/q∈W.rows:=λq=>by
   rw[hg.mem,kE];exact UP #[λz=>z.1,λz=>#[z,λe=>mZ w hn q.2 (Do! e z)]]
  let wn:DQ_ wo n=W.rows:=ON.mpr λq hq=>by simpa using λz=>mZ w hn q.2 o7!
  let cn:=List.eq_nil_iff_forall_not_mem.mpr λc hc=>nP (Im! (gC.mp hc));let np:pl≠n:=λz=>nP (z▸hp);let et:∀{P:fJ!},(∃x∈W.its++[n],∃q∈kn_,P q)↔∃x∈W.its,∃q∈W.txt x,P q:=λ{P}=>by
   show"!i"
   .rintro⟨x,hx,q,hq,h⟩;by_cases c:x=n
    .rw[MM c]at hq;exact(hx_).elim
    .rw[MY c]at hq;exact#[x,(oX_).resolve_right λz=>c kW_,q,hq,h]
   .rintro⟨x,hx,q,hq,h⟩;exact#[x,MV _ hx,q,by rw[MY λz:x=n=>hn (z▸hx)];exact hq,h]
  let hL:∀r,Jq kX! r↔Jq (zw!) r:=λr=>by
   let d:∀(c:Bool) (y:D),(kX!).dm c y↔((bl_).dm c y\/(c=τ/\y=n))\/(c=θ/\y=n):=λc y=>by
    cases c with
    |true=>
     show"!i"
     .rintro(z|z)
      .exact .inl ((NA.mp z).imp .inl λz=>#[χ,eK!])
      .exact .inl fW!
     .rintro((z|z)|z)
      .exact Or.imp_left (MV _) z
      .exact .inl (by rw[z.2];exact MF _ kY!)
      .exact Dd_ (z.1)
    |false=>show y∈W.its++[n]↔(y∈W.its\/_)\/_;simp
   cases r with
   |row y c=>exact d c y
   |fol y c=>exact d c y
   |pre y c=>exact d c y
   |nm y=>show y∈W.its++[n]↔y∈W.its\/y=n;simp
   |_=>exact Iff.rfl
  exact hR M5 (Yo a5 kX!) #[a5,o5.trans (o4.trans o3),zw_,I5.cv a! λr l=>#[(hL r).mp l,?_]] λc hc hr=>?_
  .let ls:∀(y:D) (c:Bool),(kX!).ls y c=(zw!).ls y c:=λy c=>by
    show _=if y=n/\c=θ then[]else if y=n/\c=τ then[]else if y=pl/\c=τ then Mi n b zv_ else(bl_).ls y c
    cases c with
    |true=>
     rw[bY!];show IS! y=_;by_cases c1:y=n
     .rw[MM pS!,c1,hg.chl_ne np,wn,cn]
     .rw[zy!];by_cases c2:y=pl
      .rw[MM #[c2,χ],c2,zy_,wn]
      .rw[MY λz=>c2 z.1,hg.chl_ne (OB c2),wn];rfl
    |false=>
     show Dj_ xM_=_;by_cases c1:y=n
     .rw[MM c1,MM pS!];rfl
     .rw[MY c1,zy!,bY!,bY!];rfl
   cases r with
   |par=>exact funext λi=>funext λp=>F1! ((hm bU!).trans #[λz=>z.elim zA! λz=>.inl #[z,λe=>mZ w hn p (e▸z)],λz=>z.elim (λz=>.inr z.1) λz=>.inl eo!])
   |dir c=>exact funext λy=>F1! (hL (.row y c))
   |nums=>exact funext λy=>F1! (hL (.nm y))
   |wri=>exact funext λs=>funext λv=>F1! et
   |hid=>exact funext λs=>F1! et
   |fol y c=>exact ls y c
   |pre y c=>exact ls y c
   |nm y=>rfl
   |_=>rfl
  .let#[f1,f2]:=F c hc λz=>hr kZ_
   exact#[f1,by rintro⟨r,l,e⟩;exact f2 #[r,(hL r).mp l,e]]
 let hh:∀K:D->Mh->Prop,Cd t [a5!,a] M K->Ba t.B6 "has" 2 gx_ i! cB_ [am!,bA_,ψ a,dy_,υ] M K:=λK uh=>#[hO.noOb cj!,χ,uh];exact hh _ (wZ hO k9 ?_);by_cases c:Ge W a
 .rw[NG c];exact key a (by rw[MM c])
 .rw[MU c];exact key binn (by rw[MY c])
def uA(hO:ap_)(w:By W)(df:fH_)(qw:pu!)(oq:Co s=ψ ks)(hB:hK_)
  (hR:∀M',(ep_->∀rows',Ph W.rows i x s rows'->Bk t M' o O {W with rows:=rows'} bE_)->(¬ep_->Bk t M' o O W bE_)->Dz_ O->D5_ M'):
  Fz t [a5!,i,x,s] M R:=by
 exact j_;show Ag t8! (Ag _ (Ag _ _)) [am!,M_,bE!,cV!] M _;dsimp only[Ag,At,Je,wT,Ba,wl,Ab,Ad,Aa,List.getElem?_cons_zero,List.getElem?_cons_succ,Option.join_some];exact#[hO.noOb cj!,χ,?_];exact a8c hO w df qw λb J=>?_;cases b with
 |false=>
  let hc:¬ep_:=λz=>by let:=J.mpr z;exact Dd_ this
  let:=hR M (HX_ z hc) (λ_=>hO.mono a!) .refl;simpa[Oh]using this
 |true=>
  let#[hi,hx,hw]:=J.mp χ;let#[p0,gu]:=a9d w hi;let v3:=Im! gu;let#[yx,hkp0]:=qO w v3;let#[uu,vv,c1,c2]:=b1q w.rnd gu;let#[ad,rfl,hO,hI]:=hO;let#[_,Y,k1,e1,rfl,l1,q0,q1,pr]:=hI.ty .par ο;let#[k2,e2,h2,_,kv]:=hI.dirV (b:=τ);let r0:Hi t M zB_ (ad (.fol p0 τ)) (ad (.pre p0 τ)) (uu++i::vv)/\(uu++i::vv).length<=B:=by rw[<-c1];exact hI.row v3
  let hx0:∀R',w2 Cc dj_ jg! zC_ M R'=R' (.fn zB_) M:=by
   intro R';simp[w2,wl,Ap,Gf,hI.ob,oF1,oF2,Cc,Y,h2,df,pr i p0 gu,hkp0,(kv p0).1 v3,Dq,Aa]
  simp![Bool.not_true,Bool.false_eq_true,if_false,Bl,Bg,Ba,hx0];exact#[by simp![Da,r0.1.ob,rM.2.1,and_self],χ,?_];exact a4l r0.1 df (by let:=r0.2;omega) λM1 R1 K1=>?_;rw[<-c2]at R1;let#[I1,f1]:=hI.sl (b:=τ) (Nat.le_refl B) v3 R1 K1 (by let:=r0.2;rw[c2];simp at this ⊢;omega);let#[k2,e2,h2,_,kv]:=I1.dirV (b:=τ);let#[_,Y,k1,e1,rfl,l1,q0,q1,pr]:=I1.ty .par ο;let e1x:(zD!).ls x τ=chl hT! x:=by
   show(if x=p0/\τ=τ then _ else chl W.rows x)=_;by_cases e:x=p0
   .rw[if_pos #[e,χ],e]
   .rw[if_neg λz=>e z.1,a0o λz=>e zE_]
  let r1:=I1.row (b:=τ) hx;rw[e1x]at r1;let zf:∀R',Ij! dj_ zC_ M1 R'=R' (.fn (HJ_ x)) M1:=by
   intro R';simp[w2,wl,Ap,Gf,I1.ob,oF2,Cc,h2,qw,(kv x).1 hx,Dq,Aa]
  simp![zf];exact#[by simp![Da,r1.1.ob,rM.1,and_self],χ,?_];exact kA r1.1 df oq (by rw[List.mem_cons,not_or];exact#[(kF_).nn.1,λz=>(kE.mp pQ!).2 χ]) (by let:=r1.2;omega) λM2 R2 K2=>?_;let#[I2,f2]:=I1.sl (b:=τ) (Nat.le_succ B) hx R2 K2 zs!;let jd:=(K2 hy_ (λz=>by let:=I1.inj .par (.fol x τ) ο hx z;cases this) λz=>by let:=I1.inj .par (.pre x τ) ο hx z;cases this).trans Y;let fin:D5_ (mup M2 hy_ (.dct (Br k1 i x) (Il k1 i e1))):=by
   let I3:=c0v (e:=Il k1 i e1) (x:=x) I2 kF_ (Nat.le_succ_of_le l1) q0 q1 pr;exact hR _ (λ_ rows' hg=>#[ad,χ,hO,I3.cv a! λr l=>pw!]) (HX_ #[hi,hx,hw] z) λc hc hr=>#[(uS (r0:=.par) ο λz=>hr kZ_).trans ((f2 c λz=>hr kZ_).trans (f1 c λz=>hr kZ_)),hr];let ls:∀(y:D) (c:Bool),(Kk {W with rows:=rows'}).ls y c=((zD!).sl x τ (Mi i s (chl hT! x))).ls y c:=λy c=>by
    show _=if y=x/\c=τ then _ else if y=p0/\c=τ then _ else(bl_).ls y c
    cases c with
    |false=>rw[if_neg nofun,if_neg nofun];rfl
    |true=>
     show IS! y=_;by_cases c1:y=x
     .rw[if_pos pS!,c1,zy_]
     .rw[if_neg λz=>c1 z.1,hg.chl_ne (Ne.symm c1)];by_cases c2:y=p0
      .rw[if_pos #[c2,χ],c2]
      .rw[if_neg λz=>c2 z.1,a0o λz=>c2 zE_];rfl
   cases r with
   |par=>exact funext λa=>funext λp=>F1! (hg.mem.trans #[λz=>z.elim zA! λz=>.inl (kE.mp z),λz=>z.elim (λz=>.inr (kE.mpr z)) λz=>.inl eo!])
   |fol y c=>exact ls y c
   |pre y c=>exact ls y c
   |dir c=>cases c<;>rfl
   |_=>rfl
  simpa[Bv,wl,Ap,Gf,Dq,Aa,I2.ob,oF1,Ki,jd,df,show k1.length<big by delta big;omega]using fin
end
nonrec def Az.nd(t:Az):Prop:=(pW!).Nodup
def Ky(c:δ):Bool:=decide k2!&&decide k1_&&!(c==37)
def Ut(s:Str):Bool:=decide (F!<=1000)&&s.cps.toList.all Ky
def c2g(a c:δ):Rx (FN_ a) H_=decide (a<=c):=by
 delta Rx;simp![List.cons_lt_cons_iff,List.not_lt_nil,and_false,RF];by_cases h:c<a
 .simp[h]
 .simp[h];omega
def b6q:(" ":Str)=(FN_ 32):=by decide+kernel
def b6p:("~":Str)=(FN_ 126):=by decide+kernel
def gK(hn:g_=n)(h:q cS_=ψ ac!):Dk N n q ds=ψ d:=by delta Dk;rw[MM hn,h]
def jS(h:bR_):Bh f ρ=ψ ac!:=by delta Bh;rw[h];rfl
def fH(hn:g_=n)(h:f cS_=ψ d):Dk N n (Bh f) ds=ψ d:=gK hn (jS h)
def sk(hc:pX_)(h:q2 ρ=r):HY! (Ii c q Em)=r:=by delta sSeq Ii;rw[hc];exact h
def vA(hn:g_=n)(hc:c cS_=ψ θ)(h:f cS_=ψ d):Dk N n (FP_ (Ii c q Em) f) ds=ψ d:=gK hn (sk hc (jS h))
def wX(hc:pY!)(h:bR_):HY! (Ii c (Bh f) q)=ψ ac!:=by delta sSeq Ii;rw[hc];rw[jS h];rfl
def bI(h:q1 ρ=ψ c0!):HY! q1=q2 ρ':=by delta sSeq;rw[h];rfl
def pB(h:q1 ρ=ψ ac!):HY! q1=ψ ac!:=by delta sSeq;rw[h];rfl
def eR(h:bR_):Dj i f ρ=DM_ bR!:=by delta Dj;rw[h];rfl
def cL(h:bR_)(g:hU_):Ac f fs ρ=ψ ei!:=by delta Ac;rw[h,g];rfl
def nQ(h:hU_)(e:g ds=ψ d):f1 g fs ρ=ψ d:=by delta f1;rw[h];exact e
def aZ{f1 f3:n_}(h:pZ!)(k:f3 ρ=ψ y)(e:g x y=ψ d):f2 g f1 f3 ρ=ψ d:=by delta f2;rw[h,k];exact e
def jK(h:0<j):Fc ae! a7!=Da_ (i%j):=by show(JX! (0<j))=_;rw[MM (NG h)]
def fO(h:f ρ=ψ aH_):fT f ρ=ψ b:=by delta fT;rw[h];rfl
def a4a(h:fa ρ=ψ u_)(k:fb ρ=ψ d):Iv fa fb ρ=ψ d:=by delta Iv;rw[fO h];exact k
def d9k(h:fa ρ=ψ C_):Iv fa fb ρ=ψ C_:=by delta Iv;rw[fO h];rfl
def c0x(h:fa ρ=ψ u_):Ng fa fb ρ=ψ u_:=by delta Ng;rw[fO h];rfl
def b6a(h:fa ρ=ψ C_)(k:fb ρ=ψ d):Ng fa fb ρ=ψ d:=by delta Ng;rw[fO h];exact k
def gN(e:g [x]=ψ d)(h:f ρ=ψ x):ED! g f ρ=ψ d:=nQ (cL h χ) e
def xQ(e:g [x,y]=ψ d)(h:f ρ=ψ x)(k:f' ρ=ψ y):f1 g (Dh! f f') ρ=ψ d:=nQ (Ki! h k) e
def bT [Decidable p](h:p):D7! p=ψ u_:=by rw[NG h]
def chn(Y:fa ρ=ψ x)(h2:fb ρ=ψ y)(e:g x y=ψ aH_)(h3:b=τ->fc ρ=ψ z)(e2:b=τ->g' y z=ψ d)(e3:b=θ->d=.bl θ):Ie g g' fa fb fc ρ=ψ d:=by
 delta Ie;rw[Y,h2,OX,OX,e];cases b with
 |true=>show(fc ρ).bind _=_;rw[h3 χ];exact e2 χ
 |false=>rw[e3 χ];rfl
def d8j(Y:rS!)(h2:fb ρ=ψ a7!)(h3:fc ρ=ψ go_)(e1:i<=j)(e2:g a7! go_=ψ d):Ie Rg g fa fb fc ρ=ψ d:=chn Y h2 (bT e1) (λ_=>h3) (λ_=>e2) λz=>by exact Dd_ z
def at0(x:D)(r:d_):Fs (x::r) 0=ψ x:=by delta Fs Kl;rw[p0!,fS_];rfl
def d4y(c:δ):Fj [eb_]=Df! (Ky c):=by
 let e1:Rg i7_ cF!=Dw_ ψ k2!:=by rw[b6q,<-c2g];rfl
 let e2:Rg cF! nj!=Dw_ ψ k1_:=by rw[b6p,<-c2g];rfl
 let e3:((c:Int)==37)=(c==37):=by rw[RE,PP,PP];omega
 let e4:IO_ Ie [ψ cF!]=ψ (.bl (decide k2!&&decide k1_)):=Dg_ chn e1 (λ_=>χ) (λz=>by rw[e2,z];rfl) λz=>by rw[z];rfl
 exact Hj! fH;delta Ky;cases h:decide k2!&&decide k1_ with
 |false=>rw[h]at e4;exact d9k e4
 |true=>
  rw[h]at e4;exact a4a e4 ?_;show Ev_ (!((c:Int)==37))=_;rw[e3,UJ]
def b1p(cs:i_)(h:cs.all Ky=τ):EH! gH! zP_=ψ k3!:=by
 induction cs with
 |nil=>rfl
 |cons c cs ih=>
  rw[SS,NQ]at h;let e:=d4y c;rw[h.1]at e;show((Fj [eb_]).bind λy=>(EH! gH! zP_).map km_)=_;rw[ih h.2,e];rfl
def b1t:∀(cs:i_),Jo hV!=ψ k4!
 |[]=>rfl
 |c::cs=>by simp![MO,Jo,b1t cs,UG]
def a3m(a b:Str):Dv (.str a) (.str b)=gh_:=by delta Dv;rfl
def b4j(a b:Int):Dv (.int a) (.int b)=gh_:=by delta Dv;rfl
def a8k(s:Str):∀xs:List Str,zQ!=xs.any (·==s)
 |[]=>rfl
 |x::xs=>by rw[MO,RO,RO,a8k s xs,a3m]
def c8s(s:Str)(xs:G_):Uw θ aT! (.tup k4_)=ψ (.bl (xs.any (·==s))):=by
 let h:(k4_).all Kb=true:=by simp[QM,Kb]
 show(if Kb aT!&&(k4_).all Kb then ψ (D.bl zQ!)else υ)=_;rw[h,a8k];rfl
def dZ(a b:Str):Av (.str a) (.str b)=ψ p0_:=by rfl
def in2(k a b:Str):Uw θ T_ p1_=Df! p2!:=by let:=c8s k O!;simpa only[MO,RM,RO,List.any_nil,VX]using this
def qV(a b:Int):Av (.int a) (.int b)=ψ p0_:=by rfl
abbrev scr(ns:q_):D:=.lst jN!
def a3x(h0:0<=i)(Y:i<j!):∃x,Fs xs i=ψ x/\x∈xs:=by exact#[xs[i.toNat]' a!,?_,QL _];delta Fs Kl;rw[MM h0,MM Y];simp
def d0b(ns:q_)(k:Int):∃c,Te p2_=Da_ c:=by
 cases ns with
 |nil=>exact#[0,χ]
 |cons n r=>
  let hp:(0:Int)<zS_:=by simp![MJ,MX];omega
  let#[x,e,hx]:=a3x (i:=k%zS_) (SN _ a!) (RP k hp);let#[c,_,rfl]:=NC.mp hx;exact#[c,gK χ (wX χ zT!)]
def d1k(h:-gB!<j)(h2:j<2 ^ 64):Nz ae! a7!=Da_ (i*j):=MM (by delta Xi;rw[NG h,NG h2,Bool.and_self,Bool.or_true])
def jL(ns:q_):∃m,Cf p2_=ψ dx_/\0<=m/\m<4294967231:=by let#[c,hc]:=d0b ns k;exact#[_,gK χ ((KQ_ (Lf! (aZ (Fr! xQ hc) zV_ χ))).trans ((KQ_ (Lf! (Jy_ (d1k a_ a_)))).trans (jS (Lf! (Fr! aZ (aZ hV_ χ (d1k a_ a_))))))),SN _ a_,RP _ a_]
def oA(h:xs≠[]):∃x,Dm [.lst xs,ar!]=ψ x/\x∈xs:=by
 let hp:(0:Int)<(j!:δ):=by let:=WW.mpr h;omega
 let#[x,e,hx]:=a3x (i:=n%(j!:δ)) (SN _ a!) (RP n hp);exact#[x,fH χ zT!,hx]
def c5k(hf:bR_)(hl:p3!)(J:g_<big):Qg i f ρ=ψ x3!:=by delta Qg;rw[hf,hl];show(if g_<big then _ else _)=_;rw[MM J]
def wF(P:δ->Ae->ν)(ds:d_):∀(i:δ) (ρ:Ae),P i ρ->
  (∀(j:δ) (d:D) (ρ:Ae),ds[j]?=ψ d->P (i+j) ρ->∃ap bi,bnd d ρ=ψ ap/\q ap=DM_ bi/\P (i+j+1) bi)->
  ∃ρ',Ol bnd q ds ρ=ψ c0!/\P (i+g_) ρ':=by
 induction ds with
 |nil=>exact λi ρ h _=>#[ρ,χ,h]
 |cons d ds ih=>
  intro i ρ h hs;let#[ap,bi,e1,e2,h2]:=hs 0 d ρ χ h;let#[ρ',e3,h3]:=ih w_ bi h2 λj d ρ hd hp=>by
   let:=hs c6_ d ρ hd;rw[<-Nat.add_assoc,Nat.add_right_comm]at this;exact this hp
  exact#[ρ',?_,by rw[MX,<-Nat.add_assoc,Nat.add_right_comm];exact h3];delta Ol;rw[e1,OX,e2];exact e3
def rA(R:D->ν)(ds:d_)(h:∀d∈ds,∃ap b,bnd d ρ=ψ ap/\ft ap=ψ b/\(b=τ->∃y,fe ap=ψ y/\R y)):
  ∃ys,EM! ρ=ψ ys/\ab!<=g_/\∀y∈ys,R y:=by
 induction ds with
 |nil=>exact#[[],χ,MZ _,λy hy=>by exact(ML hy).elim]
 |cons d ds ih=>
  let#[ap,b,e1,e2,hy]:=h d MB;let#[ys,e3,hl,hr]:=ih λx hx=>h x aT_
  delta Cg;rw[e1,OX,e2,OX];cases b with
  |false=>exact#[ys,e3,XQ hl,hr]
  |true=>
   let#[y,e4,r4]:=hy χ;exact#[y::ys,by rw[y!,e4,OX,e3];rfl,UT hl,rg_];obtain rfl|hz:=MD.mp hz
   .exact r4
   .exact hr z hz
def tL:∀{ds ys:d_},Cg bnd A! fe ρ ds=ψ ys->ab!=g_
 |[],ys,e=>by rcases e;rfl
 |d::ds,ys,e=>by
  delta Cg at e;let#[ap,e1,e]:=LX.mp e;dsimp only[Option.bind_some,if_true]at e;let#[y,e3,e]:=LX.mp e;let#[zs,e4,rfl]:=MQ.mp e;simp[tL e4]
def NameG(x:D):Prop:=∃a b,x=.tup o4_/\0<=a/\a<16/\1<=b/\b<=2000
def Ci(x:D):Prop:=x=.str "root"\/x=.str "bin"\/NameG x
def Lh(x:D):Prop:=x=.non\/NameG x
def Xo(x:D):Prop:=∃a b c,x=.tup o5!/\0<=a/\a<16/\1<=b/\b<=2000/\0<=c/\c<=15
def Jp(x:D):Prop:=x=.non\/Xo x
inductive DG:D->Prop
 |put {a b:D}:Ci a->Lh b->DG hX_
 |move {a b c:D}:Ci a->Ci b->Lh c->DG hY!
 |drop {a:D}:Ci a->DG hY_
 |write {a b:D} {s:Str}:Ci a->Jp b->Ut s=τ->1<=F!->F!<=16->DG dD!
 |cut {a:D} {x y z m:Int}:Ci a->Xo fK!->1<=m->z+m<=16->DG fV_
 |set {a:D} {p n:Int}:Ci a->0<=p->p<=3->n.natAbs<10 ^ 60->DG (.tup [k6!,a,.int p,ar!])
 |undo {a:D}:NameG a->DG (.tup [p5!,a])
 |redo {a:D}:NameG a->DG (.tup [p6!,a])
def Ww(o:D):Prop:=∃h n tm d,o=.tup hZ_/\0<=h/\h<16/\1<=n/\n<=2000/\DG d
def a7p(h:DG d):∃k r,d=.tup cl_/\(k="write"->∃a b s,r=h0!/\F!<=16):=by
 cases h with
 |write _ _ _ _ h5=>exact#[_,_,χ,λ_=>#[_,_,_,χ,h5]]
 |_=>exact#[_,_,χ,λz=>ξ z c_]
def a3a(h:f ρ=DB_ [.int h',ar!,ew_,k7!]):Ds_ (f2 Ak (KC! f) M!) k8! ρ=ψ (k==s):=fO (aZ (aZ (Fr! aZ h) χ (at0 _ _)) χ (dZ k s))
def c2y(h:h1!)(hl:h1_):∃ys,Ld [k9_]=sM! (.str "root"::z1_)/\ab!<=100/\∀x∈ys,NameG x:=by
 let#[ys,e,l,hr]:=rA (ρ:=aF_) (bnd:=Am 0) (ft:=fT on!) (fe:=Bn g9_)
  NameG ops (by
   intro o ho;let#[h',n,tm,d,rfl,b1,b2,b3,b4,hd]:=h o ho;let#[k,r,rfl,_]:=a7p hd;exact#[_,_,χ,a3a χ,λ_=>F3! z4_])
 let hc:GL! 1 [bX_]=ψ bf!:=by
  show z5_;rw[cm!,e];rfl
 exact#[ys,fH χ (aZ (aZ χ hc (MM (by show 1+ab!<=big;delta big;omega))) χ (MM (by show ab!+1+2<=big;delta big;omega))),o_,hr]
def c8m(hr:∀x∈ys,NameG x):∀x∈D.str "root"::z1_,Ci x:=λx hx=>by
 simp at hx;obtain rfl|hx|rfl|rfl:=hx
 .exact cu!
 .exact Dt_ p7_
 .exact .inr N_
 .exact Dt_ #[9,9,χ,P!,P!,P!,P!]
def c2x(h:h1!)(hl:h1_):∃its,Ld [k9_]=ψ p8!/\3<=g4_/\g4_<=200/\∀x∈its,Ci x:=by let#[ys,e,l,hr]:=c2y h hl;exact#[_,e,Q!,by simp;omega,c8m hr]
def d1q(h:pY!):IV! b=a ρ:=by delta Ii;rw[h];rfl
def d1r(h:pX_):IV! b=b ρ:=by delta Ii;rw[h];rfl
def b1a(h:oK!)(e:Ol b q ds ρ=r):Wb f b q ρ=r:=by delta Wb;rw[h];exact e
def a9e(h:f ρ=ψ (.int (m:δ)))(hm:m<=100000):Ez f ρ=ψ (Cz m):=by delta Ez;rw[h];show(if -1000<=p8_/\p8_<=100000 then ψ (Cz (p8_).toNat)else υ)=_;rw[aN_];rfl
def b3u(h:(Cz m)[j]?=ψ d):j<m/\d=.int (j:δ):=by delta Cz at h;rw[OC]at h;let#[i,hi,rfl]:=MQ.mp h;let#[ar,he]:=NH.mp hi;rw[PX]at ar;rw[XE]at he;subst he;exact#[ar,χ]
def EW(c:δ)(l:d_):Prop:=l≠[]/\S_<=c/\∀z∈l,Jp z
def EW.add(h:EW c l)(hx:Jp x):EW (c+1) (l++[x]):=#[Q!,by rw[MH];exact UT h.2.1,λz hz=>(NA.mp hz).elim (h.2.2 z) λy=>by rw[NB.mp y];exact hx]
def b8z(h:h1!)(hl:h1_):∃ss,Nc [k9_]=sM! ss/\ss≠[]/\∀x∈ss,Jp x:=by
 let#[ρ',e,bn,x,y,rfl,f0,_,hf]:=wF (bnd:=Cb 2) (q:=Ii vE_ vG_ Em)
  (λi ρ=>∃bn x y,ρ=[bX_,z9!,x,y]/\EW (2+16*i) bn) ops 0 [bX_,sM! [.non,.tup [.int 9,.int 9,.int 3]],υ,υ] #[_,_,_,χ,EW.add (l:=[.non]) #[Q!,MZ _,λz hz=>by rw[NB.mp hz];exact .inl χ] (.inr #[9,9,3,χ,P!,P!,P!,P!,P!,P!])] (by
  rintro j d ρ hd ⟨bn,x,y,rfl,hf⟩;let hj:=(NH.mp hd).1;let#[h',n,tm,d',rfl,b1,b2,b3,b4,v4]:=h d (SZ hd);let#[k,r,rfl,hw]:=a7p v4;cases hk:k==("write":Str)with
  |true=>
   let cm:=PP.mp hk;let#[a,b,s,rfl,s16]:=hw cm;let#[bi,e2,found2,y2,rfl,sf]:=wF (bnd:=Cb 3) (q:=Qg 1 vH!) (λi ρ=>∃bn y,ρ=p9_/\EW (2+16*(0+j)+i) bn) (Cz F!) 0
    (p9_) #[bn,y,χ,hf] (by
     rintro i d ρ hd ⟨bn,y,rfl,hf⟩;let#[ar,rfl]:=b3u hd;let J:=hf.2.1;exact#[_,_,χ,c5k χ χ a2_,_,_,χ,hf.add (.inr #[_,_,_,χ,b1,b2,b3,b4,o_,o_])])
   let hr:f1 Bw vF_ p9_=ψ Ab!:=gN (x:=bF_) (show Ab_=_ from MM a2_) χ;exact#[_,_,χ,(d1q Ac!).trans (b1a (a9e hr a!) e2),found2,_,_,χ,sf.1,?_,sf.2.2];let:=sf.2.1;rw[show(Cz s.length).length=s.length from(MJ _).trans PX]at this;omega
  |false=>exact#[_,_,χ,d1r Ac!,bn,_,_,χ,hf.1,NR hf.2.1 a!,hf.2.2])
 exact#[bn,gK χ (DQ! lb! (Js_ (b1a χ e) lb_)),f0,hf]
abbrev letters:Str:=" abcXYZ.,;!019~[]\\\"'|{}<>@#$&*()-+/=_^:?`"
def tE:qa!=41:=by decide+kernel
def b0m:letters.cps.toList.all Ky=true:=by decide+kernel
def b7p:(dE_).cps=#[]:=by decide+kernel
def a0g:(dE_).length=0:=by decide+kernel
def Nw(c:δ):D:=.str H_
def a4n:∀(xs:d_),(∀x∈xs,∃c,x=Nw c/\Ky c=τ)->∃cs:List Nat,xs=cs.map Nw/\cs.all Ky=τ
 |[],_=>Ac_
 |x::xs,h=>by
  let#[c,rfl,hc]:=h x MB;let#[cs,rfl,p6]:=a4n xs λy hy=>h y cH_
  exact#[c::cs,χ,by simp![SS,hc,p6,Bool.and_self]]
def rF:∀(cs:i_),Ly ld!=ψ h3_
 |[]=>rfl
 |c::cs=>by simp![MO,Nw,Ly];rw[show List.map Nw cs=List.map Nw cs from χ,rF cs];rfl
def a7e:∀(cs:i_) (σ:mO!),F5! h3_ dE_=σ++cs.toArray
 |[],σ=>by rfl
 |c::cs,σ=>by
  rw[MO,RU,a7e cs,b7p];simp
def c2t(cs:i_):Txt.join dE_ h3_=qb!:=by
 delta Txt.join Builtin.Str.glued;cases cs with
 |nil=>rfl
 |cons c cs=>
  simp![MO,WY,WO,List.headD_cons];rw[a7e];simp
def a0y:∀(cs:i_),((h3_).map (·.length)).sum=aQ!
 |[]=>rfl
 |c::cs=>by
  let ih:=a0y cs;simp![MO,XD,MX];rw[ih];show 1+aQ!=_;omega
def c6b(Y:1<=most)(h16:most<=40):∃s,Pn [ar!,.int most]=ψ aT!/\Ut s=τ/\1<=F!/\(F!:Int)<=most:=by
 let hm0:0<=n%most:=SN _ a!;let Z0:n%most<most:=RP _ a!;obtain⟨N,hN⟩:∃N:Nat,(N:Int)=1+n%most:=#[(1+n%most).toNat,o_];let hN1:1<=N:=by omega
 let hN2:N<=40:=by omega
 let#[ys,e,l,hr]:=rA (ρ:=Ad_) (bnd:=Am 0) (ft:=qc!) (fe:=f2 Ak D_ vK!)
  (λy=>∃c,y=Nw c/\Ky c=τ) fW_ (by
   intro d hd;delta Cz at hd;let#[i,hi,rfl]:=NC.mp hd;let d7:=RQ.mp hi;let z1:(0:Int)<1+3*(i:Int):=by omega
   let z2:1+3*(i:Int)<1073741824:=by omega
   let ao:qa!<=big:=by rw[tE];decide
   let bj:((Ae!:δ):Int)=41:=by
    let:Ae!=41:=by rw[<-tE];rfl
    omega
   let#[c,ec,hc]:=a3x (xs:=letters.cps.toList) (i:=n / (1+3*(i:Int))%41) (SN _ a_) (by rw[bj];exact RP _ a_);let og:Ak qb_ (.int (n / (1+3*(i:Int))%41))=ψ (Nw c):=by
    show(if qa!<=big then(Fs letters.cps.toList _).map _ else υ)=_;rw[MM ao,ec];rfl
   exact Iv_ #[Nw c,?_,c,χ,QM.mp b0m c hc];exact aZ χ (Fr! aZ (aZ χ zV_ (MM (Bool.and_eq_true_iff.mpr #[NG z1,NG z2])))) og)
 let l2:=tL e;let#[cs,rfl,p6]:=a4n ys hr;let cf:aQ!=N:=by simpa[Cz]using l2
 let hc:Hn! 1 qd!=sM! ld!:=by
  let hi:Ez oo! qd!=ψ fW_:=by
   exact a9e ((aZ χ (Jy_ (jK a!)) χ).trans (by rw[hN])) a!
  delta Bq;rw[hi];show(Dc! fW_ (Cg _ _ _ Ad_ fW_))=_;rw[MM (by simp[Cz,big];omega),e];rfl
 let hj:Hv ha! (.lst ld!)=Et! qb!:=by
  delta Hv;simp![rF,OX,a0y,MJ,a0g,Nat.mul_zero,Nat.add_zero,c2t];rw[cm!]
 exact#[qb!,?_,?_,?_,?_]
 .exact FB_ (Js_ (eR χ) (jS ?_));delta Om;show((Bq 1 [0,2] _ _ _ _ qd!).bind λy=>Hv ha! y)=_;rw[hc];exact hj
 .simp only[Ut,Str.length,MN,p6,Bool.and_true,NS];omega
 .simp only[Str.length,MN];omega
 .simp only[Str.length,MN];omega
def LS:Ae->ι Fl:=vN!
def LR:Ae->ι Fl:=vN_
def LQ:Ae->ι Fl:=vO!
def LP:Ae->ι Fl:=vP_
def KJ:Ae->ι Fl:=vQ!
def LO:Ae->ι Fl:=vQ_
def LN:Ae->ι Fl:=vS!
def LM:Ae->ι Fl:=vU!
def LL:Ae->ι Fl:=vW!
def LK:Ae->ι Fl:=vX!
def GI:Ae->ι Fl:=vX_
def GH:Ae->ι Fl:=vY_
def EK:Ae->ι Fl:=v0!
def BU:Ae->ι Fl:=v1!
nonrec def dq14:Ae->ι Fl:=v1_
nonrec def dq15:Ae->ι Fl:=v2!
def HI:Ae->ι Fl:=(sSeq LM (sSeq LL (sSeq LK (sSeq GI Ah!))))
def b5t:Pm=(sSeq LS (sSeq LR (sSeq LQ (sSeq LP (sSeq KJ (sSeq LO (sSeq LN HI))))))):=χ
abbrev kinds:μ D:=[hX!,hX!,hX!,p4!,p4!,dC_,dC_,.str "cut",k6!,p5!,p6!,.str "drop"]
def KindOk(k:Str):Prop:=k="put"\/k="move"\/k="write"\/k="cut"\/k="set"\/k="undo"\/k="redo"\/k="drop"
def a7x(h:x∈Ei xs lo hi):x∈xs:=Ja! Ah_
def Us:D->D
 |.str _=>.non
 |d=>d
def a6s(h:Ci d\/d=.non):(Ym "str" d=ψ τ/\Us d=.non)\/(Ym "str" d=ψ θ/\Us d=d/\Lh d):=by
 rcases h with(rfl|rfl|⟨a,b,rfl,h⟩)|rfl
 .exact .inl az_
 .exact .inl az_
 .exact .inr #[χ,χ,.inr #[a,b,χ,h]]
 .exact .inr (Ie_ cu!)
def d5h(ns:q_)(h:h1!)(hl:h1_):∃m0 its item jj k,0<=m0/\its≠[]/\(∀x∈its,Ci x)/\Ci item/\Lh jj/\KindOk k/\
  Pm Aj!=HI qe_:=by
 let#[m0,e0,p0,_]:=jL ns (k:=base);let#[m1,e1,_,_]:=jL ns (k:=base+1);let#[m2,e2,_,_]:=jL ns (k:=base+2);let#[its,ei,i3,i200,pb]:=c2x h hl;let v5:its≠[]:=by intro z;subst z;simp at i3
 let rl:Aj_≠[]:=by
  intro z;let z2:=JB! z;simp[Ei,HT.sIx]at z2;omega
 let cf:(Ak!).length+(Ak_).length<=big:=by
  simp[Ei,HT.sIx,big];omega
 let#[item,ep,mp]:=oA (n:=m1) rl;let pe:Ci item:=by
  obtain z|z:=NA.mp mp
  .exact pb _ (a7x z)
  .exact pb _ (a7x z)
 let a1:Ar (.lst Ak!) (.lst Ak_)=sM! Aj_:=by
  show h4!;rw[MM cf]
 let a2:Ar p8! (.lst jU!)=sM! (its++jU!):=by
  show(IV_ g4_ 2)=_;rw[cm!]
 let#[oth,eo,mo]:=oA (n:=m2) (xs:=its++jU!) c!;let ui:Ci oth\/oth=.non:=by
  obtain z|z:=NA.mp mo
  .exact .inl (pb _ z)
  .simp at z;exact .inr z
 let iz:Lh (Us oth):=by
  obtain⟨_,z⟩|⟨_,z,y⟩:=a6s ui
  .rw[z];exact .inl χ
  .rw[z];exact y
 let#[kd,ek,mk]:=a3x (xs:=kinds) (i:=m0%12) (SN _ a_) (by show _<(12:Int);exact RP _ a_);obtain⟨k,rfl,hk⟩:∃k,kd=.str k/\KindOk k:=by
  simp[kinds]at mk;delta KindOk;obtain rfl|rfl|rfl|rfl|rfl|rfl|rfl|rfl:=mk<;>exact F3! Q!
 let ek':Ak (.lst kinds) (.int (m0%12))=ψ T_:=ek;exact#[m0,its,item,Us oth,k,p0,v5,pb,pe,iz,hk,?_];let e4:KJ (Js! oth)=DM_ (Js! (Us oth)):=by
  obtain⟨z1,z2⟩|⟨z1,z2,_⟩:=a6s ui
  .rw[z2];exact d1q Am!
  .rw[z2];exact d1r Am!
 rw[b5t];exact(KQ_ (Fr! xQ e0)).trans ((KQ_ (Gh_ ei)).trans ((KQ_ (xQ ep (Jy_ a1) (xQ e1 χ hV_))).trans ((KQ_ (xQ eo (Jy_ a2) (xQ e2 χ hV_))).trans ((bI e4).trans (Js_ (eR χ) (KQ_ (aZ χ (Dg_ aZ fU_) ek')))))))
section
variable{ρ:Ae}
def b7k(h:pY!):IV! b=a ρ:=by delta Ii;rw[h];rfl
def iR(h:pX_):IV! Em=ψ ab_:=by delta Ii;rw[h];rfl
def qU(h:Aa i ρ=ψ T_)(e:(k==s)=b):Ds_ (Aa i) k8! ρ=ψ b:=by delta fT f2 fC;rw[h];show(Av T_ aT!).bind _=_;rw[dZ,e];rfl
def pC(h:hU_)(hl:An_):Bh (Bn fs) ρ=E6! bQ_:=by delta Bh Bn;rw[h];show Ki_ _ Ao!=_;rw[Ao_];rfl
def a6e(h:Aa 0 ρ=ψ (scr ns))(g:Aa 1 ρ=Da_ base)(e:Cf [fT_,.int (base+j)]=ψ dx_):Jg! (f2 Ar v! (fC a7!)) ρ=ψ dx_:=
 nQ (Ki! h (Fr! aZ g)) e
def c0g(a:f ρ=ψ H!)(b:h ρ=ψ dx_)(e:Dm [.lst xs,et!]=ψ p):f1 Dm (Dh! f h) ρ=ψ p:=
 nQ (Ki! a b) e
end
def CT(d:D):Prop:=(∀a b s,d=.tup z0!->F!<=5)/\∀b,d≠.tup [p5!,.tup lf_]/\d≠.tup [p6!,.tup lf_]
def a4m{k:Str}(Y:lg_)(h2:k≠"undo")(h3:k≠"redo"):CT cX!:=by
 exact Aq_<;>(simp![D.tup.injEq,QJ,D.str.injEq]at e)
 .exact FJ! Y
 .exact FJ! h2
 .exact FJ! h3
def d0s{k:Str}(Y:lg_)(h:∀b,d≠.tup lf_):CT (.tup [cm_,d]):=by
 exact Aq_<;>(simp![D.tup.injEq,QJ,D.str.injEq,and_true]at e)
 .exact FJ! Y
 .exact h b e.2
 .exact h b e.2
def d6q(h:F!<=5):CT dD!:=by
 exact#[λa' b' s' e=>?_,λc=>Aq!]<;>(simp![D.tup.injEq,QJ,D.str.injEq,and_true]at e)
 .rw[<-e.2.2.2];exact h
 .exact FJ! c_
 .exact FJ! c_
def c9p(ns:q_)(h:h1!)(h6:∀o∈ops,∀n tm d,o≠.tup [.int 6,n,tm,d])(hl:h1_)(Z0:1<=most)(hm5:most<=5):∃d,Jw As!=ψ d/\DG d/\CT d:=by
 let#[m0,its,item,jj,k,p0,v5,pb,pe,ui,hk,hA]:=d5h ns (base:=base) (most:=most) h hl;let fin:∀d,HI qe_=ψ ac!->Jw As!=ψ d:=λd e=>by
  delta Jw Dk;rw[fo_];show(match Pm Aj! with|some (.rt d)=>ψ d|some (.nx _)=>ψ .non|none=>υ)=_;rw[hA,e]
 clear hA;let#[m1,e1,_,_]:=jL ns (k:=base+1);let#[m3,e3,_,_]:=jL ns (k:=base+3);let#[m4,e4,_,_]:=jL ns (k:=base+4);let#[m5,e5,_,_]:=jL ns (k:=base+5);let#[p1,v6,mp1]:=oA (n:=m1) v5;let#[p3,ep3,mp3]:=oA (n:=m3) v5;let#[ss,es,zg,hss]:=b8z h hl;let#[sg,eg,mg]:=oA (n:=m4) zg;let Z1:=hss _ mg;let#[tx,et,ht1,ht0,zh]:=c6b (n:=m5) Z0 a!;let uj:∀{k:Str},GI qe_=DM_ qi!:=
  eR (nQ (Ki! (nQ h4_ es) (Dg_ a6e e4)) eg)
 let Z2:∀{k:Str},At_=τ->BU qi!=E6! qi_:=λ{k} e=>
  (b7k (In! e)).trans (Ig_ pC)
 let Z3:DG qi_/\CT qi_:=#[.set pe a! a! a!,h6!];obtain⟨nm,nn,n6,hun⟩:∃nm,NameG nm/\(∀b,nm≠.tup [.int 6,b])/\∀{k:Str},("put"==k)=θ->sSeq dq14 dq15 [ψ (scr ns),ψ (.int base),ψ (.lst ops),ψ (.int most),ψ (.int m0),ψ (.lst its),ψ item,ψ jj,ψ (.lst kinds),ψ (.str k),ψ sg,υ]=E6! (.tup [.str k,nm]):=by
  let#[ys,e,l,hr]:=rA (ρ:=aF_) (bnd:=Am 0) (ft:=qc!) (fe:=Bn g9_)
   (λy=>NameG y/\∀b,y≠.tup lf_) ops (by
    intro o ho;let#[h',n,tm,d,rfl,b1,b2,b3,b4,_]:=h o ho;exact Iv_ #[_,χ,z4_,λb e=>by simp![D.tup.injEq,QJ,D.int.injEq]at e;exact h6 _ ho d4_ (.int tm) d (by rw[e.1])])
  let a1:Ar bf! (.lst qk_)=sM! (ys++qk_):=by
   show(IV_ ab! 1)=_;rw[cm!]
  let#[nm,en,mn]:=oA (n:=m1) (xs:=ys++qk_) c!;exact#[nm,?_,?_,λ{k} _=>(KQ_ (aZ ?_ χ a1)).trans (KZ! en)]
  .obtain z|z:=NA.mp mn
   .exact(hr _ z).1
   .simp at z;subst z;exact#[_,_,χ,P!,P!,o_,o_]
  .obtain z|z:=NA.mp mn
   .exact(hr _ z).2
   .simp at z;subst z;intro b e;simp at e
  .show z5_;rw[cm!,e];rfl
 let v7:∀{k:Str},("put"==k)=θ->(k=="write")=θ->(k=="cut")=θ->At_=θ->(Ah!) qi!=E6! (.tup [cm_,nm]):=λ{k} e0 w c s=>
  (bI (iR (qU χ w))).trans ((bI (iR (by delta Go;rw[qU χ c];rfl))).trans (Js_ (iR (In! s)) (hun e0)))
 delta KindOk at hk;obtain rfl|rfl|rfl|rfl|rfl|rfl|rfl|rfl:=hk
 .exact#[_,fin _ (pB (DQ! lj! (KZ! v6))),.put (pb _ mp1) ui,h6!]
 .exact#[_,fin _ ((aG_).trans (KS! (Jj_ (c0g χ (Dg_ a6e e3) ep3)))),.move pe (pb _ mp3) ui,h6!]
 all_goals first|(exact#[_,fin _ ((aG_).trans ((aG_).trans (pB (DQ! lj! (pC χ χ))))),.drop pe,h6!];done)|skip
 .exact⟨_,fin _ ((aG_).trans ((aG_).trans ((aG_).trans ((lk_).trans
   (KS! (Lh! (nQ (cL (Dg_ a6e e5) χ) et))))))),.write pe Z1 ht1 ht0 a!,d6q a!⟩
 .let go:HI [bZ!,cn_,bX_,dF!,fY_,fX!,fY!,le_,le!,ψ dh!,υ,υ]=sSeq EK Ag_ [bZ!,cn_,bX_,dF!,fY_,fX!,fY!,le_,le!,ψ dh!,ψ sg,υ]:=DC_ aG_;obtain rfl|⟨a,b,c,rfl,Y,h2,h3,h4,c0,c15⟩:=Z1
  .exact#[_,fin _ (go.trans (Js_ (iR AD!) (pB (Z2 χ)))),Z3]
  .let hc:0<16 - c:=by omega
   let q1:0<=m0 / 12%(16 - c):=SN _ a!;let q2:m0 / 12%(16 - c)<16 - c:=RP _ hc;exact#[_,fin _ (go.trans (pB ((b7k AD!).trans (pC (cL χ (Lh! (aZ χ (Dg_ aZ (jK hc)) χ))) χ)))),.cut pe #[a,b,c,χ,Y,h2,h3,h4,c0,c15] a! a!,h6!]
 .exact#[_,fin _ (DC_ ((aG_).trans (Js_ (iR (by delta Go;rw[qU (b:=θ) χ c_];rfl)) (pB (Z2 c_))))),Z3]
 .exact#[_,AE_,.undo nn,d0s c_ n6]
 .exact#[_,AE_,.redo nn,d0s c_ n6]
def gG(h:Ci d):Ds d=true:=by obtain rfl|rfl|⟨a,b,rfl,_⟩:=h<;>simp[Ds,Ey]
def yW(h:Lh d):Ds d=true:=by obtain rfl|⟨a,b,rfl,_⟩:=h<;>simp[Ds,Ey]
def vV(h:NameG d):Ds d=true:=by let#[a,b,rfl,_]:=h;simp[Ds,Ey]
def a8z(h:Jp d):Ds d=true:=by obtain rfl|⟨a,b,c,rfl,_⟩:=h<;>simp[Ds,Ey]
def b1j(h:DG d):Ds d=true:=by
 cases h with
 |put Y h2=>simp[Ds,Ey,gG Y,yW h2]
 |move Y h2 h3=>simp[Ds,Ey,gG Y,gG h2,yW h3]
 |drop Y=>simp[Ds,Ey,gG Y]
 |write Y h2=>simp[Ds,Ey,gG Y,a8z h2]
 |cut Y=>simp[Ds,Ey,gG Y]
 |set Y=>simp[Ds,Ey,gG Y]
 |undo Y=>simp[Ds,Ey,vV Y]
 |redo Y=>simp[Ds,Ey,vV Y]
abbrev Tn:Ae->ι Fl:=(sSeq v6!
 (sSeq v6_
 (sSeq v7_
 (sSeq v8!
 (sSeq v8_
 v9!)))))
inductive Sa(W:OW)(n:D):D->OW->Prop
 |put {a b:D} {rows':q!}:Ci a->Lh b->JL_ n->IW! hX_ fC!
 |mvY {a b c:D} {rows':q!}:Ci a->Ci b->Lh c->AG!->DQ_ Ph a b c rows'->IW! hY! {W with rows:=rows'}
 |mvN {a b c:D}:Ci a->Ci b->Lh c->¬AG!->IW! hY! W
 |drY {a:D} {rows':q!}:Ci a->AG_->DQ_ Ph a binn .non rows'->IW! hY_ {W with rows:=rows'}
 |drN {a:D}:Ci a->¬AG_->IW! hY_ W
 |wrt {a b:D} {s:Str} {h m:Int}:Ci a->Jp b->F!<=16->n=.tup cq_->IW! dD! (HK! setT AH!)
 |cut {a:D} {x y z m:Int}:Ci a->0<=z->1<=m->z+m<=16->Sa W n (.tup [.str "cut",a,.tup [.int x,.int y,.int z],.int m]) (if a∈W.its then setT W a (cutT ((List.range m.toNat).map λk=>.tup kJ!) aN!)else W)
 |set {a:D} {p v:Int}:Ci a->0<=p->p<=3->IW! ln_ (HK! BA qo_)
def dB(h:Ci x):∃k,Co x=ψ k:=by
 obtain rfl|rfl|⟨a,b,rfl,_⟩:=h
 .exact A_
 .exact A_
 .exact A_
def uZ(h:Lh x):∃k,Co x=ψ k:=by
 obtain rfl|⟨a,b,rfl,_⟩:=h
 .exact A_
 .exact A_
def b5k(h:Jp x):∃k,Co x=ψ k:=by
 obtain rfl|⟨a,b,c,rfl,_⟩:=h
 .exact A_
 .exact A_
structure Tj(W:OW)(pre:d_):Prop where
 inv:By W
 its:∀x∈W.its,x∈pre
 sgs:∀x∈W.its,∀q∈W.txt x,∃h n k,q.1=.tup AI!/\D.tup bF!∈pre
 chr:∀x∈W.its,∀q∈W.txt x,∃c:Nat,q.2.1=.str H_
section
variable{t:Az}{M:Mh}{o:yJ!}{O:Addr->Prop}{W W':OW}{B:Nat}{R:D->Mh->Prop}{pre:List D}
def pR{s:Str}(hq:q∈Ek_ et_):∃c k:Nat,q=(.tup qp!,.str H_,τ):=by let#[#[c,k],_,rfl]:=NC.mp hq;exact#[c,k,χ]
def b2l(h n:Int):∀(cs:i_) (k0:δ),((Dj_ AI_)).Nodup/\∀k:Nat,k<k0->D.tup qp!∉Dj_ AI_
 |[],k0=>by simp
 |c::cs,k0=>by
  let#[Y,h2]:=b2l h n cs (k0+1);exact#[NJ.mpr #[h2 k0 a!,Y],λk hk z=>?_];obtain z|z:=MD.mp z
  .simp[sgn]at z;omega
  .exact h2 k a! z
def a8y{h m:Int}(hs:Gi! lp_)(w:f2_)(hn:AJ_):Tj W' AK!:=by
 let keep:∀{V:OW},V.its=W.its->V.txt=W.txt->By V->Tj V AK!:=λ{V} e1 e2 wi=>by
  exact#[wi,aC_,lq!,lq!]
  .rw[e1]at hx;exact MV _ (w.its x hx)
  .rw[e1]at hx;rw[e2]at hq;let#[a,b,c,e,hm]:=IW_ w.sgs;exact#[a,b,c,e,MV _ hm]
  .rw[e1]at hx;rw[e2]at hq;exact IW_ w.chr
 cases hs with
 |put y1 y2 hg=>
  rename_i a b rows';let ni:D.tup cq_∉W.its:=λz=>hn (w.its _ z);let hp:Ge W fR_:=by split;assumption;exact .inr ed!
  let im:∀x,x∈(AK_).its↔x∈W.its\/x=.tup cq_:=λx=>by simp[Jg]
  let tx:∀x,(AK_).txt x=if x=.tup cq_ then[]else W.txt x:=λx=>χ
  exact#[hg.winv_put w.inv ni (Ku_ _) hp,aC_,lq!,lq!]
  .obtain z|rfl:=(im x).mp hx
   .exact MV _ (w.its x z)
   .simp
  .rw[tx]at hq;by_cases e:x=.tup cq_
   .rw[MM e]at hq;exact(hx_).elim
   .rw[MY e]at hq;let#[a,b,c,e',hm]:=w.sgs x AL_ q hq;exact#[a,b,c,e',MV _ hm]
  .rw[tx]at hq;by_cases e:x=.tup cq_
   .rw[MM e]at hq;exact(hx_).elim
   .rw[MY e]at hq;exact w.chr x AL_ q hq
 |mvY _ _ _ hc hg=>exact Kq_ AM!
 |mvN _ _ _ hc=>exact Kq_ w.inv
 |drY _ hc hg=>exact Kq_ AM!
 |drN _ hc=>exact Kq_ w.inv
 |wrt y1 y2 y3 e=>
  rename_i a b s h' m';cases e;by_cases c:a∈W.its
  .rw[MM c];let#[U,v,e1,e2,e3]:=Ho! rD;let mem:∀q,q∈Ho! wrT↔q∈W.txt a\/q∈s.cps.toList.zipIdx.map ll!:=λq=>by
    rw[e2,e1];simp![NA];constructor<;>(intro z;rcases z with(z|z)|z<;>simp[z])
   let fresh:∀x∈W.its,∀q∈W.txt x,∀k:Int,q.1≠.tup [aF!,et!,ev_]:=λx hx q hq k z=>by
    show"!a";rw[e']at z;cases z;exact hn hm
   let tx:∀x,(AN!).txt x=if x=a then Ho! wrT else W.txt x:=λx=>χ
   let all:∀(P:fJ!),(∀x∈W.its,∀q∈W.txt x,P q)->(∀q∈s.cps.toList.zipIdx.map ll!,P q)->∀x∈W.its,∀q∈(AN!).txt x,P q:=λP Y h2 x hx q hq=>by
    rw[tx]at hq;by_cases e:x=a
    .rw[MM e]at hq;obtain z|z:=(mem q).mp hq
     .exact Y a c q z
     .exact h2 q z
    .rw[MY e]at hq;exact IW_ Y
   exact#[rH w.inv c ?_ er_ pw_,λx hx=>MV _ (w.its x hx),all _ (λx hx q hq=>?_) er_,all _ w.chr er_]
   .rw[e2];let nd:=w.inv.snd a c;rw[e1]at nd;let#[n1,_]:=b2l h m s.cps.toList 0;let dj:∀q∈W.txt a,∀q'∈s.cps.toList.zipIdx.map ll!,q.1≠q'.1:=λq hq q' bc=>by
     let#[c',k',rfl]:=pR bc;exact fresh a c q hq _
    simp![NM]at nd ⊢;rw[NU]at nd;rw[NU,NU];exact#[#[nd.1,n1,kn!],nd.2.1,kn!]
    .let#[q,hq,rfl]:=NC.mp hx;let#[q',bc,rfl]:=NC.mp hy;exact Gi_ MV
    .obtain hx|hx:=NA.mp hx
     .exact nd.2.2 x hx y hy
     .let#[q',bc,rfl]:=NC.mp hx;let#[q,hq,rfl]:=NC.mp hy;exact OB (Gi_ MF)
   .obtain z|z:=(mem q).mp hq
    .exact w.inv.sg a c q z
    .let#[c',k',rfl]:=pR z;exact yN!
   .obtain z|z:=(mem q).mp hq
    .exact(w.inv.su a c y hy q z q' bc e).symm
    .let#[c',k',rfl]:=pR z;exact Kh_ (fresh y hy q' bc _)
   .show"!a";exact qr_
   .let#[c',k',rfl]:=pR hq;exact#[_,_,_,χ,Q!]
   .let#[c',k',rfl]:=pR hq;exact A_
  .show"#("
 |cut y1 y2 y3 y4=>
  rename_i a x y z m';by_cases c:a∈W.its
  .rw[MM c];let tx:∀v,(setT W a (cutT AP! aN!)).txt v=if v=a then cutT AP! aN! else W.txt v:=λx=>χ
   exact#[b7y w.inv c _,λv hv=>MV _ (w.its v hv),AP_,AP_]
   .rw[tx]at hq;split at hq
    .show"!b";let#[a',b',c',e',hm]:=w.sgs a c q0 h0;exact qr_
    .let#[a',b',c',e',hm]:=w.sgs v hv q hq;exact qr_
   .rw[tx]at hq;split at hq
    .show"!b";exact w.chr a c q0 h0
    .exact w.chr v hv q hq
  .show"#("
 |set y1 y2 y3=>
  rename_i a p v;by_cases c:a∈W.its
  .rw[MM c];exact Kq_ (b5m w.inv (by rw[RB];exact w.inv.nl a c))
  .show"#("
end
def c2m:(BR_ "put" "put")=true:=by decide+kernel
def a2y:(BR_ "move" "move")=true:=by decide+kernel
def a2z:(BR_ "drop" "drop")=true:=by decide+kernel
def a6n:(BR_ "write" "write")=true:=by decide+kernel
def c2n:(BR_ "cut" "cut")=true:=by decide+kernel
def c2l:(BR_ "set" "set")=true:=by decide+kernel
section
variable{t:Az}{M:Mh}{o:yJ!}{O:Addr->Prop}{W W':OW}{B:Nat}{R:D->Mh->Prop}{pre:List D}
def ifT{R:r_}(h:AR!)(k:Hi_ q1):DO_ (Cp ft):=by simp![At,Cp,h];exact k
def jR{R:r_}(h:AS_)(k:ez!):DO_ (Cp ft):=by simp![At,Cp,h];exact k
def bH:(Jo! qs!) [am!,bA_,ψ cX!]=ψ ls!:=by
 let e:Ak cX! O_=ψ T_:=by
  show qs_;show"#2";simp
 simp[fT,f2,Aa,fC,e,dZ]
def ix1:Ak qt! bv_=ψ a:=by show Fs (D.str k::a::r) 1=_;delta Fs Kl;rw[aN_,fS_];rfl
def ix2:Ak qt_ cz_=ψ b:=by show Fs (D.str k::a::b::r) 2=_;delta Fs Kl;rw[aN_,fS_];rfl
def ix3:Ak qu! a9_=ψ c:=by show Fs (D.str k::a::b::c::r) 3=_;delta Fs Kl;rw[aN_,fS_];rfl
def ax1:Fr_ D! qt!=ψ a:=ix1
def ax2:Fr_ aW_ qt_=ψ b:=ix2
def ax3:Fr_ ah_ qu!=ψ c:=ix3
def av0:Aa 0 AU!=ψ av_:=χ
def av1:Aa 1 AU!=ψ n:=χ
def fP{R:r_}(k:f ρ M λ_ M1=>R ab_ M1):Bg f ρ M R:=k
def wB{fo f1 f2 f3:n_}(h0:fo ρ=ψ d)(Y:fO!)(h2:hR!)(h3:qu_)(ho:lH!)(k:g [d,a,b,c] M R):Ba C m 4 g cU_ AU_ ρ M R:=by simp![Ba,wl,Ab,Ad,h0,Y,h2,h3];exact pH_
def d7r{fo f1 f2 f3 f4:n_}(h0:fo ρ=ψ d)(Y:fO!)(h2:hR!)(h3:qu_)(h4:f4 ρ=ψ e)(ho:lH!)(k:g [d,a,b,c,e] M R):Ba C m 5 g cU_ AV! ρ M R:=by simp![Ba,wl,Ab,Ad,h0,Y,h2,h3,h4];exact pH_
def c7b{h m:Int}(hO:ap_)(w:f2_)(hn:AJ_)(hs:Gi! lp_)(hB:hK_)
  (hR:∀M' O',GN! W' bE_->Dz_ O'->D5_ M'):Mm t [a5!,.tup cq_,d] M R:=by
 let fresh:∀x∈W.its,∀k':Nat,D.tup [aF!,et!,.int (k':δ)]∉Dj_ bB!:=λx hx k' z=>by
  show"#M";show"!a";rw[e']at e;cases e;exact hn hm
 exact j_;cases hs with
 |put ha J hg=>
  show"!5";let#[kb,lc]:=uZ J;exact Ji! c2m;exact fP (wB av0 av1 ax1 ax2 dG_ (d2r hO w.inv (λz=>hn (w.its _ z)) (Ku_ _) bq lc hB hg hR))
 |mvY ha J b8 hc hg=>
  show"!R";exact D0_ (uA hO w.inv bq lc zi hB λM' f1 _ fr=>hR M' O (f1 hc _ hg) fr)
 |mvN ha J b8 hc=>
  show"!R";exact D0_ (uA hO w.inv bq lc zi hB λM' _ f1 fr=>hR M' O (f1 hc) fr)
 |drY ha hc hg=>
  show"#'";exact Hp! (uA hO w.inv bq χ χ hB λM' f1 _ fr=>hR M' O (f1 hc _ hg) fr)
 |drN ha hc=>
  show"#'";exact Hp! (uA hO w.inv bq χ χ hB λM' _ f1 fr=>hR M' O (f1 hc) fr)
 |wrt ha J d8 e=>
  cases e;show"!5";let#[kb,lc]:=b5k J;show"!/";exact Ji! a6n;exact fP (d7r av0 av1 ax1 ax2 ax3 dG_ (b8h hO w.inv bq lc hB d8 fresh λM' f1 _ fr=>hR M' O f1 fr))
 |cut ha b5 Y h2=>
  show"!5";show"!/";exact jR J! ?_;exact Ji! c2n;exact D0_ (d5o hO w.inv bq hB b5 Y h2 λM' f1 fr=>hR M' O f1 fr)
 |set ha Y h2=>
  show"!5";show"!/";exact jR J! ?_;exact jR J! ?_;exact Ji! c2l;exact D0_ (xS hO w.inv bq Y h2 λM' f1 fr=>hR M' O (f1.mono a!) fr)
def c7c{k:Str}(hk:AX_)(hR:R .non M):Mm t [a5!,n,.tup [cm_,a]] M R:=by
 exact j_;obtain rfl|rfl:=hk
 .show"!/";show"!/";exact hR
 .show"!/";show"!/";exact hR
end
section
variable{t:Az}{M:Mh}{o:yJ!}{rl:Addr->Tk}{W W':OW}{B:Nat}{R:D->Mh->Prop}{pre:List D}
def cZ(b:D->Bool)(y:D->D)(cp:ck M):∀(ds:d_) (R:qj!),
  (∀d∈ds,∃ap,bnd d ρ=ψ ap/\(∀K:Bool->Mh->Prop,K (b d) M->ft ap M K)/\(b d=τ->∀K:D->Mh->Prop,K (y d) M->fe ap M K))->R ((ds.filter b).map y) M->Ej! ρ ds M R
 |[],R,_,hR=>#[cp,hR]
 |d::ds,R,h,hR=>by
  let#[ap,e1,e2,e3]:=h d MB;exact lu!;rw[e1];exact e2 _ ?_;cases J:b d with
  |true=>
   exact e3 J _ (cZ b y cp ds _ qv_ ?_);rw[OD J]at hR;exact hR
  |false=>
   exact cZ b y cp ds _ qv_ ?_;rw[OO (D2! J)]at hR;exact hR
end
structure Op where
 h:Int
 n:Int
 tm:Int
 d:D
nonrec def Op.v(o:Op):D:=.tup lu_
nonrec def Op.nm(o:Op):D:=.tup qw!
nonrec def Op.key(o:Op):Int×Int:=(o.tm,o.h)
def Gd:D->Dl_ ck!
 |.tup [.str k,a]=>if qw_ then ψ (k,a)else υ
 |_=>υ
def nW(k:Str)(a:D):Gd (.tup [cm_,a])=if qw_ then ψ (k,a)else none:=χ
def uH(h:DG d):(∃k a,d=.tup [cm_,a]/\AY!/\NameG a/\Gd d=ψ (k,a))\/(∃k r,d=.tup cl_/\ia!=θ/\(k=="redo")=θ/\Gd d=υ):=by
 cases h with
 |put Y h2=>exact .inr ia_
 |move Y h2 h3=>exact .inr ia_
 |drop Y=>
  exact .inr #[_,_,χ,c_,c_,?_];rfl
 |write Y h2 h3 h4 h5=>exact .inr ia_
 |cut Y h2 h3 h4=>exact .inr ia_
 |set Y h2 h3 h4=>exact .inr ia_
 |undo Y=>
  exact .inl #[_,_,χ,cu!,Y,?_];rfl
 |redo Y=>
  exact .inl #[_,_,χ,.inr χ,Y,?_];rfl
def a3b(o:Op):De cr!=ψ AZ_:=by rfl
def wN:∀ops:List Op,Ml De f3_=ψ qx_
 |[]=>rfl
 |o::r=>by
  rw[MO];delta Ml;rw[a3b,wN r];rfl
def d7w(o:Op):Jh De o.v=o.key:=by delta Jh;rw[a3b];rfl
def a6y{k:α->Int×Int}(h:A0_)(x:α):∀l:List α,Qs k' (f x) gh!=(Qs k x l).map f
 |[]=>rfl
 |y::r=>by
  simp![MO,Qs,h];split
  .rfl
  .rw[a6y h x r];rfl
def uV{k:α->Int×Int}(h:A0_):∀l:List α,Iy k' gh!=(Iy k l).map f
 |[]=>rfl
 |x::r=>by rw[MO];delta Iy;rw[uV h r,a6y h]
abbrev srt(ops:h_):μ Op:=HY_ Iy ops
def nO(nd:eA!)(hl:eA_):Cy cr_=sM! ib_:=by
 let e:DM De f3_=ψ ib_:=by
  delta DM;rw[wN];show(if(qx_).Nodup/\(f3_).length<64 then ψ _ else υ)=_;rw[MM #[nd,by simpa using hl],uV d7w]
 simp[Cy,Qm,Dk,Bh,Wr,Aa,e]
def iJ(h:a.Perm b)(nd:A2!):srt a=srt b:=
 mL (jA nd) (jA ((h.map _).nodup_iff.mp nd)) ((bL a).trans (h.trans (bL b).symm))
def b8w(nd:A2!):srt (srt a)=srt a:=iJ (bL a) (((bL a).map _).nodup_iff.mpr nd)
def d0p{o:Op}(h:f4!):Aw cr!=ψ qA!:=by
 let e3:FQ! a9_=ψ o.d:=by
  rfl
 let main:∀(k:Str) (r:d_),o.d=.tup cl_->Aw cr!=Df! qw_:=λk r e=>by
  let e0:Ak cX! O_=ψ T_:=by
   show qs_;show"#2";simp
  let e1:∀s:Str,f2 Av jm! k8! [L!]=Df! (k==s):=λs=>by
   show(qB!).bind A3!=_;rw[e3,e];show((Ak cX! O_)).bind A3!=_;rw[e0];exact dZ k s
  show(match Bh (Ng _ _) [L!]with|some (.rt d)=>ψ d|some (.nx _)=>ψ .non|none=>υ)=_;delta Bh Ng fT;rw[e1,e1];cases (k==Str.ofString "undo")<;>rfl
 obtain⟨k,a,e,hk,_,hu⟩|⟨k,r,e,Y,h2,hu⟩:=uH h
 .rw[main k [a] e,hu];obtain rfl|rfl:=hk
  .rw[A6!];rfl
  .rw[A6_,(show(BR_ "redo" "undo")=θ by decide+kernel)];rfl
 .rw[main k r e,hu,Y,h2];rfl
def Oq(f:Str->D):μ Op->μ ar_->μ ar_
 |[],σ=>σ
 |o::os,σ=>match Gd o.d with
  |some (k,a)=>Oq f os (Br σ a (f k))
  |none=>Oq f os σ
def uP:∀(os:h_) (A B:q!),(∀x,(Fk! A B)\/∃k:Str,kget A x=ψ T_/\kget B x=ψ f4_)->
  ∀x,(Fk! A7! (Oq lw_ os B))\/∃k:Str,FP! A7!=ψ T_/\FP! (Oq lw_ os B)=ψ f4_
 |[],A,B,h=>h
 |o::os,A,B,h=>by
  delta Oq;cases e:Gd o.d with
  |none=>exact uP os A B h
  |some q=>
   let#[k,a]:=q;exact uP os _ _ λx=>?_;by_cases c:a=x
   .subst c;rw[jU,jU];exact .inr #[k,χ,χ]
   .rw[oX c,oX c];exact h x
section
variable{t:Az}{M:Mh}{R:D->Mh->Prop}
def jD(h:bG_)(hk:aU!)(hl:cY_):Ki M B! y v=ψ f6_:=by simp[Ki,h,hk,hl]
def zL(h:lx!):∃k,Co x=ψ k:=by let#[a,b,rfl,_]:=h;exact A_
def d8l:Aa 1 ra_=ψ B!:=χ
def a2f:∀(os:h_) (x1:D) (y:ac_) (σ:q!) (ep:δ) (M:Mh) (R:r_),qC!->cZ_+ax!<1000->M p=ψ qC_->
  (∀M' bm y',M' p=BS! A9_ bm->ly_->R A8_ M')->
  Ga ca_ N! up! ak_ ra_ M R
 |[],x1,y,σ,ep,M,R,_,_,hp,hR=>A9!
 |o::os,x1,y,σ,ep,M,R,hd,hl,hp,hR=>by
  exact am_;show IX! (Cp _) b0_;let ho:=hd o MB;let et:fT (Hp_ Aw) b0_=ψ (Gd o.d).isSome:=by
   let e:Hp_ Aw b0_=ψ qA!:=d0p ho;delta fT;rw[e];rfl
  dsimp only[List.length_cons]at hl;let e3:FQ! a9_=ψ o.d:=by rfl
  obtain⟨k,a,e,hk,ji,hu⟩|⟨k,r,e,Y,h2,hu⟩:=uH ho
  .rw[hu]at et;exact ifT et ?_;let#[ka,k9]:=zL ji;let i0:Ff! M!=ψ T_:=by
    show qB!=_;rw[e3,e];show Fs [D.str k,a] 0=_;rfl
   let i1:Ff! D!=ψ a:=by
    show Bb_;rw[e3,e];show Fs [D.str k,a] 1=_;rfl
   let ph:Ki M B! a T_=ψ Bd!:=by
    exact jD hp k9 a2_
   let:=a2f os x1 eB! (Br σ a T_) (Il σ a ep) Bd! R f5_ (by let:=Ie! σ a T_;omega) mup_same (λM' bm y' Y h2=>hR M' bm y' Bd_ λb J=>GT! b);simp![Bv,wl,i0,i1,d8l,ph,Dq];show"#E"
  .rw[hu]at et;exact jR et ?_;exact Gj! a2f
def jW(h:f ρ=ψ ce!):Ce f ρ=ψ ds:=by delta Ce;rw[h];rfl
def yB(nd:eA!)(hl:eA_)(hd:ic_)
  (hR:∀p M' ep,M p=υ->M' p=Kh! id!->ly_->R B! M'):Fw cr_ M R:=by
 exact j_;intro p hp;let hi:Ce jn! qE!=ψ ib_:=jW (nO nd hl);let bz:HZ! a8!:=bL ops;let:=KC_ a2f (EF! p!);show Ag (Cs (Hb _) _ _) _ qE! _ _;simp![Ag,Cs,Hb,hi,Dq];show"#E"
def t2(ha:∀K':D->Mh->Prop,K' d M->fa ρ M K')(J:fb ρ=ψ v)(hg:g d v=ψ aH_)(k:K b M):wT (w2 (λ_=>g) fa lz!) ρ M K:=by exact ha _ ?_;simp![wl,J,hg];exact k
def Undn(wd:q!)(o:Op):Prop:=Gd o.d=υ/\IY! wd=ψ ca!
def d0u(o:Op):Im_ o.v (ψ 2)=ψ o.nm:=by rfl
def b0d(o:Op):∃k,Co o.nm=ψ k:=A_
def b2a(q8:p≠q):∀(os:h_) (x1:D) (y z:ac_) (σ:q!) (ep:δ) (M:Mh) (R:r_),qC!->cZ_+ax!<1000->M p=KD! wd->M q=ψ qC_->(FC! wd)->
  (∀M' bm y' z' ez,M' q=BS! ez bm->(In_ (kget σ x≠υ\/∃o∈os,o.nm=x/\Undn wd o))->Bh!->JQ_ [ad!,as!,b1!,y',z'])->
  Ga R_ N! jr! ak_ [ad!,as!,b1!,y,z] M R
 |[],x1,y,z,σ,ep,M,R,_,_,hp,hq,lf,hR=>#[ο,hR M ep y z σ hq Bh_ λb _=>χ]
 |o::os,x1,y,z,σ,ep,M,R,hd,hl,hp,hq,lf,hR=>by
  exact am_;show Fq_ (An 4 _) [ad!,as!,b1!,L!,z];let ho:=hd o MB;dsimp only[List.length_cons]at hl;let es:=d0u o;dsimp only[Ag,An,wl,es];show IX! _ dH!;let et:Dr uq! dH!=ψ (!(Gd o.d).isSome):=by
   let e:f1 Aw jq! dH!=ψ qA!:=d0p ho;delta Dr fT;rw[e];rfl
  let#[kn,gj]:=b0d o;let next:∀(c:ν),(c↔Undn wd o)->∀ez bm M',M' q=BS! ez bm->(In_ (kget σ x≠υ\/(x=o.nm/\c)))->ez.length<=cZ_+1->Bh!->
    Ga R_ N! jr! ak_ dH! M' R:=λc hc ez bm M' Y h2 h3 h4=>by
   exact b2a q8 os x1 _ _ ez bm M' R f5_ a! ((h4 p q8).trans hp) Y lf λM2 ml y2 z2 acc2 g1 g2 g3=>hR M2 ml y2 z2 acc2 g1 qG_ λb J=>(g3 b J).trans (h4 b J);rw[g2,h2];show"!i"
   .rintro((u|⟨u1,u2⟩)|⟨o',u1,u2,u3⟩)
    .exact .inl u
    .exact .inr #[o,MB,u1.symm,hc.mp u2]
    .exact .inr #[o',LY _ u1,u2,u3]
   .rintro(u|⟨o',u1,u2,u3⟩)
    .exact FT_ u
    .obtain rfl|u1:=MD.mp u1
     .exact J1! #[u2.symm,hc.mpr u3]
     .exact .inr #[o',u1,u2,u3]
  let no:(¬Undn wd o)->Ga R_ N! jr! ak_ dH! M R:=λh=>next False (D2! h) σ ep M hq Bh_ a! λb _=>χ;cases hu:Gd o.d with
  |some u=>
   rw[hu]at et;simp![At,Ex,Cp,et];exact no λz=>by rw[z.1]at hu;rcases hu
  |none=>
   rw[hu]at et;simp![At,Ex,Cp,et];let hg:∀(K:P_),K Bj_ M->No p! aY_ dH! M K:=λK hK=>by
    let c1:Dl M B!=ψ (p,wd,e0):=by simp[Dl,hp]
    show HT_ M B! λ_=>HT_ M B! λq=>Dq (Co o.nm) λ_=>K ((kget q.2.1 o.nm).getD .non) M;rw[c1,gj];exact hK
   let hsd:Sd Bj_:=by
    cases e:IY! wd with
    |none=>exact .inl χ
    |some v=>let#[k,rfl]:=lf _ _ e;exact jB k
   let Z4:J2_ qH!=.str "undo"↔Undn wd o:=by
    delta Undn;rw[hu];cases e:IY! wd with
    |none=>simp
    |some v=>simp
   exact t2 hg χ (oO hsd (jB _)) ?_;by_cases c:J2_ qH!=.str "undo"
   .rw[NG c];let ph:=jD (v:=.bl τ) hq gj a2_;let f2:Aa 2 dH!=ψ cZ!:=χ;let f4:Aa 4 dH!=ψ o.nm:=χ;simp![Bv,wl,fC,f2,f4,ph,Dq];exact next True (by simp[<-Z4,c]) _ _ _ mup_same qG_ hu_ λb J=>mup_ne J;by_cases e:o.nm=x
    .subst e;rw[jU];simp
    .rw[oX e];simp[OB e]
   .rw[MU c];exact no λz=>c (Z4.mpr z)
def a0x:∀(os:h_) (σ:q!),(FC! σ)->∀x v,FP! A9_=ψ v->∃k:Str,v=.str k
 |[],σ,h=>h
 |o::os,σ,h=>by
  delta Oq;cases e:Gd o.d with
  |none=>exact a0x os σ h
  |some q=>
   let#[k,a]:=q;exact a0x os _ λx v hx=>?_;by_cases c:a=x
   .subst c;rw[jU]at hx;rcases hx;exact#[k,χ]
   .rw[oX c]at hx;exact h x v hx
def b5e(nd:eA!)(hl:eA_)(hd:ic_)
  (hR:∀q M' ep kq,M q=υ->M' q=Kh! kq->(∀x,kget kq x≠υ↔∃o∈ops,o.nm=x/\Undn id! o)->eC_->R cZ! M'):La cr_ M R:=by
 exact j_;let hc:∀(K:P_),Fw cr_ M K->EI! Fw Bk_ M K:=λK h=>cN_;exact hc _ (yB nd hl hd λp M1 ep hp hM1 fr=>?_);intro q hq;let q8:p≠q:=λz=>by rw[<-z,hM1]at hq;rcases hq
 let pi:M q=none:=by rw[<-fr q (OB q8)];exact hq
 exact b2a q8 ops id_ υ υ [] 0 _ _ hd aV_ (Jm_ q8 hM1) mup_same (a0x _ [] λx v h=>by simp[kget]at h) λM' bm y' z' ez Y h2 h3=>?_;exact hR q M' bm ez pi Y qG_ λb J=>?_
 .rw[h2];simp[kget]
 .let b1:b≠q:=λz=>J (AT! z pi);let b2:b≠p:=λz=>J (AT! z hp);rw[h3 b b1,Dw! b1,fr b b2]
end
def W0:OW:=#[[],[],λ_=>[],λ_=>[]]
def c5o:Tj W0 []:=by exact#[#[by simp[W0],dH_,by simp[W0],λx=>by simp[W0],Bl!,#[λ_=>0,Bl!],dH_,dH_,dH_,dH_],dH_,dH_,dH_]
section
variable{t:Az}{M:Mh}{R:D->Mh->Prop}
section
variable{ρ:Ae}
def dA(h:bR_)(K:P_):wl f ρ M K=K d M:=by simp![wl,h]
def HK(C:yJ!)(x:Str)(fo:n_)(ρ:Ae)(y:D)(M:Mh)(Q:f7!):Prop:=wl fo ρ M λd M2=>match d with
 |.fn p=>(match M2 p with|some (.obj C' fs)=>C'=C/\bq!<100/\Q Bu_|_=>False)
 |_=>False
def pS{R:r_}(h:f ρ M λy M1=>HK_ M1 λM2=>R ab_ M2):Gg C x cU_ f ρ M R:=h
def mM{R:r_}(h:f ρ M λy M1=>HK_ M1 λM2=>q ρ M2 R):DL! (Gg C x cU_ f) q:=h
def iF(h0:lB!)(hM:M p=ψ pG_)(hl:bq!<100)(hf:Hs x y fs=fs')(k:Q (FX_ (.obj C fs'))):HK_ M Q:=by delta HK;rw[dA h0];show(match M p with|some (.obj C' fs)=>C'=C/\bq!<100/\Q (FX_ Bt_)|_=>False);rw[hM];subst hf;exact#[χ,hl,k]
end
def pc{R:Bi_}(h:fa ρ=ψ x)(k:fb ρ M λy M2=>fp ρ M2 λh1 M3=>R ((x,y)::h1) M3):Dx ie_ fb fp ρ M R:=by simp![Dx,wl,h];exact k
def b0e{α β:Type}{f:α->β}:∀{l:X!},(gh!).Nodup->∀{x y:α},x∈l->y∈l->f x=f y->x=y
 |[],_,_,_,h,_,_=>by exact(dA!).elim
 |a::l,nd,x,y,hx,hy,e=>by
  rw[MO,NJ]at nd;obtain Y|Y:=MD.mp hx<;>obtain h2|h2:=MD.mp hy
  .rw[Y,h2]
  .exact Df_ (by rw[<-Y,e];exact NE h2) nd.1
  .exact Df_ (by rw[<-h2,<-e];exact NE Y) nd.1
  .exact b0e nd.2 Y h2 e
structure HL(M0 M:Mh)(l:List qH_):Prop where
 cell:∀q∈l,M q.1=ψ q.2
 nd:(ex_).Nodup
 fr:∀q∈l,M0 q.1=υ
 kp:∀b,M0 b≠υ->M b=M0 b
variable{M0:Mh}{l u v:List (Addr×Dd)}{b:yJ!}{c c0:Dd}
def HL.new(h:qI!)(J:M b=υ):HL M0 qI_ ((b,c)::l):=by
 let h0:=TM λz=>z ((h.kp b z).symm.trans J);exact#[eD!,NJ.mpr #[co!,h.nd],eD!,λa ha=>(Kd! ha h0).trans (h.kp a ha)]
 .obtain rfl|hq:=MD.mp hq
  .exact mup_same
  .exact Jm_ (eB (by rw[h.cell q hq];simp) J) (h.cell q hq)
 .show"#M";let:=h.cell q hq;rw[e,J]at this;rcases this
 .obtain rfl|hq:=MD.mp hq
  .exact h0
  .exact h.fr q hq
def HL.put(h:HL M0 M (u++(b,c0)::v)):HL M0 qI_ (u++(b,c)::v):=by
 let nd:=h.nd;rw[NM,MO]at nd;let p:(u.map d!++b::v.map d!).Perm (b::(u.map d!++v.map d!)):=TN;let nb:=(Fm_ nd).1;let ob:∀q,q∈u++v->Hi! b q.1=M q.1:=λq hq=>mup_ne λz=>nb (by rw[<-z,<-NM];exact NE hq);let bc:∀{c q},q∈u++(b,c)::v->q=(b,c)\/q∈u++v:=λ{c q} hq=>by simpa[or_left_comm]using hq
 let j7:∀q,q∈u++v->q∈u++(b,c0)::v:=λq hq=>NA.mpr ((NA.mp hq).imp_right (LY _));let vx:=h.fr (b,c0) c!;exact#[eD!,by rw[NM,MO];exact nd,eD!,λa ha=>(Kd! ha vx).trans (h.kp a ha)]
 .obtain rfl|z:=bc hq
  .exact mup_same
  .exact(ob q z).trans (h.cell q (j7 q z))
 .obtain rfl|z:=bc hq
  .exact vx
  .exact h.fr q (j7 q z)
def HL.row(h:qI!)(z1:M r=υ)(z2:M f=υ)(z3:M p=υ)(n1:r≠f)(n2:r≠p)(hr:FI_ M' [])(fr:∀b,b≠r->b≠f->b≠p->M' b=M b):∃kf ef kp ep,Gq [] kf/\Gq [] kp/\HL M0 M' ((r,.obj t.B7 o0_)::(f,.dct kf ef)::(p,.dct kp ep)::l):=by
 let#[kf,ef,kp,ep,hf,hp,K,Kp]:=hr.dc;let h3:=((h.new (c:=.dct kp ep) z3).new (c:=.dct kf ef) (Jm_ hr.ne z2)).new (c:=.obj t.B7 o0_) (Jm_ n1 ((Dw! n2).trans z1));exact#[kf,ef,kp,ep,K,Kp,?_];let e:∀a,M' a=mup (mup (FX_ (.dct kp ep)) f (.dct kf ef)) r o1! a:=λa=>by
  by_cases c1:a=r
  .rw[c1,mup_same];exact hr.ob
  .rw[Dw! c1];by_cases c2:a=f
   .rw[c2,mup_same];exact hf
   .rw[Dw! c2];by_cases c3:a=p
    .rw[c3,mup_same];exact hp
    .rw[Dw! c3];exact fr a c1 c2 c3
 rw[show M'=_ from funext e];exact h3
def d1i:(qJ!).Nodup:=NJ.mpr #[by rw[NB];exact b9p,Q!]
def d1a:∀q∈qK!,(Co q.1).isSome=true:=λq hq=>by
 obtain rfl|hq:=MD.mp hq
 .rfl
 .rw[NB.mp hq];rfl
def a9c{R:r_}(h:q1 ρ M λr M1=>match r with|.nx bi=>q2 bi M1 R|.rt d=>R ac! M1):K3_ q1:=h
def b2m{fs':Addr->μ ck!}{R:r_}(L:HL M0 M (u++[(o,.obj C fs)]))(h0:y5!)(hl:bq!<100)(hf:∀a,Hs x bz! fs=fs' a)(k:∀a M',HL M0 M' ((a,.dct [] 0)::u++[(o,.obj C (fs' a))])->R ab_ M'):Gg C x cU_ Gi ρ M R:=pS λa ha=>by
 let L1:=L.new (c:=if_) ha;exact iF h0 (L1.cell (o,_) c!) hl (hf a) (k a _ (L1.put))
def dF{α:Type}{l:X!}{a:α}(i:δ)(h:l[i]?=ψ a):a∈l:=SZ h
def d3u{M':Mh}{f1 p1 f2 p2:yJ!}{kf2:q!}{Z5 v6 Z6 ml:δ}(L:HL M M' [(a6,.dct [] 0),(a5,.dct [] 0),(a4,.dct [] 0),(a3,.dct [] 0),(r2,.obj t.B7 (Em! f2 p2)),(f2,.dct kf2 Z6),(p2,.dct d9 ml),(r1,.obj t.B7 (Em! f1 p1)),(f1,.dct Z7 Z5),(p1,.dct v8 v6),(a2,.dct Bp_ 2),(a1,.dct Bq! 2),(o,.obj t.B6 bV_)])(c1:Gq [] Z7)(c2:Gq [] v8)(c3:Gq [] kf2)(c4:Gq [] d9):∃O,D3_ M' W0 2/\∀b,M b≠υ->M' b=M b/\¬O b:=by
 let -nondep ad:Tk->Addr
  |.ob=>o
  |.par=>a1
  |.dir true=>a2
  |.dir false=>a3
  |.nums=>a4
  |.wri=>a5
  |.hid=>a6
  |.row x _=>if x=root then r1 else r2
  |.fol x _=>if x=root then f1 else f2
  |.pre x _=>if x=root then p1 else p2
  |.nm _=>o
 let br:=OB b9p;let hl:(Bq_).map ad=[a6,a5,a4,a3,r2,f2,p2,r1,f1,p1,a2,a1,o]:=by
  simp![MO,RM,ad,MY br,PL]
 let d:∀{x:D} {b:Bool},(Kk W0).dm b x->b=τ/\Br_:=λ{x b} l=>by
  cases b with
  |true=>exact#[χ,Or.resolve_left l λz=>by cases z]
  |false=>cases l
 let lm:∀r,Jq (Kk W0) r->r∈Bq_:=λr l=>by
  cases r with
  |row x b=>obtain⟨rfl,rfl|rfl⟩:=d l;exact dF 7 χ;exact dF 4 χ
  |fol x b=>obtain⟨rfl,rfl|rfl⟩:=d l;exact dF 8 χ;exact dF 5 χ
  |pre x b=>obtain⟨rfl,rfl|rfl⟩:=d l;exact dF 9 χ;exact dF 6 χ
  |nm x=>cases l
  |dir b=>cases b;exact dF 3 χ;exact dF 10 χ
  |ob=>exact dF 12 χ
  |par=>exact dF 11 χ
  |nums=>exact dF 2 χ
  |wri=>exact dF 1 χ
  |hid=>exact dF 0 χ
 let nd:=L.nd;let fr0:∀{l:μ qH_},HL M M' l->∀a∈l.map d!,M a=none:=λL a ha=>by let#[q,hq,rfl]:=NC.mp ha;exact L.fr q hq
 let A1:HJ_ root=r1:=MM χ;let A2:HJ_ binn=r2:=MY br;let A3:ad Bs!=f1:=MM χ;let A4:ad Bs_=f2:=MY br;let A5:ad Bt!=p1:=MM χ;let A6:ad Bu!=p2:=MY br;let kr:∀{y z:D},kget qK! root=ψ y:=MM χ;let kb:∀{y z:D},kget qK! binn=ψ z:=HJ! b9p;exact#[Yo ad (Kk W0),#[ad,χ,zw_,λr l=>?_,λr r' l l'=>b0e (AT! hl nd) (lm r l) (lm r' l')],λb J=>#[L.kp b J,λ⟨r,l,e⟩=>?_]]
 .let hc:=L.cell;cases r with
  |ob=>exact#[_,hc _ (dF 12 χ),χ]
  |par=>exact#[_,hc _ (dF 11 χ),_,_,χ,MZ 2,kr,kb,λi p h=>by cases h]
  |dir b=>
   cases b with
   |true=>
    exact#[_,hc _ (dF 10 χ),_,_,χ,MZ 2,λx=>#[f6!,f6!]]
    .obtain⟨_,rfl|rfl⟩:=d h
     .rw[A1];exact kr
     .rw[A2];exact kb
    .exact(MY λz=>h (Er_ z.symm)).trans (MY λz=>h (Dt_ z.symm))
   |false=>exact#[_,hc _ (dF 3 χ),_,_,χ,OA 2,λx=>#[λh=>(Kp! h),cA_]]
  |nums=>exact#[_,hc _ (dF 2 χ),_,_,χ,OA 2,λx h=>by cases h]
  |wri=>exact#[_,hc _ (dF 1 χ),_,_,χ,OA 2,by rintro s v ⟨x,h,_⟩;cases h]
  |hid=>exact#[_,hc _ (dF 0 χ),_,_,χ,OA 2,λs=>#[λh=>(by exact Bool.noConfusion h),by rintro⟨x,h,_⟩;cases h]]
  |row x b=>
   show"#>"
   .exact#[_,by rw[A1];exact hc _ (dF 7 χ),by show _=Dd.obj _ (Iv! (ad Bs!) (ad Bt!));rw[A3,A5]]
   .exact#[_,by rw[A2];exact hc _ (dF 4 χ),by show _=Dd.obj _ (Iv! (ad Bs_) (ad Bu!));rw[A4,A6]]
  |fol x b=>
   show"#>"
   .exact#[_,by rw[A3];exact hc _ (dF 8 χ),OA 2,_,_,χ,c1]
   .exact#[_,by rw[A4];exact hc _ (dF 5 χ),OA 2,_,_,χ,c3]
  |pre x b=>
   show"#>"
   .exact#[_,by rw[A5];exact hc _ (dF 9 χ),OA 2,_,_,χ,c2]
   .exact#[_,by rw[A6];exact hc _ (dF 6 χ),OA 2,_,_,χ,c4]
  |nm x=>cases l
 .let:=NE (f:=ad) (lm r l);rw[hl,e]at this;exact J (fr0 L b this)
def a2a(hR:∀o O M',M o=υ->D3_ M' W0 2->qM!->R av_ M'):Gh t.B6 1 (Hm t) Ad ρ M R:=by
 exact#[rfl,λo ho=>j_];let L:HL M (mup M o By!) [(o,.obj t.B6 [])]:=HL.new By_ ho;generalize mup M o By!=M1 at L ⊢;exact mM λa1 ha1=>#[mup_same,qM_,d1a,d1i,?_]
 replace L:=(L.new (c:=if_) ha1).put (u:=[]) (c:=.dct Bq! 2)
 generalize mup (mup _ _ _) a1 _=M2 at L ⊢;exact iF (fs':=[dv_]) rfl (L.cell (o,_) (dF 1 rfl)) a_ ah! ?_
 replace L:=L.put (u:=[_]) (c:=IS_ [dv_])
 generalize mup _ o _=M3 at L ⊢;exact mM λa2 ha2=>?_
 replace L:=L.new (c:=if_) ha2
 exact pc χ (wA λr1 f1 p1 N1 z1 z2 z3 n1 n2 R1 _ K1=>?_);let#[Z7,Z5,v8,v6,c1,c2,L]:=Ja_ R1 K1;clear z1 z2 z3 n1 n2 R1 K1;exact pc χ (wA λr2 f2 p2 N2 z1 z2 z3 n1 n2 R2 _ K2=>?_);let#[kf2,Z6,d9,ml,c3,c4,L]:=Ja_ R2 K2;exact#[L.cell (a2,_) (dF 6 χ),qM_,d1a,d1i,?_]
 replace L:=L.put (u:=[_,_,_,_,_,_]) (c:=.dct Bp_ 2)
 generalize mup _ a2 _=M4 at L ⊢;exact iF (fs':=[dv_,fE!]) rfl (L.cell (o,_) (dF 8 rfl)) Bz! ah! ?_
 replace L:=L.put (u:=[_,_,_,_,_,_,_,_]) (c:=IS_ [dv_,fE!])
 generalize mup _ o _=M5 at L ⊢;exact a9c (b2m (fs':=λa=>[dv_,fE!,("texts",.fn a)]) L rfl Bz_ cj! λa3 M6 L=>?_);exact a9c (b2m (fs':=λa=>[dv_,fE!,pe!,("numbers",.fn a)]) L rfl BA! cj! λa4 M7 L=>?_);exact a9c (b2m (u:=[_,_,_,_,_,_,_,_,_,_]) (fs':=λa=>[dv_,fE!,pe!,xS!,("written",.fn a)]) L rfl lD_ cj! λa5 M8 L=>?_);exact b2m (u:=[_,_,_,_,_,_,_,_,_,_,_]) (fs':=oF a1 a2 a3 a4 a5) L rfl (by show 5<100;decide) cj! λa6 M' L=>?_;let#[O,Y,h2]:=d3u L c1 c2 c3 c4;exact#[rfl,hR o O M' ho Y h2]
end
inductive Ws:OW->List Op->OW->Prop
 |nil {W:OW}:Ws W [] W
 |cons {W W1 W2:OW} {o:Op} {os:h_}:Sa W o.nm o.d W1->Ws W1 os W2->Ws W f7_ W2
def Pq(wd:q!)(os:h_):μ Op:=os.filter λo=>decide (Gd o.d=υ/\¬IY! wd=ψ ca!)
section
variable{t:Az}{M:Mh}{R:D->Mh->Prop}
def IW(t:Az):WS:=Ag gT_ uB!
def b3b{ops:h_}(hq:∀x∈ops,FC_ kq≠υ↔Undn wd x):∀(os:h_) (x1:D) (y z:ac_) (M:Mh) (O:aE!) (W W':OW) (pre:d_) (B:δ) (R:r_),
  (∀x∈os,x∈ops/\DG x.d)->BA_->(lE!).Nodup->D3_ M W B->Tj W pre->Ws W qN_ W'->B+20*ax!<3900->M q=KD! kq->¬O q->
  (∀M' O' y' z',GN! W' (B+20*ax!)->BB!->Dz_ O'->JQ_ [ad!,am!,b1!,y',z'])->
  Ga R_ N! (IW t) ak_ [ad!,am!,b1!,y,z] M R
 |[],x1,y,z,M,O,W,W',pre,B,R,_,_,_,hO,w,hr,_,_,_,hR=>by
  cases hr;exact#[ο,hR M O y z hO #[pre,w] .refl]
 |x::os,x1,y,z,M,O,W,W',pre,B,R,hd,hp,nd,hO,w,hr,hB,pi,v9,hR=>by
  exact am_;let#[hx,j6]:=hd x MB;dsimp only[List.length_cons]at hB hR;rw[MO,NJ]at nd;let#[kn,gj]:=b0d x;let lg:Fq τ M x.nm cZ!=Df! (!(kget kq x.nm).isSome):=by simp[Fq,pi,gj]
  let f4:Aa 4 eD_=ψ x.nm:=χ;let ul:Aa 2 eD_=ψ cZ!:=χ;let f1':Aa 1 eD_=ψ av_:=χ;let f3':KC! Y! eD_=ψ x.d:=by
   show Ak x.v a9_=_;rfl
  show IX! uz_ eD_;simp![At,wT,w2,wl,f4,ul,lg];let hu:=hq x hx;let rest:∀(M1:Mh) (q9:aE!) (W1:OW) (wc:d_),Bk t M1 o q9 W1 bE_->Tj W1 wc->(∀y∈os,y.nm∉wc)->Ws W1 qN_ W'->Fr M O M1 q9->Ga R_ N! (IW t) ak_ eD_ M1 R:=λM1 q9 W1 wc Y h2 h3 h4 h5=>
   b3b hq os x1 qO_ (ψ x.nm) M1 q9 W1 W' wc bE_ R qP! h3 nd.2 Y h2 h4 a! ((BB_).1.trans pi) (BB_).2 (λM' O' y' z' g1 g2 g3=>hR M' O' y' z' (AT! BC! g1) g2 (h5.trans g3))
  by_cases c:FC_ kq=υ
  .rw[c,fo_];let hc:∀(K:P_),Mm t [a5!,x.nm,x.d] M K->K7_ Mm uA_ eD_ M K:=λK h=>by
    exact cN_
   exact fP (hc _ ?_);obtain⟨k,a,e,hk,_,we⟩|⟨k,r,e,_,_,we⟩:=uH j6
   .let:Pq wd ig_=Pq wd os:=by delta Pq;rw[OO (D2! we)]
    rw[this]at hr;rw[e];exact c7c hk (Gz_ M)
   .let be:¬FC_ wd=ψ ca!:=λz=>ξ c (hu.mpr #[we,z]);let:Pq wd ig_=x::Pq wd os:=by delta Pq;rw[OD (by simp[we,be])]
    rw[this]at hr;cases hr with
    |cons hs hr=>
     let w1:=a8y hs w lE_;exact c7b hO w lE_ hs a! λM1 q9 Y h2=>rest M1 q9 _ _ Y w1 BC_ hr h2;obtain z|z:=NA.mp z
     .exact hp y cH_ z
     .rw[NB]at z;exact nd.1 BD!
  .let hU:=hu.mp c;let#[v,hv]:=Option.ne_none_iff_exists'.mp c;rw[hv,bY!];let:Pq wd ig_=Pq wd os:=by delta Pq;rw[OO (by simp[hU.1,hU.2])]
   rw[this]at hr;exact Gz_ M
def b5v{ops:h_}(nd:eA!)(nn:BE!)(hl:eA_)(hd:ic_)(hr:Ws W0 (Pq id! a8!) W')
  (hR:∀o M' O',M o=υ->GN! W' 1500->BE_->(∀b,M b≠υ->M' b=M b/\¬O' b)->R av_ M'):Lb t cr_ M R:=by
 exact j_;show Fq_ uy! Bk_;dsimp only[Ag,An];exact a2a λo O M1 ho hO fr=>?_;let hc:∀(K:P_),La cr_ M1 K->EI! La [ie!,am!,υ,υ,υ] M1 K:=λK h=>cN_;exact hc _ (b5e nd hl hd λq M2 ep kq hq gh um lh=>?_);let hi:Ce jn! BF!=ψ ib_:=jW (nO nd hl);show Cs (Hb _) _ (IW t) BF! M2 _;simp![Cs,Hb,hi,Dq];let hp:HZ! a8!:=bL ops;let v9:¬O q:=λz=>hO.live z hq;let wf:=hO.keep λc hc=>lh c (hO.live hc);let v7:∀x∈ops,FC_ kq≠υ↔Undn id! x:=λx hx=>by
  rw[um];show"!i"
  .rintro⟨y,hy,e,hu⟩;let:y=x:=b0e nn hy hx e;rw[<-this];exact hu
  .exact λh=>#[x,hx,χ,h]
 exact b3b v7 a8! id_ υ υ M2 O W0 W' [] 2 _ (λx hx=>#[hp.mem_iff.mp hx,hd x BF_]) BG! BG_ wf c5o hr lF! gh v9 λM' O' y' z' g1 g2 g3=>?_;exact hR o M' O' ho (g1.mono lF!) g2 λb J=>?_;let#[e1,e2]:=fr b J;let e3:=lh b x5_;let g4:=g3 b BH! e2;exact#[by rw[g4.1,e3,e1],g4.2]
end
def Pu(f:WE)(ρ:Ae)(M:Mh)(d:D):Prop:=∀K:D->Mh->Prop,K d M->f ρ M K
def Rh(f:WT)(ρ:Ae)(M:Mh)(b:Bool):Prop:=∀K:Bool->Mh->Prop,K b M->f ρ M K
def Pr(g:WF)(ds:d_)(M:Mh)(d:D):Prop:=∀K:D->Mh->Prop,K d M->g ds M K
section
variable{M:Mh}{ρ:Ae}
def dX(h:R x):Dq gu_ R:=h
def aP(h:bR_):Dj! (wl f) d:=λK hK=>by rw[dA h];exact hK
def dM(h:Dj! fo bz!)(hM:M a=ψ pG_)(hv:DY! x=ψ v):Dj! (Ap C x fo) v:=λK hK=>by
 exact h _ ?_;let:Gf C x M bz!=ψ v:=by simp![Gf,hM,PL,hv]
 rw[this];exact hK
def dQ(ha:Dj! fa x)(J:Dj! fb y)(hg:qQ!):Dj! (w2 g fa fb) d:=λK hK=>by
 exact ha _ (J _ ?_);rw[hg];exact hK
def pX(ho:lF_)(ha:Dj! fa y)(J:Dj! fb z)(hp:bG_)(hk:aU!)(hd:(ih_).getD z=d):Dj! (Hn fo fa fb) d:=λK hK=>by
 let c:Dl M B!=ψ lv_:=by simp[Dl,hp]
 exact ho _ ?_;rw[c];exact ha _ (J _ ?_);rw[c,hk];show K ((ih_).getD z) M;rw[hd];exact hK
def sU(h:Dj! f x)(hg:g M [x]=ψ d):Dj! (w1 g (Ab f Ad)) d:=λK hK=>by
 exact h _ ?_;show Dq (g M [x]) λd=>K d M;rw[hg];exact hK
def fB{f1:WE}(Y:lG!)(hg:Pr g [a] M d):Dj! (JF! g f1) d:=λK hK=>by
 exact Y _ lG_
def cS{f1 f2:WE}(Y:lG!)(h2:Dj! f2 b)(hg:Pr g O! M d):Dj! (Ah 2 g BK_) d:=λK hK=>by
 exact GA! lG_
def a5h{f1 f2 f3:WE}(Y:lG!)(h2:Dj! f2 b)(h3:Dj! f3 c)(hg:Pr g eO_ M d):Dj! (Ah 3 g (Ab f1 (KA_ f2 f3))) d:=λK hK=>by
 exact GA! (h3 _ lG_)
def fA{fo f1:WE}(h0:Dj! fo av_)(ho:Da C m M av_)(Y:lG!)(hg:Pr g [a5!,a] M d):Dj! (Ba C m 2 g fo (Ab f1 Ad)) d:=λK hK=>by
 exact h0 _ #[ho,Y _ lG_]
def gR(h:Dj! f aH_):Rh (wT f) ρ M b:=λK hK=>by delta wT;exact h _ hK
def jE(h:f ρ=ψ b):Rh (Cp f) ρ M b:=λK hK=>by delta Cp;rw[h];exact hK
def a1g(h:Rh f ρ M b):Rh (Je f) ρ M (!b):=λK hK=>by delta Je;exact h _ hK
def fG(h:ii!)(k:q bR! M R):KD_ f:=by exact h _ k
def cX(h:ii!)(k:R ac! M):Ay f ρ M R:=by delta Ay;exact h _ k
def oZ(h:Rh ft ρ M τ)(k:Hi_ q1):DO_ ft:=by exact h _ ?_;rw[y!];exact k
def pA(h:lH_)(k:ez!):DO_ ft:=by exact h _ ?_;rw[bx_];exact k
def eQ(h:lH_)(k:ez!):K3_ (At ft q1 Bl):=by exact pA h k
def a8w(h:hU_)(hl:An_):Bn fs ρ=ψ bQ_:=by delta Bn;rw[h];show Ao!=_;rw[Ao_]
def d2s(h:BM_)(h2:b=θ->Dj! fb lI!)(e:b=τ->c=τ):Dj! (Vq fa fb) lI!:=λK hK=>by
 exact h _ ?_;cases b with
 |true=>rw[e χ]at hK;exact hK
 |false=>exact h2 χ _ hK
def b9v(hv:Dj! fv v)(ho:lF_)(hi:Dj! fi y)(hp:bG_)(hk:aU!)(hl:cY_)(q:R ab_ f6_):Bv fo fi fv ρ M R:=by exact hv _ BN!;rw[jD hp hk hl];exact q
def c6v(h:BM_)(h2:b=τ->Dj! fb lI!)(e:b=θ->c=θ):Dj! qm_ lI!:=λK hK=>by
 exact h _ ?_;cases b with
 |true=>exact h2 χ _ hK
 |false=>rw[e χ]at hK;exact hK
def c6t(Y:ii!)(h2:Dj! g e)(h3:Dj! h k):Dj! (Ri (Ab f (KA_ g h))) (.tup [d,e,k]):=λK hK=>GA! (h3 _ #[BO!,hK])
def c6s(hv:Dj! fv v)(ho:lF_)(hi:Dj! fi a7!)(hp:qR!)(hx:Fx! j=ψ i)(q:R ab_ BO_):Bv fo fi fv ρ M R:=by
 exact hv _ BN!;let:Ki M B! a7! v=ψ BO_:=by simp[Ki,hp,hx]
 rw[this];exact q
end
section
variable{t:Az}{M:Mh}{R:D->Mh->Prop}
def c3e(o:Op):∀{l:h_},HY_ Oe l->∃u v,l=u++v/\HY_ Qs o l=u++o::v/\(∀x∈u,Ka o.key x.key=θ)/\∀x∈v,Io! x.key=τ
 |[],_=>#[[],[],χ,χ,Q!,Q!]
 |y::l,h=>by
  delta Oe at h;rw[QA]at h;delta Qs;cases e:Io! y.key with
  |true=>
   exact#[[],y::l,χ,χ,Q!,aC_];obtain rfl|hx:=MD.mp hx
   .exact e
   .exact kS e (h.1 x hx)
  |false=>
   let#[u,v,e1,e2,e3,e4]:=c3e o h.2;exact#[y::u,v,by rw[e1];rfl,by rw[e2];rfl,aC_,e4];obtain rfl|hx:=MD.mp hx
   .exact e
   .exact e3 x hx
def d9c(a b c d:Int):HT.lexLt O! [c,d]=Ka (a,b) (c,d):=by
 rw[RE,qH,HT.lexLt_cons];by_cases h:a=c
 .rw[MM h,HT.lexLt_cons];by_cases h':b=d
  .rw[MM h'];simp[HT.lexLt_nil_nil];omega
  .rw[MY h',NS];show"#:";omega
 .rw[MY h,NS];show"#:";omega
def CL(l:h_)(o:Op):δ->Bool
 |0=>θ
 |j+1=>match l[j]? with|some f=>Io! f.key|none=>θ
def FX:Ae->ι Bool:=Go wa! wb!
def b3j(hk:k<=S_):FX [al!,ψ ii_,L!,lJ!]=ψ (CL l o k):=by
 cases k with
 |zero=>simp[FX,Go,fT,f2,Aa,fC,Yv,Hw,CL]
 |succ j=>
  let hj:j<S_:=hk;let e1:=ND hj;let e2:Fs c0_ qS!=ψ (c1!).v:=by
   show"#2";simp[hj]
  let e3:Lf 1 jZ_ qT!=ψ (c1!).v:=by
   let:BP_ - 1=(j:δ):=by omega
   simp[Lf,f2,Aa,fC,Ko,Hw,this,e2]
  let e4:Ak (c1!).v cz_=ψ (.int (c1!).tm):=by rfl
  let e5:Ak (c1!).v O_=ψ (.int (c1!).h):=by rfl
  let e6:FQ! cz_=ψ ij_:=by rfl
  let e7:FQ! O_=ψ dI_:=by rfl
  let e8:EV (.tup [.int (c1!).tm,.int (c1!).h]) AZ_=Df! (Ka o.key (c1!).key):=by
   simp[EV,Mb,d9c,Op.key]
  let e9:Yv qS_ O_=ψ u_:=by simp[Yv,Hw]
  let f3:Aa 3 qT!=ψ qS_:=χ;let ul:Aa 2 qT!=ψ o.v:=χ;simp![FX,Go,fT,f2,f3,fC,OX,e9,Bn,Ac,Af,e3,e4,e5,ul,e6,e7,PL,MX,RC,show(0+1+1:δ)<=1000 by omega,e8,CL,e1]
def a5p{o:Op}{u v:h_}(Y:∀x∈u,Io! x.key=θ)(h2:∀x∈v,Io! x.key=τ)(R:r_)(hR:DZ_ qV! M):
  ∀(m:δ),m<=v.length->∃n,Bz (Cp FX) ow_ n (Jb! qV_) M R
 |0,hm=>by
  exact hD!;let et:=b3j (x0:=x0) (o:=o) (l:=u++v) (k:=b2!) c!;let ef:CL af_ o b2!=false:=by
   cases hu:b2! with
   |zero=>rfl
   |succ j=>
    let:af_[j]?=ψ (u[j]' a!):=by rw[PQ a!,ND a!]
    simp![CL,this];exact Y _ ik!
  rw[ef]at et;simp![Bz,Cp,Nat.add_zero,et];exact hR
 |m+1,hm=>by
  let#[n,hn]:=a5p Y h2 R hR m a!;exact#[n+1,?_];let et:=b3j (x0:=x0) (o:=o) (l:=u++v) (k:=b2!+c2_) aV_;let ef:CL af_ o (b2!+c2_)=true:=by
   show CL af_ o (b2!+m+1)=τ;let:af_[b2!+m]?=ψ (v[m]' a!):=by rw[OV a!,show u.length+m - u.length=m by omega,ND a!]
   simp![CL,this];exact h2 _ ik!
  rw[ef]at et;let es:f2 Ko Y! D! (Jb! qW!)=Da_ qV_:=by
   let:qW! - 1=qV_:=by omega
   show Ko (.int qW!) bv_=_;simp![Ko,Hw,this]
  simp![Bz,Cp,et,PL,An,wl,es];exact hn
def LH:WS:=GS! FX
def b3k:∀(os:h_) (x0:D) (y z:ac_) (σ:h_) (R:r_),HY_ Oe σ->((σ++os).map Op.key).Nodup->cZ_+ax!<1000->
  (∀ez y' z',HY_ Oe ez->ez.Perm (σ++os)->DZ_ [al!,ψ (.lst (ez.map Op.v)),y',z'] M)->Ga ca_ N! LH ak_ [al!,ik_,y,z] M R
 |[],x0,y,z,σ,R,hs,nd,hl,hR=>#[ο,hR σ y z hs c!]
 |o::os,x0,y,z,σ,R,hs,nd,hl,hR=>by
  exact am_;show Fq_ (An 3 _) qW_;let#[u,v,e1,e2,e3,e4]:=c3e o hs;dsimp only[List.length_cons]at hl;let el:Nh nl_ qW_=ψ BV_:=by
   let:f1 Bw b9! qW_=ψ BV_:=by
    show Bw [.lst (σ.map Op.v)]=_;simp[Bw]
   delta Nh;rw[this];rfl
  simp![Ag,An,wl,el];let ao:cZ_=b2!+v.length:=by rw[e1,MH]
  rw[ao,e1];exact a5p e3 e4 _ ?_ v.length u!;let ei:Zh 1 Y! D_ qV!=DM_ [al!,ψ (.lst ((lK!).map Op.v)),L!,BR!]:=by
   let:(af_).length<big:=by delta big;rw[MH];omega
   let e2:Aa 2 qV!=ψ o.v:=χ;delta Zh;show(if 0<=(qU_:Int)/\(qU_:Int).toNat<=(qT_).length/\(qT_).length<big then _ else υ)=_;rw[MM #[o_,Q!,by rw[MJ];exact this]];simp
  simp![Vi,ei,Dq];let hp:(lK!).Perm (σ++[o]):=by rw[e1];simpa using(TN (l₁:=u) (l₂:=v)).trans (List.perm_append_comm (l₁:=[o]) (l₂:=u++v))
  let bv:HY_ Oe lK!:=by
   rw[<-e2];exact wW hs λy hy=>?_;rw[NM,NU]at nd;exact λz=>nd.2.2 _ (NE hy) o.key c! z.symm
  let ow:((u++o::v++os).map Op.key).Nodup:=by
   let:(u++o::v++os).Perm (σ++o::os):=by
    let:=hp.append_right os;simpa using this
   exact(this.map _).nodup_iff.mpr nd
  exact b3k os x0 _ _ lK! R bv ow (by let:=hp.length_eq;simp at this;simp;omega) λez y' z' Y h2=>hR ez y' z' Y (h2.trans (by let:=hp.append_right os;simpa using this))
def vK(nd:eA!)(hl:eA_)(hR:R (.lst ib_) M):Fg cr_ M R:=by exact j_;exact b3k ops _ υ υ [] _ (jO!) (Di_ nd) aV_ λez y' z' Y h2=>?_;let:ez=srt ops:=mL Y (jA nd) (by simpa using h2.trans (by simpa using(bL ops).symm));rw[this];exact hR
def a6z{neg:Bool}:Fq neg M T_ p1_=Df! (if neg then ! p2! else p2!):=by show Fq.inS neg M T_ p1_=_;simp[Fq.inS,Kv,Bd,Bj,Io,Ct,a3m]
def KB:WS:=At wd_ we! Bl
def d8i{o:Op}(ho:f4!):∃k r,o.d=.tup cl_/\(Gd o.d=υ->ia!=θ/\(k=="redo")=θ)/\(∀u,Gd o.d=ψ u->r=[u.2]/\k=u.1/\AY!/\NameG u.2):=by
 obtain⟨k,a,e,hk,ji,hu⟩|⟨k,r,e,Y,h2,hu⟩:=uH ho
 .exact#[k,[a],e,(λz=>by rw[z]at hu;rcases hu),(λu oy=>by rw[hu]at oy;rcases oy;exact#[χ,χ,hk,ji])]
 .exact#[k,r,e,(λ_=>#[Y,h2]),(λu oy=>by rw[hu]at oy;rcases oy)]
def c2w{o:Op}(e:o.d=.tup cl_):qB!=ψ T_:=by
 let e3:FQ! a9_=ψ o.d:=by rfl
 rw[e3,e];show Fs (D.str k::r) 0=_;show"#2";simp
def b1z{k:Str}(hk:AX_):qX_=true:=by
 obtain rfl|rfl:=hk
 .rw[A6!];rfl
 .rw[A6_];rfl
def a2g:∀(os:h_) (x1:D) (y:ac_) (σ:q!) (ep:δ) (M:Mh) (R:r_),qC!->cZ_+ax!<1000->M p=ψ qC_->
  (∀M' bm y',M' p=BS! (Oq lw_ os σ) bm->ly_->R A8_ M')->
  Ga ca_ N! KB ak_ ra_ M R
 |[],x1,y,σ,ep,M,R,_,_,hp,hR=>A9!
 |o::os,x1,y,σ,ep,M,R,hd,hl,hp,hR=>by
  exact am_;show KB b0_ M _;show IX! _ b0_;let ho:=hd o MB;dsimp only[List.length_cons]at hl;let#[k,r,e,hn,hs]:=d8i ho;let i0:Ff! M!=ψ T_:=c2w e;simp![At,wT,w2,wl,i0,fC,a6z];cases hu:Gd o.d with
  |none=>
   let#[Y,h2]:=hn hu;let:qX_=false:=by rw[BEq.comm,BW!,Y,h2];rfl
   rw[this];exact Gj! a2g
  |some u=>
   let#[g1,g2,hk,ji]:=hs u hu;rw[b1z hk];let#[ka,k9]:=zL ji;let i1:Ff! D!=ψ u.2:=by
    let e3:FQ! a9_=ψ o.d:=by rfl
    show Bb_;rw[e3,e,g1];show Fs [D.str k,u.2] 1=_;rfl
   let i2:f2 Av gS_ jm_ b0_=ψ f4_:=by
    show(Ff! M!).bind (λx=>Av x ca!)=_;rw[i0];exact dZ k _
   let ph:=jD (v:=.bl ia!) hp k9 a2_;let:=a2g os x1 eB! BW_ BX! (FX_ (.dct BW_ BX!)) R f5_ (by let:=Ie! σ u.2 f4_;omega) mup_same (λM' bm y' Y h2=>hR M' bm y' (by
    delta Oq;rw[hu];let#[u1,u2]:=u;dsimp only at g2 Y ⊢;rw[<-g2];exact Y) λb J=>GT! b)
   simp![Bv,wl,i1,i2,d8l,ph,Dq];show"#E"
def b0l(nd:eA!)(hl:eA_)(hd:ic_)
  (hR:∀p M' ep,M p=υ->M' p=Kh! (Oq lw_ a8! [])->ly_->R B! M'):Ln cr_ M R:=by
 exact j_;intro p hp;let bz:HZ! a8!:=bL ops;let hc:∀(K:P_),Fg cr_ eC! K->EI! Fg qE! eC! K:=λK h=>cN_;exact hc _ (vK nd hl ?_);exact KC_ a2g _
end
def Bf(q:D×D):D:=.tup [q.1,q.2]
def Cv(q:D×D×Bool):D:=.tup [q.1,q.2.1,.bl q.2.2]
nonrec def k3(rows wt wn:D):μ ar_:=[(.str "rows",rows),(.str "texts",wt),(.str "numbers",wn)]
section
variable{a b c v:D}
def d0y:¬(D.str pg!=D.str pf!):=λz=>Df_ qY! c_
def d0z:¬(D.str pg!=D.str pf_):=λz=>Df_ qY! c_
def d0r:¬(D.str pf!=D.str pf_):=λz=>Df_ qY! c_
def k3r:kget il_ hh!=ψ a:=by show er!=_;rw[y!]
def k3t:kget il_ oz_=ψ b:=by show BZ!=_;rw[MY d0y,y!]
def k3n:kget il_ wD!=ψ c:=by show(if _ then _ else BZ!)=_;rw[MY d0z,MY d0r,y!]
def k3p:Br il_ hh! v=k3 v b c:=by show er!=_;rw[y!];rfl
end
def nK{g:D->D}:∀{its:d_} {x:D},FP! lK_=if x∈its then ψ (g x)else υ
 |[],x=>by rfl
 |i::its,x=>by
  rw[MO];delta kget;by_cases e:i=x
  .subst e;simp
  .rw[MY e,nK];simp[OB e]
def a6k{g:D->D}:∀{its:d_},its.Nodup->x∈its->Br lK_ x v=its.map λi=>(i,if i=x then v else g i)
 |[],_,h=>by exact(dA!).elim
 |i::its,nd,h=>by
  rw[NJ]at nd;rw[MO,MO];delta Br;by_cases e:i=x
  .subst e;simp![PL];congr 1;apply OQ;intro j hj;rw[MY λz:j=i=>nd.1 (z▸hj)]
  .rw[MY e];simp![e,OY];rw[a6k nd.2 (Iu_ (OB e))]
def zT{g:D->D}{its:d_}(h:x∉its):Br lK_ x v=lK_++[(x,v)]:=kU (by rw[NY];simpa using h)
def HD(W:OW)(w wt wn:yJ!)(qa:D->Addr)(e0 e1 e2:δ):μ qH_:=(w,.dct qZ! e0)::(wt,.dct qZ_ e1)::(wn,.dct B3_ e2)::W.its.map λi=>(qa i,.lst fI!)
structure Lx(M:Mh)(w:yJ!)(O:aE!)(W:OW)(wt wn:yJ!)(qa:D->Addr):Prop where
 L:∃e0 e1 e2,HL gI! M (HD W w wt wn qa e0 e1 e2)
 O:∀b,O b↔b=w\/b=wt\/b=wn\/∃i∈W.its,qa i=b
def Bo(M:Mh)(w:yJ!)(O:aE!)(W:OW):Prop:=∃wt wn qa,Lx M w O W wt wn qa
section
variable{M:Mh}{R:D->Mh->Prop}{w:yJ!}{O:Addr->Prop}{W:OW}{ρ:Ae}
section
variable{O:Addr->Prop}{wt wn:yJ!}{qa:D->Addr}
def Lx.mw(h:eE!):∃e,M w=BS! qZ! e:=by let#[e0,e1,e2,L]:=h.L;exact#[e0,L.cell _ MB]
def Lx.mt(h:eE!):∃e,M wt=BS! qZ_ e:=by let#[e0,e1,e2,L]:=h.L;exact#[e1,L.cell _ im!]
def Lx.mn(h:eE!):∃e,M wn=BS! B3_ e:=by let#[e0,e1,e2,L]:=h.L;exact#[e2,L.cell _ q2!]
def Lx.mq(h:eE!)(hi:dv!):M (qa i)=sM! fI!/\O (qa i):=by let#[e0,e1,e2,L]:=h.L;exact#[L.cell (qa i,_) (LY _ (LY _ (LY _ (NE hi)))),(h.O _).mpr (.inr B5_)]
def Bo.live(h:ad_)(J:O b):M b≠none:=by
 let#[wt,wn,qa,hA]:=h;obtain rfl|rfl|rfl|⟨i,hi,rfl⟩:=(hA.O b).mp J
 .let#[e,h]:=hA.mw;rw[h];simp
 .let#[e,h]:=hA.mt;rw[h];simp
 .let#[e,h]:=hA.mn;rw[h];simp
 .rw[(hA.mq hi).1];simp
def Bo.keep(h:ad_)(k:x6!):Ew! O W:=by
 let#[wt,wn,qa,hA]:=h;let#[e0,e1,e2,L]:=hA.L;exact FQ_ #[e0,e1,e2,eD!,L.nd,gq!,B7!];exact(k _ ((hA.O _).mpr ?_)).trans (L.cell q hq);simp![HD,MD,NC]at hq;obtain rfl|rfl|rfl|⟨i,hi,rfl⟩:=hq
 .exact cu!
 .exact .inr N_
 .exact .inr b2_
 .exact .inr B5_
def Lx.fr(h:eE!)(J:b=w\/b=wt\/b=wn\/∃i∈W.its,qa i=b):Fr M O qI_ O:=c3n λa ha=>mup_ne λz=>ha (by rw[z];exact(h.O b).mpr J)
end
def fS(h:bG_)(hk:aU!):Cc M B! y=kget h1 y:=by simp[Cc,h,hk]
def ixw(h0:Aa 0 ρ=ψ B!)(h:bG_)(hv:Et_ aT!=ψ v)(K:P_):w2 Cc i! (wl k8!) ρ M K=K v M:=by let:Cc M B! aT!=ψ v:=E9! h hv;simp![w2,wl,h0,fC,this]
def uF:Ak f9! O_=ψ q.1:=by rfl
def a3d:Ak f9! bv_=ψ q.2:=by rfl
def lG(w:By W):∀q∈W.rows,Hj q.1/\Sd q.2/\Ge W q.2:=λq hq=>#[w.nm _ ((w.ri q.1).mp (NE hq)),a3h w (w.rp q.1 q.2 hq),w.rp q.1 q.2 hq]
end
def b7o(ha:Sd a)(J:Sd b)(hc:Sd c)(hd:Sd d):Av lM_ (.tup [c,d])=JX_ (a=c/\b=d):=by
 delta Av;let d1:=kI ha;let d2:=kI J;let e:Dv lM_ (.tup [c,d])=decide (a=c/\b=d):=by
  simp![Dv,Ig,nR ha hc,nR J hd,Bool.and_true];by_cases Y:a=c<;>by_cases h2:b=d<;>simp[Y,h2]
 rw[e];simp![Bd,Bj,eI ha,eI J,eI hc,eI hd,Io,Ct,Bool.and_true,UJ];rw[MM aV_]
def c4q(h:k<=j!):Im_ H! lN!=sM! (xs.take k):=by
 let e:Kk! lN!=k:=by rw[HT.sIx_nat];omega
 dsimp only[Cu];congr 2;delta Ei;rw[e,HT.sIx_none];rfl
def a7v(h:k<=j!):Cu H! lN! υ=sM! (xs.drop k):=by
 dsimp only[Cu];congr 2;let e:Eb_ 0 lN!=k:=by rw[HT.sIx_nat];omega
 let e2:Kk! υ=j!:=χ;delta Ei;rw[e,e2,RH c!]
section
variable{M:Mh}{R:D->Mh->Prop}{w:yJ!}{O:Addr->Prop}{W:OW}{ρ:Ae}
def HH:Ae->ι Bool:=Go wg_ wi!
def c8x{rs:q!}(hk:k<=aH!)(hl:aH!<5000)(jk:B9!)(hp:Sd p):HH b4!=ψ B9_:=by
 let el:f1 Bw gQ! b4!=ψ lN_:=by
  show Ca!;simp[Bw]
 by_cases c:k<aH!
 .let e1:=ND c;let ea:Fs eE_ c2!=ψ lO!:=by
   show"#2";simp[c]
  let e3:f2 Ak aa! aa_ b4!=ψ lO!:=ea;let e4:Vk ij! lN_=ψ u_:=by simp[Vk,Hw];exact c
  let e6:Eb (f9_).2 p=ψ Ca_:=a1w (jk _ ik!).2 hp;let e7:f2 Eb wh! D_ b4!=ψ Ca_:=by
   show((f2 Ak aa! aa_ b4!).bind λx=>Ak x bv_).bind (λz=>Eb z p)=_;rw[e3];show(Ak lO! bv_).bind _=_;rw[a3d];exact e6
  let e8:f2 Vk aa_ hi! b4!=ψ u_:=by
   show Cb!;rw[el];exact e4
  simp![HH,Go,fT,e8,e7,OX,PL,e1]
 .let e1:rs[k]?=none:=PK a!;let e4:Vk ij! lN_=ψ C_:=by simp[Vk,Hw];omega
  let e8:f2 Vk aa_ hi! b4!=ψ C_:=by
   show Cb!;rw[el];exact e4
  simp![HH,Go,fT,e8,OX,e1];rfl
def c5a{rs:q!}(hk:k<aH!)(h:chl q4! p=[])(hp:(f9_).2≠p):chl (rs.take W!) p=[]:=by rw[RT hk,eY,h];rw[tN hp];rfl
def a7c{rs:q!}(hl:aH!<5000)(jk:B9!)(hp:Sd p)(R:r_)(hR:∀k:Nat,k<=aH!->chl q4! p=[]->DZ_ b4! M):
  ∀(m k:δ),aH! - k=m->k<=aH!->chl q4! p=[]->∃n,Bz (Cp HH) wi_ n b4! M R
 |m,k,hm,hk,hc=>by
  let et:=c8x (x0:=x0) (i:=i) (s:=s) (y:=y) hk hl jk hp;by_cases c:k<aH!/\(rs[k]?.map Q_)≠ψ p
  .let#[c1,c2]:=c;let e1:=ND c1;rw[e1]at et c2;let c3:(f9_).2≠p:=λz=>c2 (by rw[<-z];rfl);rw[show(match(ψ rs[k]:ι ar_)with|some q=>!decide (q.2=p)|none=>θ)=τ by simp[c3]]at et;cases m with
   |zero=>omega
   |succ m=>
    let#[n,hn]:=a7c hl jk hp R hR m W! a! a! (c5a c1 hc c3);exact#[n+1,?_];let es:Ff_ aa_ b4!=ψ q4_:=by
     show q5!;rfl
    simp![Bz,Cp,et,PL,An,wl,es];exact hn
  .exact hD!;let ef:B9_=false:=by
    cases e:rs[k]? with
    |none=>rfl
    |some q=>
     let c1:=(NH.mp e).1;let:q.2=p:=by
      by_cases z:q.2=p
      .exact z
      .exact Df_ #[c1,by rw[e];simp[z]] c
     simp[this]
   rw[ef]at et;simp![Bz,Cp,et];exact hR k hk hc
def KH:WS:=At wm! wm_ Bl
def KW(rs:q!)(s p:D)(k0 k at_:δ):Prop:=(at_=k0/\∀j<k,rs[j]?≠ψ cN!)\/∃j<k,rs[j]?=ψ cN!/\at_=j+1
def b0v(hl:aH!<5000)(jk:∀q∈rs,Sd q.1/\Sd q.2/\q.1≠.non)(hp:Sd p)(hs:Sd s)(R:r_)(hR:∀(a:δ) y,KW rs s p k0 rs.length a->DZ_ Cd! M):
  ∀(m k a:δ) (y:ac_),aH! - k=m->k<=aH!->KW rs s p k0 k a->Ga (Cb 6) N! KH Cd_ Cd! M R
 |0,k,a,y,hm,hk,ha=>(EZ_ rs.length)
 |m+1,k,a,y,hm,hk,ha=>by
  let c1:k<aH!:=by omega
  exact am_;show KH eF! M _;let e1:=ND c1;let#[q1,q2,q3]:=jk rs[k] ik!;let ea:f2 Ak aa! aZ! eF!=ψ lO!:=by
   show Fs eE_ c2!=_;show"#2";simp[c1]
  let et:f2 Av wk_ wl! eF!=JX_ ((f9_).1=s/\(f9_).2=p):=by
   show(f2 Ak aa! aZ! eF!).bind (λz=>Av z (.tup [s,p]))=_;rw[ea];exact b7o q1 q2 hs hp
  let en:IY_ Y! eF!=Df! (!Ji s):=χ;let cond:Go wj_ wl_ eF!=E3_ ψ (rs[k]=cN!):=by
   simp![Go,fT,en,et,OX];by_cases z:s=.non
   .rw[show Ji s=τ from zY.mpr z];let:¬rs[k]=cN!:=λy=>q3 (AT! y z);simp[this]
   .rw[kX z];simp![Bool.not_false,PL];congr 1;rw[decide_eq_decide];exact#[λy=>Prod.ext y.1 y.2,λy=>by rw[y];exact az_]
  let es:Ff_ aZ! eF!=ψ q4_:=by
   show q5!;rfl
  by_cases z:rs[k]=cN!
  .exact Ce!;exact Gj_ W! (.inr #[k,o_,by rw[e1,z],χ])
  .exact jR Ce_ ?_;exact Gj_ a ?_;obtain⟨Y,h2⟩|⟨j,Y,h2,h3⟩:=ha
   .exact .inl #[Y,kr_];by_cases y:j=k
    .rw[y,e1];exact λx=>z (OF x)
    .exact h2 j a!
   .exact Cf!
def a8m(h:ad_)(jk:∀q∈W.rows,Sd q.1/\Sd q.2/\q.1≠.non)(hi:Sd i)(hp:Sd p)(hs:Sd s)(hl:eF_<4000)
  (hR:∀M' rows',JT! i->Ew! O {W with rows:=rows'}->Dz_ O->D5_ M'):Iu [dK!,i,p,s] M R:=by
 let#[wt,wn,qa,hA]:=h;let#[e,et1,et2,L]:=hA.L;let hw:=L.cell _ MB;exact j_;show Fq_ (An 4 q5_) Cg!;simp![Ag,An,Be,Ca,ixw (ρ:=Cg!) χ hw k3r];exact q6!;let sub:∀q∈wo W.rows i,q∈W.rows:=λq hq=>(o6_).1;let lw:(hT!).length<=eF_:=PJ _ _;exact cZ (λd=>match d with|.tup [a,_]=>!decide (a=i)|_=>θ) id ο _ _ bo_ ?_
 .let#[q,hq,rfl]:=NC.mp hd;let#[Y,_,_]:=jk q hq;exact#[q6_,χ,io!,Cg_];let e1:fT wg! q6_=ψ Ch!:=by
   let:f2 Eb aR_ v! q6_=Df! Ch!:=by
    show(Ak f9! O_).bind (λz=>Eb z i)=_;rw[uF];exact a1w Y hi
   show"!_"
  simp![Cp,e1];exact hK
 let e2:((lL!).filter λd=>match d with|.tup [a,_]=>!decide (a=i)|_=>θ).map id=(hT!).map Bf:=by
  rw[VV,SM];congr 1;apply PY;intro q _;simp[Bf]
 rw[e2];generalize Z8:wo W.rows i=rs at *;let zj:∀q∈rs,Sd q.1/\Sd q.2/\q.1≠.non:=λq hq=>jk q (sub q hq);exact a7c a! (λq hq=>#[(zj q hq).1,(zj q hq).2.1]) hp _ (λk0 hk0 hc0=>?_) rs.length 0 a! a! (by rw[List.take_zero];rfl);let hr:Ez hi! Ci!=some ((List.range' 0 aH!).map λj=>D.int qS!):=by
  let:f1 Bw gQ! Ci!=ψ lN_:=by
   show Ca!;simp[Bw]
  delta Ez;rw[this];show(if -1000<=q7!/\q7!<=100000 then ψ (Cz (q7!).toNat)else υ)=_;rw[aN_];simp[Cz,List.range_eq_range']
 simp![Cs,Hb,hr,Dq];exact b0v a! zj hp hs _ (λa y ha=>?_) rs.length 0 k0 υ a! a! Ci_;let uo:a<=aH!:=by
  obtain⟨Y,_⟩|⟨j,Y,_,h3⟩:=ha<;>omega
 let ev:f2 Ar wn_ wo! ga!=ψ lP!:=by
  let s1:Ek aa! Au fr! ga!=ψ q7_:=c4q lP_;let s2:Ek aa! fr! Au ga!=ψ Cj_:=a7v lP_;let s3:Im wn! ga!=ψ q8!:=χ;let a1:Ar q7_ q8!=ψ Ck_:=by
   show h4!;rw[ga_]
  let a2:Ar Ck_ Cj_=ψ lP!:=by
   show h4!;rw[ga_];simp
  show((Ek aa! Au fr! _).bind λx=>(Im _ _).bind λz=>Ar x z).bind (λx=>(Ek aa! fr! Au _).bind λz=>Ar x z)=_;rw[s1,s3,s2];show(Ar q7_ q8!).bind (λx=>Ar x _)=_;rw[a1];exact a2
 let ph:Ki M dK_ hh! lP!=ψ (mup M w (.dct Cm! Cn!)):=by
  rw[jD hw χ (by show 3<big;decide),k3p]
 let f0:Aa 0 ga!=ψ dK_:=χ;let fin:=hR _ Cj! #[rs.take a,rs.drop a,by rw[Z8,SJ],χ,?_] (FQ_ #[_,et1,et2,L.put (u:=[]) (c:=.dct Cm! Cn!)]) (hA.fr N_)
 .show Bv i! hh_ (wl _) ga! M _;simp![Bv,wl,ev,f0,fC,ph,Dq];exact fin
 .rw[Z8];obtain⟨Y,h2⟩|⟨j,Y,h2,h3⟩:=ha
  .exact .inl #[co!,by rw[Y];exact hc0];let#[j,hj]:=SK.mp pQ!;exact h2 j (NH.mp hj).1 hj
  .exact .inr #[rs.take j,?_];let hj:=(NH.mp h2).1;rw[h3,RT hj,(NH.mp h2).2]
def b0z{rows:q!}(nd:fS!):(rows.filter λq=>decide io_)=match rows.find? Cq! with|some q=>[q]|none=>[]:=by
 induction rows with
 |nil=>rfl
 |cons a r ih=>
  rw[MO,NJ]at nd;by_cases e:a.1=x
  .rw[OD fy_,List.find?_cons_of_pos fy_];let:r.filter Cq!=[]:=by
    rw[OI];intro q hq;simp![NS];exact λz=>nd.1 (by rw[e,<-z];exact NE hq)
   rw[this]
  .rw[OO fy_,List.find?_cons_of_neg fy_,ih nd.2]
def b4y{W:OW}(wi:By W)(h:lQ_):lR!=[a3!]:=by
 rw[b0z wi.rnd];cases e:W.rows.find? λq=>decide io_ with
 |none=>let:=List.find?_eq_none.mp e a3! h;simp at this
 |some q=>
  let Y:=List.find?_some e;let h2:=List.mem_of_find?_eq_some e;simp at Y;let:q.2=p:=jO wi.rnd (Do! Y h2) h;let#[a,b]:=q;dsimp only at Y this ⊢;rw[Y,this]
def d6d(wi:By W)(h:∀p,a3!∉W.rows):lR!=[]:=by rw[OI];rintro⟨a,b⟩ hq;simp![NS];exact λz=>h b o7!
def IY:WS:=Ag wq_
 (Ag ws_
 (An 1 gW_))
def zR(h:ad_)(wi:By W)(hl:gb!)(hi:Hj i){rk:D->δ}(ij:ye_):∀(n:δ) (x:D) (y:ac_),rk x<n->Ge W x->∀(R':r_),(Wn W.rows i x->∀y',R' (.nx [U!,M_,M_,y']) M)->(IT_ (.rt C_))->
   ∃m,IZ! gb_
 |0,x,y,hn,_,_,_,_=>by omega
 |n+1,x,y,hn,hx,R',r1,r2=>by
  let#[wt,wn,qa,hA]:=id h;let#[e0,hw]:=hA.mw;let sx:=a3h wi hx;let et:fT t0! gb_=ψ q9_:=by
   let:f2 Eb v! D_ gb_=Df! q9_:=a1w sx hi.sd;show"!_"
  by_cases e:x=i
  .subst e;exact hD!;simp![Bz,Cp,et];exact r1 .here y
  .rw[show q9_=τ by simp[e]]at et;let body:∀(K:r_),(yh!->K (.rt C_) M)->(∀p,a3!∈W.rows->K (.nx [U!,cT!,M_,ψ (.lst [p])]) M)->IY gb_ M K:=λK g1 g2=>by
    show Fq_ (An 3 q5_) gb_;simp![Ag,An,Be,Ca,ixw (ρ:=gb_) χ hw k3r];exact q6!;exact EJ! a (λd=>match d with|.tup [_,p]=>p|_=>.non) ο _ _ bo_ ?_
    .show"!=";let#[Y,_,_]:=G6! q;exact Cr_
     .let e1:fT j0_ ct!=ψ lR_:=by
       let:IZ_ aR_=Df! lR_:=by
        show Cs!;rw[uF];exact oO Y.sd sx
       show"!_"
      simp![Cp,e1];exact hK
     .let e1:f2 Ak k! D! ct!=ψ q.2:=a3d;exact hK
    .let e2:((Em_ a).map λd=>match d with|.tup [_,p]=>p|_=>.non)=Ex! lR!:=by
      rw[SM,NY];rfl
     rw[e2];by_cases c:∃p,a3!∈W.rows
     .let#[p,hp]:=c;rw[b4y wi hp];exact Hj! jR;exact g2 p hp
     .let c':∀p,a3!∉W.rows:=λp z=>c #[p,z];rw[d6d wi c'];exact Hj! ifT;exact g1 c'
   obtain hx|hx:=hx
   .let#[p,hp]:=a9d wi hx;let q:=a8q wi.rnd hp e;let:=ij _ _ hp;let key:∀y',∃m,IZ! [U!,cT!,M_,y']:=λy'=>zR h wi hl hi ij n p y' a! (wi.rp _ _ hp) R' yi_ (λz=>r2 λv=>z (q.mp v));let#[m,hm]:=key (sM! [p]);exact#[m+1,?_];simp![Bz,Cp,et,PL];exact body _ (λnt=>ξ hp (nt p)) λp' bz=>by rw[jO wi.rnd bz hp];exact hm
   .let nt:∀p,a3!∉W.rows:=by
     obtain rfl|rfl:=hx
     .exact mZ wi (b2r wi)
     .exact mZ wi (c5i wi)
    exact hD!;simp![Bz,Cp,et,PL];exact body _ (λ_=>r2 (b8i nt e)) (λp hp=>ξ hp (nt p))
def c5q(h:ad_)(wi:By W)(hl:gb!)(hx:cR!)(hi:Hj i)(hR:∀b:Bool,(b=τ↔Wn W.rows i x)->R aH_ M):Lo [dK!,x,i] M R:=by let#[rk,ij]:=wi.rk;exact j_;exact zR h wi hl hi ij (rk x+1) x υ a! hx _ (λz y'=>hR τ iE!) (λz=>hR θ iE!)
def c8v(h:bG_)(hk:aU!):Fq neg M y B!=Df! (Jn! ih_ ih_):=by simp[Fq,h,hk]
def c8t(hx:Sd x)(ha:Sd a)(J:Sd b):Fq θ M x lM_=JX_ (x=a\/x=b):=by
 let d1:=kI ha;let d2:=kI J;let e:((O!).any λd=>Dv d x)=decide (x=a\/x=b):=by
  simp![RO,List.any_nil,VX,nR ha hx,nR J hx];by_cases Y:a=x<;>by_cases h2:b=x<;>simp[Y,h2,OB]<;>first|exact .inl Y.symm|exact .inr h2.symm|exact⟨λz=>Y z.symm,λz=>h2 z.symm⟩|skip
 show(if Bd x&&Bj O!&&decide (Ct O!<=40)then ψ (D.bl (if θ=τ then _ else[a,b].any λd=>Dv d x))else υ)=_;rw[MM (by simp[eI hx,Bj,eI ha,eI J,Ct];omega),e];rfl
def d8t(hx:fx ρ=ψ x)(K:P_):w2 g lT! fb ρ M K=fb ρ M λy M2=>match g M2 x y with|some d=>K d M2|none=>False:=by simp![w2,wl,hx]<;>rfl
def b8u:(FP! ct_).isSome=decide kw_:=by rw[nK];by_cases h:x∈W.its<;>simp[h]
def qR(h:ad_)(h0:eG_)(hx:fx ρ=ψ x)(hk:aG!)(K:P_):w2 bM_ lT! by_ ρ M K=K ya! M:=by let#[wt,wn,qa,hA]:=h;let#[e0,hw]:=hA.mw;let#[e1,ht]:=hA.mt;let hi:=ixw (ρ:=ρ) h0 hw k3t;let e:=c8v (neg:=θ) ht hk;rw[show(if θ=τ then _ else(FP! ct_).isSome)=decide kw_ from b8u]at e;rw[d8t hx,hi,e]
def a8l(h:ad_)(wi:By W)(hl:eF_<4000)(hi:Sd i)(hx:Sd x)(hs:Sd s)(df:fH_)(qw:pu!)
  (hR:∀M' W',(ep_->∃rows',Ph W.rows i x s rows'/\W'={W with rows:=rows'})->(¬ep_->W'=W)->Ew! O W'->Dz_ O->D5_ M'):Ir [dK!,i,x,s] M R:=by
 exact j_;show At (Ex (wT _) (Xb (wT _) (wT _))) _ Bl dL_ M _;let g1:=qR (ρ:=dL_) (fx:=Aa 1) h χ χ df;let g2:=qR (ρ:=dL_) (fx:=Aa 2) h χ χ qw;let g3:∀K:D->Mh->Prop,w2 bM_ y_ wv_ dL_ M K=Dw_ K Br_ M:=λK=>by
  let ul:Aa 2 dL_=ψ x:=χ;let:=c8t (M:=M) hx (jB "root") (jB "bin");simp![w2,wl,ul,fC,this]
 let no:(¬ep_)->R .non M:=λc=>hR M W (HX_ z c) (λ_=>χ) h .refl;let Z9:i∈W.its->Ge W x->At wx! wz_ Bl dL_ M hD_:=λc1 c2=>by
  let hc:∀(K:P_),Lo [dK!,x,i] M K->Ah 3 Lo ww_ dL_ M K:=λK h=>cN_;exact hc _ (c5q h wi a! c2 (wi.nm i c1) λb J=>?_);cases b with
  |true=>exact no λz=>z.2.2 (J.mp χ)
  |false=>
   let nw:¬DQ_ Wn i x:=λz=>by let:=J.mpr z;exact Dd_ this
   let jq:∀(K:P_),Iu [dK!,i,x,s] M K->Ah 4 Iu wx_ dL_ M K:=λK h=>cN_;simp![Bool.not_false,PL];exact fP (jq _ (a8m h er_ hi hx hs hl λM' rows' hg hL hF=>?_))
   .let#[Y,h2,_]:=G6! q;exact#[Y.sd,h2,Y.nn.1]
   .exact hR M' _ (λ_=>#[rows',hg,χ]) (HX_ #[c1,c2,nw] z) hL hF
 simp![At,Ex,Xb,wT,g1];show"#$"
 .rw[NG c1];simp![PL,g2];by_cases c2:x∈W.its
  .rw[NG c2];exact Z9 c1 (.inl c2)
  .rw[MU c2];simp![NW,OY,g3];by_cases c3:x=root\/x=binn
   .rw[NG c3];exact Z9 c1 (.inr c3)
   .rw[MU c3];exact no λz=>z.2.1.elim c2 c3
 .rw[MU c1];exact no λz=>c1 z.1
end
def AD:WS:=(Ag wC!
 (Ag wC_
 (Ag wE!
 wG!)))
def AC:WS:=wH!
def GW:WS:=wJ!
def Tf:WS:=(Ag j2_
 (Ag (An 6 aS_)
 (Ag Cu!
 (Ag (An 8 oF_)
 wK_))))
def AE:WS:=(Ag (An 9 oH!)
 (Ag j2_
 wM_))
abbrev Vl(k:Str):Ae->ι Bool:=Jo! T_
abbrev Uv:WT:=wT hl!
def c6r:Zw=Ag oB! (Ag oB_
 (At Cu_ AD (At Cv! oD_ (At Cv_ oE!
  (At Cw! AC Cx!))))):=χ
section
variable{M:Mh}{R:D->Mh->Prop}{w:yJ!}{O:Addr->Prop}{W:OW}{ρ:Ae}{pre:List D}
def c2k(h:rb_):Vl k' ρ=ψ ls!:=by
 let e:Ak cX! O_=ψ T_:=by
  show qs_;show"#2";simp
 let:f2 Av be! (fC qs!) ρ=Df! ls!:=by
  show((lT_).bind λx=>Ak x O_).bind (λx=>Av x qs!)=_;rw[h];show(Ak cX! O_).bind _=_;rw[e];exact dZ k k'
 delta Vl fT;rw[this];rfl
def p1(h:Cy!):f2 Ak D_ D! ρ=ψ a:=by show Fn! bv_=_;rw[h];exact ix1
def p2(h:Aa 2 ρ=ψ qt_):Ho_ D_ ρ=ψ b:=by show Fn! cz_=_;rw[h];exact ix2
def p3(h:Aa 2 ρ=ψ qu!):KC! D_ ρ=ψ c:=by show Fn! a9_=_;rw[h];exact ix3
def anF{R:r_}(h:AS_)(k:ez!):DO_ Cy_:=by simp![At,Ex,Cp,h];exact k
def anT{R:r_}(h:AR!)(hu:∀K:Bool->Mh->Prop,K b M->IU_ fu)(k1:Cz!)(k2:Cz_):DO_ Cy_:=by
 simp![At,Ex,Cp,h,PL];exact hu _ ?_;cases b with
 |true=>rw[y!];exact k1 χ
 |false=>rw[bx_];exact k2 χ
def a3j(h:ad_)(h0:eG_)(h2:Cy!)(hk:dC!)(K:cX_)(hK:E3_ K (a∈W.its) M):IU_ Uv:=by delta Uv wT;rw[qR h h0 (p1 h2) hk];exact hK
def Ci.sd(h:Ci x):Sd x:=by
 obtain rfl|rfl|⟨a,b,rfl,_⟩:=h
 .exact jB _
 .exact jB _
 .exact .inr pq!
def Lh.sd(h:Lh x):Sd x:=by
 obtain rfl|⟨a,b,rfl,_⟩:=h
 .exact cu!
 .exact .inr pq!
def Jp.sd(h:Jp x):Sd x:=by
 obtain rfl|⟨a,b,c,rfl,_⟩:=h
 .exact cu!
 .exact .inr yb!
def Lx.tx(h:eE!)(h0:eG_):Dj! by_ f8_:=by let#[e,hw]:=h.mw;exact Kr! k3t
def Lx.nb(h:eE!)(h0:eG_):Dj! oC_ lL_:=by let#[e,hw]:=h.mw;exact Kr! k3n
def c4h{R:r_}(h:ad_)(wi:By W)(ha:fD_)(hk:dC!)(h0:eG_)(h2:Aa 2 ρ=ψ ln_)(p0:0<=p)(p3':p<=3)
  (hR:∀M',Ew! O (BA W a qo_)->Dz_ O->R ab_ M'):Hi_ AC:=by
 let#[wt,wn,qa,hA]:=h;let#[e0,e1,e2,L]:=hA.L;let#[e,hn]:=hA.mn;let hx:Kl (f2!).length p=ψ p.toNat:=by
  rw[wi.nl a ha];delta Kl;rw[MM p0,aN_]
 exact c6s (aP (p3 h2)) (dQ (hA.nb h0) (aP (p1 h2)) (Jb_ hn CA_)) (aP (p2 h2)) (hA.mq ha).1 hx ?_;exact hR _ (FQ_ #[e0,e1,e2,?_]) (hA.fr (.inr (Dt_ #[a,ha,χ])));let#[u,v',ei,hu]:=kN ha;let nd:=wi.nd;rw[ei,NU,NJ]at nd;let e1:∀l:List D,a∉l->(l.map λi=>rd_)=l.map λi=>eH!:=λl hl=>OQ λi hi=>by rw[MY λz:i=a=>hl (z▸hi)]
 delta HD at L ⊢;show HL _ _ (_::_::_::W.its.map λi=>rd_);let ei':(W.its.map λi=>rd_)=CB_++(qa a,.lst qo_)::v'.map λi=>eH!:=by
  rw[ei,NM,MO,e1 u hu,e1 v' nd.2.1.1,y!]
 let ej:CC!=CB_++(qa a,.lst f2!)::v'.map λi=>eH!:=by rw[ei,NM,MO]
 rw[ej]at L;rw[ei'];exact L.put (u:=_::_::_::u.map λi=>eH!)
def b8q(h:ad_)(h0:eG_)(hx:fx ρ=ψ a)(hk:dC!)(ha:fD_):Dj! (w2 Cc by_ lT!) re_:=by let#[wt,wn,qa,hA]:=h;let#[e1,ht]:=hA.mt;exact dQ (hA.tx h0) (aP hx) (Jb_ ht CA_)
def d2l:Ak (Cv q) O_=ψ q.1:=by rfl
def d8v:Ak (Cv q) bv_=ψ q.2.1:=by rfl
def d8u:Ak (Cv q) cz_=ψ (.bl q.2.2):=by rfl
def c8u(hx:Sd x)(hl:∀d∈l,Sd d):Fq neg M x iq!=Df! (if neg then !decide (x∈l)else decide (x∈l)):=by
 let e:CC_=decide (x∈l):=by
  rw[RE,List.any_eq_true,NS];show"!i"
  .rintro⟨d,hd,he⟩;rw[nR (hl d hd) hx,NS]at he;rw[<-he];exact hd
  .intro h;exact#[x,h,by rw[nR hx hx];simp]
 let n:∀l:List D,(∀d∈l,Sd d)->Bj l=τ/\Ct l<=5:=λl=>by
  induction l with
  |nil=>intro _;simp[Bj,Ct]
  |cons a r ih=>
   intro h;let#[i1,i2]:=ih λd hd=>h d (LY _ hd)
   let Y:=eI (h a MB);let h2:=kI (h a MB);exact#[by simp[Bj,Y,i1],by dsimp only[Ct];omega]
 let#[n1,n2]:=n l hl;show(if Bd x&&Bj l&&decide (Ct l<=40)then ψ (D.bl (if neg=τ then ! CC_ else l.any λd=>Dv d x))else υ)=_;rw[MM (by rw[eI hx,n1];simp;omega),e]
def b9s{R:r_}(h:ad_)(nd:W.its.Nodup)(hB:gd_<5000)(h0:eG_)(hx:fx ρ=ψ a)(hk:dC!)(ha:fD_)(hv:Dj! fv lV!)
  (hR:∀M',Ew! O pc_->Dz_ O->R ab_ M'):Bv by_ lT! fv ρ M R:=by
 let#[wt,wn,qa,hA]:=h;let#[e0,e1,e2,L]:=hA.L;exact b9v hv (hA.tx h0) (aP hx) CE! hk ge! (hR _ (FQ_ #[e0,Il ct_ a e1,e2,?_]) (hA.fr b2_));let:=L.put (u:=[_]) (c:=.dct (Br ct_ a lV!) (Il ct_ a e1));rw[a6k nd ha]at this ⊢;let e:(W.its.map λi=>(i,if i=a then D.lst rf! else D.lst lM!))=W.its.map λi=>(i,D.lst (GM_ pc_ Cv)):=OQ λi _=>by
  show _=(i,D.lst ((if i=a then l else W.txt i).map Cv));split<;>rfl
 rw[e]at this ⊢;show"#E"
def nY(h:f ρ=ψ (.int (n:δ)))(hn:n<=100000):Ez f ρ=Hq! o8_:=by delta Ez;rw[h];show(if -1000<=iq_/\iq_<=100000 then ψ (Cz (iq_).toNat)else υ)=_;rw[aN_];rfl
def c4j{R:r_}(h:ad_)(wi:By W)(hB:gd_<5000)(ht:CF!)(ha:fD_)(hk:dC!)(m1:1<=m)(m16:m<=16)
  (hR:∀M' ρ',Ew! O (setT W a (cutT kJ_ aN!))->Dz_ O->R c0! M'):
  AE CF_ M R:=by
 let hm:((m.toNat:δ):Int)=m:=by omega
 let Z':Ak fV_ cz_=ψ fK!:=ix2;let hc:Pu oH! CF_ M (.lst kJ_):=λK hK=>by
  delta Be Hb;rw[nY (by rw[hm];exact p3 χ) a!];exact dX #[by simp[big];omega,cZ ge_ (λd=>match d with|.int k=>.tup [hH!,hH_,.int (z+k)]|_=>.non) ο _ _ bo_ (by rw[ir!,NY];exact hK)];let#[k,cm,rfl]:=NC.mp hd;exact#[[ψ rf_,ψ fV_],χ,gf!,λ_=>aP (aZ (by delta Ek;rw[aZ χ χ Z'];rfl) (a8w (cL (aZ (aZ (Jy_ Z') χ χ) χ χ) χ) χ) χ)]
 exact fG hc ?_;generalize hg:(pz_).map (λk=>D.tup kJ!)=ug at hR;let yi:∀d∈ug,Sd d:=λd hd=>by
  rw[<-hg]at hd;let#[k,_,rfl]:=NC.mp hd;exact JO! #[[x,y,z+(k:δ)],χ]
 exact Iw! h (b9s h wi.nd hB χ gf_ hk ha CH! λM' g1 g2=>hR M' _ g1 g2);exact#[by simp[big];omega,cZ ge_ (λd=>match d with|.tup [s,c,.bl b]=>Cv (s,c,b&&!decide (s∈ug))|_=>.non) ο _ _ bo_ ?_]
 .show"!=";exact#[[lW_,ψ (.lst ug)],χ,gf!,λ_=>c6t CH_ (aP (Jy_ d8v)) (c6v (aP (Jy_ d8u)) (λe=>?_) λe=>by rw[e];rfl)];rw[e];exact dQ CH_ b_ (c8u (CI!).sd yi)
 .rw[ir!,NY];delta cutT at hK;rw[NY]at hK;exact hK
def HV(l:a3_)(b:D)(k a:δ):Prop:=(a=0/\∀j<k,CJ!≠ψ b)\/∃j<k,CJ!=ψ b/\a=j+1
def a8p{o4:D}(hl:S_<5000)(hs:∀q∈l,Sd q.1)(J:Sd b)(R:r_)(hR:∀(a:δ) y,HV l b l.length a->DZ_ CK! M):
  ∀(m k a:δ) (y:ac_),S_ - k=m->k<=S_->HV l b k a->Ga (Cb 7) N! GW Cd_ CK! M R
 |0,k,a,y,hm,hk,ha=>(EZ_ l.length)
 |m+1,k,a,y,hm,hk,ha=>by
  let c1:k<S_:=by omega
  exact am_;show GW rg! M _;let e1:=ND c1;let ea:Fs rf! c2!=ψ (Cv l[k]):=by
   show"#2";simp[c1]
  let cond:fT wI_ rg!=E3_ ψ ((l[k]).1=b):=by
   delta fT;rw[aZ (aZ (Jy_ ea) χ d2l) (p2 χ) (oO (hs _ ik!) J)];rfl
  let es:Ff_ bw_ rg!=ψ q4_:=by
   show q5!;rfl
  by_cases z:(l[k]).1=b
  .exact Ce!;exact a8p (o4:=o4) hl hs J R hR m W! W! _ a! a! (.inr #[k,o_,by rw[e1];exact congrArg ψ z,χ])
  .exact jR Ce_ ?_;exact a8p (o4:=o4) hl hs J R hR m W! a _ a! a! ?_;obtain⟨Y,h2⟩|⟨j,Y,h2,h3⟩:=ha
   .exact .inl #[Y,kr_];by_cases y:j=k
    .rw[y,e1];exact λx=>z (OF x)
    .exact h2 j a!
   .exact Cf!
def HV.wr(h:HV l b l.length a)(nd:oT!):wrT b nw l=l.take a++nw++l.drop a/\a<=S_:=by
 obtain⟨rfl,h2⟩|⟨j,Y,h2,rfl⟩:=h
 .let nb:b∉l.map d!:=λz=>by
   let#[j,hj]:=SK.mp z;rw[OC]at hj;let:j<S_:=by
    cases e:l[j]? with
    |none=>rw[e]at hj;rcases hj
    |some q=>exact(NH.mp e).1
   exact h2 j this hj
  delta wrT;rw[MY nb];simp
 .let hj:=ND Y;rw[hj]at h2;let J:=OF h2;let e:l=l.take j++l[j]::l.drop c6_:=by rw[<-QR Y,SJ]
  let nb:b∉(l.take j).map d!:=λz=>by
   rw[e]at nd;simp![NM,MO]at nd;rw[NU]at nd;exact nd.2.2 _ z _ c! J.symm
  let lg:b∈l.map d!:=by rw[<-J];exact NE (QL Y)
  exact#[?_,o_];delta wrT;rw[MM lg]
  conv=>lhs;rw[e]
  rw[wV J nb,RT Y];simp![OE,QW,QD]
def b5l(h n:Int)(s:Str):Ek_ et_=(Ee! F!).map λk=>(D.tup qp!,D.str CL_,τ):=by
 apply XS;intro i;rw[OC,OC,WL];by_cases c:i<b7!
 .let c':i<F!:=by simpa[Str.length]using c
  rw[ND c,List.getElem?_range c'];simp[sgn,List.getD,ND c];simp at c;simp[c]
 .let c':¬i<F!:=by simpa[Str.length]using c
  rw[PK a!,PK aV_];rfl
def b1h{R:r_}(hL:ad_)(wi:By W)(hB:gd_<5000)(ht:CF!)(ha:fD_)(hk:dC!)(J:Sd b)(s16:hP!)
  (hR:∀M' ρ',Ew! O (setT W a (wrT b hP_ aN!))->Dz_ O->R c0! M'):
  Tf [U!,al!,lX_,cU!,y4,υ,υ,υ,υ,υ] M R:=by
 exact Iw! hL (fG b_ ?_);show Fq_ Cu! CM!;let er:Ez wH_ CM!=ψ ((List.range (aN!).length).map λi=>D.int bs_):=nY (by
  show Bw [.lst re!]=_;simp[Bw]) a!
 delta Ag Cs Hb;rw[er,List.range_eq_range'];exact a8p (o4:=.non) ht (λq hq=>(CI!).sd) J _ (λat_ y zk=>?_) (aN!).length 0 0 υ a! a! Ci_;let#[ew,uo]:=zk.wr (nw:=Ek_ et_) (wi.snd a ha);let hnl:(hP_).length=F!:=by simp[Str.length]
 let hc:Pu oF_ [U!,al!,lX_,cU!,y4,ψ re_,ψ (.int (at_:δ)),y,υ,υ] M (.lst ((hP_).map Cv)):=λK hK=>by
  delta Be Hb;rw[nY (n:=s.length) (by show Bw [bF_]=_;simp[Bw,big];omega) a!];exact dX #[by simp[big];omega,cZ ge_ (λd=>match d with|.int k=>Cv (.tup AI!,.str #[[s.cps.toList.getD k.toNat 0].toArray],τ)|_=>.non) ο _ _ bo_ (by rw[b5l,NY]at hK;rw[ir!,NY];exact hK)];let#[k,cm,rfl]:=NC.mp hd;let ZT:=RQ.mp cm;let hc:k<b7!:=by simpa[Str.length]using ZT
  let e3:Ak aT! rf_=Et! CL_:=by
   show(if F!<=big then(Fs s.cps.toList c2!).map _ else υ)=_;rw[cm!];show"#2";rw[aN_,aN_];dsimp only[Option.bind_some,Int.toNat_natCast];rw[ND hc,List.getD_eq_getElem?_getD,ND hc];rfl
  exact#[[ψ rf_,lX_,cU!],χ,gf!,λ_=>aP (a8w (cL χ (cL (aZ (Jy_ ix3) χ e3) h4_)) χ)]
 exact fG hc ?_;generalize s.cps.toList.zipIdx.map et_=nw at *;exact b9s hL wi.nd hB rfl gf_ hk ha (aP (aZ (x:=.lst ((re!).take at_++nw.map Cv)) (aZ (c4q lP_) rfl ?_) (a7v lP_) ?_)) λM' g1 g2=>hR M' _ g1 g2
 .show h4!;rw[ga_]
 .show h4!;rw[ga_,ew];simp
end
def HL.perm{M0 M:Mh}(h:qI!)(p:l.Perm l'):HL M0 M l':=#[λq hq=>h.cell q CN_,(p.map _).nodup_iff.mp h.nd,λq hq=>h.fr q CN_,h.kp]
section
variable{M:Mh}{R:D->Mh->Prop}{w:yJ!}{O:Addr->Prop}{W:OW}{ρ:Ae}{pre:List D}
def c5g{f1 f2 f3 f4:n_}(Y:fO!)(h2:hR!)(h3:qu_)(h4:f4 ρ=ψ d)(k:g [a,b,c,d] M K):Gq_ 4 AV!:=by delta Ah Ab Ad;rw[dA Y,dA h2,dA h3,dA h4];exact ir_
def c4i{R:r_}(hL:ad_)(wi:By W)(hB:gd_<4000)(hl:eF_<3900)(hn:CO!)(ha:Sd a)(hk:dC!)(J:Sd b)
  (hR:∀M' ρ' O' rows',JL_ aq_->Ew! O' (Jg W aq_ rows')->Dz_ O'->R c0! M'):
  AD [U!,al!,ψ hX_,cU!,υ,υ,υ,υ,υ,υ] M R:=by
 let#[wt,wn,qa,hA]:=id hL;let#[e0,e1,e2,L]:=hA.L;let gj:Co aq_=some (some (.inr [.inl h,.inl n])):=rfl;exact fG (d:=.bl (decide CO_)) (d2s (λK hK=>by rw[qR hL rfl gf_ hk];exact hK) (λe=>aP (aZ gf_ rfl ((oO ha (jB _)).trans (by simp[UE e])))) λe=>NG (.inl (PB e))) ?_;generalize hg:decide CO_=g;delta Ag;let kt:=zT (g:=λi=>D.lst lM!) (v:=lY!) hn;exact b9v b_ (hA.tx rfl) b_ CE! gj ge! ?_;let L1:=L.put (u:=[_]) (c:=.dct CP_ CQ!);exact#[by show 4<=1000;decide,eD!];let L2:=L1.new (c:=.lst fQ_) hq;let hw2:=L2.cell (w,_) im!;let ip:=L2.cell (wn,_) (LY _ q2!);exact dQ b_ b_ ((fS hw2 rfl).trans k3n) _ (aP rfl _ ?_);rw[jD ip gj ge!];let L3:=L2.put (u:=[_,_,_]) (c:=.dct CR! CR_);exact dX ?_;generalize hM3:mup (mup (mup M wt (.dct CP_ CQ!)) q (.lst fQ_)) wn (.dct CR! CR_)=M3 at L3 ⊢;let qM:M q=none:=by
  by_cases z:q=wt
  .rw[z,mup_same]at hq;rcases hq
  .rw[mup_ne z]at hq;exact hq
 let ni:∀i∈W.its,i≠.tup bF!:=λi hi z=>hn (z▸hi)
 let -nondep fq:D->Addr:=λi=>if i=.tup bF! then q else qa i
 let bc:∀i∈W.its,fq i=qa i:=λi hi=>MY ri!;let wg:fq aq_=q:=MM χ;let gq:Lx M3 w CS_ ri_ wt wn fq:=by
  exact#[#[e0,Il ct_ aq_ e1,Il lY_ aq_ e2,?_],λb=>?_]
  .rw[kt,zT hn]at L3;exact L3.perm ?_;let m1:(is_).map (λi=>(i,D.lst (GM_ ri_ Cv)))=ct_++[(.tup bF!,.lst [])]:=by
    rw[NM];congr 1
    .exact OQ λi hi=>by show(i,D.lst ((if i=_ then[]else W.txt i).map Cv))=_;rw[MY ri!]
    .show[(_,D.lst ((if _=_ then[]else _).map Cv))]=_;rw[y!];rfl
   let m2:I0! (λi=>(i,D.fn (fq i)))=lY_++[(.tup bF!,.fn q)]:=by
    rw[NM];congr 1
    .exact OQ λi hi=>by rw[bc i hi]
    .show[(_,D.fn (fq _))]=_;rw[wg]
   let m3:I0! (λi=>(fq i,Dd.lst ((ri_).num i)))=CC!++[(q,.lst fQ_)]:=by
    rw[NM];congr 1
    .exact OQ λi hi=>by show(fq i,Dd.lst (if i=_ then _ else W.num i))=_;rw[bc i hi,MY ri!]
    .show[(fq _,Dd.lst (FF! _ _))]=_;rw[wg,y!]
   show List.Perm _ (_::CT_::CT_::I0! _);rw[m1,m2,m3];exact(List.perm_append_singleton (q,Dd.lst fQ_) (_::_::_::W.its.map λi=>eH!)).symm
  .show(O b\/b=q)↔_\/_\/_\/∃i∈W.its++[D.tup bF!],fq i=b;rw[hA.O,or_assoc,or_assoc,or_assoc];exact UP (UP (UP #[co!,λ⟨i,hi,e⟩=>?_]))
   .obtain⟨i,hi,e⟩|z:=z
    .exact#[i,MV _ hi,(bc i hi).trans e]
    .exact#[_,MF _ kY!,wg.trans z.symm]
   .obtain z|z:=NA.mp hi
    .exact .inl #[i,z,(bc i z).symm.trans e]
    .rw[eK!,wg]at e;exact .inr e.symm
 let F1:Fr M O M3 CS_:=λc hc hr=>by
  let cq:=eB hc qM;exact#[?_,λz=>z.elim hr cq];rw[<-hM3,mup_ne λz=>HB_ wn (.inr b2_),Dw! cq,mup_ne λz=>HB_ wt b2_]
 exact fP (c5g χ χ ?_ (p2 χ) (a8m #[wt,wn,fq,gq] er_ (.inr (Dt_ #[[h,n],χ])) (by split;exact ha;exact jB _) J (by show eF_<_;omega) λM' rows' sm cu hF'=>hR M' _ _ rows' sm cu (F1.trans hF')))
 .delta Xn;rw[show fT aa! _=ψ g from χ,p1 χ];show(if g=τ then ψ a else ψ binn)=_;rw[<-hg];by_cases c:a∈W.its\/a=root
  .rw[MM (NG c),MM (c.elim .inl λz=>.inr dq_)]
  .rw[MY λz=>c (PB z)];by_cases c2:Ge W a
   .rw[MM c2,c2.resolve_left (λz=>c dq_) |>.resolve_left λz=>c eh_]
   .rw[MY c2]
 .let#[z1,z2,_]:=G6! q;exact#[z1.sd,z2,z1.nn.1]
end
structure Sb(W:OW)(B:Nat):Prop where
 rows:eF_<=B
 its:gd_<=B
 txt:∀x,(bB!).length<=B
def Ph.len(h:hw!):rows'.length<=rows.length+1:=by
 let#[u,v,e1,e2,_]:=h;let Y:(cM_).length<=rows.length:=by delta wo;exact PJ _ _
 rw[e1,MH]at Y;rw[e2,MH,MX];omega
def Sb.stp(l:c3!)(h:Gi! n):Sb W' bE_:=by
 let l1:=l.rows;let l2:=l.its;let l3:=l.txt;let same:Sb W bE_:=#[o_,o_,λx=>by let:=l3 x;omega];cases h with
 |put _ _ hg=>
  let:=hg.len;exact#[by show _<=_;delta Jg;simp only;omega,by delta Jg;simp![MH,QS];omega,kl_];delta Jg;simp only;split
  .simp
  .let:=l3 x;omega
 |mvY _ _ _ _ hg=>
  let:=hg.len;exact CV!
 |mvN=>exact same
 |drY _ _ hg=>
  let:=hg.len;exact CV!
 |drN=>exact same
 |@wrt a b s h m _ _ hs e=>
  split
  .exact CW_;delta setT;simp only;split
   .let#[u,v,e1,e2,_]:=Ho! rD;let:=l3 a;rw[e1,MH]at this;rw[e2];let bv:b7!<=16:=hs;simp![MH,MJ,VH];omega
   .let:=l3 x;omega
  .exact same
 |cut=>
  split
  .exact CW_;delta setT;simp only;split
   .delta cutT;rw[MJ];exact same.txt _
   .exact same.txt x
  .exact same
 |set=>
  split
  .exact#[same.rows,same.its,same.txt]
  .exact same
section
variable{M:Mh}{R:D->Mh->Prop}{w:yJ!}{O:Addr->Prop}{W:OW}{ρ:Ae}{pre:List D}
def lF{R:r_}(h:bR_)(k:q bR! M R):KD_ (wl f):=by delta Ag An;rw[dA h];exact k
def kT(h:rb_)(e:(k==k)=τ):Vl k ρ=ψ true:=by rw[c2k h,e]
def kF(h:rb_)(e:ls!=θ):Vl k' ρ=ψ false:=by rw[c2k h,e]
def KZ:WS:=At Cw! AC Cx!
def LA:WS:=At Cv! oD_ (At Cv_ oE! KZ)
def CB:WS:=At Cu_ AD LA
def c6q:Zw=Ag oB! (Ag oB_ CB):=c6r
def Tg(w:yJ!)(x0 d nm:D):Ae:=[U!,al!,h9!,lV_,υ,υ,υ,υ,υ,υ]
def dv0:Aa 0 CY!=ψ dK_:=χ
def oY:Aa 2 CY!=ψ d:=χ
def CY(W:OW)(M:Mh)(w:yJ!)(O:aE!)(n d:D)(R:r_):Prop:=∀M' O' W' ρ',Gi! n->Ew! O' W'->Dz_ O'->R c0! M'
def d5c{R:r_}(hL:ad_)(wi:By W)(ak:c3!)(hB:eJ!)(hn:CO!)(ha:Ci a)(J:Lh b)
  (hR:E6_ aq_ hX_):Ef! hX_ aq_:=by
 show"!5";let l1:=ak.rows;let l2:=ak.its;exact HL! c2m;exact Io_ c4i a! hn ha.sd bq J.sd λM' ρ' O' rows' hg cu hF=>hR M' O' _ ρ' (.put ha J hg) cu hF
def c9l{R:r_}(hL:ad_)(wi:By W)(ak:c3!)(hB:eJ!)(ha:Ci a)(J:Ci b)(hc:Lh c)
  (hR:E6_ nm hY!):Ef! hY! nm:=by
 show"!5";let#[kb,lc]:=dB J;let l1:=ak.rows;exact jR ax_ ?_;exact HL! a2y;exact fP (c5g dv0 (p1 oY) (p2 oY) (p3 oY) ?_);exact Io_ a8l ha.sd J.sd hc.sd bq lc λM' W' Y h2 cu hF=>?_;by_cases g:a∈W.its/\Ge W b/\¬JY! b
 .let#[rows',hg,e]:=Y g;rw[e]at cu;exact DP! (.mvY ha J hc g hg)
 .rw[h2 g]at cu;exact DP! (.mvN ha J hc g)
def c9m{R:r_}(hL:ad_)(wi:By W)(ak:c3!)(hB:eJ!)(ha:Ci a)
  (hR:E6_ nm hY_):Ef! hY_ nm:=by
 show"!5";let l1:=ak.rows;show"!9";exact HL! a2z;exact fP (c5g dv0 (p1 oY) χ χ ?_);exact Io_ a8l ha.sd (jB _) N_ bq χ λM' W' Y h2 cu hF=>?_;by_cases g:a∈W.its/\Ge W binn/\¬JY! binn
 .let#[rows',hg,e]:=Y g;rw[e]at cu;exact DP! (.drY ha g hg)
 .rw[h2 g]at cu;exact DP! (.drN ha g)
def d5b{R:r_}(hL:ad_)(wi:By W)(ak:c3!)(hB:eJ!)(ha:Ci a)(h0:0<=p)(h3:p<=3)
  (hR:E6_ nm ln_):Ef! ln_ nm:=by
 show"!5";let st:=Sa.set (W:=W) (n:=nm) (v:=v) ha h0 h3;show"!9";exact jR ax_ ?_;exact Fg! c2l
 .show"#D";exact c4h hL wi c' bq dv0 oY h0 h3 λM' cu hF=>DP! st
 .show"#C";show"#0";show"#0";show"#F"
def c4g{R:r_}(hL:ad_)(wi:By W)(ak:c3!)(hB:eJ!)(ha:Ci a)(J:Jp b)(hs:hP!)
  (hR:E6_ aq_ dD!):Ef! dD! aq_:=by
 show"!5";let l2:=ak.its;let l3:=ak.txt a;let st:=Sa.wrt (W:=W) (n:=.tup bF!) ha J hs χ;show"!9";exact jR ax_ ?_;show"#0";exact Fg! a6n
 .show"#D";exact Io_ b1h a! c' bq J.sd hs λM' ρ' cu hF=>DP! st
 .show"#C";show"#0";show"#F"
def d5d{R:r_}(hL:ad_)(wi:By W)(ak:c3!)(hB:eJ!)(ha:Ci a)(h0:0<=z)(Y:1<=m)(h2:z+m<=16)
  (hR:E6_ nm fV_):Ef! fV_ nm:=by
 show"!5";let l2:=ak.its;let l3:=ak.txt a;let st:=Sa.cut (W:=W) (n:=nm) (x:=x) (y:=y) ha h0 Y h2;show"!9";exact jR ax_ ?_;show"#0";show"#0";exact Fg! c2n
 .show"#D";exact Io_ c4j a! c' bq Y a! λM' ρ' cu hF=>DP! st
 .show"#C";show"#F"
def d3d(o:Op):FQ! a9_=ψ o.d:=by rfl
def mP(o:Op):FQ! O_=ψ dI_:=by rfl
def vM(o:Op):FQ! bv_=Da_ o.n:=by rfl
def d1s(Y:f ρ=ψ a)(h2:g ρ=ψ b):KI! f g ρ=ψ lM_:=by simp[Bn,Ac,Af,Y,h2]
def d6f{o:Op}(hL:ad_)(hw:f2_)(hn:o.nm∉pre)(hd:f4!)(hu:Gd o.d=υ)(ak:c3!)(hB:eJ!)
  (hR:∀M' O' W',Sa W o.nm o.d W'->Ew! O' W'->Dz_ O'->D5_ M'):Xl [dK!,o.v] M R:=by
 exact j_;rw[c6q];let e3:=d3d o;exact lF (ρ:=[U!,L!,none,none,none,none,none,none,none,none]) e3 ?_;let e0:Bn wA_ CZ_=some o.nm:=d1s (mP o) (vM o);exact lF (ρ:=CZ_) e0 ?_;generalize hK:zq!=K;let g7:CY W M w O o.nm o.d K:=λM' O' W' ρ' Y h2 h3=>by rw[<-hK];exact hR M' O' W' Y h2 h3
 let ux:o.nm∉W.its:=λz=>hn (hw.its _ z);clear hR hK e3 e0 hn;let#[h,n,tm,d]:=o;generalize Op.v #[h,n,tm,d]=v;change CB (Tg w v d aq_) M K;change CY W M w O aq_ d K at g7;change D.tup bF!∉W.its at ux;change DG d at hd;change Gd d=none at hu;cases hd with
 |put ha J=>exact El! d5c ux ha J g7
 |move ha J hc=>exact El! c9l ha J hc g7
 |drop ha=>exact El! c9m ha g7
 |write ha J _ _ hs=>exact El! c4g ha J hs g7
 |cut ha hs Y h2=>
  let#[_,_,_,e,_,_,_,_,z0,_]:=hs;cases e;exact El! d5d ha z0 Y h2 g7
 |set ha Y h2 _=>exact El! d5b ha Y h2 g7
 |undo _=>rw[nW]at hu;exact Df_ hu (Fs! A4_)
 |redo _=>rw[nW]at hu;exact Df_ hu (Fs! A5_)
end
def Sb.mono(l:c3!)(h:cQ_):Sb W B':=#[NR l.rows h,NR l.its h,λx=>NR (l.txt x) h]
section
variable{M:Mh}{R:D->Mh->Prop}{w:yJ!}{O:Addr->Prop}{W:OW}{ρ:Ae}{pre:List D}
def d8g(hp:bG_)(h0:lB!)(Y:ro_)(h2:fb ρ=ψ z)(hk:aU!)(K:P_)(hK:K ((ih_).getD z) M):Hn cU_ ie_ lz! ρ M K:=by
 let c:Dl M B!=ψ lv_:=by simp[Dl,hp]
 simp![Hn,wl,h0,Y,h2,c,Dq,hk];exact hK
def iU{f1 f2:n_}(Y:fO!)(h2:hR!)(k:g O! M K):Gq_ 2 y6!:=by delta Ah Ab Ad;rw[dA Y,dA h2];exact ir_
def tO{g:WF}{f1:n_}{K:P_}(Y:fO!)(k:g [a] M K):Gq_ 1 (Ab hR_ Ad):=by delta Ah Ab Ad;rw[dA Y];exact ir_
def KC:WT:=Ex wP_ wQ_
def KD:WS:=At KC wR! Bl
def d7y{R:r_}(h:C3!)(k1:Cz!)(k2:Cz_):DO_ ft:=by
 exact h _ ?_;cases b with
 |true=>rw[y!];exact k1 χ
 |false=>rw[bY!];exact k2 χ
def c5w(h:C3!)(h2:b=τ->∀K:Bool->Mh->Prop,K c M->IU_ fu)(K:cX_)(hK:K (b&&c) M):Ex ft fu ρ M K:=by
 exact h _ ?_;cases b with
 |true=>rw[y!];exact h2 χ K (Di_ hK)
 |false=>rw[bY!];simpa using hK
def c8c{x:Op}(lf:C3_)(hd:DG x.d)(hp:M p=KD! kb)(K:cX_)
  (hK:E3_ K C4! M):KC C5_ M K:=by
 let#[k,r,e,hn,hs]:=d8i hd;let i0:=c2w e;let hu:(! qX_)=decide rp!:=by
  cases hu:Gd x.d with
  |none=>
   let#[Y,h2]:=hn hu;rw[BEq.comm,BW!,Y,h2];rfl
  |some u=>
   let#[g1,g2,hk,ji]:=hs u hu;rw[b1z hk];rfl
 let#[kn,gj]:=b0d x;let hz:(∃b:Bool,(FC_ kb).getD C_=.bl b/\(b=τ↔kget wd x.nm=ψ ca!)):=by
  obtain⟨Y,h2⟩|⟨k',Y,h2⟩:=lf x.nm
  .exact#[θ,by rw[h2];rfl,by rw[Y];simp]
  .exact#[k'=="undo",by rw[h2];rfl,?_];rw[Y];show"!i"
   .intro z;rw[eq_of_beq z]
   .intro z;rw[D.str.inj (OF z)];exact OH _
 let#[b,hb1,hb2]:=hz;let e2:Bn wQ! C5_=ψ x.nm:=d1s (mP x) (vM x);exact c5w (b:=decide rp!) (c:=!b) (λK' uh=>?_) (λ_ K' uh=>?_) K ?_
 .delta wT w2;rw[dA i0,b4_,a6z];rw[hu];exact uh
 .delta Je wT;exact d8g hp χ e2 χ gj _ ?_;rw[hb1];exact uh
 .let:(decide rp!&&!b)=decide C4!:=by
   by_cases c1:Gd x.d=υ
   .by_cases c2:FC_ wd=ψ ca!
    .rw[hb2.mpr c2];simp[c2]
    .let:b=false:=by
      cases b with
      |true=>exact Df_ (hb2.mp χ) c2
      |false=>rfl
     rw[this,NG c1,NG (#[c1,c2]:_/\_)];rfl
   .rw[MU c1,MU λz:_/\_=>c1 z.1];rfl
  rw[this];exact hK
def a2j{e0:δ}(lf:C3_):
  ∀(os:h_) (x1:D) (y:ac_) (M:Mh) (O:aE!) (W:OW) (pre:d_) (B:δ) (R:r_),(∀x∈os,DG x.d)->BA_->(lE!).Nodup->Bo M w O W->Tj W pre->Sb W B->B+20*ax!<3800->M p=KD! kb->¬O p->
   (∀M' O' W' y',Ws W qN_ W'->Ew! O' W'->BB!->Sb W' (B+20*ax!)->Dz_ O'->JQ_ [ad!,U!,as!,y'])->
   Ga R_ N! KD ak_ [ad!,U!,as!,y] M R
 |[],x1,y,M,O,W,pre,B,R,_,_,_,hL,hw,ak,_,_,_,hR=>#[ο,hR M O W y .nil hL #[pre,hw] (ak.mono a!) .refl]
 |x::os,x1,y,M,O,W,pre,B,R,hd,hp,nd,hL,hw,ak,hB,wj,hrp,hR=>by
  exact am_;dsimp only[List.length_cons]at hB hR;rw[MO,NJ]at nd;let j6:=hd x MB;exact d7y (c8c lf j6 wj) dM_ dM_
  .let c':=PB c;let ee:Pq wd ig_=x::Pq wd os:=by delta Pq;rw[OD C9_]
   exact J5_ (d6f hL hw lE_ j6 c'.1 ak a! λM1 O1 W1 hs hL1 hF=>?_);let hq:=hF p (Eu! wj) hrp;exact a2j lf os x1 qO_ M1 O1 W1 (pre++[x.nm]) bE_ R qP! BC_ nd.2 hL1 (a8y hs hw lE_) (ak.stp hs) a! (hq.1.trans wj) hq.2 (λM' O' W' y' g1 g2 g3 g4 g5=>hR M' O' W' y' (by rw[ee];exact .cons hs g1) g2 g3 rq_ (hF.trans g5));obtain z|z:=NA.mp z
   .exact hp y cH_ z
   .rw[NB]at z;exact nd.1 BD!
  .let c':=UE c;let ee:Pq wd ig_=Pq wd os:=by delta Pq;rw[OO C9_]
   exact a2j lf os x1 qO_ M O W pre bE_ R qP! qP_ nd.2 hL hw (ak.mono a!) a! wj hrp (λM' O' W' y' g1 g2 g3 g4 g5=>hR M' O' W' y' (AT! ee g1) g2 g3 rq_ g5)
def d6e:Sb W0 0:=#[MZ _,MZ _,λ_=>MZ _]
def d7x:(Dj_ il_).Nodup:=by
 exact NJ.mpr #[?_,NJ.mpr #[?_,rr!]]
 .intro z;obtain z|z:=MD.mp z
  .exact d0y z
  .exact d0z kW_
 .intro z;exact d0r kW_
def c8i:∀q∈k3 a b c,(Co q.1).isSome=true:=λq hq=>by
 obtain rfl|hq:=MD.mp hq
 .rfl
 .obtain rfl|hq:=MD.mp hq
  .rfl
  .rw[NB.mp hq];rfl
def b5s:Xh=Ag wO_
 (Ag wP!
 (Ag (Cs ox! R_ KD)
 cC!)):=χ
def c9n{f:WE->WS}{ρ:Ae}{K:P_}(hK:∀w M' O,M w=υ->Ew! O W0->qM!->K dK_ M'):
  Oi wO! ρ M K:=by
 intro w hw;exact Hj! pc;rw[b4_];exact Hj! pc;intro wt ht;exact Hj! pc;intro wn hn;let L:=(((HL.new (l:=[]) By_ hw).new ht).new (c:=if_) hn).put (u:=[_,_]) (c:=.dct rs! 3);let p:List.Perm [(wn,Dd.dct [] 0),(wt,.dct [] 0),(w,.dct rs! 3)] (HD W0 w wt wn (λ_=>w) 3 0 0):=(List.reverse_perm _).symm;let L:=L.perm p;exact#[?_,BO!,c8i,d7x,hK w _ (λb=>b=w\/b=wt\/b=wn) hw #[wt,wn,λ_=>w,#[3,0,0,L.cell,L.nd,gq!,B7!],λb=>?_] λb J=>#[L.kp b J,λz=>J ?_]]
 .let e1:=eB (Eu! mup_same) ht;rw[Kd! (by rw[mup_ne e1,mup_same];simp) hn,Dw! e1,mup_same]
 .exact UP (UP #[.inl,λz=>z.elim id λ⟨i,hi,_⟩=>by exact(ML hi).elim])
 .obtain rfl|rfl|rfl:=z
  .exact hw
  .exact L.fr (_,_) im!
  .exact L.fr (_,_) q2!
def c5p{ops:h_}(nd:eA!)(nn:BE!)(hl:eA_)(hd:ic_)
  (hR:∀w M' O W',M w=υ->Ws W0 (Pq id! a8!) W'->Ew! O W'->BE_->Sb W' 1500->qM!->R dK_ M'):Po cr_ M R:=by
 exact j_;rw[b5s];let hp:HZ! a8!:=bL ops;delta Ag An;exact c9n (f:=λ_=>Bl) λw M1 O hw hL fr=>?_;exact tO χ (b0l nd hl hd λp M2 ep gu gh lh=>?_);let rp:¬O p:=λz=>hL.live z gu;let uq:=hL.keep λc hc=>lh c λz=>rp rv_;delta Cs Ca;exact tO χ (vK nd hl ?_);exact a2j (uP a8! [] [] λx=>.inl az_) a8! _ υ M2 O W0 [] 0 _ (GN_ hd BF_) BG! BG_ uq c5o d6e lF! gh rp λM' O' W' y' g1 g2 g3 g4 g5=>?_;exact hR w M' O' W' hw g1 g2 g3 (g4.mono lF!) λb J=>?_;let#[e1,e2]:=fr b J;let e3:=lh b λz=>by rw[<-e1,z,gu]at J;exact J χ
 let#[e4,e5]:=g5 b BH! e2;exact#[e4.trans (e3.trans e1),e5]
end
section
variable{t:Az}
abbrev AR:Nat:=1000000000000000000000000000000000000000000000000000000000000
def a3n(h:bK_<AR):Gn dc_=ψ u_:=fH χ (a4a ah! (a4a ah! (by
 let e:f2 Vk (f1 BW R!) tD! [ψ ae!]=JX_ (i1_<1000000000000000000000000000000000000000000000000000000000000):=by kernel_rfl
 exact e.trans (bT (by delta AR at h;split<;>omega)))))
def a3p(h:bK_<AR)(h0:0<=i)(Y:i<k):Hz [eS_,ev_]=ψ u_:=fH χ (a4a rw! (d8j χ χ χ h0 (bT Y)))
def a3o(h:bK_<AR)(Y:1<=i):Ef dc_=ψ u_:=fH χ (a4a rw! (bT Y))
def sL(h:lx!):Fk [x]=ψ u_:=by let#[a,b,rfl,Y,h2,h3,h4]:=h;exact vA χ ah! (a4a (J7_ Y h2) (Gh_ (a3o eL_ h3)))
def tI(h:Xo x):Eo [x]=ψ u_:=by let#[a,b,c,rfl,Y,h2,h3,h4,h5,h6]:=h;exact vA χ ah! (a4a (Kr_ a b) (J7_ h5 a!))
def pM(h:Ci x):Lm [x]=ψ u_:=by
 obtain rfl|rfl|h:=h
 .exact Kv_ (c0x ah!)
 .exact Kv_ (b6a ah! ah!)
 .exact fH χ (c0x rB!)
def a0h(h:Lh x):Hk [x]=ψ u_:=by
 obtain rfl|h:=h
 .exact rB_
 .let#[a,b,rfl,_]:=id h;exact fH χ (b6a χ rB!)
def c4b(h:Jp x):Iq [x]=ψ u_:=by
 obtain rfl|h:=h
 .exact rB_
 .let#[a,b,c,rfl,_]:=id h;exact fH χ (b6a χ (Gh_ (tI h)))
def b4l(h0:0<=i)(Y:i<=3):Dy dc_=ψ u_:=fH χ (J7_ h0 a!)
def a0p{α:Type}(cs:X!):Vb [.lst k3!]=ψ u_:=by
 let e:Jo hV!=ψ k4!:=by
  induction cs with
  |nil=>rfl
  |cons c cs ih=>show(Jo hV!).map (true::·)=_;rw[ih];rfl
 show(Jo hV!).map rE_=_;rw[e];show Ev_ ((k4!).all id)=_;rw[rF!]
def d4w(h:Ut s=τ)(Y:1<=F!)(h2:hP!):Ll [bF_]=ψ u_:=by
 delta Ut at h;rw[NQ,NS]at h;let hl:F!<=big:=by delta big;omega
 let hc:=b1p s.cps.toList h.2;let hz:b7!<=big:=by simpa[Str.length]using hl
 let fz:Di! (EH k!) gH! gk!=sM! (s.cps.toList.map λ_=>.bl τ):=by
  show(if(s.cps.toList.map λc=>D.str H_).length<=big then Option.map D.lst (EH! gH! (s.cps.toList.map λc=>.str H_))else υ)=_;rw[MJ,MM hz,hc];rfl
 let hn:f1 Bw R! gk!=ψ Ab!:=by
  show Ab_=_;rw[MM hl]
 exact rH!;let hk:Ie Rg Rg D! cz! b8_ gk!=ψ u_:=d8j χ hn χ a! (bT a!);show Qy (Dr nk!) tK_ gk!=_;let e0:Dr nk! gk!=ψ false:=by kernel_rfl
 delta Qy;rw[e0];delta Dr fT;rw[hk];rfl
def d4t(nd:t.nd):Jl t t.A0=ψ Lm/\Jl t t.A7=ψ Hk/\Jl t t.A8=ψ Iq/\Jl t t.A9=ψ Ll/\Jl t t.B0=ψ Eo/\
  Jl t t.B1=ψ Ef/\Jl t t.B2=ψ Dy/\Jl t t.B3=ψ Gn/\Jl t t.B4=ψ Fk:=by
 let p:∀(i j:δ) {a b:yJ!} {x y:Dl_ pz!},i<j->pW![i]?=ψ a->pW![j]?=ψ b->(if b=a then x else y)=y:=λi j a b x y h e1 e2=>by
  let#[Y,rfl]:=NH.mp e1;let#[h2,rfl]:=NH.mp e2;exact MY (OB (TJ.mp (SY.mp nd) i j Y h2 h))
 delta Jl;exact#[y!,(zD_ 0 1).trans bX!,(zD_ 0 2).trans (Jk! 1 2),(zD_ 0 3).trans (KT_ 3 (Jk! 2 3)),(zD_ 0 4).trans (KT_ 4 (Lc_ 4 (Jk! 3 4))),(zD_ 0 5).trans (KT_ 5 (Lc_ 5 (Lj! 5 (Jk! 4 5)))),(zD_ 0 6).trans (KT_ 6 (Lc_ 6 (Lj! 6 ((zD_ 4 6).trans (Jk! 5 6))))),(zD_ 0 7).trans ((zD_ 1 7).trans (Lc_ 7 (Lj! 7 ((zD_ 4 7).trans ((zD_ 5 7).trans (Jk! 6 7)))))),(zD_ 0 8).trans ((zD_ 1 8).trans ((zD_ 2 8).trans (Lj! 8 ((zD_ 4 8).trans ((zD_ 5 8).trans ((zD_ 6 8).trans (Jk! 7 8)))))))]
def a7z(cs:me_)(h:rL_):
  Cg ja! A! ja_ [υ,υ] iy_=ψ k3!/\(iy_).length=aQ!:=by
 induction cs with
 |nil=>exact az_
 |cons c cs ih=>
  let#[i1,i2]:=ih λx hx=>h x aT_
  let#[g,Y,h2]:=h c MB;exact#[?_,congrArg (·+1) i2];show(((Jl t c.1).bind λg=>g [c.2]).bind λy=>(rM_).map km_)=_;rw[Y,i1,OX,h2];rfl
def b8b:∀(cs:me_),Jo hV!=ψ k4!
 |[]=>rfl
 |c::cs=>by simp![MO,Jo,b8b cs,UG]
def jX(cs:me_)(h:rL_)(hl:aQ!<=1000):
  Fm t [.tup iy!,.tup mf_]=ψ u_:=by
 let hc:=a7z cs h;let hz:aQ!<=big:=by delta big;omega
 let fz:Hm_ 2 [ψ (.tup iy!),ψ (.tup mf_)]=sM! k3!:=by
  show(Dc! iy_ rM_)=_;rw[hc.2,MM hz,hc.1];rfl
 exact rH!;show ψ (!((((iy!).length:δ):Int)==(((cs.map λc=>D.fn c.1).length:δ):Int)))=_;rw[MJ,MJ,OH];rfl
def c4r(x:D)(r:d_):Cu (.tup (x::r)) bZ_ υ=DB_ r:=by
 let Y:HT.sIx (ay_+1) 0 bZ_=1:=by
  rfl
 let h2:HT.sIx (ay_+1) (ay_+1) υ=ay_+1:=by rfl
 simp[Cu,Ei,Y,h2]
def b4m(hk:rP_)(hp:rQ_)(he:Ng tQ_ tR! eN_=ψ v):Jj t [k7!]=ψ v:=by
 let i0:G5_ k! eN_=ψ T_:=by
  show Fs cl_ 0=_;show"#2";rw[p0!,fS_];rfl
 exact FB_ (sk ?_ (sk ?_ (sk ?_ (jS he))))
 .show ψ (((((ay_+1:δ):Int))==0))=_;rw[mh_]
 .show Qy tO! tO_ eN_=_;delta Qy Dr fT Jn BR;rw[i0];show ψ (!(GG! e7! k).isSome)=_;rw[hk];rfl
 .show Dr tQ! eN_=_;let e1:Ek k! dg_ Au eN_=DB_ r:=c4r _ _;let e2:Ux e7! aR_ eN_=DB_ fs:=by
   delta Ux;rw[i0];exact hk
  delta Dr fT;rw[xQ hp e1 e2];rfl
def jP(hk:rP_)(hp:rQ_)(hc:k≠"cut"):Jj t [k7!]=ψ u_:=by exact b4m hk hp (c0x ?_);show((Fs cl_ 0).bind λx=>AL x dh!)=_;delta Fs Kl;rw[p0!,fS_];show Ev_ (!(k==("cut":Str)))=_;rw[OL.mpr hc];rfl
def d4z(nd:t.nd)(h:DG d):Jj t [d]=ψ u_:=by
 let#[i1,i2,i3,i4,i5,i6,i7,i8,i9]:=d4t nd;let two:∀{a b:Addr×D} {P:mi_},P a->P b->∀c∈O!,P c:=λY h2 c hc=>by
  simp![MD,ML,RF]at hc;obtain rfl|rfl:=hc
  .exact Y
  .exact h2
 let three:∀{a b c:Addr×D} {P:mi_},P a->P b->P c->∀x∈eO_,P x:=λY h2 h3 c hc=>by
  simp![MD,ML,RF]at hc;obtain rfl|rfl|rfl:=hc
  .exact Y
  .exact h2
  .exact h3
 let one:∀{a:Addr×D} {P:mi_},P a->∀x∈[a],P x:=λY c hc=>by rw[NB.mp hc];exact Y
 cases h with
 |@put a b Y h2=>exact FD! (jX [eP!,(t.A7,b)] (two eP_ #[_,i2,a0h h2]) c!)
 |@move a b c Y h2 h3=>exact FD! (jX [eP!,(t.A0,b),(t.A7,c)] (three eP_ #[_,i1,pM h2] #[_,i2,a0h h3]) c!)
 |@drop a Y=>exact FD! (jX [eP!] (one eP_) c!)
 |@write a b s Y h2 h3 h4 h5=>exact FD! (jX [eP!,(t.A8,b),(t.A9,.str s)] (three eP_ #[_,i3,c4b h2] #[_,i4,d4w h3 h4 h5]) c!)
 |@cut a x y z m Y h2 h3 h4=>
  let hz:0<=z:=by let#[_,_,_,e,_,_,_,_,q,_]:=h2;cases e;exact q
  let hp:=jX [eP!,(t.B0,.tup kF!),(t.B1,.int m)] (three eP_ #[_,i5,tI h2] #[_,i6,a3o eL_ h3]) c!;exact b4m χ hp (b6a ah! (bT h4))
 |@set a p n Y h2 h3 h4=>exact FD! (jX [eP!,(t.B2,.int p),(t.B3,.int n)] (three eP_ #[_,i7,b4l h2 h3] #[_,i8,a3n h4]) c!)
 |@undo a Y=>exact FD! rT!
 |@redo a Y=>exact FD! rT!
def d8d(nd:t.nd)(Y:0<=h)(h2:h<16)(h3:1<=n)(h4:n<=2000)(h5:1<=m)(h6:m<=1000)(hd:DG d):Bc t [.tup [aF!,ar!,et!,d]]=ψ u_:=vA χ ah! (a4a (Kr_ h n) (a4a (Gh_ (a3o eL_ h5)) (Gh_ (d4z nd hd))))
def tY(h:lx!):Bd x=τ/\Io x<=1:=by let#[a,b,rfl,_]:=h;simp[Bd,Bj,Io,Ct]
def lQ(h:Ci x):Bd x=τ/\Io x<=1:=by
 obtain rfl|rfl|h:=h
 .simp[Bd,Io]
 .simp[Bd,Io]
 .exact tY h
def b9a(h:Lh x):Bd x=τ/\Io x<=1:=by
 obtain rfl|h:=h
 .simp[Bd,Io]
 .exact tY h
def b2j(h:Jp x):Bd x=τ/\Io x<=1:=by obtain rfl|⟨a,b,c,rfl,_⟩:=h<;>simp[Bd,Bj,Io,Ct]
def lD(s:Str):Bd aT!=τ/\Io aT!<=1:=mn!
def b0p(i:Int):Bd ae!=τ/\Io ae!<=1:=mn!
def iO(h:Bd d=τ/\Io d<=1)(k:rU_):Bj (d::xs)=τ/\Ct (d::xs)<=1:=by delta Bj Ct;rw[h.1,k.1];exact#[χ,Nat.max_le.mpr #[h.2,k.2]]
def pln:Bj []=τ/\Ct []<=1:=mn!
def tpl(h:rU_):Bd aO!=τ/\Io aO!<=2:=#[h.1,UT h.2]
def d8h(h:DG d):Bd d=τ/\Io d<=2:=by
 cases h with
 |put Y h2=>exact KJ_ (b9a h2) pln
 |move Y h2 h3=>exact KJ_ (lQ h2) (iO (b9a h3) pln)
 |drop Y=>exact DI! pln
 |write Y h2=>exact KJ_ (b2j h2) (iO c6! pln)
 |cut Y h2=>exact KJ_ (b2j (.inr h2)) rY!
 |set Y=>exact KJ_ (b0p _) rY!
 |undo Y=>exact tpl rZ_
 |redo Y=>exact tpl rZ_
end
nonrec def hs(os:h_)(h:Int):μ Op:=os.filter λo=>decide (o.h=h)
structure EO(l:h_):Prop where
 num:∀(i:δ) (o:Op),l[i]?=ψ o->o.n=bs_+1
 tim:l.Pairwise λa b=>a.tm<b.tm
structure BX(o:Op):Prop where
 hh:o.h=0\/o.h=5\/o.h=15\/o.h=6\/o.h=3
 t1:1<=o.tm
 t2:o.tm<=1000
 n1:1<=o.n
 n2:o.n<=2000
 dg:DG o.d
structure Hist(os:h_):Prop where
 ch:∀h,EO gn_
 op:∀o∈os,BX o
def EO.nil:EO []:=#[λi o e=>by simp at e,jO!]
def EO.snoc{o:Op}(h:EO l)(e:o.n=(S_:δ)+1)(ht:∀x∈l,x.tm<o.tm):EO (l++[o]):=by
 exact#[λi x hx=>?_,?_]
 .obtain c|c:=QX i S_
  .rw[PQ c]at hx;exact h.num i x hx
  .rw[OV c]at hx;obtain z|z:=Nat.eq_zero_or_pos (i - S_)
   .rw[z]at hx;simp at hx;subst hx;rw[e];omega
   .rw[PK aV_]at hx;rcases hx
 .rw[List.pairwise_append];exact#[h.tim,List.pairwise_singleton _ _,λa ha b J=>by rw[l0_];exact ht a ha]
def eE:hs (a++b) h=hs a h++hs b h:=by delta hs;rw[PF]
def pJ:hs [o] h=if o.h=h then[o]else[]:=by
 delta hs;by_cases c:o.h=h
 .rw[MM c,OD r3!];rfl
 .rw[MY c,OO r3!];rfl
def eW{os:h_}:o∈hs os h↔o∈os/\o.h=h:=by delta hs;rw[NT];simp
def Hist.nil:Hist []:=#[λh=>EO.nil,λo ho=>by exact(ML ho).elim]
def Hist.snoc{os:h_}{o:Op}(h:b5!)(hf:BX o)(e:o.n=r4_+1)(ht:∀x∈os,x.h=o.h->x.tm<o.tm):Hist (os++[o]):=by
 exact#[mo!,aC_]
 .rw[eE,pJ];by_cases c:o.h=k
  .rw[MM c];subst c;exact(h.ch _).snoc e λx hx=>ht x (eW.mp hx).1 (eW.mp hx).2
  .rw[MY c,NP];exact h.ch k
 .obtain z|z:=NA.mp hx
  .exact h.op x z
  .rw[eK!];exact hf
structure HW(i:Nat)(os:h_)(c t:m3!):Prop where
 hist:Hist os
 len:ax!=i
 q:∀h,c h=((gn_).length:δ)
 u:∀x∈os,x.tm<=t x.h
 b:∀h,0<=t h/\t h<=3*i
 z:∀x∈os,r5!/\CT x.d
def BX.ok(h:BX o):Ww o.v:=#[o.h,o.n,o.tm,o.d,χ,by obtain z|z|z|z:=h.hh<;>omega,by obtain z|z|z|z:=h.hh<;>omega,h.n1,h.n2,h.dg]
def wY(os:h_)(h:Int):(gn_).length<=ax!:=PJ _ _
def HW.step{os:h_}(hw:HW i os c t)(ha:a=0\/a=5\/a=15)(h0:0<=m)(hi:i<100)(hd:DG dd)(hz:CT dd):HW w_ r7! r7_ r8!:=by
 let hc:=hw.q a;let J:=hw.b a;let hl:=wY os a;rw[hw.len]at hl;exact#[hw.hist.snoc #[by show a=0\/a=5\/a=15\/a=6\/a=3;omega,by show 1<=t a+1+m / 3%3;omega,by show t a+1+m / 3%3<=1000;omega,by show 1<=c a+1;omega,by show c a+1<=2000;omega,hd] (by show c a+1=((hs os a).length:δ)+1;omega) (λx hx (hh:x.h=a)=>by let:=hw.u x hx;rw[hh]at this;show x.tm<t a+1+m / 3%3;omega),by rw[MH,hw.len];rfl,f6!,aC_,f6!,aC_]
 .show(if h=a then c a+1 else c h)=_;rw[eE,pJ,MH];by_cases e:h=a
  .rw[MM e,e,y!,hc];rfl
  .rw[MY e,MY (OB e),hw.q h];rfl
 .show _<=if x.h=a then t a+1+m / 3%3 else t x.h
  obtain z|z:=NA.mp hx
  .let:=hw.u x z;split
   .rename_i e;rw[e]at this;omega
   .show"#E"
  .rw[eK!,y!];exact QK _
 .show 0<=sb_/\sb_<=_;let:=hw.b h;split<;>omega
 .obtain z|z:=NA.mp hx
  .exact hw.z x z
  .rw[eK!];exact#[#[λe=>by let e:a=6:=e;omega,λe=>by let e:a=3:=e;omega],hz]
def b9t(hv:fv ρ=ψ d)(hx:sc!)(hl:p3!)(hk:Kl ds.length j=ψ k):Wa i fx fv ρ=DM_ x6_:=by delta Wa;rw[hv,hx,hl];show(po_).map _=_;rw[hk];rfl
def a3e(hx:sc!)(hl:p3!)(h:Fs ds j=ψ d):Lf i fx ρ=ψ d:=by delta Lf;rw[hx,hl];exact h
def c9c(h:bR_)(n:Ds d=τ):Nh f ρ=ψ d:=by delta Nh;rw[h];show(if Ds d=τ then _ else _)=_;rw[MM n]
def c1r:Nz (.int 7) a7!=Da_ (7*j):=χ
def b8g{os cs ts:d_}(em:Cf [fT_,.int (base+7*j)]=ψ dx_)(ed:Jw [fT_,.int (base+7*j+1),.lst os,.int 5]=ψ dd)(nd:Ds dd=τ)(z:m%3=kk)
  (hc:Fs cs kk=Da_ c)(ht:Fs ts kk=Da_ t)(kc:Kl cs.length kk=ψ k)(kt:Kl ts.length kk=ψ k)(b8:Fs se! kk=Da_ (c+1))(ht':Fs sf! kk=ψ se_)
  (ha:Fs [D.int 0,.int 5,.int 15] kk=Da_ a)(J:ax!<big):
  Tn [bZ!,cn_,ψ N,sM! os,sM! cs,sM! ts,ψ a7!,x7,x8,x9]=DM_ [bZ!,cn_,ψ N,ψ (.lst (os++[.tup [.int a,.int (c+1),.int (t+1+m / 3%3),dd]])),ψ (.lst se!),ψ (.lst sf!),ψ a7!,ψ dx_,ψ (.int kk),ψ dd]:=by
 exact(KQ_ (nQ (Jj_ sf_) em)).trans ?_;exact(KQ_ (Jm! fU_ z)).trans ?_;exact Ks! (b9t (K8! hc) χ χ kc);exact Ks! (b9t (aZ (K8! ht) (Lf! hV_) χ) χ χ kt);exact Ks! (eR (c9c (nQ (cL χ (cL (Fr! aZ sf_) (cL χ h4_))) ed) nd));exact c5k (a8w (cL (Jy_ ha) (cL (Dg_ a3e b8) (cL (Dg_ a3e ht') h4_))) χ) χ J
abbrev wE(ns:q_)(base:Int)(N:δ)(os:h_)(c t:m3!)(x6 x7 x8 x9:ac_):Ae:=[bZ!,cn_,ψ (.int N),ψ ms!,ψ (FR! c),ψ (FR! t),x6,x7,x8,x9]
def d6k{os:h_}(hw:HW j os c t)(hj:j<100):∃ke c' t' y7 y8 y9,Tn mt!=ψ sm!/\HW c6_ ke c' t':=by
 let ho:∀o∈os.map Op.v,Ww o:=λo ho=>by let#[x,hx,rfl]:=NC.mp ho;exact(hw.hist.op x hx).ok
 let hl:(ak_).length<=100:=by rw[MJ,hw.len];exact RY hj
 let J:(ak_).length<big:=PD hl a_;let#[m,em,m0,_]:=jL ns;let#[dd,ed,hd,hz]:=c9p ns (most:=5) ho (λo ho n tm d e=>by let#[x,hx,rfl]:=NC.mp ho;simp![Op.v,D.tup.injEq,QJ,D.int.injEq]at e;exact(hw.z x hx).1.1 e.1) hl a_ a_;let nd:=b1j hd;let go:∀{a k},(a=0\/a=5\/a=15)->Tn mt!=DM_ k->(∃y7 y8 y9,k=wE ns base N r7! r7_ r8! mt_ y7 y8 y9)->∃ke c' t' y7 y8 y9,Tn mt!=ψ sm!/\HW c6_ ke c' t':=λha e ⟨y7,y8,y9,ek⟩=>#[_,_,_,y7,y8,y9,ek▸e,hw.step ha m0 hj hd hz];let zk:m%3=0\/m%3=1\/m%3=2:=by omega
 obtain z|z|z:=zk
 .exact go N_ mu_ mv!
 .exact go b2_ mu_ mv!
 .exact go mv_ mu_ mv!
def b5a(ns:q_)(base:Int)(N:δ)(hN:N<=100):∃os:List Op,Qw [fT_,.int base,.int N]=ψ ms!/\ax!=N/\Hist os/\∀x∈os,x.tm<=3*N/\r5!/\CT x.d:=by
 let#[ρ',e,os,c,t,x6,x7,x8,x9,rfl,hw]:=wF (bnd:=Cb 6) (q:=Tn) (λi ρ=>∃os c t x6 x7 x8 x9,ρ=wE ns base N os c t x6 x7 x8 x9/\HW i os c t) fW_ 0 (wE ns base N [] (λ_=>0) (λ_=>0) υ υ υ υ) #[[],_,_,υ,υ,υ,υ,χ,.nil,χ,cA_,λx h=>lD!,λ_=>by simp,λx h=>lD!] (by
  rintro j d ρ hd ⟨os,c,t,x6,x7,x8,x9,rfl,hw⟩;let#[ar,rfl]:=b3u hd;rw[UB]at hw ⊢;let hj:j<100:=by omega
  let#[ke,c',t',y7,y8,y9,e,m7]:=d6k (ns:=ns) (base:=base) (N:=N) (x7:=x7) (x8:=x8) (x9:=x9) hw hj;exact#[_,_,χ,e,ke,c',t',_,_,_,_,χ,m7])
 rw[show 0+(fW_).length=N from(UB _).trans ((MJ _).trans PX)]at hw;exact#[os,gK χ ((lb!).trans ((lb!).trans (DQ! lb! (Js_ (b1a (a9e χ a!) e) lb_)))),hw.len,hw.hist,λx hx=>#[by let:=hw.u x hx;let:=(hw.b x.h).2;omega,hw.z x hx]]
def d7e(nd:t.nd)(h:BX o):Bc t cr!=ψ u_:=by
 let a1:0<=o.h/\o.h<16:=by obtain z|z|z|z:=h.hh<;>omega
 exact d8d nd a1.1 a1.2 h.n1 h.n2 h.t1 h.t2 h.dg
def c1n(hf:∀a b,f a=f b->a.h=b.h):∀(os:h_),(∀h,((gn_).map f).Nodup)->(os.map f).Nodup
 |[],_=>QC
 |o::os,H=>by
  let sub:∀h,(gn_).Sublist (hs f7_ h):=λh=>by delta hs;exact(List.sublist_cons_self o os).filter _
  rw[MO,NJ];exact#[co!,c1n hf os λh=>((sub h).map f).nodup (H h)];let#[x,hx,e]:=NC.mp z;let hh:=hf _ _ e;let H1:=H o.h;let:I0_ f7_=o::I0_ os:=by delta hs;rw[OD c!]
  rw[this,MO,NJ]at H1;exact H1.1 (NC.mpr #[x,eW.mpr #[hx,hh],e])
def Hist.names{os:h_}(h:b5!):(lE!).Nodup:=by
 exact c1n sr! os λk=>?_
 .show"#G";exact e.1
 .let hn:=(h.ch k).num;rw[SY,XR,TJ];intro i j hi hj vk e;let e1:=hn i _ (ND hi);let e2:=hn j _ (ND hj);show"#G";omega
def Hist.keys{os:h_}(h:b5!):(HY_ os.map).Nodup:=by
 exact c1n sr! os λk=>?_
 .simp only[Op.key,Prod.mk.injEq]at e;exact e.2
 .rw[SY,XR];exact(h.ch k).tim.imp λ{a b} lq e=>?_;simp![Op.key,Prod.mk.injEq]at e;omega
def iG(h:ci_)(hd:Io d<=40):Eb d d=ψ C_:=by delta Eb;rw[h,kY d h,NG hd];rfl
def a9q(o:Op):FQ! cz_=ψ ij_:=by rfl
def fR:∀{ds:d_},(∀d∈ds,Bd d=τ)->Bj ds=τ
 |[],_=>by rfl
 |d::ds,h=>by
  delta Bj;rw[h d MB,fR λx hx=>h x aT_];rfl
def gY:∀{ds:d_},(∀d∈ds,Io d<=n)->Ct ds<=n
 |[],_=>by simp[Ct]
 |d::ds,h=>by
  delta Ct;let Y:=h d MB;let h2:=gY λx hx=>h x (LY d hx);omega
def iW{o:Op}(h:f4!):Bd o.v=τ/\Io o.v<=5:=by
 let#[Y,h2]:=d8h h;show"!i"
 .show Bj lu_=τ;exact fR λd hd=>?_;simp![MD,ML,RF]at hd;obtain rfl|rfl|rfl|rfl:=hd
  .rfl
  .rfl
  .rfl
  .exact Y
 .show Ct lu_+1<=5;let:Ct lu_<=2:=gY λd hd=>by
   simp![MD,ML,RF]at hd;obtain rfl|rfl|rfl|rfl:=hd
   .simp[Io]
   .simp[Io]
   .simp[Io]
   .exact h2
  omega
nonrec def hF(yy:Int)(ta wa:yJ!)(out:D):μ ck!:=[("ours",.int yy),("taken",.fn ta),("waiting",.fn wa),("outline",out)]
section
variable{out:D}
def hF1:Es! ss_ c9!=ψ (D.int yy):=by kernel_rfl
def hF2:Es! su! c9!=Ev! ta:=by kernel_rfl
def hF3:Es! st_ c9!=Ev! wa:=by kernel_rfl
def hF4:Es! my_ c9!=ψ out:=by kernel_rfl
def hM1:Je! "have" c9!=none:=by kernel_rfl
def hP1:Hs ss_ (.int yy) []=[eW!]:=by kernel_rfl
def hP2:Hs su! (.fn ta) [eW!]=iH!:=by kernel_rfl
def hP3:Hs st_ eW_ iH!=iH_:=by kernel_rfl
def hP4:Hs my_ .non iH_=hF yy ta wa .non:=by kernel_rfl
def hP5:Hs my_ o2 c9!=hF yy ta wa o2:=by kernel_rfl
end
structure As(t:Az)(M:Mh)(yy:Int)(a ta wa:yJ!)(Wt:h_)(out:D)(S:h_)(kl:q_)(ca:bJ_):Prop where
 ob:M a=ψ (Gk! c9!)
 tk:∃ep,M ta=Kh! gs!
 wt:M wa=sM! mA!
 cl:∀h∈kl,M gr_=JN_ eX! Op.v
 nk:kl.Nodup
 mem:∀h,h∈kl↔hs S h≠[]
 cw:∀h∈kl,ca h≠wa
 ci:∀h∈kl,∀h'∈kl,ca h=ca h'->h=h'
 len:iI_<=ae_
def Yp(a ta:yJ!)(kl:q_)(ca:bJ_)(b:yJ!):Prop:=b=a\/b=ta\/∃h∈kl,b=ca h
def HQ(a ta:yJ!)(M:Mh)(kl:q_)(ca:bJ_)(M':Mh)(ae:q_)(af:bJ_):Prop:=∀b,M b≠υ->¬Fg_ a->M' b=M b/\¬Yp a ta ae af b
def iB{g:Int->D}:∀{kl:q_} {x:Int},kget (kl.map λh=>(D.int h,g h)) (.int x)=if x∈kl then ψ (g x)else υ
 |[],x=>by rfl
 |k::kl,x=>by
  rw[MO];delta kget;by_cases e:k=x
  .subst e;simp
  .rw[MY λz=>e mA_,iB];simp[OB e]
section
variable{t:Az}{out:D}
def As.nob(hA:J_)(hm:GG! c9! m=υ):Da t.B5 m M bz!:=by show(match M a with|some (.obj C' fs)=>C'=t.B5/\fs.lookup m=υ|_=>False);rw[hA.ob];exact#[χ,hm]
def As.nol(hA:J_)(hh:h∉kl):hs S h=[]:=TM λz=>hh ((mB!).mpr z)
def As.keepO(hA:J_)(k:∀b,Fg_ a\/b=wa->M' b=M b):Jf! M' Wt:=by let#[ep,ht]:=hA.tk;exact{hA with ob:=(k a mB_).trans hA.ob,tk:=#[ep,(k ta (.inl b2_)).trans ht],wt:=(k wa ed!).trans hA.wt,cl:=λh hh=>(k _ (.inl (Dt_ #[h,hh,χ]))).trans iJ_}
def As.live(hA:J_)(h:Fg_ a\/b=wa):M b≠none:=by
 let#[ep,ht]:=hA.tk;rcases h with(h|h|⟨x,hx,h⟩)|h
 .rw[h,hA.ob];exact TW _
 .rw[h,ht];exact TW _
 .rw[h,hA.cl x hx];exact TW _
 .rw[h,hA.wt];exact TW _
def As.keep(hA:J_)(k:∀b,M b≠υ->M' b=M b):Jf! M' Wt:=hA.keepO λb h=>k b (hA.live h)
def uG(hA:J_):Pr gW! [L_,aF!] M mC_:=λK hK=>by
 show"#,";exact j_;by_cases c:h∈kl
 .let hl:HZ_ gr_=ψ mC_:=by
   show((Kv M (.fn gr_)).map λxs=>D.int j!)=_;simp![Kv,Hq_ c,UG,MJ]
  exact EJ_ MM
 .let hl:Pe M [lY!]=ψ mC_:=by rw[hA.nol c];rfl
  exact EJ_ MY
def lB{o:Op}(hA:J_):Ef_ Dg cx_ (.bl (decide (o.n<=cy!))):=λK hK=>by
 exact j_;exact cX (dQ mG! sB_ χ) hK
def lR{o:Op}(hA:J_):Ef_ Do cx_ (.bl (o.n==cy!+1)):=λK hK=>by
 exact j_;exact cX (dQ mG! (Hr! sB_) (qV _ _)) hK
nonrec def lt(S:h_)(h:Int):Int:=((eX!).getLast?.map Op.tm).getD 0
def c8l(h:xs.getLast?=ψ v):Fs xs (-1)=ψ v:=by
 let hl:0<j!:=by cases xs with|nil=>cases h|cons a l=>simp
 show"#2";rw[d9_,aN_];show xs[((-1:Int)+j!).toNat]?=_;rw[show((-1:Int)+xs.length).toNat=xs.length - 1 by omega,<-List.getLast?_eq_getElem?];exact h
def lO(hA:J_):Pr gX! [L_,aF!] M (.int (lt S h)):=λK hK=>by
 show"#,";exact j_;let hv:=gR (dQ (g:=λ_=>Av) (ρ:=[t_,iM_]) (fA dU! mF_ gu! (uG hA)) (aP (f:=fC O_) χ) (qV _ _));by_cases c:hs S h=[]
 .rw[c]at hv;exact oZ hv (cX b_ ?_);delta lt at hK;rw[c]at hK;exact hK
 .let hl:=WW.mpr c;rw[show((sz_:Int)==0)=θ from by rw[OL];omega]at hv;exact eQ hv ?_;let hk:=(mB!).mpr c;obtain⟨o,ho⟩:∃o,(hs S h).getLast?=ψ o:=by cases e:(eX!).getLast? with|some o=>exact#[o,χ]|none=>exact Df_ (VM.mp e) c
  let i1:=E9! ht (by rw[iB,ba!]);let i2:Cc M (.fn gr_) (.int (-1))=ψ o.v:=by
   simp![Cc,Hq_ hk];exact c8l (by rw[List.getLast?_map,ho];rfl)
  let e:lt S h=o.tm:=by delta lt;rw[ho];rfl
  rw[e]at hK;exact cX (dQ (dQ (dQ gt_ b_ i1) b_ i2) b_ (a9q o)) hK
def zN(hy:fy ρ=Da_ yy)(hR:∀a ta wa M',KE! M'->eC_->sE_->R bz! M'):GS_ (Kg! fy) ρ M R:=by
 delta Gh Ab Ad;rw[dA hy];exact#[χ,λa ha=>j_];let L:HL M (mup M a (.obj t.B5 [])) [sG!]:=HL.new #[sH!,QC,sH!,gq!] ha;exact mM ?_;rw[b4_];exact iF χ (L.cell sG! c!) a_ hP1 ?_
 replace L:=L.put (u:=[]) (c:=Gk! [eW!])
 exact mM λta hta=>?_
 replace L:=L.new (c:=if_) hta
 exact En! [eW!] Bz! hP2 ?_
 replace L:=L.put (u:=[_]) (c:=Gk! iH!)
 exact mM #[P!,λwa hwa=>?_]
 replace L:=L.new (c:=lY!) hwa
 exact En! iH! Bz_ hP3 ?_
 replace L:=L.put (u:=[_,_]) (c:=Gk! iH_)
 exact pS ?_;rw[b4_];exact En! iH_ BA! hP4 ?_
 replace L:=L.put (c:=Gk! sH_)
 exact#[χ,hR a ta wa _ #[L.cell sI! c!,#[0,L.cell sI_ c!],L.cell (wa,.lst []) c!,mJ_,QC,λh=>by simp[hs],mJ_,mJ_,MZ _] L.kp λb J=>?_];rcases J with(h|h|⟨_,h,_⟩)|h
 .rw[h];exact L.fr sI! c!
 .rw[h];exact L.fr sI_ c!
 .cases h
 .rw[h];exact L.fr (wa,.lst []) c!
def cV(hp:bG_):Dl M B!=ψ lv_:=by simp[Dl,hp]
def gL(hp:qR!):Lg M B!=ψ (p,xs):=by simp[Lg,hp]
def KY(fa:n_)(ρ:Ae)(d:D)(M:Mh)(R:P_):Prop:=Dq (Lg M d) λ_=>wl fa ρ M λv M2=>Dq qA_ λq=>qz_<big/\D5_ A2_
def c6l(h:fo ρ M λd M1=>KY fa ρ d M1 λ_ M2=>q ρ M2 R):DL! (Bg (Pv fo ie_)) q:=h
def a8j(hp:qR!)(hf:f ρ=ψ v)(hl:j!<big)(k:D5_ (KW_ p (xs++[v]))):KY f ρ B! M R:=by exact dX ?_;rw[dA hf,gL hp];exact dX #[hl,k]
def c6h(ho:lF_)(Y:ro_)(hp:bG_)(hk:aU!)(hl:cY_)
  (ah:∀q v,M q=υ->Et_ y=ψ v->K v gv!)(new:∀q,M q=υ->Et_ y=υ->K cZ! (mup gv! p (.dct (Br h1 y cZ!) cn!))):Jr fo ie_ (Rv Ad) ρ M K:=by
 exact ho _ ?_;rw[cV hp];exact dX ?_;rw[dA Y];exact#[P!,eD!];let pq:=eB sJ_ hq;show HT_ gv! B! _;rw[cV (Jm_ pq hp)];exact dX ?_;rw[hk];exact dX #[hl,?_];cases e:Et_ y with
 |some v=>exact ah q v hq e
 |none=>exact new q hq e
def lA(hA:J_)(hS:eY_)(hR:∀M' ae af,Jl! Wt iO!->Hr_ M' ae af->D5_ M'):Hs! Ib:=by
 let#[ep,ht]:=hA.tk;exact j_;exact c6l ?_;let i0:=mP o;let pj:iI_<64:=PD hA.len hS;let hlS:(dT_).length<64:=PD (wY S o.h) hS;let at_:a≠ta:=λz=>by let:=hA.ob;rw[z,ht]at this;rcases this
 let aw:a≠wa:=λz=>by let:=hA.ob;rw[z,hA.wt]at this;rcases this
 let tw:ta≠wa:=λz=>by rw[z,hA.wt]at ht;rcases ht
 let cA:∀h∈kl,ca h≠a:=λh hh z=>by let:=Hq_ hh;rw[z,hA.ob]at this;rcases this
 let cT:∀h∈kl,ca h≠ta:=λh hh z=>by let:=Hq_ hh;rw[z,ht]at this;rcases this
 exact c6h gt_ i0 ht χ ge! (λq v hq e=>?_) (λq hq e=>?_)
 .let aq:=eB mK_ hq;let tq:=eB mL_ hq;let wq:=eB mL! hq;let cq:∀h∈kl,ca h≠q:=λh hh=>eB mM! hq;rw[iB]at e;let c:o.h∈kl:=by
   by_cases c:o.h∈kl
   .exact c
   .rw[MY c]at e;rcases e
  rw[MM c]at e;rcases e;exact a8j ((mup_ne (cq _ c)).trans (hA.cl _ c)) rfl ge! ?_;generalize e2:mup gv! (ca o.h) sM_=M2;let m2:∀b,b≠q->b≠ca o.h->M2 b=M b:=λb Y h2=>by rw[<-e2,kx!,fG_]
  let m2c:M2 (ca o.h)=ψ sM_:=by rw[<-e2];exact mup_same
  exact pS ?_;rw[b4_];exact Fn_ (OB (cA _ c));exact hR _ kl ca #[mup_same,#[ep,?_],?_,mM_,hA.nk,f6!,hA.cw,hA.ci,?_] λb J ho=>JR! (Dt_ #[_,c,z]) ho
  .rw[sR!,m2 ta tq (OB (cT _ c))];exact ht
  .rw[sR_,m2 wa wq (OB (hA.cw _ c))];exact hA.wt
  .rw[Dw! (cA h hh),eE,pJ];by_cases z:o.h=h
   .rw[MM z,<-z,m2c,NM];rfl
   .rw[MY z,NP,m2 _ (cq h hh) λy=>z (hA.ci _ hh _ c y).symm];exact Hq_ hh
  .rw[eE,pJ];by_cases z:o.h=h
   .rw[MM z];subst z;simp[c]
   .rw[MY z,NP];exact hA.mem h
  .rw[MH];let:=hA.len;omega
 .let aq:=eB mK_ hq;let tq:=eB mL_ hq;let wq:=eB mL! hq;let cq:∀h∈kl,ca h≠q:=λh hh=>eB mM! hq;rw[iB]at e;let c:o.h∉kl:=by
   by_cases c:o.h∈kl
   .rw[MM c]at e;rcases e
   .exact c
  let p8:Br gs! dI_ cZ!=gs!++sS_:=kU (λz=>by
   rw[NY]at z;let#[x,hx,ex]:=NC.mp z;exact c (by rw[<-D.int.inj ex];exact hx))
  rw[p8];exact a8j ((mup_ne (OB tq)).trans mup_same) rfl a_ ?_;generalize e2:mup (mup gv! ta sT!) q (.lst ([]++cr!))=M2;let m2:∀b,b≠q->b≠ta->M2 b=M b:=λb Y h2=>by rw[<-e2,fG_,kx!,fG_]
  let m2q:M2 q=sM! cr!:=by rw[<-e2];exact mup_same
  let m2t:M2 ta=ψ sT!:=by rw[<-e2,Dw! tq];exact mup_same
  exact pS ?_;rw[b4_];exact Fn_ at_;let nc:∀h∈kl,h≠o.h:=λh hh z=>c (z▸hh);let zg:=hA.nol c;exact hR _ (kl++[o.h]) (λh=>if h=o.h then q else ca h) #[mup_same,#[ep+1,?_],?_,mM_,?_,f6!,mM_,λh hh h' pv ee=>?_,?_] λb J ho=>JR! (.inr dq_) co!
  .rw[sR!,m2t,NM];congr 3
   .apply OQ;intro h hh;rw[MY (nc h hh)]
   .show _=[(D.int o.h,D.fn (if o.h=o.h then q else ca o.h))];rw[y!]
  .rw[sR_,m2 wa wq (OB tw)];exact hA.wt
  .show mup M2 a _ iP_=_;by_cases z:h=o.h
   .rw[MM z,Dw! (OB aq),m2q,z,eE,pJ,y!,zg];rfl
   .let pv:h∈kl:=(mP_).resolve_right λy=>z iQ!;rw[MY z,Dw! (cA h pv),m2 _ (cq h pv) (cT h pv),eE,pJ,MY (OB z),NP];exact Hq_ pv
  .rw[NU];exact#[hA.nk,rr!,λx hx y hy=>by rw[NB.mp hy];exact nc x hx]
  .rw[eE,pJ,NA,NB];by_cases z:o.h=h
   .rw[MM z];simp[z]
   .rw[MY z,NP,<-hA.mem h];simp[OB z]
  .show iP_≠wa;by_cases z:h=o.h
   .rw[MM z];exact OB wq
   .rw[MY z];exact hA.cw h ((mP_).resolve_right λy=>z iQ!)
  .let g:∀x,x∈kl++[o.h]->x≠o.h->x∈kl:=λx hx z=>(oX_).resolve_right λy=>z iQ!;let rf:iP_=(if h'=o.h then q else ca h'):=ee;by_cases z:h=o.h
   .by_cases z':h'=o.h
    .rw[z,z']
    .rw[MM z,MY z']at rf;exact Df_ rf.symm (cq h' (g h' pv z'))
   .by_cases z':h'=o.h
    .rw[MY z,MM z']at rf;exact Df_ rf (cq h (g h hh z))
    .rw[MY z,MY z']at rf;exact hA.ci h (g h hh z) h' (g h' pv z') rf
  .rw[MH,MH];let:=hA.len;simp;omega
  .obtain z|z|⟨h,hh,e⟩:=z
   .exact ho dq_
   .exact ho (.inr dq_)
   .let e:b=iP_:=e;by_cases z:h=o.h
    .rw[MM z]at e;exact eB J hq e
    .rw[MY z]at e;exact ho (Dt_ #[h,(mP_).resolve_right λy=>z iQ!,e])
def Hist.next{os:h_}(h:Hist (S++o::os)):o.n=cy!+1:=by
 let:=(h.ch o.h).num (dT_).length o;rw[eE]at this;let e:I0_ f7_=o::I0_ os:=by delta hs;rw[OD c!]
 rw[e]at this;exact this (by rw[OV u!];simp)
def xC{f:WE}{q:WS}(h:y4_):DL! (Bg f) q:=h
def c6m(h:q1 ρ M λr M1=>match r with|.nx ap=>q2 ap M1 R|.rt d=>R ac! M1):K3_ q1:=h
def b8k{n:δ}{q q2:WS}(h:Bz ft q n ρ M λr M1=>match r with|.nx ap=>q2 ap M1 R|.rt d=>R ac! M1):K3_ (Iw ft q):=#[n,h]
def sP{rest:Ae}{v f:α->D}(cp:ck M)(xs:X!):(∀x∈xs,Rh ft sX! M (p x)/\(p x=τ->Pu fe sX! M (f x)))->
  R ((xs.filter p).map f) M->On m_ ck ft fe (none::rest) (xs.map v) M R:=by
 induction xs generalizing R with
 |nil=>intro _ k;exact#[cp,k]
 |cons x xs ih=>
  intro h k;exact#[cp,dX ?_];let#[J,hp]:=h x MB;exact J _ ?_;let i1:=λy hy=>h y (LY x hy);cases c:p x with
  |true=>
   rw[OD c]at k;exact hp c _ (ih i1 k)
  |false=>
   rw[OO (by rw[c];decide)]at k;exact ih i1 k
def As.setW(hA:J_):Jf! (KW_ wa (W'.map Op.v)) W':=by
 let#[ep,ht]:=hA.tk;let aw:a≠wa:=λz=>by let:=hA.ob;rw[z,hA.wt]at this;cases this
 let tw:ta≠wa:=λz=>by rw[z,hA.wt]at ht;cases ht
 exact{hA with ob:=Jm_ aw hA.ob,tk:=#[ep,(Dw! tw).trans ht],wt:=mup_same,cl:=λh hh=>Jm_ (hA.cw h hh) iJ_}
def Mp(a ta wa:yJ!)(M:Mh)(kl:q_)(ca:bJ_)(M':Mh)(ae:q_)(af:bJ_):Prop:=∀b,M b≠υ->¬(Yp a ta kl ca b\/b=wa)->M' b=M b/\¬sZ!
def Mp.rfl:KE_ M:=λb _ ho=>#[Eq.refl _,ho]
def Mp.trans{M1 M2:Mh}(Y:AW_ M1 wk wm)(h2:Mp a ta wa M1 wk wm M2 jl jm):AW_ M2 jl jm:=λb J ho=>by
 let#[e,o]:=Y b J ho;let#[e2,o2]:=h2 b sZ_ o;exact#[e2.trans e,o2]
def HQ.w{M1:Mh}(h:Hr_ M1 wk wm):AW_ M1 wk wm:=λb J ho=>by
 let#[e,o]:=h b J λz=>ho dq_
 exact#[e,λz=>z.elim o λz=>ho eh_]
def Mp.set{c:Dd}:KE_ (mup M wa c):=λb _ ho=>#[mup_ne λz=>ho eh_,ho]
def Mp.of{M1:Mh}(k:mU!):KE_ M1:=λb J ho=>#[k b J,ho]
def AK(S:h_)(o:Op):Bool:=o.n==mU_+1
def JA(t:Az):WE:=HL_ 1
def xA(h0:Aa 0 ρ=ψ bz!)(hc:Ra 1 [0] ρ=[υ,t_])(hA:J_)(hl:aI_<64):Dj! (JA t) s1_:=λK hK=>by
 delta JA Be Ca;exact dM (aP h0) hA.ob hF3 _ ?_;show s2!;rw[hA.wt];exact db!;rw[hc];exact sP hA.wt Wt (λo _=>#[gR (Fh! (lR hA)),mV!]) hK
def KL(t:Az):WS:=Ag u1_
 (Ag u2_
 (Ag (Oj 1 fe_)
 (An 2 (JA t))))
def LV:Ae->ι Bool:=fT u1!
def d6a{i:δ}{f:n_}{x b:Int}(hi:ρ[i]?=ψ (Da_ x))(hf:f ρ=Da_ b)(k:R (JE_ (Da_ (x+b))) M):Oj i (wl f) ρ M R:=by delta Oj;rw[hi];show wl f ρ M _;rw[dA hf];exact k
def a9p{l:h_}(h:∀o∈l,DG o.d):Bj c0_=τ/\Ct c0_<=40:=by
 exact#[fR λd hd=>?_,NR (gY (n:=5) λd hd=>?_) a_]
 .show"!O";exact(iW (h o ho)).1
 .show"!O";exact(iW (h o ho)).2
def d3r{h:Int}{w:Op}(hH:Hist (S++w::W))(hw:∀x∈w::W,x.h=h):(w::W).filter (AK S)=[w]:=by let e:=hH.next;let c:AK S w=true:=PP.mpr e;rw[OD c,OI.mpr λx hx z=>?_];let z:=PP.mp z;let Y:=hw w MB;let h2:=hw x aT_;let nd:=hH.names;rw[NM,NU,MO,NJ]at nd;exact nd.2.1.1 (NC.mpr #[x,hx,?_]);show D.tup iT_=D.tup [.int w.h,.int w.n];rw[z,e,Y,h2]
def d0j{h:Int}:∀(Wt:h_) (k:Int) (out:D) (S:h_) (kl:q_) (ca:bJ_) (M:Mh) (R:r_),Jf! M Wt->Hist e1!->(∀x∈Wt,x.h=h)->(e1!).length<63->
  (∀M' ae af dh d,xw_ M' [] dh e1! ae af->Jh_ M'->(out=.non->dh=.non)->JQ_ [t_,ψ (.int (k+dZ_)),d])->
  Bz (Cp LV) (KL t) (aI_+1) [t_,b7_,ψ s1_] M R:=by
 intro Wt
 induction Wt with
 |nil=>
  intro k out S kl ca M R hA _ _ _ hR;delta Bz;exact G6_ jE;let:=hR M kl ca out (ψ eI!) (AT! NP hA) .rfl id;simpa using this
 |cons w Wt ih=>
  intro k out S kl ca M R hA hH hw hl hR;let ew:=d3r hH hw;let e1:S++w::Wt=S++[w]++Wt:=by simp
  let dg:∀o∈w::Wt,DG o.d:=λo ho=>(hH.op o d0_).dg;rw[MH,MX]at hl;rw[ew];delta Bz;exact G6_ jE;show KL t s7_ M _;let ix:G5_ D_ s7_=ψ w.v:=χ;let#[n1,n2]:=a9p dg;let n3:=(iW (dg w MB)).1;exact xC ?_;delta Xa;exact EF_ hF3;rw[iV!];exact dX ?_;rw[dA ix,iV!];exact dX #[n3,n1,n2,?_];let e0:((w::Wt).map Op.v).findIdx? (λx=>Dv x w.v)=ψ 0:=by
   rw[MO,XG,kY _ n3];rfl
  rw[e0];exact dX ?_;let gq:Jf! (KW_ wa mA!) Wt:=hA.setW;exact xC (iU χ ix (lA gq a! λM2 jl jm rg d9=>?_));exact c6m (d6a χ χ ?_);exact Dg_ xA rg a! _ ?_;exact ih W! .non (S++[w]) jl jm M2 R rg (Do! e1 hH) (GN_ hw aT_) (by rw[<-e1,MH,MX];omega) λM' ae af dh d az kp hz=>?_;let:=hR M' ae af dh d (AT! e1 az) ((Mp.set.trans d9.w).trans kp) λ_=>hz χ;rw[MX]at this;rw[show k+1+(Wt.length:δ)=k+((Wt.length+1:δ):Int)by omega];show"#E"
def d5z{h:Int}(hA:iW!)(hH:Hist e1!)(hw:tc_)(hl:(e1!).length<63)(hR:∀M' ae af,Jk_ e1!->Jh_ M'->R mY! M'):Ew t [L_] M R:=by
 let mj:aI_<63:=by rw[MH]at hl;omega
 exact j_;exact fG b_ ?_;exact I1! a!;exact b8k (d0j Wt 0 .non S kl ca M _ hA hH hw hl λM' ae af dh d az kp hz=>?_);rw[hz χ]at az;exact cX (aP (by show ψ (D.int (0+dZ_))=_;rw[Int.zero_add])) (Ez! kp)
def d0i(hA:J_)(hl:aI_<64)(hn:HM! S=[]):Ef_ Ew [L_] O_:=λK hK=>by
 exact j_;exact fG b_ ?_;exact I1! hl;rw[hn];exact b8k (n:=1) ?_;delta Bz;exact G6_ jE;rw[MY a_];exact cX b_ hK
def a9a(h0:lB!)(Y:ro_)(h2:fb ρ=ψ z)(hp:bG_)(hk:aU!)(hl:cY_)(hn:y∉h1.map d!)(hK:K z (FX_ (.dct (h1++[(y,z)]) cn!))):Jr cU_ ie_ lz! ρ M K:=by delta Jr;rw[dA h0,cV hp];exact dX ?_;rw[dA Y,dA h2,cV hp,hk];exact dX (dX #[hl,?_]);rw[qK hn,kU hn];exact hK
def c1l(o:Op):Ak o.nm O_=ψ dI_:=by rfl
def LI(t:Az):WS:=Ag gT_
 (Ag uN_
 uP!)
structure Nx(yy:Int)(S:h_)(o:Op):Prop where
 f:BX o
 y:o.h≠yy
 n:cy!<o.n
 t:lt S o.h<o.tm
def b3o{M0:Mh}(hA:tf!)(h0:M0 p=υ):∀(os dn:h_) (x1:D) (y3 y4 y5:ac_) (ep:δ) (M:Mh) (R:r_),tg!->(∀o∈os,Nx yy S o)->((dn++os).map Op.nm).Nodup->(dn++os).length<64->M p=Kh! tg_->
  (∀M' bm zl zm y5',M' p=BS! ((dn++os).map λo=>iX!) bm->th!->JQ_ [t_,ad!,as!,zl,zm,y5'])->
  Ga R_ N! (LI t) ak_ [t_,ad!,as!,y3,y4,y5] M R
 |[],dn,x1,y3,y4,y5,ep,M,R,fr,_,_,_,hp,hR=>#[ο,hR M ep y3 y4 y5 (AT! NP hp) fr]
 |o::os,dn,x1,y3,y4,y5,ep,M,R,fr,hf,nd,hl,hp,hR=>by
  exact am_;let ho:=hf o MB;let az:=Hs_ fr;let e:dn++o::os=dn++[o]++os:=by simp
  let es:=d0u o;exact fG (aP es) ?_;let Y:ET! uM_ m0!:=by
   let:=gR (cS (ρ:=m0!) dU! (aP (f:=Aa 3) χ) (lB az));rw[MU (by let:=ho.n;omega)]at this;show"#E"
  let h2:ET! uN! m0!:=by
   exact gR (dQ (aP (c1l o)) (dM b_ az.ob hF1) ?_);let:(o.h==yy)=false:=OL.mpr ho.y;rw[qV,this]
  exact pA Y (pA h2 ?_);let hnn:o.nm∉Dj_ tg_:=λz=>by
   rw[NY]at z;rw[NM,NU]at nd;exact nd.2.2 o.nm z o.nm c! χ
  exact Ig_ a9a χ hp χ (by rw[MJ];rw[MH]at hl;delta big;omega) hnn ?_;let h3:fT uO_ tj!=ψ false:=by
   let#[n1,n2]:=iW ho.f.dg;let:f2 Eb aa_ Y! tj!=ψ C_:=iG n1 a!;show"!_"
  exact pA (jE h3) ?_;exact b3o hA h0 os gB_ x1 eB! (ψ o.nm) eB! cn! _ R tk! m3_ (Do! e nd) m4! (by rw[mup_same,NM];rfl) λM' bm z3 z4 z5 g1 g2=>?_;exact hR M' bm z3 z4 z5 (AT! e g1) g2
def b0c(hA:J_)(hN:∀o∈Wt++ms,Nx yy S o)(nn:((e2_).map Op.nm).Nodup)(hl:m4_)
  (hR:∀M' p ep,M p=υ->M' p=Kh! ((e2_).map λo=>iX!)->eC_->R B! M'):Gk_ Ec:=by
 exact j_;intro p hp;let fr:∀b,M b≠υ->FX_ eB_ b=M b:=λb J=>Kd! J hp;let gq:=Hs_ fr;delta Ag Cs Ca;let vz:Lw eC! eW_ (.lst d1_)=JN_ e2_ Op.v:=by
  simp![Lw,gq.wt];rw[MM (by rw[MH]at hl;rw[MJ,MJ];delta big;omega),NM]
 exact I1_ (dM b_ gq.ob hF3) vz;exact b3o hA hp e2_ [] _ υ υ υ 0 _ _ fr hN (Di_ nn) tl_ mup_same λM' bm y3 y4 y5 g1 g2=>cX b_ (hR M' p bm hp g1 g2)
def LU(t:Az):WS:=Ag uR!
 (Ag uT_
 uW!)
def d6y(h0:lB!)(Y:fA_)(h2:f ρ=ψ v)(hp:bG_)(hk:aU!)(hl:cY_)(k':R ab_ f6_):HB! cU_ f R:=by delta Bv;rw[dA h2,dA h0,dA Y,jD hp hk hl];exact k'
def b4q{M0:Mh}(hA:tf!)(gu:M0 p=KD! h1)(h0:M0 q=υ):∀(qs:h_) (m8:q!) (ep:δ) (y3 y4:ac_) (M:Mh) (R:r_),tg!->(∀o∈qs,kget h1 o.nm=ψ o.v/\Nx yy S o)->M q=Kh! m8->
  qs.Pairwise (λx y=>x.h=y.h->x.tm<y.tm)->(∀o∈qs,∀v,kget m8 dI_=ψ v->∃m,v=.int m/\m<o.tm)->m8.length+qs.length<1000->
  (∀M' zl zm,th!->JQ_ [t_,as!,b1!,zl,zm])->
  Ga R_ N! (LU t) (qs.map Op.nm) [t_,as!,b1!,y3,y4] M R
 |[],m8,ep,y3,y4,M,R,fr,_,_,_,_,_,hR=>#[ο,hR M y3 y4 fr]
 |o::qs,m8,ep,y3,y4,M,R,fr,hk,hq,pw,ht,hl,hR=>by
  exact am_;let az:=Hs_ fr;let hp:=(fr p (Eu! gu)).trans gu;let#[hko,ho]:=hk o MB;rw[QA]at pw;simp![MX]at hl;let i1:=E9! hp hko;let i2:=a9q o;exact fG tm_ ?_;let ix:=c1l o;obtain⟨m,em,hm⟩:∃m:Int,(kget m8 (.int o.h)).getD (.int (lt S o.h))=.int m/\m<o.tm:=by
   cases e:kget m8 dI_ with
   |none=>exact (F3! ho.t)
   |some v=>
    let#[m,e1,e2]:=ht o MB v e;exact#[m,e1,e2]
  let hc:ET! uT! [t_,as!,b1!,lA!,ψ ij_]:=by
   exact gR (dQ b_ (pX b_ (aP ix) (cS b_ (aP ix) (lO az)) hq χ em) ?_);show D7! (o.tm<=m)=_;rw[MU a!]
  exact eQ hc ?_;exact d6y χ ix χ hq χ a2_ ?_;exact b4q hA gu h0 qs _ _ (ψ o.nm) (ψ ij_) _ R tk! tq! mup_same pw.2 (λx hx v hv=>?_) (by let:=Ie! m8 dI_ ij_;omega) hR;by_cases c:o.h=x.h
  .rw[<-c,jU]at hv;cases hv;exact#[_,χ,pw.1 x hx c]
  .rw[oX λz=>c mA_]at hv;exact ht x aT_ v hv
def b4a{g:Op->D}:∀{l:h_},(gh!).Nodup->∀{o:Op},o∈l->kget (l.map λo=>(f o,g o)) aQ_=ψ (g o)
 |[],_,o,h=>by exact(dA!).elim
 |x::l,nd,o,h=>by
  rw[MO,NJ]at nd;rw[MO];delta kget;obtain rfl|h:=MD.mp h
  .rw[y!]
  .rw[MY λz=>nd.1 (by rw[z];exact NE h),b4a nd.2 h]
def Pd(o:Op):Int×Int:=(o.h,o.n)
def Hist.rise(h:Hist ms)(hx:x∈ms)(hy:y∈ms)(e:x.h=y.h)(hn:x.n<y.n):x.tm<y.tm:=by let ii:x∈hs ms y.h:=eW.mpr #[hx,e];let hy':y∈hs ms y.h:=eW.mpr #[hy,χ];let#[i,hi,ei]:=OZ.mp ii;let#[j,hj,ej]:=OZ.mp hy';let Y:=(na_).num i x ts!;let h2:=(na_).num j y (by rw[ND hj,ej]);let:=TJ.mp (na_).tim i j hi hj a!;rw[ei,ej]at this;exact this
def c2c(h:If! Pd=τ)(e:x.h=y.h):x.n<y.n:=by simp![Ka,FZ,Pd,e,PL,NS]at h;exact h
def xI{ms:h_}(hA:J_)(hU:dc!)(sub:∀o∈ms,o∈U)(nn:(nb!).Nodup)(hN:∀o∈ms,Nx yy S o)(hl:b3_<64)(hp:M p=KD! i0!)
  (hR:tt!):Ja t [L_,.fn p] M R:=by
 exact j_;intro q hq;let qp:=OB (eB sJ_ hq);let hp1:mup M q eB_ p=KD! i0!:=Jm_ (OB qp) hp;let nk:(ms.map Pd).Nodup:=by
  rw[SY,XR]at nn ⊢;exact nn.imp λ{x y} zn e=>zn ?_;simp![Pd,Prod.mk.injEq]at e;show D.tup iT_=D.tup [.int y.h,.int y.n];rw[e.1,e.2]
 delta Cs Ca;let ur:(i0_).Perm ms:=bL ms;let hsort:So (mup M q eB_) [.fn p]=JN_ i0_ Op.nm:=by
  show((Dl (mup M q eB_) B!).bind λq=>(Zf il!).map D.lst)=_;rw[cV hp1];show(Zf (Dj_ i0!)).map D.lst=_;let e1:Dj_ i0!=ms.map Op.nm:=by rw[NY];rfl
  let e2:(nb!).map kf2=ms.map Pd:=by rw[NY];rfl
  rw[e1];delta Zf;rw[MM #[QM.mpr λd hd=>by let#[o,_,rfl]:=NC.mp hd;rfl,by rw[e2];exact nk,vA_]];show D1! (Iy kf2 nb!)=_;rw[uV (k:=Pd) (k':=kf2) λo=>χ]
 exact sU b_ hsort _ ?_;exact b4q hA hp hq i0_ [] 0 υ υ _ _ (λb J=>mup_ne mN!) (λo ho=>#[b4a nn tu_,hN o tu_]) mup_same ?_ (λo _ v hv=>by cases hv) (by rw[ur.length_eq];simp;omega) λM' y3 y4 h=>hR M' h;let bv:Oe Pd i0_:=jA nk;let:=List.Pairwise.and_mem.mp bv;exact this.imp λ{x y} h e=>hU.rise (sub _ (ur.mem_iff.mp h.1)) (sub _ (ur.mem_iff.mp h.2.1)) e (c2c (x:=x) (y:=y) h.2.2 e)
def a8g:∀{ys:d_},(∀y∈ys,y=D.bl τ)->Jo ys=ψ tv_
 |[],_=>rfl
 |y::ys,h=>by
  rw[h y MB];show(Jo ys).map (true::·)=_;rw[a8g λx hx=>h x aT_];rfl
def c5l(h:bR_):Ac f Af ρ=ψ [d]:=by delta Ac;rw[h];rfl
def d1t(h:hU_):f1 g fs ρ=g ds:=by delta f1;rw[h];rfl
def d0l{ms:h_}(nd:t.nd)(hH:∀o∈ms,BX o)(hl:b3_<64):Dr uX! i2_=ψ false:=by
 let#[ys,e,_,hr]:=rA (ρ:=aF_) (bnd:=Am 0) (ft:=qc!) (fe:=f1 (Bc t) R!) (λy=>y=D.bl τ) d1_ (by
  intro d hd;let#[o,ho,rfl]:=NC.mp hd;exact#[[L!],τ,χ,χ,λ_=>#[.bl τ,d7e nd (hH o ho),χ]])
 let hc:Di! jA! uW_ i2_=ψ bf!:=by
  show(Dc! d1_ (KF! d1_))=_;rw[gD!,e];rfl
 let ha:ED! Vb nU! i2_=ψ u_:=by
  let Y:Ac nU! Af i2_=ψ [.lst ys]:=by
   exact c5l hc
  rw[d1t Y];show(Jo ys).map rE_=_;rw[a8g hr];show Ev_ ((tv_).all id)=_;rw[rF!]
 delta Dr fT;rw[ha];rfl
structure Vo(yy:Int)(U S Q:h_):Prop where
 u:Hist U
 s:Hist S
 i:∀o∈S,o∈U
 q:∀o∈Q,o∈U
 y:∀o∈Q,o.h≠yy
 n:∀o∈Q,mU_<o.n
 d:(Q.map Op.nm).Nodup
def Vo.nx(h:Ht! Q):∀o∈Q,Nx yy S o:=λo ho=>by
 let hU:=h.q o ho;exact#[h.u.op o hU,h.y o ho,h.n o ho,?_];delta lt;cases e:(dT_).getLast? with
 |none=>show(0:Int)<o.tm;let:=(h.u.op o hU).t1;omega
 |some x=>
  let hm:=UW e;let#[m1,m2]:=eW.mp hm;let#[i,hi,ei]:=OZ.mp hm;let en:=(h.s.ch o.h).num i x ts!;let:=h.n o ho;exact h.u.rise (h.i x m1) hU m2 a!
def iE(nd:t.nd)(hA:J_)(hf:i3!)(hl:m4_)(hR:tt!):Gk_ Df:=by
 let mj:b3_<64:=by rw[MH]at hl;omega
 exact j_;exact eQ (jE (d0l nd (λo ho=>hf.u.op o (hf.q o d0_)) mj)) ?_;exact fP ?_;let hn:∀K:D->Mh->Prop,Ec t d2_ M K->Er! Ec dm_ [t_,i2!] M K:=λK h=>Dg_ iU h;exact hn _ (b0c hA hf.nx hf.d hl λM1 p ep h0 hp fr=>j_);exact xI (Hs_ fr) hf.u hf.q hf.d hf.nx hl hp λM' lh=>hR M' λb J=>(lh b (by rw[fr b J];exact J)).trans d1!
end
def c7k(p q:α->Bool)(l:X!)(h:∀x∈l,¬(p x=τ/\q x=τ)):(l.filter p++l.filter q).Perm tC!:=by
 let Y:=List.filter_append_perm p tC!;rw[QB,QB]at Y;let e1:(l.filter λx=>p x&&(p x||q x))=l.filter p:=PY λx _=>by cases p x<;>simp
 let e2:(l.filter λx=>(!p x)&&(p x||q x))=l.filter q:=PY λx hx=>by
  cases c:p x<;>cases d:q x<;>simp_all
 rw[e1,e2]at Y;exact Y
def a0e:∀{kl:q_},kl.Nodup->(tE!).Perm (S.filter λo=>decide (o.h∈kl))
 |[],_=>by simp
 |k::kl,nd=>by
  rw[NJ]at nd;exact((a0e nd.2).append_left _).trans ?_;exact(c7k (λo:Op=>decide (o.h=k)) (λo=>decide (o.h∈kl)) S λx _ z=>?_).trans (List.Perm.of_eq (PY λx _=>by simp[MD]));simp![NS]at z;exact nd.1 (z.1▸z.2)
section
variable{t:Az}{out:D}
def As.perm(hA:J_):FK! tE!:=by exact(a0e hA.nk).trans (List.Perm.of_eq (ON.mpr λo ho=>?_));rw[NS,hA.mem];intro z;let:o∈hs S o.h:=eW.mpr ng!;rw[z]at this;exact(ML this).elim
def JC(t:Az):WS:=AS 1 nM!
def b4x(hA:J_)(cp:ck M)(hS:eY_):∀(ks:q_) (σ:h_) (y:ac_) (R:r_),(∀h∈ks,h∈kl)->cZ_+64*k6_<100000->
  (∀y',DZ_ [t_,ψ (.lst ((σ++ks.flatMap (hs S)).map Op.v)),y'] M)->
  Ga ca_ ck (JC t) (ks.map D.int) [t_,ik_,y] M R
 |[],σ,y,R,_,_,hR=>#[cp,by let:=hR y;simpa using this]
 |h::ks,σ,y,R,hk,hl,hR=>by
  exact lu!;show"#,";let hh:=hk h MB;show JC t [t_,ik_,iM_] M _;show AS 1 nM! [t_,ik_,iM_] M _;let i1:=E9! ht (by rw[iB,MM hh]);exact I1_ gt_ i1;rw[gL iJ_];exact dX ?_;let hlS:(eX!).length<64:=PD (wY S h) hS;dsimp only[List.length_cons]at hl;exact tG!;rw[<-NM];exact b4x hA cp hS ks (σ++hs S h) (ψ iM!) R tq! ke_ λy'=>?_;let:=hR y';rw[List.flatMap_cons,<-OE]at this;show"#E"
def mB(hA:J_)(hH:a9!)(hS:eY_):Ef_ Ep [L_] nh!:=λK hK=>by
 let#[ep,ht]:=hA.tk;exact j_;show HW! (JC t) [t_,ψ eI!,υ] M _;delta Ag Cs Kn;exact EF_ hF2;rw[cV ht];exact dX ?_;let pj:iI_<64:=PD hA.len hS;let ek:Dj_ gs!=kl.map D.int:=by rw[NY];rfl
 rw[ek];exact b4x hA ht hS kl [] υ _ (λh hh=>hh) aV_ λy'=>?_;let hp:=hA.perm;let nd:=EP! hH.keys;let he:f1 Cy b9! [t_,ψ (.lst tH_),y']=ψ nh!:=by
  show Cy [.lst tH_]=_;rw[QD,nO nd tI_,iJ hp nd]
 exact cX (aP he) hK
structure OS(t:Az)(M:Mh)(a o:yJ!)(O:aE!)(W:OW):Prop where
 hob:∃yy ta wa,M a=ψ nh_
 out:D3_ M W 1500
def c7j(hA:iW!)(hH:a9!)(hS:eY_)(hr:Ws W0 i5_ W')
  (hR:∀M' o O',OS t M' a o O' W'->xw_ M' Wt av_ S kl ca->(∀b,M b≠υ->b≠a->M' b=M b)->(∀b,M b≠υ->¬O' b)->R av_ M'):Dh t [L_] M R:=by
 exact j_;exact oZ (gR (Hr! (dM b_ hA.ob hF4))) ?_;exact pS ?_;let hp:FK! aX!:=bL S;let hc:∀K:D->Mh->Prop,Lb t [.lst tH!] M K->JF! (Lb t) jy! [t_] M K:=λK h=>by
  show EI! (Ep t) [t_] M _;exact H0! hA hS cN_
 exact hc _ (b5v (EP! hH.keys) (EP! hH.names) tI_ (λo ho=>(hH.op o (hp.mem_iff.mp ho)).dg) (by rw[b8w hH.keys];exact hr) λo M1 O' ho hO hw fr=>?_);let fa:=fr a mK_;exact iF χ (fa.1.trans hA.ob) lD_ hP5 ?_;let h2:Bk t (mup M1 a nh_) o O' W' 1500:=hO.keep λc hc=>mup_ne λz=>fa.2 rv_;let k:∀b,M b≠υ->b≠a->mup M1 a nh_ b=M b:=λb J hn=>(pL_).trans (d1!).1;show"#,";let rg:={hA with ob:=mup_same,tk:=#[ep,(k ta mL_ λz=>by rw[z,hA.ob]at ht;rcases ht).trans ht],wt:=(k wa mL! λz=>by let:=hA.wt;rw[z,hA.ob]at this;rcases this).trans hA.wt,cl:=λh hh=>(k _ mM! λz=>by let:=hA.cl h hh;rw[z,hA.ob]at this;rcases this).trans iJ_};exact cX (dM b_ mup_same hF4) (hR _ o O' #[#[yy,ta,wa,mup_same],h2] rg k λb J=>(d1!).2)
variable{O:Addr->Prop}{x:D}
def tV(h:aX_):Ef_ Dh [L_] av_:=λK hK=>by
 let#[yy,ta,wa,hob]:=h.hob;exact j_;exact eQ (gR (Hr! tK!)) ?_;exact cX tK! hK
def OS.nob(h:aX_)(hm:pp!):Da t.B6 m M av_:=by exact h.out.noOb hm
def gP(h:f ρ M λd M1=>q bR! M1 R):KD_ f:=h
def Of(t:Az)(M:Mh)(a:yJ!)(W:OW)(Q:f7!):Prop:=∀K:D->Mh->Prop,(∀M' o O,OS t M' a o O W->Q M'->K av_ M')->Dh t [L_] M K
def OS.of(h:aX_):Of t M a W (·=M):=λK hK=>tV h _ (hK M o O h χ)
end
section
variable{t:Az}{o r f p:yJ!}{O:Addr->Prop}{pre xs:List D}{x:D}{k:MK}
def zQ(h:kh_)(hl:j!<5000)(hR:R H! M):Hl t [.fn r] M R:=by
 let#[kf,ef,kp,ep,hf,hp,K,_]:=h.dc;let nx:∀{u v},xs=u++v->kget kf (Il! u)=ψ fy!:=λ{u v} e=>by
  let nd:=K.nd;rw[e]at nd;rw[K.f,e];exact a2l (oX!).1
 let step:∀(rest done:d_),xs=done++rest->∀R':Fl->Mh->Prop,R' (.nx [fB!,ψ H!,ψ .non]) M->
   Bz tX_ tY! (rest.length+1) [fB!,ψ (.lst done),ψ (rest.headD .non)] M R':=by
  intro rest
  induction rest with
  |nil=>
   intro done e1 R' g7;rw[NP]at e1;rw[e1]at g7;simpa[Bz,Cp,fT,f2,Aa,fC,Bp,Ji]using g7
  |cons y rest ih=>
   intro done e1 R' g7;let hy:y∈xs:=by rw[e1];simp
   let y0:y≠.non:=λz=>(NJ.mp K.nd).1 (z▸hy);let#[k,ek]:=K.hk y hy;let j9:=nx (u:=done++[y]) (v:=rest) (D2! e1);rw[a2i]at j9;let J:done.length<big:=by rw[e1]at hl;simp at hl;delta big;omega
   let:=ih (done++[y]) (D2! e1) R' g7;rw[MX,Bz];simpa[Cp,fT,f2,Aa,fC,Bp,kX y0,Ag,Vi,Dq,Qg,J,An,w2,wl,Ap,Gf,h.ob,b4i,Cc,hf,ek,j9]using this
 let j9:kget kf .non=ψ (xs.headD .non):=nx (u:=[]) χ;exact j_;dsimp only[Mx,Ag,Vi];simp[-List.headD_eq_head?_getD,Dq,Sq,Af,An,w2,wl,Ap,Gf,Aa,fC,h.ob,b4i,Cc,hf,j9,Co,Iw];exact#[j!+1,step xs [] χ _ ?_];simpa[Ay,wl,Aa]using hR
def a1i{p:D}(h:ap_)(hk:aG!)(hx:lQ_)(hR:R p M):FB! Fa:=by let#[ad,rfl,hO,hI]:=h;let#[_,e,k1,ep,rfl,_,_,_,q]:=hI.ty .par ο;exact j_;simpa[Hg,Ay,w2,wl,Ap,Gf,Dq,Aa,hI.ob,oF1,Cc,e,hk,q x p hx]using hR
def xH(h:ap_)(w:By W)(hB:B<4000)(hx:cR!)(hR:R gH_ M):FB! Eh:=by let#[ad,rfl,hO,hI]:=h;let#[k2,e2,h2,_,q]:=hI.dirV (b:=τ);let#[k,hk]:=qO w hx;let#[hr,lr]:=hI.row (b:=τ) hx;exact j_;simp[Gj,Ay,w2,wl,Ap,Gf,Dq,Aa,hI.ob,oF2,Cc,h2,hk,(q x).1 hx,Ba,Ad,Da,hr.ob,rM];exact zQ hr a! hR
nonrec def shn(W:OW)(x:D):μ du!:=(bB!).filter (·.2.2)
def a4r(hO:ap_)(w:By W)(hx:a5_)(hB:B<4000)(hR:R (.lst (Dj_ e6_)) M):FB! Dz:=by
 let#[ad,rfl,hO,hI]:=hO;let#[k3,e3,h3,_,q3]:=hI.dirV (b:=θ);let#[_,h6,k6,e6,rfl,_,q6]:=hI.ty .hid ο;let#[k,hk]:=(w.nm x hx).key;let#[hr,lt]:=hI.row (b:=θ) hx;let lt:=lt;let hr:Hi t M _ _ _ o6!:=hr;exact j_;let zf:∀R',w2 Cc e9_ p! nl! M R'=R' (.fn (ad (.row x θ))) M:=by
  intro R';simp[w2,wl,Ap,Gf,hI.ob,oF3,Cc,h3,hk,(q3 x).1 hx,Dq,Aa]
 show Ay (Be 1 [0] _ _ _ _) nl! M _;simp![Ay,Be,Ca,Ba,zf,Ad];exact#[by simp![Da,hr.ob,rM.2.2.1,and_self],χ,?_];exact zQ hr (PD lt a!) ?_;exact#[by delta big;exact NR lt a!,?_];exact cZ (λd=>!(IJ! k6).isSome) id ο _ _ bo_ ?_
 .show"!=";let#[kq,um]:=(IW_ w.sg).key;exact#[tN!,χ,io!,Cg_];simpa[wT,w2,wl,Ap,Gf,Aa,Dq,hI.ob,oF6,Fq,h6,um]using hK
 .let e:((o6!).filter λd=>!(IJ! k6).isSome).map id=Dj_ e6_:=by
   rw[VV,SM];congr 1;exact PY λq hq=>?_;show(!(kget k6 q.1).isSome)=q.2.2;cases c:q.2.2 with
   |false=>rw[(q6 q.1).mpr #[x,hx,q,hq,χ,c]];rfl
   |true=>
    cases z:(kget k6 q.1).isSome with
    |false=>rfl
    |true=>
     let#[y,hy,q',bc,e1,e2]:=(q6 q.1).mp z;cases w.su y hy x hx q' bc q hq e1;let e2':q'.2.2=false:=e2;rw[jO (b:=q'.2) (w.snd x hx) (Do! e1 bc) hq,c]at e2';exact Dd_ e2'
  rw[e];exact hR
def a8x(hO:ap_)(w:By W)(hx:a5_)(hB:B<4000)(hl:jb_)(hj:nn!)(hR:R v M):FB! Fy:=by
 let#[ad,rfl,_,hI]:=id hO;let#[_,h5,k5,e5,rfl,_,q5]:=hI.ty .wri ο;exact j_;show Ay (Pt _ (Be 1 [0] un! _ _ _)) nl! M _;dsimp only[Ay,Pt,Be,Ca];exact fA b_ (hI.noOb cj!) b_ (λK hK=>a4r hO w hx hB hK) _ ?_;let ls:(e6_).length<=(bB!).length:=PJ _ _;exact db!;let q5:∀q∈shn W x,kget k5 q.1=ψ q.2.1:=λq hq=>q5 _ _ #[x,hx,q,(nn_).1,χ,χ];exact cZ ge_ (λd=>(IJ! k5).getD .non) ο _ _ bo_ ?_
 .show"!=";let#[kq,um]:=(w.sg x hx q (nn_).1).key;exact#[tN!,χ,gf!,ra!];simpa[w2,wl,Ap,Gf,Aa,Dq,hI.ob,oF5,Cc,h5,um,q5 q hq]using hK
 .rw[ir!,NY,OQ (g:=(·.2.1)) λq hq=>by show(kget k5 q.1).getD .non=_;rw[q5 q hq];rfl,hj];exact hR
def a8a:∀(l:a3_),(∀q∈l,∃c:Nat,q.2.1=.str H_)->∃cs:List Nat,l.map (·.2.1)=cs.map Nw/\aQ!=S_
 |[],_=>Ac_
 |q::l,h=>by
  let#[cs,e1,e2]:=a8a l λx hx=>h x aT_
  let#[c,e]:=h q MB;exact#[c::cs,by rw[MO,MO,e1,e];rfl,by rw[MX,MX,e2]]
def c2v(hw:f2_)(hx:a5_)(hl:jb_):∃s,Hv ha! nm_=ψ aT!:=by
 let#[cs,e1,e2]:=a8a e6_ λq hq=>hw.chr x hx q (nn_).1
 let ls:(e6_).length<=(bB!).length:=PJ _ _;rw[e1];exact#[Txt.join dE_ h3_,?_];show((Ly ld!).bind λys=>if(hM_).sum+ab!*(dE_).length<=big then ψ (D.str (Hj_ dE_))else υ)=_;rw[rF];show er!=_;rw[EX! a0y a0g]
end
section
variable{w:yJ!}{O:Addr->Prop}{x v:D}{k:MK}
def a4b(h:ad_)(wi:By W)(hx:Sd x)(hl:gb!):Pr Gy [dK!,x] M gH_:=λK hK=>by
 let#[wt,wn,qa,hA]:=h;let#[e,hw]:=hA.mw;exact j_;show Ay q5_ jc_ M _;simp![Ay,Be,Ca,ixw (ρ:=jc_) χ hw k3r];exact q6!;exact cZ (λd=>match d with|.tup [_,p]=>decide (p=x)|_=>θ) (λd=>match d with|.tup [i,_]=>i|_=>.non) ο _ _ bo_ ?_
 .show"!=";exact#[ct!,χ,λK hK=>jE (ρ:=ct!) ?_ _ hK,λ_ K hK=>aP (ρ:=ct!) uF _ hK];let:IZ_ gE_=JX_ (q.2=x):=aZ a3d χ (oO (G6! q).2.1 hx);show"!_"
 .rw[SM,NY];exact hK
def xO(h:ad_)(hx:a5_)(hk:aG!)(hl:jb_)(hj:nn!):Pr Gu [dK!,x] M v:=λK hK=>by
 exact j_;show Ay (Pt _ (Be 1 [] wR_ _ _ _)) jc_ M _;delta Ay Pt Be Ca;exact b8q (ρ:=jc_) h χ χ hk hx _ db!;exact cZ (λd=>match d with|.tup [_,_,.bl b]=>b|_=>θ) (λd=>match d with|.tup [_,c,_]=>c|_=>.non) ο _ _ bo_ ?_
 .show"!=";exact#[[lW_],χ,λK hK=>jE (ρ:=[lW_]) χ _ hK,λ_ K hK=>aP (ρ:=[lW_]) χ _ hK]
 .rw[SM,NY];show Dq (Hv (.str dE_) nm_) _;rw[hj];exact hK
end
structure Wd where
 its:μ D
 txt:D->μ du!
 num:D->μ D
 ch:D->μ D
def Vm(W:OW):Wd:=#[W.its,W.txt,W.num,chl W.rows]
def c6d{W V:OW}(e:Vm W=Vm V):Kk W=Kk V:=by let Y:W.its=V.its:=Dp! Wd.its e;let h2:W.txt=V.txt:=Dp! Wd.txt e;let h3:W.num=V.num:=Dp! Wd.num e;let h4:DQ_ chl=chl V.rows:=Dp! Wd.ch e;delta Kk Ge;rw[Y,h2,h3,h4];congr 1;exact funext λi=>funext λp=>F1! (by rw[<-gC,h4,gC])
def c4z:chl cM_ x=(chl rows x).filter λc=>decide (c≠i):=by delta chl wo;rw[SM,QB,QB];congr 1;exact PY λq _=>Bool.and_comm _ _
def d2a(h:chl r1=chl r2)(w:Wn r1 i x):Wn r2 i x:=by
 induction w with
 |here=>exact .here
 |up Y _ ih=>exact .up (gC.mp (by rw[<-h];exact gC.mpr Y)) ih
nonrec def hC(i p s:D)(ch:D->μ D)(x:D):μ D:=if p=x then Mi i s ((ch x).filter λc=>decide (c≠i))else(ch x).filter λc=>decide (c≠i)
def c3g(h:Ph r i p s r')(nd:(r.map d!).Nodup):chl r'=hC i p s (chl r):=funext λx=>by
 delta hC;split
 .rename_i c;subst c;rw[h.chl_same nd,c4z]
 .rename_i c;rw[h.chl_ne c,c4z]
def KG(l:d_)(a:D):Prop:=a∈l\/a=root\/a=binn
nonrec def mv(W:Wd)(i p s:D):Wd:=if i∈W.its/\KG W.its p/\¬∃r,chl r=W.ch/\Wn r i p then{W with ch:=hC i p s W.ch}else W
nonrec def sT:HN! Str (μ D->Wd->D->Wd):=[("put",λr W n=>match r with
 |[a,b]=>#[W.its++[n],xJ_,xK!,hC n (if KG W.its a then a else binn) b W.ch]
 |_=>W),("move",λr W _=>match r with
 |[a,b,c]=>mv W a b c
 |_=>W),("drop",λr W _=>match r with
 |[a]=>mv W a binn .non
 |_=>W),("write",λr W n=>match r,n with
 |[a,b,.str s],.tup [.int h,.int m]=>if a∈W.its then{W with txt:=λx=>if x=a then Ho! wrT else W.txt x}else W
 |_,_=>W),("cut",λr W _=>match r with
 |[a,.tup [.int x,.int y,.int z],.int m]=>if a∈W.its then{W with txt:=λq=>if q=a then cutT kJ_ aN! else W.txt q}else W
 |_=>W),("set",λr W _=>match r with
 |[a,.int p,.int v]=>if a∈W.its then{W with num:=λx=>if x=a then(f2!).set p.toNat lp! else W.num x}else W
 |_=>W)]
nonrec def sF(W:Wd)(n d:D):Wd:=match d with
 |.tup (.str k::r)=>match sT.lookup k with
  |some f=>f r W n
  |none=>W
 |_=>W
def b3q(nd:(kj_).Nodup):(tU_->Ph W.rows i p s rows'->Vm {W with rows:=rows'}=mv gK_ i p s)/\(¬tU_->Vm W=mv gK_ i p s):=by let e:Kq! p↔∃r,chl r=(gK_).ch/\Wn r i p:=#[λh=>hS!,by rintro⟨r,Y,h2⟩;exact d2a Y h2];rw[e];exact#[λc g=>?_,λc=>(MY c).symm];exact(tV!).trans (MM c).symm
def d0t(h:Sa W n d W1)(nd:(kj_).Nodup):Vm W1=sF gK_ n d/\(W1.rows.map d!).Nodup:=by
 cases h with
 |put _ _ g=>
  exact#[(tV!).trans ah!,g.nd nd]
 |mvY _ _ _ c g=>exact tV_
 |@mvN _ _ s _ _ _ c=>exact#[((b3q (s:=s) (rows':=[]) nd).2 c).trans ah!,nd]
 |drY _ c g=>exact tV_
 |drN _ c=>exact#[((b3q (s:=.non) (rows':=[]) nd).2 c).trans ah!,nd]
 |wrt _ _ _ e=>subst e;exact np!
 |cut _ _ _ _=>exact np!
 |set _ _ _=>exact np!
def d0x{os:h_}(h:Ws W os W1):(kj_).Nodup->Vm W1=os.foldl (λp o=>sF p o.nm o.d) gK_:=by
 induction h with
 |nil=>exact λ_=>χ
 |cons h _ ih=>exact λnd=>by rw[RU,<-(d0t h nd).1];exact ih (d0t h nd).2
section
variable{t:Az}{W V:OW}
def b9e{os:h_}(Y:Ws W0 os W)(h2:Ws W0 os V):Vm W=Vm V:=(d0x Y QC).trans (d0x h2 QC).symm
end
def a3k:∀(xs:q_) (a:Int),a<=EC! a/\∀x∈xs,x<=EC! a
 |[],a=>#[QK _,λx h=>by exact(dA!).elim]
 |y::xs,a=>by
  let#[Y,h2]:=a3k xs (max a y);rw[RU];exact#[o_,aC_];obtain rfl|hx:=MD.mp hx
  .omega
  .exact h2 x hx
def b4h:∀(xs:q_) (a:Int),EC! a=a\/EC! a∈xs
 |[],a=>.inl χ
 |y::xs,a=>by
  rw[RU,MD];obtain z|z:=b4h xs (max a y)
  .rw[z];omega
  .exact .inr eh_
def CM:μ Int->Int:=Zx 0 υ
def c1q:∀{l:q_},l≠[]->CM l∈l
 |[],h=>Dl! h
 |x::xs,_=>MD.mpr (b4h xs x)
def a1y:∀{l:q_} {x:Int},x∈l->x<=CM l
 |y::xs,x,h=>by
  obtain rfl|h:=MD.mp h
  .exact(a3k xs x).1
  .exact(a3k xs y).2 x h
def Vj(S:h_):Int:=CM (S.map Op.tm++[0])
section
variable{t:Az}{out:D}{x:D}
def a1x(h:o∈S):o.tm<=Vj S:=a1y (MV _ (NE h))
def vW(h0:0<=B)(h:∀x∈S,x.tm<=B):Vj S<=B:=by
 obtain z|z:=NA.mp (c1q (l:=S.map Op.tm++[0]) c!)
 .let#[o,ho,e]:=NC.mp z;let:=h o ho;show CM _<=B;omega
 .let h3:Vj S=0:=NB.mp z;omega
def d7t(hh:hs S h≠[]):∃o∈S,o.tm=lt S h:=by
 delta lt;cases e:(eX!).getLast? with
 |none=>exact Df_ (VM.mp e) hh
 |some o=>exact#[o,(eW.mp (UW e)).1,χ]
def d7u(hH:a9!)(ho:o∈S):o.tm<=lt S o.h:=by
 let hm:=eW.mpr ng!;delta lt;cases e:(dT_).getLast? with
 |none=>rw[VM.mp e]at hm;exact(ML hm).elim
 |some x=>
  let#[l,hl]:=List.getLast?_eq_some_iff.mp e;let hp:=(hH.ch o.h).tim;rw[hl]at hm hp;obtain z|z:=NA.mp hm
  .exact IM_ ((List.pairwise_append.mp hp).2.2 o z x c!)
  .rw[eK!];exact QK _
def a6v(f:α->Int):∀l:List α,Mb tY_=ψ gh!
 |[]=>rfl
 |x::l=>by
  show(Mb tY_).map (f x::·)=_;rw[a6v f l];rfl
def c8a(h:l=[]->k=ψ 0):Zy k [.lst (l.map D.int)]=Da_ (CM l):=by
 show(Mb (l.map λh=>D.int (id h))).bind _=_;rw[a6v,VV];show(G2_ l (.int (CM l)))=_;split
 .rename_i z;rw[h z,z];rfl
 .rfl
def c1p:0<=Vj S:=a1y (MF _ kY!)
def a1u(hA:J_)(hH:a9!)(hl:eY_):Ef_ Ip [L_] (.int (1+Vj S)):=λK hK=>by
 let#[ep,ht]:=hA.tk;let hk:∀x∈S,x.h∈kl:=λx hx=>(hA.mem x.h).mpr λy=>by let hm:x∈hs S x.h:=eW.mpr #[hx,χ];rw[y]at hm;exact(ML hm).elim
 let e:CM ns!=Vj S:=by
  let z:kl.map (lt S)=[]\/∃o∈S,o.tm=CM ns!:=(Classical.em _).imp_right λkn=>by
   let#[h,hh,e]:=NC.mp (c1q kn);rw[<-e];exact d7t ((mB!).mp hh)
  exact Int.le_antisymm ?_ ?_
  .obtain z|⟨o,ho,e⟩:=z
   .rw[z];exact c1p
   .rw[<-e];exact a1x ho
  .exact vW ?_ λo ho=>Int.le_trans (d7u hH ho) (a1y (NE (hk o ho)));obtain z|⟨o,ho,e⟩:=z
   .rw[z];exact QK _
   .let:=(hH.op o ho).t1;omega
 exact j_;let hc:Pu vw_ [t_] M (.lst (Hn_ ns!)):=λK hK=>by
  delta Be Kn;exact EF_ hF2;rw[cV ht];let pj:iI_<64:=PD hA.len hl;exact dX tG!;exact cZ ge_ (λd=>match d with|.int h=>.int (lt S h)|_=>.non) ht _ _ bo_ ?_
  .rw[NY]at hd;let#[h,_,rfl]:=NC.mp hd;exact#[[iM_,t_],χ,gf!,λ_ K hK=>cS b_ b_ (lO hA) _ hK]
  .rw[ir!,NY,NY];rw[NY]at hK;exact hK
 exact cX (dQ b_ (sU hc ((c8a λ_=>χ).trans (by rw[e]))) χ) hK
def d5s{f1 f2:WE}(Y:Dj! f1 x)(h2:Dj! f2 y)(k:g [x,y] M K):Gq_ 2 BK_:=by exact GA! ir_
def a1f(h:ii!)(h2:Dj! g e):Dj! (Ri (KA_ f g)) (.tup [d,e]):=λK hK=>by
 exact h _ (h2 _ #[qM_,hK])
def c8b(hA:J_)(hH:a9!)(hl:ae_<63)
  (hR:∀M' ae af,Jl! Wt (S++[t7!])->Hr_ M' ae af->R t7_ M'):Ip! M:=by
 let hT:=a1u hA hH a!;exact j_;exact fG (a1f ny! (dQ (fA b_ mF_ ny! (uG hA)) b_ (d:=.int (1+ji!)) (FF_ Int.add_comm))) ?_;let hv:Pu vx! [t_,h9!,ψ t7_] M (Op.mk yy (1+ji!) (1+Vj S) d).v:=dQ b_ (a1f (fB b_ hT) b_) χ;exact a4v (d5s b_ hv (KZ_ hK));exact cX b_ (Ez! hK)
def AN(S:h_)(yy:Int)(d:D):Op:=t7!
def a6q:∀{xs:d_} {k:δ} {h:Int} {x:D},(k:Int)<=h->xs[(h - k).toNat]?=ψ x->kget ((xs.zipIdx k).map λq=>gs_) iM!=ψ x
 |[],k,h,x,_,e=>by simp at e
 |y::xs,k,h,x,hk,e=>by
  rw[List.zipIdx_cons,MO];delta kget;by_cases c:(k:Int)=h
  .rw[MM (by rw[c])];rw[<-c,Int.sub_self]at e;exact e
  .rw[MY λz=>c mA_];exact a6q a! ?_;rw[show(h - (k:Int)).toNat=(h - Cc_).toNat+1 by omega,List.getElem?_cons_succ]at e;exact e
def c3k(hA:J_)(hH:a9!)(hS:eY_)
  (hR:ua!):Ob t ub! M R:=by
 exact j_;exact gP ?_;exact#[P!,dQ_];let fr:∀b,M b≠υ->FX_ (.dct ub_ (jk!).flatten.length) b=M b:=λb J=>Kd! J hp;let gq:=Hs_ fr;delta Ay Be Ca;exact H0! gq hS ?_;let pm:FK! aX!:=bL S;exact#[by rw[MJ,pm.length_eq];delta big;omega,?_];exact cZ (λd=>τ) id ο _ _ bo_ ?_
 .let#[o,ho,rfl]:=NC.mp hd;let hf:=hH.op o jk_;let J:=hf.hh;let Y:=hf.n1;exact#[[L!,as!],χ,io!,λ_ K hK=>by rw[b4_];exact hK];let hg:(kget ub_ dI_).getD O_=.int 0:=by
   rw[a6q (x:=fQ!) a! (by obtain z|z|z|z|z:=J<;>rw[z]<;>rfl)];rfl
  let e:Yv (.int o.n) O_=ψ u_:=by
   show D7! (0<o.n)=_;rw[NG a!]
  exact gR (dQ mG! (pX b_ mG_ b_ mup_same χ hg) e) K hK
 .rw[VV,ON.mpr λ_ _=>χ];exact hR _ fr
def tM(hf:∀o:Op,ft dk_=ψ (p o)):∀(os:h_),Cg m_ ft k! gP_ ak_=ψ ug_
 |[]=>rfl
 |o::os=>by
  let ih:=tM hf os;let e1:Am 0 o.v gP_=ψ dk_:=χ;let e2:Aa 0 dk_=ψ o.v:=χ;rw[MO];delta Cg;rw[e1];show((ft dk_).bind λb=>if b then(Aa 0 dk_).bind λy=>(Cg m_ ft k! gP_ ak_).map km_ else Cg m_ ft k! gP_ ak_)=_;rw[hf,e2,ih];show(if p o=τ then ψ (o.v::(os.filter p).map Op.v)else ψ ug_)=_;cases c:p o with
  |true=>rw[y!,OD c];rfl
  |false=>rw[bY!,OO (D2! c)]
def Hist.fl(h:dc!)(k0:Int):Hist ui_:=by
 exact#[mo!,λo ho=>h.op o (gQ_).1];let e:hs ui_ k=if k=k0 then[]else hs U k:=by
  delta hs;rw[QB];split
  .rename_i c;exact OI.mpr λo _=>by simp[c]
  .rename_i c;exact PY λo _=>by
    by_cases z:o.h=k
    .simp[z,c]
    .simp[z]
 rw[e];split
 .exact .nil
 .exact h.ch k
end
def Rn(S:h_)(W:OW):Prop:=Ws W0 i5_ W
structure Hd(t:Az)(M:Mh)(yy:Int)(a:yJ!)(S Wt:h_)(X:aE!):Prop where
 hd:∃ta wa out kl ca,Jf! M Wt/\(∀b,Yp a ta kl ca b\/b=wa->X b)/\(out=.non\/∃o O W,out=.fn o/\OS t M a o O W/\Rn S W/\∀b,O b->X b)
 hH:Hist S
 hl:ae_<63
 hw:aI_<10
 live:∀b,X b->M b≠υ
structure AI(M:Mh)(X:aE!)(M':Mh)(X':aE!):Prop where
 kp:∀b,M b≠υ->¬X b->M' b=M b
 nw:∀b,X' b->X b\/M b=υ
section
variable{t:Az}{M M1 M2:Mh}
def AI.trans(Y:I2! M1 X1)(h2:AI M1 X1 M2 X2):I2! M2 X2:=by
 exact#[λb J hx=>?_,λb hx=>?_]
 .let e:=Y.kp b J hx;exact(h2.kp b sZ_ λz=>(Y.nw b z).elim hx J).trans e
 .obtain z|z:=h2.nw b hx
  .exact Y.nw b z
  .by_cases c:X b
   .exact .inl c
   .by_cases d:M b=υ
    .exact .inr d
    .rw[Y.kp b d c]at z;exact GZ! d
def AI.of(k:mU!):I2! M1 X:=#[λb J _=>k b J,cS!]
def OS.keepO{O:aE!}(h:aX_)(ka:M1 a=M a)(k:∀b,O b->M1 b=M b):GO! M1:=by let#[y,p,q,hob]:=h.hob;exact#[#[y,p,q,ka.trans hob],h.out.keep k]
def Hd.keep(h:d8_)(k:∀b,X b->M1 b=M b):ER_ Hd M1:=by let#[ta,wa,out,kl,ca,hA,hx,ho]:=h.hd;exact#[#[ta,wa,out,kl,ca,hA.keepO λb J=>k b (hx b J),hx,ho.imp id ?_],h.hH,h.hl,h.hw,λb J=>by rw[k b J];exact h.live b J];rintro⟨o,O,W,e,hO,hr,J⟩;exact#[o,O,W,e,hO.keepO (k a (hx a mB_)) λb z=>k b (J b z),hr,J]
def Hd.keepA(h:d8_)(k:mU!):ER_ Hd M1:=h.keep λb J=>k b (G7! J)
def Hd.oth(h:Hd t M y2 a2 S2 Wt X2)(dj:∀b,X b->¬X2 b)(c:I2! M1 X1):Hd t M1 y2 a2 S2 Wt X2/\∀b,X1 b->¬X2 b:=
 #[h.keep λb J=>c.kp b (G7! J) λz=>dj b z J,λb Y h2=>(c.nw b Y).elim (λz=>dj b z h2) (G7! h2)]
def As.hd(hA:iW!)(hH:a9!)(hl:ae_<63)(hw:aI_<10):Hd t M yy a S Wt λb=>Fg_ a\/b=wa:=
 #[#[ta,wa,.non,kl,ca,hA,λb h=>h,cu!],hH,hl,hw,λb h=>hA.live h]
def Mp.chg(h:Jh_ M1)(hx:∀b,Fg_ a\/b=wa->X b):I2! M1 λb=>Yp a ta ae af b\/b=wa:=by
 exact#[λb J hn=>(h b J λz=>hn (hx b z)).1,bt!];by_cases c:X b
 .exact .inl c
 .by_cases d:M b=υ
  .exact .inr d
  .exact ξ J (h b d λz=>c (hx b z)).2
def b0u(rows:q!)(i p s:D):∃r,Gh! Ph p s r:=by
 by_cases h:s∈chl cM_ p
 .let#[u,v,e]:=List.append_of_mem (gC.mp h);exact#[_,u++[cN!],v,by rw[e];simp,χ,.inr pA_]
 .exact#[_,[],wo rows i,χ,χ,.inl #[h,χ]]
def d2i(W:OW){h m:Int}(hd:DG d)(hu:Gd d=υ):∃W',Gi! lp_:=by
 cases hd with
 |put Y h2=>
  let#[r,g]:=DQ_ b0u _ _ _;exact#[_,.put Y h2 g]
 |@move a b c Y h2 h3=>
  by_cases q:a∈W.its/\Ge W b/\¬JY! b
  .let#[r,g]:=DQ_ b0u a b c;exact#[_,.mvY Y h2 h3 q g]
  .exact#[_,.mvN Y h2 h3 q]
 |@drop a Y=>
  by_cases q:a∈W.its/\Ge W binn/\¬JY! binn
  .let#[r,g]:=DQ_ b0u a binn .non;exact#[_,.drY Y q g]
  .exact#[_,.drN Y q]
 |write Y h2 _ _ h3=>exact#[_,.wrt Y h2 h3 χ]
 |cut Y h2 h3 h4=>
  let#[x,y,z,e,h5]:=h2;cases e;exact#[_,.cut Y a! h3 h4]
 |set Y h2 h3 _=>exact#[_,.set Y h2 h3]
 |undo Y=>exact Df_ hu up_
 |redo Y=>exact Df_ hu up_
def b9j:∀(os:h_) (W:OW) (pre:d_),Tj W pre->(∀o∈os,DG o.d/\Gd o.d=υ)->(∀o∈os,o.nm∉pre)->(lE!).Nodup->∃W',Ws W os W'/\∃uk,Tj W' uk
 |[],W,pre,hw,_,_,_=>#[W,.nil,pre,hw]
 |o::os,W,pre,hw,hd,hp,nd=>by
  rw[MO,NJ]at nd;let ho:=hd o MB;let#[W1,s1]:=d2i W ho.1 ho.2;let hn:=hp o MB;let#[W',r,g1]:=b9j os W1 _ (a8y s1 hw hn) f5_ (λx hx z=>by
   obtain z|z:=NA.mp z
   .exact hp x aT_ z
   .exact nd.1 (by rw[<-show x.nm=o.nm from NB.mp z];exact NE hx)) nd.2
  exact#[W',.cons s1 r,g1]
end
def Hist.rn(h:a9!):∃W,Rn S W/\By W:=by let hp:FK! aX!:=bL S;let hes:(i5_).Sublist aX!:=TY;let#[W,hr,_,hw]:=b9j i5_ W0 [] c5o (λo ho=>#[(h.op o (hp.mem_iff.mp (hes.subset ho))).dg,(PB (gQ_).2).1]) (λ_ _ z=>by cases z) ((EP! h.names).sublist (hes.map _));exact#[W,hr,hw.inv]
def Lk(t:Az)(M:Mh)(yy:Int)(a:yJ!)(S Wt:h_)(X:aE!)(M':Mh):Prop:=∃X',Ht_ yy S Wt X'/\I2! M' X'
def To(t:Az)(M:Mh)(yy:Int)(a:yJ!)(X:aE!)(S' W':h_)(M':Mh):Prop:=∃X',Ht_ yy S' W' X'/\I2! M' X'
structure EM(S:h_):Prop where
 t:∀o∈S,o.tm<=900
 l:ae_<60
section
variable{t:Az}{M M1:Mh}{d x y:D}
def Hd.of(h:d8_)(hr:Rn S W):Of t M a W (ER_ Lk M):=λK hK=>by
 let#[ta,wa,out,kl,ca,hA,hx,ho]:=h.hd;let hl:=h.hl;obtain rfl|⟨o,O,W1,rfl,hO,hr1,J⟩:=ho
 .exact c7j hA h.hH a! hr λM' o O hO az k n=>hK M' o O hO #[λb=>X b\/O b,#[#[ta,wa,a5!,kl,ca,az,λb z=>.inl (hx b z),.inr #[o,O,W,χ,hO,hr,λb z=>.inr z]],h.hH,hl,h.hw,oL_],λb J hn=>k b J λz=>hn (by rw[z];exact hx a mB_),λb z=>z.imp id λz=>TM λc=>n b c z];obtain z|z:=z
  .by_cases c:b=a
   .rw[c,az.ob];exact TW _
   .rw[k b (G7! z) c];exact G7! z
  .exact hO.out.live z
 .let wf:GO! M:=#[hO.hob,by let:=hO.out;delta Bk at this ⊢;rw[c6d (b9e hr hr1)];exact this];exact tV wf _ (hK M o O wf #[X,h,.of λ_ _=>χ])
def d8m(hF:EM S)(hd:DG d):BX (AN S 3 d):=by let Y:=vW (S:=S) (B:=900) a_ hF.t;let h2:0<=Vj S:=a1y (MF _ kY!);let h3:=wY S 3;let h4:=hF.l;exact#[.inr (.inr mv_),show 1<=1+Vj S by omega,show 1+Vj S<=1000 by omega,show(1:Int)<=1+nE! by omega,show(1:Int)+nE!<=2000 by omega,hd]
def c5n(hF:EM S)(hH:a9!)(hd:DG d):Hist ut_:=hH.snoc (d8m hF hd) (show(1:Int)+nE!=_ by rw[Int.add_comm];rfl) λx hx _=>by
 let:=a1x hx;show x.tm<1+Vj S;omega
nonrec def ptO(S:h_):Op:=AN S 3 uv_
def a9k:DG uv_:=.put N_ N_
def Hd.make(h:nF!)(hF:EM S)(hd:DG d)(hR:uu_):Ip! M:=by let#[ta,wa,out,kl,ca,hA,hx,ho]:=h.hd;let hl:=hF.l;exact c8b hA h.hH h.hl λM' ae af az kp=>hR M' #[_,az.hd (c5n hF h.hH hd) (by rw[MH];show ae_+1<63;omega) h.hw,kp.w.chg hx]
def Lk.make{M1:Mh}(h:Hu! Lk S Wt X M1)(hF:EM S)(hd:DG d)(hR:uu_):Ip! M1:=by let#[X1,Y,c1]:=h;exact Y.make hF hd λM' ⟨X2,h2,c2⟩=>hR M' #[X2,h2,c1.trans c2]
def Hd.put(h:nF!)(hF:EM S)(hR:∀M',Hu! To X gU_ Wt M'->R (ptO S).nm M'):Rz t [L_,.str "root",.non] M R:=by let#[W,hr,wi]:=h.hH.rn;exact j_;exact J6! j_;exact Hu_ (h.of hr _ λM1 o O hO q=>?_);let ht:Rh vt_ [t_,ψ df_,am!] M1 (!decide (Ge W df_)):=a1g (gR (fA b_ (hO.nob oM1) b_ λK hK=>wZ hO.out χ hK));rw[NG (show Ge W df_ from .inr N_)]at ht;exact eQ ht (cX b_ ?_);exact Dg_ iU (q.make hF a9k hR)
end
section
variable{t:Az}{out:D}{o:Op}
def isn{b:Bool}(hA:J_)(h:AK S o=b):Rh fg_ nH_ M b:=by let:=Ip_ nH_ lR;rw[show(o.n==cy!+1)=b from h]at this;exact this
def zB(hA:J_)(hS:ae_<63)(hW:aI_<10)(hn:nI!)(hw:HM! iO!=[])
  (hR:∀M' ae af,Jl! Wt iO!->Jh_ M'->R bv_ M'):Hs! Fi:=by
 exact j_;exact GT_ hn;exact J6! (KZ_ kp);exact cX (dQ b_ (fB b_ (d0i az a! hw)) χ) (Ez! kp.w)
def b5r{h:Int}(hA:J_)(hH:Hist nJ!)(hw:tc_)(hl:(nJ!).length<63)
  (hR:∀M' ae af,Jk_ nJ!->Jh_ M'->Hv! (1+dZ_)):Hs! Fi:=by
 let e:S++o::Wt=S++[o]++Wt:=by simp
 let mj:ae_<62:=by rw[MH,MX]at hl;omega
 exact j_;exact GT_ hH.next;exact J6! (lA hA a! λM1 wk wm gq v8=>?_);delta Ay w2;rw[b4_];exact tO χ (d5z gq uB_ hw m4! λM' ae af az kp'=>?_);rw[<-e]at az;exact Ez! (v8.w.trans kp')
def c3t{x:Op}(h:Dv x.v o.v=τ):x.h=o.h/\x.n=o.n:=by delta Op.v at h;delta Dv Ig at h;rw[NQ,b4j,PP]at h;let h2:=h.2;delta Ig at h2;rw[NQ,b4j,PP]at h2;exact#[h.1,h2.1]
def b4e(hA:J_)(ho:f4!)(hd:uC_)(hn:uE!):Hv_ Fq=ψ C_:=by
 let#[n1,n2]:=a9p hd;let e:Hv_ Fq=Hv_ Fq.inS:=by simp![Fq,hA.wt]
 rw[e];delta Fq.inS;simp![Kv,hA.wt,OX];rw[(iW ho).1,n1,NG n2];rw[UJ,UJ,y!,bx_];congr 2;show"#%";exact hn x hx (c3t z)
def b5q(hA:J_)(hn:cy!+1<o.n)(hl:aI_<8)(ho:f4!)(hd:uC_)(hw:uE!)
  (hR:∀M',Jf! M' dl_->KE_ M'->R O_ M'):Hs! Fi:=by
 exact j_;let e0:AK S o=false:=OL.mpr a!;exact eQ (isn hA e0) ?_;let wt:=lB (o:=o) hA;rw[MU a!]at wt;let Y:Pu (Vq jC! nV_) nH_ M C_:=λK hK=>by
  delta Vq;exact gR (Fh! wt) _ ?_;exact dQ b_ jx_ (b4e hA ho hd hw) _ hK
 exact fG Y ?_;let ao:HZ_ wa=ψ mY!:=by
  show nL!;simp![Kv,hA.wt,UG,MJ]
 let h2:Rh u4_ [t_,L!,ψ C_] M true:=by
  exact gR uF!;show D7! ((dZ_:Int)<8)=_;rw[NG a!]
 exact c6m (JH_ (h2 _ hK));exact fP ?_;delta Pv;exact EF_ hF3;rw[iV!];exact dX ?_;rw[b4_,iV!];exact dX uH!;let az:Jf! (mup M wa uI!) dl_:=hA.setW;let e:Wt.map Op.v++cr!=FJ_ dl_:=by rw[NM];rfl
 rw[e];exact cX b_ (hR _ az .set)
end
section
variable{t:Az}{out:D}
def HB(t:Az):WS:=Oj 2 u7!
def KM(t:Az)(yy:Int)(a ta wa:yJ!)(I:μ Op->μ Op->μ Op->Int->D->ν):Prop:=∀(o:Op) (os S Wt:h_) (k:Int) (out:D) (M:Mh) (kl:q_) (ca:bJ_) (R:P_),I f7_ S Wt k out->Jf! M Wt->
  (∀M' S' W' j dh ae af,I os S' W' (k+j) dh->JM! M'->Jh_ M'->R a7! M')->Hs! Fi
def b2b(st:uI_):∀(os:h_) (x1:D) (k:Int) (y:ac_) (M:Mh) (out:D) (S Wt:h_) (kl:q_) (ca:bJ_) (R:r_),I os S Wt k out->Jf! M Wt->
  (∀M' S' W' k' dh ae af y',I [] S' W' k' dh->JM! M'->Jh_ M'->JQ_ [t_,ad!,ψ (.int k'),y'])->
  Ga R_ N! (HB t) ak_ [t_,ad!,b7_,y] M R
 |[],x1,k,y,M,out,S,Wt,kl,ca,R,hI,hA,hR=>#[ο,hR M S Wt k out kl ca y hI hA .rfl]
 |o::os,x1,k,y,M,out,S,Wt,kl,ca,R,hI,hA,hR=>by
  exact am_;show Er! Fi eb! [t_,ad!,b7_,L!] M _;exact Ig_ iU (st o os S Wt k out M kl ca _ hI hA λM' S' W' j dh ae af hI' az kp=>?_);exact b2b st os x1 (k+j) eB! M' dh S' W' ae af R hI' az λM2 S2 W2 k2 out2 jl jm y2 Y h2 d9=>hR M2 S2 W2 k2 out2 jl jm y2 Y h2 nP_
def b8v(nd:t.nd)(st:uI_)(hI:I ms S Wt 0 out)(hA:J_)(hf:i3!)(hl:m4_)
  (hR:∀M' S' W' k' dh ae af,I [] S' W' k' dh->JM! M'->Jh_ M'->Hv! k'):Gk_ Hx:=by
 exact j_;show Ag nX! uL! [t_,i2!,υ,υ] M _;delta Ag;exact fP (Dg_ iU (iE nd hA hf hl λM1 fr=>?_));exact G6_ aP;show H0_ g0_ HB uL_ M1 _;let hi:Ce v! uL_=ψ d1_:=jW χ;delta Cs Hb;rw[hi];exact b2b st ms _ 0 υ M1 out S Wt kl ca _ hI (Hs_ fr) λM' S' W' k' dh ae af y' Y h2 kp=>?_;exact cX b_ (hR M' S' W' k' dh ae af Y h2 ((Mp.of fr).trans kp))
def Hist.aft{A B:h_}(h:Hist (A++B))(ho:o∈B):(((hs A o.h).length:δ):Int)<o.n:=by let#[u,v,rfl]:=List.append_of_mem ho;rw[<-OE]at h;let:=h.next;rw[eE,MH]at this;omega
def d2g(p:Op->Bool)(nd:t.nd)(hA:xw_ M [] .non [] kl ca)(hf:Vo yy U [] ms)(hH:Hist nQ_)(hw:∀w∈ms,p w=θ->2<=w.n/\∀s∈ms,p s=τ->s.h≠w.h)(hl:b3_<60)(h8:(uM!).length<=8)
  (hR:∀M' ae af,Jl! uM! nQ_->Jh_ M'->Hv! ((nQ_).length:δ)):Gk_ Hx:=by
 exact b8v (I:=λr S W k out=>out=.non/\∃dn,ms=dn++r/\S=dn.filter p/\W=jy_/\k=((ff!).length:δ)) nd ?_ #[χ,[],χ,χ,χ,χ] hA hf (by show b3_<64;omega) ?_
 .rintro o os S Wt k out M kl ca R ⟨rfl,dn,em,rfl,rfl,rfl⟩ hA hR;let le:ff_+1<=b3_:=by rw[em,MH,MX];omega
  let l1:(ff!).length<=ff_:=PJ _ _;let mo:o∈ms:=by rw[em];simp
  let md:∀x∈dn,x∈ms:=λx hx=>by rw[em];exact MV _ hx
  let zo:ms=gB_++os:=by rw[em];simp
  let lw:(jy_).length<=8:=by
   exact NR ?_ h8;rw[em,PF,MH];omega
  cases c:p o with
  |true=>
   let e1:(gB_).filter p=dn.filter p++[o]:=by rw[PF,OD c];rfl
   let e2:nR_=dn.filter λo=>!p o:=by rw[PF,uO!];simp
   let hn:o.n=((I0_ ff!).length:δ)+1:=by
    rw[em,PF,OD c]at hH;exact hH.next
   exact zB hA a! a! hn uP_ λM' ae af az kp=>GA_ 1 #[χ,dn++[o],zo,χ,χ,?_] uQ! kp
   .let#[w1,w2]:=NT.mp m7;let#[w3,w4]:=hw w (md w w1) (Di_ w2);let:hs (dn.filter p++[o]) w.h=[]:=OI.mpr λs bv z=>by
     let hm:s∈ms/\p s=true:=by
      obtain q|q:=NA.mp bv
      .exact#[md s (NT.mp q).1,(NT.mp q).2]
      .rw[NB.mp q];exact#[mo,c]
     exact w4 s hm.1 hm.2 nT_
    delta AK at z;rw[this,PP]at z;simp at z;omega
   .rw[e1,MH];show((ff!).length:Int)+1=(((ff!).length+1:δ):Int);omega
  |false=>
   let e1:(gB_).filter p=dn.filter p:=by rw[PF,uO!];simp
   let e2:nR_=jy_++[o]:=by rw[PF,OD (FF_ c)];rfl
   let#[w3,w4]:=hw o mo c;let h0:I0_ ff!=[]:=OI.mpr λs bv z=>w4 s (md s (NT.mp bv).1) (NT.mp bv).2 nT_;let l2:(jy_).length<8:=by
    let:(nR_).length<=8:=by
     let q:=h8;rw[zo,PF,MH]at q;exact NR (Nat.le_add_right _ _) q
    rw[e2,MH]at this;let:([o]:μ Op).length=1:=χ;omega
   let hd:∀x∈ms,DG x.d:=λx hx=>(uU!).dg;exact b5q hA (by rw[h0];show(0:Int)+1<o.n;omega) l2 (hd o mo) (GN_ hd (md x (NT.mp hx).1)) (λx hx z=>?_) λM' az kp=>hR M' _ _ 0 _ kl ca #[χ,dn++[o],zo,χ,χ,by rw[e1];omega] uQ! kp;let nn:=hf.d;rw[em,NM,NU]at nn;exact Hw! (NE (NT.mp hx).1);show D.tup iT_=D.tup qw!;rw[z.1,z.2]
 .rintro M' S' W' k' dh ae af ⟨rfl,dn,em,rfl,rfl,rfl⟩ az kp;rw[NP]at em;cases em;exact Ez! kp
def d2h{h:Int}(nd:t.nd)(hA:J_)(hf:i3!)(hH:Hist fg!)(hw:∀o∈ms++Wt,o.h=h)(h0:ms≠[])(hl:(fg!).length<63)(h9:aI_<10)
  (hR:∀M' ae af,Jk_ fg!->Jh_ M'->R uX_ M'):Gk_ Hx:=by
 let hl2:ae_+b3_+aI_<63:=by rw[MH,MH]at hl;exact hl
 exact b8v (I:=λr S' W k out=>(r≠[]/\∃dn,ms=dn++r/\S'=S++dn/\W=Wt/\k=(ff_:δ))\/(r=[]/\S'=S++ms++Wt/\W=[]/\k=(b3_:δ)+dZ_/\out=.non)) nd ?_ (.inl #[h0,[],χ,(NP _).symm,χ,χ]) hA hf ke_ ?_
 .rintro o os S1 W1 k out1 M kl ca R (⟨_,dn,em,rfl,rfl,rfl⟩|⟨z,_⟩) hA hR
  .cases os with
   |nil=>
    let e:S++dn++o::W1=S++ms++W1:=by rw[em];simp
    exact b5r hA (AT! e hH) (GN_ hw (MF _ hx)) (AT! e hl) λM' ae af az kp=>GA_ _ (.inr #[χ,χ,χ,?_,χ]) (Do! e az) kp;rw[em,MH];show((ff_:δ):Int)+(1+uZ!)=((ff_+1:δ):Int)+uZ!;omega
   |cons r os=>
    let e:S++ms++W1=S++dn++o::(r::os++W1):=by rw[em];simp
    let le:ff_+2<=b3_:=by rw[em,MH,MX,MX];omega
    let hh:=hH;rw[e]at hh;exact zB hA ke_ h9 hh.next uP_ λM' ae af az kp=>GA_ 1 (.inl #[Q!,dn++[o],by rw[em];simp,χ,χ,by rw[MH];rfl]) (Do! OE az) kp;let q:=hH.aft m7;let e2:S++ms=S++dn++[o]++(r::os):=by rw[em];simp
    let rh:=(hw r (Eu! em)).trans (hw w (MF _ m7)).symm;let e3:hs (r::os) w.h=r::hs os w.h:=by delta hs;rw[OD (Di_ rh)]
    rw[e2,eE,e3,MH,MX]at q;delta AK at z;rw[PP]at z;omega
  .cases z
 .rintro M' S' W' k' dh ae af (⟨z,_⟩|⟨_,rfl,rfl,rfl,rfl⟩) az kp
  .exact Dl! z
  .exact Ez! kp
end
section
variable{ds:List D}{n:Nat}{N:List Str}{q q2:Ae->Option Fl}{d:D}{ρ:Ae}{f:Ae->Option D}{c:Ae->Option Bool}{r:Option Fl}
end
open TX
inductive PG:D->Prop
 |non:PG .non
 |root:PG df_
 |bin:PG gG!
 |int {i:Int}:bK_<10 ^ 61->PG ae!
 |two {a b:Int}:a.natAbs<10 ^ 61->b.natAbs<10 ^ 61->PG (.tup o4_)
 |three {a b c:Int}:a.natAbs<10 ^ 61->b.natAbs<10 ^ 61->c.natAbs<10 ^ 61->PG (.tup o5!)
def tZ(h:lx!):PG x:=by let#[a,b,rfl,h]:=h;exact .two a! a!
def jV(h:Ci x):PG x:=by
 obtain rfl|rfl|h:=h
 .exact .root
 .exact .bin
 .exact tZ h
def b9b(h:Lh x):PG x:=by
 obtain rfl|h:=h
 .exact .non
 .exact tZ h
def a4s(h:Xo x):PG x:=by let#[a,b,c,rfl,h]:=h;exact .three a! a! a!
def b2k(h:Jp x):PG x:=by
 obtain rfl|h:=h
 .exact .non
 .exact a4s h
def CN:μ D->μ cy_
 |.int i::r=>intC i::CN r
 |_=>[]
def Cm:D->μ δ
 |.non=>[45]
 |.str s=>a8_
 |.int i=>intC i
 |.tup ds=>Gl! (CN ds)
 |_=>[]
def rZ(s:Str):mk a8_=s:=by delta mk;simp
abbrev wS(w:i_):D:=.str (mk w)
def kZ:∀(ds:d_),(∀d∈ds,fe [h9!]=ψ (F d))->EH! fe ds=ψ (ds.map F)
 |[],_=>rfl
 |d::ds,h=>by
  let ih:=kZ ds λx hx=>h x aT_;let Y:=h d MB;simp![Cg,ih,MO];simp[Am,Y]
def b2d:∀(ws:bK!),Ly jB_=ψ mS!
 |[]=>rfl
 |w::ws=>by
  rw[MO,MO];show(Ly jB_).map _=_;rw[b2d ws];rfl
def kG(w:i_):(mk w).length=w.length:=by simp[mk,Str.length]
def b4b{c:δ}(h:(ws.map gY!).sum+cb!<=big):Hv cF! (.lst jB_)=Ea_ iR!:=by show(Ly jB_).bind (λys=>if(hM_).sum+ab!*(da!).length<=big then ψ (D.str (Hj_ H_))else υ)=_;rw[b2d,OX,NY,MJ];let e:(List.map ((λx=>dd_)∘mk) ws)=ws.map gY!:=OQ λw _=>kG w;rw[e,MM (by show _+ws.length*1<=big;omega),c8j]
def c2d{i:Int}(h:e0_):dd!<1920:=by
 by_cases h0:bK_=0
 .rw[h0];decide
 .rw[Nat.log2_lt h0];exact NK h c_
def str_int{i:Int}(h:e0_):Tp dc_=Ea_ aJ!:=by show(if dd!<1920 then ψ (D.str (toString i:String))else υ)=_;rw[MM (c2d h),wS,c7w]
def b1g:gZ!=(FN_ 46):=by decide+kernel
def a8h:gZ_=(FN_ 32):=by decide+kernel
def qD:(BS_ "-")=mk [45]:=by decide+kernel
def c5s(h:PG x\/∃s,x=.str s):Fh [x]=Ea_ ec_:=by
 let key:∀{is:q_},hw_<=3->nW_->Om jF_ u9_ u6_=ψ u6!:=by
  intro is hl J;let hc:=kZ (fe:=f1 Tp R!) (F:=λd=>match d with|.int i=>wS aJ!|d=>d) g0! (by
   intro d hd;let#[i,hi,rfl]:=NC.mp hd;simp[f1,Ac,Aa,Af,str_int jD_])
  rw[NY]at hc;let fz:Di! (Ru k!) nZ_ u6_=ψ u7_:=by
   show(Dc! g0! (KF! g0!))=_;rw[gD!,hc,NY];rfl
  let hs:(u8_).sum+(g1!).length<=big:=by
   let:∀(is:q_),nW_->(u8_).sum<=62*hw_:=by
    intro is
    induction is with
    |nil=>intro _;simp
    |cons i is ih=>
     intro J;let Y:=fY (J i MB);let h2:=ih λj hj=>J j la!;simp![MO,XD,MX];omega
   let Y:=this is J;rw[MJ];delta big;omega
  delta Om;rw[fz];show Hv (.str ".") u7_=_;rw[b1g,b4b hs]
 let tx:∀s:Str,Fh [bF_]=Ea_ a8_:=λs=>by
  delta wS;rw[rZ];exact JR_ sk (jS (gN χ χ))
 let tp:∀(is:q_),hw_<=3->nW_->Fh [.tup g0!]=ψ u6!:=λis Y h2=>JR_ wX (key Y h2);obtain h|⟨s,rfl⟩:=h
 .cases h with
  |non=>
   show Fh [.non]=Et! (mk [45]);rw[<-qD];exact FB_ (wX χ χ)
  |root=>exact tx _
  |bin=>exact tx _
  |int hi=>exact JR_ sk (jS (gN (str_int hi) χ))
  |@two a b ha J=>exact tp O! (by decide:2<=3) n0!
  |@three a b c ha J hc=>exact tp eO_ (by decide:3<=3) va!
 .exact tx s
def a7y:(g1_).cps.toList=n0_:=by decide+kernel
def b4r:(g2!).cps.toList=n1!:=by decide+kernel
def d3w{a b:i_}(h:mk a=mk b):a=b:=by let:=Dp! (λs=>a8_) h;simpa[mk]using this
def b2s:g1_=mk n0_:=by decide+kernel
def c5j:g2!=mk n1!:=by decide+kernel
def xN(a b:i_):(mk a==mk b)=decide (a=b):=by
 by_cases h:a=b
 .simp[h]
 .let:¬mk a=mk b:=λz=>h (d3w z);simp[h,this]
def gX{i:Int}{c:δ}(h:c=32\/c=46\/c=114\/c=98):c∉intC i:=by intro hc;let:=b0q i c hc;omega
def a3c{c:δ}(ut:c≠46):∀(is:q_),(∀i,c∉intC i)->c∉Gl! g1!
 |[],_=>by simp[joinL]
 |[i],h=>by simpa[joinL]using h i
 |i::j::r,h=>by
  rw[MO,dV_];intro z;obtain z|z:=NA.mp z
  .exact h i z
  .obtain z|z:=MD.mp z
   .exact ut z
   .exact a3c ut (j::r) h z
def c2u(i j:Int)(r:q_):46∈Gl! ((i::j::r).map intC):=by rw[MO,dV_];simp
def tS(h:PG x):32∉Cm x:=by
 cases h with
 |non=>decide
 |root=>show 32∉(g1_).cps.toList;rw[a7y];decide
 |bin=>show 32∉(g2!).cps.toList;rw[b4r];decide
 |int=>exact gX N_
 |@two a b=>exact a3c a_ O! λi=>gX N_
 |@three a b c=>exact a3c a_ eO_ λi=>gX N_
def nL:∀(ws:bK!) (c:δ),(iR!).length<=(ws.map gY!).sum+cb!
 |[],c=>by simp[joinL]
 |[w],c=>by simp[joinL]
 |w::v::r,c=>by
  rw[dV_,MH,MX];let:=nL (v::r) c;simp![MO,XD,MX]at this ⊢;omega
def a4f(h:PG x):(ec_).length<=200:=by
 cases h with
 |non=>decide
 |root=>show(g1_).cps.toList.length<=200;rw[a7y];decide
 |bin=>show(g2!).cps.toList.length<=200;rw[b4r];decide
 |int hi=>let:=fY hi;show(intC _).length<=200;omega
 |@two a b ha J=>
  let Y:=fY ha;let h2:=fY J;let:=nL vc! 46;simp at this;show(Gl! vc!).length<=200;omega
 |@three a b c ha J hc=>
  let Y:=fY ha;let h2:=fY J;let h3:=fY hc;let:=nL vc_ 46;simp at this;show(Gl! vc_).length<=200;omega
def vT{i:Int}(h:e0_):Dt [wS aJ!]=ψ ae!:=by
 let hl:=fY h;let Y:Xk [wS aJ!]=ψ ae!:=by
  show(if(dY_).length<=640 then(FO_ dY_).map D.int else υ)=_;rw[MM (EB! kG),d4p h];rfl
 exact FB_ (Js_ (eR (gN Y χ)) lb_)
def c3f(w:i_):HG n3! (wS w)=JX_ (46∈w):=by show Ev_ (!(Builtin.Str.occurrences (mk w) gZ! 0 (mk w).length 1).isEmpty)=_;rw[b1g,d4q];congr 2
def uM(c:δ):∀(ws:bK!),cb!<=(iR!).length+1
 |[]=>by simp
 |[w]=>by simp
 |w::v::vs=>by
  let ih:=uM c (v::vs);rw[dV_,MH];simp![MX]at ih ⊢;omega
def b5i{pre:bK!}(hp:∀w∈pre,46∉w)(hlast:46∉last)(hn:dW!<=(fi_).length+1)(hl:(fi_).length<=200):
  Pk (wS fi_) n3!=JN_ aA! wS:=by
 show(if(gZ!).length≠0/\(mk fi_).length<=big then ψ (Rw (Iz (mk fi_) gZ! ((mk fi_).length+1)))else υ)=_;rw[b1g,MM #[P!,by rw[kG];delta big;omega],uX hp (AT! kG hn) (.inl hlast) a_];delta Rw;rw[NY];rfl
section
variable{f g:Ae->Option D}{b:Bool}
def c0w(h:f ρ=ψ C_)(k:g ρ=ψ aH_):GB! f=ψ b:=by delta Qy;rw[fO h];exact fO k
def d8y(h:f ρ=ψ C_)(k:g ρ=ψ aH_):GB! f=ψ b:=c0w h k
def d3b(h:f ρ=ψ u_):GB! f=ψ true:=by delta Qy;rw[fO h];rfl
end
def c7i(h:PG x):Ee [wS ec_]=ψ x:=by
 let ao:=a4f h;let tup:∀{pre:q_} {last:Int} {ds:d_},x=.tup ds->ds=Hn_ aA!->pre≠[]->(∀i∈pre++dW_,bK_<10 ^ 61)->Cm x=Gl! fj!->Ee [wS ec_]=ψ x:=by
  intro pre last ds hx p7 p9 J hw;rw[hw]at ao ⊢;let e0:(aA!).map intC=pre.map intC++[n6!]:=by simp
  obtain⟨i,j,r,er⟩:∃i j r,pre++[last]=i::j::r:=by
   cases pre with
   |nil=>exact Dl! p9
   |cons i p=>cases p with
    |nil=>exact#[i,last,[],χ]
    |cons j q=>exact#[i,j,q++dW_,χ]
  let ut:46∈joinL 46 fj!:=by rw[er];exact c2u i j r
  let dw:=b5i (pre:=pre.map intC) (last:=n6!) (by
   intro w hw;let#[i,_,rfl]:=NC.mp hw;exact gX b2_) (gX b2_) (by
   let:=uM 46 (pre.map intC++[n6!]);rw[MH]at this;omega) (Do! e0 ao)
  rw[<-e0]at dw;let be:∀(w:i_),46∉w->(mk jH!==mk w)=false:=λw hw=>by
   rw[xN];exact MU λz=>hw (z▸ut)
  let n1:=be [45] a_;let n2:=be n0_ a_;let n3:=be n1! a_;let lg:=c3f jH!;rw[NG ut]at lg;let hc:=kZ (fe:=f1 Dt R!) (F:=λd=>match d with|.str s=>(match PySem.intText? s with|some i=>.int i|none=>.non)|d=>d) jI_ (by
   intro d hd;rw[NY]at hd;let#[i,hi,rfl]:=NC.mp hd;let:=vT jD_;let h2:=d4p jD_;simp[f1,Ac,Aa,Af,this,h2])
  let hmap:((jI_).map λd=>match d with|.str s=>(match PySem.intText? s with|some i=>D.int i|none=>.non)|d=>d)=Hn_ aA!:=by
   rw[NY,NY];apply OQ;intro i hi;let h2:=d4p jD_;simp[h2]
  rw[hmap]at hc;let fz:Di! (Ce n2!) g3! vh_=JN_ aA! D.int:=by
   let hi:Ce n2! vh_=ψ jI_:=by
    delta Ce Nf;show((Pk (wS jH!) n3!).bind _)=_;rw[dw];rfl
   delta Bq;rw[hi];show(Dc! jI_ g5!)=_;rw[MM (by
    let:=uM 46 fj!;rw[MJ];delta big;omega),hc];rfl
  rw[<-qD]at n1;rw[<-b2s]at n2;rw[<-c5j]at n3;subst hx;rw[<-p7]at fz;generalize joinL 46 fj!=w at *;exact gK rfl (sk vj! (sk vk! (wX vk_ (gN rfl fz))))
 cases h with
 |non=>
  exact FB_ (wX (fO fj_) χ);rw[qD];show Ev_ (mk [45]==mk [45])=_;rw[OH]
 |root=>
  show Hw_ g1_=_;rw[rZ];exact J8! (d3b fj_)
  .rw[show(BR_ "root" "-")=θ by decide+kernel]
  .rw[OH]
 |bin=>
  show Hw_ g2!=_;rw[rZ];exact J8! (d8y fj_ fj_)
  .rw[show(BR_ "bin" "-")=θ by decide+kernel]
  .rw[show(BR_ "bin" "root")=θ by decide+kernel]
  .rw[OH]
 |@int i hi=>
  let n1:(FM! "-")=false:=by rw[qD,xN];exact MU (c8r i).2
  let n2:(FM! "root")=false:=by
   rw[b2s,xN];exact MU λz=>gX (.inr b2_) vn!
  let n3:(FM! "bin")=false:=by
   rw[c5j,xN];exact MU λz=>gX (.inr mv_) vn!
  let lg:=c3f aJ!;rw[MU (gX b2_)]at lg;let hnum:=vT hi;show Ee [wS aJ!]=_;exact FB_ (sk vj! (sk vk! (sk vk_ (jS (gN hnum χ)))))
 |@two a b ha J=>exact tup (pre:=[a]) χ χ c! n0! χ
 |@three a b c ha J hc=>exact tup (pre:=O!) χ χ c! va! χ
def WG(x:D):Prop:=PG x\/∃s:Str,x=.str s/\F!<=100
def c5v(h:WG x):Fh [x]=Ea_ ec_:=c5s (h.imp id λ⟨s,e,_⟩=>#[s,e])
def d2b(h:WG x):(ec_).length<=200:=by
 obtain h|⟨s,rfl,hs⟩:=h
 .exact a4f h
 .show b7!<=200;let:b7!=F!:=by simp[Str.length]
  omega
def a0z:∀(xs:d_),(∀x∈xs,WG x)->((fk_).map gY!).sum<=200*j!
 |[],_=>by simp
 |x::xs,h=>by
  let Y:=d2b (h x MB);let h2:=a0z xs λy hy=>h y cH_;simp![MO,XD,MX];omega
def Hh(xs:d_):μ Nat:=joinL 32 fk_
def b1o{g:bj!}(hg:∀x∈xs,g [x]=Ea_ ec_):EH! (f1 g R!) xs=ψ ((fk_).map wS):=by rw[kZ (F:=λd=>wS (Cm d)) xs λd hd=>by simp[f1,Ac,Aa,Af,hg d hd],NY];rfl
def a4t(hx:∀x∈h::n::tm::ds,WG x)(hl:g_<=10):I2_ [h,n,tm,g6!]=ψ n9!:=by
 let hc:=b1o λx hm=>c5v (hx x hm);let hs:=a0z _ hx;let a1:Ar vo! bQ_=DB_ g6_:=by
  show(if 3+g_<=big then ψ (D.tup ([h,n,tm]++ds))else υ)=_;rw[cm!];rfl
 let c3:Im_ vo_ ef!=ψ vo!:=by simp[Cu,Ei,HT.sIx]
 let hi:Ru n1_ jJ_=ψ g6_:=by
  simp[DL.Ru,f2,Ek,Aa,Au,Ao,fC,c3,Ak,Fs,Kl,a1]
 let fz:Di! (Ru n1_) (f1 Fh R!) jJ_=ψ ob!:=by
  delta Bq;rw[hi];show(Dc! g6_ g5!)=_;rw[MM (by simp![MX];delta big;omega),hc];rfl
 let hj:Hv i7_ ob!=ψ n9!:=by
  rw[a8h];exact b4b ?_;simp![MX,MJ]at hs ⊢;delta big;omega
 let hq:Pl jJ_=E6! n9!:=by
  delta Pl Bh Om;rw[fz];show((Hv i7_ ob!).map Fl.rt)=_;rw[hj];rfl
 delta Cw Dk;rw[fo_];show(match Pl jJ_ with|some (.rt d)=>ψ d|some (.nx _)=>ψ .non|none=>υ)=_;rw[hq]
def c3u(a b:Str):Av vp! vp_=ψ p0_:=by
 let:Dv vp! vp_=gh_:=by
  delta Dv;delta Ig;rw[a3m];delta Ig;simp
 delta Av;rw[this];simp[Bd,Bj,Io,Ct]
def xG(h:vq!):EH! jG_ ((fk_).map wS)=ψ xs:=by
 induction xs with
 |nil=>rfl
 |cons x xs ih=>
  let Y:=c7i (h x MB);let ih':=ih λy hy=>h y cH_;simp![MO,Cg,ih'];simp[Am,f1,Ac,Aa,Af,Y]
def b1i{k:Str}(hk:lg_)(hx:vq!)(hl:j!<=3):Ev [.lst (.str k::(fk_).map wS)]=DB_ jK_:=by
 let hp:=xG hx;generalize hws:(fk_).map wS=ws at hp ⊢;let u8:cb!=j!:=by rw[<-hws];simp
 let J:(k==Str.ofString "write")=false:=by simpa using hk
 let c1:Im_ g7! bZ_=sM! [cm_]:=by
  simp[Cu,Ei,HT.sIx]
 let c2:Cu g7! bZ_ jM!=sM! ws:=by
  let e:jL_=vs_:=by omega
  show KF_ bZ_ jM!=_;delta Ei;rw[e,show(1:Int)=oc! from χ,HT.sIx_nat,HT.sIx_nat];simp
 let c3:Cu g7! jM! υ=ψ eI!:=by
  let e:jL_=vs_:=by omega
  show KF_ jM! υ=_;delta Ei;rw[e,HT.sIx_nat];simp
 let fz:Di! (Ce g3_) jG_ od!=ψ H!:=by
  let hi:Ce g3_ od!=ψ ws:=by
   simp[Ce,Ek,Aa,Ao,fC,c2]
  delta Bq;rw[hi];show(DS_ cb!)=_;rw[cm!,hp];rfl
 let a1:Ar (.lst [cm_]) H!=ψ od_:=by
  show(if 1+j!<=big then ψ (D.lst ([cm_]++xs))else υ)=_;rw[cm!];rfl
 let a2:Ar od_ eI!=ψ od_:=by
  show(if j!+1+0<=big then ψ (D.lst (jK_++[]))else υ)=_;rw[cm!,NP]
 let s1:Dj 1 n4! oe!=DM_ od!:=by
  let hq:=c3u k "write";rw[J]at hq;simp[Dj,Xn,fT,f2,Ek,Aa,Au,Ao,fC,c1,hq,f1,Ac,Af,Bw]
 let hq:Gm oe!=E6! (.tup jK_):=by
  delta Gm;rw[bI s1];simp[Bh,f1,Ac,Af,f2,Ek,Aa,Au,Ao,fC,c1,c3,fz,a1,a2,Me]
 delta Ev Dk;rw[fo_];show(match Gm oe! with|some (.rt d)=>ψ d|some (.nx _)=>ψ .non|none=>υ)=_;rw[hq]
def yN{s:Str}(ha:PG a)(J:PG b):Ev [.lst [dC_,wS (Cm a),wS (Cm b),bF_]]=ψ dD!:=by
 let hp:=xG (xs:=O!) n0!;simp![MO,RM]at hp;generalize wS (Cm a)=wa at hp ⊢;generalize wS (Cm b)=wb at hp ⊢;let hq:=c3u "write" "write";rw[OH]at hq;let c1:Cu g8! none bZ_=some (.lst [dC_]):=by simp[Cu,Ei,HT.sIx]
 let c2:Cu g8! bZ_ ef!=sM! [wa,wb]:=by simp[Cu,Ei,HT.sIx]
 let c3:Cu g8! ef! υ=sM! [bF_]:=by simp[Cu,Ei,HT.sIx]
 let fz:Di! (Ce g3_) jG_ oe_=sM! O!:=by
  let hi:Ce g3_ oe_=ψ [wa,wb]:=by
   simp[Ce,Ek,Aa,Ao,fC,c2]
  delta Bq;rw[hi];show(DS_ 2)=_;rw[MM a_,hp];rfl
 let s1:Dj 1 n4! of_=DM_ oe_:=by
  simp[Dj,Xn,fT,f2,Ek,Aa,Au,Ao,fC,c1,hq]
 let hqq:Gm of_=E6! dD!:=by
  delta Gm;rw[bI s1];simp[Bh,f1,Ac,Af,f2,Ek,Aa,Au,Ao,fC,c1,c3,fz,Ar,big,Me]
 delta Ev Dk;rw[fo_];show(match Gm of_ with|some (.rt d)=>ψ d|some (.nx _)=>ψ .non|none=>υ)=_;rw[hqq]
section
variable{t:Az}
def iQ{i:Int}(h:e0_):WG ae!:=.inl iM!
def oN{k:Str}(h:el_<=100):WG T_:=.inr #[k,χ,h]
def uW{pre:d_}(hp:∀x∈pre,32∉Cm x)(hw:∀x∈pre++dW_,WG x)(hn:dW!<=6)(hl:32∉Cm last\/dW!=6):
  Pj (wS (Hh aA!)) (.str gZ_) g4!=sM! (((aA!).map Cm).map wS):=by
 let ao:(Hh aA!).length<=100000:=by
  let Y:=nL ((aA!).map Cm) 32;let h2:=a0z _ hw;delta Hh;simp![MH,MJ,MX,RC]at Y h2 ⊢;omega
 show(if(gZ_).length≠0/\(jO_).length<=big/\(0:Int)<=6/\(6:Int)<=1000 then ψ (Rw (Iz jO_ gZ_ (limitOf jO_ 6)))else υ)=_;rw[a8h,MM #[P!,by rw[kG];exact ao,P!,P!]];let e:limitOf jO_ 6=6:=χ;let e2:Hh aA!=joinL 32 (pre.map Cm++[Cm last]):=by delta Hh;simp
 rw[e,e2,uX (by
  intro w m7;let#[x,hx,rfl]:=NC.mp m7;exact hp x hx) (AT! MJ hn) (AT! MJ hl) a_]
 delta Rw;simp[wS]
def vG(nd:t.nd){h n tm:Int}{rest:d_}{line:i_}(hh:oj!)(hn:oj_)(ht:ok!)
  (hs:Pj ef_ (.str gZ_) g4!=ψ jQ!)
  (hd:Ev [.lst rest]=ψ bQ_)(ho:Bc t [.tup jR!]=ψ u_)(hw:I2_ jR!=ψ ef_):
  Hc t ol!=ψ ol_:=by
 let c1:Im_ jQ! ef!=sM! vx_:=by
  show KF_ υ ef!=_;delta Ei;rw[vy!,HT.sIx_nat];simp[HT.sIx]
 let c2:Cu jQ! ef! υ=sM! rest:=by
  show KF_ ef! υ=_;delta Ei;rw[vy!,HT.sIx_nat];simp[HT.sIx]
 let fz:∀x,Di! (Ce n5_) g3! [x,jR_,υ]=ψ vz!:=by
  intro x;let hi:Ce n5_ [x,jR_,υ]=ψ vx_:=by
   simp[Ce,Ek,Aa,Au,Ao,fC,c1]
  delta Bq;rw[hi];show(DS_ 3)=_;rw[MM a_];simp[Cg,Am,f1,Ac,Aa,Af,vT hh,vT hn,vT ht]
 let be:Eb vA! vA!=ψ C_:=(show _=ψ (D.bl (!(mk line==mk line)))from χ).trans (FF_ OH);let ht:∀ρ:Ae,Aa 0 ρ=ψ ef_->Aa 2 ρ=ψ ol_->Qy vg_ vh! ρ=ψ false:=λρ h0 h2=>by
  delta Qy Dr;rw[fO (gN ho h2)];show(if(!τ)=τ then ψ τ else fT _ ρ)=_;rw[MY a_];exact fO (aZ (gN hw h2) h0 be)
 let ha:Ar vz! (.lst [g6!])=sM! jR!:=χ;exact FB_ ((bI (ρ':=om_) (eR hs)).trans ?_);let e2:f1 Ev vf_ om_=ψ bQ_:=gN hd c2;let e3:Im vg! om_=sM! [g6!]:=by
  delta Im;rw[cL e2 χ];rfl
 exact(bI (ρ':=[ψ ef_,jR_,ψ ol_]) (eR (gN χ (aZ (fz _) e3 ha)))).trans ?_;exact sk (Fr! ht _) lb_
def b2h:∀(r:X!),r≠[]->∃p l,r=p++[l]
 |[],h=>Dl! h
 |[a],_=>#[[],a,χ]
 |a::b::r,_=>by
  let#[p,l,e]:=b2h (b::r) c!;exact#[a::p,l,mW!]
abbrev Yl(h n tm:Int)(k:Str)(r:d_):D:=.tup [aF!,ar!,ew_,k7!]
abbrev Ta(h n tm:Int)(k:Str)(r:d_):μ Nat:=Hh (.int h::.int n::.int tm::.str k::r)
def d0h(nd:t.nd){h n tm:Int}{k:Str}(hh:oj!)(hn:oj_)(ht:ok!)(hk:lg_)(uv:32∉jS!)(pj:el_<=100)(hr:∀x∈r,PG x)(Y:r≠[])(h3:ay_<=3)
  (ho:Bc t vD!=ψ u_):Cw vD!=Ea_ vD_/\Hc t [wS vD_]=ψ (Yl h n tm k r):=by
 let hx:∀x∈(.int h::.int n::.int tm::.str k::r:μ D),WG x:=by
  intro x hx;simp![MD]at hx;obtain rfl|rfl|rfl|rfl|hx:=hx
  .exact iQ hh
  .exact iQ hn
  .exact iQ ht
  .exact oN pj
  .exact .inl p7_
 let hs:=a4t hx aV_;exact#[hs,?_];let#[p,l,rfl]:=b2h r Y;let zp:∀x∈(.int h::.int n::.int tm::.str k::p:μ D),32∉Cm x:=by
  intro x hx;simp![MD]at hx;obtain rfl|rfl|rfl|rfl|hx:=hx
  .exact fm_
  .exact fm_
  .exact fm_
  .exact uv
  .exact tS (hr x (MV _ hx))
 let dw:=uW zp vI! (by simp at h3 ⊢;omega) (.inl (tS (hr l c!)));exact Hx! vG ?_ (b1i hk hr h3) ho hs;let e:wS (Cm T_)=.str k:=by show D.str (mk jS!)=_;rw[rZ]
 rw[<-e];exact dw
def d5y(nd:t.nd){h n tm:Int}{s:Str}(hh:oj!)(hn:oj_)(ht:ok!)(ha:PG a)(J:PG b)(ZY:hP!)
  (ho:Bc t vI_=ψ u_):Cw vI_=Ea_ vJ!/\Hc t [wS vJ!]=ψ (Yl h n tm "write" h0!):=by
 let uv:32∉(BS_ "write").cps.toList:=by decide+kernel
 let hx:∀x∈(.int h::.int n::.int tm::.str "write"::h0!:μ D),WG x:=by
  intro x hx;simp![MD,ML,RF]at hx;obtain rfl|rfl|rfl|rfl|rfl|rfl|rfl:=hx
  .exact iQ hh
  .exact iQ hn
  .exact iQ ht
  .exact oN c_
  .exact .inl ha
  .exact .inl J
  .exact oN a!
 let hs:=a4t hx c!;exact#[hs,?_];let zp:∀x∈([aF!,ar!,ew_,dC_,a,b]:μ D),32∉Cm x:=by
  intro x hx;simp![MD,ML,RF]at hx;obtain rfl|rfl|rfl|rfl|rfl|rfl:=hx
  .exact fm_
  .exact fm_
  .exact fm_
  .exact uv
  .exact tS ha
  .exact tS J
 let dw:=uW zp vI! c! ed!;let e:∀k:Str,wS (Cm T_)=.str k:=λk=>by show D.str (mk jS!)=_;rw[rZ]
 exact Hx! vG ?_ (yN ha J) ho hs;let e1:=e "write";let e2:=e s;simp![QW,QD,MO,RM,e1,e2]at dw;exact dw
def d0g(nd:t.nd){h n tm:Int}(h0:0<=h)(ZH:h<16)(n1:1<=n)(n2:n<=2000)(t1:1<=tm)(t2:tm<=1000)(hd:DG d):
  ∃ds line,d=.tup ds/\vL_/\g_<=4/\line=Hh vM!/\I2_ hZ_=ψ ef_/\Hc t ol!=DB_ hZ_:=by
 let ho:=d8d nd h0 ZH n1 n2 t1 t2 hd;let hh:h.natAbs<10 ^ 61:=by omega
 let hn:n.natAbs<10 ^ 61:=by omega
 let ht:tm.natAbs<10 ^ 61:=by omega
 let nw:∀(k:Str) (r:d_),d=.tup cl_->k≠"write"->32∉jS!->el_<=100->(∀x∈r,PG x)->r≠[]->ay_<=3->
   ∃ds line,d=.tup ds/\vL_/\g_<=4/\line=Hh vM!/\I2_ hZ_=ψ ef_/\Hc t ol!=DB_ hZ_:=by
  intro k r e hk uv pj hr Y h3;subst e;let:=Hx! d0h hk uv pj hr Y h3 ho;exact#[_,_,χ,?_,by simp;omega,χ,this.1,this.2];intro x hx;simp![MD]at hx;obtain rfl|rfl|rfl|rfl|hx:=hx
  .exact iQ hh
  .exact iQ hn
  .exact iQ ht
  .exact oN pj
  .exact .inl p7_
 cases hd with
 |put Y h2=>exact DD! "put" (by simp[jV Y,b9b h2]) c!
 |move Y h2 h3=>exact DD! "move" (by simp[jV Y,jV h2,b9b h3]) c!
 |drop Y=>exact DD! "drop" (by simp[jV Y]) c!
 |@write a b s Y h2 h3 h4 h5=>
  let:=Hx! d5y (jV Y) (b2k h2) h5 ho;exact#[_,_,χ,?_,Q!,χ,this.1,this.2];intro x hx;simp![MD,ML,RF]at hx;obtain rfl|rfl|rfl|rfl|rfl|rfl|rfl:=hx
  .exact iQ hh
  .exact iQ hn
  .exact iQ ht
  .exact oN c_
  .exact .inl (jV Y)
  .exact .inl (b2k h2)
  .exact oN a!
 |@cut a x y z m Y h2 h3 h4=>
  let hm:m.natAbs<10 ^ 61:=by
   let#[x',y',z',e,g]:=h2;simp![D.tup.injEq,QJ,D.int.injEq,and_true]at e;omega
  exact DD! "cut" (by simp[jV Y,a4s h2,PG.int hm]) c!
 |@set a p v Y h2 h3 h4=>
  let hx:∀x∈[a,D.int p,D.int v],PG x:=λx hx=>by
   simp![MD,ML,RF]at hx;obtain rfl|rfl|rfl:=hx
   .exact jV Y
   .exact .int a!
   .exact .int a!
  exact DD! "set" hx c!
 |undo Y=>exact DD! "undo" vO_ c!
 |redo Y=>exact DD! "redo" vO_ c!
end
section
abbrev Cr:μ Nat:=[119,97,105,116,115,32]
def a4g:cH!=mk Cr:=by decide+kernel
def a4o(l:i_):Jc! (mk l) cH!=decide (l.take 6=Cr):=by
 rw[a4g];show(decide (0+6<=(mk l).length)&&(l.toArray.extract 0 (0+6)==Cr.toArray))=_;rw[kG];let e:l.toArray.extract 0 (0+6)=(l.take 6).toArray:=by simp[List.extract_eq_drop_take]
 rw[e];by_cases c:l.take 6=Cr
 .let hl:0+6<=S_:=by let:=JB! c;rw[QF]at this;simp at this;omega
  rw[c,NG hl,ew!];simp
 .rw[MU c];let:((l.take 6).toArray==Cr.toArray)=false:=by
   rw[OL];exact λz=>c (by let:=Jx_ z;simpa using this)
  rw[this,VN]
structure LnO(t:Az)(o:Op)(l:i_):Prop where
 sh:Cw cr!=ψ eg_
 rd:Hc t [wS l]=ψ o.v
 nw:l.take 6≠Cr
 ln:S_<=90000
variable{t:Az}{out:D}{o:Op}{l:List Nat}{k:Int}
def d7v(nd:t.nd)(h:BX o):∃l,LnO t o l:=by
 let J:0<=o.h/\o.h<16:=by let:=h.hh;omega
 let#[ds,l,e,hg,hn,el,Y,h2]:=d0g nd J.1 J.2 h.n1 h.n2 h.t1 h.t2 h.dg;let ao:S_<=90000:=by
  rw[el];let q1:=nL ((D.int o.h::.int o.n::.int o.tm::ds).map Cm) 32;let q2:=a0z _ hg;delta Hh;simp![MJ,MX]at q1 q2 ⊢;omega
 exact#[l,Y,h2,co!,ao];let e1:l=intC o.h++32::joinL 32 ((vS_).map Cm):=by
  rw[el];show joinL 32 (intC o.h::(vS_).map Cm)=_;rw[dV_]
 let h0:l.head?=ψ 119:=by
  cases l with
  |nil=>cases z
  |cons c r=>rw[List.take_succ_cons]at z;exact congrArg ψ (List.cons.inj z).1
 rw[e1]at h0;obtain z|z|z|z|z:=h.hh<;>rw[z]at h0
 .rw[show intC 0=[48]by decide+kernel]at h0;cases h0
 .rw[show intC 5=[53]by decide+kernel]at h0;cases h0
 .rw[show intC 15=[49,53]by decide+kernel]at h0;cases h0
 .rw[show intC 6=[54]by decide+kernel]at h0;cases h0
 .rw[show intC 3=[51]by decide+kernel]at h0;cases h0
def a8f{g:WF}{f1 f2 f3:n_}{K:P_}(Y:pZ!)(h2:f2 ρ=ψ y)(h3:f3 ρ=ψ z)(k:g [x,y,z] M K):Gq_ 3 AU_:=by delta Ah Ab Ad;rw[dA Y,dA h2,dA h3];exact ir_
def orF(Y:lH_)(h2:ET! fu ρ):ET! (Xb ft fu) ρ:=λK hK=>GA! hK
def d4a(hA:xw_ M [] out S kl ca)(hn:nI!)(ht:lt S o.h<o.tm):Ef_ Hy cx_ u_:=λK hK=>by
 exact j_;let hl:HZ_ wa=ψ O_:=by
  show nL!;simp![Kv,hA.wt,UG];rfl
 let hx:ET! (Je fg_) hb_:=by
  let:=a1g (gR vV_);rw[hn,OH]at this;show"#E"
 exact eQ (orF (gR (Hr! (sU jx_ hl))) hx) ?_;exact cX (dQ (aP (a9q o)) (cS b_ mG_ (lO hA)) ?_) hK;show D7! (lt S o.h<o.tm)=_;rw[NG ht]
def c8d(hA:xw_ M [] .non S kl ca)(hS:ae_<63)(hl:hc_)(hn:nI!)(ht:lt S o.h<o.tm)(hR:∀M' ae af,Jk_ iO!->Jh_ M'->D5_ M'):Jc_ l:=by
 exact j_;let e1:Gl_ eg_=ψ C_:=by
  show JG_ l=_;rw[a4o,MU hl.nw]
 exact lF e1 ?_;let e2:Dj 4 oa! vY!=Kw! eg_ C_:=eR (Gh_ hl.rd);show Fq_ oa_ vY!;delta Ag Vi;rw[e2];exact dX (pA (λK hK=>jE (b:=θ) χ _ hK) ?_);exact JH_ (gR (Fh! (d4a hA hn ht)) _ hK);exact J5_ (lA hA a! λM' ae af az kp=>hR M' ae af az kp.w)
def d4b(nd:t.nd)(hA:iW!)(hf:Ht! dl_)(hl:hc_)(hn:cy!+1<o.n)(hw:aI_<8)(hR:∀M' ae af,Jl! dl_ S->Jh_ M'->D5_ M'):Jc_ jW_:=by
 exact j_;let v4:∀x∈Wt++[o],DG x.d:=λx hx=>(uU!).dg;let hnm:∀x∈Wt,¬uD!:=λx hx z=>by
  let nn:=hf.d;rw[NM,NU]at nn;exact Hw! (NE hx);show D.tup iT_=D.tup qw!;rw[z.1,z.2]
 let e1:Gl_ hd_=ψ u_:=by
  show JG_ jW_=_;rw[a4o,NG c!]
 exact lF e1 ?_;let e0:Uz v! (Ao n9_) Au he!=ψ eg_:=by
  let el:Bw [.str cH!]=ψ g4!:=by
   show ψ (D.int ((cH!).length:δ))=_;rw[show(cH!).length=6 by decide+kernel];rfl
  let eo:Ao n9_ he!=Es_ 6:=by
   delta Ao;rw[show ED! Bw ee_ he!=ψ g4! from el];rfl
  delta Uz;rw[eo];show AF (mk jW_) 6 υ=_;delta AF;let q:=hl.ln;rw[MM #[P!,by rw[kG,MH];show 6+l.length<=100000;omega]];rfl
 let e2:Dj 4 oa! he!=Kw! hd_ u_:=eR (gN hl.rd e0);show Fq_ oa_ he!;delta Ag Vi;rw[e2];let hm:∀{K:P_},(∀M',eC_->K u_ M')->Mn t cx_ M K:=λ{K} hK=>by
  exact j_;let w1':ET! fg_ hb_:=by
   let:=gR vV_;rw[mh_]at this;show"#E"
  let w2':ET! (wT jC!) hb_:=by
   let:=Ip_ hb_ lB;rw[MU a!]at this;show"#E"
  exact eQ (orF w1' (orF w2' (gR (dQ b_ jx_ (b4e hA (v4 o c!) (GN_ v4 (MV _ hx)) hnm))))) ?_;let ao:HZ_ wa=ψ mY!:=by
   show nL!;simp![Kv,hA.wt,UG,MJ]
  exact eQ (gR uF!) ?_
  .rw[qV,mh_]
  exact J6! (iE nd hA hf (by rw[MH];show aI_+1<64;omega) λM' fr=>?_);exact cX b_ (hK M' fr)
 exact dX ?_;delta At Ex;exact G6_ jE;delta wT;exact Dg_ iU (hm λM1 fr=>?_);let gq:=Hs_ fr;dsimp only;rw[y!];exact fP ?_;delta Pv;exact dM b_ gq.ob hF3 _ ?_;rw[gL gq.wt];exact dX ?_;rw[b4_,gL gq.wt];exact dX uH!;let az:xw_ (mup M1 wa uI!) dl_ .non S kl ca:=gq.setW;let e:Wt.map Op.v++cr!=FJ_ dl_:=by rw[NM];rfl
 rw[<-e]at az;exact hR _ kl ca az ((Mp.of fr).trans .set)
abbrev CO:μ Nat:=[104,97,110,100,32]
def b4f:ou_=mk CO:=by decide+kernel
def Qt(i:Int):μ Nat:=CO++intC i
def b0f(a b:i_):mk a++mk b=mk (a++b):=by show(#[a.toArray++b.toArray]:Str)=#[(a++b).toArray];simp
def d4o(i:Int):BS_ d4!=mk aJ!:=(rZ _).symm
def a0b{i:Int}(h0:0<=i)(Y:i<16):Bu dc_=Ea_ (Qt i)/\Ar (.str "hand ") (wS aJ!)=Ea_ (Qt i):=by
 let hk:bK_<10 ^ 61:=by
  let:(16:δ)<10 ^ 61:=by decide
  omega
 let hl:=fY hk;let e5:(ou_).length=5:=by decide+kernel
 let e6:(v2_).length<=big:=by rw[Str.length_append,e5,kG];delta big;omega
 show"!i"
 .exact FB_ (jS ?_);show(if dd!<1920/\(v3!).length<=big then ψ (D.str v3!)else υ)=_;rw[d4o,MM #[c2d hk,e6],b4f,b0f];rfl
 .show(if(ou_).length+(dY_).length<=big then ψ (D.str v2_)else υ)=_;rw[EX! e5 kG,b4f,b0f];rfl
def d7z{i j:Int}(hi:0<=i/\i<16)(hj:j=3)(h:i≠j):Qt j≠Qt i:=λz=>by
 let z:=List.append_cancel_left z;let c:i.toNat<16:=by omega
 let e:i=((i.toNat:δ):Int):=by omega
 let key:∀n:Nat,n<16->∀j∈[(3:Int)],iq_≠j->intC j≠intC iq_:=by decide+kernel
 rw[e]at z h;exact key i.toNat c j (by simp;exact hj) h z
def JY(t:Az):WS:=vm_
def c7u(hy:yy=3){R:r_}(hR:∀a ta wa M',KE! M'->eC_->sE_->R (.rt bz!) M'):∀(is:i_) (y:ac_),(∀i∈is,i<16)->yy.toNat∈is->
  Ga (Cb 1) N! (JY t) v4! [v5!,y] M R:=by
 intro is
 induction is with
 |nil=>intro y _ h;cases h
 |cons i is ih=>
  intro y J hm;let hi:=J i MB;exact am_;let e1:f1 Bu b9! jY!=Ea_ (Qt (i:δ)):=gN (a0b a! a!).1 χ;let e2:Im vl_ jY!=sM! [wS (Qt (i:δ))]:=by
   delta Im;rw[cL e1 χ];rfl
  let e3:Ek k! Au dg_ jY!=sM! [wS (Qt yy)]:=by
   show D1! (Ei v4_ υ (ψ oc!))=_;delta Ei;rw[HT.sIx_none,HT.sIx_nat];simp
  let ht:fT vm! jY!=E3_ ψ (Qt yy=Qt (i:δ)):=by
   exact fO (aZ e3 e2 ?_);rw[c3u,xN]
  by_cases c:bs_=yy
  .rw[NG (by rw[c])]at ht;exact oZ (jE ht) ?_;exact zN (by rw[<-c];rfl) λa ta wa M' hA f1 f2=>hR a ta wa M' hA f1 f2
  .rw[MU (d7z #[o_,o_] hy c)]at ht;exact pA (jE ht) (ih _ (λj hj=>J j la!) ?_);obtain z|z:=MD.mp hm
   .exact Df_ a! c
   .exact z
end
section
variable{t:Az}{out:D}{l:List Nat}{k:Int}{f:Op->List Nat}
def Vo.pre(h:Ht! (Q1++Q2)):Vo yy U S Q1:=by exact#[h.u,h.s,h.i,λo ho=>h.q o hf_,λo ho=>h.y o hf_,λo ho=>h.n o hf_,?_];let:=h.d;rw[NM,NU]at this;exact this.1
def HE(t:Az):WS:=Bg vs!
def JB(ds:d_)(n:δ):μ D:=(ds.zipIdx n).map λq=>I3! (q.2+2:δ)
def c2h(nd:t.nd){R:r_}:∀(ws:h_) (n:δ) (Wt:h_) (kl:q_) (ca:bJ_) (M:Mh) (y2 y3:ac_),(∀o∈ws,LnO t o aQ_)->xw_ M Wt .non S kl ca->Ht! (Wt++ws)->(∀o∈ws,mU_+1<o.n)->(Wt++ws).length<=8->
  (∀M' ae af y2 y3,Jl! (Wt++ws) S->Jh_ M'->JQ_ jY_)->
  Ga g7_ N! (HE t) (JB (ws.map λo=>wS fp!) n) jY_ M R:=by
 intro ws
 induction ws with
 |nil=>intro n Wt kl ca M y2 y3 _ hA _ _ _ hR;rw[NP]at hR;exact#[ο,hR M kl ca y2 y3 hA .rfl]
 |cons o ws ih=>
  intro n Wt kl ca M y2 y3 hf hA hF hn hl hR;exact am_;exact dX ?_;let mj:aI_<8:=by rw[MH,MX]at hl;omega
  let e:Wt++o::ws=Wt++[o]++ws:=by simp
  rw[e]at hR hF hl;exact fP (EP_ (d4b nd hA hF.pre (hf o MB) (hn o MB) mj λM' ae af az kp=>?_));exact G7_ hF (GN_ hn aT_) hl λM2 jl jm y2 y3 h2 d9=>I3_ hR
def c8f{R:r_}:∀(os:h_) (n:δ) (S:h_) (kl:q_) (ca:bJ_) (M:Mh) (y2 y3:ac_),(∀o∈os,LnO t o aQ_)->xw_ M [] .non S kl ca->Hist (S++os)->(S++os).length<63->
  (∀M' ae af y2 y3,Jk_ (S++os)->Jh_ M'->Ga g7_ N! (HE t) (JB tl (n+ax!)) jY_ M' R)->
  Ga g7_ N! (HE t) (JB (ow!++tl) n) jY_ M R:=by
 intro os
 induction os with
 |nil=>intro n S kl ca M y2 y3 _ hA _ _ hR;rw[NP]at hR;exact hR M kl ca y2 y3 hA .rfl
 |cons o os ih=>
  intro n S kl ca M y2 y3 hf hA hH hl hR;exact am_;exact dX ?_;let mj:ae_<63:=by rw[MH]at hl;omega
  let ht:lt S o.h<o.tm:=by
   delta lt;cases e:(dT_).getLast? with
   |none=>show(0:Int)<o.tm;let:=(hH.op o c!).t1;omega
   |some x=>
    let#[m1,m2]:=eW.mp (UW e);let#[i,hi,ei]:=OZ.mp (UW e);let hq:=(hH.ch o.h).num i x (by rw[eE,PQ hi,ND hi,ei]);let:=hH.next;exact hH.rise (MV _ m1) c! m2 a!
  let e:S++o::os=S++[o]++os:=by simp
  let en:n+(f7_).length=n+1+ax!:=by rw[MX];omega
  rw[e,en]at hR;exact fP (EP_ (c8d hA mj (hf o MB) hH.next ht λM' ae af az kp=>?_));exact G7_ uB_ m4! λM2 jl jm y2 y3 h2 d9=>I3_ hR
nonrec def svL(f:Op->μ δ)(os W:h_):μ D:=wS fq!::(ow!++W.map λo=>wS fp!)
def b7g{os:h_}(nd:t.nd)(hf:∀o∈os++Wt,Gm! t)(hH:b5!)(hl:ax!<63)(hF:Vo 3 U os Wt)(hn:∀o∈Wt,(r4_:Int)+1<o.n)(hw:aI_<=8)
  (hR:∀a ta wa M' ae af,As t M' 3 a ta wa Wt .non os ae af->(∀b,M b≠υ->M' b=M b/\¬sZ!)->R bz! M'):Jd! os Wt:=by
 exact j_;exact Hu_ j_;show G4_ (JY t) Di [ox_,υ] M _;let hi:Ez b8_ [ox_,υ]=ψ ((Ee! 16).map λi=>D.int bs_):=nY χ a_;delta Ag Cs Hb;rw[hi];exact c7u χ (λa ta wa M1 hA fr1 lh=>?_) _ υ (λi hi=>RQ.mp hi) (RQ.mpr a_);show Cs vr! g7_ (HE t) we_ M1 _;let e3:Ek k! dg_ Au we_=sM! wf!:=by
  show D1! (Ei (wS fq!::wf!) (ψ oc!) υ)=_;delta Ei;rw[HT.sIx_none,HT.sIx_nat];simp![MX];rw[WH a!,Nat.add_sub_cancel,WY,WO,RH u!]
 delta Cs Wy;rw[dA e3];exact c8f os 0 [] [] iN! M1 υ υ (λo ho=>hf o hf_) hA (Di_ hH) tl_ λM2 jl jm y2 y3 rg d9=>?_;exact c2h nd Wt _ [] jl jm M2 y2 y3 (λo ho=>hf o d0_) rg hF hn hw λM' ae af y2 y3 az kp=>?_;exact cX b_ (hR a ta wa M' ae af az λb J=>?_);let q:=(d9.trans kp) b (by rw[fr1 b J];exact J) λz=>J (lh b z);exact#[q.1.trans (fr1 b J),q.2]
def c5r(h:hc_):Ar vj_ eg_=ψ hd_:=by
 let e6:(cH!).length=6:=by decide+kernel
 let q:=h.ln;show(if(cH!).length+(mk l).length<=big then ψ (D.str (Str.ofString "waits "++mk l))else υ)=_;rw[EX! e6 kG,a4g,b0f]
def shF(h:hc_):f1 Cw R! dk_=ψ eg_:=Gh_ h.sh
def wtF(h:hc_):f2 Ar ee_ g5_ dk_=ψ hd_:=aZ χ (shF h) (c5r h)
def sO{g:Op->D}(cp:ck M):∀(os:h_) (K:qj!),(∀o∈os,∀K:D->Mh->Prop,K (g o) M->fe dk_ M K)->K (os.map g) M->On m_ ck cD! fe gP_ ak_ M K
 |[],K,_,hK=>#[cp,hK]
 |o::os,K,h,hK=>by
  exact lu!;exact dX ?_;show"#:";rw[y!];exact h o MB _ (sO cp os _ qv_ hK)
def b9d(hA:Hu! As ta wa Wt out S kl ca)(hH:a9!)(hS:ae_<63)(hW:aI_<10)(hf:wj!):Pr hp_ [L_] M wk!:=λK hK=>by
 let pm:FK! aX!:=bL S;let pl:=pm.length_eq;exact j_;exact gP ?_;delta Be Ca;exact H0! hA a! ?_;exact db!;exact sO ο aX! _ (GB_ (shF (hf o (MV _ jk_)))) ?_;exact gP ?_;exact EF_ hF3;show s2!;rw[hA.wt];exact db!;exact sO hA.wt Wt _ (GB_ (wtF (hf o d0_))) ?_;let Y:Pu vl! [t_,ψ (.lst ((aX!).map λo=>wS aQ_)),ψ (.lst (Wt.map λo=>wS fp!))] M (.lst [wS fq!]):=λK hK=>by
  delta Vr Ab Ad;exact fB ny! CH! _ #[P!,hK];show Dq (Bu [.int 3]) _;rw[(a0b a_ a_).1];exact dX hK
 exact cX (dQ (dQ Y b_ (d:=.lst (wS fq!::(aX!).map λo=>wS aQ_)) ?_) b_ ?_) hK
 .show er!=_;rw[ga_];rfl
 .show er!=_;rw[ga_];rfl
def Hd.saved(h:nF!)(hf:wj!):Pr hp_ [L_] M wk!:=by let#[ta,wa,out,kl,ca,hA,_,_]:=h.hd;exact b9d hA h.hH h.hl h.hw hf
def Hd.give(h:d8_)(hR:ua!):Ob t ub! M R:=by let#[ta,wa,out,kl,ca,hA,_,_]:=h.hd;let:=h.hl;exact c3k hA h.hH a! hR
def Hd.take(nd:t.nd)(h:d8_)(hf:i3!)(hH:Hist fg!)(hw:∀o∈ms++Wt,o.h=h5)(h0:ms≠[])(hl:(fg!).length<63)
  (hR:∀M',To t M yy a X fg! [] M'->R uX_ M'):Gk_ Hx:=by
 let#[ta,wa,out,kl,ca,hA,hx,_]:=h.hd;exact d2h nd hA hf hH hw h0 hl h.hw λM' ae af az kp=>hR M' #[_,az.hd hH hl a_,kp.chg hx]
def Hd.take0(nd:t.nd)(h:d8_)(hf:Ht! Wt)(hR:∀M',ER_ Lk M M'->R O_ M'):Hx t [L_,lY!] M R:=by let#[ta,wa,out,kl,ca,hA,hx,_]:=h.hd;let hw:=h.hw;exact j_;show Ag nX! uL! [t_,ψ (.lst (([]:μ Op).map Op.v)),υ,υ] M _;delta Ag;exact J5_ (iE nd hA (AT! NP hf) (EB! NP) λM1 fr=>?_);exact G6_ aP;exact am_;exact cX b_ (hR M1 #[X,h.keepA fr,.of fr])
end
section
variable{t:Az}{o r f p:yJ!}{O:Addr->Prop}{pre xs:List D}{x:D}{k:MK}
def xZ(h:ap_)(w:By W)(hx:a5_)(hR:R fr_ M):FB! Es:=by
 let#[ad,rfl,hO,hI]:=h;let#[k,hk]:=(w.nm x hx).key;let#[k4,e4,h4,e,hq]:=hI.numV hx;let hq:M kp_=ψ fr_:=hq;let hl:(bU_).length<=big:=by rw[w.nl x hx];decide
 exact j_;simpa[Gv,Ay,w1,Ab,Ad,w2,wl,Ap,Gf,Dq,Aa,hI.ob,oF4,Cc,h4,hk,e,Xj,Kv,hq,hl]using hR
end
def Vd(W:OW)(P:D->ν):Prop:=∀x∈W.its,P x/\∀d∈W.num x,∃i:Int,d=.int i
def c1i(h:Vd W P)(hn:P n)(hs:Gi! n):Vd W' P:=by
 cases hs with
 |put _ _ _=>
  intro x hx;show P x/\∀d∈xN_,_;by_cases c:x=n
  .rw[MM c,c];exact#[hn,λd hd=>#[0,by simpa using hd]]
  .rw[MY c];let ii:x∈W.its++[n]:=hx;exact h x ((NA.mp ii).resolve_right λz=>c kW_)
 |@set a p v _ _ _=>
  split
  .intro x hx;exact#[(h x hx).1,?_];show∀d∈(if x=a then(f2!).set p.toNat lp! else W.num x),_;by_cases c:x=a
   .rw[MM c];exact λd hd=>(List.mem_or_eq_of_mem_set hd).elim ((h a (c▸hx)).2 d) λz=>#[v,z]
   .rw[MY c];exact(h x hx).2
  .exact h
 |_=>first|exact h|(split<;>exact h)
def c1j{os:h_}(hr:Ws W os W'):Vd W P->(∀o∈os,P o.nm)->Vd W' P:=by
 induction hr with
 |nil=>exact λh _=>h
 |cons hs _ ih=>exact λh g=>ih (c1i h (g _ MB) hs) λo ho=>g o (LY _ ho)
section
variable{t:Az}{a w:yJ!}{O Ow:Addr->Prop}{x:D}{k:MK}
def b2c(zq:Of t M a W Q)(hk:aG!)(hR:∀M' o O,GO! M'->Q M'->R x8_ M'):Lj t fs! M R:=by exact j_;show Ay vv_ [t_,bE!] M _;delta Ay Ba;exact tO χ (zq _ λM' o O h hQ=>#[h.nob oM1,?_]);exact#[χ,wZ h.out hk (hR M' o O h hQ)]
def uO(h:aX_)(hk:aG!)(hx:a5_):Ef_ Ch fs! av_:=λK hK=>by
 exact j_;exact fG wB! ?_;exact eQ (a1g (FD_ oM2 iM)) ?_;exact cX b_ hK
def c5u(h:aX_)(hk:aG!)(hx:cR!):Ef_ Fv fs! av_:=λK hK=>by
 exact j_;exact fG wB! ?_;exact eQ (a1g (FD_ oM1 wZ)) ?_;exact cX b_ hK
def b1r(h:aX_)(wi:By W)(hk:aG!)(hx:cR!):Ef_ Ia fs! gH_:=λK hK=>by
 exact j_;exact cX (fA (Fh! (c5u h hk hx)) j2! b_ λK hK=>xH h.out wi a_ hx hK) hK
def c0u(h:aX_)(hk:aG!)(hx:a5_)(hp:lQ_):Ef_ Na fs! p:=λK hK=>by
 exact j_;exact cX (fA wE_ j2! b_ λK hK=>a1i h.out hk hp hK) hK
def d2f(h:aX_)(wi:By W)(hk:aG!)(hx:a5_)(hl:jb_)(hj:nn!):Ef_ Td fs! v:=λK hK=>by
 exact j_;exact cX (fA wE_ j2! b_ λK hK=>a8x h.out wi hx a_ hl hj hK) hK
def c6g{f:bz_}(h:f ρ=ψ θ)(k:ez!):K3_ (JL! (Cp f)):=eQ (jE h) k
def c0f{i:δ}(hi:i<4):Dy [oD!]=ψ u_:=b4l a! a!
def c1h{i:δ}(h:aX_)(wi:By W)(hk:aG!)(hx:a5_)(hi:i<4)(hv:bU_[i]?=ψ v):Ef_ Lc [L_,x,oD!] v:=λK hK=>by
 exact j_;let hn:Ef_ Eg [L_,x,oD!] av_:=λK hK=>by
  exact j_;show Ag vv! (Ay jN_) ft! M _;let hp:Dr vu_ ft!=ψ false:=by
   let:Hp_ Dy ft!=ψ u_:=(d1t (c5l χ)).trans (c0f hi);delta Dr fT;rw[this];rfl
  let f0:Aa 0 ft!=some bz!:=rfl;let v0:Aa 1 ft!=some x:=rfl;generalize ft!=env at hp f0 v0 ⊢;exact c6g hp (cX (cS (aP f0) (aP v0) (uO h hk hx)) hK)
 let ii:Cc M fr_ mE_=ψ v:=by
  show Fs bU_ bs_=_;show"#2";rw[aN_,MM (by rw[wi.nl x hx];omega)];simpa using hv
 exact cX (dQ (fA (a5h b_ b_ b_ hn) j2! b_ λK hK=>xZ h.out wi hx hK) b_ ii) hK
def b7z(wi:By W){x:D}:Bd gH_=τ/\Io gH_<=40:=by
 let h:∀d∈chl W.rows x,Sd d:=λd hd=>(lG wi dF_ (gC.mp hd)).1.sd;show"!i"
 .show Bj nk_=τ;exact fR λd hd=>eI (h d hd)
 .show Ct nk_+1<=40;let:=gY λd hd=>kI (h d hd);omega
def KP(ft:WT)(q1 q2:WS)(ρ:Ae)(R:r_)(d:D)(M:Mh):Prop:=match d with
 |.bl b=>(if b then(if τ then q1 ρ M R else q2 ρ M R)else ft ρ M λb M1=>if b then q1 ρ M1 R else q2 ρ M1 R)
 |_=>False
def c8w(h:fa ρ M (KP ft q1 q2 ρ R)):DO_ (Xb (wT fa) ft):=h
def d7c(h:lH_)(k:ez!):KP ft q1 q2 ρ R C_ M:=by exact h _ ?_;rw[bx_];exact k
def HJ(g:ey!)(fb:WE)(ρ:Ae)(K:P_)(x:D)(M:Mh):Prop:=fb ρ M λy M2=>match g M2 x y with|some d=>K d M2|none=>False
def c5z{g:ey!}{K:P_}(h:fo ρ M (HJ g fb ρ K)):w2 g fo fb ρ M K:=h
def b8m{fb:n_}(J:fb ρ=ψ y)(hg:qQ!)(k:K d M):HJ g lz! ρ K x M:=by delta HJ;rw[dA J,hg];exact k
def IN(t:Az):WS:=J5! wU_
def b2p(zq:Of t M a W Q)(hQ:∀M',Q M'->Ew! Ow W)(wi:By W)(hl:gb!)(hk:aG!)(hx:cR!)
  (hR:∀M' o O,GO! M'->Q M'->JQ_ dr!):IN t dr! M R:=by
 exact c8w (c5z (Dg_ iU (b2c zq hk λM' o O h q=>?_)));let hL:=hQ M' q;let h2:Rh wV! dr! M' false:=by
  exact gR (dQ (Fh! (b1r h wi hk hx)) (Fh! (a4b hL wi (a3h wi hx) hl)) ?_);let#[n1,n2]:=b7z wi;exact iG n1 n2
 exact Hj! b8m (d7c h2 (hR M' o O h q));rw[NG hx];rfl
def b2q(h:aX_)(hL:j4!)(wi:By W)(hl:gb!):∀(xs:d_) (y:ac_) (R:r_),(∀x∈xs,Ge W x)->wK!->Ga R_ N! (IN t) xs wL! M R
 |[],y,R,_,hR=>#[ο,hR y]
 |x::xs,y,R,hx,hR=>by
  exact am_;let#[k,hk]:=qO wi oG!;exact b2p h.of (λM' e=>by rw[e];exact hL) wi hl hk oG! λM' o' O' h' e=>?_;let e':M'=M:=e;rw[e'];exact b2q h hL wi hl xs gu_ R wL_ hR
def c6u{f:WE}(h:ii!):Dj! (Vr (Ab f Ad)) (.lst [d]):=λK hK=>by
 exact h _ #[by show 1<=1000;decide,hK]
def b5p(hx:Sd x)(hp:Sd p):Bd oH_=τ/\Io oH_<=40:=by
 let d1:=kI hx;let d2:=kI hp;show"!i"
 .show Bj oI!=τ;exact fR λd hd=>?_;rw[NB.mp hd];exact fR λd hd=>?_;simp![MD,ML,RF]at hd;obtain rfl|rfl:=hd
  .exact eI hx
  .exact eI hp
 .let Y:Ct [x,p]<=5:=gY λd hd=>by
   simp![MD,ML,RF]at hd;obtain rfl|rfl:=hd
   .exact d1
   .exact d2
  let h2:Ct oI!<=6:=gY λd hd=>by
   rw[NB.mp hd];show Ct [x,p]+1<=6;omega
  show Ct oI!+1<=40;omega
def b5o(hL:j4!)(wi:By W)(hl:gb!)(hx:a5_)(hp:lQ_):
  Pu wW_ dr! M oH_:=λK hK=>by
 let#[wt,wn,qa,hA]:=hL;let#[e,hw]:=hA.mw;delta Be Ca;let i1:=DQ! rc! k3r;exact I1_ b_ i1;exact db!;exact EJ! i id ο _ _ bo_ ?_
 .show"!=";let#[Y,h2,_]:=G6! q;exact Cr_
  .let e1:fT j0_ ct!=ψ lR_:=by
    let:IZ_ aR_=Df! lR_:=by
     show Cs!;rw[uF];exact oO Y.sd (wi.nm x hx).sd
    show"!_"
   delta Cp;rw[e1];exact hK
  .rw[b4_];exact hK
 .let e2:((Em_ i).map id)=[.tup [x,p]]:=by
   rw[VV,SM];show(lR!).map Bf=_;rw[b4y wi hp];rfl
  rw[e2];exact hK
def b6s(h:aX_)(wi:By W)(hk:aG!)(hx:a5_):
  Pu wX_ dr! M fr_:=λK hK=>by
 let hi:Ez cA! dr!=ψ wN!:=nY χ a_;delta Be Hb;rw[hi];exact#[by simp[big],?_];let hl:=wi.nl x hx;exact cZ ge_ (λd=>match d with|.int i=>(bU_).getD i.toNat .non|_=>.non) ο _ _ bo_ ?_
 .let#[i,hi,rfl]:=NC.mp hd;let d7:=RQ.mp hi;exact#[[ov_,t_,bE!],χ,gf!,ra!];let hv:bU_[i]?=ψ ((bU_).getD i .non):=by
   rw[List.getD_eq_getElem?_getD,ND a!];rfl
  exact a5h b_ b_ b_ (c1h h wi hk hx d7 hv) _ hK
 .let e2:(((wN!).filter λ_=>τ).map λd=>match d with|.int i=>(bU_).getD i.toNat .non|_=>.non)=W.num x:=by
   match hh:W.num x,hl with
   |[a,b,c,d],_=>rfl
  rw[e2];exact hK
def b6t(hn:Vd W P)(hx:a5_):Bd fr_=τ/\Io fr_<=40:=by
 let h:=(hn x hx).2;show"!i"
 .show Bj bU_=τ;exact fR λd hd=>by let#[i,rfl]:=h d hd;rfl
 .show Ct bU_+1<=40;let:=gY (n:=0) λd hd=>by let#[i,rfl]:=h d hd;exact MZ _
  omega
def HC(t:Az):WS:=(Ag wV_
 (Ag wX!
 wY!))
def c6o{pre:d_}(h:aX_)(hL:j4!)(hw:f2_)(ak:Sb W 1500)(hn:Vd W P)(hx:a5_)(hR:DZ_ dr! M):HC t dr! M R:=by
 let wi:=hw.inv;let#[k,hk]:=(wi.nm x hx).key;let l1:=ak.rows;let l2:=ak.txt x;let#[s,hj]:=c2v hw hx a!;let#[q,hq,e]:=NC.mp ((wi.ri x).mpr hx);let#[q1,p]:=q;let e':q1=x:=e;subst e';let#[_,sp,_]:=G6! _;exact eQ ?_ ?_
 .exact gR (dQ (Fh! (d2f h wi hk hx a! hj)) (Fh! (xO hL hx hk a! hj)) ?_);exact iG χ (by show 0<=40;decide)
 exact eQ ?_ ?_
 .exact gR (dQ (c6u (a1f b_ (Fh! (c0u h hk hx hq)))) (b5o hL wi a! hx hq) ?_);let#[n1,n2]:=b5p (wi.nm q1 hx).sd sp;exact iG n1 n2
 exact pA ?_ hR;let#[wt,wn,qa,hA]:=id hL;let#[e0,hw0]:=hA.mw;let#[e1,hn1]:=hA.mn;let#[hq1,_]:=hA.mq hx;let i1:=E9! hw0 k3n;let i2:=Jb_ hn1 (by rw[nK,MM hx]);exact gR (dQ (b6s h wi hk hx) tm_ ?_);let:Wc M (.fn (qa q1))=.lst (W.num q1):=by simp![Wc,hq1]
 show Eb (.lst (W.num q1)) (Wc M (.fn (qa q1)))=_;rw[this];let#[n1,n2]:=b6t hn hx;exact iG n1 n2
def b2o{pre:d_}(cp:ck M)(h:aX_)(hL:j4!)(hw:f2_)(ak:Sb W 1500)(hn:Vd W P):∀(xs:d_) (y:ac_) (R:r_),(∀x∈xs,x∈W.its)->wK!->Ga R_ ck (HC t) xs wL! M R
 |[],y,R,_,hR=>#[cp,hR y]
 |x::xs,y,R,hx,hR=>by
  exact lu!;exact c6o h hL hw ak hn oG! ?_;exact b2o cp h hL hw ak hn xs gu_ R wL_ hR
def a9i:Uo t=Ag wS!
 (Ag (H0_ wT! IN)
 (Ag (H0_ (Kn oK_) HC)
 wY_)):=χ
def Hd.shows(h:d8_)(hO:Hist ops)(hp:S.Perm ops)(hR:∀M',ER_ Lk M M'->R u_ M'):H1! Qx f3_:=by
 let hl:=h.hl;let lo:k8_<64:=by rw[<-hp.length_eq];omega
 let es:=iJ hp h.hH.keys;exact j_;rw[a9i];exact Hu_ (c5p hO.keys hO.names lo (λo ho=>(hO.op o ho).dg) λw M1 Ow W hw0 hr hL hw ak fr=>?_);let#[pre,hw]:=hw;let wi:=hw.inv;let l1:=ak.rows;let l2:=ak.its;let Y:=h.keepA λb J=>(d1!).1;let hr':Rn S W:=by delta Rn;rw[es];exact hr
 let hn:Vd W λx=>x≠.tup p6_:=c1j hr (λx hx=>by cases hx) λo ho z=>by
  let:=(hO.op o ((bL ops).mem_iff.mp (gQ_).1)).hh;simp![Op.nm,D.tup.injEq,QJ,D.int.injEq]at z;omega
 let tx:∀{M:Mh},Bo M w Ow W->∃wt e,Cc M dK_ oz_=ψ f8_/\M wt=BS! qZ_ e:=λhL=>by
  let#[wt,wn,qa,hA]:=hL;let#[e0,h0]:=hA.mw;let#[e1,ht]:=hA.mt;exact#[wt,e1,(fS h0 χ).trans k3t,ht]
 let ek:Dj_ ct_=W.its:=by
  rw[NY];show W.its.map (λi=>i)=_;rw[List.map_id']
 let#[wt,e1,i1,ht]:=tx hL;let kd:Qq M1 [.fn wt]=sM! W.its:=by
  show((Dl M1 f8_).map λq=>D.lst il!)=_;rw[cV ht];show D1! _=_;rw[ek]
 let ad:Lw M1 (.lst qJ!) (.lst W.its)=sM! (qJ!++W.its):=by
  show(if[root,binn].length+gd_<=big then _ else υ)=_;rw[MM (by simp![MX,RC];delta big;omega)]
 delta Ag Cs Ca;exact dQ b_ (sU tn! kd) ad _ ?_;exact am_;let cu:∀M',ER_ Lk M1 M'->Ew! Ow W:=λM' ⟨X',_,c⟩=>hL.keep λb J=>c.kp b (hL.live J) λz=>(fr b (G7! z)).2 J;exact b2p (Y.of hr') cu wi a! χ b2_ λM2 o O iz q=>?_;let uq:=cu M2 q;exact b2q iz uq wi a! (binn::W.its) (ψ root) _ (λx hx=>?_) λy'=>?_
 .obtain rfl|hx:=MD.mp hx
  .exact .inr ed!
  .exact .inl hx
 show H0_ (Kn _) HC [t_,ie!,U!,y'] M2 _;let#[wt2,e12,i2,zh]:=tx uq;delta Cs Kn;exact I1_ b_ i2;rw[cV zh];exact dX ?_;rw[ek];exact b2o zh iz uq hw ak hn W.its y' _ (λx hx=>hx) λy2=>?_;let h99:¬Ge W (.tup p6_):=λz=>by
  obtain z|z|z:=z
  .exact(hn _ z).1 χ
  .cases z
  .cases z
 exact cX (Hr! (cS b_ b_ λK hK=>b2c iz.of χ λM' _ _ _ e=>by rw[MU h99,show M'=M2 from e];exact hK)) (hR M2 ?_);let#[X',g,c]:=q;exact#[X',g,(AI.of λb J=>(d1!).1).trans c]
end
section
variable{o x y:Op}
def Hist.ix(h:dc!)(ho:o∈U):∃i:Nat,(hs U o.h)[i]?=ψ o/\o.n=bs_+1:=by
 let#[i,hi,e]:=OZ.mp (eW.mpr ng!);let z:(hs U o.h)[i]?=ψ o:=by rw[ND hi,e]
 exact#[i,z,(h.ch _).num i o z]
def Hist.uniq(h:dc!)(hx:x∈U)(hy:y∈U)(e:x.h=y.h)(n:x.n=y.n):x=y:=by
 let#[i,Y,h2]:=h.ix hx;let#[j,h3,h4]:=h.ix hy;let z:i=j:=by omega
 subst z;rw[e,h3]at Y;exact(OF Y).symm
def b8x{l:h_}{k:δ}(h:∀(i:δ) (o:Op),l[i]?=ψ o->(p o=τ↔i<k)):l.filter p=l.take k/\(l.filter λo=>!p o)=l.drop k:=by
 let e1:∀o∈l.take k,p o=true:=λo ho=>by
  let#[i,hi,e]:=OZ.mp ho;let:(l.take k)[i]?=ψ o:=by rw[ND hi,e]
  rw[QF]at hi;rw[uk_]at this;exact(h i o this).mpr a!
 let e2:∀o∈l.drop k,p o=false:=λo ho=>by
  let#[i,hi,e]:=OZ.mp ho;let:(l.drop k)[i]?=ψ o:=by rw[ND hi,e]
  rw[VI]at this;cases c:p o with
  |false=>rfl
  |true=>let:=(h _ o this).mp c;omega
 show"!i"
 .conv=>lhs;rw[<-SJ k l]
  rw[PF,ON.mpr e1,OI.mpr λo ho=>by rw[e2 o ho];simp,NP]
 .conv=>lhs;rw[<-SJ k l]
  rw[PF,OI.mpr λo ho=>by rw[e1 o ho];simp,ON.mpr λo ho=>by rw[e2 o ho];rfl,QD]
def d4r(h:dc!)(k:Int):hs (srt U) k=hs U k:=by
 let p:(hs (srt U) k).Perm (hs U k):=(bL U).filter _;exact mL (kf:=Op.key) ?_ ?_ p
 .exact List.Pairwise.sublist TY (jA h.keys)
 .show(hs U k).Pairwise λx y=>Ka (Op.key x) (Op.key y)=τ;exact(List.Pairwise.and_mem.mp (h.ch k).tim).imp λ{x y} zn=>?_;exact qH.mpr (.inl zn.2.2)
def Hist.srt(h:dc!):Hist (srt U):=#[λk=>by rw[d4r h];exact h.ch k,λo ho=>h.op o (HU_ U ho)]
end
nonrec def gn(g:δ)(os:h_):μ Op:=(bi_).take g
nonrec def nt(g:δ)(os:h_):μ Op:=os.filter λo=>!decide fw!
nonrec def pq(g:δ)(os:h_)(o:Op):Bool:=!decide j8!||decide (gn g os=[])
section
variable{g:Nat}{os S:List Op}
def b0x(h:o∈gn g os):o∈os/\o.h=5:=eW.mp Ah_
def Hist.five(hS:a9!)(hH:b5!)(h5:∀o∈S,o.h≠5):Hist (S++hs os 5):=by
 exact#[mo!,λo ho=>(j7_).elim (hS.op o) λz=>hH.op o (eW.mp z).1];rw[eE];by_cases c:k=5
 .let e1:hs S k=[]:=OI.mpr λo ho z=>h5 o ho (by rw[<-c];simpa using z);let e2:hs bi_ k=hs os 5:=ON.mpr λo ho=>by rw[c];simpa using(j8_).2
  rw[e1,e2];exact hH.ch 5
 .let e2:hs bi_ k=[]:=OI.mpr λo ho z=>c ((show o.h=k by simpa using z).symm.trans (j8_).2);rw[e2,NP];exact hS.ch k
def c3j(hH:b5!):((bi_).filter λo=>!decide fw!)=(bi_).drop g:=by
 exact(b8x λi o e=>?_).2;rw[NS];let#[hi,ei]:=NH.mp e;show"!i"
 .intro z;let#[j,hj,ej]:=OZ.mp (show o∈(bi_).take g from z);let ox:j<g/\j<(bi_).length:=by rw[QF]at hj;omega
  let ej':bi_[j]'ox.2=o:=by
   rw[List.getElem_take]at ej;exact ej
  let n1:=(mg_).num i o e;let n2:=(mg_).num j o (by rw[ND ox.2,ej']);omega
 .intro z;delta gn;exact OZ.mpr #[i,by rw[QF];omega,by rw[List.getElem_take];exact ei]
def d3s(h:oM_):nt g os=os:=ON.mpr λo ho=>by rw[h];simp
def d7p(h:oM_):(cK!).filter j9_=os/\w2!=[]:=by
 rw[d3s h];let e:∀o,GC! g=true:=λo=>by delta pq;rw[NG h,Bool.or_true]
 exact#[ON.mpr λo _=>e o,OI.mpr λo _=>by rw[e];simp]
def d7o(hH:b5!)(h:ho!):(cK!).filter j9_=(os.filter λo=>!decide j8!)/\w2!=(bi_).drop g:=by
 let e:∀o,GC! g=!decide j8!:=λo=>by delta pq;rw[MU h,VX]
 show"!i"
 .delta nt;rw[QB];exact PY λo ho=>?_;rw[e];by_cases c:o.h=5
  .rw[NG c];simp
  .rw[MU c,MU λz=>c (b0x z).2];rfl
 .rw[<-c3j hH];delta nt hs;rw[QB,QB];exact PY λo ho=>?_;rw[e,Bool.not_not,Bool.and_comm]
def d9b(hH:b5!)(h:ho!):∀w∈(bi_).drop g,w.h=5/\2<=w.n/\w∈os:=λw hw=>by
 let hm:=eW.mp (Ja! hw);exact#[hm.2,?_,hm.1];let#[i,hi,e]:=OZ.mp hw;rw[List.getElem_drop]at e;let d7:g+i<(bi_).length:=by rw[SE]at hi;omega
 let n:=(mg_).num (g+i) w (by rw[ND d7,e]);let g0:g≠0:=λz=>h (by delta gn;rw[z];rfl);omega
def c1o{A B:h_}(h:A.Perm B):Vj A=Vj B:=Int.le_antisymm (Iq! h.mem_iff.mp) (Iq! h.mem_iff.mpr)
def c5m{A B:h_}(h:A.Perm B):AN A 3 d=AN B 3 d:=by delta AN;rw[c1o h,(show(hs A 3).length=(hs B 3).length from(h.filter _).length_eq)]
def b2e(h:a9!):srt aX!=srt S:=iJ (bL S) h.srt.keys
end
nonrec def wq(g:δ)(os:h_):μ Op:=(cK!).filter λo=>! GC! g
structure Wl(os:h_):Prop where
 h:Hist os
 l:ax!<=9
 t:∀o∈os,o.tm<=100
 y:∀o∈os,o.h≠3
structure Og(g:Nat)(os S:h_):Prop where
 s:Hist S
 c:gn g os=[]\/∀o∈S,o.h≠5
 l:ae_<=20
 t:∀o∈S,o.tm<=100+(ae_:δ)
section
variable{g:Nat}{os S:List Op}
def Og.few(h:bS_):EM S:=#[λo ho=>by let:=h.t o ho;let:=h.l;omega,by let:=h.l;omega]
def Og.put(h:bS_)(hl:ae_<20):Og g os gU_:=by
 let e:(gU_).length=ae_+1:=by rw[MH];rfl
 let m:=vW (S:=S) (B:=100+(ae_:δ)) a! h.t;exact#[c5n h.few h.s a9k,h.c.imp id λz o ho=>?_,o_,oP!]
 .obtain q|q:=NA.mp ho
  .exact z o q
  .rw[NB.mp q];show(3:Int)≠5;decide
 .rw[e];obtain q|q:=NA.mp ho
  .let:=h.t o q;omega
  .rw[NB.mp q];show 1+Vj S<=_;omega
def Og.srt(h:bS_):Og g os aX!:=by let pm:FK! ek_:=bL S;exact#[h.s.srt,h.c.imp id λz o ho=>z o jk_,by rw[pm.length_eq];exact h.l,λo ho=>by rw[pm.length_eq];exact h.t o jk_]
def a0v(h:oM_):wq g os=[]:=(d7p h).2
def d0m(hH:b5!)(h:ho!):wq g os=(bi_).drop g:=(d7o hH h).2
def gw(hH:b5!)(h:ho!):gn g os++wq g os=hs os 5:=by rw[d0m hH h];exact SJ _ _
def a0w(w:au_):(cK_).length<=8/\(gn g os++wq g os).length<=9:=by
 show"##"
 .rw[a0v c,c];decide
 .let e:=JB! (gw w.h c);let l1:=wY os 5;let l2:=w.l;let l3:0<(oQ!).length:=WW.mpr c;rw[MH]at e ⊢;omega
def b0w(w:au_):∀o∈gn g os++wq g os,o.h=5/\o∈os/\gn g os≠[]:=λo ho=>by
 show"##"
 .rw[a0v c,c]at ho;cases ho
 .rw[gw w.h c]at ho;exact#[(j8_).2,(j8_).1,c]
def d6l(w:au_):∀o∈wq g os,2<=o.n:=λo ho=>by
 let c:=(Iq_ d0_).2.2;rw[d0m w.h c]at ho;exact(d9b w.h c o ho).2.1
def Og.all(h:bS_)(w:au_):Hist ds_:=by
 show"##"
 .rw[a0v c,c,NP,NP];exact h.s
 .rw[OE,gw w.h c];exact h.s.five w.h (h.c.resolve_left c)
def Og.no5(h:bS_)(c:ho!):hs S 5=[]:=OI.mpr λo ho z=>h.c.resolve_left c o ho nT_
def Og.fre(h:bS_)(w:au_):Vo 3 ds_ S (wq g os++gn g os):=by
 let g5:∀o∈wq g os++gn g os,o∈gn g os++wq g os:=λo ho=>(j7_).elim (MF _) (MV _);exact#[h.all w,h.s,λo ho=>by rw[OE];exact MV _ ho,λo ho=>by rw[OE];exact MF _ oR!,λo ho=>by rw[(Iq_ oR!).1];decide,oP!,?_]
 .let#[h5,hm,c]:=Iq_ oR!;rw[h5,h.no5 c];let:=(w.h.op o hm).n1;show dX!<o.n;omega
 .let:=(oR_).names;rw[OE,NM,NU]at this;exact((List.perm_append_comm.map _).nodup_iff).mp this.2.1
def Og.len(h:bS_)(w:au_):(ds_).length<=29:=by let:=h.l;let:=(kb_).2;rw[OE,MH];omega
def Og.fewA(h:bS_)(w:au_):EM ds_:=by
 let l:=h.len w;let:=h.l;exact#[oP!,o_];rw[OE]at ho;obtain q|q:=NA.mp ho
 .let:=h.t o q;omega
 .let:=w.t o (Iq_ q).2.1;omega
def Wl.sit(w:au_):Og g os kc!:=by
 let t:=w.t;let l:=w.l;show"##"
 .rw[(d7p c).1];exact#[w.h,.inl c,o_,λo ho=>by let:=t o ho;omega]
 .rw[(d7o w.h c).1];exact#[w.h.fl 5,.inr λo ho=>by simpa using(gQ_).2,?_,λo ho=>by let:=t o (gQ_).1;omega];let:=PJ (λo:Op=>!decide j8!) os;omega
def d3t(w:au_):Vo 3 os [] cK!:=by let sb:(cK!).Sublist os:=TY;exact#[w.h,.nil,λ_ z=>(Kp! z),λo ho=>sb.subset ho,λo ho=>w.y o xf!,λo ho=>by let:=(w.h.op o xf!).n1;show dX!<o.n;omega,w.h.names.sublist (sb.map _)]
def c3q{t:Az}(nd:t.nd)(w:au_)(hA:Hu! As ta wa [] .non [] kl ca)
  (hR:∀v M' X',Ht_ 3 kc! cK_ X'->R v M'):H1! Hx xh!:=by
 let hs:=w.sit (g:=g);let l1:=hs.l;let l2:=(kb_).1;let ln:(cK!).length<=ax!:=PJ _ _;let lo:=w.l;exact d2g j9_ nd hA (d3t w) hs.s (λv hv c=>?_) a! l2 λM' ae af az kp=>hR _ M' _ (az.hd hs.s a! (by show(cK_).length<10;omega));let u5:v∈wq g os:=F6! hv c;let#[h5,hm,cg]:=b0w w v (MF _ u5);exact#[d6l w v u5,λs bv cs=>?_];rw[h5];exact hs.c.resolve_left cg s (NT.mpr #[bv,cs])
end
section
variable{t:Az}{g:Nat}{os S U l:List Op}
def b0s(hU:dc!)(ho:o∈U)(hl:∀x∈l,x∈U):HM_ Fq=Df! (!decide (o∈l)):=by
 let#[n1,n2]:=a9p λx hx=>(hU.op x (hl x hx)).dg
 let e:HM_ Fq=HM_ Fq.inS:=χ;rw[e];delta Fq.inS;simp![Kv,OX];rw[(xm!).1,n1,NG n2];rw[UJ,UJ,y!,MM ο];congr 3;by_cases c:o∈l
 .rw[NG c];exact List.any_eq_true.mpr #[o.v,NE c,?_];exact kY _ (xm!).1
 .rw[MU c];show"#%";let#[z1,z2]:=c3t z;exact c (hU.uniq (hl x hx) ho z1 z2▸hx)
def d3v{f1:n_}(w:au_)(Y:ke!)(hc:Ra 1 [2] ρ=[υ,hr_]):Dj! (Be 1 [2] (Hb kf!) m_ oM! i!) (.lst xh!):=λK hK=>by
 show"#B";exact sP ο os (λo ho=>#[gR (dQ b_ b_ (b0s w.h ho λx hx=>(b0x hx).1)),mV!]) hK
def d1z{f1:n_}(w:au_)(hU:dc!)(s1:∀o∈os,o∈U)(s2:∀o∈S,o∈U)(hi:∀o∈os,o∈nt g os->xn!)(Y:ke!)(hc:Ra 1 [2,5] ρ=[υ,hr_,ψ kf_]):
  Pu xn_ ρ M xo!:=λK hK=>by
 show"#B";exact sP (p:=λo=>!decide fw!&&!decide (o∈S)) ο os (λo ho=>#[io!,mV!]) ?_
 .let q1:=gR (dQ (ρ:=xo_) dU! gu! (b0s (M:=M) w.h ho λx hx=>(b0x hx).1));let q2:=gR (dQ (ρ:=xo_) dU! (aP (f:=Aa 2) χ) (b0s (M:=M) hU (s1 o ho) s2));exact q1 _ ?_;cases c:!decide fw! with
  |true=>rw[c]at hK;exact q2 _ hK
  |false=>rw[c]at hK;exact hK
 .let e:(os.filter λo=>!decide fw!&&!decide (o∈S))=wq g os:=by
   delta wq
   conv=>rhs;unfold nt
   rw[QB];exact PY λo ho=>?_;cases c:decide fw! with
   |true=>simp
   |false=>
    let hm:=hi o ho (F6! ho c);let:decide (o∈S)=GC! g:=by
     by_cases q:o∈S
     .rw[NG q,hm.mp q]
     .rw[MU q];cases r:GC! g with
      |false=>rfl
      |true=>exact Df_ (hm.mpr r) q
    rw[this];simp
  rw[e];exact hK
def c8z{f1 f2:n_}(Y:ke!)(h2:f2 ρ=ψ (.int (g:δ)))(hc:oU!)(hl:ax!<100):Ek (H1_ 1) Au (Ao f2) ρ=sM! oS!:=by
 let hf:∀o:Op,fT oU_ (ψ o.v::[])=Dx_ o.h 5:=λo=>fO (aZ (mP o) χ (qV _ _));let e1:H1_ 1 ρ=sM! xp!:=by
  delta Bq;rw[Y,hc];show(EQ! ak_ ak_)=_;rw[gD!,tM hf];rfl
 delta Ek Ao;rw[e1,h2];show D1! (Ei xp! υ (ψ ((g:δ):Int)))=_;delta Ei gn;rw[HT.sIx_none,HT.sIx_nat];rw[List.map_take];congr 2;simp
def LG(t:Az):WS:=Bg oN_
def Xp(g:δ)(os S:h_):Prop:=∀o∈os,o∈nt g os->xn!
def Xp.put(w:au_)(h:kh!):Xp g os gU_:=λo ho hn=>by
 rw[<-h o ho hn,NA,NB];exact#[λz=>z.elim id λz=>ξ (show o.h=3 by rw[z];rfl) (w.y o ho),.inl]
def Xp.one(w:au_):Xp g os kc!:=λo ho hn=>by
 rw[NT];exact#[λz=>z.2,λz=>#[hn,z]]
nonrec def lE(ns:q_)(os:h_)(g:δ)(a:yJ!)(y4 y5 y6 y7 y8 y9:ac_):Ae:=[bZ!,ψ ms!,hr_,t_,y4,y5,y6,y7,y8,y9]
def b9u{ns:q_}(w:au_):∀(is:i_) (S:h_) (M:Mh) (X:aE!) (y4:ac_) (R:r_),Hu! Hd S W X->Og g os S->Xp g os S->ae_+hw_<=20->
  (∀S' M' X' y4,Ht_ 3 S' W X'->Og g os S'->Xp g os S'->S'.length=ae_+hw_->JQ_ xr!)->
  Ga (Cb 4) N! (LG t) v4! xr! M R:=by
 intro is
 induction is with
 |nil=>intro S M X y4 R h hs hi hl hR;exact#[ο,hR S M X y4 h hs hi χ]
 |cons i is ih=>
  intro S M X y4 R h hs hi hl hR;rw[MX]at hl;exact am_;exact dX ?_;let e:(gU_).length=ae_+1:=by rw[MH];rfl
  exact fP (EP_ (h.put hs.few λM' ⟨X',h',c⟩=>?_));exact ih _ M' X' _ R h' (hs.put a!) (hi.put w) a! λS' M2 X2 y4 h2 s2 i2 l2=>hR S' M2 X2 y4 h2 s2 i2 tG_
end
section
variable{t:Az}{g:Nat}{os S W:List Op}{f:Op->List Nat}
def Og.take(nd:t.nd)(w:au_)(h:bS_)(hd:xs_)(hR:∀M',Hu! To X ds_ [] M'->Hv! (((oQ!).length:δ)+((cK_).length:δ))):H1! Hx oS!:=by
 let hf:=h.fre w;let hl:=h.len w;show"##"
 .let cw:=a0v c;rw[cw]at hd;rw[c,cw]at hR hf;rw[c];exact hd.take0 nd hf λM' ⟨X',g1,g2⟩=>hR M' #[X',?_,g2];rw[NP,NP];exact g1
 .exact hd.take nd hf oR_ (λo ho=>(Iq_ ho).1) c a! hR
def c4w:∀(l:h_),(∀o∈l,fe [L!]=ψ (G o))->EH! fe c0_=ψ (l.map G):=λl h=>by
 rw[kZ (F:=λd=>(fe [h9!]).getD .non) c0_ λd hd=>?_]
 .rw[NY];exact JI! (OQ λo ho=>?_);show(fe [L!]).getD .non=_;rw[h o ho];rfl
 .show"!O";rw[h o ho];rfl
def d1w{l:h_}(hi:fi ρ=ψ c0_)(hc:oU!)(hl:S_<100)(h:∀o∈l,fe [L!]=ψ (G o)):Di! fi fe ρ=sM! (l.map G):=by delta Bq;rw[hi,hc];show(EQ! c0_ c0_)=_;rw[gD!,c4w l h];rfl
def d8a:BS_ "hand 3"=mk fq!:=by decide+kernel
def d5a(h5:Ce f5 ρ=ψ hs_)(h6:Ce f6 ρ=ψ (W.map Op.v))(hc:oU!)(hf:∀o∈S++W,Gm! t)(hS:ae_<90)(hW:W.length<90):
  f2 Ar (f2 Ar w6! (JG! f5 g5_)) (JG! f6 n7_) ρ=ψ ht!:=by
 let e1:=d1w h5 hc a! λo ho=>shF (hf o hf_);let e2:=d1w h6 hc a! λo ho=>wtF (hf o d0_);exact aZ (x:=.lst oZ_) (aZ χ e1 ?_) e2 ?_
 .show(if 1+(S.map λo=>wS aQ_).length<=big then ψ (D.lst ([.str (BS_ "hand 3")]++S.map λo=>wS aQ_))else υ)=_;rw[gD!,d8a];rfl
 .show(if(oZ_).length+(W.map λo=>wS fp!).length<=big then ψ (D.lst (oZ_++W.map λo=>wS fp!))else υ)=_;rw[MM (by rw[MX,MJ,MJ];delta big;omega)];rfl
def kM:Bd ht!=τ/\Io ht!<=40:=by
 let h:∀d∈svL f S W,∃s:Str,d=.str s:=λd hd=>by
  obtain rfl|hd:=MD.mp hd
  .exact A_
  .obtain z|z:=NA.mp hd
   .let#[o,_,rfl]:=NC.mp z;exact A_
   .let#[o,_,rfl]:=NC.mp z;exact A_
 show"!i"
 .show Bj oY_=τ;exact fR λd hd=>by let#[s,rfl]:=h d hd;rfl
 .show Ct oY_+1<=40;let:=gY (n:=0) λd hd=>by let#[s,rfl]:=h d hd;exact MZ _
  omega
def Og.load(nd:t.nd)(w:au_)(h:bS_)(hf:∀o∈S++wq g os,Gm! t)(hd:xs_)
  (hR:∀a2 X2 M',Hd t M' 3 a2 ek_ cK_ X2->Ht_ 3 S cK_ X->(∀b,X b->¬X2 b)->R (.fn a2) M'):Jd! ek_ cK_:=by
 let pm:FK! ek_:=bL S;let l8:=(kb_).1;let hl:=h.l;exact b7g nd (λo ho=>hf o ?_) h.s.srt xw! (h.srt.fre w).pre (λo ho=>?_) l8 λa2 ta wa M' ae af hA fr=>hR a2 _ M' (hA.hd h.s.srt xw! a!) (hd.keepA λb J=>(d1!).1) λb J=>(fr b (hd.live b J)).2
 .exact GU! (pm.mem_iff.mp z)
 .let#[h5,_,c]:=Iq_ d0_;rw[h5,h.srt.no5 c];let:=d6l w o ho;show dX!+1<o.n;omega
end
section
variable{t:Az}{g:Nat}{os S W:List Op}{f:Op->List Nat}{ns:List Int}
def xL{g:WF}{f1:n_}{f2:WE}{K:P_}(Y:pZ!)(h:f2 ρ M λd M1=>[x,d].length=2/\g [x,d] M1 K):Ah 2 g (Dt! hR_ f2) ρ M K:=by delta Ah Ab Ad;rw[dA Y];exact h
def c1y{f:n_}{i j:Int}(h:f ρ=ψ ae!)(hj:0<j):f2 Fc f (fC a7!) ρ=Da_ (i%j):=aZ h χ (jK hj)
def b9c{f:a2!}{b:bV!}{q q2:WS}(h:oK!)(k:Ga b N! q ds ρ M λr M1=>match r with|.nx ap=>q2 ap M1 R|.rt d=>R ac! M1):K3_ (Cs (Hb f) b q):=by delta Ag Cs Hb;rw[h];exact k
def b9l:Dj! oO! (.lst (jk!).flatten):=λK hK=>#[P!,zk!,hK]
def Xp.all(hi:kh!)(ho:o∈os):o∈S++gn g os++wq g os:=by
 by_cases c:o∈gn g os
 .exact MV _ (MF _ c)
 .let hn:o∈nt g os:=NT.mpr #[ho,by rw[MU c];rfl];cases q:GC! g with
  |true=>exact MV _ (MV _ ((hi o ho hn).mpr q))
  |false=>exact MF _ (F6! hn q)
def Xp.srt(hi:kh!):Xp g os ek_:=λo ho hn=>by
 rw[<-hi o ho hn];exact(bL S).mem_iff
def Og.wts{f1:n_}(w:au_)(h:bS_)(hi:kh!)(Y:ke!)(hc:Ra 1 [2,5] ρ=[υ,hr_,ψ (.lst (FJ_ ek_))]):
  Pu xn_ ρ M xo!:=
 d1z w oR_ (λo ho=>hi.all ho) (λo ho=>by rw[OE];exact MV _ (HU_ S ho)) hi.srt Y hc
def JE(g:ey!)(x:D)(K:P_)(y:D)(M:Mh):Prop:=match g M x y with|some d=>K d M|none=>False
def d0n{g:ey!}{K:P_}(h:fb ρ M (JE g x K)):HJ g fb ρ K x M:=h
def b8n{g:ey!}{K:P_}(hg:qQ!)(k:K d M):JE g x K y M:=by delta JE;rw[hg];exact k
def TK(K:cX_)(d:D)(M:Mh):Prop:=match d with|.bl b=>K b M|_=>False
def t_w{K:cX_}(h:fa ρ M (TK K)):wT fa ρ M K:=h
def KQ(fu:WT)(ρ:Ae)(K:cX_)(b:Bool)(M:Mh):Prop:=if b then K τ M else IU_ fu
def d7b{K:cX_}(h:fa ρ M (TK (KQ fu ρ K))):Xb (wT fa) fu ρ M K:=h
def d1g{K:cX_}(h:IU_ fu):TK (KQ fu ρ K) C_ M:=h
def KN(q1 q2:WS)(ρ:Ae)(R:r_)(b:Bool)(M:Mh):Prop:=if b then q1 ρ M (λr M1=>match r with|.nx ap=>q2 ap M1 R|.rt d=>R ac! M1)else Hi_ q2
def b8y(h:ft ρ M xy_):K3_ (At ft q1 Bl):=h
def d0v(h:ez!):TK xy_ C_ M:=h
def d6b(h:Dj! fa u_)(k:fb ρ M λd M1=>R ac! M1):Ay qm_ ρ M R:=gR h _ k
def c9h(h:ci_)(hd:Io d<=40):Av d d=ψ u_:=by delta Av;rw[h,NG hd,kY d h];rfl
def d6r:Uu M ht! ht!=ψ C_:=iG kM.1 kM.2
def c0y(h:a9!):Uu M kf_ kf_=ψ C_:=by
 exact iG (show Bj hs_=τ from fR λd hd=>?_) ?_
 .show"!O";exact(xz!).1
 .let:Ct hs_<=5:=gY λd hd=>by
   show"!O";exact(xz!).2
  show Ct hs_+1<=40;omega
def d4u(h8:f8 ρ=ψ iq!)(h7:f7 ρ=ψ iq!)(hn:Eb iq! iq!=ψ C_):Qy (Dr (fT (Jn "list" f8))) (fT (f2 Eb f8 f7)) ρ=ψ false:=by
 let e1:Jn "list" f8 ρ=ψ u_:=by delta Jn;rw[h8];rfl
 delta Qy Dr;rw[fO e1];exact fO (aZ h8 h7 hn)
def c2i(nd:t.nd):CP t mi! M0 (λd _=>d=.bl τ):=by
 let#[m,em,m0,_]:=jL ns;obtain⟨N,hN⟩:∃N:Nat,(N:Int)=m%10:=#[(m%10).toNat,o_];let#[n,en,n0,_]:=jL ns;obtain⟨g,hg⟩:∃g:Nat,(g:Int)=n%3:=#[(n%3).toNat,o_];let#[r,er,r0,_]:=jL ns;obtain⟨k,hk⟩:∃k:Nat,(k:Int)=r%4:=#[(r%4).toNat,o_];let#[os,ew,ol,hH,hB]:=b5a ns 0 N a!;let w:Wl os:=#[hH,o_,λo ho=>by let:=(hB o ho).1;omega,λo ho=>(hB o ho).2.1.2];let mx:∀{ρ:Ae} {k:Int} {r:Int},Aa 0 ρ=ψ (scr ns)->Cf p2_=Da_ r->Jg! (fC go_) ρ=Da_ r:=λh e=>nQ (cL h h4_) e;exact j_;delta Zq;exact lF (nQ (Lh! (GU_ em hN)) ew) ?_;exact lF (c8z hv! (GU_ en hg) χ a!) ?_;exact gP (zN χ λa _ _ _ hA _ _=>?_);exact xC (xL χ (d3v w hv! χ _ #[χ,c3q nd w hA λ_ M2 X2 hd=>?_]));let hs:=w.sit (g:=g);let ls:(kc!).length<=9:=NR (NR (PJ _ _) (PJ _ _)) w.l;let em':Ez (DL.f2 Fc (DL.f1 Cf w2_) cA!) (lE ns os g a υ υ υ υ υ υ)=Hq! nF_:=nY (by rw[hk];exact c1y (mx χ er) a_) a!;exact b9c em' (b9u w nF_ _ M2 X2 υ _ hd hs (Xp.one w) (EB! PX) λS M X y4 hd h hi l3=>?_);let hU:=h.all w;let fU:=h.fewA w;let hV:=c5n fU hU a9k;let pm:FK! ek_:=bL S;let pU:(xC!).Perm ds_:=(xC_).append_right _;let eP:ptO xC!=ptO ds_:=c5m pU;obtain⟨f,hf⟩:∃f:Op->List Nat,∀o∈S++gn g os++wq g os++[ptO (S++gn g os++wq g os)],LnO t o (f o):=#[λo=>epsilon (LnO t o),λo ho=>epsilon_spec (d7v nd (hV.op o ho))];let zr:∀o∈S++wq g os,Gm! t:=λo ho=>hf o (MV _ (GU! go!));let oz:∀o∈K30.srt S++wq g os,Gm! t:=λo ho=>zr o ((xC_).mem_iff.mp ho);let l8:=(kb_).1;let lm:=pm.length_eq;rw[PX]at l3;exact gP (xL χ (b9l _ #[χ,hd.give λM1 fr=>?_]));let Y:=hd.keepA fr;clear fr;exact fG (h.wts w hi hv! χ) ?_;exact lF (d5a hv! hv! χ oz a! a!) ?_;exact fG (fB b_ (Y.saved zr)) ?_;exact eQ (jE (Dg_ d4u (iG kM.1 kM.2))) ?_;exact Hu_ (h.load nd w zr Y λa2 X2 M2 g2 g1 dj=>?_);let s2:=g2.saved oz;rw[b2e h.s]at s2;exact b8y (d7b (dQ (fB b_ s2) b_ d6r _ (d1g (t_w (c5z (xL χ (b9l _ #[χ,g2.give λM3 fr=>?_])))))));rw[b2e h.s];let k2:=g2.keepA fr;let k1:=g1.keepA fr;exact b8m χ (c0y h.s.srt) (d0v ?_);exact b8y (d7b (c5z (Dg_ iU (h.srt.take nd w k2 λM4 ⟨X4,m2,c4⟩=>?_))));let#[m1,d4]:=FE! k1.oth dj c4;exact d0n (iU χ χ (h.take nd w m1 λM5 ⟨X5,n1,c5⟩=>b8n (Hx_ 0) (d1g ?_)));let#[n2,d5]:=FE! m2.oth d4 c5;exact t_w (c5z (EP_ (n2.put (h.srt.fewA w) λM6 ⟨X6,p2,c6⟩=>?_)));let#[p1,d6]:=FE! n1.oth d5 c6;exact d0n (EP_ (p1.put fU λM7 ⟨X7,r1,c7⟩=>b8n ?_ (d0v ?_)))
 .rw[eP];exact Hx_ 1
 let#[r2,_]:=FE! p2.oth d6 c7;rw[eP]at r2;let pV:=pU.append_right [ptO ds_];let s1:=r1.saved λo ho=>hf o xG!;let s2:=r2.saved λo ho=>hf o (pV.mem_iff.mp xG!);rw[iJ pV ((pV.map _).nodup_iff.mpr hV.keys)]at s2;exact d6b (dQ (fB b_ s2) (fB b_ s1) (c9h kM.1 kM.2)) ?_;exact xL χ (xL χ (b9l _ #[χ,r1.give λ_ fr=>j_]));exact(r2.keepA fr).shows hV.srt (pV.trans (bL _).symm) λ_ _=>χ
end
def mT(T:g!):oV! Ok 1 "is_whole" z_ (Gn):=
 dY T.D1 f_ (Do_ (lX (jQ c8q χ T.T3 χ T.T2 cW c5h v_) (lX (d5j (jQ c3b χ T.T3 χ T.S9 cW d0f v_)) (iS (gJ b3l b3m (cK c5e d5r χ T.S7 d5w aL_) (bA d3c d3k aD aD) l_)))))
def jJ(T:g!):oV! Ok 2 "is_from_one" z_ (Ef):=
 dY T.D3 f_ (Do_ (lX xI_ (iS (gJ d7f d7h v_ aD l_))))
def mU(T:g!):oV! Ok 2 "is_below" nf_ (Hz):=
 dY T.D2 f_ (Do_ (lX xI_ (iS (a7r mO mR b3l b3m aD v_ I_))))
def jI(T:g!):oV! Ok 3 "is_name" z_ (Fk):=
 dY T.D4 f_ (Lb! (lX (KM_ mU (DR! aM! (gA T.U3 χ))) (iS xK_)))
def mG(T:g!):KK! "is_sign_name" Eo:=
 dY T.D5 f_ (Lb! (lX xL_ (iS (KM_ mU (DR! aM! pa_)))))
def a9y(T:g!):KK! "is_item" Lm:=
 dY T.D6 f_ (Do_ (a0l xN! (a0l xO_ (iS xO_))))
def xX(T:g!):KK! "is_sibling" Hk:=
 dY T.D7 f_ (Do_ (a0l xP! (iS xN!)))
def a1n(T:g!):oV! Ok 5 "is_behind" z_ (Iq):=
 dY T.D8 f_ (Je_ (Ld_ (a0l xP! (iS (Dd! mG aL_)))))
def a9x(T:g!):oV! Ok 1 "is_sign" gG_ (Fj):=
 dY T.D9 f_ (Do_ (lX (a7r mO mR mO mR aT v_ aT) (iS (gJ zE zH (cK c5c d5q χ T.T7 d5u aL_) (gA T.U6 χ) l_))))
def a9w(T:g!):oV! Ok 2 "is_text" z_ (Ll):=
 dY T.E1 f_ (Je_ (aX (K0_ (qX (fW (Ed! v_)) (lV (fW (c4d mO mR mO mR aD fC_ pa_))))) (aW (bK (KL! (fI (NL:=gG_) (NF:=[]) (ix:=[]) χ a_ c_ (AX! Pz) Bt.nil a_ χ (d5f v_) (Fo! (show(gG_:μ Str).Nodup by decide+kernel)) F_ bB_ (La_ a9x)))))))
def sW(T:g!):oV! Ok 3 "is_place" z_ (Dy):=
 dY T.E2 f_ (Do_ (aR (mU T) b! χ (aE v_ (aE (gA T.U5 χ) aJ)) aD!))
section
variable{P:yW!}{w:yM!}{K:zE!}{mg:Str->Option Value}{base:Heap}{t:Az}
def iV{g:bj!}{ps:G_}{k:δ}(h:oV! Ok k x ps g)(hm:mg x=ψ bT_)(hp:af!=1)(hk:k<=5):∃fd ps,af!=1/\oV! Fe Pi 5 aj fd ps (CI K ps.length g)/\DS! K/\EH_ K bT_=true:=by let#[f',fd,Y,h2,h3,h4]:=h;rw[hm]at h3;cases h3;exact#[fd,ps,hp,Y.mono hk,h2,h4]
protected def c9d(T:g!):oV! CW 5 1 (Jl t):=by
 intro aj g e;delta Jl at e;show"!7"
 .show"!;";exact DW! a9y T.U9
 show"!7"
 .show"!;";exact DW! xX T.V0
 show"!7"
 .show"!;";exact DW! a1n T.V1
 show"!7"
 .show"!;";exact DW! a9w T.V2
 show"!7"
 .show"!;";exact DW! mG T.V3
 show"!7"
 .show"!;";exact DW! jJ T.V4
 show"!7"
 .show"!;";exact DW! sW T.V5
 show"!7"
 .show"!;";exact DW! mT T.V6
 show"!7"
 .show"!;";exact DW! jI T.V7
 cases e
end
def iY(T:g!):oV! Db 1 t.B5 "have" nK_ gW!:=
 cM T.V8 T.K7 f_ (Dg! (nH cN a3v χ T.T4 eC (aC (qG w! fF! r! pj! cO_) aK)))
def vR(T:g!):oV! Yq 1 "Hand" t.B5 nJ_ (Jk t):=
 a1r T.K6 f_ (Je_ (aF (I4! T.X8 r!) (aF (I4! T.X9 gD) (aF (I4! T.Y0 (a2d aK)) xV_))))
def c1f(T:g!):oV! Ok 1 "_law_cell" g9! (Te):=
 dY T.Q3 f_ (Je_ (aX (fQ (a7l v_) xX! dG) (E0! aD)))
def a1q(T:g!):oV! Ih 1 "_law_children" fv! (Gy):=
 bW T.S3 f_ (KN! (gW (NL:=bC!) (NF:=[a1_]) (ix:=[1]) χ a_ c_ (AX! Mv) pk! a_ χ (eF bk_) ks! F_ pk_ pl!))
def gB(T:g!):oV! Ok 2 "_law_mix" g9! (Cf):=
 dY T.Q4 f_ (Jd_ (aX (Du! (bA fK fL (bA aQ bO (KM_ c1f (aE v_ en_)) (Ll_ aD xZ_)) aD)) (aX (Du! (KX! (Ll_ av! aD))) (E0! (KX! (bA aQ bO (Ll_ (bA oE oG av! aD) aD) av!))))))
def b6o(T:g!):oV! Ok 1 "_law_items" bP! (Ld):=
 dY T.Q5 f_ (Je_ (Ld_ (bA aQ bO (bA aQ bO pm! (fI (NL:=bC!) (NF:=[]) (ix:=[]) χ a_ c_ (AX! Ry) Bt.nil a_ χ kt! x1! F_ (λ_ _ _ _ _=>d1e (E7! pm_ aT)) x2!)) (gH (n:=12) χ))))
def b6m(T:g!):oV! Ok 1 "_law_signs" bP! (Nc):=
 dY T.Q6 f_ (Jd_ (aX (KU! pN (DR! dH x2_)) (aX (b1f NV χ kt! nd χ e! (aW (fQ (E7! kt_ aT) (aW (b1f NV χ (DU! kt_) nd χ e! (aW (sM a_ (Ld! a4_ (aE a4_ pn!)))))) dG))) (a7m (E0! I_)))))
def c1b(T:g!):oV! Ok 1 "_law_text" [cG_,ha_] (Pn):=
 dY T.Q7 f_ (Jd_ (aX (eM nd χ aK_ aT) (Ld_ (a3q aT (fI (NL:=[aR!]) (NF:=[cG_,oo_]) (ix:=[0,2]) χ a_ c_ (AX! Tz) (FR_ 0 kv!) a_ χ (fZ χ T.T8 (KO! aD (bA fK fL v_ I_))) (oW! [aR!,cG_,oo_]) F_ bB_ (DD_ (aO aH aN av! (bA fK fL (bA oE oG I_ (KO! aD (Ll_ aD v_))) aD) p_)))))))
def kQ(T:g!):oV! Ok 1 "_law_pick" op_ (Dm):=
 dY T.Q8 f_ (Je_ xX!)
def c1e(T:g!):oV! Ok 3 "_law_deed" xj! (Jw):=
 dY T.Q9 f_ (λhr nd=>(aX (Du! (Jq! en_)) (aX (KU! eM (Ll! b6o)) (aX (Du! (Jg_ (KO! (cH aE_ ch! dD) (Le! aE_)))) (aX (Du! (Jg_ (KO! aE_ pp_))) (aX (fQ (Ed! cR_) (aW (Du! dH)) dG) (aX (Du! (gH (n:=19) χ)) (aX (Du! (Jz_ bC_ yc!)) (aX (fQ hC_ (DI_ yd!) dG) (aX (Jw_ yd!) (aX (Jw_ aJ) (aX (KU! eM (Jg_ (Ll! b6m))) (aX (Jw_ (aE kx_ (aE (KM_ c1b (aE ya_ pn!)) aJ))) (aX (fQ (qZ (xD hC_ (qY (FS! kx_)))) (DI_ (aE bD_ (aE kx_ (aE (bA aQ bO aD (bA fK fL yg! (bA vL vS aD (Jz_ kx_ aD)))) aJ)))) dG) (aX (fQ (bJ zF d1h ci! pp_ χ) (Ld_ (dO (aE aT (aE bD_ (DR! yi! (bA vL vS yi! aD)))))) dG) (aX (eM nd χ e! (bA aQ bO (fI (NL:=bC!) (NF:=[]) (ix:=[]) χ a_ c_ (AX! Ud) Bt.nil a_ χ (eA av!) x1! F_ bB_ x2!) (Lk! (K8_ aD (KK_ aD yc!))))) (DI_ (aE (Jg_ (aA 11)) aJ))))))))))))))))))
def a5x(T:g!):oV! Ih 1 "_law_hang" hk_ (Iu):=
 bW T.R6 f_ (λhr nd=>(aF (jT (NL:=bC!) (NF:=[a1_]) (ix:=[1]) nd χ e! χ a_ c_ (AX! Uc) pk! a_ χ (eF bk_) ks! F_ (El_ (fJ (KR! aM! I_))) eq_) (aF kC_ (aF (kR NV (fJ (qZ (xD (bJ b3l b3m aE_ ym! l_) (qY (KR! (Jz_ (EX_ bD! aE_) aD) av!))))) (Jq_ aE_)) (aF (eV NV χ (EG! ym!) aM_ (dN 6) (aG (cF (fJ (qZ (xD (FS! aD_) (qY (KX_ (EX_ bD! bD_) (Ld! aD_ ch_)))))) (Jq_ bD_) bQ))) (aG (dU w! l! bk! (aB (bA aQ bO (bA aQ bO (cH bD! dD (cQ aE_)) (Lk! (Ld! I_ ch_))) (cH bD! (cQ aE_) dD))))))))))
def c1d(T:g!):oV! Ih 1 "_law_lies" xk! (Lo):=
 bW T.R7 f_ (Jd_ (aF (kR NV (fJ yr_) (aF (jT (NL:=bC!) (NF:=[a1_]) (ix:=[1]) nd χ e! χ a_ c_ (AX! Ub) pk! a_ χ (eF bk_) ks! F_ pk_ pl!) (aF (cF (fJ (fW (a7l aD_))) cj_ bQ) (aG (Ir! hI_))))) cj_))
def a5w(T:g!):oV! Ih 2 "_law_move" hk_ (Ir):=
 bW T.R8 f_ (Je_ (aG (cF (oR (kD (ES! r! bk_) (iH (oR (vX (ES! G! bk_) (rY (ES! G! hJ_))))))) (aG (cF (nA (K9! c1d (aC l! (aC G! aw_)))) (aG (KU_ a5x (aC l! (aC r! py_)))) bQ)) bQ)))
def d3m(T:g!):oV! Ih 3 "_law_do" [cd_,bQ!] (Xl):=
 bW T.R9 f_ (λhr nd=>(aF (Ir! es_) (aF (bG nd χ aK_ (aB (K8_ fL! fL!))) (aG (cF ck_ (aF (Db_ (d1n (JS! a7_ bk_) (sA (Lh_ a4_)))) (aF (dU w! bk_ an! pj!) (aF (dU w! bk_ an! (a2d (aC aw! (aC aw! (aC aw! kH_))))) (Ir_ (aM (a5x T) b! χ (aC l! (aC an! (aC (aB (c4n (eH bD!) a4_ aT)) kI_)))))))) (aG (cF ck_ (Kd_ hL!) (aG (cF ck_ (Kd_ (aC a7_ kK!)) (aG (cF pB! (aG (dU w! yB_ a7_ a7_)) (aG (cF pB! (aF yC! (aF kC_ (aF (eV NV χ (nF (DU! aE_)) aM_ (dN 7) (aG (cF (fJ (KX_ (Jz_ (EX_ aE_ cR_) aD) a4_)) (Jq_ cR_) bQ))) (aF (jT (NL:=[aR!]) (NF:=[fp_,oI_]) (ix:=[2,3]) nd χ e! χ a_ c_ pB_ (FR_ 2 pC!) a_ χ (nF (DU! a4_)) (oW! [aR!,fp_,oI_]) F_ dy! (DD_ (aB (dO (aE (KK_ av! (dO aL_)) (aE (Jz_ fL! v_) (aE fE aJ))))))) (aG (dU w! bk_ a7_ (aB (bA aQ bO (KK_ (cH aE_ dD (cQ bD_)) bC_) (cH aE_ (cQ bD_) dD))))))))) (aG (cF pB! (aF (bG nd χ aK_ (gW (NL:=[aR!]) (NF:=[fp_]) (ix:=[2]) χ a_ c_ pB_ kv! a_ χ (EG! a4_) (oW! [aR!,fp_]) F_ dy! (DD_ (aB (bA aQ bO (Le! fL!) (Ld! (KO! (Jz_ fL! aD) v_) aJ)))))) (aF yC! (aG (dU w! bk_ a7_ (gW (NL:=[kN_]) (NF:=[de!]) (ix:=[9]) χ a_ c_ pB_ (FR_ 9 Bt.nil) a_ χ (nF (eA aE_)) (oW! [kN_,de!]) F_ dy! (DD_ (a2b (aC en! (aC en! (aC (wD en! (sA (jN fM_ eJ en! r! χ))) aK)))))))))) bQ)))))))))))))))
def sX(T:g!):oV! Ih 1 "_law_ordered" bP! (Fg):=
 bW T.R4 f_ (Jd_ (aF pF! (aF (eV NV χ (nF kt!) aM_ (dN 2) (aF (Lj_ (b4p yS_)) (aF (kR NV (fJ (qZ (xD (bJ a5q a5r aD_ aD l_) (qY (bJ (d3i (Ai.units0 hr)) d3q (K8_ yV! yV!) (K8_ a4_ a4_) l_))))) (aG (Lj_ yW_))) (aG (b7c (b7r a_ aD_ av!)))))) (vY dz!))))
def b0b(T:g!):oV! Ih 2 "_law_undone" bP! (Ln):=
 bW T.R5 f_ (K4! (eV NV χ y3_ aM_ (dN 2) (aG (cF (ES! kT_ hJ_) (aG (dU w! r! kT_ (Lh_ kt_))) bQ))))
def c1c(T:g!):oV! Ih 4 "_law_play" bP! (Po):=
 bW T.S0 f_ (Jd_ (aF (Db_ (qF w! (iZ bk! pj! (iZ bk! gD (iZ bk! gD vZ))))) (aF (KM! b0b) (aF (eV NV χ y3_ aM_ dz_ (aG (cF (oR (kD (K9_ (aB (EX_ kE_ aD)) hJ_) (iH (nA (eK (qG w! G! (aB (K8_ kE_ kE_)) fJ_ cO_)))))) (aG (KU_ d3m pI!)) bQ))) dz!))))
def vQ(T:g!):oV! Ih 1 "_law_shown_text" fv! (Gu):=
 bW T.S4 f_ (KN! (b3w (gW (NL:=[kN_]) (NF:=[]) (ix:=[]) χ a_ c_ (AX! Ku) Bt.nil a_ χ (eF (ED_ bk_ r!)) (oW! [kN_]) F_ (El_ (fJ (eH aM!))) pl!)))
def gU(T:g!):oV! Db 1 t.B6 "has" aB! gx_:=
 cM T.V9 T.G6 f_ (Dg! (JS! r! fO_))
def rV(T:g!):oV! Ok 1 "time_and_hand" aY! (De):=
 dY T.E6 f_ (Do_ x1_)
def mV(T:g!):oV! Ok 4 "in_order" cB! (Cy):=
 dY T.E7 f_ (Do_ (c4m (rV T) (Ai.in1 (Ai.in1 b!)) χ χ T.T9 v_))
def oI(T:g!):oV! Yq 1 "Row" t.B7 [K!] (Fx t):=
 a1r T.E8 f_ (Je_ (aF (gV T.W3 T.W4 l! zb!) (aG (gV T.W3 T.W5 l! zb!))))
def xY(T:g!):oV! Yq 3 "Outline" t.B6 [K!] (Hm t):=
 a1r T.F9 f_ (Je_ (aF (gV T.V9 T.W6 l! (Is! cQ! cQ!)) (aF (gV T.V9 T.W7 l! (Is! kU_ kU_)) (aF (Gm_ T.W8) (aF (Gm_ T.W9) (aF (Gm_ T.X0) (aG (Gm_ T.X3))))))))
def jG(T:g!):oV! Ok 1 "is_undo_or_redo" aY! (Aw):=
 dY T.J9 f_ (Do_ (a0l zf_ (iS zf_)))
def xW(T:g!):oV! Ih 5 "last_words" cB! (Fw):=
 bW T.K0 f_ (K4! (eV NV χ zg! aM_ (dN 2) (aG (cF (fJ (eH (Ll! jG))) (aG (dU w! r! kT_ kT_)) bQ))))
def b6g(T:g!):oV! Ih 6 "undone" cB! (La):=
 bW T.K3 f_ (Jd_ (aF (KM! xW) (aF hQ! (aF (eV NV χ (nF kt!) aM_ dz_ (aF pN! (aG (cF (oR (kD (KV! (Dd! jG pn!)) (iH (KV_ (c1x w! r! bm_ cO_) bk!)))) (aG (dU w! G! bm_ fJ_)) bQ)))) fR!))))
def qB(T:g!):oV! Db 1 t.B7 "holds" aB! (Fn t):=
 cM T.W3 T.E9 f_ (Dg! (wD zk_ (sA (JS! r! dB!))))
def gS(T:g!):oV! Db 2 t.B7 "put_behind" [K!,ai!,di!] (Cj t):=
 cM T.W3 T.F6 f_ (Jd_ (aF (Db_ (d1o (eK (cD (qB T) b! l! dB_)) G! cQ!)) (aF (KQ! dB! an!) (aF (dU w! dB! an! r!) (aF (GO_ kV_ an!) (aF (GO_ dB! bm_) (aG (dU w! kV_ bm_ r!))))))))
def vO(T:g!):oV! Db 3 t.B6 "put" gN_ (Jb t):=
 cM T.V9 T.G9 f_ (Jd_ (aF (Db_ (d1o (eK zp!) G! bk!)) (aF (GO_ pP! bm_) (aF (KS_ bm_) (aF (GO_ fO_ kU_) (aF (GO_ kW! kU_) (aG (GO_ zr! (c7x kH_ (aB (gA T.U5 χ)))))))))))
def tQ(T:g!):oV! Db 1 t.B7 "take_out" aB! (Ic t):=
 cM T.W3 T.F7 f_ (Jd_ (aF (Db_ (c1v w! kV_ r! cO_)) (aF (Db_ (c1v w! dB! r! cO_)) (aF (dU w! dB! G! an!) (aG (dU w! kV_ an! G!))))))
def dR(T:g!):oV! Db 1 t.B6 "has_item" aB! (Bx t):=
 cM T.V9 T.G7 f_ (Dg! (JS! r! kW!))
def mX(T:g!):oV! Db 1 t.B6 "is_within" nt! (Fb t):=
 cM T.V9 T.G8 f_ (Jd_ (aF (kR NV (fJ (qZ (xD (FS! I_) (qY yr_)))) (aG (Db_ pR!))) (GC_ zk_)))
def oQ(T:g!):oV! Db 2 t.B6 "can_move" nx_ (Ea t):=
 cM T.V9 T.H9 f_ (Dg! (wD pR_ (wD zp! (sA (d3z (cD (mX T) b! l! (aC G! aw_)))))))
def mI(T:g!):oV! Db 3 t.B6 "move" gN_ (Fz t):=
 cM T.V9 T.J0 f_ (Je_ (aF (KP_ (DU_ oQ (aC r! dB_))) (aF (cE (cD (tQ T) b! (ED_ fO_ pR!) aw_)) (aF (KS_ G!) (aG (GO_ pP! G!))))))
def rX(T:g!):oV! Db 3 t.B6 "write" xf_ (He t):=
 cM T.V9 T.J1 f_ (Jd_ (aF (KP_ (DU_ dR dB_)) (aF (Db_ an!) (aG (eV NV χ (nF (c4l χ T.T1 bD!)) zx! (a7d 6 7) (aF (Lj_ (KO! I_ (Ld! bD_ aJ))) (aF (cE (cD (gS T) b! (ED_ kW! G!) (K4_ (aB bC_) kY_))) (aF (dU w! (bE T.V9 T.X0 l!) (aB bC_) (aB cR_)) (aG (Lj_ bC_))))))))))
def vP(T:g!):oV! Db 2 t.B6 "cut" xg! (Jc t):=
 cM T.V9 T.J2 f_ (Jd_ (aF (KP_ pR_) (aG (eV NV χ (nF (b7s χ T.T8 a4_ (KO! a4_ aD_))) aM_ (dN 4) (aF (Lj_ (KO! (Le! av!) (Ld! bD! aJ))) (aG (cF (eK (cD (qB T) b! zA_ (aC kY_ aK))) (aG (dU w! (bE T.V9 T.X3 l!) kY_ fJ_)) bQ)))))))
def mJ(T:g!):oV! Db 2 t.B6 "set_number" nz_ (Er t):=
 cM T.V9 T.J3 f_ (Je_ (aG (cF (eK pR_) (aG (dU w! zB! G! an!)) bQ)))
def c7q(T:g!):oV! Ih 4 "play" nI_ (Mm t):=
 bW T.K4 f_ (Je_ (aG (cF ck_ (KO_ vO (aC r! (aC a7_ kI_))) (aG (cF ck_ (KO_ mI hL!) (aG (cF ck_ (KO_ mI (aC a7_ kK!)) (aG (cF ck_ (KO_ rX (aC r! hL!)) (aG (cF ck_ (KO_ vP hL!) (aG (cF ck_ (KO_ mJ hL!) bQ)))))))))))))
def b6h(T:g!):oV! Ih 7 "played" cB! (Lb t):=
 bW T.K5 f_ (Jd_ (aF (Db_ (nG (xY T) b! χ)) (aF (KM! b6g) (aF (eV NV χ zg! aM_ dz_ (aF pN! (aG (cF (K9_ bm_ G!) (Ir_ (Li! c7q (aC r! (K4_ bm_ hI_)))) bQ)))) dz!))))
def lL(T:g!):oV! Ih 5 "all_taken" aZ_ (Ep t):=
 bW T.K8 f_ (Jd_ (aF pF! (aF (eV NV χ (b0g fF!) aM_ (dN 2) (aG (b7d a_ (ED_ fF! G!)))) (vY (Le_ (aB (Dd! mV en_)))))))
def kC(T:g!):oV! Ih 8 "outline_of" aZ_ (Dh t):=
 bW T.K9 f_ (Je_ (aF (cF (cU a1j (Gr.m a1s) zI! cQ! l_) (aG (gV T.V8 T.Y1 l! (rL! b6h (aC pW_ aK)))) bQ) (GC_ zI!)))
def a5s(T:g!):oV! Ih 9 "there" a0_ (Lj t):=
 bW T.P3 f_ (Jt_ gU zK!)
def mW(T:g!):oV! Db 1 t.B6 "parent_of" aB! (Fa t):=
 cM T.V9 T.J4 f_ (Dg! pR!)
def fM(T:g!):oV! Ih 9 "outline_with_item" a0_ (Ch t):=
 bW T.P1 f_ (Ed_ dR)
def b6i(T:g!):JY_ "parent" Na:=
 bW T.P4 f_ (Jt_ mW pY_)
def oV(T:g!):oV! Db 1 t.B7 "listed" [K!] (Hl t):=
 cM T.W3 T.F8 f_ (Jd_ (aF pF! (aF (KQ! dB! cQ!) (aF (kR NV (fJ (FS! av!)) (aF (b7c (sM a_ av!)) (aG (KQ! dB! G!)))) (vY dz!)))))
def lM(T:g!):oV! Db 2 t.B6 "children_of" aB! (Eh t):=
 cM T.V9 T.J5 f_ (Dg! (a6j (oV T) b! (Lk_ fO_ r!)))
def mE(T:g!):oV! Ih 9 "outline_with" [E!,ai!] (Fv t):=
 bW T.P0 f_ (Ed_ gU)
def a5v(T:g!):JY_ "children" Ia:=
 bW T.P5 f_ (Jt_ lM zN_)
def oP(T:g!):oV! Db 2 t.B6 "signs_of" cC_ (Dz t):=
 cM T.V9 T.J6 f_ (KN! (gW (NL:=[ai!]) (NF:=[K!]) (ix:=[0]) χ a_ c_ (AX! Hf) k2_ a_ χ (eF (a6j (oV T) b! zA_)) zO! F_ (El_ (cU fM_ eJ l! (bE T.V9 T.X3 r!) χ)) eq_))
def pH(T:g!):oV! Db 3 t.B6 "text_of" cC_ (Fy t):=
 cM T.V9 T.J7 f_ (KN! (b3w (gW (NL:=[ai!]) (NF:=[K!]) (ix:=[0]) χ a_ c_ (AX! Ho) k2_ a_ χ (eF (DU_ oP aw_)) zO! F_ dy! (DD_ (Lk_ (bE T.V9 T.X0 r!) l!)))))
def c7o(T:g!):JY_ "text" Td:=
 bW T.P6 f_ (Jt_ pH pY_)
def mK(T:g!):oV! Db 1 t.B6 "numbers_of" cC_ (Es t):=
 cM T.V9 T.J8 f_ (Dg! (zP rB d0a χ T.T5 uK (aC zB! aK)))
def lI(T:g!):oV! Ih 10 "outline_with_number" fl_ (Eg t):=
 bW T.P2 f_ (Je_ (aF (Lb_ (KV! (Ll! sW))) (GC_ pY_)))
def b6j(T:g!):oV! Ih 11 "number" fl_ (Lc t):=
 bW T.P7 f_ (KN! (cG Z! bM (cD (mK T) b! (rL! lI (aC l! (aC r! dB_))) aw_) G! p_))
def b6n(T:g!):oV! Ih 12 "_law_shows" [e4_,bv!] (Qx t):=
 bW T.S5 f_ (λhr nd=>(aF (KU! bG (rL! c1c aw_)) (aF (eV NV χ (eF (qE aQ iX hJ_ (zP (yQ χ) c4y χ T.T5 uK (aC k5_ aK)))) zT_ dz_ (aG (JC! (oR (vX (cU b6e (Gr.m c1g) (rL! a5s fU!) fJ_ l_) (rY (Li_ a5v a1q))))))) (aF (eV NV χ (b0g k5_) zT_ dz_ (aF (JC! (Li_ c7o vQ)) (aF (JC! (cU a6! mQ (c1w (aC (a2b (K4_ an! (rL! b6i fU!))) aK)) (gW (NL:=bC!) (NF:=[a1_]) (ix:=[3]) χ a_ c_ zX_ pC! a_ χ (eF k5_) ks! F_ pk_ eq_) l_)) (aG (JC! (cU a6! mQ (gW (NL:=[aR!]) (NF:=[e4_,a1_]) (ix:=[0,3]) χ a_ c_ zX_ (FR_ 0 pC!) a_ χ (EG! aD) (oW! [aR!,e4_,a1_]) F_ dy! (Lf_ b6j (aC G! bG!))) (ED_ k5_ an!) l_)))))) (Le_ (jN d3e (Gr.m c1g) (rL! a5s (KL_ hJ_)) fJ_ l_))))))
def b6l(T:g!):oV! Ok 4 "_law_world" xj_ (Qw):=
 dY T.R3 f_ (λhr nd=>(aX yS! (aX zY_ (aX zY_ (aX (b1f NV χ (fZ χ T.T8 av!) nd χ e! (aX (Du! (Jq! (aE zZ_ aJ))) (aX (Du! (KX! cR_)) (aX (c4f a_ bC_ z0_) (aX (c4f a_ bC_ (bA aQ bO z0_ (KX! (bA oE oG cR_ aD)))) (aX (Du! (b4p (aR (c1e T) b! χ (aE v_ (aE (KK_ zZ_ aD) (aE aD_ p4_))) (aI (aI aD!))))) (aW (sM a_ (Ld! (EX_ x2_ bC_) (aE p5_ (DR! p5_ ci!))))))))))) (a7m (E0! aD_)))))))
def oH(T:g!):oV! Ih 1 "accept" aC! gX_:=
 bW T.L9 f_ (Je_ (aF (cE (a2e (zO w! fF! es_ (a2d aK) cO_) r!)) xV_))
def jH(T:g!):oV! Ih 2 "is_next" aC! (Do t):=
 bW T.L4 f_ (Dg! (jN ag! fP_ es_ (qE aQ iX z4! aw!) l_))
def qA(T:g!):oV! Ih 3 "accept_waiting" aZ_ (Ew t):=
 bW T.M9 f_ (Jd_ (aF kC_ (aF z6! (aF (kR NV (fJ (bJ a5q a5r (La! ch_) aD l_)) (aF (cE (c7y w! cW! a7_)) (aF (KU_ oH (aC l! kI_)) (aF (KU! c1s aw!) (aG z6!))))) dz!))))
def a1p(T:g!):oV! Ok 6 "are_parts" nm! (Fm t):=
 dY T.E3 f_ (Je_ (aX (fQ (bJ zE zH fC_ yS_ l_) fD! dG) (Ld_ (KL! (fI (NL:=z7_) (NF:=[]) (ix:=[]) χ a_ c_ (AX! Mt) Bt.nil a_ χ (d5e χ T.U2 d5t I_ v_) (λ_ _ _ _ _=>a9n χ (kO z8_ (kO z8_ a1h))) (c9b 0 1) bB_ (DD_ (c4o (j:=0) (n:=1) (c9d T) b! en_ T!)))))))
def a9z(T:g!):oV! Ok 7 "is_deed" z_ (Jj t):=
 dY T.E4 f_ (Je_ (aX (K0_ (qX (fW o9!) (lV (E7! fC_ aD)))) (aX (K0_ (qX (fW (Ed! aM!)) (lV (b7q Aa! χ aM!)))) (aX (fQ (fW (eH (KM_ a1p (DR! Aa_ (c9s Aa! χ aM! p_))))) fD! dG) (E0! (a0l (gJ zE zH aM! aT l_) (iS (gJ mO mR (KO! pm_ aM!) pa_ l_))))))))
def mH(T:g!):oV! Ok 8 "is_operation" z_ (Bc t):=
 dY T.E5 f_ (Lb! (lX xL_ (lX xK_ (iS (Dd! a9z pa!)))))
def lH(T:g!):oV! Ih 2 "was_taken" aC! (Dg t):=
 bW T.L0 f_ (Dg! (jN mO (Gr.m mR) es_ z4! l_))
def rW(T:g!):oV! Ih 3 "not_yet_taken" ec! (Ec t):=
 bW T.L6 f_ (Jd_ (aF hQ! (aF (eV NV χ (eF (qE aQ iX cW! r!)) aM_ dz_ (aF pN! (aF (cF (K9! lH fU!) bn_ (aG (cF (KV_ (aB (EX_ bD! aD)) lc!) bn_ (aG (Db_ (zO w! G! bm_ an! cO_)))))) (aG (Lb_ (fJ (KR! aE_ aD_))))))) fR!)))
def lK(T:g!):oV! Ih 2 "last_time" nR! gX!:=
 bW T.L5 f_ (Je_ (aF (cF (KV_ (DU_ iY aw_) aw!) (GC_ aw!) bQ) (Le_ (cG Z! bM (Lk_ (ED_ fF! r!) (aB (d5k aD))) aw! p_))))
def vN(T:g!):oV! Ih 3 "check_times" [E!,jz_] (Ja t):=
 bW T.L7 f_ (Jd_ (aF hQ! (aG (eV NV χ (eF (nH (yP χ) c4x χ T.T9 a0q aw_)) aM_ dz_ (aF (KQ! (Lk_ r! an!) aw!) (aF (Lb_ (cU mO (Gr.m mR) bm_ (qG w! G! hI_ (rL! lK (KL_ hI_)) cO_) l_)) (aG (dU w! G! hI_ bm_))))))))
def kP(T:g!):oV! Ih 9 "check_message" ec! (Df t):=
 bW T.L8 f_ (Je_ (aF (cF (fJ (fW (eH (KL! (fI (NL:=z_) (NF:=[]) (ix:=[]) χ a_ c_ (AX! Jf) Bt.nil a_ χ (eA I_) (Fo! (show(z_:μ Str).Nodup by decide+kernel)) F_ bB_ (La_ mH)))))) bn_ bQ) (aG (cE (Li! vN (KL_ (rL! rW ev!)))))))
def lJ(T:g!):oV! Ok 1 "number_of" dn_ (Dt):=
 dY T.N7 f_ (Jd_ (aX (c4e (aW (Du! (iD b8a d0d χ T.T2 c5h aL_)))) (E0! I_)))
def a9v(T:g!):oV! Ok 2 "part_of" dn_ (Ee):=
 dY T.N8 f_ (Je_ (aX (fQ qd_ (E0! dH) dG) (aX (fQ (qZ (qX qd_ (lV qd_))) (E0! v_) dG) (aX (fQ (bJ d3h d3l aT v_ χ) (Ld_ (KN_ (fI (NL:=["figures"]) (NF:=[]) (ix:=[]) χ a_ c_ (AX! Py) Bt.nil a_ χ (eA (b7v v_ aT)) (oW! ["figures"]) F_ bB_ Ai_))) dG) (E0! Ai!)))))
def b0a(T:g!):oV! Ok 3 "deed_of" [fd!] (Ev):=
 dY T.N9 f_ (Jd_ (aX (Du! (c4n (KX_ hx! pm!) aD fC_)) (aW (bK (KN_ (bA aQ bO (bA aQ bO hx! (fI (NL:=dn_) (NF:=[]) (ix:=[]) χ a_ c_ (AX! Qb) Bt.nil a_ χ (eA (cH v_ ch! (cQ I_))) Al! F_ bB_ (La_ a9v))) (cH v_ (cQ I_) dD)))))))
def a1o(T:g!):oV! Ih 6 "give" [E!,"have"] (Ob t):=
 bW T.N4 f_ (Jd_ (aF (Ir! (b7e w! χ T.T0 χ T.T1 χ r!)) (Le_ (gW (NL:=aY!) (NF:=[nY_]) (ix:=[2]) χ a_ c_ (AX! Xf) kv! a_ χ (eF pW_) (oW! [bw!,nY_]) F_ (El_ (cU a5q qf! en! (qG w! r! en! aw! cO_) l_)) eq_))))
def mF(T:g!):oV! Ok 1 "line_of_hand" [gV!] (Bu):=
 dY T.O3 f_ (Do_ (c9t v_))
def a9s(T:g!):oV! Ok 1 "word_of" g2_ (Fh):=
 dY T.N5 f_ (Je_ (aX (fQ (bJ a1j a1s v_ dH l_) (E0! aT) dG) (aX (fQ o9! (Ld_ (a3q aT (fI (NL:=[jl_]) (NF:=[]) (ix:=[]) χ a_ c_ (AX! Pw) Bt.nil a_ χ (c4k v_) (oW! [jl_]) F_ bB_ (DD_ Am_)))) dG) (E0! Am_))))
def mS(T:g!):oV! Ok 2 "shown" aY! (Cw):=
 dY T.N6 f_ (Je_ (aW (bK (a3q aT (fI (NL:=g2_) (NF:=[]) (ix:=[]) χ a_ c_ (AX! Tq) Bt.nil a_ χ (c4k (KO! hx! aM!)) (Fo! (show(g2_:μ Str).Nodup by decide+kernel)) F_ bB_ (La_ a9s))))))
def c7p(T:g!):oV! Ok 9 "read" [ee!] (Hc t):=
 dY T.O0 f_ (Jd_ (aX (Du! (b7u v_ aT aD)) (aX (eM nd χ e! (KN_ (bA aQ bO (fI (NL:=dn_) (NF:=[]) (ix:=[]) χ a_ c_ (AX! Xe) Bt.nil a_ χ (eA (Le! I_)) Al! F_ bB_ Ai_) (Lk! (Dd! b0a (aE (cH I_ ch! dD) aJ)))))) (aX (fQ (qZ (qX (fW (eH (Ll! mH))) (lV (KR! (Ll! mS) v_)))) (aW c9k) dG) (E0! av!)))))
def tP(T:g!):oV! Ih 3 "may_be_taken" aC! (Hy t):=
 bW T.O6 f_ (Je_ (aF (Lb_ (oR (vX (cU a5q qf! qh! aw! l_) (rY (nA qh_))))) (Le_ (jN a5q qf! es_ (rL! lK (KL_ es_)) l_))))
def a5u(T:g!):oV! Ih 10 "may_wait" aC! (Mn t):=
 bW T.O7 f_ (Je_ (aF (Lb_ (oR (vX qh_ (vX (eK At!) (rY (ES! r! cW!)))))) (aF (Lb_ (KV_ qh! Av_)) (aF (c7v (Ir_ (Li! kP (KL_ (aB (lW en_)))))) cj_))))
def a1m(T:g!):oV! Ih 11 "load_line" [E!,ee!,"k"] (Gx t):=
 bW T.O8 f_ (Jd_ (aF (Lj_ (b7t I_ qk!)) (aF (b7c (c4e (aW (Du! (aR (c7p T) b! χ (aE (c4n (eH aD_) (b7w I_ (cQ (La! (aE qk! aJ))) dD) I_) aJ) T!))))) (aG (cF (oR (kD (fJ (eH aD_)) (iH (K9! a5u ql_)))) (Ir_ (a2e cW! bm_)) (aG (cF (oR (kD (KV! aD_) (iH (K9! tP ql_)))) (aG (KU_ oH ql_)) bn_)))))))
def a5t(T:g!):oV! Ih 3 "new_hand" [fk!] (Qu t):=
 bW T.O5 f_ (Jd_ (aF (eV NV χ (EG! (gA T.U3 χ)) aM_ (dN 1) (aG (cF (fJ (KX_ hx! (Lk! (Dd! mF en_)))) (GC_ (b3v (vR T) b! χ aw_)) bQ))) bn_))
def b6k(T:g!):oV! Ih 12 "loaded" [fk!] (Nb t):=
 bW T.O9 f_ (Jd_ (aF (KM! a5t) (aF (eV NV χ (d3y hc! T.T1 (aB Aa_) 2 a_) zx! (a7d 2 3) (aG (KU_ a1m (aC r! (aC an! dB_))))) dz!)))
def a1l(T:g!):oV! Ih 3 "next_time" aZ_ (Ip t):=
 bW T.P8 f_ (KN! (qE aQ iX aw! (c7z χ T.T6 χ (gW (NL:=[di!]) (NF:=aZ_) (ix:=[0]) χ a_ c_ (AX! Ms) k2_ a_ χ (b0g fF!) (oW! [di!,E!]) F_ dy! (Lf_ lK bG!)))))
def c7r(T:g!):oV! Ih 4 "make" [E!,"deed"] (Qv t):=
 bW T.P9 f_ (Jd_ (aF (Db_ (a2b (aC lc! (aC (qE aQ iX (cD (iY T) b! l! (aC lc! aK)) aw!) aK)))) (aF (cE (aM (oH T) b! χ (KL_ (qE aQ iX G! (a2b (aC (rL! a1l bG!) aw_)))))) fR!)))
def a9u(T:g!):oV! Ih 10 "put" om! (Rz t):=
 bW T.Q0 f_ (Je_ (aF (cE zN_) (GC_ (aM (c7r T) b! χ (KL_ (aB (Ld! aT (aE I_ ch_))))))))
def a9t(T:g!):oV! Ih 4 "receive" aC! (Fi t):=
 bW T.N0 f_ (Jd_ (aF (cF qh_ (aF (KU_ oH ev!) (Le_ (qE aQ iX aw! (rL! qA bG!)))) bQ) (aF (Db_ (d1n At! (sA (jN bW! eJ r! cW! χ)))) (aF (cF (oR (kD (KV! av!) (iH (cU b3l (Gr.m b3m) qh! Av_ l_)))) (Ir_ (a2e cW! r!)) bQ) (GC_ aw!)))))
def pZ(T:g!):oV! Ih 6 "saved" aZ_ hp_:=
 bW T.O4 f_ (Jd_ (aF (jT (NL:=aY!) (NF:=[]) (ix:=[]) nd χ e! χ a_ c_ AY_ Bt.nil a_ χ (eF pW_) AH_ F_ dy! (DD_ (aB ln!))) (aF (jT (NL:=aY!) (NF:=[]) (ix:=[]) nd χ e! χ a_ c_ AY_ Bt.nil a_ χ (eF cW!) AH_ F_ dy! (DD_ (aB (KO! qk! ln!)))) (GC_ (qE aQ iX (qE aQ iX (c1w (aC (aM (Ok.m (mF T)) b! χ (aC lc! aK)) aK)) r!) G!)))))
def a1k(T:g!):oV! Ih 10 "take" ec! (Hx t):=
 bW T.N3 f_ (Jd_ (aF (KU_ kP ev!) (aF kC_ (aF (eV NV χ qp_ aM_ dz_ (aG (KU! c1s (rL! a9t fU!)))) fR!))))
def CH(K:zE!):Sp:=λvs H Q E=>∀(P:yW!) (w:yM!) (t:Az),t.nd->DN P w K 1 (CP t) vs H Q E
section
variable{P:yW!}{w:yM!}{K:zE!}{mg:Str->Option Value}{h:Heap}
def d6c(g6:mg "law"=ψ fm!)(dl:EN K mg "law" Kr [bL_])(T:Txt P w K mg lq_)(nd:Az.nd lq_):
  ∃fd:FuncData,(Fl_ "_law_script")/\∀base:Heap,K.In base->DJ! base.Ns->oV! Fe Pi 13 fa fd [bL_] (CH K):=by
 let#[fd,Y,h2]:=c8h (c9:=[]) (k:=12) (P:=P) (w:=w) (q:=Zq lq_) dl jZ g6 (λbase aj am A outer s H E hr=>(aF (bG (i:=1) jZ.nd χ e! (aB (aR (b6l T) b! χ (aE v_ (DR! aD qq!)) (aI aD!))))
   (aF (bG (i:=2) jZ.nd χ aK_ (aB (cH (fI (NL:=bC!) (NF:=[]) (ix:=[]) χ a_ c_ h8_ Bt.nil a_ χ (eA I_) qq_ F_ (λ_ _ _ _ _=>d1e (E7! aM! aD)) (DD_ v_)) dD (cQ qq!))))
   (Iw_ 3 (b3v (vR T) b! χ kH_)
   (aF (cE (aM (a1k T) b! χ (aC an! (aC (gW (NL:=bC!) (NF:=[de!]) (ix:=[2]) χ a_ c_ h8_ kv! a_ χ qp_ (JH! [bQ!,de!]) F_ (El_ AO_) eq_) aK))))
   (aF (eV NV χ (EG! qq!) (aY (i:=4) jZ.nd χ e!) (dN 4) (Ir_ AQ!))
   (aF (bG (i:=5) jZ.nd χ aK_ AR_)
   (aF (jT (i:=6) (NL:=bC!) (NF:=[de!,nd_]) (ix:=[2,5]) jZ.nd χ e! χ a_ c_ h8_ (Bt.cons (j:=2) (FR_ 5 Bt.nil)) a_ χ qp_ (JH! [bQ!,de!,nd_]) F_ (El_ (oR (kD AO_ (iH (K9_ l! G!))))) eq_)
   (aF (bG (i:=7) jZ.nd χ e! (aB (bA aQ bO (bA aQ bO pm! (fI (NL:=bC!) (NF:=[]) (ix:=[]) χ a_ c_ h8_ Bt.nil a_ χ (eA aE_) qq_ F_ bB_ (DD_ ln!))) (fI (NL:=bC!) (NF:=[]) (ix:=[]) χ a_ c_ h8_ Bt.nil a_ χ (eA bD_) qq_ F_ bB_ (DD_ (KK_ aT ln!))))))
   (Iw_ 8 AT_
   (aF (JC! (fJ (qZ (qX (fW (eH (jQ c3a χ T.T3 χ T.T5 cW uK bC_))) (lV (KR! bC_ cR_))))))
   (aF (bG (i:=9) jZ.nd χ e! (aM (b6k T) b! χ (aC (aB (iD rB d0c χ T.T5 uK (aE bC_ aJ))) aK)))
   (aF (JC! (oR (vX (KR_ AV_ (aB cR_)) (rY (KR_ (rL! a1o (aC h9_ AQ_)) kY_)))))
   (aF (JC! (oR (vX (cU a6! mQ (rL! a1k (aC h9_ dB_)) (rL! a1k (aC an! dB_)) l_) (rY (KR_ (rL! a9u (aC h9_ kK!)) AQ!)))))
   (Le_ (wD (jN ag! fP_ AV_ AT_ l_) (sA (rL! b6n (K4_ h9_ AR_)))))))))))))))))))
 exact#[fd,Y,λbase i g=>(h2 base i g).imp λvs H Q E z=>z P w _ nd]
def b7n{ad:yJ!}{k3:Tok}{o0 o1 o2 o3 o4 o5 o6 o7:do_}{n0 n1 n2 n3 n4 n5 n6 n7 ep:δ}{s0 s1 s2 s3 s4 s5 s6 s7:jT!}(X:K.In h)(G:eu_)
  (ga:Ei! K "PARTS"=Es_ kG!)(gl:D1_ ad=ψ {cls:=.type "dict",data:=.dict [#[PyData.keyHash w.params "put",.str "put" k0,.ref r0],#[PyData.keyHash w.params "move",.str "move" k1,.ref r1],#[PyData.keyHash w.params "drop",.str "drop" k2,.ref r2],#[PyData.keyHash w.params "write",.str "write" k3,.ref r3],#[PyData.keyHash w.params "cut",.str "cut" k4,.ref r4],#[PyData.keyHash w.params "set",.str "set" k5,.ref r5],#[PyData.keyHash w.params "undo",.str "undo" k6,.ref r6],#[PyData.keyHash w.params "redo",.str "redo" k7,.ref r7]].toArray ep})(gs:px!=θ)
  (l0:D1_ r0=ψ #[cV_,o0,.seq [.ref B8,.ref B9].toArray n0,s0])
  (l1:D1_ r1=ψ #[cV_,o1,.seq [.ref B8,.ref B8,.ref B9].toArray n1,s1])
  (l2:D1_ r2=ψ #[cV_,o2,.seq [.ref B8].toArray n2,s2])
  (l3:D1_ r3=ψ #[cV_,o3,.seq [.ref B8,.ref C0,.ref C1].toArray n3,s3])
  (l4:D1_ r4=ψ #[cV_,o4,.seq [.ref B8,.ref C2,.ref C3].toArray n4,s4])
  (l5:D1_ r5=ψ #[cV_,o5,.seq [.ref B8,.ref C4,.ref C5].toArray n5,s5])
  (l6:D1_ r6=ψ #[cV_,o6,.seq [.ref C6].toArray n6,s6])
  (l7:D1_ r7=ψ #[cV_,o7,.seq [.ref C6].toArray n7,s7])
  :∀X:Cx,X.prog=P->X.w=w->X.K=K->X.mg=mg->Vf X "PARTS" (Ed lq_):=λva e1 e2 e3 e4=>
 c3m (rows:=[("put",k0,r0),("move",k1,r1),("drop",k2,r2),("write",k3,r3),("cut",k4,r4),("set",k5,r5),("undo",k6,r6),("redo",k7,r7)]) (w:=w) e2 e3 e4 (fV X G ga) gs gl (Dp_ ["put","move","drop","write","cut","set","undo","redo"]) #[χ,iK (fs:=[B8,B9]) l0 (by show 2<=1000;decide),χ,iK (fs:=[B8,B8,B9]) l1 lw!,χ,iK (fs:=[B8]) l2 qz!,χ,iK (fs:=[B8,C0,C1]) l3 lw!,χ,iK (fs:=[B8,C2,C3]) l4 lw!,χ,iK (fs:=[B8,C4,C5]) l5 lw!,χ,iK (fs:=[C6]) l6 qz!,χ,iK (fs:=[C6]) l7 qz!,ο]
end
end K30
open PySem PySem.W PyProof.Rows
set_option tactic.hygienic true in
set_option maxRecDepth 100000 in
set_option maxHeartbeats 0 in
theorem PySem.Challenge.cw_manyhands_k30_saved_holds : PySem.Challenge.rw_manyhands_k30_saved.Holds := by
 w_on;o_law;k_head;(case hw=>w_witness2)
 k_fill
 exact L2.b8l (l:=PySem.Challenge.rw_manyhands_k30_saved) (n:=63) (k:=13) (x:="_law_script") (CX:=L2.Pi) (sp:=K30.CH) rfl (by decide) rfl #[rfl,by decide,by decide,rfl] (λw h Y=>W.kIn_of Y) ?F (λK H a ns hl _ hS P w t nd=>DL.c8g hS (K30.c2i nd)) (λ_ _ _ _ z=>z)
 case F=>
  intro w mg fa h KX G hmg;refine' K30.d6c hmg ?dl #[?D1,?D2,?D3,?D4,?D5,?D6,?D7,?D8,?D9,?E1,?E2,?E3,?E4,?E5,?E6,?E7,?E8,?E9,?F6,?F7,?F8,?F9,?G6,?G7,?G8,?G9,?H9,?J0,?J1,?J2,?J3,?J4,?J5,?J6,?J7,?J8,?J9,?K0,?K3,?K4,?K5,?K6,?K7,?K8,?K9,?L0,?L4,?L5,?L6,?L7,?L8,?L9,?M9,?N0,?N3,?N4,?N5,?N6,?N7,?N8,?N9,?O0,?O3,?O4,?O5,?O6,?O7,?O8,?O9,?P0,?P1,?P2,?P3,?P4,?P5,?P6,?P7,?P8,?P9,?Q0,?Q3,?Q4,?Q5,?Q6,?Q7,?Q8,?Q9,?R3,?R4,?R5,?R6,?R7,?R8,?R9,?S0,?S3,?S4,?S5,?S6,?S7,?S8,?S9,?T0,?T1,?T2,?T3,?T4,?T5,?T6,?T7,?T8,?T9,?U0,?U1,?U2,?U3,?U4,?U5,?U6,?U7,?U8,?U9,?V0,?V1,?V2,?V3,?V4,?V5,?V6,?V7,?V8,?V9,?W3,?W4,?W5,?W6,?W7,?W8,?W9,?X0,?X3,?X8,?X9,?Y0,?Y1,?gp] ?nd
  (case E8=>show"!!")
  (case F9=>show"!!")
  (case K6=>(dsimp only;refine' DL.c1t (DL.fV KX G ?g) ?a ?i ?l ?c ?k ?mm ?kc ?b;(case g=>k_is);(case a=>k_is);(case i=>k_is);(case l=>k_is);(case c=>k_is);(case k=>k_is);(case mm=>k_is);(case kc=>k_is);(case b=>exact λ_ _ _ _ _ _=>DL.kL λ_ _=>rfl)))
  (case D1=>show"!#")
  (case D2=>show"!$")
  (case D3=>show"!#")
  (case D4=>show"!#")
  (case D5=>show"!#")
  (case D6=>show"!#")
  (case D7=>show"!#")
  (case D8=>show"!#")
  (case D9=>show"!#")
  (case E1=>show"!#")
  (case E2=>show"!#")
  (case E3=>show"!$")
  (case E4=>show"!#")
  (case E5=>show"!#")
  (case E6=>show"!#")
  (case E7=>show"!#")
  (case E9=>show"!%")
  (case F6=>show"!&")
  (case F7=>show"!%")
  (case F8=>(dsimp only;refine' DL.dW ?a ?i ?l ?c ?k ?b;(case a=>k_is);(case i=>k_is);(case l=>k_is);(case c=>k_is);(case k=>k_is);(case b=>exact λ_ _ _ _ _ _=>DL.jY λ_=>rfl)))
  (case G6=>show"!%")
  (case G7=>show"!%")
  (case G8=>show"!&")
  (case G9=>show"!'")
  (case H9=>show"!&")
  (case J0=>show"!'")
  (case J1=>(dsimp only;refine' DL.dW ?a ?i ?l ?c ?k ?b;(case a=>k_is);(case i=>k_is);(case l=>k_is);(case c=>k_is);(case k=>k_is);(case b=>exact λ_ _ _ _ _ _=>DL.us5 λ_ _ _ _ _=>rfl)))
  (case J2=>show"!'")
  (case J3=>show"!'")
  (case J4=>show"!%")
  (case J5=>show"!%")
  (case J6=>show"!%")
  (case J7=>show"!%")
  (case J8=>show"!%")
  (case J9=>show"!#")
  (case K0=>show"!#")
  (case K3=>show"!#")
  (case K4=>show"!(")
  (case K5=>show"!#")
  (case K7=>show"!%")
  (case K8=>show"!#")
  (case K9=>show"!#")
  (case L0=>show"!$")
  (case L4=>show"!$")
  (case L5=>show"!$")
  (case L6=>show"!$")
  (case L7=>show"!$")
  (case L8=>show"!$")
  (case L9=>show"!$")
  (case M9=>show"!#")
  (case N0=>show"!$")
  (case N3=>show"!$")
  (case N4=>show"!$")
  (case N5=>show"!#")
  (case N6=>show"!#")
  (case N7=>show"!#")
  (case N8=>show"!#")
  (case N9=>show"!#")
  (case O0=>show"!#")
  (case O3=>show"!#")
  (case O4=>show"!#")
  (case O5=>show"!#")
  (case O6=>show"!$")
  (case O7=>show"!$")
  (case O8=>show"!(")
  (case O9=>show"!#")
  (case P0=>show"!$")
  (case P1=>show"!$")
  (case P2=>show"!(")
  (case P3=>show"!$")
  (case P4=>show"!$")
  (case P5=>show"!$")
  (case P6=>show"!$")
  (case P7=>show"!(")
  (case P8=>show"!#")
  (case P9=>show"!$")
  (case Q0=>show"!(")
  (case Q3=>show"!$")
  (case Q4=>show"!$")
  (case Q5=>show"!#")
  (case Q6=>show"!#")
  (case Q7=>show"!$")
  (case Q8=>show"!$")
  (case Q9=>show"!)")
  (case R3=>show"!(")
  (case R4=>show"!#")
  (case R5=>show"!#")
  (case R6=>show"!)")
  (case R7=>show"!(")
  (case R8=>show"!)")
  (case R9=>show"!$")
  (case S0=>show"!#")
  (case S3=>show"!$")
  (case S4=>show"!$")
  (case S5=>show"!$")
  (case S6=>show"!#")
  (case dl=>(refine' DL.c9o KX G ?a ?l ?c ?k ?b;(case a=>k_is);(case l=>k_is);(case c=>k_is);(case k=>k_is);(case b=>exact λ_ _ _ _ _ _=>DL.jY λ_=>rfl)))
  (case S7=>show"!*")
  (case S8=>show"!*")
  (case S9=>show"!*")
  (case T0=>show"!*")
  (case T1=>show"!*")
  (case T2=>show"!*")
  (case T3=>show"!*")
  (case T4=>show"!*")
  (case T5=>show"!*")
  (case T6=>show"!*")
  (case T7=>show"!*")
  (case T8=>show"!*")
  (case T9=>show"!*")
  (case U0=>show"!*")
  (case U1=>show"!*")
  (case U2=>show"!*")
  (case U3=>show"!+")
  (case U4=>show"!+")
  (case U5=>show"!+")
  (case U6=>show"!+")
  (case U7=>show"!+")
  (case U8=>(refine' DL.c8y KX G ?a;(case a=>k_is)))
  (case U9=>show"!,")
  (case V0=>show"!,")
  (case V1=>show"!,")
  (case V2=>show"!,")
  (case V3=>show"!,")
  (case V4=>show"!,")
  (case V5=>show"!,")
  (case V6=>show"!,")
  (case V7=>show"!,")
  (case V8=>show"!-")
  (case V9=>show"!-")
  (case W3=>show"!-")
  (case W4=>show"!.")
  (case W5=>show"!.")
  (case W6=>show"!.")
  (case W7=>show"!.")
  (case W8=>show"!.")
  (case W9=>show"!.")
  (case X0=>show"!.")
  (case X3=>show"!.")
  (case X8=>show"!.")
  (case X9=>show"!.")
  (case Y0=>show"!.")
  (case Y1=>show"!.")
  (case gp=>(refine' K30.b7n KX G ?ga ?gl ?gs ?l0 ?l1 ?l2 ?l3 ?l4 ?l5 ?l6 ?l7;(case ga=>k_is);(case gl=>k_is);(case gs=>decide);(case l0=>k_is);(case l1=>k_is);(case l2=>k_is);(case l3=>k_is);(case l4=>k_is);(case l5=>k_is);(case l6=>k_is);(case l7=>k_is)))
  (case nd=>(delta K30.Az.nd;decide))
