import PyProof.Rows.All
import Wide.All
import OpenK.AllK
import PySem.Challenge.RW_manyhands_k23_own_undoing
set_option linter.all false
set_option genSizeOf false
set_option Elab.async false
set_option maxRecDepth 100000
set_option maxHeartbeats 4000000
def MC:=@PySem.wpAny_bind
def MD:=@Option.bind_eq_some_iff
def MF:=@List.mem_cons_of_mem
def MH:=@PySem.wpAny_pure
def MJ:=@PySem.Heap.get?_push_of_some
def ML:=@List.mem_cons_self
def MM:=@List.mem_cons
def MN:=@List.not_mem_nil
def MO:=@if_pos
def MQ:=@Option.map_eq_some_iff
def MU:=@List.map_cons
def MV:=@List.length_map
def MX:=@List.size_toArray
def MY:=@List.mem_append_right
def MZ:=@if_neg
def NA:=@decide_eq_false
def NB:=@List.mem_map
def NC:=@Nat.le_refl
def ND:=@List.mem_append
def NE:=@List.getElem?_eq_some_iff
def NG:=@decide_eq_true
def NH:=@List.length_cons
def NI:=@List.mem_singleton
def NJ:=@PySem.Heap.get?_push_size
def NK:=@List.getElem?_eq_getElem
def NM:=@List.mem_append_left
def NN:=@Nat.lt_of_lt_of_le
def NO:=@List.nodup_cons
def NP:=@PySem.Heap.lt_size
def NQ:=@List.mem_map_of_mem
def NR:=@List.length_append
def NS:=@Bool.false_ne_true
def NT:=@decide_eq_true_eq
def NU:=@Bool.and_eq_true
def NV:=@List.map_append
def NW:=@Nat.le_trans
def NX:=@List.getElem?_set_ne
def NY:=@Ne.symm
def NZ:=@Nat.ne_of_lt
def OA:=@List.append_nil
def OB:=@PySem.PassesOwn.never
def OC:=@Bool.false_eq_true
def OD:=@List.map_map
def OE:=@List.getElem?_map
def OF:=@PySem.Heap.get?_update_other
def OG:=@Nat.zero_le
def OH:=@Array.getElem?_eq_getElem
def OI:=@List.getElem?_set_self
def OJ:=@beq_eq_false_iff_ne
def OK:=@Option.some.inj
def OL:=@List.nodup_append
def OM:=@PySem.wpAny_holding
def ON:=@beq_self_eq_true
def OO:=@List.filter_cons_of_pos
def OP:=@List.filter_cons_of_neg
def OQ:=@PySem.wpAny_call_entry
def OT:=@List.map_congr_left
def OU:=@List.getElem?_append_right
def OV:=@PySem.wpAny_callSpecial?_slot
def OX:=@PySem.wpAny_truthy_bool
def OY:=@PySem.wpAny_field
def OZ:=@Nat.lt_of_le_of_lt
def PB:=@PySem.sizeLine_eq
def PC:=@if_false
def PD:=@List.mem_filter
def PF:=@PySem.wpAny_mono
def PH:=@List.getElem?_eq_none
def PJ:=@List.filter_eq_self
def PK:=@Option.bind_some
def PL:=@List.lookup_cons
def PM:=@of_decide_eq_true
def PN:=@List.append_assoc
def PP:=@if_true
def PQ:=@PyProof.Rows.callWith_type1
def PR:=@List.cons.injEq
def PU:=@Bool.eq_iff_iff
def PV:=@PyProof.Rows.wpS_bind
def PX:=@Array.getElem?_eq_some_iff
def PY:=@List.pairwise_cons
def PZ:=@PySem.wpAny_newObj_type
def QA:=@List.getElem?_append_left
def QB:=@PySem.F.slot_dict_keyiterator_next
def QC:=@List.nil_append
def QD:=@Int.le_refl
def QE:=@PySem.Heap.get?_update_self
def QF:=@List.getElem_mem
def QG:=@PySem.wpAny_setField_rec
def QH:=@PySem.wpAny_Call_Name_kw
def QI:=@PySem.Calls.spliced_cons
def QJ:=@PySem.wpAny_rule
def QK:=@beq_iff_eq
def QL:=@Option.some_ne_none
def QM:=@List.length_range
def QN:=@Nat.lt_irrefl
def QO:=@List.nodup_nil
def QP:=@List.getLast?_eq_none_iff
def QQ:=@List.drop_eq_getElem_cons
def QR:=@List.length_singleton
def QS:=@List.length_nil
def QT:=@List.length_filter_le
def QU:=@PySem.Heap.SameBut.update
def QV:=@PySem.wpAny_seqItems
def QW:=@Nat.le_succ
def QX:=@List.cons_append
def QY:=@List.getElem?_replicate
def QZ:=@PySem.Obj.data_mapFields
def RA:=@Nat.ne_of_gt
def RB:=@Nat.lt_or_ge
def RC:=@List.filter_congr
def RD:=@PySem.mem_of_lookup
def RE:=@List.replicate_succ
def RF:=@List.length_set
def RG:=@List.find?_cons
def RH:=@Array.length_toList
def RI:=@or_false
def RJ:=@PySem.F.plain_max_loop
def RK:=@PySem.Heap.size_push
def RL:=@PyProof.Rows.wpS_pure
def RM:=@PySem.wpAny_dictEntries
def RN:=@List.length_take
def RO:=@PySem.wpAny_dictEpoch
def RP:=@List.map_nil
def RQ:=@List.length_replicate
def RS:=@List.getElem?_toArray
def RT:=@List.any_cons
def RU:=@Int.emod_lt_of_pos
def RX:=@List.pairwise_iff_getElem
def RY:=@List.mem_range
def RZ:=@List.take_succ_eq_append_getElem
def SA:=@PySem.Obj.isFreed_of_fields
def SD:=@List.forIn_cons
def SE:=@Nat.le_of_lt
def SF:=@decide_eq_false_iff_not
def SG:=@Bool.not_true
def SH:=@PySem.Calls.evalArgs_plain
def SI:=@PySem.wpAny_loadPart'
def SJ:=@List.all_eq_true
def SK:=@PySem.Calls.spliced_nil
def SL:=@PySem.F.plainAttrs_str
def SM:=@List.mem_filterMap
def SN:=@PySem.wpAny_typeNameOfWhole_keyiter
def SO:=@List.foldl_cons
def SQ:=@Int.emod_nonneg
def SS:=@Array.getElem?_toList
def SU:=@PySem.call_meets
def SV:=@List.flatten_cons
def SW:=@List.all_cons
def SX:=@Int.toNat_natCast
def SY:=@PySem.Heap.size_after_update
def SZ:=@PySem.Calls.callWith_builtin
def TB:=@PySem.F.slot_NoneType_hash
def TC:=@List.nodup_iff_pairwise_ne
def TD:=@List.mem_of_getElem?
def TH:=@PySem.wpAny_passesOwn
def TJ:=@PySem.wpAny_notOrdered_dict
def TK:=@PySem.wpAny_letGo
def TL:=@Classical.byContradiction
def TM:=@List.perm_middle
def TN:=@PySem.wpAny_pyIter_list
def TQ:=@PySem.wpAny_attempt
def TR:=@PySem.Paired.length
def TU:=@List.filterMap_cons
def TV:=@PySem.F.entry_str_split
def TW:=@Nat.zero_add
def TY:=@Nat.le_of_eq
def TZ:=@PySem.F.slot_tuple_iterator_next
def UA:=@PySem.wpAny_setField
def UB:=@of_decide_eq_false
def UC:=@PySem.F.plainAttrs_list
def UD:=@PySem.F.plainAttrs_dict
def UE:=@List.length_zip
def UF:=@List.length_eq_zero_iff
def UG:=@List.filter_map
def UH:=@List.filter_filter
def UI:=@PySem.F.slot_str_split
def UJ:=@PySem.wpAny_typeNameOf_keyiter
def UK:=@PyProof.Rows.slot_tuple_getitem
def UL:=@Nat.lt_succ_of_lt
def UM:=@or_congr_right
def UN:=@PySem.wpAny_execs_nil
def UO:=@PySem.strLen_append
def UP:=@PySem.F.slot_dict_get
def UQ:=@List.mem_iff_getElem?
def UR:=@Nat.lt_succ_self
def US:=@List.mem_iff_getElem
def UT:=@PySem.wpAny_pyIter_enum
def UU:=@PySem.WalksT.enumerateD
def UV:=@not_or
def UW:=@PySem.codeAny_mono
def UX:=@PySem.F.slot_enumerate_next
def UY:=@PySem.F.slot_enumerate_getattribute
def UZ:=@List.zip_cons_cons
def VA:=@List.length_zipIdx
def VB:=@PySem.wpAny_standAt
def VC:=@PySem.plainId_quiet
def VD:=@Bool.and_false
def VE:=@PySem.typeIs_str
def VF:=@PySem.wpAny_specialOf
def VG:=@PySem.codeAny_builtin
def VH:=@PySem.slot_dict_contains
def VI:=@PySem.F.args_tuple_add_2
def VJ:=@Option.isSome_iff_exists
def VL:=@decide_true
def VM:=@PySem.F.entry_tuple_add
def VN:=@List.map_id
def VO:=@PySem.SeqAt.EqAt.int_int
def VP:=@Nat.succ_le_succ
def VQ:=@List.drop_length
def VR:=@Array.toList_inj
def VS:=@PySem.F.slot_tuple_add
def VT:=@List.take_of_length_le
def VU:=@List.drop_eq_nil_of_le
def VV:=@PySem.wpAny_Call_method
def VW:=@Bool.not_eq_eq_eq_not
def VX:=@PyProof.Rows.get?_update_seq
def VY:=@List.pairwise_append
def VZ:=@List.mem_of_getLast?
def WB:=@List.getElem?_zipIdx
def WC:=@PySem.wpAny_forIn_list
def WD:=@PySem.F.args_dict_keyiterator_next_1
def WH:=@List.forIn_nil
def WJ:=@List.Perm.refl
def WK:=@PyProof.Rows.wpS_forRange
def WL:=@PySem.F.entry_dict_keyiterator_next
def WM:=@List.filter_sublist
def WN:=@List.drop_succ_cons
def WO:=@PySem.wpAny_typeOf
def WQ:=@PySem.wpAny_isOneOf_keyiter
def WU:=@List.sum_cons
def WV:=@List.getElem_range
def WW:=@List.filter_append
def WX:=@PySem.F.slot_zip_next
def WY:=@Bool.or_false
def WZ:=@Bool.and_true
def XA:=@PySem.wpAny_updateSeq_pair
def XB:=@PySem.wpAny_updateDictKeys
def XC:=@List.pairwise_map
def XD:=@List.ext_getElem?
def XE:=@PySem.wpAny_tryCatch
def XG:=@PySem.wpAny_loadPart
def XH:=@PySem.wpAny_fieldsOf
def XI:=@decide_false
def XJ:=@Nat.lt_trans
def XO:=@Nat.succ_ne_self
def XQ:=@List.length_drop
def XT:=@List.filter_cons
def XU:=@PySem.F.slot_dict_setdefault
def XV:=@PySem.wpAny_pyIter_tuple
def XW:=@PySem.wpAny_onRaise
def XX:=@PySem.wpAny_Constant_int
def XY:=@PySem.W.kia_one
def XZ:=@List.of_mem_zip
def YA:=@PySem.F.called_enumerate
def YB:=@PySem.F.args_str_split_3
def YC:=@PySem.F.args_str_split_2
def YD:=@PySem.Calls.Constant_str
def YE:=@Array.size_push
set_option hygiene false
section open Lean
def z'N(b:Bool):Nat->Syntax->Syntax
|n+1,.node _ k a=>let a:=a.map (z'N b n);.node .none k (if b&&k==``Parser.Term.basicFun then a.modify 0 λx=>.node .none `null (x.getArgs.map λy=>if y.isOfKind ``Parser.Term.hole then mkIdent `z'x else y) else a)
|_,.atom _ v=>.atom .none v
|_,.ident _ r n p=>.ident .none r n p
|_,x=>x
def z'E:Nat->Syntax->String
|0,_=>""
|n+1,s=>match s with
 |.node _ k a=>a.foldl (λr x=>r++z'E n x) s!"n{a.size} {(toString k).replace "Lean.Parser." "~"}\n"
 |.atom _ v=>s!"a{v}\n"
 |.ident _ _ v _=>s!"i{v}\n"
 |_=>"m\n"
def z'D(f:SourceInfo):Nat->List String->Syntax×List String
|n+1,x::l=>let r:=(x.drop 1).toString;match x.front with
 |'n'=>let c:=(r.takeWhile Char.isDigit).toString;let (a,l):=c.toNat!.fold (λ_ _ (a,l)=>let (y,l):=z'D f n l;(a.push y,l)) (#[],l);(.node f ((r.drop (c.length+1)).toString.replace "~" "Lean.Parser.").toName a,l)
 |'a'=>(.atom f r,l)
 |'i'=>(.ident f r.toRawSubstring r.toName [],l)
 |_=>(.missing,l)
|_,l=>(.missing,l)
def z'K:List (String×String):=[("P","n3 ~Term.paren\nn2 ~Term.hygienicLParen\na(\nn1 hygieneInfo\ni[anonymous]"),("D","n1 ~Tactic.tacticSeq\nn1 ~Tactic.tacticSeq1Indented"),("E","n2 ~Term.dotIdent\na."),("A","n2 ~Term.app"),("B","n1 null"),("C","n0 null"),("F","n2 null"),("G","n3 null"),("H","n1 ~Tactic.rcasesPatMed"),("I","n1 ~Tactic.rcasesPat.one"),("J","n2 ~Tactic.rcasesPatLo"),("K","n1 ~Tactic.optConfig"),("L","n4 ~Term.basicFun"),("M","n1 ~Term.hole\na_"),("N","n2 ~Term.byTactic\naby")]
def z'Z(r:SourceInfo)(f:String):Syntax:=(z'D r 999 (((f.takeWhile (·≠'\r')).toString.splitOn "\n").flatMap λs=>match z'K.lookup s with|some x=>x.splitOn "\n"|_=>[s])).1
local macro_rules|`(z [$x,*])=>do let a:=x.getElems;let mut r:="";for i in [0:a.size/2] do {r:=s!"{r}\r{match a[2*i]!.raw.isStrLit? with|some s=>s|_=>a[2*i]!.raw.getId.toString}\r{z'E 999 (z'N true 999 a[2*i+1]!)}"};return (Syntax.mkStrLit (z'K.foldl (λr p=>r.replace (p.2++"\n") (p.1++"\n")) r)).raw
def z't't:String:=z ["pc!",(by simp[Di,Bi,sSeq,Hx,Dk,El,Ii,Ms,CN,Fy,Qh,Ea,fT,Lf,Aa,Xz,f2,Ww,Rm,Ya,KR,Zx,Hn,Rf,f1,Ac,Af,BO,fC,ED,Gs,An,Ka,Nm,Dy,Ja,Bv,Ai,Et,Hv,Bg,Fe,Dq,Cq,Av,Aq,Jh,Bh,Iw,Yi,Es,HT.sIx,List.getElem?_cons_zero,List.getElem?_cons_succ]),"!9",(by split at e),"!#",(by refine' DL.aW KX G ?a ?l ?c ?k ?b;(case a=>k_is);(case l=>k_is);(case c=>k_is);(case k=>k_is);(case b=>exact λ_ _ _ _ _ _=>DL.jR λ_=>rfl)),"!$",(by refine' DL.aW KX G ?a ?l ?c ?k ?b;(case a=>k_is);(case l=>k_is);(case c=>k_is);(case k=>k_is);(case b=>exact λ_ _ _ _ _ _=>DL.lU λ_ _=>rfl)),"#8",(by dsimp only),"!r",(by constructor),"!*",(by refine' DL.dO KX G ?a;(case a=>k_is)),"!3",(by intro x y dx dy d G H Q sub rx ry e k),"!6",(by obtain⟨ka,bq⟩:=cX ha),"!,",(by dsimp only;refine' DL.eE KX G ?a;(case a=>k_is)),"!0",(by dsimp only;(show W.findIn _ _ _=_);k_is),"!7",(by obtain⟨v,rfl,rv⟩:=dW r),"#/",(by unfold Et Hv),"!%",(by dsimp only;refine' DL.dQ ?a ?i ?l ?c ?k ?b;(case a=>k_is);(case i=>k_is);(case l=>k_is);(case c=>k_is);(case k=>k_is);(case b=>exact λ_ _ _ _ _ _=>DL.lU λ_ _=>rfl)),"!2",(by intro X hP hw hK hc i hb s Z H E I hf st hg;subst hP hw hK),"!E",(by intro hb s Z H Q I h),"!4",(by obtain⟨f0,f1,f2,f3,f4,f5⟩:=hf it b!),"!=",(by rename_i h;cases e;subst h),"!G",(by obtain⟨t,rfl⟩:=rx),"!W",(by rename_i hl;rcases e),"!(",(by refine' DL.aW KX G ?a ?l ?c ?k ?b;(case a=>k_is);(case l=>k_is);(case c=>k_is);(case k=>k_is);(case b=>exact λ_ _ _ _ _ _=>DL.us3 λ_ _ _=>rfl)),"!<",(by intro vs ds d G H Q sub r e k),"#'",(by by_cases hk:k=d),"!1",(by refine jH I_ ?_;refine jH I_ ?_;refine jH I_ ?_),"!?",(by obtain⟨q,hq,rfl⟩:=NB.mp hd),"#-",(by refine anF aq! ?_),"#:",(by simp only[OC,PC]),"!+",(by refine' DL.pX KX G ?a;(case a=>k_is)),"!8",(by obtain⟨x,e1,e⟩:=MD.mp e;obtain⟨y,e2,e⟩:=MD.mp e),"!@",(by obtain⟨o',e1⟩:=I.base.there b o e hx),"!M",(by obtain⟨o,ho,rfl⟩:=NB.mp hd),"!S",(by subst e;exact I1.fpOk u! eQ_),"!g",(by obtain⟨ep,ht⟩:=hA.tk),"!y",(by unfold fT;rw[this];rfl),"!~",(by by_cases c1:i∈W.its),"#(",(by obtain⟨t,rfl⟩:=r),"#2",(by funext b;unfold mup),"#;",(by rw[f2_];exact QD _),"!'",(by dsimp only;refine' DL.dQ ?a ?i ?l ?c ?k ?b;(case a=>k_is);(case i=>k_is);(case l=>k_is);(case c=>k_is);(case k=>k_is);(case b=>exact λ_ _ _ _ _ _=>DL.us4 λ_ _ _ _=>rfl)),"!;",(by refine jH aq! ?_;refine jH aq! ?_),"!D",(by obtain rfl:=bC rx;obtain rfl:=bC ry;rcases e),"!F",(by obtain⟨sl,e1⟩:=I.base.slot b o e n J hx),"!N",(by obtain⟨ds,e1,e⟩:=MD.mp e;show"!9"),"!R",(by obtain⟨e,n,ne,nf,d⟩:=I.pin p hp),"!V",(by obtain⟨its,r,pl,hz⟩:=I.list hq),"!Y",(by obtain⟨o,e,c,d⟩:=st;exact gm!),"!Z",(by obtain⟨a,vs,rfl,qa,ra⟩:=bW rx),"!_",(by obtain⟨q0,h0,rfl⟩:=NB.mp hq),"!`",(by obtain⟨p,vs,rfl,q,rr⟩:=bW r),"!s",(by rename_i h;rw[NU,NU,NT]at h),"!t",(by obtain⟨hp,g,d,tk,os⟩:=s),"!x",(by subst J;rw[cC]at e;rcases e),"#.",(by obtain⟨a,rfl,q⟩:=hx),"!&",(by dsimp only;refine' DL.dQ ?a ?i ?l ?c ?k ?b;(case a=>k_is);(case i=>k_is);(case l=>k_is);(case c=>k_is);(case k=>k_is);(case b=>exact λ_ _ _ _ _ _=>DL.us3 λ_ _ _=>rfl)),"!)",(by refine' DL.aW KX G ?a ?l ?c ?k ?b;(case a=>k_is);(case l=>k_is);(case c=>k_is);(case k=>k_is);(case b=>exact λ_ _ _ _ _ _=>DL.us4 λ_ _ _ _=>rfl)),"!-",(by dsimp only;refine'⟨?pg,?hd,?po,?sa⟩;(case pg=>k_is);(case hd=>k_is);(case po=>k_is);(case sa=>k_is)),"!5",(by have ih:=mL s c ai n x! bo free a! a! hs;unfold StrLaws.occBody;rw[MZ cond];unfold StrLaws.occBody at ih;refine Eq.trans ih ?_),"!:",(by obtain⟨v1,t1,rfl,r1,rr⟩:=bS rr;obtain⟨v2,t2,rfl,r2,rr⟩:=bS rr;obtain rfl:=cQ rr),"!K",(by obtain⟨oc,od,kV,bt,pm,an,aj,ct,jg,rfl,lk,bw⟩:=F.ex),"!L",(by cases e;refine cj!;cases bO r1;refine kx_;cases bO r2),"!Q",(by unfold Al at h;obtain⟨u,r,e1,q,t⟩:=h;subst e1),"![",(by unfold Ap at h ⊢;obtain⟨a,vs,e,q,r⟩:=h),"!]",(by obtain⟨⟨o,z1,z2,z3⟩,z4⟩:=z;exact lb!),"!^",(by obtain⟨a',b',c',e',hm⟩:=w.sgs x hx q hq),"!d",(by show"!7";obtain⟨a,ws,rfl,q,rr⟩:=bU rv),"!e",(by intro x y dx dy d M G H Q sub m rx ry e k),"!l",(by cases yE I n r ru<;>cases yE I n' r' be),"!q",(by have p:((D.non::cL!)).Perm (n::D.non::ac_):=((List.Perm.cons _ TM)).trans (List.Perm.swap _ _ _)),"!u",(by obtain⟨_,vs,Y,h2⟩:=m.cell a _ hM),"!z",(by obtain⟨its,r,pl,hz⟩:=I.tuple hq),"!{",(by obtain rfl:=bO rx;obtain rfl:=bO ry),"#$",(by rw[MZ c];exact keep rfl rfl w.inv),"#%",(by obtain⟨a,vs,rfl,qa,ra⟩:=bU rx),"#&",(by intro vs ds d M G H Q sub m r e k),"#)",(by obtain⟨sl,lp⟩:=so.2.2 b o eb),"#*",(by subst J;rw[mup_same]at e;rcases e),"#,",(by obtain⟨ag,fd,Y,h2,h3,h4⟩:=F),"#0",(by simp only[OC,PC,PL,hx]at h ⊢),"#1",(by obtain⟨ds,e1,e'⟩:=MD.mp e'),"#<",(by obtain⟨rfl,rfl|rfl⟩:=d l),"#=",(by obtain⟨od,af,hl⟩:=I.look),"#>",(by obtain⟨o,es,ep,ho,r⟩:=hm),"#@",(by have c':=UB c;rw[MZ c']at st),"#A",(by have c':=PM c;rw[MO c']at st),"#B",(by exact hR M O _ _ st hL .refl),"#H",(by rename_i p;obtain rfl:=gG r),"#I",(by obtain⟨x,e1,e⟩:=MD.mp e),"#J",(by obtain⟨q,hq,e⟩:=NB.mp z),"!!",(by dsimp only;refine' DL.c0v (DL.eE KX G ?g) ?a ?i ?l ?c ?k ?mm ?kc ?b;(case g=>k_is);(case a=>k_is);(case i=>k_is);(case l=>k_is);(case c=>k_is);(case k=>k_is);(case mm=>k_is);(case kc=>k_is);(case b=>exact λ_ _ _ _ _ _=>DL.jR λ_=>rfl)),"!.",(by dsimp only;refine' XS.c2u ?xqa ?xqb ?xqc ?xqd ?xqe ?xqf ?xqg ?xqh;(case xqa=>k_is);(case xqb=>k_is);(case xqc=>k_is);(case xqd=>rfl);(case xqe=>k_is);(case xqf=>k_is);(case xqg=>rfl);(case xqh=>k_is)),"!/",(by dsimp only;k_is),"!>",(by refine W.methodCall_KW (pl:=pl) c4_ ht;rintro u s1 ⟨x,H1,I1,rx,a,dx,fs,ex,ea,l,q⟩;subst ex;obtain rfl:u=Value.ref a:=rx;refine oN I1 ea c hm l ?_),"!A",(by refine dP c3! ?_;rintro v s1 ⟨x,H1,I1,r1,q1⟩;refine dP gh_ ?_;rintro u s2 ⟨y,H2,I2,r2,q2⟩;exact hf v u s2 x y H2 I2 r1 r2 q2),"!B",(by obtain⟨ob,eo,ec,ed⟩:=id g1;obtain⟨ot,ya,_,nt,yb⟩:=g2;unfold Builtin.SmallTypes.nextOf;refine MC (OV g1.typeIs TZ (OQ TZ g1.typeIs F.entry_tuple_iterator_next ?_ (F.args_tuple_iterator_next_1 _)));show wpAny _ _ (field (.ref jt) 0>>=_) _ _ s),"!C",(by dsimp only[(show Builtin.Dict_items.ownsTuple "dict_keyiterator"=false by decide),Bool.false_eq_true,if_false];show wpAny E! A.in1 (if(Value.ref d==dI_)=true then _ else _) _ _ s;rw[(MZ (λz:(Value.ref d==Value.none)=true=>NS z))];refine MC (MH (MC (RM ub uc ?_)));rw[bO_]),"!H",(by unfold Builtin.SmallTypes.ownedTupleIsFree;refine MC (OY gz rfl rfl ab_);dsimp only[if_true];refine MC fD_;refine MC fD!),"!I",(by obtain⟨us,rv,p1,_⟩:=I.list qa;obtain⟨us',a9,p2,_⟩:=I.list qb;have Y:=aK rd;have h2:=aK re;have h3:=c5!),"!J",(by have I1:Inv X hb Z H {s with heap:=h'}:=I.turned (t':=s.toks) mB! f0 f1 f3 f4 f5;obtain⟨o,e,c,d⟩:=id ac),"!O",(by obtain⟨i,hi,q⟩:=nL J;obtain⟨p,ds,vs,Y,h2,h3,h4,h5⟩:=er.own_ i hi;rw[q]at h2;cases h2),"!P",(by show"!6";obtain⟨kb,l8⟩:=cX J;obtain⟨kc,zo⟩:=uH cb;refine jH I_ ?_;refine ifT (bG.trans (congrArg some a2c)) ?_),"!T",(by dsimp only[sliceBounds,HT.sIx,Option.getD_none,(show(1:Int)>0 by decide),if_true];by_cases h:i<0),"!U",(by obtain⟨x,e1,e⟩:=MD.mp e;obtain⟨q,e2,e⟩:=MD.mp e;obtain⟨ks',e3,rfl⟩:=MQ.mp e),"!X",(by intro hb s Z H x y v u Q I rx ry h;obtain⟨i,j,rfl,rfl,q⟩:=h;show"!G";obtain⟨t',rfl⟩:=ry),"!a",(by have hT:=ay.typeIs;obtain⟨o,ho,hc,hd⟩:=id ay;obtain⟨od,ub,_,uc⟩:=id D),"!b",(by refine MC (OY eo ed (x:=.ref tt) rfl ?_);rw[(MZ (show¬((Value.ref tt==Value.none)=true)from NS))];refine MC (OY eo ed rfl ?_);refine MC (QV ya yb ?_);simp only[SX,g3]),"!c",(by have I1:Inv X hb Z H {s with heap:=h',toks:=tk}:=I.turned mD_ f0 f1 f3 f4 f5),"!f",(by refine MC (PF fin (?_) λ_ _ z=>z);rintro old s' ⟨e1,o,q1,q2,q3⟩;subst q1 q2;exact MC (TK (MH ⟨_,rfl,q3⟩))),"!h",(by obtain⟨ii,H3,I3,n3⟩:=q3;obtain⟨m',hm,w3⟩:=hN ii H3 n3;exact ⟨m',hm,ii,H3,I3,w3⟩),"!i",(by dsimp only[Bool.not_false,if_true];exact MC (yL (MH kX!))),"!j",(by obtain rfl:=eM ry;rcases e;refine j_;rw[yF rx];exact k _ G H aA_ Ap.bl),"!k",(by have hf:=a6q x k;have hl:∀i∈plc es dy_,i<es.size:=λi hi=>b9c hi),"!m",(by obtain⟨v,rfl,r1⟩:=dW r;obtain⟨p,ys,rfl,q,rr⟩:=a0f sub m r1 e1),"!n",(by obtain⟨hi,r1⟩:=r1;obtain⟨p,dx,vs,rfl,rfl,hH,hl⟩:=a6e m1 q1 hi),"!o",(by obtain⟨e,he,hv⟩:=hi.2 i σ[i] (by rw[OH Y]);rw[he,SS,OH Y,hv];rfl),"!p",(by obtain rfl:=cQ rr;obtain⟨l,vs,rfl,sq,rx⟩:=bU rv;rw[kD rx e2]at sq),"!v",(by obtain⟨_,_,_,_,o,_,_,e,ex,_⟩:=I.hok p _ hk;exact⟨o,e,ex⟩),"!w",(by show (wpAny _ _ (field hE_ 2>>=_) _ _ _);refine MC fD!;refine MC fD!;refine MC (QV gI rfl ?_);refine MC ?_),"!|",(by obtain⟨cl,cg⟩:=b3p λp hp hf=>I.ok.has p.1 (iy p hp hf)),"!}",(by have e:=ax!;dsimp only[Array.length_toList]at e;omega),"#!",(by exact a2v a3 hn a1 λh2 b1 b2 b3 b4=>k h2 T iu_ b1 (a2.skip b2 (by intro x hx;simp at hx;subst hx;exact .inr (Z4 a0))) b3),"##",(by show"!6";refine jH I_ ?_;refine jH I_ ?_;refine ifT (bG.trans (congrArg some a2d)) ?_),"#+",(by subst hj;rw[hi]at e1;rcases e1;rw[OI YL]at e2;cases e2),"#3",(by unfold pyNext;refine MC (TQ (OV hT QB (OQ QB hT WL ?_ (WD _))));refine MC (MH (MC gw!))),"#4",(by rw[MX,MX,<-h3,<-h4,<-Y,<-h2];by_cases hl:h!=an_),"#5",(by rintro a pn oe c hp hc hb s Z H Q I ⟨e1,v,e2,q⟩),"#6",(by obtain⟨its,rv,⟨o,Y,h2,n,h3⟩,_⟩:=I.tuple kq!),"#7",(by have ne:∀{b u},H b=some u->b≠p:=λe=>cN e hp),"#9",(by have rs:∀j∈rest,j<es.size:=λj hj=>h2 j kW_),"#?",(by have n1:=nd.1;have n2:=nd.2;rw[<-QX,ND,UV]at n1),"#C",(by simp only[Op.nm,D.tup.injEq,PR,D.int.injEq]at e),"#D",(by simp only[MU,WN,List.drop_zero,List.headD_cons]),"#E",(by rename_i h1 ep hM;obtain⟨kk,e1,e2⟩:=MD.mp e),"#F",(by rcases e;refine ⟨G,ρ,_,er,?_,k⟩;show((Option.some ds)).bind _=_;simp[hl]),"#G",(by have:=congrArg List.length h;simp at this;omega),"#K",(by obtain⟨ad,h1,vs,ky,ZF,xz,x5,hn,hs⟩:=hd.ex),"#L",(by obtain rfl:=bC ry;obtain⟨v,Y,h2⟩:=pB ra e),"#M",(by exact b7q ce hF rfl rfl (λv M' ba bc ev h=>hR v M' ba bc ev h) λz=>hE z M1 ce)]
def z'0:String:=z [a!,(by omega),b!,(by simp),c!,aP χ,d!,Or.inl χ,e!,Inv X hb Z H s,g!,Txt P w K mg t,h!,ds.length,i!,xs.length,j!,s.heap.objs.size,k!,Aa 0,l!,aC v!,n!,model prog w,o!,λ_ _=>χ,p!,wl r!,q!,μ aj!,r!,Aa 1,u!,NC _,v!,aA 0,w!,Ah.units hr,x!,i+1,y!,(x==ml!)=θ,z!,arrOf ac,A!,wl C!,B!,.bl θ,C!,Aa 2,D!,μ Str,E!,model P w,F!,(by decide),G!,.str k,H!,λ_=>ψ τ,I!,bZ 0,J!,Gl X x,K!,Ba G H,L!,aC am_,M!,arrOf st,N!,ψ i,O!,[a,b],P!,λ_=>True,Q!,Str->Da_ Value,R!,k+1,S!,Aa 3,T!,s2.heap.objs.size,U!,.int i,V!,"hand",W!,μ α,X!,j!+1,Y!,Aa 5,Z!,bN w!,Aa!,ay=υ/\rest.find? dy!=Ld ks k,Ab!,(by rw[<-e];exact q1),Ac!,bB aO bJ E_ (K4! aB aP!),Ad!,bB aO bJ pS_ aB,Ae!,jD w.rnd z g8,Af!,aZ (show(Ae_:μ Str).Nodup by decide+kernel) χ d!,Ag!,ι Value,Ah!,λ_ _ _ _ _=>Ag_,Ai!,tR ho hc hd (DS! BH),Aj!,es.eraseIdx j,Ak!,T.Y5 _ χ χ χ χ,Al!,bY v! bA! cP,Am!,(((n::r).map D.int).length:δ),An!,aS χ fR! χ,Ao!,(by rw[cu,i1];rfl),Ap!,[dA!,a,b,bF_],Aq!,MR P w KF M1 G1 H1,Ar!,#[?_,H5! x.g ?_],As!,aE l! (aE a4_ aN),At!,μ D->Mh->ν,Au!,#[_,_,χ,b1,b2,b3,b4],Av!,∀Z G H Q ρ M R,I8_ G->HK! ft->(∀d M' G' H',R d M'->XM M G H M' G' H'->MR X.prog X.w X.K M' G' H'->Q d H')->t Z H Q,Aw!,#[_,by assumption,h],Ax!,#[_,χ,k _ M' G' H' r' x' m'],Ay!,#[G1,ρ,M1,R,k8!,r1,λd M2 G2 H2 r2 x2 m2=>k d M2 G2 H2 r2 cn_ m2],Az!,k _ M1 _ G1 H1 r1 x1 m1 Ap.bl,AA!,x1.sub.free hp,AB!,.int (F_:δ),AC!,(a2e χ).trans (by rw[hk]),AD!,#[[],χ,χ],AE!,aC (IR_ cM!),AF!,.dct p2! (Ia h1 d ep),AG!,letters.cps.toList.length,AH!,kget h1 d=ψ x,AI!,.builtin "dict.get",AJ!,sSeq GO (sSeq EL AI_),AK!,Builtin.Dict.keyAndDefault,AL!,a3c I Y D' c8 h4 ?_,AM!,Es its b2_ υ,AO!,fV (show(Xz "str" b9).map D.bl=_ by rw[z1];rfl),AP!,Nat.ble ds.length 1000=τ,AQ!,MO (Nat.le_of_ble_eq_true hl),AR!,#[λa b s e=>?_,λb=>AQ_],AS!,("cut"==k||"set"==k),AT!,x1.trans lj! m1,AU!,⟨ys,z,χ⟩,AV!,a5l χ χ e1,AW!,.Attribute o "get" ax,AX!,⟨yv,q2,ry⟩,AY!,J.run I2 AX_ r2 λz M3 zv G3 H3 jv s3 r3 x3 m3 q3 I3 rz=>SK ?_,AZ!,#[yv,q2.mono x3.g,ry],A0!,(by delta Fy;rw[pZ χ (ON _)];rfl),A1!,μ aj!->Mh->ν,A2!,MP X own pos keys kg fp,A3!,a∈W.its/\Gy W binn/\¬En! Wn a binn,A4!,[aI!,ap_,fM!],A5!,(pB_).map en_,A6!,pre++[.tup cp_],A7!,(pg!).resolve_right e,A8!,setT W a A3_,A9!,λv hv q hq=>?_,Ba!,EY X.prog X.w X.K M0 G0 F0 own cr f,Bb!,λj hj p e=>?_,Bc!,Bo G lp_ G' H',Bd!,λb o e J=>?_,Be!,MZ (λhr=>by rw[(s.root hr).2]at e;rcases e),Bg!,#[G,ρ,M,_,sr,e,λρ' M' G' ae H' r d9=>#[G',ρ',M',R,d9,r,k1,k2],λd M' v G' H' r x m q=>GG! k2 r x m q],Bh!,λx hx=>h x b0!,Bi!,#[G,ρ,M,_,sr.st,e,λb M' G' H' r x m=>?_],Bj!,.obj C (Hi x y fs),Bk!,.tup [.int o.tm,.int o.h],Bl!,∀a,k' (f a)=k a,Bm!,(HP! a.map).Nodup,Bn!,.write m3 x3.sub hM,Bo!,Str.ofString "undo"==BH! "undo",Bp!,(show Bo_=τ by decide+kernel),Bq!,My .str os A,Br!,.nx [aJ_,bo_,y'],Bs!,((FQ_ aW!).bind λx=>Ai x aV!)=_,Bt!,(by delta My;rw[hu];exact Y),Bu!,λo ho=>hd o (bz.mem_iff.mp ho),Bv!,λM' ep y Y h2=>hR p M' ep hp Y λb J=>GP_ b,Bw!,(λx=>by simp),Bx!,(qz!).getD .non,By!,BW X.prog X.w X.K [] ft,Bz!,∀cl C av bj fp,ME ce! [] f7 fe,BA!,#[qk.or.cap NL.length ix hix,m1,at!],BB!,λds M1 vs G1 H1 r1 x1 m1 q1=>?_,BC!,De X.prog X.w X.K X.mg X.base k C m ps g,BD!,#[G,ρ,M,_,st,e',BC_],BE!,Ye X.prog X.w X.K X.mg X.base k x C ps g,BF!,(d==sysModules)=θ,BJ!,MH (MC (RO ub uc ?_)),BK!,[(root,.non),(binn,.non)],BL!,([.hid,.wri,.nums,.dir θ,.row binn τ,.fol binn τ,.pre binn τ,.row root τ,.fol root τ,.pre root τ,.dir τ,.par,.ob]:μ Td),BM!,∀h',Ij! it s.heap->Q υ {s with heap:=h'},BN!,.fol binn τ,BO!,.pre binn τ,BP!,(λi v=>∃c u,x.cps[i]?=ψ c/\v=.str H_ u),BQ!,#[_,s1,g9_],BR!,kp c o hc eo,BS!,(by show 2<=sizeLine;rw[PB];decide),BT!,I.hok.fresh hT,BU!,bD (λz:b=T=>ud (Di_ z J)),BV!,[.int qF_,.str #[[q.1].toArray]],BW!,.Name "enumerate" p,BX!,(by show 2<100;decide),BY!,λb J=>I1.fpOk (io b J) BY_,BZ!,(∀x∈os,x.nm∉pre),B0!,(∃zp,Vc W' zp),B1!,IntsAre lj.toList ms,B2!,(show B+20*(os.length+1)=B+20+20*os.length by omega),B3!,(by rw[show Op.nm x=Op.nm y from z.symm];exact NQ hy),B4!,(∃pre,Vc W' pre),B5!,hp.mem_iff.mp hx,B6!,(lA!).nodup_iff.mpr nn,B7!,.bl (if neg then !(b==c)else b==c),B8!,g M x y=ψ d,B9!,.Call (D1! bk_ "insert") [ek,e] [] ah,Ca!,ho _ (hi _ ?_),Cb!,(by show 3<=1000;decide),Cc!,ψ (.lst (l.map Op.v)),Cd!,.lst (Da! k.toNat ds).flatten,Ce!,.BinOp o3! .Mult b pos,Cf!,upd H1 p eb_,Cg!,#[p,n,vs,χ,χ,yj,p_,p_,by rw[<-aK q1];exact fF hl,pA!],Ch!,ψ (.int qP_),Ci!,getElem?_pos _ k cu,Cj!,λi j h3 h4=>?_,Ck!,(show x - 1<a0.size by omega),Cl!,Ia σ u.2 ep,Cm!,if _ then _ else fH!,Cn!,λi j h5 h6=>?_,Co!,.inr (.inr #[i,hi,χ]),Cp!,(∀i,i<lo->Eq! i<=Eq! k),Cq!,∀q∈rs,Sd q.1/\Sd q.2,Cr!,Bv [.lst ex_]=_,Cs!,.bl (!decide ((f4!).2=p)),Ct!,(f1 Bv gM! b5_).bind (λz=>Ww ic_ z)=_,Cu!,[ak!,N!,cQ_,cS!,ig_,ih!,y],Cv!,((List.range' k m)).map λj=>D.int qM_,Cw!,(by rw[cond,NA z]),Cx!,.inr #[j,p_,h2,h3],Cy!,λ_ K hK=>hK,Cz!,λv hv R hR=>?_,CA!,ys.toArray.filterMap id,CB!,(rs.take a++bV_::rs.drop a),CC!,.lst ((ex_).drop a),CD!,k3 lN_ f3! lI!,CE!,λq=>decide ih_,CF!,l.filter λx=>Kr x q,CG!,(Ai f3_ U_).bind (λz=>At z x)=_,CH!,Y.mem_iff.mp (QF cu),CI!,Ez X.prog X.w X.K X.mg X.base Ot k f fd ps w0_,CJ!,Ca (Uz "put"),CK!,Ca (Uz "drop"),CL!,(c,GH! ku.toArray n),CM!,Aa 2 ρ=ψ qo_,CN!,b=τ->HK! q1,CO!,(by rw[mV,MO ha]),CP!,u.map λi=>eA_,CQ!,(c,GH! ku.toArray e),CR!,Inv X (hb++[lS_,CQ!]) Z H s,CS!,Obj.mapSeq λ_=>(#[]:Array Value),CT!,l.any λd=>Ej d x,CU!,L.cell (wt,_) ig!,CV!,(lU_).map ar!,CW!,[P_,ak!,ψ fS!,lV_,o4,o5,o6,o7,o8,o9],CX!,(ij_).push f9!,CY!,wi.sg a ha q hq,CZ!,ψ (.tup [dA!,a0,b,tx]),C0!,.builtin "sorted",C1!,#[[s.cps.toList.getD k 0].toArray],AN!,Dx K mg ζ,Bf!,if(ζ).length<=big then J1! D.lst η else υ,BG!,X.env.cells.lookup ζ,BH!,Str.ofString ζ,BI!,Str.ofString ζ==Str.ofString η,C2!,aT (ζ T) b_ χ η O_,C3!,bA nd χ d! ζ,C4!,Ac ζ (Ac η Af),C5!,DE X own ζ,C6!,Bool.noConfusion ζ,C7!,.fields [.none,.bool θ,.ref j!,rawInt ζ,.none,.none].toArray,C8!,attributeBase ζ η X.env,C9!,Pu ζ ρ M,Da!,List.replicate ζ η,Db!,(by simpa using ζ),Dc!,fT (f2 At ζ (fC η)),Dd!,ξ χ ζ,De!,swapsWith ζ η pos.line X.env,Df!,h'.get? ζ,Dg!,bootBuiltins ζ,Dh!,Heap.SameBut ζ s.heap h',Di!,wpAny _ _ ζ _ _,Dj!,Ap KF H ζ,Dk!,Bk ζ 2 (η t),Dl!,eI nd χ d! ζ,Dm!,Ab ζ (Ab η Ad),Dn!,ζ (.bl (decide η)),Do!,ζ t η yy a ta wa S kl ca,Dp!,ζ η s.heap.objs.size,Dq!,congrArg ζ η,Dr!,False.elim ζ,Ds!,ψ (.tup ζ),Dt!,(show(ζ:μ Str).Nodup by decide+kernel),Du!,XM M G H ζ,Dv!,nw ζ _ χ c_ c_ c_ η b!,Dw!,As ζ q1 q2 ρ M R,Dx!,wpAny ζ A.in1 η _ _ s,Dy!,.of_refs mj (ζ I q q' rr b7 a! λus us' rv a9=>lO I xs ys A.in1 vs ws us us' n n' fB! rr b7 rv a9),Dz!,aG (dL (cE (ζ T) b_ l! η)),DA!,X.s₀.heap.get? ζ,DB!,tpl (iF c3_ (iF eO! ζ)),DC!,ζ hb s1 Z H1 η I1 q1,DD!,Al.cons ζ Al.nil,DE!,(∀d M' v G' H',R d M'->XM M G H M' G' H'->MR X.prog X.w X.K M' G' H'->ζ X.K G' d v->Q v H'),DF!,sc.names.lookup ζ,DG!,wpS n! A E s ζ Q st,DH!,Hx (Qh i6_ (fT (f2 ζ cA! η))) dd! El,DI!,hR M' O _ _ ζ cz hF,DJ!,#[gU_,_,I.lnew (ys:=(Builtin.Str.partsBetween z ζ am!).map V.str) (qE _ _) zS!,χ,q'],DK!,Ag ζ η ρ M R,DL!,ζ X own bd,DM!,ζ .local,DN!,XY ζ I.kIn True.intro e ed_ fin,DO!,ψ (wS ζ),DP!,Bo ζ η G' H',DQ!,ψ (.nx ζ),DR!,iP (ζ T) η χ a_,DS!,(by simp[ζ]),DT!,(ζ).trans η,DU!,fs.lookup ζ,DV!,OR ζ own G H Z ρ,DW!,K.lookup ζ,DX!,eV ζ m sub e,DY!,ζ s.heap,DZ!,pF SL PySem.F.slot_str_join PySem.F.type_str_join b2n ζ kx! dh dn dq hs cx,D0!,R (.nx ζ),D1!,.Attribute ζ η ax,D2!,ζ (decide η),D3!,(ζ).all bx!,D4!,pF SL PySem.F.slot_str_split PySem.F.type_str_split ζ ho.ok η dh dn dq hs cx,D5!,SeqAt.RcNeAt A s ζ,D6!,Al KF H ζ,D7!,dZ (jZ a2k χ T.T4 χ T.U1 cL rT ζ),D8!,(by rw[ζ];omega),D9!,ζ X own η ft,Ea!,Qs (ζ t) η M,Eb!,scope.names.lookup ζ,Ec!,W.nsIn ζ mainGlobals,Ed!,(λx y H Q=>GA ζ θ x y H Q\/∃i j,x=.str i/\y=.str j/\Q iT! H),Ee!,Ql bnd ck ft fe ζ,Ef!,(if y=i then ζ else W.txt y).map e_,Eg!,f2 Ai ζ z_,Eh!,aV (bK ζ),Ei!,#[G,ρ,x,er,e1,λv G1 H1 s1 r1=>ζ],Ej!,gZ χ (L.cell (a,.obj t.B5 ζ) b!),Ek!,dP c3! λv s1 ⟨x,H1,I1,r1,q1⟩=>ζ hb s1 Z H1 x v Q I1 r1 q1,El!,envOfC ζ η s.heap.objs.size,Em!,(hG_).get? (ζ).objs.size,En!,ζ W.rows,Eo!,List.lookup ζ,Ep!,zP c9 df cg cap calm (hg cl) (hi cl) (he cl) I2 ζ bu f2 hw ?_,Eq!,rk r z! ζ,Er!,Nb t.Nothing E (wl (fC (.str ζ))),Es!,Bm M' w ζ,Et!,W.keepIn ζ,Eu!,s.heap.IsTuple ζ,Ev!,f2 Ai ζ u_,Ew!,swapsWithSole ζ e pos.line X.env,Ex!,ζ X own own,Ey!,xs.foldl max ζ,Ez!,.Assign ζ η pos,EA!,MC (ζ ?_),EB!,(λr M1=>match r with|.nx al=>Aw ζ al M1 hG!|.rt d=>R d M1),EC!,(∃xs,ζ η H p xs/\k=! dS_),ED!,RW t M0 ζ r f p,EE!,I.hok.fresh ζ,EF!,(λxs H Q=>∃p ys,xs=e8_/\ζ/\∀l,H l=υ->Q e9! jp!),EG!,ζ KF own,EH!,Cc bnd ft fe ζ ds,EI!,(by rw[ζ];simp),EJ!,h'.IsListIter ζ l,EK!,occurrences s H_ 0 s.length ζ,EL!,#[.ref x_,upd H1 s1.heap.objs.size ζ,tM!,χ,q _ hf],EM!,Ak 2 (ζ t) η,EN!,f1 ζ (Ac η Af),EO!,Inv ζ η Z H s,EP!,ζ X.K own η,EQ!,ζ X own tg,ER!,ζ i t q hu _ _ _ _ h,ES!,Paired.mapP ζ λ_ _ z=>z.mono η,ET!,En ζ e it eS_ η ev! old,EU!,if(dd_).length+1<=big then ψ (D.lst ζ)else υ,EV!,IntsAre ζ,EW!,bF kY lD ζ cV n_,EX!,#[#[],by rw[ζ,η];simp],EY!,(Ek ζ H p ys/\∀l,H l=υ->Q e9! (upd H l jq_)),EZ!,.cons ζ .nil,E0!,XM M0 G0 F0 ζ G' H',E1!,Az t.B7 "put_behind" 3 (Cf t) (w2 By di! ζ) nx_,E2!,ψ (.rt ζ),E3!,s.cps.toList.drop ζ,E4!,wpAny_comprehension_free χ ζ cg.eq c9 k8 vW_,E5!,Paired F ζ,E6!,TH hp (dP ζ ?_),E7!,(∀v G' H',Bo G H G' H'->ζ X.K G' d v->Q v H'),E8!,ζ _ _ χ χ,E9!,Kp ζ gf_ s.heap,Fa!,starEach [] ζ,Fb!,Az t.B5 "have" 2 gV_ i_ ζ,Fc!,ψ (D.bl ζ),Fd!,#[λi _=>i<n,λi H x H'=>H'=H/\x=.int ζ,sD!],Fe!,closOf env.cells ζ,Ff!,(λz=>by subst z;rw[ζ]at eb;rcases eb;exact uk _ η),Fg!,fO ζ χ,Fh!,λpn f M0 G0 F0 E hX=>(jK (c0p nd χ d! ζ)),Fi!,OQ UP h3.typeIs PySem.F.entry_dict_get ?_ ζ,Fj!,#[_,_,_,_,_,ζ,by rw[<-Array.all_toList];exact η],Fk!,NO.mp (p.nodup_iff.mp ζ),Fl!,gZ χ ((m2 a aq ζ).trans hA.ob) ly! hP5 ?_,Fm!,ζ value gw hb s Z H x y v u Q I rx ry q hs,Fn!,MC (ζ η χ ?_),Fo!,PV (wpS_modify (RL (.inr #[NC 1,χ,fin ζ η]))),Fp!,rc _ a! q1 (λM' ρ h' f'=>hR M' ρ zm! ζ),Fq!,Ak ζ g η ρ M K,Fr!,bF Y_ bR ζ η n_,Fs!,.fields ζ,Ft!,swappedStores ζ e X.env,Fu!,ζ pl.isList,Fv!,Hv xs.length ζ,Fw!,s'.heap.get? ζ,Fx!,OR KF [] G H ζ,Fy!,MC (QJ ζ),Fz!,#[v',H3,I',be,k _ M3 v' G3 H3 r3 ζ m3 r'],FA!,W.subIn ζ a7_ aK_,FB!,fC (.lst ζ),FC!,(∀x v,kget ζ x=ψ v->∃k:Str,v=.str k),FD!,jF χ ζ c_,FE!,I.cell ζ c,FF!,.builtin "type.__call__" #[.ref C::ζ,kw],FG!,OM (MC (wpAny_sequenceKey hT a_ (MC ζ))),FH!,Gz t ζ r f p,FI!,Y _ (h2 _ ζ),FJ!,MC (wpAny_missed_other h4 (MH #[ζ,χ,h η])),FK!,W.nsIn KF ζ "__init__",FL!,c4i χ (ζ hA hF wE_ λz M' h=>a9x wF_),FM!,letTemporaryGo value ζ r>>=λ_=>pure r,FN!,Ha KF ζ (Hn λi j=>.bl η),FO!,ζ s1.heap.objs.size η x t,FP!,ζ χ ?_,FQ!,sSeq ζ (Bi η),FR!,#[wt,wn,qa,ζ,hA.O],FS!,cZ (a4q (iW dQ_ c! c! ht χ ζ) hl) hK,FT!,Qp P w K tg ζ [it] it,FU!,Un (frs outer) [] ζ H' s.heap s'.heap,FV!,Ez l.prog w bP! mg base ζ k fa fd [x],FW!,Al X.K H ζ vs,FX!,#[eM q2,k _ M2 _ G2 H2 r2 ζ m2 Ap.fn],FY!,callWith_kw (dP ζ ?_) il! il! χ χ,FZ!,w1 ζ (Ab η Ad),F0!,Ag ζ _ η M _,F1!,Qq ζ ρ M,F2!,aE ζ (aE η aN),F3!,dP mu! λv s1 ⟨x,H1,I1,r1,q1⟩=>ζ,F4!,ζ d M1 v G2 H2 h2 AT! (m1.ext x2) q2,F5!,(ζ).foldl (λσ p=>σ++(η).cps++p.cps) σ,F6!,(ζ).get? b,F7!,Ek X.K H ζ,F8!,s.TypeIs ζ,F9!,s.or.own_ ζ,Ga!,ζ i t _ _ _ _ h,Gb!,(cn_).trans (.write m2 x2.sub ζ) m2,Gc!,failedOf ζ,Gd!,(by rw[ζ];exact η _),Ge!,QN _ (z▸NP ζ),Gf!,Dl K t.B6 ζ,Gg!,f2 Ai ζ aV_,Gh!,(fK ζ χ).trans η,Gi!,.obj t.B5 ζ,Gj!,joinL 46 ζ,Gk!,wS (intC ζ),Gl!,gM T.W3 ζ l! hV,Gm!,call_list_seq p ζ ho hc hd uF! nG!,Gn!,codeAny n! A.in1 (.call (.builtin ζ) η),Go!,nG c cs ys x! ζ η h' a!,Gp!,Value.type ζ,Gq!,Ha KF (ζ KF),Gr!,mup M ζ c,Gs!,ζ keys kg X.env pos,Gt!,Dc.mono ζ hB,Gu!,Cm gI_ gJ! m ζ M R',Gv!,rest ζ O W pre pJ! w qK! hr .refl,Gw!,(Pn M (.fn ζ)).map λxs=>D.int i!,Gx!,Qh (fT ζ) (fT g) ρ,Gy!,aG (bE ζ),Gz!,(ND.mp hp).elim (λz=>I.pin p ζ),GA!,#[u,χ,b3c (s:=sD_) e c d a_ ζ],GB!,(ζ).lookup η,GC!,BindsTo s fd ζ,GD!,ζ kindOf i8! m,GE!,Or.inr ζ,GF!,#[χ,I.turned ζ f0 f1 f3 f4 f5],GG!,ζ d M' v G' H',GH!,seqObj "list" ζ η,GI!,Ce ζ [] fa! q_ (fT oe_) (Bg g5!),GJ!,ζ rows i,GK!,((ζ).txt i).map η,GL!,(∀b,ζ b≠υ->b≠a->M' b=ζ b),GM!,λb o _ J _ e n=>ζ b o e n J b!,GN!,Q .non (upd H l ζ),GO!,Array.perm_iff_toList_perm.mp ζ,GP!,Ag wh! (Ag (Jy (Ca ζ) or!) wj!),GQ!,#[by rw[MV,ζ];delta big;omega,?_],GR!,X.s₀.heap.FunFrames X.base ζ,GS!,(ζ).length+(dj_).length+d7!<30,GT!,ζ (η).nox [] cr bx_ q,GU!,ζ (η).nox [] [] bx_ q,GV!,MC (ζ hT η),GW!,PV (b8f hl b' ζ η ?_),GX!,kf L'[ζ].2,GY!,if ζ=[]then k.map D.int else ψ η,GZ!,Az t.B7 "listed" 1 (Hc t) ζ Ad,G0!,h.mem.mp ζ,G1!,f2 An ζ u_,G2!,aF (bA (i:=10) fM.nd χ d! ζ),G3!,PySem.Within mA ζ,G4!,(ζ).map ar!,G5!,PI X tg ζ,G6!,MC (MH ζ),G7!,backTo ah ζ,G8!,I2.cell x c ζ,G9!,Al KF G' ζ ys,Ha!,b8.lookup ζ,Hb!,IsPair ζ TO x,Hc!,Jg P w s.heap ζ v,Hd!,Cp KF ζ d u,He!,.lst (xs.set ζ v),Hf!,rk r ζ k,Hg!,ζ i ew_ a! a!,Hh!,ζ cls υ H',Hi!,FE X hb ζ η e it,Hj!,f1 ζ aY_,Hk!,(ζ).map D.int,Hl!,Tc W ζ d W',Hm!,kget ζ o.nm,Hn!,OS t M' a o ζ,Ho!,ζ nd hh hn ht,Hp!,#[_,χ,ζ],Hq!,SeqAt.in_listAt ζ pl.isList η e8!,Hr!,ζ η b its.toArray ij.toArray n n2,Hs!,hr (by rw[z];exact(hA.O ζ).mpr η),Ht!,#[_,ζ,χ,η,χ],Hu!,Ap.lst (Ek.of ζ),Hv!,AB KF ζ η G1,Hw!,.int_str ζ _ _ _,Hx!,.str_str ζ _ _ _,Hy!,ζ a! I2 m2 x2.sub gq AX! e3,Hz!,ζ fh hl hf hn c7,HA!,Nq (Ds (wl i9_) ζ (Ds jj_ η Lz)),HB!,(MZ ζ).trans bY!,HC!,if a∈W.its then ζ W a η else W,HD!,ifT (kT nY ζ) ?_,HE!,μ (ζ×η),HF!,ζ _ o (λz=>(η _ z).2.1 χ) ho,HG!,(show Eb P w H h a ζ from η a _ e),HH!,MC (MC (m:=ji!) (PZ ζ vh)),HI!,Ek ζ H a cb!,HJ!,(I.hok ζ o e).stay zd_ ze!,HK!,ζ ρ M R,HL!,st.mr.laid ζ st.or.sub ql!,HM!,(by rw[hS];exact ζ η),HN!,Eh t M' bg ζ,HO!,λz=>ξ ζ η,HP!,ζ Op.key,HQ!,MO (by rw[ζ,η];delta big;omega),HR!,Sum.inr ζ,HS!,ζ X.stack,HT!,wpAny_Name ζ hd,HU!,W.lookIn name ζ,HV!,Q (ψ ζ),HW!,compEnvC scope cl ζ X.env,HX!,DT X own ζ,HY!,ds.drop ζ,HZ!,s.heap.IsList ζ,H0!,.bool_str ζ _ _,H1!,.str_bool ζ _ _,H2!,ζ sub rx ry e k,H3!,MH (MH ζ),H4!,#[χ,χ,ζ],H5!,h2.mono ζ,H6!,TX ζ M0 G0 F0 [] [] (q E),H7!,#[st.1,ζ,χ,st.2,p.isList],H8!,Aw (Az t.B6 ζ 2 (η t) jB! af!),H9!,lst .non ζ,Ia!,w.rp _ _ ζ,Ib!,List.length_pos_iff.mpr ζ,Ic!,(∀x,kget fg x≠υ↔ζ),Id!,ζ hL wi a!,Ie!,(ζ).Perm S,If!,Hy ζ xs x!,Ig!,Nr ζ o.nm,Ih!,S++[acO S yy ζ],Ii!,pM w! (iR aO_ ζ (iR aO_ η vK)),Ij!,Heap.ExtBut ζ η h',Ik!,(MM.mp h).resolve_left ζ,Il!,#[_,τ,χ,χ,λ_=>ζ],Im!,LA ζ ta M kl ca M' ba bc,In!,he (hx ζ z),Io!,W.item ζ s _ _,Ip!,(∃xs,Ek ζ H p xs/\n=i!),Iq!,dP (ζ pos hb s1 Z H1 _ I1 η),Ir!,SeqAt.EqAt ζ s,Is!,getitemInPython_of_ne ζ,It!,Os ce! d7 ζ,Iu!,hi (ζ▸hj),Iv!,s.or.sub b u ζ,Iw!,.bool_bool ζ _,Ix!,.str_tuple ζ _,Iy!,.tuple_str ζ _,Iz!,kget ζ d,IA!,m1.nocell ζ,IB!,st.mr.nocell ζ,IC!,Az C m ps.length g fo ζ,ID!,Uv KF mg ζ C qual st ps,IE!,Looks M hh (ζ aK_) τ,IF!,Fz t.B5 ζ i_ η,IG!,Dl K t.B5 ζ,IH!,.obj t.B6 ζ,II!,¬Wn W.rows i x->R' ζ M,IJ!,f2 Ai ζ ae_,IK!,gE χ ζ,IL!,Tc W n ζ,IM!,ζ b h2_ a6!,IN!,ζ a6_ h8_ υ [] 0 fY!,IO!,f2 ζ aM! r!,IP!,(gc!).map ζ,IQ!,Da [.tup ζ],IR!,gM T.V9 ζ l! η,IS!,Dq ζ Av e0_,IT!,Eb P w ζ η a,IU!,Fu X eT_ (ζ X.K θ),IV!,W.kitOne KF (JW ζ) cB_,IW!,Nat.le_antisymm st.1 ζ,IX!,(∀ys,Paired F xs ys->ζ η s),IY!,[ak!,qP!,T_,ψ (.int ζ)],IZ!,(fK ζ hk).trans η,I0!,(by rw[e1,e2];exact ζ m),I1!,Zz S yy b p ζ σ y6 y7,I2!,List.lookup (BH! ζ),I3!,λhr _=>ζ,I4!,BH_ Ez mg base Ot k ag fd ps ζ,I5!,BH_ MR ζ G' H',I6!,Be_ ζ η X.xe s,I7!,ifT (bG.trans (Dq! ψ ζ)) ?_,I8!,(zA_ ζ η).trans bY!,I9!,Dd_ aS ((ζ).trans (by rw[η])),Ja!,fG hq_ (Eh! (dD (aD bU_ ζ))) dC,Jb!,#[_,KN_ g2 hT,eL (g2.free hT) (Al.cons ?_ (DD! ζ))],Jc!,Du! ζ G' H',Jd!,yT_ ζ S kl ca,Je!,BH_ Ik ζ M0 G0 F0 η G' H' ae ρ',Jf!,Dx_ ζ "NoneType",Jg!,C6_ (NN ζ η) dK_,Jh!,ζ (eQ I q (Dq! not η)),Ji!,aF (bA (i:=ζ) fM.nd χ d! η),Jj!,nZ ((lk!).trans (oA (cB χ (cB χ ζ)) χ)),Jk!,oY! n! ζ,Jl!,Aw (Ak 2 (Qf t) (Ab i_ (Ab (wl (Bg ζ)) Ad))),Jm!,lH bl_ dY s_ ζ χ,Jn!,As (Ee_ ζ) η Bf,Jo!,Be_ ζ Q E s,Jp!,C6_ ζ NS,Jq!,k G2 Z _ (((hq!).grow x2).upd b6 h2 ζ),Jr!,MC (MC ζ),Js!,Dx_ ζ "tuple",Jt!,Dq! ψ ζ,Ju!,(bH ζ).trans ?_,Jv!,Dt_ ζ o i v ov iv u Q I ro ri rv q,Jw!,yJ_ ((ζ).map η),Jx!,w2 Qa (Ak 2 (ζ t) (Dm! aM_ η)) (wl ea_),Jy!,Dx_ ζ "list",Jz!,Dc! bO! ζ,JA!,rJ! Qr X.mg X.base ζ X.stack s H,JB!,gE χ (sk χ (sk χ (jJ ζ))),JC!,oW_ Ez ζ η f fd ps sp,JD!,List.foldl nK! #[] (Da! ζ ak_),JE!,BH_ Ik own M0 G0 F0 ζ G H Z ρ,JF!,if decide ζ=τ then _ else _,JG!,oW_ Jc 10 ζ aZ_ (η t),JH!,ζ hb s Z H η I h,JI!,Dq! List.length ζ,JJ!,Dx_ ζ "int",JK!,EQ_ (YC _ _) ζ ?_,JL!,(ζ).getD .non,JM!,BH_ II af ds ζ G1,JN!,En! Qt ζ fN! b am,JO!,bA (i:=1) fM.nd χ d! (aC ζ),JP!,Fp_ wZ (a3a eG_ ζ η),JQ!,(λxs H Q=>∃p ys,xs=e8_/\ζ),JR!,d8.extBut _ _ c2 (Fm_ c3 ζ),JS!,Dw_ ζ s.heap es.toArray fQ_,JT!,DS_ ζ PySem.F.type_dict_get,JU!,ρ.set i (yJ_ ζ),JV!,.ins ζ s.heap.objs.size [],JW!,Et_ ζ u' dt_,JX!,rJ! ζ X.mg X.base k x ps g,JY!,Az t.B6 "has_item" 2 (Bs t) ζ η,JZ!,Bd 1 [1] ot! q_ ζ η,J0!,C6_ e.symm ζ,J1!,Option.map ζ,J2!,aM aH aL ζ η o!,J3!,MC (OM ζ),J4!,Et! ζ bi_,J5!,C5_ ζ bj!,J6!,C5_ ζ ba_,J7!,.Name x ζ,J8!,DW_ ζ .ellipsis,J9!,Dp! Mz lm! [] ζ,Ka!,En! Qt ζ p s am,Kb!,eG (aP h0) c! (DT! q5! ζ),Kc!,Do! HQ ζ W,Kd!,w2 Qa (EM! ζ j5_) (Ak 2 η ox!),Ke!,upd H s.heap.objs.size ζ,Kf!,Ag (Am 2 aX!) (Ag ζ fa_),Kg!,fA χ (b4t (Fg! aE!) ζ),Kh!,EV! ζ ns,Ki!,EQ! ζ a (η fa),Kj!,DR_ h_ ζ η E s,Kk!,Hx ζ dd! El,Kl!,NQ (h.mem.mpr (.inr ζ)),Km!,DK! (Am i ζ) q,Kn!,Ey_ (Es _ ζ η),Ko!,PO X ζ (EP! FG η),Kp!,#[ζ,χ,MH η],Kq!,Bi (Ii ζ η),Kr!,Ac (f2 An ζ η) Af,Ks!,λρ=>((ζ) ρ).bind AH,Kt!,DB! (iF ζ η),Ku!,oW_ Ok 4 ζ B_ (η),Kv!,λ_ _ _ _ _=>ζ,Kw!,aT (ζ T) b_ χ η au!,Kx!,Ac (I3_ (f2 An r! ζ)) η,Ky!,bB eY eZ ζ aB,Kz!,jG (aD ζ aI),KA!,bH (eW ζ),KB!,JQ! ((EY! ζ)\/(Fb η H p ys/\Q bc! H)),KC!,a5r cR c3z χ T.T5 eA (aE ζ aN),KD!,cY bV! oG (yL_ ζ kR_) (yL_ η o8_) n_,KE!,C3! (aC ζ),KF!,a1a hX (ζ T) b_ χ η,KG!,Jp! (show θ=τ from ζ),KH!,fG (oQ ζ) fr_ dC,KI!,call (.builtin ζ) η,KJ!,aV (bK ζ),KK!,C2! ζ bU!,KL!,#[_,ζ,χ,χ],KM!,f2 Ai ζ gW!,KN!,j9.extBut _ _ ζ η,KO!,rJ! MR ζ G η,KP!,kJ w! ζ η dr_ cK_,KQ!,gF kB wR χ T.U2 iE (aD ζ aI),KR!,cG (a7n χ) c4c χ T.S9 c4l (aD ζ aI),KS!,cY bV! oG (yL_ ζ (KE_ a4_ η)) (aC fw_) n_,KT!,(zA_ 2 ζ).trans η,KU!,a5p aO pH (Kv_ lC (aE ζ aN)) a2!,KV!,aS χ ζ χ,KW!,aD aP! (aD fw_ (aD ζ aI)),KX!,Ac az! (Ac ea_ (Ac ζ Af)),KY!,joinParts_consE (FP_ ζ),KZ!,I2_ (aF pn_ (aF ζ ej_)),K0!,C9_ (I7_ ζ O!) (η fo fa fb),K1!,cY ei_ dY ζ η χ,K2!,dD (aD ζ η),K3!,eI nd χ d! ζ,K4!,bB qT qV ζ η]
def z'00:String:=z [a_,(by decide),b_,hr.mono a_,c_,(by decide+kernel),d_,μ D,e_,(·.1),f_,#[χ,χ,χ,gA_,χ,gA_,gA_],g_,μ δ,h_,model X.prog X.w,i_,wl k!,j_,#[χ,?_],k_,μ Op,l_,Fl->Mh->ν,m_,Ae->ι D,n_,aR _,o_,μ Value,p_,(by omega),q_,Ar 0,r_,μ Int,s_,aC E_,t_,μ V,u_,fC aV!,v_,.bl τ,w_,μ eE_,x_,s1.heap.objs.size,y_,MO χ,z_,fC U_,A_,.fn p,B_,["thing"],C_,ψ by_,D_,#[_,χ],E_,aA 1,F_,s.length,G_,Value->Shared->ν,H_,#[[c].toArray],I_,bG.trans (Jt! c_),J_,"self",K_,DE X own a fa,L_,D->Mh->ν,M_,.ref a,N_,.lst xs,O_,aJ (λ_ _ h=>aX h),P_,ψ dH!,Q_,(by simp),R_,Ac k! Af,S_,Aa 4,T_,ψ o.v,U_,.int 0,V_,.tup bF!,W_,.inl χ,X_,ys.length,Y_,bQ w!,Z_,ι D,Aa_,oR nd χ d! (aD aB (aD aB pS!)),Ab_,ad (.row p0 τ),Ac_,[du_,N!,bE!,cS!],Ad_,(bm!).sl p0 τ (chl hQ_ p0),Ae_,["check","part"],Af_,pY hu x hk ho hd ?_,Ag_,aT (lA T) b_ χ aH! O_,Ah_,dictSet a u v,Ai_,λ_ _ _ _ _=>Ju_ (show(dl!:μ Str).Nodup by decide+kernel),Aj_,Builtin.Dict.takeOut a u,Ak_,cs.map λc=>.str H_,Al_,(k1!).any λd=>Ej d aI_,Am_,aS χ (Jc_ (jU hp)) e,An_,gF wU b0s χ T.U1 rT aH!,Ao_,.ins C dx vs,Ap_,Gf P w KF G H a c,Aq_,(by rw[hM];simp),Ar_,MR P w KF M' G' H',As_,ys++[.str "bin",.tup p5!],At_,BW X.prog X.w X.K own f,Au_,#[by rintro hb s Z H Q I ⟨G,ρ,M,R,st,e,k⟩;exact Ko_ h p6!],Av_,(if p4!<=big then J1! D.lst (Km_ ops)else υ)=_,Aw_,Tb X.prog X.w X.K own G H Z ρ M,Ax_,ψ (.lst bo),Ay_,k _ M1 G1 H1 r1 x1 m1,Az_,x1.trans (.ext p9!) m1,AA_,bA (i:=10) fM.nd χ d! aO_,AB_,if F_<=big then ψ (D.int (F_:δ))else υ,AC_,#[Y,H5! (Ba.refl G) (bD J)],AD_,λY h2 z q=>?_,AE_,[υ,ψ dT_,ψ qc!],AF_,∀bf s',Jg_ lc!->rJ! Gf G lc! a AF!->Q () s',AG_,λ_=>ψ τ,AH_,#[_,χ,OX h],AI_,sSeq BL (sSeq dq14 dq15),AJ_,#[o,χ,h ho],AK_,[bH!,cp!,b0_,dC_,υ,υ,υ,υ,υ,υ,υ,υ],AL_,Es its b2_ υ++Es its υ b2_,AM_,Es its υ b2_,AO_,sJ a! I m sub e #[_,r,rx] hk λs' I'=>MH #[.bl _,H,I',χ,q],AP_,if h!<=1000 then _ else _,AQ_,#[li_,li_],AR_,[fQ!,.int base,k6!,.int most],AS_,Ux X.prog X.w X.K r g,AT_,aS (g:=Uk θ) (x:=b2!) χ χ (in2 k "cut" "set"),AU_,Bo.laid sub hl,AV_,mup M2 q.1 (.lst (q.2++[v])),AW_,SH (QI (ha.run I1 fX_ r1 λy M2 yv G2 H2 iv s2 r2 x2 m2 q2 I2 ry=>SK ?_)),AX_,(fX_).grow x2 m2,AY_,(b1_).mono x3.g,AZ_,#[zv,q3,rz],A0_,dE s.heap.objs.size [] 0,A1_,fin _ (Du_ (wm c_ c_ c_ c_)),A2_,a∈W.its/\Gy W b/\¬En! Wn a b,A3_,wrT b h2_ a6!,A4_,mup M c (.dct (σ++h1) (n+aw_)),A5_,D.tup cp_∉pre,A6_,(by rw[NR,QR];omega),A7_,hg.winv w.inv hc.1 hc.2.1 hc.2.2,A8_,(Eo_ m'.toNat).map λk=>.tup kK!,A9_,ft ρ=ψ θ,Ba_,ft ρ=ψ τ,Bb_,[ap!,bB!,fZ_],Bc_,Ab fL! (Kt_ (wl f2) f3),Bd_,Ab fL! (Ab (wl f2) (Kt_ (wl f3) f4)),Bf_,h2.ok M0 G0 F0,Bg_,k="undo"\/k="redo",Bh_,λd M' v G' H' r x m q=>k1 _ M' G' _ H' r ((IB_ x).set b6 q),Bi_,k="undo"\/k="redo",Bj_,mup M2 p Bj!,Bk_,(Bl_).grow x2 m2,Bl_,sr.grow x1 m1,Bm_,.Subscript o i p2,Bn_,λx=>At x aI_,Bo_,Str.ofString "redo"==BH! "redo",Bp_,Vd X own own body q1,Bq_,My .str os σ,Br_,#[ο,hR M ep y hp λb _=>χ],Bs_,mup M p (.dct (Bp σ a G!) (Ia σ a ep)),Bt_,λM' bv y' Y h2=>hR M' bv y' Bt! h2,Bu_,(by rw[bz.length_eq];simp;omega),Bv_,(∀b,b≠q->M' b=M b),Bw_,#[nz,dr.mr,at!],Bx_,[lu!,υ,υ,υ,υ],By_,∀cl C av bj fp,It! By!,Bz_,Bd NL.length ix fi bnd ft fe,BA_,λi p h=>(by simp[W0]at h),BB_,(by rw[<-aK q1];exact r1.1),BC_,λd M1 v G1 H1 r1 x1 m1 q1=>?_,BD_,mup M1 x (.obj C []),BE_,#[G,_,M,_,#[#[er,m,at!],.refl sub,at!],e.2,λρ' M' G' ae H' r sr=>kk _ M' _ G' H' r sr.x sr.st.mr Ap.non,λd M' v G' H' r x m q=>GG! kk r x m q],BF_,s.heap.IsKeyIter it d i es.length ep,BI_,[(root,.fn r1),(binn,.fn r2)],BJ_,(show¬((i:Int)<0)from by omega),BK_,MH (EO_ WQ hT),BL_,x=root\/x=binn,BM_,.fol root τ,BN_,.pre root τ,BO_,s0.heap.objs.size,BP_,(∃old,IsEnum h e it i old),BQ_,D X.A.in1 hh,BR_,#[o,na T o ud eo,r],BS_,.obj t.B6 [],BT_,#[λ_ h=>lx_,QO,λ_ h=>lx_,gt!],BU_,#[χ,iO I hf kp],BV_,(nh_).any e_=θ,BW_,(by show 1<100;decide),BX_,(by show 3<100;decide),BY_,I1.hok.fresh (io b J),BZ_,λi h ⟨o,ho,_,hd⟩=>#[o,ho,λv z=>by rw[hd]at z;cases z],B0_,IntsAre ak.toList ns,B1_,h5 q (EI! pi) wp,B2_,λy hy z=>?_,B3_,(ops.map Op.nm).Nodup,B4_,[lu!,ap!,cr_,υ,υ],B5_,(λx _=>by simp),B6_,(by rw[e3,e1];exact J),B7_,Value.bool b==Value.bool c,B8_,Ab f1 (Ab f2 Ad),B9_,Pu fa ρ M al_,Ca_,.Call (D1! bk_ "extend") [e] [] ah,Cb_,mup M p (He! i),Cc_,0<=k/\k<=1000/\h!*k.toNat<=1000,Cd_,((j+1:δ):Int),Ce_,b1y b9x (qS ha.ok) J.ok,Cf_,#[G1,ρ,M1,_,(fX_).grow (.ext xj) qO!,r1.2,λy M2 v G2 H2 r2 x2 m2 q2=>?_],Cg_,x1.trans (.ext xj) m1,Ch_,mirror xs i j (go! / 2),Ci_,.int (cU_:δ),Cj_,BEq.comm (a:=BH! "redo"),Ck_,Bp σ u.2 f0!,Cl_,(λi h4 h5=>by rw[show i=x+1 - 1 by omega]),Cm_,h m st b h3 h4 u,Cn_,W.its.map λi=>(i,.fn (qa i)),Co_,λb z=>Dd! z,Cp_,#[χ,lo,lo,χ,g2,g4,g5],Cq_,(match rs[k]? with|some q=>!decide (q.2=p)|none=>θ),Cr_,pendingOf ac,Cs_,(υ,a0.size),Ct_,((k+1:δ):Int),Cu_,λ_ _ z=>z,Cv_,ifT (by rw[cond,NG z]) ?_,Cw_,(∀x∈xs,∀(R:β->Shared->ν),(∀y,F x y->R y s)->DR_ n! (f x) R E s),Cx_,[P_,N!,cQ_,cS!,υ,υ,υ],Cy_,!decide (q.1=i),Cz_,[P_,N!,cQ_,cS!,ig_,pC_,υ],CA_,.inl #[χ,λj hj=>by omega],CB_,(Gp! "int"::r),CC_,.lst ((ex_).take a++[Be bV_]),CD_,Ia qT_ hf! e,CE_,l.filter λx=>Kr x p,CF_,#[ct!,χ,lM_,q1_],CG_,λp=>Oj q2_ (Uh h p.1),CH_,#[[a],[(Str.ofString "key",v)]],CI_,Cn wO! cJ_ HH,CJ_,Ca (Uz "move"),CK_,Dt (Ca (Uz "set")) Uj,CL_,As (Dt (Ca (Uz "write")) Uj) Sz (As (Dt (Ca (Uz "cut")) Uj) Zr Bf),CM_,Dt (Ca ft) fu,CN_,b=θ->HK! q2,CO_,Paired f7! kd ku,CP_,∀H':Hp,H' c=υ->D5_ H' c,CQ_,W.its.map λi=>eA_,CR_,ksk_tail a θ e1 a7_ st,CS_,seqObj "list" #[] e1,CT_,Paired f7! ds us,CU_,(by rw[UE];omega),CV_,(a6!).length<5000,CW_,wpAny_newList ?_ cl!,CX_,aP (Jc_ d1j),CY_,l[j]?.map e_,CZ_,[P_,ak!,CZ!,lV_,y4,ψ lT_,ih!,y,υ,υ],C0_,s.heap.IsList l hv_,AN_,X.env.scope.names.lookup ζ,Be_,wpAny h_ X.A ζ,BG_,(by rw[ζ];exact η),BH_,ζ P w KF,C1_,Al KF ζ ds vs,C2_,ψ (.int ζ),C3_,ψ (.dct ζ η),C4_,ψ (.bl ζ),C5_,W.kitOne [] ζ,C6_,ξ ζ,C7_,starEach ζ X.env,C8_,ψ (excClassObj nm q C N bs ζ hdct sn sub ab col dd k0 k1 k2 k3 k5 "ValueError.__new__"),C9_,ME X own ζ,Da_,ι ζ,Db_,λhr _=>(aG (bE ζ)),Dc_,(ζ).map e_,Dd_,ζ χ χ η,De_,.inr (.inr ζ),Df_,λhr _=>(aV (bK ζ)),Dg_,lO ζ xs ys A.in1 vs ws us us' n n' fB! rr b7 rv a9,Dh_,mZ ζ n n' a! r r' ru be a3!,Di_,(by rw[<-ζ];exact η),Dj_,Ce 1 [] ζ q_ H! η,Dk_,eval ζ X.env,Dl_,.fields [.int lo ζ,.int hi u,.int 1 v].toArray,Dm_,concat_meets je_ jf! noFill_tuple_add seq_tuple_add VS VM (VI ζ _),Dn_,#[λi H=>∃xs x,ζ K H a xs/\xs[i]?=ψ x,λi H x H'=>H'=H/\∀xs,ζ K H a xs->xs[i]?=ψ x,λi H=>∃xs,ζ K H a xs/\i!<=i],Do_,aD ζ (aD η aI),Dp_,Fr M O M' ζ,Dq_,I.tuple ζ,Dr_,SeqAt.EqAt A s u ζ,Ds_,mup_ne ζ,Dt_,ζ hb s Z H,Du_,(aC!).trans ((aC!).trans ((aC!).trans ((ll_).trans ζ))),Dv_,Ay t ζ yy a ta wa η S kl ca,Dw_,ζ X.prog X.w η,Dx_,ψ (ζ==η),Dy_,(assignEach ζ X.env).map ar!,Dz_,.seq its.toArray ζ,DA_,W.findIn ζ aa_,DB_,ζ mainGlobals mg,DC_,Ei ζ fd ps [],DD_,ψ (.ref ζ),DE_,aM aH aL ζ η o!,DF_,.fields [.ref ζ,.int 0 0].toArray,DG_,(ζ λe=>match e.key with|.str _ _=>τ|_=>θ),DH_,fC (.int ζ),DI_,λ_ _ _ _ _=>lX ζ,DJ_,Yp X.prog X.w X.K M0 G0 F0 own ζ,DK_,lE ns S yy x3 a y5 ed! ζ y8 y9 η fm,DL_,if ζ<=big then J1! D.lst gU! else υ,DM_,Ap KF ζ d v,DN_,Ci K t.B6 ζ,DO_,fW χ T.T9 (cG cR eK χ T.T5 eA (aD ζ aI)),DP_,Ap X.K ζ d v,DQ_,h'.IsTupleIter ζ,DR_,wpAny ζ A,DS_,VV m.base m.few m.line UD ζ η lk_,DT_,ψ (ζ=="bool"||η=="int"),DU_,EP X hb Z Q ζ,DV_,iN (vN av0 ax1 ax2 ax3 dD_ ζ),DW_,IsZip ζ z TI TO,DX_,Bl t ζ o O,DY_,#[by rintro ζ hb s Z H Q I ⟨G,ρ,d,er,e,k⟩;exact h ζ hb s Z H Q I ov_],DZ_,cH Z! bM ζ η o!,D0_,s.heap.update ζ η,D1_,#[G,ρ,ds,er,e1,λvs G1 H1 s1 r1=>#[wX!,λp hp=>k _ _ _ wX_ (ζ wY! r1)]],D2_,#[by rintro ζ hb s Z H Q I ⟨G,ρ,M,R,st,e,k⟩;exact h ζ hb s Z H Q I p6!],D3_,ψ (.int ζ tk),D4_,HT.sIx xs.length ζ,D5_,Fv X hb ζ,D6_,(ζ).map Op.nm,D7_,λhr nd=>(aF zy_ (aF (cK (lF (gB (cE (ζ T) b_ L! ag!))) eo! bP) fF_)),D8_,(OF _ _ ζ).trans η,D9_,BX (Ta w x0 ζ η) M R,Ea_,Paired ζ,Eb_,Fb KF H ζ,Ec_,KF.lookup ζ,Ed_,R .non ζ,Ee_,Ca (fT ζ),Ef_,s.cps.toList.zipIdx.map ζ,Eg_,ζ hL hw.inv ai hB,Eh_,[("following",.fn ζ),("preceding",.fn η)],Ei_,((lH_).filter λd=>match d with|.tup [ζ,_]=>decide (ζ=x)|_=>θ),Ej_,I.list ζ,Ek_,Q bc! (upd ζ p η),El_,ψ #[oc,od,.func ζ,jg],Em_,ζ X.prog X.w X.K own η,En_,cY bl_ dY ζ η χ,Eo_,List.range ζ,Ep_,kget h1 ζ,Eq_,h'.FunFrames base ζ,Er_,ψ (D.fn ζ),Es_,Inv X hb ae H' ζ,Et_,SeqAt.RcAt A s ζ,Eu_,dP ζ λus s1 ⟨vs,H1,I1,r1,v,xs,M1,G1,q1,t1,x1,m1,rr⟩=>?_,Ev_,ζ X.env.locals,Ew_,Q (.bl ζ) H,Ex_,ζ p1.isList p2.isList η hu,Ey_,ψ (D.lst ζ),Ez_,s.heap.FunFrames ζ,EA_,(by show(cz_).foldl max b=_;rw[SO,show max b x=ζ by omega]),EB_,kI (fW χ T.T9 ζ),EC_,Cc q_ H! ζ bn_ η,ED_,cO (λd=>match d with|.tup [ζ,_]=>decide (ζ=x)|_=>θ),EE_,Ah k (A.deeper (envOfC qual ζ s.heap.objs.size f aj)),EF_,ψ (ψ ζ),EG_,.inr (.inl ζ),EH_,Builtin.Str.strKind ζ,EI_,ζ I1 m1 x1.sub hM,EJ_,Di B_ 1 (ζ),EK_,#[ζ,(η).trans e1],EL_,ζ I dx dy n1 n2 a! r1 r2 rx ry X.prog X.w X.xe _ hx_,EM_,.fields [ζ,vu,.none].toArray,EN_,wl (f2 An ζ η),EO_,MC (ζ η ?_),EP_,(backTo ζ η).any e_,EQ_,SU UI fL_ TV ζ,ER_,#[_,χ,W.go jc n1 tp ζ T _ _ _ hm λh2 bu na=>?_],ES_,XF n ζ e T cls,ET_,lE ns S yy x3 a oD! y6 y7 j0_ aD! ζ (ψ (hi!).v),EU_,λ_ _ _ _ _=>ζ,EV_,#[ο,hR a y (by rw[show ζ=k by omega];exact ha)],EW_,ζ t b vs.toArray ws.toArray n n2 dd mh sl gu jf_,EX_,(by rw[ζ];rfl),EY_,(ζ).all bw!,EZ_,.ok (.ret ζ),E0_,Bk ζ 1 (η t),E1_,(by obtain z|z:=tM ζ;rw[z];exact ML;exact MF _ z),E2_,CZ W M w O ζ η R,E3_,cK (lF (gB ζ)) (aG a1d) bP,E4_,Cd (Az t.B6 ζ 4 (η t) i_ gR_),E5_,X.base.get? ζ,E6_,Ap KF G ζ,E7_,ψ (.str ζ),E8_,ζ ρ M1 R,E9_,.seq [.int i ζ,x].toArray,Fa_,Ak 1 ζ aG!,Fb_,Ag (Am 2 nS_) (Ag (As (Hw (wT ζ)) He Bf) fa_),Fc_,anT (kT nY ζ) l8! c0_ c0_,Fd_,Fu X ζ (η X.K),Fe_,PV (wpS_reverse ζ),Ff_,TX X M0 G0 F0 own ζ η,Fg_,kget ζ x=υ/\kget η x=υ,Fh_,(λx y H Q=>∃i j,x=.str i/\y=.str j/\Q ζ H),Fi_,(∀(s:yU!) (u:v5!),BindsTo s fd jF! [(ζ,u)]),Fj_,s.heap.IsListIter it l ζ,Fk_,(lR!).bind (λx=>Ai x ζ),Fl_,(∀b∈fp,∀o,h.get? b=ψ o->ζ b=ψ o),Fm_,bp.extBut _ _ ζ η,Fn_,a0n Y hr hg h3 h4 h2 .nil ζ ha.ok a8 he az,Fo_,wT (w2 aX_ ζ η),Fp_,ζ η χ χ,Fq_,(by simp[show ζ=τ from by decide+kernel]),Fr_,bB aO bJ ζ η,Fs_,Heap.SameBut ζ,Ft_,#[x_,[x_],_,_,H1,χ,sH_,ζ a _,dN_,bK!,q],Fu_,sp vs H Q ζ,Fv_,(∀p∈names,p.2=.free->∃c,ζ p.1=ψ c),Fw_,Ek KF H ζ,Fx_,ζ I q q' rr b7 a!,Fy_,kget ζ x,Fz_,MC (wpAny_isInstance ζ isSubtype_stop ?_),FA_,ζ χ χ,FB_,ζ t el! M R,FC_,kget ζ x.nm,FD_,jI (fQ c! (h.nob ζ) c! λK hK=>η h.out hk t6_),FE_,if ζ=η then _ else _,FF_,(ζ:μ Expr).length+(dj_).length+d7!<30,FG_,Xq n ζ e cls,FH_,ξ e.1 ζ,FI_,(by rw[MX,<-hl];exact ζ),FJ_,wpAny h_ X.A.in1.in1 ζ,FK_,mk aF_==Str.ofString ζ,FL_,Un iv! ζ H η s.heap,FM_,Al.cons ζ η,FN_,#[[ζ].toArray],FO_,PySem.intText? ζ,FP_,joinParts_cons ζ,FQ_,Ai o.v ζ,FR_,.lst [.int (ζ 0),.int (ζ 5),.int (ζ 15)],FS_,.inl (.inl ζ),FT_,rule i j t t' s _ _ ζ,FU_,ζ _ _ _ _,FV_,MM.mp (I2.stkSub b ζ),FW_,Gj ks k ζ,FX_,rk r xs ζ,FY_,wpAny _ A.in1 ζ _ _ _,FZ_,Gu (Cs ζ),F0_,Fr M pM! M' (Yd bg ζ),F1_,(lA!).nodup_iff.mpr ζ,F2_,wpAny_execs_cons (dP ζ λf s1 q=>?_),F3_,b9a hp hc ay.ok ζ g7 hs hb s Z H E I,F4_,MZ (λJ=>by rw[(lq!).1]at ζ;rcases ζ),F5_,.cons ζ ih,F6_,ζ K H a xs,F7_,eval ζ env,F8_,Rf ζ λi j=>.int η,F9_,Zv KF ζ η st ag fd,Ga_,ξ z ζ,Gb_,sr.st.grow ζ m1,Gc_,SB kd a0 ζ,Gd_,ψ (.Call (J7! np) [ζ] [] ah),Ge_,Fz t.B6 ζ i_ Gv,Gf_,dj q (by rw[e1];exact ζ _ hq) q' bh,Gg_,ζ os x1 b4! σ ep M R h7! a! hp Bt_,Gh_,a9y hl jx hp hs R hR m R! ζ _ a! a!,Gi_,dM c! c! ζ,Gj_,jI (eG (M:=ζ) (aP i0) wA_ (pW (neg:=η))),Gk_,bA nd χ aG_ ζ,Gl_,sIx ak.size ζ η,Gm_,Builtin.Str.partsBetween ζ pN! am!,Gn_,#[(mup_ne λz=>hn ζ).trans zR!,?_],Go_,.ExceptHandler sb_ (ψ ζ) sc_ hp,Gp_,typeLookup ζ,Gq_,x.get (OH ζ),Gr_,Cp X.K G ζ o,Gs_,XM M1 G1 ζ M' G' H',Gt_,Gz t ζ (ad fC_) (ad cO_) (ad cP!),Gu_,propext ζ,Gv_,hA.cl h ζ,Gw_,subAt ζ H_ i,Gx_,aS ζ χ fk_,Gy_,Un fs ex H ζ h,Gz_,X.env.kindOf ζ,GA_,Call_ (iJ I hg hm ζ η),GB_,I1.hok.fresh ζ,GC_,bindArgs ζ db_,GD_,closOf cells ζ,GE_,b8z hc.ok ζ η hb s Z H,GF_,ζ hu h3 h6 h0!,GG_,Up r ζ a0.size,GH_,Bk ζ 3 (η t),GI_,if z=a then ψ x else Sl x ζ z,GJ_,Ty t ζ V' B' c,GK_,Bl t M' o O' ζ,GL_,dX w! ζ s_ η,GM_,wpAny_call (UW ζ λr s' hq=>?_),GN_,ζ a! I3 m3 x3.sub gq AZ! e3 AZ_,GO_,listUpdate_at pc.1 χ ?_ lR_ ζ,GP_,(h2 ζ J).trans qx!,GQ_,gE χ (sk (fV fd!) (wI ζ χ)),GR_,Fb X.K H ζ,GS_,ζ i hi p e,GT_,RV X H s ζ,GU_,#[ζ,q',by rw[<-aK η,hi];exact NC _],GV_,UU ζ e jq η b!,GW_,PV (wpS_lift (QJ #[χ,PV ζ])),GX_,Kp a7 fr ζ,GY_,OQ UX ζ F.entry_enumerate_next,GZ_,Ag (Cn (Gu (Eu ca!)) (Bw 1) ζ),G0_,[ap!,bB!,ψ ζ],G1_,kU wi ζ hq,G2_,Ax ζ its,G3_,.Expr ζ pos,G4_,Nz ζ body,G5_,ζ x y H Q,G6_,upd H ζ (.tup η),G7_,ζ cells r _,G8_,NP (I2.pin p ζ).1,G9_,ζ _ G H aA_ Ap.bl,Ha_,.Call ζ [a] [] η,Hb_,MJ _ (MJ _ ζ),Hc_,wpAny_ite_split ζ,Hd_,Dm (Mv ζ d),He_,Txt.join ζ ys,Hf_,pendingOf ζ,Hg_,.Call (.Name ζ p),Hh_,Inv (Yb X a ζ) [],Hi_,Ce ζ [] (EG r! k!) jc! H! jc_,Hj_,Ce ζ [0,2] (Eu of_) q_ H! vH!,Hk_,cB χ (cB ζ χ),Hl_,iN (vN av0 ax1 χ χ dD_ ζ),Hm_,eG ζ c! χ,Hn_,Ed [.str (mk (ζ).cps.toList)],Ho_,b1z χ χ χ T.T4 cL χ ζ,Hp_,ζ (gE!).kindOf da_ λ_=>υ,Hq_,ζ X.env.cells scope.names [],Hr_,Obj.isFreed_of_dict (ζ hd _),Hs_,iW c! ζ c! hp χ (b1a o.nm),Ht_,wpAny_letTemporaryGo (MH ζ),Hu_,#[_,ζ,χ],Hv_,.int_int ζ _ _ _,Hw_,.str_int ζ _ _ _,Hx_,ζ ho gf ha.ok J.ok hc.ok hm,Hy_,vy.grow Bn! (m3.write hM ζ),Hz_,ζ PySem.F.entry_max_loop ?_,HA_,Aw (w2 aX_ p! ζ),HB_,ad (.row ζ τ),HC_,IA C x fo ρ y ζ,HD_,IF ft q1 q2 ρ ζ,HE_,.seq ζ n,HF_,PE X ζ (tC η),HG_,Yf X.K C m ζ,HH_,Builtin.List.listTooLong ζ,HI_,Lx X scope cl C ζ s2 H2 fp,HJ_,Mz h ζ es ep,HK_,Dm (Dr ζ η),HL_,λp hp=>ζ p η,HM_,Ag (Cn (Jx d8_) cb_ ζ) uW_,HN_,if i∈W.its then ζ W i η else W,HO_,sSeq ζ q2 ρ,HP_,(ζ).Perm ops,HQ_,ih ζ η M' ba bc _ _ _ _ _ _ _ R,HR_,.dict ζ ep,HS_,AllBare ζ,HT_,T.obj _ _ ζ b J,HU_,r.append ζ,HV_,(bP!).In ζ,HW_,Fb KF H' ζ,HX_,bV s2 (bV s1 ζ),HY_,er.or.own_ ζ b6,HZ_,.bool_int ζ _ _,H0_,.int_bool ζ _ _,H1_,h.IsTupleIter ζ,H2_,Jg P w h ζ,H3_,ξ e ζ,H4_,Ij h ζ a b,H5_,OI (by rw[ζ];exact(NE.mp η).1),H6_,hQ h' (.inr ζ) b c (kp k),H7_,w2 By ζ A!,H8_,f2 An u_ ζ,H9_,ζ xs.reverse kp,Ia_,Cq ζ υ,Ib_,(by delta fT;rw[AT_,ζ];rfl),Ic_,Kr o.key ζ,Id_,GU ζ ta kl ca b,Ie_,λx hx=>ζ x b0!,If_,ζ cs start,Ig_,acO S yy ζ,Ih_,(λz=>by rw[ζ]at z;cases z),Ii_,XY ζ I.kIn oI! e ed_ fin,Ij_,mup M c (.dct ζ η),Ik_,[(_,.fn ζ),(_,.fn η)],Il_,gW (b7s ζ χ f9_ hk ha),Im_,λ_ _ _ _ _=>aZ ζ χ d!,In_,ζ wh hb s1 Z H1 Q I1 q1,Io_,ζ a! (by rw[η i a!];exact q),Ip_,(show∃t,u=ζ b t from r),Iq_,CE outer ζ w H s Q u s',Ir_,subscripted ζ θ o i,Is_,ao.heap.get? ζ,It_,ζ vY_ η (NY (hb!).1) vZ_ v0_,Iu_,two hg er ζ,Iv_,sY ζ gj hb s Z H E I ?_,Iw_,.int_tuple ζ _,Ix_,.tuple_int ζ _,Iy_,s1.heap.push ζ,Iz_,c5b hg st ζ,IA_,mup ζ q.1 (.dct η (q.2.2+1)),IB_,sr.grow ζ m,IC_,Int.le_of_lt ζ,ID_,formatField_int_small ζ,IE_,ζ Rm Rm jb! k! (fC nl!),IF_,ζ K t.B7,IG_,Bx ζ kg_ (wl fv) ρ M Q,IH_,Eh t M ad ζ,II_,ζ ρ M K,IJ_,Hx c a ζ ρ,IK_,if ζ+η<=big then _ else υ,IL_,ζ x hx q hq,IM_,As ζ _ _ η M _,IN_,f2 Bh ζ bi!,IO_,Cm (Ca jk!) JH m ζ M R',IP_,ζ t c9_ M R,IQ_,.tup [.int (ζ:Int),q.1],IR_,bY ζ cP bA!,IS_,Az t.B7 "holds" 2 (Fj t) ζ η,IT_,Heap.get?_none_of_le ζ,IU_,SeqAt.in_tupleAt ζ pl η e8!,IV_,a0h ζ d d' v n n' r r',IW_,m.cell ζ η e,IX_,L.row z1 z2 z3 n1 n2 ζ,IY_,Ag (Am ζ η),IZ_,Ce ζ [1] fa! q_ hg! k!,I0_,PySem.Txt.startswith ζ,I1_,aZ (i:=ζ) fM.nd χ d!,I2_,λhr nd=>ζ,I3_,f1 Bn (C4! k! ζ),I4_,aT hp! b_ χ (aD ζ hp_) au!,I5_,yT_ M' ζ ba bc,I6_,b5p (aG (bE (aQ (b2h T) b_ χ (aE l! (aE (aC (dD (Do_ aU (aM aH aL ζ (b0j aB) o!)))) aN))))),I7_,.Call ζ η [] ah,I8_,rJ! Tb own ζ H Z ρ M,I9_,if neg then !(ζ).isSome else(η).isSome,Ja_,if neg then !(ds.any λd=>Ej d ζ)else ds.any λd=>Ej d ζ,Jb_,BH_ MR ζ G H,Jc_,Dd_ aS ζ,Jd_,aG (C3! (aC (bB aO bJ ζ aB))),Je_,[bH!,cp!,b0_,dC_,fU_,fV!,fV_,ψ ζ,υ,υ,υ,υ],Jf_,aT ho_ b_ χ (aD v! ζ) au!,Jg_,oX! ζ s',Jh_,.Subscript ζ η pos,Ji_,mup M p ζ,Jj_,Dq! Array.toList ζ,Jk_,Ak 2 (ζ t) (Dm! i_ η),Jl_,(bH ζ).trans η,Jm_,Dt_ ζ x v vl vu lo hi sl Q I rx hs pl pu q,Jn_,.Constant ζ j pos,Jo_,ψ (D2! D.bl ζ),Jp_,oY! h_ ζ,Jq_,aG (cK ζ ds_ bP),Jr_,MZ (BG_ ζ NS),Js_,lE ns S yy x3 a y5 ed! b4! y8 y9 ζ fm,Jt_,C8! o ζ cy_,Ju_,aZ ζ χ d!,Jv_,(Ds_ ζ).trans η,Jw_,Db_ (cE (ζ T) b_ η ag!),Jx_,De_ (.inr ζ),Jy_,Da_ (μ ζ),Jz_,DY! IsTup ζ η,JA_,c0q (eH (Fr! ζ aB)) z0! (b5p bP),JB_,Bi (Bg (Ac aN! ζ)),JC_,Di! (if ζ=τ then _ else _) s,JD_,EG! SR ζ η G' H' Z ρ,JE_,FormattedValue_plain (dP ζ ?_),JF_,Dn! ψ ζ,JG_,#[.bl ζ,H,I,χ,η],JH_,oY! E! ζ,JI_,.inl (.inr ζ),JJ_,Dx_ ζ "str",JK_,MH #[χ,ay,χ,rs,n2,stay ζ],JL_,x1.trans ζ m1,JM_,mup ζ c b9!,JN_,eX c! hA.ob ζ,JO_,rJ! Ez X.mg X.base Ot k ζ fd ps η,JP_,DA_ ζ "__init__",JQ_,C5! ζ (fC η),JR_,(backTo ah (C7_ ζ)).all bw!,JS_,rJ! Gf G ld_ a (.dct ζ dz!),JT_,iJ I hg hm boot_enumerate ζ,JU_,aG (dL (yL_ a5c (aE l! ζ))),JV_,backTo pos ζ,JW_,D5! ζ u' lf_,JX_,Bi (f1 ζ (Ac η Af)),JY_,Ag (Cn ζ cb_ η) dh_,JZ_,C3_ ζ ep,J0_,cB ζ (cB η χ),J1_,fQ ζ mO_ η (a2s hA),J2_,Inv X hb ζ,J3_,Dt_ ζ x y v u Q I rx ry q,J4_,D4_ xs.length ζ,J5_,C5_ ζ bT!,J6_,C5_ ζ aZ!,J7_,Dh_ ζ a3!,J8_,OM (MC ζ),J9_,D2! ψ ζ,Ka_,Dd_ keep ζ,Kb_,Fg! (rO #[ζ,η,χ,Y,h2,h3,h4]),Kc_,bA nd χ aG_ ζ,Kd_,FT! (ζ K a) (λi h=>η it a i),Ke_,EZ_ (.ref (ζ).objs.size),Kf_,D0! [aJ_,ζ,cr_,y',z'] M',Kg_,m2 b (eS J hq) λz=>ho ζ,Kh_,Ek_ H (.lst ζ),Ki_,rJ! ζ M' G' H',Kj_,PE X ζ (DJ_ η),Kk_,Hx ζ (Bi η) El,Kl_,IN! ζ η Bu! Bu_ mup_same Bv!,Km_,Cc _ _ _ bn_ ζ,Kn_,aV (bK (dD ζ)),Ko_,Dt_ ζ Q I η,Kp_,Fu X eT_ (rJ! ζ θ),Kq_,Bg (C4! ζ η),Kr_,Dt ζ (wT η),Ks_,Ds_ (eS ζ η),Kt_,Dm! ζ (wl η),Ku_,cY ei_ dY ζ η χ,Kv_,cE (ζ T) b_ l! η,Kw_,I3! (aG (bE ζ)),Kx_,bA nd χ d! (yL_ ζ η),Ky_,C3! (cH Z! bM dv! ζ o!),Kz_,.Attribute o ζ η,KA_,dL (cE (gJ T) b_ (DZ_ fE! ζ) pq!),KB_,(zA_ 1 ζ).trans η,KC_,aG (dL (yL_ ζ η)),KD_,Jn! C! (Ag (Cn he_ cJ_ ζ) j7!),KE_,aE ζ (aE η aN),KF_,cB χ (cB ζ χ),KG_,isTrue e X.env ζ,KH_,f1 Dj (Ac ζ oi!),KI_,upd H a ζ,KJ_,aG (bE ζ),KK_,eH (oQ ζ),KL_,JH_ (pyIter ζ),KM_,I7_ (D1! ζ "join") [a],KN_,Bo.laid ζ η,KO_,aS (Dd_ a2j ζ) χ χ,KP_,aQ (ζ T) b_ χ η,KQ_,bB aO bJ ζ η,KR_,C9_ (I7_ ζ [a]) (η fo fa),KS_,f1 Dj (Ac ζ (Kx! η Af)),KT_,eH (gS (dZ ζ)),KU_,aS ζ χ fR_,KV_,bF Y_ bR ζ η n_,KW_,I3! (aG ζ),KX_,I3! (aY oJ! (aV (bK ζ))),KY_,I2_ (aF pm_ ζ),KZ_,I2_ (aF pp! (aF ζ fF_)),K0_,cG cR eK χ T.T5 eA ζ,K1_,Kv! (C2! ζ aH!),K2_,(zA_ 3 ζ).trans η,K3_,KV! ((c2t (b0x ζ)).trans η),ψ,some,χ,rfl,υ,none,τ,true,θ,false,ι,Option,ν,Prop,μ,List,ξ,absurd,ο,trivial,δ,Nat]
def z'a:String:=z [aa!,Bm M w O W,ab!,ps.length,ac!,"name",ad!,.nx ρ,ae!,#[χ,χ],af!,Ab p! Ad,ag!,aE s_ aN,ah!,l.length,ai!,starEach aD_ X.env=dW!::C7_ es,aj!,D×D,ak!,ψ x0,al!,X.N[i]?=ψ x,am!,y.length,an!,A.units<cLine,ao!,X.A.units+64<cLine,ap!,ψ ag_,aq!,kF nY c_,ar!,(·.2),as!,Hist S,at!,λi hi=>(by exact(MN hi).elim),au!,aJ O_,av!,aA 5,aw!,us.length,ax!,r.length,ay!,[J_,ac!],az!,Aa 6,aA!,λx hx=>?_,aB!,.ref e,aC!,bH (iL (pZ χ c_)),aD!,ψ v,aE!,(by kernel_rfl),aF!,(r0_).any e_=θ,aG!,Ab i_ Ad,aH!,aD v! aI,aI!,.int h,aJ!,MO a!,aK!,.tup xs,aL!,I.tok _,aM!,f2 Ai k! z_,aN!,Aa 9,aO!,aM aH aL v! aB o!,aP!,aA 6,aQ!,cs.length,aR!,PE X a ta,aS!,(by simp;omega),aT!,srt S,aU!,[bL!],aV!,.int 1,aW!,.int 3,aX!,wl bi!,aY!,z.length,aZ!,.type "tuple",a0!,"_law_item",a1!,Ae->Da_ aN_,a2!,aC aB,a3!,(λ_ _ e=>by cases e),a4!,Eh t M ad V B,a5!,x∈W.its,a6!,W.txt a,a7!,λd hd=>?_,a8!,Ko P w H h,a9!,EP X hb Z Q]
def z'aa:String:=z [aa_,.ref C,ab_,MH ?_,ac_,u++v,ad_,.ref f,ae_,fC aW!,af_,.rt d,ag_,.fn o,ah_,os.map Op.v,ai_,f ρ,aj_,ME X own a fa,ak_,its.toArray,al_,.bl b,am_,aA 2,an_,es.length,ao_,Bl t M o O W B,ap_,.int n,aq_,μ Env,ar_,Ay t M yy a ta wa out S kl ca,as_,Bw 3,au_,aA 3,av_,#[ο,?_],aw_,h1.length,ax_,X.calm=τ,ay_,wl S!,az_,pre++d4!,aA_,Bo.refl sub,aB_,Ck x=ψ k,aC_,rs.length,aD_,(e::es),aE_,"_law_ops",aF_,intC i,aG_,Or.inr χ,aH_,aC au_,aI_,.str s,aJ_,ψ x1,aK_,.ref C0,aL_,"_law_k",aM_,wl S_,aN_,μ D,aO_,aC aU,aP_,aZ nd χ d!,aQ_,μ Addr,aR_,I.ok.hd hc,aS_,i.natAbs,aT_,OS t M a o O W,aU_,.Call (J7! p) aD_ [] pos,aV_,fC cA_,aW_,ι Int,aX_,Gq θ,aY_,Ac C! Af,aZ_,[V!,bd_],a0_,i∉own,a1_,aM aH aL am_ aB o!,a2_,(x,p),a3_,μ dr!,a4_,aC bk!,a5_,.int j,a6_,srt ops,a7_,.ref c,a8_,Bj v u,a9_,.fn a]
def z'b:String:=z [ba!,vs.length,bb!,MO hk,bc!,.ref p,bd!,[dg!],be!,its.toArray.size,bf!,s.cps.toList,bg!,[V!],bh!,λb h=>?_,bi!,fC .non,bj!,.type "int",bk!,aA 4,bl!,(by delta big;omega),bm!,Ky W,bn!,Ck y=ψ k,bo!,Ck d=ψ k,bp!,os.length,bq!,mixKind P w,br!,X.N.Nodup,bs!,g i j,bt!,"_law_hand_here",bu!,Aa 7,bv!,#[_,e],bw!,λx=>!x.1,bx!,λx=>x.1.isSome,by!,Xc yy S,bz!,w2 By i_ ow_,bA!,cI aB,bB!,ψ n,bC!,n+1,bD!,aE l! aN,bE!,ψ x,bF!,[aI!,ap_],bG!,(.str k::r),bH!,ψ (scr ns),bI!,k _ _ W_ e,bJ!,Zt X.env.scope x,bK!,λb J=>?_,bL!,.ref a,bM!,A.handled=υ,bN!,wl z_,bO!,f2 Ai C! z_,bP!,K w.params,bQ!,owL S h,bR!,.lst ds,bS!,f ρ=ψ d,bT!,.type "bool",bU!,aD am_ aI,bV!,iG w!,bW!,W.num x,bX!,ψ V_,bY!,MO χ,bZ!,Cp X.K G d u,b0!,MF _ hx,b1!,ME X own e f,b2!,.str k,b3!,Ik P w KF own M0 G0 F0 M G H Z ρ,b4!,ψ o.v,b5!,.inr W_,b6!,h.objs.size,b7!,j+1,b8!,Fu X (compareOp op) r,b9!,.dct (xs.zipIdx.map λq=>gu_) i!]
def z'bb:String:=z [ba_,.type "str",bb_,MZ hk,bc_,Ah k X.A,bd_,"item",be_,μ cD!,bf_,.str "undo",bg_,Aj st,bh_,Ae->Da_ Bool,bi_,.ref ag,bj_,cH Z! bM l! aO_ o!,bk_,.Name x cy,bl_,fZ w!,bm_,.fn o,bn_,[υ],bo_,ψ A_,bp_,Array Value,bq_,fs.length,br_,.ref j!,bs_,c7!<64,bt_,"_law_one",bu_,.lst ys,bv_,f2 Ai C! ae_,bw_,backToKw ah tI_,bx_,Ch st,by_,.fn a,bz_,μ D->ι D,bA_,D->Ae->Da_ Ae,bB_,W.txt x,bC_,aC a1_,bD_,Addr->ν,bE_,B+20,bF_,.str s,bG_,MR X.prog X.w X.K M G H,bH_,lo+hi,bI_,(env::outer),bJ_,.str x,bK_,eQ I q b!,bL_,"_law_script",bM_,Au t.B7 "following" i_,bN_,Aa 8,bO_,MZ b!,bP_,[aE_],bQ_,.tup ds,bR_,ρ.set i ce_,bS_,s1.trans s2,bT_,[bt_],bU_,aA 9,bV_,(i,p),bW_,oF a1 a2 a3 a4 a5 a6,bX_,.tup kN_,bY_,MZ nofun,bZ_,λz=>?_,b0_,ψ (.lst ops),b1_,q1.mono x2.g,b2_,ψ 1,b3_,[aJ_,bo_,T_],b4_,u.length,b5_,[ak!,N!,cQ_,cS!,ig_,lE!,y],b6_,.ref it,b7_,Int->Addr,b8_,x.length,b9_,Ay t M yy a ta wa .non S kl ca]
def z'c:String:=z [ca!,fC (.int 16),cb!,ns.map V.int,cc!,nI_=τ,cd!,μ fh_,ce!,Lx X scope cl C g3! av bj fp,cf!,ψ oq!,cg!,"_law_world_here",ch!,fa ρ,ci!,λ_ _ _ _ _=>nS,cj!,#[G,ρ,_,er,e1,wS!],ck!,Str×D,cl!,OG _,cm!,M p=ψ hZ!,cn!,MO bl!,co!,ME X own b fb,cp!,ψ (.int base),cq!,[.lst h4_],cr!,.fn q,cs!,.ref l,ct!,[ψ f3_,bE!],cu!,Ro W B,cv!,.inl χ,cw!,Yj X.env.scope x,cx!,.Name x pos,cy!,x≠"__name__",cz!,λ_=>χ,cA!,f1 Bv R_,cB!,Ac r! Af,cC!,vs.toArray,cD!,μ δ,cE!,[J_,bd_],cF!,[V!,dg!],cG!,MF _ hy,cH!,"_law_number_here",cI!,Al KF H ds vs,cJ!,Ap KF G d v,cK!,.Name x p2,cL!,(u++n::v),cM!,aA 7,cN!,ds.map ψ++Da! (ja! - h!) υ,cO!,#[χ,h],cP!,.pre x b,cQ!,Gy W x,cR!,W.txt i,cS!,ψ s,cT!,mup_ne J,cU!,ME X own o fo,cV!,.nx ρ',cW!,((k:δ):Int),cX!,m+1,cY!,NI.mp z,cZ!,#[χ,k],c0!,upd H a o,c1!,NP e,c2!,μ V->Hp->ν,c3!,ha hb s Z H _ I h,c4!,PE X e te,c5!,rv.length,c6!,hs S h,c7!,S.length,c8!,toString i,c9!,ns.length]
def z'cc:String:=z [ca_,ws.length,cb_,Bw 2,cc_,#[t,χ],cd_,scope.names,ce_,ψ d,cf_,OR KF own G H Z ρ,cg_,Aw hg_,ch_,DE X own b fb,ci_,aC cV,cj_,eH (Fr! a1_ aU),ck_,(by intros;kernel_rfl),cl_,s.cps.toList.length,cm_,MR P w KF M G H,cn_,x1.trans x2 m1,co_,M a=ψ hZ!,cp_,[aI!,en!],cq_,Mh->ν,cr_,ψ cr!,cs_,SB kd a0 st,ct_,W.its.map λi=>(i,D.lst lI_),cu_,dS χ,cv_,PE X b tb,cw_,(x==r3_)=θ,cx_,X.mg x=υ,cy_,eval o X.env,cz_,(x::xs),cA_,.int 2,cB_,.type T,cC_,[e4_],cD_,.str H_,cE_,.inr χ,cF_,(by rw[q];simp),cG_,X.pn++hb,cH_,unm o,cI_,H p=υ,cJ_,Bw 7,cK_,#[χ,χ,χ,χ],cL_,Ae->Da_ Fl,cM_,RW t M0 M r f p kf kp,cN_,Bc d=τ,cO_,.fol x b,cP_,B<=B',cQ_,ψ p,cR_,.type "tuple",cS_,μ DictEntry,cT_,.tup bG!,cU_,σ.length,cV_,[e,it],cW_,l[j],cX_,((i:δ):Int),cY_,(by simpa using e),cZ_,Str×V,c0_,λc=>?_,c1_,λp hp=>?_,c2_,μ Expr,c3_,kR _,c4_,dP mu! ?_,c5_,hF yy ta wa out,c6_,∀x,foldedSetIterable iter X.env x=pure x,c7_,[dN!],c8_,i.natAbs.log2,c9_,[a9_]]
def z'd:String:=z [da!,#[by rw[MV];delta big;omega,?_],db!,vs++cf,dc!,"_law_ours",dd!,Bi (fC B!),de!,ψ iN_,df!,.str "cut",dg!,"operation",dh!,"other",di!,Au t.B6 "rows" i_,dj!,wl ju_,dk!,ι Addr,dl!,["word"],dm!,scope.kind=.function,dn!,"_law_deed_here",do!,DE X own e f,dp!,λd hd=>?_,dq!,aA 8,dr!,D×D×Bool,ds!,(s,p),dt!,i∈W.its,du!,("parents",.fn a1),dv!,bL T.W4 T.X3 l!,dw!,.int m,dx!,.int 0,dy!,Gj ks k,dz!,ep+1,dA!,.str "write",dB!,kget h1 d,dC!,(H_:Str),dD!,upd H s.heap.objs.size A0_,dE!,k=="undo",dF!,[aJ_,bo_,cr_,T_,ψ o.nm],dG!,Us prog w A s a0 kd r,dH!,.fn w,dI!,.int i t,dJ!,Ax xs us,dK!,.lst [],dL!,B<3800,dM!,Bool->Hp->ν,dN!,.int i,dO!,NJ _ χ,dP!,(θ,Dk_ a),dQ!,f2 b J,dR!,hs S o.h,dS!,lN _ _,dT!,.dK h1,dU!,ψ ad_,dV!,I.tok _,dW!,(θ,Dk_ e),dX!,Jl CX X E,dY!,((mQ_).length:δ),dZ!,fC (.int 4),d0!,.ref b,d1!,Ab A! Ad,d2!,wl bN_,d3!,.str H_,d4!,[last],d5!,λρ M R=>R τ M,d6!,.type "list",d7!,if(dj_).isEmpty then 0 else 1,d8!,"left_out",d9!,ψ 3]
def z'dd:String:=z [da_,ps.zip us,db_,#[us,[]],dc_,"_law_name",dd_,S.map Op.v,de_,Aq u_,df_,[C_,aJ_,P_,bE!],dg_,.none,dh_,Aw p!,di_,.ref j!,dj_,([]:μ Keyword),dk_,Fc N ps bg_,dl_,Bq X scope NF ix,dm_,∀y∈cd_,y.2≠.cell,dn_,er.grow s1,do_,k _ G H aA_ Ap.int,dp_,aC aO!,dq_,λb h=>.inl h,dr_,aC eU,ds_,aG (bE dr_),dt_,Ej d d',du_,ψ ky!,dv_,.Tuple jc n1 tp,dw_,ψ b,dx_,Ck a=ψ ka,dy_,mkHash P w k,dz_,(d,x),dA_,.tup Ap!,dB_,Str.ofString "",dC_,ψ (.int most),dD_,hO.noOb ck_,dE_,[o.v],dF_,λx hx=>(by simp[W0]at hx),dG_,.fn w,dH_,[P_,N!,bE!,cS!],dI_,Value.none,dJ_,a==sysModules,dK_,QN _,dL_,X.s₀.heap.objs.size,dM_,Ax cf ds,dN_,#[_,dO!,χ,χ],dO_,.int j,dP_,ca h,dQ_,eX c! hA.ob hF2,dR_,.int k,dS_,xs.isEmpty,dT_,.int n,dU_,Uw X.K C,dV_,s.heap.push {cls:=.type "list_iterator",data:=DF_ l},dW_,Ez X.prog X.w X.K X.mg X.base CX k f fd ps sp,dX_,Ei X.K fd ps ds,dY_,f2 Ai k! aV_,dZ_,.fn t.A0,d0_,f2 Ai k! ae_,d1_,MZ a_,d2_,gC b!,d3_,pre.length,d4_,Gq τ,d5_,mk aF_,d6_,Cj x,d7_,#[_,e,χ],d8_,Au t.B5 "taken" i_,d9_,wS line]
def z'e:String:=z [ea!,"line",eb!,(d::ds),ec!,i∈own,ed!,ψ A_,ee!,.Name x p2,ef!,k _ G H aA_ Ap.bl,eg!,(G7! ni!).any e_=θ,eh!,aC kd_,ei!,λ_ _ _ _ _=>vM,ej!,Sum.inr y,ek!,(by rw[z.1,z.2]),el!,[bm_,x],em!,λq hq=>?_,en!,.int m,eo!,aG jB,ep!,wl fo,eq!,Jg P w s.heap k u,er!,D->ν,es!,aw_<big,et!,cB χ χ,eu!,p4!<64,ev!,(i:Int)+1,ew!,[aJ_,ap!,cr_,ψ x.v,ψ x.nm],ex!,Lg M w O W wt wn qa,ey!,[ak!,N!,cQ_,cS!,ig_,ih!,lE!],ez!,Int×Int,eA!,Iv g,eB!,λ_=>τ,eC!,xs++ys,eD!,[a,b,c],eE!,∀b∈frA bI_,∃o,n.get? b=ψ o,eF!,X.A.handled,eG!,Z.set i aD!,eH!,[ψ aI_],eI!,μ Stmt,eJ!,[ψ cT_],eK!,.BoolOp .And (b::rest) pos,eL!,dP c3! ?_,eM!,.BoolOp .Or (a::b::rest) pos,eN!,.UnaryOp .Not a pos,eO!,lJ Y,eP!,[v,ov,iv],eQ!,hf b J,eR!,(BH! "ours",.int yy),eS!,binaryOp .Add,eT!,(show θ=τ from hs),eU!,behindInMarks op b=θ,eV!,.int (i:δ),eW!,s.heap.push iZ!,eX!,shn W x,eY!,backToKw pos tI_,eZ!,"_law_back",e0!,I.hok.fresh u!,e1!,MO f8!,e2!,.lst bW!,e3!,.builtin id,e4!,[C_,bE!,ψ eV!],e5!,Au t.B7 "preceding" i_,e6!,f2 Ai C! aV_,e7!,aS_<10 ^ 61,e8!,#[.bl _,H,I,χ,?_],e9!,.ref l]
def z'ee:String:=z [ea_,Aa 10,eb_,.lst vs,ec_,Ha X.K r g,ed_,(λz=>nomatch z),ee_,.str "refused",ef_,k.length,eg_,wo rows i,eh_,Ap X.K H d v,ei_,gX w!,ej_,aG (bE s_),ek_,QU ..,el_,i∈W.its/\Gy W x/\¬En! Wn i x,em_,MN h,en_,sgn h n,eo_,h.Ns mainGlobals mg,ep_,NG χ,eq_,l.map e_,er_,.int tm,es_,A.units+1<cLine,et_,(qt_).Nodup,eu_,λq hq=>?_,ev_,dE d es ep,ew_,j - 1,ex_,rs.map Be,ey_,W.rows.length,ez_,Aa 0 ρ=ψ dH!,eA_,(qa i,Dh.lst fG!),eB_,λK hK=>hK,eC_,μ α->ν,eD_,s.heap.FunFrames base bI_,eE_,Addr×Obj,eF_,Z.length,eG_,(by delta AC;omega),eH_,Ax vs us,eI_,CQ X pn f,eJ_,(a,oe),eK_,.BoolOp .And (a::b::rest) pos,eL_,.BoolOp .Or (b::rest) pos,eM_,(t.A0,a),eN_,#[_,i1,oP Y],eO_,Mq i,eP_,Aa i,eQ_,I1.hok.fresh u!,eR_,μ V->Hp->VK->ν,eS_,rawInt T,eT_,compareOp .In,eU_,.Compare a [op] [b] pos,eV_,(aT!).map Op.v,eW_,.ins C dx fs,eX_,[("start",.int k t)],eY_,us++ds,eZ_,PA X aD_ t,e0_,Aq aV_,e1_,OU gH!,e2_,[a9_,x],e3_,Ec t,e4_,"operations",e5_,Au t.B6 "texts" i_,e6_,NY J,e7_,fC bf_,e8_,[.ref p],e9_,"words"]
def z'f:String:=z [fa!,Cs k!,fb!,.str "put",fc!,joinL 46 az_,fd!,aS χ χ ((gV!).trans ?_),fe!,xs.map Cj,ff!,.bool τ,fg!,f1 Bv gM!,fh!,gR W_,fi!,μ vl!,fj!,"lines",fk!,Lx X scope cl G2.objs.size g3! s2 H2 fp,fl!,Bw 6,fm!,Ba.refl G,fn!,Js own Z G H,fo!,λ_ _ _ h=>h,fp!,fs ρ,fq!,sub.free hp,fr!,cG cR eK χ T.T5 eA aH!,fs!,bY v! cP bA!,ft!,λx gh hy=>?_,fu!,starEach (a::[]) X.env=dP!::Fa! X.env,fv!,v.headD .non,fw!,SR KF own G0 F0 G H Z ρ,fx!,Aa 0 ρ=ψ kg!,fy!,λ_ _ _ _ _=>l!,fz!,aM aH aL E_ aB o!,fA!,Bc d'=τ,fB!,(by show A.units+1+Cz xs<cLine;omega),fC!,("rows",.fn a2),fD!,OY gz χ χ ?_,fE!,bL T.W3 T.X6 l!,fF!,Ck i=ψ ki,fG!,W.num i,fH!,if _ then _ else _,fI!,D×D×Bool->ν,fJ!,QW B,fK!,f1 ρ=ψ a,fL!,wl f1,fM!,.int k,fN!,if Gy W a then a else binn,fO!,.inl g4_,fP!,h1.map e_,fQ!,scr ns,fR!,aS χ χ χ,fS!,.tup [.str "cut",a,.tup kI_,en!],fT!,MA X own es fs,fU!,h3.typeIs,fV!,ψ p7_,fW!,Vb X.K H dx,fX!,MA X own aD_ fs,fY!,mup M p qj_,fZ!,q2 ρ M R,f0!,.bl dE!,f1!,e≠it,f2!,n<=a0.size,f3!,.fn wt,f4!,rs[k],f5!,ey_<5000,f6!,(a,oa),f7!,Cp X.K G,f8!,(by rw[MV];delta big;omega),f9!,seqObj "list" #[] 0]
def z'ff:String:=z [fa_,Aw A!,fb_,.str "write",fc_,(az_).map intC,fd_,[V!,dh!],fe_,[V!,bd_,"place"],ff_,.ref fa,fg_,Ba H H',fh_,Str×Addr,fi_,MO g2!,fj_,.inl z,fk_,(by simp[Ai,Et,Hv]),fl_,upd H p o,fm_,BU S,fn_,Aq Y!,fo_,.tup [.str (kw b),v],fp_,[cg!,a0!],fq_,f2 Ai bu! ae_,fr_,aV (bK eU),fs_,bL T.V9 T.Y2 l!,ft_,Bq.cons (j:=1) Bq.nil,fu_,aD E_ aI,fv_,(by simp[e]),fw_,aA 10,fx_,V.ref p,fy_,ψ kg!,fz_,aC fz!,fA_,Iu W n am,fB_,a∈W.its,fC_,.row x b,fD_,QJ ?_,fE_,mup_ne Y,fF_,aG (bE L!),fG_,aE L! aN,fH_,.ref X!,fI_,.tup kI_,fJ_,KF.In h,fK_,(pK!).Nodup,fL_,VE _ _ _,fM_,[dx!,dx!,dx!,dx!],fN_,NA b!,fO_,MO (by dsimp only[List.length_cons];omega),fP_,Gp P w KF G h1 es,fQ_,Hk h1,fR_,jU a_,fS_,Bool->Mh->ν,fT_,Db N,fU_,ψ (.int m0),fV_,ψ item,fW_,Ck y,fX_,st.grow x1 m1,fY_,Vc W pre,fZ_,ψ d,f0_,λh=>?_,f1_,wpS_get ?_,f2_,(show i=j by omega),f3_,Be q,f4_,[P_,N!,cQ_,cS!,ig_,ih!,y],f5_,[P_,bE!,N!,y],f6_,MY _ (MY _ b!),f7_,W.its.length,f8_,PJ.mpr o!,f9_,p1 χ]
def z'g:String:=z [ga!,.str x t,gb!,.own a,gc!,W.its++[D.tup bF!],gd!,bD (cN q hn),ge!,A.frames=ψ bI_,gf!,∀b,j!<=b->n.get? b=υ,gg!,λz=>J iw!,gh!,eval e X.env,gi!,(xC==ml!)=θ,gj!,X.pn++hb++[eJ_],gk!,q.unwish,gl!,PassesOwn h_ X.A X.env X.xe,gm!,#[o,e,λv z=>by rw[d]at z;cases z],gn!,(by simpa using J),go!,j - i,gp!,kl.map λh=>(D.int h,D.fn dP_),gq!,((dR!).length:δ),gr!,ψ gr_,gs!,hp.objs.size,gt!,λ_ _=>χ,gu!,i != 0,gv!,r'.length,gw!,MC ?_,gx!,λ_=>υ,gy!,ax.atName,gz!,Ah k A,gA!,hH.op o ho,gB!,.int yy,gC!,X.mg x=ψ aa_,gD!,(ψ o.v::r),gE!,envOfC qual scope s.heap.objs.size f cd,gF!,ψ (.lst dd_),gG!,["sign"],gH!,(by simpa using hi),gI!,Gh t.B7 1 (Fq t) Ad,gJ!,Am 1 jk_,gK!,Cg t,gL!,cs.drop start,gM!,Ac S_ Af,gN!,f2 Ai d0_ z_,gO!,BK x,gP!,List.length,gQ!,Str.ofString " ",gR!,is.map intC,gS!,Str.ofString "bin",gT!,its.length,gU!,Cc _ _ _ bn_ _,gV!,dG _ _,gW!,We u_,gX!,.tup ds,gY!,.lst (.str k::ws),gZ!,.lst [dA!,wa,wb,bF_],g0!,["part"],g1!,Dq k! de_ (Aq r!),g2!,(by rfl),g3!,NL++NF,g4!,[bL_,aL_],g5!,Ac aM! (Ac gC_ Af),g6!,"_law_found",g7!,(wS (On yy)::os.map λo=>wS (f o)),g8!,.ListComp f7 vH_ scope pos,g9!,G2.objs.size]
def z'gg:String:=z [ga_,tupleKind bq!,gb_,.ref x,gc_,λ_ q=>q,gd_,.frz o u,ge_,env.frame=ψ L,gf_,frA bI_,gg_,λb o e n J hx=>?_,gh_,J hb s1 Z H1 _ I1 q1,gi_,PT X a tA,gj_,X.wish E,gk_,hs os h,gl_,δ->Heap->ν,gm_,fb ρ,gn_,2 ^ 62,go_,ha pos hb s Z H _ I h,gp_,(∀b∈fp,H' b=υ),gq_,2 ^ 64,gr_,.int h,gs_,mup M q dK!,gt_,.type "enumerate",gu_,(D.int qF_,q.1),gv_,.lst eV_,gw_,.lst m9_,gx_,backToKw pos (keywordEach uw env),gy_,getMethod ov m pl,gz_,PA X es t,gA_,(by decide+kernel),gB_,Ah R! X.A,gC_,f2 Ai k! u_,gD_,.str "root",gE_,.str "bin",gF_,start N vs,gG_,f1 Fg R_,gH_,.int a t,gI_,Ca (Fy (fT jh_) jk!),gJ_,Uq xs lo hi,gK_,[J_,bd_,"parent","sibling"],gL_,i - start,gM_,mk nE!,gN_,.str "redo",gO_,f2 Ai bv_ z_,gP_,Str.ofString ".",gQ_,is.map D.int,gR_,Ab dj! (Kt_ jv! bv_),gS_,Str.ofString "root",gT_,"ours",gU_,.ref _,gV_,Gn t,gW_,wl aM!,gX_,(h::n::tm::ds),gY_,[V!,ac!],gZ_,Sq ao.heap H,g0_,f1 Dp R_,g1_,NameKind.free,g2_,cg.sub x c h,g3_,os.map λo=>wS (f o),g4_,.inr z,g5_,.int 9,g6_,.str "",g7_,"_law_most",g8_,Cu o.d=υ,g9_,(λv z=>by cases z)]
def z'h:String:=z [ha!,∀y∈cd_,y.2=.free->vU!,hb!,gg _ I2.lt,hc!,Ap KF H d v,hd!,.str i,he!,Uo S yy b,hf!,.str "rows",hg!,fT jY!,hh!,Bo.refl er.sub,hi!,acO S yy fo_,hj!,r1.mono s2.g,hk!,w2 aX_ dj! bz!,hl!,DT X own a ft,hm!,Bo.laid sub hp,hn!,Hl l d,ho!,Bo.laid x.sub hp,hp!,kH T,hq!,er.grow x,hr!,fi ρ=ψ y,hs!,kput_len _ _ _,ht!,aM aH aL au_ aB o!,hu!,Al X.K H ds vs,hv!,aE bC_ yj_,hw!,Ap X.K H d' v',hx!,MN hq,hy!,μ ck!,hz!,ad r,hA!,ys.map (·.length),hB!,backTo ah yF_,hC!,.dir b,hD!,dI 3,hE!,s.heap.IsTuple l2 ys,hF!,#[1,?_],hG!,(λr M'=>match r with|.rt d=>R d M'|.nx _=>Ed_ M'),hH!,setT W i l,hI!,.int y,hJ!,.tup hI_,hK!,B<3900,hL!,ψ M_,hM!,s.cps.toList.zipIdx.map en_,hN!,f2 ρ=ψ b,hO!,(show u=.none from hx),hP!,ks.Nodup,hQ!,(υ,()),hR!,Mz s.heap a es ep,hS!,.tup [k1_,a,b],hT!,.tup [.str "drop",a],hU!,[aI!,ap_,er_,d],hV!,Tb P w KF own G H Z ρ M,hW!,p4!<=100,hX!,Mh->D->D->ι D,hY!,MT X own a ft,hZ!,.dct h1 ep,h0!,qN I sub r hk,h1!,(if _<=big then _ else υ)=_,h2!,Dr M1 d,h3!,W.num a,h4!,#[_,_,χ,c_,c_,χ],h5!,mup M p (.dct (Bp h1 y v) (Ia h1 y ep)),h6!,DG o.d,h7!,λx hx=>hd x b0!,h8!,My .str a6_ [],h9!,Fn own Z H1]
def z'hh:String:=z [ha_,∀cl C av bj fp,PG ce! tg g,hb_,owL S yy,hc_,V.ref a,hd_,D.tup bF!,he_,Cb (Fa_ Co),hf_,wl (fC hf!),hg_,wl (fC B!),hh_,D->D->ι D,hi_,[cg!,a0!,wv_,ww!],hj_,s2.trans s3,hk_,ft ρ,hl_,DA X own aD_ fs,hm_,Bp l d v,hn_,aM aH aL aO! aB o!,ho_,fI T,hp_,aD xW_ aI,hq_,bF Y_ bR bU_ aU n_,hr_,starEach (e::[]) X.env=dW!::Fa! X.env,hs_,Qm F0 G1,ht_,Qt rows i p s am,hu_,Al X.K H es ws,hv_,us.toArray,hw_,Bj v' u',hx_,#[.bl _,H,I,χ,q],hy_,ad .par,hz_,.Name y py,hA_,aC av!,hB_,[a].length+(dj_).length+d7!<30,hC_,(by size_fits),hD_,s.heap.IsTuple l1 xs,hE_,.ref z,hF_,NJ _ χ,hG_,EX s.heap l1 l2,hH_,.int x,hI_,[hH_,hI!,dO_],hJ_,aC dq!,hK_,(s,c,τ),hL_,F_<=16,hM_,μ Wg,hN_,(show v=.none from hy),hO_,μ MK,hP_,Ld ks k,hQ_,wo W.rows i,hR_,fs ρ=ψ ds,hS_,.tup [p2_,a,b,c],hT_,.str "undo",hU_,[a,b,bF_],hV_,∀o∈ops,Wh o,hW_,f ρ M R,hX_,AA X.prog X.w X.K r gm,hY_,MT X own c ft,hZ_,cs.map λc=>dC!,h0_,cS h5,h1_,a3v c_ c_ c_,h2_,s.cps.toList.zipIdx.map lm_,h3_,mup M s.heap.objs.size qj_,h4_,ops.map Op.v,h5_,(a6_).map Op.v,h6_,λk=>.bl dE!,h7_,∀o∈ops,DG o.d,h8_,.lst h4_,h9_,(∀b,M b≠υ->M' b=M b)]
def z'i:String:=z [ia!,.dct [] 0,ib!,(x::os),ic!,Pu f ρ M d,id!,QF _,ie!,ψ (.lst (σ.map Op.v)),if!,(BH! "undo"==k||Str.ofString "redo"==k),ig!,MF _ ML,ih!,ψ (.int (a:δ)),ii!,L'.length,ij!,((n:δ):Int),ik!,Cp KF G,il!,(by rw[he];rfl),im!,σ.toList,in!,.lst [],io!,W.its.map λi=>(i,D.fn (qa i)),ip!,.own x,iq!,Sq h H,ir!,NP ho,is!,(∀x c,BG! x=ψ c->c≠b),it!,s.heap.update T (Obj.mapFields (·.setIfInBounds 3 dI_)),iu!,I.base.keep b o e n J hx,iv!,frs X.stack,iw!,(by simp[z]),ix!,out b o e hx,iy!,Jk mg! P w KF mg base N qual scope f cd A outer s H E,iz!,Jw mm! iz_,iA!,PE X e t,iB!,Yb X a pn,iC!,.bl τ,iD!,its.toList,iE!,ok.frames,iF!,PS X st t,iG!,EK->WS,iH!,ψ e,iI!,Hist os,iJ!,.Name xC p3,iK!,It->Hp->ν,iL!,full.toArray,iM!,Gl X "range",iN!,(θ,Dk_ b),iO!,[eR!,sS!],iP!,MY _ z,iQ!,kl.length,iR!,EZ r ta tb,iS!,λ_=>a,iT!,.bl (!(Builtin.Str.occurrences j i 0 j.length 1).isEmpty),iU!,Fu X (compareOp je) r',iV!,.Compare a [op,je] [b,c] pos,iW!,if h=o.h then q else ca h,iX!,if i<0 then -i else i,iY!,#[.int _,H,aL!,D_,q],iZ!,W.emptyDict,i0!,Jv f v fs,i1!,H a=ψ eW_,i2!,True.intro,i3!,[P_,bE!],i4!,μ nd_,i5!,1+Uy S,i6!,.Call tQ_ [] [] pos,i7!,List.replicate 16 [D.int 0],i8!,((p,w)::P.zip vs),i9!,(none::r)]
def z'ii:String:=z [ia_,#[hp,g,d,tk,os],ib_,kget h1 y,ic_,.int (k:δ),id_,a0.toList,ie_,x - 1,if_,k3 a b c,ig_,ψ (.lst ex_),ih_,q.1=x,ii_,l.map f,ij_,(D0_ a CS!).push (seqObj "tuple" us.toArray 0),ik_,ψ dA_,il_,es.map kY!,im_,o.ExactDict,in_,(show h.get? a=ψ _ from x),io_,∀b u,h.get? b=ψ u->Df! b=ψ u,ip_,.ListComp f7 vH_ scope ah,iq_,I.ok.bs b o e,ir_,b∈X.ex\/dL_<=b,is_,Ko X.prog X.w H' h',it_,vc b o e hx,iu_,.inr a0,iv_,λb J=>?_,iw_,λz=>hc iw!,ix_,NM _ z,iy_,TP X hb Z Q,iz_,cs.map ar!,iA_,∀fw,KG_ fw=(do let v <-fw;standAt e.pos;holding [v] mn_),iB_,(X.env::X.outer),iC_,.IfExp c a b pos,iD_,ok.above,iE_,#[ok.mod,ok.kind,ok.glob,ok.blt,iD_,ok.inj,ok.has,ok.cab,ok.hd,iE!,ok.stk,ok.exf,ok.bs,ok.bsz,ok.noex,ok.exfs,ok.funs,ok.frf],iF_,(st::rest),iG_,TX X M0 G0 F0 own bd q1,iH_,St->Hp->ν,iI_,λj hj=>(by exact(MN hj).elim),iJ_,pyNext b6_,iK_,λb J=>(eQ!).1,iL_,((0:δ):Int),iM_,X.mg "range"=υ,iN_,.int yy,iO_,[eR!,sS!,(Str.ofString "waiting",.fn wa)],iP_,NM _ hp,iQ_,I7.unpinned,iR_,aP (f:=Aa 0) χ,iS_,s.heap.IsList l ak,iT_,(by rw[hA.ob];simp),iU_,lastMarks [op,je] [b,c]=θ,iV_,(by simp![MX];omega),iW_,NI.mp y,iX_,(xs.take i).zipIdx.map λq=>gu_,iY_,K.In s.heap,iZ_,W.instObj C j!,i0_,(show False from r),i1_,((i+k:δ):Int),i2_,(bB_).length<5000,i3_,A.under (FF! us),i4_,.List es pos,i5_,.Call tQ_ aD_ [] pos,i6_,Ea tV!,i7_,Str->Da_ NameKind,i8_,NO.mp nd,i9_,fC gD_]
def z'j:String:=z [ja!,N.length,jb!,fC ja_,jc!,Qo 0 1,jd!,bootBuiltins x=ψ cB_,je!,.ref t,jf!,#[_,jz,χ],jg!,((sIx n 0 lo:δ):Int),jh!,.ref sl,ji!,Builtin.Tuple.tupleExact _,jj!,"names",jk!,fT uk!,jl!,Ab ay_ Ad,jm!,X_<=sizeLine,jn!,"number",jo!,(show θ=τ from fx),jp!,upd H l bu_,jq!,Ac S! Af,jr!,Gu fa!,js!,h'.objs.size,jt!,Ag nG_ (As (Dt (Ca (Ea uF_)) (wT (w2 jr_ (Nc p! aM_) (wl e7_)))) (Bx A! aM_ jm_) Bf),ju!,J i hi,jv!,wl e6!,jw!,.str "set",jx!,#[e,?_],jy!,(fc_).map wS,jz!,wl gC_,jA!,backTo ah u1!,jB!,Ak 2 (Bz t) jA_,jC!,[ψ u4_],jD!,(.str k::xs),jE!,ψ jD_,jF!,#[[u],[]],jG!,Array DictEntry,jH!,.lst (Gk! h::Gk! n::Gk! tm::rest),jI!,ψ jH!,jJ!,Fa st,jK!,k.cps.toList,jL!,ForInStep.yield r,jM!,names.map λ(n,k)=>if oa_ then(n,NameKind.cell)else(n,k),jN!,fR χ,jO!,fR ht,jP!,(T!,Vx us n),jQ!,gg _ (sy p hp),jR!,e3.trans v9!,jS!,"_law_base",jT!,upd H p eb_,jU!,λb u e=>?_,jV!,"_law_at",jW!,f2 Ka S! u_,jX!,Zz S yy b p os! σ y6 b4!,jY!,f2 At aM! r!,jZ!,(∀v G' H',DP! G H->DM_ G'->Q v H'),j0!,Am 5 (w2 By bz! dj!),j1!,lE ns S yy x3 a y5 y6 y7 j0_ y9 (ψ c6) fm,j2!,#[G1,ρ,d,dn_,e,wS_],j3!,qS h.ok,j4!,Ei X.K fd ps [],j5!,k _ G H aA_ Ap.str,j6!,bV sub qa,j7!,Aw jP_,j8!,.type "NoneType",j9!,bs.map Value.bool]
def z'jj:String:=z [ja_,.str " ",jb_,[gF!,de!,fZ_,ψ t1_],jc_,No (Iz t) 0 cB!,jd_,h.nob ck_,je_,#[_,ho,χ],jf_,(by simpa using hv),jg_,Bm M w Ow W,jh_,f2 Bh r! bi!,ji_,MH (Kp! _ h),jj_,wl nk!,jk_,w2 By nv_ p!,jl_,joinL c ws,jm_,wl (fC v_),jn_,if b then 1 else 0,jo_,f1 Cy R_,jp_,ws.map wS,jq_,.tup ys,jr_,λ_=>At,js_,is.length,jt_,.dT h1,ju_,f2 Ai C! u_,jv_,.str "move",jw_,"outline",jx_,joinL 46 fc_,jy_,Ab nP_ Ad,jz_,MC fin,jA_,Ab i_ af!,jB_,l.most=ψ n,jC_,ns.map .int,jD_,(ca_:Int)+1,jE_,List.Pairwise.nil,jF_,λv _=>v=.bl τ,jG_,mk (Hj az_),jH_,[aI!,ap_,er_,gX!],jI_,Array Ag!,jJ_,fC (.str "."),jK_,f1 Ed R_,jL_,MF _ hp,jM_,flt b J,jN_,[vE!,ψ eV!],jO_,[.non,.non],jP_,wl Y!,jQ_,∀a vs,Eb_ a vs->HW_ a vs,jR_,wJ (aS (e0 k _ e) χ gV!),jS_,decide on!&&Nr S cH_,jT_,λ_ h=>.inl h,jU_,ρ.length,jV_,Bo G H G' H',jW_,wl (fC wk!),jX_,∀j∈ix,j∉own,jY_,kW hN hv hd bw,jZ_,f2 g fa fb,j0_,ψ al_,j1_,#[x,χ,?_],j2_,DA X own es fs,j3_,f1 g fs,j4_,Ak 1 Fk aG!,j5_,Ab i_ jl!,j6_,sub.seq q,j7_,.builtin "isinstance",j8_,μ Bool,j9_,Bo.refl s2]
def z'k:String:=z [ka!,λ_ _ _ _ _=>Ju_ (Dt! [bt_,a0!]),kb!,bnd d ρ,kc!,dR v!,kd!,aM aH aL a1_ aB o!,ke!,Al KF G ds vs,kf!,Gz t M r f p xs,kg!,.fn r,kh!,NE.mp Y,ki!,cS u!,kj!,aE aH_ aN,kk!,λx=>?_,kl!,(by simpa using h),km!,λx hx y hy=>?_,kn!,pR rd re rv a9 (h us us' rv a9),ko!,nA ds es hl,kp!,if x=n then[]else W.txt x,kq!,bV sub q,kr!,.ref ad,ks!,kI kc!,kt!,.nm x,ku!,∀q,Jd V q->bg q=ad q,kv!,aC kd!,kw!,fo ρ,kx!,cU ha.ok eO hs,ky!,.fn (ad .ob),kz!,#[_,dO!,χ],kA!,IsZip s.heap z TI TO .none,kB!,IsPair s.heap TO p q,kC!,s.heap.IsTupleIter i2 l2 k2,kD!,MC (XW ?_),kE!,mQ (nK T) b_ χ,kF!,#[_,χ,h],kG!,bL T.W4 T.X4 l!,kH!,bL T.W3 T.X7 l!,kI!,rK hi,kJ!,w.nm i hi,kK!,[hH_,hI!,.int (z+(k:δ))],kL!,setT W i kK_,kM!,.inr W_,kN!,aQ (gH T) b_ χ bD!,kO!,A.deeper (El! x bg_ ag aj),kP!,W.keepIn KF ad_=τ,kQ!,W.mg_of X G a,kR!,cH Z! bM L! aO_ o!,kS!,(by rw[hd];simp),kT!,limitOf z k,kU!,ks.length,kV!,Mx P w h es ks,kW!,NI.mpr χ,kX!,MH (MH h),kY!,(·.key),kZ!,c<=126,k0!,Ba G G',k1!,xs.map D.str,k2!,dE a es ep,k3!,Jp KF G fs vs,k4!,.str "redo",k5!,.tup bG!,k6!,.lst ops,k7!,#[B8,B9,C2,C3,C4,C5,C6,C7,C8,C9,D1,D2,P',U',YF],k8!,st.grow x1 m1,k9!,#[G1,ρ,M1,R,k8!,r1,k8_]]
def z'kk:String:=z [ka_,λ_ _ _ _ _=>dp_,kb_,(y::·),kc_,λv H2 hy=>?_,kd_,eJ (n:=9) χ,ke_,λj hj=>?_,kf_,ψ hc_,kg_,wl fi,kh_,eval bk_ X.env,ki_,[.Subscript bk_ ix p2],kj_,Fb X.K H a vs,kk_,λa b hm=>?_,kl_,Ej yi_ yj!,km_,∀(us us':o_),Ax vs us->Ax ws us'->∀(j:δ) u u',us[j]?=ψ u->us'[j]?=ψ u'->Ir! A.in1 u u' kl_,kn_,a9.length,ko_,mY ds es hl,kp_,"_law_row",kq_,[(Str.ofString "following",D.fn f),(Str.ofString "preceding",D.fn p)],kr_,(by kernel_rfl),ks_,ad kt!,kt_,V.ls x b,ku_,x.cps.size,kv_,aC yE!,kw_,DE X own o fo,kx_,#[χ,G1,ρ,_,dn_,e2,yG_],ky_,x∈W.its,kz_,ZipApart z TI TO i1 i2 l1 l2,kA_,IsPair s.heap TI (.ref i1) (.ref i2),kB_,s.heap.IsTupleIter i1 l1 k1,kC_,(∀c ob,c≠z->c≠TO->c≠i1->c≠i2->yK_ c=ψ ob->Df! c=ψ ob),kD_,mup_ne h2,kE_,Ha.m bR,kF_,(hO b).mpr z,kG_,setT W i (cutT g cR!),kH_,α->ν,kI_,[hH_,hI!,.int z],kJ_,NW hs! a!,kK_,(U++hK_::v),kL_,Jw xs ys,kM_,#[_,_,χ,χ,ef!],kN_,[aI!,ap_,.int (k0:δ)],kO_,aE l! ag!,kP_,oO l c k,kQ_,.tup bF!,kR_,aE l! kj!,kS_,#[gU_,_,I.lnew (t':=s.toks) (ys:=[V.str z]) (its:=[.str z t]) (EZ! cc_) (by show 1<=sizeLine;rw[PB];decide),χ,q'],kT_,NI.mp z,kU_,Ky fA_,kV_,plc es dy_,kW_,MF _ hj,kX_,(hO c).mpr z,kY_,Mx P w s.heap es.toArray ks,kZ_,32<=c,k0_,cs.map λ_=>.bl τ,k1_,.str "put",k2_,XM M G H M' G' H',k3_,.str "set",k4_,(by rw[e];simp),k5_,fC aI_,k6_,.refl st.or.sub,k7_,w2 gm fa fb,k8_,λd M2 v G2 H2 r2 x2 m2 q2=>k d M2 v G2 H2 r2 cn_ m2 q2,k9_,bH χ]
def z'l:String:=z [la!,jJ χ,lb!,#[#[o,q o z1,z2,z3],z4],lc!,upd H a (dE a bf (Ia h1 d ep)),ld!,a3e hu I m sub e r hk λo s' I' ho=>?_,le!,ψ jw,lf!,(by show 3<=1000;decide),lg!,λw hw=>pL I r1 rx n1 r2 r n2 (by let:=iT X.A;omega) w nr!,lh!,qC I r2 r n2,li!,k≠"write",lj!,.ext x2,lk!,b6h (pZ χ (ON _)),ll!,#[t1,t2,?_],lm!,s.heap.push {cls:=.type "dict",data:=.dict #[]},ln!,MZ (NY h.1),lo!,.tup cp_,lp!,k==k',lq!,s.root J,lr!,#[G',ρ,M',R,IB_ x,r,k1,k2],ls!,[.Subscript o i p2],lt!,NameG x,lu!,ψ h8_,lv!,λx=>?_,lw!,wl fa,lx!,MH (MC (XH ho hd ?_)),ly!,(by show 4<100;decide),lz!,os.map Op.nm,lA!,hp.map _,lB!,Pu fo ρ M A_,lC!,#[χ,hg _ hK],lD!,.bl c,lE!,ψ ic_,lF!,Array Keyed,lG!,m - 1,lH!,its.map λi=>(i,g i),lI!,.fn wn,lJ!,.tup O!,lK!,.int (aC_:δ),lL!,(0,a0.size,0),lM!,MF _ hz,lN!,Value.int a t,lO!,(by simpa using oz),lP!,a2_∈W.rows,lQ!,decide ih_,lR!,Aa 2 ρ,lS!,ku.zip us,lT!,seqObj "list" us'.toArray n',lU!,ku.toArray.zip hv_,lV!,(CV!).map eA!,lW!,ψ (Cr q),lX!,(Sum.inl a:Key),lY!,(nomatch e),lZ!,#[_,χ,r],l0!,μ Key×V,l1!,W.instObj C dx,l2!,Eb P w H h a o,l3!,tQ F S λaj A outer s H E hr=>J hr S.nd,l4!,Iu W V_ W.rows,l5!,∃u,Df! e=ψ u,l6!,upd H x o,l7!,rawInt L,l8!,a2p hL dv0 nY bq,l9!,OY he hd Y ?_]
def z'll:String:=z [la_,cs.map Nk,lb_,Cp X.K G x v,lc_,dictGet a u>>=_,ld_,upd H a (dE a bf dz!),le_,ψ (.lst kinds),lf_,!Ej d d',lg_,(show its.toArray.any fW!=its.any fW! by simp),lh_,[.int 6,b],li_,λe=>?_,lj_,(p,h1,ep),lk_,ho.run I st e λd M1 v G1 H1 u s1 r1 x1 m1 q1 I1 rx=>?_,ll_,bH u0,lm_,sgn h m,ln_,.tup [k3_,a,.int p,.int v],lo_,λx hx q hq=>?_,lp_,Fn own Z H,lq_,[.int o.h,.int o.n,.int o.tm,o.d],lr_,[.int o.h,.int o.n],ls_,.bl (Cu o.d).isSome,lt_,(∀b,b≠p->M' b=M b),lu_,ψ x,lv_,Dd C m M d,lw_,Bk N ps.length q,lx_,(by exact(em_).elim),ly_,(o::os),lz_,hp x ML,lA_,(by rw[hp.length_eq];omega),lB_,Pu f1 ρ M a,lC_,Qq ft ρ M θ,lD_,.Constant (.str s0) n0 p0,lE_,.int o.h,lF_,(u++o::v),lG_,mirror_perm _ _ _ _,lH_,W.rows.map Be,lI_,(cR!).map Cr,lJ_,ψ cW!,lK_,Be rs[k],lL_,setPending ac ((Cr_).push lL!),lM_,λK hK=>?_,lN_,.lst ((CB!).map Be),lO_,MO (by simp[big];omega),lP_,W.rows.filter λq=>decide ih_,lQ_,wl fx,lR_,(by rw[MX,PB];omega),lS_,(a,seqObj "list" #[] e1),lT_,.lst q8_,lU_,(lS!).zip ds,lV_,ψ nm,lW_,seqObj "list" us.toArray 0,lX_,(Sum.inr a:Key),lY_,(by simpa using Y),lZ_,kws_nil ?_,l0_,μ Key×Addr×Value,l1_,fs.map e_,l2_,aP χ _ ?_,l3_,ni i hi,l4_,e=x\/H e=ψ ip!,l5_,[.lst jC_],l6_,bD (hm b _ q λz=>z),l7_,X.env.scope.kind,l8_,noteFrame aB! env,l9_,NN c1! I.ok.above]
def z'm:String:=z [ma!,Cu x.d=υ,mb!,I.freeC x c e,mc!,λx c e=>?_,md!,Xq n h e cls L a7,me!,#[#[],by rw[e];simp],mf!,(by rw[<-z];exact hc),mg!,CP base P w,mh!,NX (NY hj),mi!,cs.map λ_=>D.bl τ,mj!,hs.2 b (NZ (NN c1! (I.ok.cab x c wz hc))),mk!,starEach es X.env,ml!,("__debug__":Str),mm!,cs.map λc=>.fn c.1,mn!,.bool b,mo!,EO X xC en xn C0 L ie ix,mp!,.BoolOp .And [a] pos,mq!,Pz X.N.length ix v,mr!,(by simpa using hp),ms!,ae.set ie kf_,mt!,#[ae,H',I.unwish,q],mu!,he hb s Z H _ I h,mv!,XR X.prog X.w X.K M0 G0 F0 E,mw!,Addr->ι D,mx!,setItem ov iv v,my!,PG X tg g,mz!,I.pin p hp,mA!,Ae->ν,mB!,λb o J e=>(sb.2 b J).trans e,mC!,#[χ,I.turned (t':=s.toks) sF! f0 f1 f3 f4 f5],mD!,(by simpa using b1),mE!,ψ (.int (j:δ)),mF!,full.length,mG!,#[_,_,_,by rw[wE,NV];rfl],mH!,hi - lo,mI!,Str.ofString "outline",mJ!,PI X tg iter wi,mK!,(∀b o,yK_ b=ψ o->Df! b=ψ o),mL!,hA.cl h hh,mM!,.int sW_,mN!,Fu X (binaryOp op) r,mO!,[a9_,o.v],mP!,aP (mF o),mQ!,aP (f:=Aa 1) χ,mR!,rI Zw λi j=>.int (i*j),mS!,rI EW λi j=>.int (i / j),mT!,i ^ j.toNat,mU!,s.heap.IsListIter it l i,mV!,λh hh=>(by cases hh),mW!,Se λi j=>.bl mV_,mX!,decide (i<=j),mY!,Se λi j=>.bl mX_,mZ!,Se λi j=>.bl mY_,m0!,(by rw[hA.wt];simp),m1!,ho hb s2 Z H2 x y v u _ I2 r1 r2 q2,m2!,h1.isEmpty,m3!,#[_,he,χ],m4!,.inr fj_,m5!,.str c8!,m6!,Wi s.heap x dx C mA,m7!,{s with toks:=s.toks+1},m8!,Qj tx_ aT!,m9!,HQ t M yy a ta wa S kl ca W]
def z'mm:String:=z [ma_,AllBare g',mb_,λb o e hx=>?_,mc_,I.base.free b o e n hx,md_,#[o,ho],me_,I.hok b u e,mf_,Kp a7 (HS! frA) s.heap h',mg_,hs.2 b (NZ l9_),mh_,#[u',r',?_],mi_,.inl hk,mj_,Inv X hb Z H' s',mk_,SP X hb D,ml_,#[v,H,I,r,h],mm_,hs.2 b (ne b o e),mn_,truthy v,mo_,swapsWith he (ψ (.Name xn xp)) ap.line X.env=pure θ,mp_,.BoolOp .Or [a] pos,mq_,Addr×D->ν,mr_,.BoolOp op [a] pos,ms_,#[χ,by show 0<=1;decide],mt_,#[bx,H1,v3 af,q],mu_,.Return iH! pos,mv_,Hp->ν,mw_,assignEach es X.env,mx_,(by simpa using hl),my_,[.Name en p2,iJ!],mz_,(∀b∈fp,D5_ H b),mA_,(by simpa using hu),mB_,.lst ah_,mC_,Int×Tok,mD_,λb o J e=>kk b o gn! e,mE_,wE ns base N os c t mE! x7 x8 x9,mF_,b7h em ed nd z χ χ χ χ χ χ χ J,mG_,hl hb s Z H _ I h,mH_,s.heap.push {cls:=.type "range",data:=Dl_ t},mI_,(by rw[e];rfl),mJ_,.builtin "max",mK_,hA.mem h,mL_,∀b,M b≠υ->M' b=M b,mM_,[a9_,aI!],mN_,.BinOp a op b pos,mO_,hA.nob hM1,mP_,f dI! (.int j u),mQ_,hs S yy,mR_,QP.mp e,mS_,rI (λ_ j=>0<j) λi j=>.int (i%j),mT_,rI EV λi j=>.int mT!,mU_,Int->Int,mV_,decide (i<j),mW_,compareOp .LtE,mX_,decide (j<i),mY_,decide (j<=i),mZ_,(by rw[ht];simp),m0_,(by rw[Gv_ hh];simp),m1_,λh hh=>?_,m2_,its.toArray.isEmpty,m3_,#[H,I,q],m4_,ND.mp hh,m5_,#[ho,χ],m6_,W.plainGet_of hg,m7_,.obj t.B5 (hF yy ta wa ag_),m8_,show Jv f v ((k,x)::r)=(if k=f then(k,v)::r else(k,x)::Jv f v r)from χ,m9_,chl W.rows x]
def z'n:String:=z [na!,[du_,bE!],nb!,.lst ((eX!).map (·.2.1)),nc!,PD.mp hq,nd!,backTo pos tH_,ne!,Qr P w K mg base A outer s H,nf!,.ins C dx [],ng!,"_law_undone_here",nh!,.int (1+dY!),ni!,starEach [] X.env,nj!,["thing","limit"],nk!,fC gE_,nl!,.str "~",nm!,fT (Lf "str" k!),nn!,Jk CX P w K mg base N qual scope f aj A outer s H E,no!,Fm X e3! r,np!,["parts","checks"],nq!,.int c u,nr!,(by simpa using hw),ns!,hx x ML,nt!,[D.tup [x,p]],nu!,(ak.toList.drop (Gl_ 0 lo)).take ug!,nv!,.Slice lo hi υ p2,nw!,HT.sIx xs.length 0 lo,nx!,[J_,ac!,bd_],ny!,λb ob q=>MJ _ q,nz!,Ab bN! Ad,nA!,Az t.B6 "has_item" 2 (Bs t) i_ af!,nB!,up_/\Gw_ s=τ,nC!,Ac az! Af,nD!,Am 8 (EN_ r! (Bg nC!)),nE!,joinL c az_,nF!,sliceBounds lo hi υ n,nG!,(by simp![MX]<;>omega),nH!,(∀i∈is,aS_<10 ^ 61),nI!,(by simp[ha,J]),nJ!,[114,111,111,116],nK!,λx1 x2=>x1++x2,nL!,[jw_,ac!,"deed"],nM!,n<=sizeLine,nN!,[J_,gT_],nO!,intC last,nP!,w2 By d8_ A!,nQ!,f2 Ai r! z_,nR!,ks.map kV,nS!,"numbers",nT!,wS (Hj gX_),nU!,((1:δ):Int),nV!,.call ff_ #[aU!,[]],nW!,λf vs=>PySem.call f vs,nX!,.lst jD!,nY!,[ψ gY!,υ],nZ!,Ah k callerA,n0!,λ_ _ _=>False,n1!,h.natAbs<10 ^ 61,n2!,tm.natAbs<10 ^ 61,n3!,.tup jH_,n4!,f1 Nd R_,n5!,f2 An (Dq k! Av (Aq ae_)) d0_,n6!,Mr k! jJ_,n7!,Dq k! Av de_,n8!,Yi (Dc! n7! (.lst [fb_])) ae_ cA!,n9!,λ_ _ _ q=>q]
def z'nn:String:=z [na_,#[[.type "enumerate",cs!],eX_],nb_,Hm g6_ nb!=ψ v,nc_,PE X o ta,nd_,Str×Value,ne_,kl.map (lt S),nf_,upd rY! x nf!,ng_,iS I hg hm ?_ a8,nh_,backTo pos ni!,ni_,Mk X.K C f,nj_,Dq k! Av e0_,nk_,f2 Jh k! bi!,nl_,o.h==yy,nm_,fT (Gs Rm Rm u_ cA! ca!),nn_,f1 Bv cB!,no_,bootBuiltins x=ψ e3!,np_,Fm X cB_ r,nq_,.int (i:δ),nr_,v+(n:Int),ns_,.lst [.tup [x,p]],nt_,(i:Int)+(m:Int)*1,nu_,Wj (Sb 1 Af),nv_,Au t.B6 "parents" i_,nw_,HT.sIx xs.length xs.length hi - D4_ 0 lo,nx_,Ab p! jl!,ny_,Au t.B6 "numbers" i_,nz_,IsTup.new _ _,nA_,[J_,bd_,"parent"],nB_,V->μ V->Hp->VK->ν,nC_,.Subscript a b pos,nD_,ws.map mk,nE_,[J_,bd_,"place",jn!],nF_,Int.ofNat m,nG_,Am 4 (wl (IS! S!)),nH_,.str "drop",nI_,ax.endLine==ah.line,nJ_,[98,105,110],nK_,σ++its,nL_,.str gP_,nM_,.cons ru .nil,nN_,wl (Fe Af),nO_,[J_,dh!],nP_,Ak 1 (Dg t) aG!,nQ_,Ab (wl nQ!) Ad,nR_,λ_=>Ya,nS_,Ak 1 (Ct t) aG!,nT_,.lst (((gX_).map Cj).map wS),nU_,d.params.defaults=[],nV_,λr s'=>r=EZ_ ff!/\OldK ao.heap s'.heap/\s'.os=ao.os/\HS_ s'.gens,nW_,[ψ gY!,C2_ jD_],nX_,.bool τ,nY_,Au t.B5 "ours" i_,nZ_,[ψ gZ!,ψ aW!],n0_,[ψ gZ!,υ],n1_,n.natAbs<10 ^ 61,n2_,[wS line],n3_,[ψ d9_,jI!,υ],n4_,W.fnOf x qual jJ! bx_ bg_ .none kV bt pm an aj ct,n5_,Option.none,n6_,bD (ne b _ e),n7_,λm hm=>hm,n8_,bD (Db! hc),n9_,Dq r! Av (Aq ae_)]
def z'o:String:=z [oa!,Str.ofString "waits ",ob!,f2 Ai r! aV_,oc!,Inv X hb Z H2 s2,od!,ψ (wS l),oe!,Str.ofString "hand ",of!,[wS (On yy)],og!,ψ (.lst g7!),oh!,"_law_rows",oi!,Ac (I3_ vz_) Af,oj!,fC (.int 5),ok!,.tup [b2!,v],ol!,fS c! (gU hA hH a!),om!,L2.Key×V,on!,unm o∈D6_ hb_,oo!,(aT!).filter Va,op!,[ψ cH_,C_,cr_],oq!,V.ref p,or!,Am 3 (wl jW!),os!,(hb_).map Op.nm,ot!,Cb (w2 By i_ hf_),ou!,f ρ=ψ ds,ov!,ψ o.nm,ow!,.str "texts",ox!,Ab A! jl!,oy!,Am 3 (wl (Bg wF!)),oz!,w2 By i_ oy_,oA!,Cd (Ak 4 Ig (Ab i_ gR_)),oB!,#[G,ρ,x,er,e1,λG1 H1 s1=>?_],oC!,#[G,ρ,.bl x,er,lM e1,wS!],oD!,ψ eV!,oE!,"_law_gone",oF!,(by rw[MX,MX];omega),oG!,bV sub qb,oH!,ι Int,oI!,#[o,Y,h2],oJ!,fG (oQ (qB (gS oI_) (lP (bF yJ yM fr! aB n_)))) fr_ dC,oK!,Gl X "isinstance",oL!,X.mg "isinstance"=υ,oM!,iD T.U5 χ,oN!,Am 10 (wl (fC ee_)),oO!,bs.all id,oP!,f2 An r! (FB! [(.tup [aW!,aV!,aV!,(.tup [bf_,(.tup [U_,aV!])])])]),oQ!,List.range n,oR!,λ_ _ _ _ _=>lX (eH oQ_),oS!,eJ (n:=8) χ,oT!,(eq_).Nodup,oU!,aD au_ aI,oV!,GD X.K g bnd,oW!,x.sub.free hp,oZ!,Y.ok G0 F0,o0!,[(.non,.non)],o1!,.If c b1 b2 pos,o2!,[("following",.fn f),("preceding",.fn p)],o3!,.List es p2,o4!,.inl #[χ,vs,Ek.of h3],o5!,cG cR eK χ T.T5 eA (aD bk! aI),o6!,[.int a,.int b],o7!,(bB_).map e_,o8!,#[om jk,?_],o9!,(by rw[<-z];exact hq),oX!,Inv X hb Z ζ,oY!,wpAny ζ A η Q E s]
def z'oo:String:=z [oa_,k==g1_&&env.scope.kind==.function&&env.kindOf n==ψ .cell,ob_,BQ X scope cl,oc_,∀b∈fp,D5_ H2 b,od_,Ny NL.length ix Z,oe_,f2 At gN! (fC fb!),of_,f2 An u_ (f2 Dy k! r!),og_,"_law_letters",oh_,[oh!,cH!],oi_,OP (by rw[c];decide),oj_,l.getLast?,ok_,uL S yy,ol_,a1q hH a! λq M1 ep kq hM1 iq fr=>?_,om_,rL S yy,on_,"_law_other",oo_,ds.drop n,op_,fC (.int 7),oq_,ψ bR!,or_,M p=JZ_ fm_,os_,λi d q _=>?_,ot_,BM nl ix ρ,ou_,f ρ=ψ b,ov_,hw Z G H Q ρ d er e k,ow_,wl (fC ow!),ox_,Am 2 (wl tc!),oy_,wl (fC wJ!),oz_,k G' H' s',oA_,Cd (Ak 4 Ig (Ab i_ uL!)),oB_,fT fa ρ,oC_,Bd 1 [2,3] (Gu (Eu (EN! Bv bv_))) q_ d5! (wl (Bg (Ac (f2 An C! (Bg R_)) (C4! (f2 Ai tc! k!) (fC v_))))),oD_,Bd 1 [2] (Gu (Eu bv_)) q_ d5! (wl (f2 An (IS! ob!) (Bg (Kr! (Gg! ob!) k!)))),oE_,owL S o.h,oF_,w2 By A! ow_,oG_,[bH!,ψ mB_,de!,υ,υ,υ,υ,υ,υ,υ,υ,υ],oH_,wl (Ev! fq_),oI_,dZ (jZ kM χ T.T4 χ T.U2 cL iE v!),oJ_,aD aO! aI,oK_,bootBuiltins "isinstance"=ψ j7_,oL_,Ac (f2 An (fC vQ_) (Hj! Nd)) Af,oM_,f1 Da R_,oN_,f2 Bh aN! bi!,oO_,aC (jG aI),oP_,Al KF G1 ds vs,oQ_,bF Y_ bR aO! E_ n_,oR_,.ref t.HandsError,oS_,λ_ _ _ _ _=>Ju_ xP!,oT_,eJ (n:=10) χ,oU_,a9.mono x2.g,oV_,Bq.cons (j:=2) Bq.nil,oY_,OL.mp nd,oZ_,ND.mp hx,o0_,swapsWith e (ψ ee!) pos.line X.env=pure θ,o1_,ρ.set i oq_,o2_,.obj t.B7 o2!,o3_,v.reverse,o4_,h5.mono x.g,o5_,Hv ds.length j,o6_,[.int a,.int b,.int c],o7_,jV.mp hq,o8_,aE L! kj!,o9_,A.deeper (El! qual bg_ ag aj),oW_,ζ P w K mg base,oX_,λ_ _ _ _ _=>aZ (show(ζ:μ Str).Nodup by decide+kernel) χ d!]
def z'p:String:=z [pa!,Jk Ot P w KF mg base N qual bg_ ag aj A outer s H E,pb!,z▸NQ hq,pc!,us.toArray.size,pd!,us'.toArray,pe!,Ek X.K H a vs,pf!,(pg!).resolve_right q,pg!,(im x).mp hx,ph!,if x=a then l else W.txt x,pi!,Str.ofString "rows",pj!,Str.ofString "numbers",pk!,b8.lookup y,pl!,ad .wri,pm!,¬V.dm b x->kget k x=υ,pn!,μ D->ι D,po!,fB (yL_ jL bD!),pp!,bA nd χ d! ci_,pq!,aE s_ kj!,pr!,mup_ne p1,ps!,Ck x=ψ kx,pt!,HD s.heap l1 l2,pu!,.type "zip",pv!,λq hq y hy q' bh e=>?_,pw!,λc hc=>?_,px!,cH Z! bM pv_ s_ o!,py!,cE (dN T) b_ l! ag!,pz!,bD (ne c _ e),pA!,λc hc=>?_,pB!,(pA_).map λk=>.tup kK!,pC!,(cR!).map e_,pD!,Dx KF mg x st ps,pE!,[ap!,bX!,N!,dw_,ψ tx,ψ eh,pC_,ψ cD_,rm],pF!,Vy n es,pG!,(.tup kN_,.str H_,τ),pH!,ns.map D.int,pI!,Tt rows,pJ!,hO.mono a!,pK!,rows.map e_,pL!,#[ho,χ,k],pM!,Yd ad V,pN!,Builtin.Str.occurrences x y 0 x.length ai,pO!,mup_ne hn,pP!,V.nn x fM_,pQ!,Jg P w s.heap x u,pR!,#[c1,χ],pS!,aD aB aI,pT!,RM ho hd ?_,pU!,[t.A0,t.A7,t.A8,t.A9,t.B0,t.B1,t.B2,t.B3,t.B4],pV!,c ρ=ψ θ,pW!,c ρ=ψ τ,pX!,.int (i%j),pY!,(by simpa using au),pZ!,λ_=>χ,p0!,.tup [.str a,.str b],p1!,[fQ!,fM!],p2!,Bp h1 d x,p3!,hH.trans Y,p4!,ops.length,p5!,[.int 9,.int 9],p6!,hw Z G H Q ρ M R st e k,p7!,hr x hx,p8!,((m:δ):Int),p9!,Bo.laid x1.sub hp]
def z'pp:String:=z [pa_,CD KF ps.length g,pb_,aE a2! aN,pc_,us'.toArray.size,pd_,oJ (iH cj_ (gL (En_ bC_ bj_))),pe_,bI (sc:=Aj Rz) χ c_,pf_,Bq.cons (j:=3) Bq.nil,pg_,setT W a l,ph_,("texts",.fn a3),pi_,Str.ofString "texts",pj_,ad==sysModules,pk_,Td->Addr,pl_,V.dm b x->kget k x=ψ (.fn (ad fC_)),pm_,b5v yu_,pn_,bA nd χ d! hV,po_,A'.handled,pp_,∀{a1 a2 a3 a4 a5 a6:Addr},GB! bW_ m=υ,pq_,.inr (.inr #[O!,χ]),pr_,[du_,bE!,N!],ps_,h.noOb oM2,pt_,#[l,?_],pu_,MJ _ hF_,pv_,bL T.W3 T.X5 l!,pw_,λc o e=>?_,px_,(λv y=>by cases y),py_,hI.row (b:=θ) hi,pz_,bD (ne d _ q),pA_,List.range m.toNat,pB_,cs.zipIdx k0,pC_,ψ zy!,pD_,[ap!,bX!,N!,dw_,ψ tx,ψ eh,pC_,ψ cD_,ψ bX_],pE_,Jk Ot P w KF mg base N x bg_ ag aj A outer s H E,pF_,aQ (fE T) b_ χ kO_,pG_,(oO l c k).binds b,pH_,Bq.cons (j:=0) Bq.nil,pI_,Wt rows,pJ_,.obj C fs,pK_,Ab fL! (Ab (wl f2) Ad),pL_,#[χ,χ,χ],pM_,V.nw x b,pN_,MZ λz=>hx zO_,pO_,YB _ _ _,pP_,bL T.V9 T.Y1 l!,pQ_,lG.mp z,pR_,RO ho hd (MC (c0w hu q2 hk (MC (RO ho hd ?_)))),pS_,rR a_ dq! o!,pT_,MC (tJ hu hk λtk=>MC Af_),pU_,bF Y_ bR v! aU n_,pV_,an_<=sizeLine,pW_,f1 ρ=ψ x,pX_,Ha.m a4x,pY_,MO (QD 0),pZ_,.bl (a==b),p0_,(a==k||b==k),p1_,ρ[i]?=ψ oq_,p2_,.str "move",p3_,h2.mono e,p4_,D->Mh->ν,p5_,μ D->Mh->ν,p6_,st.mr.ext x,p7_,.lst its,p8_,bB eY eZ (Jf_ pS!) aB,p9_,[b0_,Ax_,Ds! [.int h',ap_,er_,.tup [b2!,a,b,bF_]],y]]
def z'q:String:=z [qa!,letters.length,qb!,#[cs.toArray],qc!,.str letters,qd!,MC (TJ hT ab_),qe!,(by show 1<=1000;decide),qf!,compareOp .NotIn,qg!,Mh->μ D->ι D,qh!,[.tup [dx!,.int (1+m0%5)]],qi!,q.2.length,qj!,(cn_).trans x3 m2,qk!,#[_,dO!,pL_,χ],ql!,#[[],cC,.nil,QO],qm!,(h3!).set p.toNat (.int v),qn!,#[a',b',c',e',NM _ hm],qo!,Et (D.str k::r) 0=_,qp!,.tup (.str k::a::b::r),qq!,f3 ρ=ψ c,qr!,MS X own bd st q1,qs!,#[dw,?_],qt!,(k=="undo"||k=="redo"),qu!,Ju M3 d y v,qv!,(show Bo!=τ by decide+kernel),qw!,(∀o∈os,DG o.d),qx!,mup_ne J,qy!,Ik P w KF own M0 G0 F0 M1 G1 H1 Z ρ,qz!,kget wd o.nm,qA!,Addr×Dh,qB!,mup M b c,qC!,[root,binn],qD!,(λi v=>∃e,es[i]?=ψ e/\v=e.key),qE!,(by simpa using jq),qF!,(by show 2<=1000;decide),qG!,Gl X "enumerate",qH!,starEach [a] X.env=dP!::Fa! X.env,qI!,Qj wd os,qJ!,ψ x.v,qK!,λy hy=>hp y cG!,qL!,Ab f1 Ad,qM!,M p=ψ N_,qN!,.int Cd_,qO!,m1.ext xj,qP!,ψ (.lst qO_),qQ!,[ak!,qP!,T_,Ch!],qR!,((b4_+m:δ):Int),qS!,[ak!,ie!,T_,z],qT!,D.str.inj z,qU!,W.its.map λi=>(i,.lst lI_),qV!,arrOf bu,qW!,rs.take k,qX!,An ic_ aV!=_,qY!,#[by simp[big];omega,?_],qZ!,((aC_:δ):Int),q0!,.lst [Be bV_],q1!,!decide (x=i),q2!,L.map ar!,q3!,hb++[f6!],q4!,Aa 2 ρ=ψ cT_,q5!,fK hw χ,q6!,∀H':Hp,H' a=υ->D5_ H' a,q7!,.ret .none,q8!,.lst q6_,q9!,Oi eA! ds]
def z'qq:String:=z [qa_,Array δ,qb_,#[o,h],qc_,[ψ dT_,dC_,ψ qc!],qd_,[bH!,cp!,b0_,dC_,fU_,fV!,fV_,le!,le_,ψ G!,υ,υ],qe_,Ek KF H p ys\/Eb_ p ys,qf_,[bH!,cp!,b0_,dC_,fU_,fV!,fV_,le!,le_,ψ G!,ψ sg,υ],qg_,.tup [k3_,item,.int (m0 / 12%4),.int (m0 / 48%2000 - 1000)],qh_,.dct q.2.1 q.2.2,qi_,kget q.2.1 y,qj_,.dct [] 0,qk_,I.laid uR! u! #[#[D0,OJ.mpr (NY (NZ I.big)),OG _],by let#[o,h,_]:=D0;exact qb_,AD_],ql_,Value×Value,qm_,[aI!,ap_,.int (k:δ)],qn_,.str k',qo_,.tup (.str k::a::r),qp_,.tup (.str k::a::b::c::r),qq_,.inr (s.noF z),qr_,Y.ok M0 G0 F0,qs_,As ft q1 q2,qt_,ops.map Op.key,qu_,(FQ_ aW!).bind λx=>Ai x U_,qv_,[aJ_,bo_,y],qw_,.dct σ ep,qx_,[lu!,bo_,υ],qy_,MI X own tg iter fi,qz_,DK P w KF ps.length g,qA_,HL M0 M l,qB_,Mz s.heap d es ep,qC_,[(root,y),(binn,z)],qD_,q.2.1.map e_,qE_,(∀b,M b≠υ->M' b=M b/\¬O b),qF_,(q.2:δ),qG_,X.mg "enumerate"=υ,qH_,[x_+1,x_],qI_,.bool (lexLt ms ns),qJ_,λy hy=>hd y cG!,qK_,HT.lexLt ms ns,qL_,Qq ft ρ M τ,qM_,((j:δ):Int),qN_,[ak!,Cc!,T_,ψ qN!],qO_,(ac_).map Op.v,qP_,(b4_:δ),qQ_,Keyed->Int,qR_,((b4_+cX!:δ):Int),qS_,∀k ac,Gc_ ac->1<=k->k<=n->Up r z! k->HV! k ac,qT_,k3 (.lst lH_) f3! lI!,qU_,MF _ ig!,qV_,bH_ / 2,qW_,.int Ct_,qX_,Bd 1 [1] _ _ _ _,qY_,[ψ f3_,N!],qZ_,.lst ((ex_).take a),q0_,λz hz=>?_,q1_,λ_ K hK=>?_,q2_,(q2!).map kf,q3_,Ah k X.A.in1.in1,q4_,λd q=>Re d=ψ q,q5_,(qa i,Dh.lst (if i=a then(h3!).set p.toNat (.int v)else W.num i)),q6_,(a6!).map Cr,q7_,.done q7!,q8_,l.map Cr,q9_,Iv g q.2]
def z'r:String:=z [ra!,.int cW!,rb!,(s.heap.push f9!).update s.heap.objs.size (Obj.mapSeq (·++hv_)),rc!,[P_,ak!,ik_,bX!,y4,ψ q8!,ψ U_,υ,υ,υ],rd!,(λq=>nomatch q),re!,x1.sub.seq sq,rf!,(Iy_ f9!).update s1.heap.objs.size (Obj.mapSeq (·++ak_)),rg!,(rf!).push rf_,rh!,D.tup bF!∉W.its,ri!,λq e=>Cp KF G q.1 e.key,rj!,PH (by rw[RH,hi.1];omega),rk!,(Yx λys Q H=>∀l,H l=υ->Q e9! jp!),rl!,Bp ct_ V_ dK!,rm!,Ia ct_ V_ e1,rn!,∀b xs,H b=ψ aK!->H' b=ψ aK!,ro!,Ia io! V_ e2,rp!,W.codeIn KF aj qual=τ,rq!,W.fnOf "__init__" qual jJ! bx_ bg_ .none kV bt pm an aj ct,rr!,∀b u,b≠e->h.get? b=ψ u->Df! b=ψ u,rs!,.tbl (ps++pz),rt!,a.old x o l m e,ru!,List.range b6!,rv!,h.get? b=ψ o,rw!,∀h' T,j!<=T->ES_ h' l7!->E9! [e] h'->Eq_ bI_->Q () {s with heap:=h'},rx!,[Z1,.ref L,dg_,rawInt L,dg_]++(if pl.isEmpty then List.replicate 6 dI_ else pl),ry!,(Y.push ob).update e ry_,rz!,I.ok.noex b o e,rA!,∀K:Bool->Mh->Prop,K b M->II_ ft,rB!,∀x,(Fg_ wd kb)\/∃k:Str,Fy_ wd=ψ G!/\Fy_ kb=ψ f0!,rC!,Cu x.d=υ/\¬FC_ wd=ψ bf_,rD!,#[o.slots,by rw[b9 b (λz=>yu (z▸J))];exact eb],rE!,b9 b (Ff! ht lq),rF!,fo.elim Value.none λf=>rawInt f,rG!,Obj.mapFields (·.setIfInBounds 3 rF!),rH!,T∈a7\/j!<=T,rI!,(λ_ z=>nomatch z),rK!,NO.mpr #[MN,QO],rL!,λ_ _ _ _ n=>n,rM!,λ_ _ _ e=>e,rN!,λb u e=>?_,rO!,e1.trans e2.symm,rP!,storeName X.env x u,rQ!,I.hok b ob e,rR!,#[gg_,gg_,I.base.free,mb_,I.base.tups,I.base.frzs,I.base.tbls],rS!,.type "BaseException",rT!,.type "Exception",rU!,(by simpa using I.len),rV!,fA χ (b9v χ),rW!,z.sameBut hs (cne y c e),rX!,uJ χ ?_ (fO (zS _) gc),rY!,upd H1 dx ip!,rZ!,.Raise (Gd_ ex) υ pos,r0!,Bool->Hp->ν,r1!,V->V->Hp->ν,r2!,∀v u s2 x y H2,oX! H2 s2->Bj x v->Bj y u->R x y H2->Be_ (f v u) Q X.xe s2,r3!,λv ao=>Be_ (eval b X.env) (λu av=>wpAny h_ X.A (f v u) Q X.xe av) X.xe ao,r4!,∀c∈cs,∃g,Iz t c.1=ψ g/\g [c.2]=ψ v_,r5!,Cc jc! H! jc_ [υ,υ] iz!,r6!,.Constant U! j pos,r7!,XG (k _ _ he) (MH (hc▸q)),r8!,(by rw[I.ok.glob];exact I.mod.glob.keeps I.bk),r9!,bootBuiltins x=ψ u,rJ!,ζ X.prog X.w X.K η]
def z'rr:String:=z [ra_,[P_,ak!,CZ!,lV_,y4,ψ lT_,ih!,lE!,υ,υ],rb_,(by rw[PB];omega),rc_,#[_,χ,hq],rd_,mixKind prog w,re_,#[u,lY_,h2],rf_,seqObj "list" its.toArray 0,rg_,p.mem_iff.mpr hq,rh_,ItemsOf qD! σ an_,ri_,Paired.mapP ok.1 λ_ _ z=>z.1,rj_,a∈W.its\/a=root,rk_,.tup (p.1.map kV),rl_,(∀f,Mw (DU! f) (mA f)),rm_,Bp io! V_ cr!,rn_,∀{ag:Addr} {aj:Value} {A:Around} {outer:aq_} {s:Shared} {H:Hp} {E:XK},Ah k o9_->N.Nodup->GU! Vd pa!,ro_,λb=>O b\/b=q,rp_,W.isFn KF ad_=τ,rq_,W.methodObj ad_ (.ref y),rr_,(_,Dh.dct (IP! _) _),rs_,Un fs ex H H1 h Y,rt_,#[by show _<=_;simp only;omega,same.its,same.txt],ru_,#[same.rows,same.its,kk!],rv_,Ta w x0 d nm,rw_,X.env.kindOf x=ψ .cell\/Gz_ x=ψ .free,rx_,(·.setIfInBounds 1 (Value.ref Y.objs.size)),ry_,Obj.mapFields rx_,rz_,[P_,T_,ψ o.d,υ,υ,υ,υ,υ,υ,υ],rA_,XF n s.heap e T cls fl,rB_,MO (show(Value.ref T != Value.none)=τ by simp),rC_,[aJ_,P_,bo_,ψ x.v],rD_,SA (QZ lq _),rE_,b9 e (NY q9),rF_,λi x v e1 e2 e3=>?_,rG_,(by simpa using c'),rH_,(by rw[B2!];exact g4),rI_,#[_,bf,bv,hL,r'],rJ_,(λz=>by cases z),rK_,k3 dK! f3! lI!,rL_,λ_ _ e=>e,rM_,λm hm=>?_,rN_,∀b u,yK_ b=ψ u->Df! b=ψ u,rO_,fO (a2y h) χ,rP_,#[J b h,x.ge b h],rQ_,λc w' hc q=>(hs.2 c ?_).trans q,rR_,λj y v' e1 e2 e3=>?_,rS_,.type "ValueError",rT_,.type "object",rU_,fO (rO h) χ,rV_,cs.map λ_=>τ,rW_,#[(hs.2 p.1 ne).trans e,n,ne,nf,d],rX_,Value->Hp->ν,rY_,starEach [ex] X.env=[(θ,eval ex X.env)],rZ_,λ_ Z H=>te Z H λ_ H1=>R aa_ H1,r0_,backTo pos mk!,r1_,ta Z H λx H1=>tb Z H1 λy H2=>R x y H2,r2_,eval a X.env,r3_,("__classdict__":Str),r4_,μ (Addr×D),r5_,.type "BaseException",r6_,.Constant .none j pos,r7_,eval cx! X.env,r8_,(e3_).lookup k=Ds! fs,r9_,Fi t [.tup r,.tup fs]=ψ v_]
def z's:String:=z [sw!,Addr,sa!,List.replicate n υ,sb!,h hb s Z H _ I hw,sc!,dP (Ko_ ha h) λc s1 e=>?_,sd!,CQ X cG_ (xT X hb D (Go_ en)),se!,h hb s Z H Q I hw,sf!,#[I2.kIn,?_],sg!,jQ [(t.B4,a)] (one #[_,i9,rO Y]) b!,sh!,Br xs=τ/\Cz xs<=1,si!,swapsWith e υ pos.line X.env=pure θ,sj!,iF (a9t _) pln,sk!,iF c3_ (iF (tG Y) pln),sl!,(by simpa using c),sm!,.Pass #[0,0,0,0],sn!,eval i X.env,so!,λh=>if h=a then c a+1 else c h,sp!,dP (Dt_ ho _ I h) ?_,sq!,X.mg xC=DD_ C1,sr!,(en==r3_)=θ,ss!,ψ (J7! nh),st!,fx ρ=ψ a5_,su!,starEach [iJ!] X.env,sv!,.While c body [] pos,sx!,Str.ofString c8!,sy!,ts.set k sx_,sz!,PyData.tuple [dN!,dO_],sA!,IB X hb Z tg R,sB!,["enumerate","zip","dict_itemiterator","dict_reverseitemiterator","odict_iterator","itertools.zip_longest","itertools.pairwise"],sC!,(by rw[UO];omega),sD!,λi _=>n<=i,sE!,fC (.int 60),sF!,λb o J e=>eb b o J e,sG!,OR X.K own G H Z ρ,sH!,(∀b o,b≠I->b≠S->h.get? b=ψ o->Df! b=ψ o),sI!,.builtin "max.loop" #[[.ref I,dg_,.ref S],kw],sJ!,QV hS χ ?_,sK!,(((mH!).toNat:δ):Int),sL!,starEach [a] X.env=[dP!],sM!,.Call sL_ [a] [] pos,sN!,VX kj λ_=>[.int x t,.int x t].toArray,sO!,#[o,D8_ zc e1,e2],sP!,starEach [b] X.env=[iN!],sQ!,Str.ofString "ours",sR!,Str.ofString "taken",sS!,(BH! "taken",.fn ta),sT!,(BH! "default",v),sU!,dv.map λv=>sT!,sV!,T.obj _ _ nq,sW!,MY _ (MY _ (jC J e)),sX!,I7.pin (b,o) sW!,sY!,V->Hp->VK->ν,sZ!,(by rw[fJ,MO c];rfl),s0!,d4y ha J I h λv u s2 x y H2 I2 rx ry q=>ho hb s2 Z H2 x y v u Q I2 rx ry q,s1!,Int->Int->Int,s2!,Int->Int->Bool,s3!,Se λi j=>.int (i - j),s4!,(∀b o,b≠e->b≠it->yK_ b=ψ o->Df! b=ψ o),s5!,λ_ h=>(by cases h),s6!,OY he χ χ ?_,s7!,hF yy ta wa .non,s8!,(a,Gi! s7!),s9!,Cd (Ak 4 Ih wD_)]
def z'ss:String:=z [sa_,∀a pn oe c,eJ_∈pn->EC oe a7_->PE iB! he λZ H Q=>Z[ie]?=ψ hL!/\∃v,hv c=ψ v/\Q v H,sb_,ψ (.Name xC cp),sc_,[.Assign [.Name xn xp] he ap],sd_,#[H1,I1,q1],se_,dP (Dt_ hc _ I h) ?_,sf_,(by simpa using hs),sg_,.Try body [Go_ en] [] [] tp,sh_,Jk mg! P w KF mg base N x bg_ ag aj A outer s H E,si_,.Return υ pos,sj_,St->Hp->ν,sk_,(λ_ s'=>∃ae H',Es_ s'/\Q ae H'),sl_,(sa!).set ix ce_,sm_,.Subscript o i pos,sn_,os++[#[a,c a+1,t a+1+m / 3%3,dd]],so_,λh=>if h=a then t a+1+m / 3%3 else t h,sp_,X.N[ie]?=ψ en,sq_,(en==ml!)=θ,sr_,if h=a then t a+1+m / 3%3 else t h,ss_,starEach my_ X.env=(θ,eval (.Name en p2) X.env)::C7_ [iJ!],st_,starEach [iJ!] X.env=(θ,eval (.Name xC p3) X.env)::Fa! X.env,su_,.Name "isinstance" p1,sv_,W.subIn X.K (.ref C1) aK_=ψ τ,sw_,cs.set k (.int (c+1)),sx_,.int (t+1+m / 3%3),sy_,(by rw[z];exact J),sz_,letOwnedTupleGo tg b6_ u,sA_,aS χ (Jc_ c0t) χ,sB_,FJ X own n es g,sC_,(by rw[UO];omega),sD_,{s with heap:=h'},sE_,(λys hy=>by rw[I.list_inj hy hq];exact hx),sF_,(show Eu! a ak_ from p),sG_,.nx (wE ns base N jf c' t' mE! y7 y8 y9),sH_,I1.kept (t':=s1.toks) λb o e=>MJ _ e,sI_,Around.under_plainId RJ,sJ_,(by simpa using uo),sK_,(toString "max"++toString ".loop":String),sL_,.Name "range" p,sM_,λa b e=>?_,sN_,#[o,D8_ uo e1,e2],sO_,starEach O! X.env=[dP!,iN!],sP_,.Call sL_ O! [] pos,sQ_,b1y ho ha.ok J.ok,sR_,Str.ofString "waiting",sS_,(by simp[Yh];omega),sT_,.For tg iter body [] pos,sU_,λb J=>(dQ!).1,sV_,step x H5 y5,sW_,((c6!).length:δ),sX_,Value->Value->Sem Value,sY_,.int (Yh 0 υ xs),sZ_,(by rw[fJ,MZ c];rfl),s0_,.int bs! s.toks,s1_,#[.int bs!,H,aL!,D_,q],s2_,intBits_le_64 Y h2,s3_,binaryOp .Mult,s4_,(a,.obj t.B5 []),s5_,field aB! 2>>=_,s6_,OY v4 χ χ ?_,s7_,compareOp .NotEq,s8_,(ta,.dct [] 0),s9_,compareOp .Gt]
def z't:String:=z [ta!,compareOp .Is,tb!,compareOp .IsNot,tc!,f2 Ai r! ae_,td!,.lst ((dR!).map Op.v++dE_),te!,Yq r r' ta tb tc,tf!,mup_ne (NY at_),tg!,mup_ne (NY aw),th!,[(.int o.h,.fn q)],ti!,F.args_enumerate_next_1 _,tj!,#[H,aL!,by rw[wB r];exact q],tk!,∀b∈cV_,D5_ H b,tl!,#[_,he,g9_],tm!,(λxs H Q=>∃i,xs=c7_/\Q (.int iX!) H),tn!,#[.str _,H,aL!,D_,q],to!,.builtin "ord",tp!,.int (x.cps.getD 0 0:δ),tq!,.builtin "len",tr!,(l.filter λx=>p x||q x),ts!,W.hasDictIn K C=τ,tt!,mup M c (.dct tm_ x!),tu!,ψ (.builtin "object.__setattr__"),tv!,c9!<=sizeLine,tw!,([]++kl.flatMap (hs S)).map Op.v,tx!,mup M1 p b9!,ty!,.Name "enumerate" p2,tz!,⟨G,ρ,M,_,st,e,BC_⟩,tA!,x1.sub.seq q,tB!,.lst (Da! n.toNat vs).flatten,tC!,.bl (I0_ z y),tD!,(show∃t,u=Value.str x t from r),tE!,.ins C dx (Jv f y fs),tF!,Builtin.SmallTypes.fitsIndex k=τ,tG!,[ψ q.1,du_],tH!,.Attribute e f pos,tI!,backTo pos (C7_ args),tJ!,.Call (D1! e m) args [] pos,tK!,HR t M yy a ta wa S kl ca,tL!,.Tuple es x1 pos,tM!,I1.laid (t':=s1.toks) (λb u e=>MJ _ e) u! ?_,tN!,l.map λh=>D.int (f h),tO!,λb z=>Ga_ b!,tP!,λv H2=>v=.non/\Q gb_ H2,tQ!,dP go_ λus s1 ⟨vs,H1,I1,r,q⟩=>#[I1.kIn,?_],tR!,starEach aD_ X.env,tS!,#[yy,1+dY!,1+Uy S,d],tT!,backTo pos tR!,tU!,.cons χ .nil,tV!,fT (Lf "tuple" k!),tW!,(i7!).flatten.zipIdx.map λq=>gu_,tX!,(∀v,(x,v)∉binds),tY!,f1 Fh (Ac nj_ Af),tZ!,(by simpa using Y),t0!,f2 At k! nk!,t1!,Jk CX P w K mg base N qual scope f cd A outer s H E,t2!,(show b∈t3! from z),t3!,([]:μ Addr),t4!,x.above y c (RD h),t5!,W.codeIn K aj qual=τ,t6!,fS c! (sZ h),t7!,iJ I hg hm hv ?_ hn a8,t8!,Ea (fT (Lf "str" aM!)),t9!,dM c! c! (tW h hk hx)]
def z'tt:String:=z [ta_,λx y H Q=>y=.non/\Dn! Q (x=.non) H,tb_,λx y H Q=>y=.non/\Ew_ (!decide (x=.non)),tc_,λx y H Q=>G5_ r\/G5_ r',td_,mup_ne λz=>ho fj_,te_,hc hb s3 Z H3 _ I3 q3,tf_,FE X hb H s.heap e it i,tg_,(by rw[show(((i+1:δ):δ):Int)=(i:Int)+1 by omega];exact a),th_,.dct (gp!++th!) dz!,ti_,#[_,_,_,he],tj_,(show False from e),tk_,aS χ χ (uX o),tl_,.builtin "abs",tm_,(xs.take x!).zipIdx.map λq=>gu_,tn_,Nat.min_eq_left a!,to_,Al X.K G xs vs,tp_,(λxs H Q=>∃x,xs=[.str x]/\b8_=1/\Q tp! H),tq_,#[.int i!,H,aL!,#[_,by simp![MX];rw[ar]],q],tr_,W.plainGet K C name=τ,ts_,kl.flatMap (hs S),tt_,upd H c (dE c bf x!),tu_,.type "dict",tv_,#[by simp![MV];delta big;omega,?_],tw_,(by rw[hp.length_eq];exact hS),tx_,My .str aT! [],ty_,[Ha_ ty! uv],tz_,#[v,_,M1,G1,χ,r1,x1,m1,q1],tA_,S++[acO S yy fo_],tB_,eX c! hob hF4,tC_,(show∃t,u=Value.int i t from r),tD_,(by simp[jq,v7]),tE_,(by rw[e];exact i2!),tF_,if g=f then ψ u else mA g,tG_,λb u q=>MJ _ q,tH_,starEach [e] env,tI_,keywordEach [] X.env,tJ_,xs.zipIdx.map λq=>IQ_ (q.2+k:δ),tK_,S.map Op.tm++[0],tL_,dP (h pos hb s Z H _ I hq) λus s1 ⟨xs,H1,I1,r,z,q⟩=>#[by rw[<-r.length];exact z,?_],tM_,(λxs H Q=>∃b:Bool,xs=[.bl b]/\Q (.int jn_) H),tN_,s1++BH! c8!,tO_,#[G1,ρ,M1,R,sr.grow x1 m1,r1,k8_],tP_,[bL_,aE_,dc!,"_law_lines",bt!,aL_,ng!,bt_,eZ!,dc_,"_law_due_here","_law_operation"],tQ_,.Attribute o m ax,tR_,f2 ED (DH_ 10) sE!,tS_,eX c! hA.ob hF1,tT_,.tup [gB!,nh!],tU_,I.hok.fresh (QW _),tV_,(Value.ref X!::eY_),tW_,.Call (J7! p) [] [] pos,tX_,(os.filter p).map Op.v,tY_,(by simpa using h2),tZ_,f2 At k! i9_,t0_,cellsFrom X! scope.names [],t1_,.lst ((S.map Op.tm).map D.int),t2_,(mQ_).map Op.v,t3_,λb z=>Ga_ (sj b),t4_,W.fnOf name qual params body scope dV kV bt pm an aj ct,t5_,∀vs H Q E,Fu_ E->ba!=ab!,t6_,(by rw[NG hx];exact hK),t7_,dP go_ λus s1 ⟨vs,H1,I1,r1,q1⟩=>hc hb s1 Z H1 vs us Q I1 r1 q1,t8_,fT (BJ e3_ τ aM!),t9_,Dq k! de_ Av]
def z'u:String:=z [uB!,Around,ua!,fT (f1 (Fi t) (C4! t9_ (Ul e3_ aM!))),ub!,f2 Rm (f2 An (Gg! dY_) d0_) ca!,uc!,if v<0 then max nr_ 0 else min v (n:Int),ud!,s.heap.IsSliceOf sl vl vu .none,ue!,(∀y',D0! [C_,aJ_,P_,y'] M),uf!,wT (IS_ i_ d1!),ug!,sIx ak.size ak.size hi - Gl_ 0 lo,uh!,ug_==0&&(1:Int)==1&&ug!==ak.size,ui!,Ag (Wj (Po 1 C!)) (Am 2 (H7_ bM_)),uj!,ι Int->Hp->ν,uk!,f2 Em r! C!,ul!,Az t.B6 "has" 2 gK! i_ d1!,um!,Cd (E1! aM_),un!,NW (sK xs lo hi) hz,uo!,Bx e5_ p! gI!,up!,s.cps.toList.drop i,uq!,As (Hw (wT (Az t.B6 "can_move" 3 (Dw t) i_ (Ab p! d1!)))) Np Bf,ur!,(by rw[hj];simpa using ew),us!,Au t.B6 "written" i_,ut!,slot_list_getitem.lookup,uu!,Bx us! d2! (wl bu!),uv!,"operation_name",uw!,MZ (λz=>h.1 z.symm),ux!,f2 An e6! S!,uy!,As (wT (IS_ uy_ (Ab jP_ Ad))) (Bx (Au t.B6 "hidden" i_) jP_ jm_) Bf,uz!,upd H p (He! j),uA!,(by rw[hk];exact#[_,I',q]),uC!,show intC nF_=Nl m from pU m,uD!,f2 At gN! e7_,uE!,(show its.toArray.any gO!=its.any gO! by simp),uF!,λh' c' kp e=>fin its r' hz h' c' kp e,uG!,[Ds! gQ_],uH!,(λ_ e=>nomatch e),uI!,Ca (Jz! fb!),uJ!,Ca (Jz! jv_),uK!,#[o,e,ex.2.1],uL!,Ab dj! (Dm! jj_ aX!),uM!,backTo ah mk!,uN!,List.replicate k xs,uO!,[intC a,intC b],uP!,[intC a,intC b,intC c],uQ!,[C_,aJ_,P_,y],uR!,λ_ _ q=>MJ _ q,uS!,wT (w2 d4_ aM_ A!),uT!,Ab p! (Kt_ aM_ uS_),uU!,(by rw[MX];omega),uV!,ij.toArray.size,uW!,Fd d8_ p! nN_,uX!,Au t.B5 "outline" i_,uY!,fV (I9! gV! n1),uZ!,b2e (I9! gV! n2) (I9! gV! n3),u0!,Heap.SameBut a s.heap h',u1!,starEach [e] X.env,u2!,As (Ca (Ea u1_)) He Bf,u3!,.tup [h,n,tm],u4!,ns.map WData.int,u5!,pre_splitW qi,u6!,.lst [.str b],u7!,fT (f1 Ao R_),u8!,((ca_+1:δ):Int),u9!,Bd 1 [0] (Jx d8_) q_ d5! (EM! Gk (Ab p! aG!))]
def z'uu:String:=z [ua_,f2 Zx aM! (fC df!),ub_,if v<0 then(nr_).toNat else min v.toNat n,uc_,((sIx n n hi:δ):Int),ud_,Nq (Ds aX! aX! Lz),ue_,λz hz=>hx z lM!,uf_,(Eo_ 4).map λi=>D.int cX_,ug_,((sIx ak.size 0 lo:δ):Int),uh_,Ca (fT (IN_ C!)),ui_,eG c! c! i1,uj_,V->Da_ Int->Da_ Int->Hp->VK->ν,uk_,s3.heap.objs.size,ul_,Bx nv_ p! aM_,um_,Wl nz! (wl dZ!),un_,(r.drop nw!).take nw_,uo_,Bx ny_ p! um_,up_,(bo.size<ai/\free<=i)/\i+(dC!).length<=F_,uq_,call e3! (v::us),ur_,Cd (Az t.B7 "put_behind" 3 (Cf t) (H7_ e5_) (Dm! d2! jP_)),us_,#[z,H,I,a9,q],ut_,λr s'=>r=w/\DU_ r s',uu_,(by rw[MX]<;>omega),uv_,(ws.map λw=>c::w),uw_,(·.setIfInBounds j u),ux_,Am 5 (EN_ (Dq C! Av e0_) (Bg gM!)),uy_,w2 By e5_ p!,uz_,w2 By ny_ p!,uA_,Int.negSucc m,uB_,Cb (Az t.B6 "signs_of" 2 (Dv t) i_ af!),uC_,if a then 1 else 0,uD_,λw hw=>vO rx fx r fs w nr!,uE_,As (Ee_ (f1 Ao aY_)) (Bx p! xc! (wl gO_)) Bf,uF_,fT (f1 Ao jq!),uG_,wS (Gj! gR!),uH_,.lst ((gR!).map wS),uI_,(gR!).map gP!,uJ_,#[#[o,e,ex.1],λa e2=>?_],uK_,Ca (Jz! nH_),uL_,Ca (Jz! fb_),uM_,Ca (Jz! df!),uN_,List.replicate k its,uO_,Ca (Jz! jw!),uP_,Array Value->Array Value,uQ_,Obj.mapSeq f,uR_,Am 1 (Gh t.B6 1 (Hd t) Ad),uS_,f2 Ai S! ae_,uT_,As uS! (Cd (Ak 3 (Lw t) uT!)) Bf,uU_,.lst (xs++zs),uV_,Fz t.B5 "outline" i_ aX!,uW_,Aw (wl (f1 Cy cB!)),uX_,[DO! jx_],uY_,f2 Ai r! u_,uZ_,fV (Jc_ me),u0_,(by rw[z];decide),u1_,fT (Hj! Du),u2_,starEach [e,f] X.env,u3_,Az t.B6 "has" 2 gK! nS_ af!,u4_,.tup [h,n,tm,gX!],u5_,.lst [.str a],u6_,∀x∈xs,PG x,u7_,Bd 1 [] (Cb uW!) q_ (Ca (Ea u7!)) (wl nj_),u8_,wT (w2 d4_ p! (EM! Ho (Ab i_ nQ_))),u9_,w2 Rh A! (Qu (Ab (Fa_ (Ib t)) af!))]
def z'v:String:=z [v5!,Value,va!,wT (w2 jr_ gW_ (Au t.B5 "ours" p!)),vb!,Params->W.Frag,vc!,∀(w:World) (h:Heap),YP w h->HV_ h,vd!,.lst [aI!,ap_,er_],ve!,fC (.str "-"),vf!,Zv K x qual st f fd,vg!,#[oc,od,.func n4_,jg],vh!,[Xy h n tm k r],vi!,Sn h n tm k r,vj!,Bx di! p! gI!,vk!,[Xy h n tm "write" hU_],vl!,Str×NameKind,vm!,ForInStep.yield ((name,a)::r),vn!,ForInStep (μ fh_),vo!,Ac (f1 Ev vn_) Af,vp!,Ea (fT (Hj! (Cw t))),vq!,fT (f2 Em (Hj! Da) k!),vr!,(by simp[tH Y]),vs!,Ac (f1 Cv cB!) Af,vt!,(D.int o.n::D.int o.tm::ds),vu!,Hw (wT (EM! Ku jA_)),vv!,X.N[j]?=ψ x,vw!,Wj (Dk 4 vv_),vx!,Ab i_ (Ab aM_ Ad),vy!,Wk 2 (wl t9_),vz!,Bi (f2 Ai k! (f2 Dy r! cA!)),vA!,λz=>.inr fj_,vB!,Str.ofString "hand "++BH! c8!,vC!,yy=0\/yy=5\/yy=15,vD!,is.map λi=>D.int cX_,vE!,ψ (.lst vD_),vF!,Ac (IJ! bv_) Af,vG!,Vn (Eu (f1 Bv vF!)) as_ (Po 1 vF_),vH!,f2 Ai C! vG_,vI!,[og!,C_,υ,υ],vJ!,Dk 5 (Hj! Kl),vK!,Dk 6 (KH_ (f2 An (Dq Y! de_ Av) (Dq Y! Av de_))),vL!,(ψ (v x)::rest),vM!,Hx (fT (Lf "str" bu!)) (Dk 7 bi!) El,vN!,λ_ _=>False,vO!,Dk 9 (f2 Ai bN_ (f2 Dy S_ vN_)),vP!,I8.pin (b,o) sW!,vQ!,hH.op o (ez.mem_iff.mp ho),vR!,Hx (Dc! aN! jv_) (Bi (Bg (Ac aN! (Ac az! (Ac (KS_ Y! ae_) (Ac bu! Af)))))) El,vS!,f2 At (EN! Bv eP_) z_,vT!,S++[acO S yy d],vU!,X.env.kindOf y.1=ψ .cell\/X.env.kindOf y.1=ψ .free,vV!,∀cl C av bj fp,PE ce! f7 te,vW!,Hx (Dc! aN! fb_) (Bi (Bg (Ac aN! (KX! (f1 Oz (Kx! oj! jq!)))))) El,vX!,f2 Ja S_ vN_,vY!,#[NZ (NN J hC),NZ (NN J hD)],vZ!,Hx (Fy (Dc! aN! df!) (fT (IN_ ea_))) (JB_ (KX! (f2 An u_ (f2 Dy vX! (f2 Ka ca! (Gg! ea_)))))) El,v0!,gg c (ql x c h),v1!,.tup [hT_,v],v2!,eX c! ce.ob hF1,v3!,Hx (fT (f2 (Uk θ) aN! (fC (.tup [df!,jw!])))) (Bi (Bg (Ac (fC jw!) (Ac az! (Ac (f2 Dy vX! dZ!) (Ac (f2 Ka (f2 Dy (f2 Ja S_ (DH_ 48)) (DH_ 2000)) (DH_ 1000)) Af)))))) El,v4!,λo ho=>#[?_,λ_=>aP χ],v6!,Dk 11 (f2 An (Dj_ (Cs C!) (Bg g5!)) (Fe (Ac (Kq_ z_ (f2 An u_ (f2 Dy S_ oj!))) Af))),v7!,Bi (Kq_ aN! (KH_ (Aa 11))),v8!,λ_ _ q=>b1k e q,v9!,congrArg ψ e]
def z'vv:String:=z [va_,[Gk! h,Gk! n,Gk! tm],vb_,show(3:Int)=((3:δ):Int)from χ,vc_,(∀(s:Shared) (u:Value),GC! jF! [(x,u)]),vd_,.str (mk line),ve_,Ce 1 [] (Rg k!) q_ H! n4!,vf_,∀(kV bt pm:Value) (an:dk!) (aj ct:Value) (us:o_),aw!=ab!->GC_ n4_=pure da_,vg_,.inl (.inl (e _ _ h)),vh_,.inl (.inr #[o,e _ _ h]),vi_,#[o.slots,e],vj_,(by simpa using hx),vk_,Sn h n tm "write" hU_,vl_,(∀x∈.int h::.int n::.int tm::ds,WG x),vm_,(.int h::.int n::.int tm::ds),vn_,Ac (Dq r! (Aq ae_) Av) Af,vo_,(by simpa using hk),vp_,(if(k==g1_)=τ then _ else _)=_,vq_,λp hp=>hn p jL_,vr_,oU cells r _ x h,vs_,f2 At n7! (Fe vs!),vt_,As (Ee_ vs_) (Aw (Gh t.B5 2 (Kx t) af!)) Bf,vu_,fC (.str "waits "),vv_,f1 (Im t) (Ac (Yi (fT S!) Qi r!) Af),vw_,∀b∈fp,b<T!,vx_,[C_,od!,ψ dR_,ψ B!,υ],vy_,Ak 3 (Ic t) (Ab p! (Ab ay_ d1!)),vz_,f2 An r! u_,vA_,Str.ofString "hand "++mk aF_,vB_,ForInStep.yield ok,vC_,.tup [g5_,g5_],vD_,(wS (On yy)::xs),vE_,fT (f2 At gO_ (fC fb_)),vF_,Bg (Ac bO! (Ac ju_ jq!)),vG_,f2 Dy (f2 Ja r! (H8_ (f2 Nm ae_ k!))) (DH_ 41),vH_,[#[tg,iter,d7,0]],vI_,Dk 4 (f1 Bn (Ac k! cB!)),vJ_,([]:μ Value),vK_,(λv z=>by cases z),vL_,Dk 7 (KS_ (f2 An Y! (FB! jO_)) aV_),vM_,Dk 8 (FB! [fb!,fb!,fb!,jv_,jv_,fb_,fb_,df!,jw!,bf_,gN_,nH_]),vN_,fC (.int 12),vO_,λ_=>aP (yA o),vP_,Hx (Dc! aN! fb!) (JB_ (C4! (KH_ Y!) bu!)) El,vQ_,.str "hand ",vR_,Aa i ρ=yJ_ l,vS_,Hx (Dc! aN! nH_) (JB_ nC!) El,vT_,Dk 10 (KS_ (Hj! Mo) dZ!),vU_,∀cl C av bj fp,It! tt,vV_,CB NL.length ix wi g tt te,vW_,dP (Dt_ ay _ I h) λv s1 Y=>dP Y λvf s2 h2=>?_,vX_,Ac (fC G!) (Ac (KM! eP_) Af),vY_,λb o J e=>(c8.2 b J).trans e,vZ_,.inr (NW I2.sz hC),v0_,λx c h=>(v0!).1,v1_,λx c h=>(v0!).2,v2_,∀a vs,Fw_ a vs->Ek KF H' a vs,v3_,∀a h1,Rd H a dT!->Rd H' a dT!,v4_,Al.map ht hl hd xs vs r,v5_,Cu o.d=ψ (k,n),v6_,.tup [k4!,v],v7_,λ_ _ q=>bV e q,v8_,λ_ _ q=>e.seq q,v9_,(λz=>by rw[e1]at z;cases z)]
def z'w:String:=z [wa!,#[a,vs,χ,h,r],wb!,f2 An r! (f2 Nm op_ az!),wc!,Dk 8 (f2 Dy bu! ae_),wd!,Vm 5 bN_ (f2 An (G1! (Km 5 bN_)) (f2 Dy (f2 Ja bu! ae_) ae_)),we!,Dk 9 (Mt (f1 Jj (Ac k! (Ac (G1! wb!) (C4! S! oj!))))),wf!,fC (.lst [U_,(.int 5),(.int 15)]),wg!,Po 3 (Bg (Ac (f2 Ai wf! bN_) (Ac (Km 4 bN_) (C4! (Km 5 bN_) aN!)))),wh!,Am 3 (wl (Mt nn_)),wi!,fT (f2 Ya S! z_),wj!,Wj (Yw 1 S! C!),wk!,.tup [bf_,gN_],wl!,Bx p! xc! (wl (f2 At gO_ e7_)),wm!,fT (f2 Ww Y! fg!),wn!,fT (f2 Em wm_ C!),wo!,fT (IN_ S!),wp!,f2 Ai S_ az!,wq!,fT (f2 At wp! wp_),wr!,Ca (Fy wo! wq!),ws!,DC X.K own f,wt!,∀Z G H Q ρ d,DV! X.K->ft ρ=ψ d->(∀G' H',Bo G H G' H'->Q d H')->t Z H Q,wu!,f2 An (Dq S_ Av fn_) (Fe wt_),wv!,(Fw b P! q ds ρ M λr M1=>match r with|.nx al=>q2 al M1 R|.rt d=>R af_ M1),ww!,"_law_sibling",wx!,(∀c,M c≠υ->M' c=M c),wy!,As (Ca (Ea (Ks! S!))) cg_ Bf,wz!,f2 Ai S! z_,wA!,(by rw[e];simp[Ai,Et,Hv]),wB!,Str.ofString "undo"==k,wC!,sW (hs u hu).2.2.1,wD!,Ab i_ (Ab A! af!),wE!,Hw (wT (Ak 3 Kw wD!)),wF!,Ac nQ! (Ac uY_ Af),wG!,s1.trans hj_,wH!,b2b ho ha.ok J.ok hm,wI!,b1s ho ha.ok J.ok hm,wJ!,.str "numbers",wK!,#[d,χ,oz_],wL!,ft ρ M λb M1=>if b then E8_ q1 else E8_ q2,wM!,#[b1r h.ok],wN!,#[b8o h.ok],wO!,Gu (Eu wP!),wP!,f1 Bv (Ac Y! Af),wQ!,d0a ha.ok J.ok,wR!,#[b9k h.ok],wS!,λv G1 H1 s1 r1=>?_,wT!,k _ G1 H1 s1 Ap.bl,wU!,(show 0<=40 by decide),wV!,Bx bz! dj! (wl (f2 An (f2 An (Dq Y! Av (Aq az!)) bN_) (Dq Y! (Aq az!) Av))),wW!,cU h.ok hs.ok hst,wX!,(by rw[<-aK r1];exact fF hl),wY!,s1.sub.free hp,wZ!,pE hc hg hm hv ha.ok hn a8 he az,w0!,yI hc hg hm hv ha.ok hn a8 he az,w1!,Ds hf_ nN_ (Ds ow_ Gv (Ds oy_ Gv Lz)),w2!,Am 1 (Nq w1!),w3!,wT (w2 d4_ (wl (Eg! uS_)) jW_),w4!,Ac wz! (Ac (Ev! S!) Af),w5!,Cd (Ak 2 Wz nx_),w6!,(by rw[PB];decide),w7!,Am 2 (Ak 1 Pa af!),w8!,[hT_,.tup [dx!,.int 1]],w9!,Ym (wT (w2 (λ_=>FA τ) (EM! Ks j5_) jm_)) w8_]
def z'ww:String:=z [wa_,Ac z_ (C4! z_ z_),wb_,Dk 7 (I3_ wb!),wc_,Vm 4 bN_ (G1! (Km 4 bN_)),wd_,r.mono (iV h),we_,hd_∈D6_ bQ!->∀M',h9_->R (.bl (Nr S V_)) M',wf_,.inr (.inr (hH.ng (gP.mp ho).1)),wg_,#[v,Y,H5! x.g],wh_,.bl (Nr S n),wi_,fT (f2 FC (Bg (Ac (Gg! (Km 1 jW!)) (Ac (Eg! (Km 1 jW!)) Af))) (Kq_ e6! bO!)),wj_,Z[i]?=ψ cf!,wk_,wT (w2 aX_ (wl gO_) jW_),wl_,f2 Em aM! r!,wm_,f2 Ai (f2 Ai S_ Y!) u_,wn_,Am 5 (EN_ Y! u_),wo_,Zz S yy b p ns σ ov! y7,wp_,Bg (Ac S! aY_),wq_,#[by rintro hb s Z H Q I ⟨G,ρ,d,er,e,k⟩;exact Ko_ h ov_],wr_,aS χ χ (by simp[Op.nm,Ai,Et,Hv]),ws_,Am 5 (EN_ az! u_),wt_,Ac (Bg (Ac r! aY_)) Af,wu_,Dq S_ fn_ Av,wv_,"_law_parent_here",ww_,if b∈Jm own Z then υ else G' b,wx_,Am 3 (JZ! (Ca hg!) jz!),wy_,(by rw[z];exact g8),wz_,Am 1 (wl wz!),wA_,aP (f:=fC wk!) χ,wB_,Str.ofString "redo"==k,wC_,wl (fC (.tup [gD_,gE_])),wD_,Ab i_ (Ab p! ox!),wE_,λv M' ba bc e h=>cZ c! (hR v M' ba bc e h),wF_,cZ c! (hE (QP.mpr z) M' h),wG_,Am 4 (AE hk! (wl (f2 At ju_ i9_))),wH_,b9o hr ha.ok J.ok hs,wI_,Bx bz! ay_ nN_,wJ_,Bx oz! ay_ (Ri (Ab bN! (Ab bN! (Ab bN! nz!)))),wK_,b2g (hp o ho),wL_,Cd (Ak 4 Ih (Ab i_ (Ab ay_ (Dm! (wl (Yi (fT S_) ju_ nk!)) jv!)))),wM_,Bx (w2 By oz! dj!) jv! (wl bv_),wN_,b8p ha.ok J.ok,wO_,#[G1,ρ,d,dn_,e,λG2 H2 s2=>k G2 H2 bS_],wP_,f2 At (Eg! (f2 Ai Y! bu!)) e6!,wQ_,As (Ee_ wP_) (Am 6 (EN_ bu! u_)) Bf,wR_,b9q ha.ok J.ok,wS_,λv G2 H2 s2 r2=>k v G2 H2 bS_ r2,wT_,d0d ha.ok J.ok,wU_,k _ G1 H1 s1 Ap.bl,wV_,pC hc.ok ha.ok J.ok,wW_,lE ns S yy x3 a oD! y6 y7 j0_ aD! (ψ ee_) fm,wX_,s1.trans (KN_ s1.sub hp),wY_,Bx bz! dj! (Bd 1 [9] (FZ_ Y!) q_ d5! (Qu (Ab gW_ (Ab jz! (Ab (Lh (wl dY_) (w2 d4_ gW_ p!)) Ad))))),wZ_,#[G,ρ,ds,er,e1,λvs G1 H1 s1 r1=>hd s1.sub r1 e' λv G2 H2 s2 r2=>k v G2 H2 bS_ r2],w0_,CD X.K ps.length g,w1_,∀ρ ds,fs ρ=ψ ds->h!=ab!,w2_,(aD_).length=ab!,w3_,∀ρ ds,fs ρ=ψ ds->h!=n,w4_,Hw (wT (Fd A! (wl (Bg w4!)) hg_)),w5_,(by rw[NR];omega),w6_,Cb (w2 By bz! p!),w7_,Cb (w2 Rh (wl (FB! [gD_,gE_])) (FZ! Qb oF_)),w8_,wT (Kd! Ht Gm),w9_,As (wT (Kd! Su Gg)) cg_ Bf]
def z'x:String:=z [xa!,Bd 1 [3] (Cb (w2 By A! hf_)) q_ (Ca hg!) i_,xb!,As (wT (w2 Qa (AF (Ab (Qu (Dm! ay_ (Ak 2 (Mj t) j5_))) Ad)) xa!)) cg_ Bf,xc!,wl (Ev! bv_),xd!,As (wT (w2 Qa xc_ (w2 By (w2 By A! oy_) ay_))) cg_ Bf,xe!,λ_ j=>decide (0<j)&&decide (j<1073741824),xf!,λi j=>decide (0<=j)&&decide (j<=1000000)&&decide (aS_<2 ^ 64),xg!,f1 Bv (Ac (IZ_ 1) Af),xh!,fC (.lst [U_]),xi!,k v G H aA_ h2,xj!,Ae->Da_ oH!,xk!,f2 Ai fq_ z_,xl!,Dt (Ee_ (f2 At xk! e7_)) (Kr_ (Fo_ oH_ aM_) (w2 By ay_ oH_)),xm!,aT (mG T) b_ χ aH! O_,xn!,fT (f2 Jh Y! bi!),xo!,As (Dt xm_ (Ca (Qh xn! xn_))) (Am 5 (wl az!)) Bf,xp!,Am 1 (wl (f1 Mn (Ac k! (Ac z_ (Ac (f2 Dy (I3_ sE!) (fC g5_)) Af))))),xq!,Ce 1 [] (Cs r!) q_ H! oM_,xr!,Am 3 (EN_ (Fe oL_) xq!),xs!,Am 4 (Ak 1 (Ml t) jl!),xt!,fN Y_ bR v! aU n_,xu!,λa z=>(by subst z;rcases e2),xv!,(λxs H Q=>∃x n,xs=[x]/\EQ KF x H n/\Q dT_ H),xw!,Am 9 (Ak 3 Sw (Ab p! (Dm! A! d2!))),xx!,Ac (f2 Ai (FB! [bf_,gN_]) (EN! Ui bN_)) (Ac aN! Af),xy!,Am 10 (wl (IS! (Aa 11))),xz!,Am 1 (EN_ r! xy_),xA!,Te nz! (wl ca!),xB!,As (Ym (wT (Jx! Sv d2!)) xA_) cg_ Bf,xC!,i=h!->af.stop i H',xD!,kJ w! fs_ s_ oO_ cK_,xE!,Am 10 (Fd (wl az!) xD_ hg_),xF!,As (Fo_ (wl xk!) jW_) oN! Bf,xG!,#[#[vs,v,q',Y],ft!],xH!,#[G',j9_,H5! s1],xI!,aV (bK (DE_ v! (bB eY eZ E_ fr!))),xJ!,#[dp!,λhi=>by rw[MV,QM]at hi;exact TY hi.symm],xK!,[J_,bd_,"first","many"],xL!,[bL_,jS!,aE_,g7_],xM!,[aE_,dc!,dn!],xN!,bB aO bJ E_ aB,xO!,EI KF 2 (Um eO_ (Um (Mq j) EJ)),xP!,(show(bT_:μ Str).Nodup by decide+kernel),xQ!,AB KF af ds G1,xR!,λ_ _ _ _ _=>xQ_,xS!,((oU_).mono x3.g).mono x4.g,xT!,λx0 x1 x2 x3 x4=>(he x0 x1 x2 x3 x4).ok,xU!,λaf G1 H1 x1 gi=>?_,xV!,HI X.K G0 F0 own cr f,xW!,DS X own bd st q1,xX!,.Assign [cK!] e pos,xY!,bB eY eZ bk! aB,xZ!,aD (I4_ av!) (aD cM! aI),x0!,(by rw[MZ h];rfl),x1!,λj d q n=>?_,x2!,λz=>C6_ z.symm du,x3!,bB nH nI bk! aB,x4!,(λb u e=>by rw[bD (hG e)];exact Iv! e),x5!,.nx (JU! (ds++[d])),x6!,(∀b,b≠f->b≠p->M' b=M b),x7!,(K.f _).symm.trans km,x8!,bA nd χ d! a2!,x9!,DE X own ix fx]
def z'xx:String:=z [xa_,∀i j H,Dj! bs! (gv i j),xb_,k _ G H aA_ (hg _ _ G),xc_,Bd 1 [0,3] (Gu (Eu dZ!)) q_ d5! (Ak 3 (Kk t) (Ab p! (Ab A! aG!))),xd_,λ_ j=>decide (0<j),xe_,Aw (w2 (λ_=>FA θ) (Jk_ Ks (wl (fC vC_))) hg_),xf_,Bd 1 [] jr! q_ d5! (wl dY_),xg_,.bl (Rk i j),xh_,f1 BI (Kr! S! xh!),xi_,List.range K,xj_,Am 4 (Bd 1 [1] jr! q_ (Kr_ (Ca hg!) (w2 d4_ (wl gN!) jW_)) (wl nj_)),xk_,s4.trans hm!,xl_,As xl! (Am 5 oH_) Bf,xm_,Hw (wT (Fd ay_ (wl az!) hg_)),xn_,fT (f2 Ya (Ev! az!) (Ev! Y!)),xo_,aT (jA T) b_ χ oJ_ O_,xp_,Am 2 (wl (f2 Ai wf! (f2 Dy (I3_ (fC (.int 59))) ae_))),xq_,aT (iZ T) b_ χ (aD fs! aI) O_,xr_,aT (iZ T) b_ χ aH! O_,xs_,Ac k! (Ac (DH_ 61) Af),xt_,Gu (Eu (f2 Dy (f1 Bn xs_) op_)),xu_,fN uY vE v! cV n_,xv_,Am 8 (wl (f2 At (f2 Dy (I3_ (f2 An (fC (.int 30)) Y!)) aV_) z_)),xw_,#[_,χ,do_],xx_,Am 11 (Ak 3 Pb (Ab p! (Kt_ A! (Bg xx!)))),xy_,Fe (Ac (Aa 11) Af),xz_,.builtin "all",xA_,wT (w2 Qa (Ak 2 (Qg t) (Dm! aM_ xA!)) (Ak 1 Co af!)),xB_,(∀d,ds[i]?=ψ d->af.go i H'/\∀x gh,af.yld i H' x gh->∃td,Bo G' H' td gh/\Ap KF td d x),xC_,Am 6 (Ak 1 Fk af!),xD_,wl (IS! bu!),xE_,#[dp!,λhi=>GU_ vs r],xF_,aG (IR! T.Y4 ci_),xG_,wT (Jx! Dz xD_),xH_,As xG_ cg_ Bf,xI_,Aw (EM! Mp (Ab aM_ af!)),xJ_,[J_,uv!,bd_,"behind","text"],xK_,[bL_,jS!,"_law_many"],xL_,[cg!,a0!,on_],xM_,[aE_,dc!,eZ!],xN_,.ref t.NotThere,xO_,.ref t.Nothing,xP_,bF Y_ bR hn_ aU n_,xQ_,dD (aD aO! oJ_),xR_,#[cS (by rw[<-aK a9];omega),?_],xS_,DC X.K [] ft,xT_,b2a c9 df k8 iy cap calm ay.ok hg hi xT! hs,xU_,Bq.cons (j:=0) oV_,xV_,(k'.map e_).Nodup,xW_,aT ho_ b_ χ (Do_ v! xN!) au!,xX_,uU hN hi hx h.ok hs hf,xY_,eJ (n:=19) χ,xZ_,#[G',ρ,r,er.grow x',e2,k],x0_,s.or.sub.trans xu,x1_,#[_,mup_same],x2_,h.fr b b1 b2,x3_,bB eY eZ x3! aB,x4_,λ_ _ _=>χ,x5_,[e].length+(dj_).length+d7!<30,x6_,.Call (D1! bk_ "append") [e] [] ah,x7_,cU h.ok eO hst,x8_,ρ.set i (yJ_ (ds.set k d)),x9_,.Subscript bk_ ix p2]
def z'y:String:=z [yK!,World,yM!,Program,yU!,Shared,ya!,(by simpa using K2),yb!,λiv G2 H2 x2 r2=>?_,yc!,bF bV! vD E_ am_ n_,yd!,Bo G0 F0 G1 H1,ye!,u'++[ds!]++v,yf!,λvs H Q E h=>h.1,yg!,J aj A outer s H E hr,yh!,uP I xs ys vs n n' rr b7,yi!,#[_,h.mem.mpr W_,χ],yj!,es.getD j .non,yk!,aE bC_ (F2! aO_ ci_),yl!,bA nd χ d! yk_,ym!,(by rw[MX,MX,<-h3,<-h4,<-Y,<-h2];simpa using hl),yn!,a4i I _ _ _ n n' r r',yo!,A.units+Ir d<cLine,yp!,Gs g g' fa fb fc,yq!,#[bb,χ,?_],yr!,oq.trans (s4.trans s5),ys!,.bl (Ja_ x),yt!,λhb s Z H Q I h=>?_,yu!,oF hy_ (ad (.dir τ)) (ad (.dir θ)) (ad .nums) pl! (ad .hid),yv!,cG cR eK χ T.T5 eA fu_,yw!,bB uW vC au_ aB,yx!,Ok X.prog X.w X.K X.mg X.base k x ps g,yy!,λi _=>i<ku_,yz!,x.cps.toList.map λc=>.str H_,yA!,#[(PX.mp hc).1,λv gh hy=>?_],yB!,λi h=>i<=ku_/\gn i h,yC!,λ_ _ _ _ _=>Ju_ (Dt! [bt_,dc!]),yD!,I1.kept λb o e=>MJ _ e,yE!,aM aH aL (DE_ cM! aB) aB o!,yF!,.str (He_ z),yG!,h.inj _ _ l' hd z,yH!,(by rw[e1];exact J),yI!,s.heap.IsTuple tt xs,yJ!,∀c,O c->M' c=M c,yL!,bI (sc:=Aj Pm) χ c_,yN!,.bl (decide (Gy W x)),yO!,wpAny_handled ?_,yP!,.bl (decide ky_),yQ!,((ek_).extBut.push _).push _,yR!,.inr (.inr #[eD!,χ]),yS!,ys[k2]?=ψ y,yT!,(λfin s'=>∃v,fin=.done (.ret v)/\Q v s'),yV!,QG gz b! λY mv cm=>?_,yW!,jb.extBut cm.extBut D.l1z,yX!,cm.extBut _ _ D.TOz gO,yY!,QV tz χ ?_,yZ!,cJ (cJ (cJ g2 cm.extBut D.i2z) bp.extBut D.i12.symm) d8.extBut D.TOi2.symm,y0!,pM w! (iR ci_ ci_ vK),y1!,d8.extBut _ _ D.TOz.symm (Fm_ D.i1z.symm mv),y2!,rawInt h5.objs.size,y3!,(∀p,a2_∉W.rows),y4!,λz=>r1 (q.mpr z),y5!,kI (dR (C2! mI aH!)),y6!,#[_,gz,χ],y7!,F.args_zip_next_1 _,y8!,(fG!).set p.toNat dT_,y9!,HG s.heap l1]
def z'yy:String:=z [ya_,kW hN xv hd bw,yb_,(x.trans x2).h _ _ h3,yc_,λi hi p e=>?_,yd_,(by simp[ha,J,hc]),ye_,Zv KF x qual st ag fd,yf_,F.ok S yf! (λaj A outer s H vs Q E hr h=>?_),yg_,#[er,Bo.refl sub,at!],yh_,(by delta Bc at h;exact h),yi_,ds.getD j .non,yj_,aE bC_ (aE bC_ aN),yk_,cH Z! bM bj_ bC_ o!,yl_,(Eo_ (min us.toArray.size pc_)).all (λj=>Ej yi_ yj!)&&pc!==pc_,ym_,if y=n then[]else W.txt y,yn_,if x=n then[.int 0,.int 0,.int 0,.int 0]else W.num x,yo_,#[dx,dy,rx.mono sub,ry.mono sub,h.1.1,h.1.2,h.2,ef!],yp_,#[G,ρ,x,er,e1,λv G1 H1 s1 r1=>#[G1,ρ,y,dn_,e2,λw G2 H2 s2 r2=>hg s2.sub hj! r2 e3 λt G3 H3 s3 r3=>?_]],yq_,(r2.mono s3.g).mono s4.g,yr_,("numbers",.fn a4),ys_,L2.Key×Value,yt_,ha.ok hb s Z H _ I h,yu_,oR nd χ d! aI,yv_,c1w (k:=HR! z) r1,yw_,aM aH aL (rR a_ yw! o!) aB o!,yx_,Addr->Da_ pn!,yy_,λi _=>ku_<=i,yz_,#[by rw[s];exact NW ty.1 hB,by rw[s];exact ty.2],yA_,∀i h,gn i h->∃o,h.get? it=ψ o/\∀v,o.data≠.cell v,yB_,bA nd χ d! (yL_ oI bD!),yC_,λ_ _ _ _ _=>(aC fs!),yD_,λi h st=>ZG _ i h st,yE_,ys.map V.str,yF_,starEach [a] X.env,yG_,λw G2 H2 s2 r2=>?_,yH_,s.heap.IsTupleIter jt tt n,yI_,Builtin.SmallTypes.nextOf (.ref jt),yM_,Obj.cls_mapFields ..,yN_,(by first|rfl|(dsimp only[firstArgMember];rfl)),yO_,show A.in1.handled=υ from hh,yP_,MH (wpAny_throw ?_),yQ_,(λz=>by rw[z]),yR_,xs[k1]?=ψ x,yS_,Builtin.«zip.__next__» #[[.ref z],[]],yV_,cJ g1 cm.extBut D.i1z,yW_,a0y yV_ yW! gx λh2 ZH bp=>MH ?_,yX_,XA tz λh3 vq d8=>?_,yY_,mup_ne (NY p2),yZ_,((jl.extBut cm.extBut D.l2z).extBut bp.extBut D.l2i1).extBut d8.extBut D.l2TO,y0_,wpAny_newTuple ?_,y1_,∀a p,(a,p)∈W.rows->rk p<rk a,y2_,fN Y_ bR hn_ aU n_,y3_,#[_,χ,?_],y4_,xs[k1]?=υ\/ys[k2]?=υ,y5_,cm.extBut _ _ c1 x,y6_,bA nd χ d! (aC (IR_ au_)),y7_,F.entry_zip_next,y8_,aC (fN kY lD E_ cV n_),y9_,HF s.heap l1 l2,yJ_,ψ (.lst ζ),yK_,s.heap.get? ζ,yL_,aQ (ζ T) b_ χ η,yT_,Ay t ζ yy a ta wa .non,yU_,bI (sc:=Aj ζ) χ c_]
def z'z:String:=z [zA!,W.Frag,za!,HE s.heap l1 l2,zb!,if x=i then l else W.txt x,zc!,I.step pw! (λc o _ _ hc e _=>kp c o hc e) (λc o _ _ hc e _=>#[o.slots,kp c o hc e]) rL! (λc o hc e=>#[o,kp c o hc e]) rL_ rM! (λc ps e=>me!) rM_ pw_ I.bare,zd!,#[o,es,ep,HF! kp hf,r],ze!,λ_ e'=>e',zf!,.tup [hH_,hI!],zg!,λc o _ _ _ e _=>e,zh!,λc o hc e n=>?_,zi!,mup M (ad .hid) (.dct (Bp k6 hJ! v_) (Ia k6 hJ! e6)),zj!,(λc o u e=>by rw[pz!];exact e),zk!,λc ps e=>EX! pz! e,zl!,I1.hok c o e,zm!,(by rw[show B+(js.length+1)=B+1+js.length by omega];simpa using h'),zn!,cH Z! bM kH! s_ o!,zo!,bootBuiltins "zip"=ψ pu!,zp!,starEach [b] X.env,zq!,.Call (.Name "zip" p) O! [] pos,zr!,∀x∈W.its,s∉Dc_ bB_,zs!,(by rw[hl];exact z),zt!,#[q,.inl z,h],zu!,#[G,ρ,_,er,e1,λv G1 H1 s1 r1=>#[G1,ρ,_,dn_,e2,yG_]],zv!,[aI!,ap_,.int (k':δ)],zw!,bL T.V9 T.Y4 l!,zx!,aQ (jT T) b_ χ bD!,zy!,.int (k0:δ),zz!,hI.inj _ _ l hi z,zB!,(D.tup kN_,D.str H_,τ),zC!,W.fnOf x x jJ! bx_ bg_ .none kV bt pm an aj ct,zD!,KF.lookup f=El_ zC!,zE!,∀(kV bt pm:Value) (an:dk!) (aj ct:Value) (us:o_),aw!=ab!->GC_ zC!=pure da_,zF!,if i∈W.its then setT W i (wrT b hM! cR!)else W,zG!,λ_ _ _ _ _=>Ju_ (Dt! [ac!,J_]),zH!,(λz=>by simp at z),zI!,Sum.inr.inj z,zJ!,∀q,N q->M (bg q)=υ,zK!,fs.map Value.ref,zL!,(λxs H Q=>(∃i,xs=c7_/\c8_<1920/\Q m5! H)\/∃z,xs=[.str z]/\Q (.str z) H),zM!,Aa 0 ρ=ψ ky!,zN!,m1 _ (h.lv (q:=.ob) ο),zO!,bI (sc:=Aj Ni) χ c_,zP!,Il z y (aY!+1),zQ!,(decide (aY!<am!)||decide (EH_ z<EH_ y)),zR!,m1 _ (h.lv l),zS!,(by rw[MV];exact hs),zT!,Builtin.Str.occurrences z y 0 z.length kT!,zU!,attributeBase o "split" X.env cy_=Dk_ o,zV!,(by rw[<-z.1,<-z.2];exact l),zW!,#[F!,F!,F!],zX!,starEach (b::[]) X.env=iN!::Fa! X.env,zY!,(show v=.none from hx),zZ!,(λ(r:Fl) (M':Mh)=>match r with|.rt d=>R d M'|.nx _=>Ed_ M'),z0!,jK (vI hX T.W9 hr.hd χ T.W7 aO_),z1!,VF hT TB.lookup ?_,z2!,bI (sc:=Aj Rq) χ c_,z3!,(((({Ky W with pr:=λa p=>((bm!).pr a p/\a≠n)\/(a=n/\p=pl)}:Ix).sl pl τ (Lr n b z2_)).nw n τ).nw n θ).nn n fM_,z4!,s.heap.get? d=ψ o,z5!,λ_=>Iff.rfl,z6!,#[χ,χ,λ_=>hr.hd,nd,χ,χ,F!,χ,χ,χ,T.W5,T.X0],z7!,MZ λz=>c1 z.1,z8!,(λz=>by cases z;exact .inr ae!),z9!,aE l! (aE fz_ aN)]
def z'zz:String:=z [za_,cE (gK T) b_ l! fG_,zb_,bL T.W3 T.X8 l!,zc_,Ky (setT W i l'),zd_,λd o' hd e'=>kp d o' (λhm=>?_) e',ze_,[z,TI,TO,i1,i2],zf_,g++[.tup hI_],zg_,λc o _ _ _ e _=>vi_,zh_,λc o _ e=>#[o,e],zi_,setT W i (cutT zf_ cR!),zj_,(λc xs e=>by rw[pz!];exact e),zk_,a8r χ (kG aP_ (kG aP_ a0k)),zl_,(λd q=>by rw[pz_];exact q),zm_,(pA_).map λk=>z+cW!,zn_,X.mg "zip"=υ,zo_,starEach O! X.env=dP!::C7_ [b],zp_,(JV_ zp!).any e_=θ,zq_,cH Z! bM zb_ s_ o!,zr_,p.mem_iff.mp hq,zs_,(bm!).sl i θ l,zt_,cU ha.ok (cU J.ok eO bp) hs,zu_,(λx y H Q=>Se (λi j=>.bl mX!) x y H Q\/∃i j,x=.str i/\y=.str j/\Q xg_ H),zv_,setT W i (U++(pB_).map en_++v),zw_,#[_,_,_,χ],zx_,.fn (ad (.row i θ)),zy_,bA nd χ d! zx!,zz_,mup M1 pl! (.dct (Bp k5 bX_ cD_) (Ia k5 bX_ e5)),zB_,W.nsIn KF mainGlobals x=ψ dU!,zC_,setT W i (U++pG!::v),zD_,W.codeIn KF aj x=τ,zE_,(by rw[hl,NV];exact NM _ z),zF_,rows.map (DN w),zG_,(Sum.inr r.1:L2.Key)=HR! y,zH_,fo ρ=ψ ag_,zI_,∀q,Jd V' q->Jd V q\/N q,zJ_,fs.map V.ref,zK_,aZ nd χ aG_,zL_,(λxs H Q=>∃z n,xs=[.str z]/\FO_ z=ψ n/\aY!<=640/\Q dT_ H),zM_,Aa 1 ρ=ψ x,zN_,(by cases b<;>rfl),zO_,(by rw[z]at l;exact l),zP_,q=.row x b\/q=.fol x b\/q=.pre x b,zQ_,old .ob ο,zR_,Builtin.Str.occurrences z y 0 z.length (aY!+1),zS_,λ_ _ _ _ _=>Ju_ (show(bd!:μ Str).Nodup by decide+kernel),zT_,(V.sl x b []).ls x b,zU_,.Attribute o "split" ax,zV_,(by simpa using hl.1),zW_,starEach (a::[b]) X.env=dP!::C7_ [b],zX_,hy.resolve_right c,zY_,aQ (nJ T) b_ χ (aE kN! aN),zZ_,[du_,bB!,ψ a,dw_,ψ pl],z0_,(by rw[a4p];let:=r1.2;omega),z1_,Ld ks k=ψ j,z2_,chl W.rows pl,z3_,Mx P w s.heap es ks,z4_,o.data=HR_ es,z5_,dictWalkPlain d u dy_ es kV_,z6_,(by simpa using hne),z7_,hg.chl_same w.rnd,z8_,λe=>hh (by rw[q3,e];simp),z9_,ks[i]?=ψ k',zA_,p ζ η a_ χ χ]
end
def z'L(t:String):List String:=let c:=t.back;if c=='!'||c=='_'||"ψχυτθινμξοδ".contains c then (let b:=c=='!';if t.length<3 then if b then z'0 else z'00 else match t.front with|'a'=>if b then z'a else z'aa|'b'=>if b then z'b else z'bb|'c'=>if b then z'c else z'cc|'d'=>if b then z'd else z'dd|'e'=>if b then z'e else z'ee|'f'=>if b then z'f else z'ff|'g'=>if b then z'g else z'gg|'h'=>if b then z'h else z'hh|'i'=>if b then z'i else z'ii|'j'=>if b then z'j else z'jj|'k'=>if b then z'k else z'kk|'l'=>if b then z'l else z'll|'m'=>if b then z'm else z'mm|'n'=>if b then z'n else z'nn|'o'=>if b then z'o else z'oo|'p'=>if b then z'p else z'pp|'q'=>if b then z'q else z'qq|'r'=>if b then z'r else z'rr|'s'=>if b then z's else z'ss|'t'=>if b then z't else z'tt|'u'=>if b then z'u else z'uu|'v'=>if b then z'v else z'vv|'w'=>if b then z'w else z'ww|'x'=>if b then z'x else z'xx|'y'=>if b then z'y else z'yy|'z'=>if b then z'z else z'zz|_=>if b then z'0 else z'00).splitOn ("\r"++t++"\r") else []
open Lean in
def z'S(a:Array Syntax):Nat->Syntax->Syntax
|n+1,.node i k b=>.node i k (b.map (z'S a n))
|_,s=>let v:=s.getId;if v== `ζ then a[0]! else if v== `η then a[1]! else s
open Lean in
local macro_rules|`($s:ident)=>match s.getId with|.str .anonymous t=>(match z'L t with|[_,f]=>do return z'Z (.fromRef (<-getRef)) f|_=>Macro.throwUnsupported)|_=>Macro.throwUnsupported
open Lean in
local macro_rules(kind:=Lean.Parser.Term.app)|x=>match x[0].getId with|.str .anonymous t=>(match z'L t with|[_,f]=>do let g:=(f.takeWhile (·≠'\r')).toString;let p:=λs=>(g.splitOn s).length>1;let n:=if p "\niη\n" then 2 else if p "\niζ\n" then 1 else 0;let a:=x[1].getArgs;let s:=z'S a 999 (z'Z (.fromRef (<-getRef)) f);let r:=a.extract n a.size;let k:=``Parser.Term.app;return if a.size==n then s else .node .none k (if s.isOfKind k then #[s[0],mkNullNode (s[1].getArgs++r)] else #[s,mkNullNode r])|_=>Macro.throwUnsupported)|_=>Macro.throwUnsupported
open Lean in
local macro_rules|`(tactic|push_cast)=>`(tactic|show"pc!")|`(tactic|push_cast[$x,*])=>match z't't.splitOn "\rpc!\r" with|[_,f]=>do let s:=(z'Z (.fromRef (<-getRef)) f)[1][1][0][0][0];return s.setArg 4 (s[4].setArg 1 (mkNullNode (s[4][1].getArgs.push (mkAtom ",")++x.elemsAndSeps)))|_=>Macro.throwUnsupported
open Lean in
local macro_rules|`(tactic|show$s:str)=>match z't't.splitOn ("\r"++s.getString++"\r") with|[_,f]=>do let q:=z'Z (.fromRef (<-getRef)) f;let q:TSyntax ``Lean.Parser.Tactic.tacticSeq:=⟨q[1][1]⟩;`(tactic|($q))|_=>Macro.throwUnsupported
set_option hygiene true
open Lean in
def z'P:Nat->Syntax->Syntax
|n+1,s=>let k:=s.getKind;if k== `«term#[_,]» then .node .none ``Parser.Tactic.rcasesPat.tuple #[mkAtom "⟨",.node .none `null (s[1].getArgs.mapIdx λi x=>if i%2==1 then x else .node .none ``Parser.Tactic.rcasesPatLo #[.node .none ``Parser.Tactic.rcasesPatMed #[.node .none `null #[z'P n x]],.node .none `null #[]]),mkAtom "⟩"] else if s.isIdent then .node .none ``Parser.Tactic.rcasesPat.one #[s] else if k==``Parser.Term.hole then .node .none ``Parser.Tactic.rcasesPat.ignore #[mkAtom "_"] else s
|_,s=>s
open Lean in
local macro_rules(kind:=Lean.Parser.Command.declaration)|x=>if x.getPos?.isNone||x[1].isOfKind ``Parser.Command.theorem then Macro.throwUnsupported else let m:=(x[0].reprint.getD "").trimAscii.toString;let p:=m=="protected"||(x.find? (·.isOfKind ``Parser.Tactic.renameI)).isSome;let N:=z'N (!p) 9999;let k:=N x[1];let u:=match k[1][0].getId with|.str _ s=>s.front.isUpper|_=>false;match k.isOfKind ``Parser.Command.definition&&(m=="protected"||m==""||m=="nonrec"),u||m=="nonrec" with|true,false=>do let d<-`(theorem $(⟨k[1]⟩):declId $(⟨.node .none ``Parser.Command.declSig #[k[2][0],k[2][1][0]]⟩):declSig $(⟨k[3]⟩):declVal);if p then return N (<-`(set_option tactic.hygienic true in $d:command)) else return N d|true,_=>do return N (<-`(noncomputable def $(⟨k[1]⟩):declId $(⟨k[2]⟩):optDeclSig $(⟨k[3]⟩):declVal))|_,_=>return N x
open Lean in
local macro_rules|`(universe $x*)=>do let p:=`PySem.Challenge;let c:=p.str "cw_manyhands_k23_own_undoing_holds";return mkNullNode (<-(p.str "pw_manyhands_k23_own_undoing"::x.toList.map (λi=>c.str i.getId.toString)++(List.range 986).map λn=>c.str s!"o_{n+43}").toArray.mapM λn=>do return z'N false 99 (<-`(noncomputable def $(mkIdent (PySem.W.Fast.stemOf n).1):ident:=0)))
universe env_41 heap_1029 heap_39 heap_46 sts_109 sts_124 sts_139 sts_182 sts_238 sts_284 sts_335 sts_49 sts_537 sts_574 sts_632 sts_64 sts_719 sts_79 sts_800 sts_880 sts_94 sts_959 tree_1028 tree_108 tree_123 tree_138 tree_181 tree_237 tree_281 tree_334 tree_451 tree_47 tree_533 tree_573 tree_63 tree_631 tree_718 tree_78 tree_799 tree_879 tree_93 tree_958 view_39
local macro_rules|`(tactic|omega)=>`(tactic|first|lia|omega +splitDisjunctions)
theorem z'Hd{G:Prop}(h:∀g:Prop,(G->g)->g):G:=h G λx=>x
set_option hygiene false in
local macro_rules|`(tactic|obtain $p:rcasesPatMed:=$e:term)=>do let s:=p.raw.reprint.getD "";if (s.splitOn ",").length>2+(s.splitOn "rfl").length then `(tactic|first|(refine z'Hd λz'g z'k=>?_;rcases $e:term with $p:rcasesPatMed<;>refine z'k ?_<;>clear z'g z'k)|rcases $e:term with $p:rcasesPatMed) else `(tactic|rcases $e:term with $p:rcasesPatMed)
open Lean in
local macro_rules|`(tactic|rintro $x:rintroPat*)=>let l:=x.back!.raw[0];let p:TSyntax `rcasesPat:=⟨l⟩;if l.isOfKind ``Parser.Tactic.rcasesPat.tuple&&((l.reprint.getD "").splitOn ",").length>3 then `(tactic|(rintro $(x.pop):rintroPat* z';obtain $p:rcasesPat:=z')) else Macro.throwUnsupported
set_option hygiene false in
local macro_rules|`(tactic|rcases $x:term)=>`(tactic|first|exact d9i $x rfl|exact cne $x rfl|exact cneB $x rfl|exact d9j $x rfl|obtain rfl:=Option.some.inj $x|subst $x)
set_option tactic.hygienic false
open Lean in
local macro_rules(kind:=Lean.Parser.Tactic.tacticLet__)|x=>let d:=x[2][0];if x[1][0].getNumArgs>0 then Macro.throwUnsupported else if d.isOfKind ``Parser.Term.letPatDecl then let q:TSyntax `rcasesPat:=⟨z'P 99 d[0]⟩;let e:TSyntax `term:=⟨d[4]⟩;`(tactic|obtain $q:rcasesPat:=$e) else return .node .none ``Parser.Tactic.tacticHave__ #[mkAtom "have",x[1],x[2]]
local macro_rules|`(#[$y,$x,*])=>`(⟨$y,$x,*⟩)|`(#[$y])=>`(⟨$y⟩)
local macro_rules|`(tactic|exact $t)=>`(tactic|refine $t)
local macro_rules|`(tactic|delta $x* $[$l]?)=>`(tactic|unfold $x* $[$l]?)
local macro_rules|`(tactic|simp![$x,*]$[$l:location]?)=>`(tactic|simp only[$x,*]$[$l:location]?)
noncomputable section
namespace L2
def d9i{P:ν}{x y:Da_ α}(h:x=y)(e:(x.isSome==y.isSome)=θ):P:=by subst h;rw[ON]at e;cases e
def d9j{P:ν}{x y:W!}(h:x=y)(e:(x.isEmpty==y.isEmpty)=θ):P:=by subst h;rw[ON]at e;cases e
open PySem PySem.Spec PyProof.Rows
abbrev Key:=Sum Int Str
def Qc:Key->Value->Bool
 |.inl k,v=>Value.isInt k v
 |.inr x,v=>Value.isStrOf x v
def GK(w:yK!):Key->Int
 |.inl k=>hashInt k
 |.inr x=>hashStr w x
def bX:∀{k:Key} {v:v5!},Qc k v=τ->(∃i t,k=Sum.inl i/\v=Value.int i t)\/(∃x t,k=Sum.inr x/\v=Value.str x t)
 |.inl i,v,h=>by
  let#[t,e]:=Value.isInt_shape (k:=i) (v:=v) h;exact .inl #[i,t,χ,e]
 |.inr x,v,h=>by
  let#[t,e]:=Value.isStrOf_shape (x:=x) (v:=v) h;exact .inr #[x,t,χ,e]
def yZ(i:Int)(t:Tok):Qc (.inl i) dI!=true:=by simp[Qc,Value.isInt]
def rE(x:Str)(t:Tok):Qc (.inr x) ga!=true:=by simp[Qc,Value.isStrOf]
def d3j(a b:Int):decide (lX!=Sum.inl b)=(a==b):=by
 by_cases e:a=b
 .subst e;simp
 .let h:¬lX!=Sum.inl b:=λq=>e (Sum.inl.inj q);rw[NA h];exact(OJ.mpr e).symm
def d3g(a b:Str):decide (lX_=HR! b)=decide (a=b):=by
 by_cases e:a=b
 .subst e;simp
 .let h:¬lX_=Sum.inr b:=λq=>e (Sum.inr.inj q);rw[NA h,NA e]
def d3i(a:Int)(b:Str):decide (lX!=HR! b)=false:=NA rd!
def d3h(a:Str)(b:Int):decide (lX_=Sum.inl b)=false:=NA rd!
nonrec def mixKind(prog:yM!)(w:yK!):PySem.KeyKind prog w Key where
 is:=Qc
 hash:=GK w
 inj:=λv a b ha J=>by
  obtain⟨i,t,rfl,rfl⟩|⟨x,t,rfl,rfl⟩:=bX ha
  .obtain⟨j,u,rfl,e⟩|⟨y,u,rfl,e⟩:=bX J
   .injection e with e1 _;rw[e1]
   .exact lY!
  .obtain⟨j,u,rfl,e⟩|⟨y,u,rfl,e⟩:=bX J
   .exact lY!
   .injection e with e1 _;rw[e1]
 byValue:=λk v h=>by
  obtain⟨i,t,rfl,rfl⟩|⟨x,t,rfl,rfl⟩:=bX h<;>rfl
 pyHash:=λhv h=>by
  obtain⟨i,t,rfl,rfl⟩|⟨x,t,rfl,rfl⟩:=bX hv
  .exact wpAny_pyHash_int h
  .exact wpAny_pyHash_str h
 eqBool:=λhu hv h=>by
  obtain⟨i,t,rfl,rfl⟩|⟨x,t,rfl,rfl⟩:=bX hu
  .obtain⟨j,u,rfl,rfl⟩|⟨y,u,rfl,rfl⟩:=bX hv
   .rw[d3j]at h;exact wpAny_eqBool_int h
   .rw[d3i]at h;exact SeqAt.EqAt.int_str i t y u _ _ _ _ h
  .obtain⟨j,u,rfl,rfl⟩|⟨y,u,rfl,rfl⟩:=bX hv
   .rw[d3h]at h;exact SeqAt.EqAt.str_int x t j u _ _ _ _ h
   .rw[d3g]at h;exact wpAny_eqBool_str h
 «strs»:=λk x t v h=>by
  obtain⟨i,u,rfl,e⟩|⟨y,u,rfl,e⟩:=bX h
  .exact lY!
  .injection e with e1 _
   subst e1;cases v<;>rfl
def a5o(prog:yM!)(w:yK!)(i:Int)(t:Tok):(rd_).is (.inl i) dI!=true:=yZ i t
def mP(prog:yM!)(w:yK!)(x:Str)(t:Tok):(rd_).is (.inr x) ga!=true:=rE x t
inductive V where
 |non|bl (b:Bool)|int (i:Int)|str (x:Str)|byt (b:Array UInt8)|flt (b:UInt64)|ref (a:sw!)|ty (n:String)
 deriving DecidableEq
def Bj:V->Value->ν
 |.non,u=>u=dI_
 |.bl b,u=>u=Value.bool b
 |.int i,u=>∃t,u=Value.int i t
 |.str x,u=>∃t,u=Value.str x t
 |.byt b,u=>∃t,u=Value.bytes b t
 |.flt b,u=>∃t,u=Value.float b t
 |.ref a,u=>u=Value.ref a
 |.ty n,u=>u=Gp! n
abbrev Ax:μ V->μ Value->Prop:=Ea_ Bj
def Ax.length(r:dJ!):i!=aw!:=TR r
def Ax.get:∀{xs:t_} {us:o_} {i:δ} {x:V},Ax xs us->xs[i]?=ψ x->∃u,us[i]?=ψ u/\Bj x u
 |_,_,_,_,.nil,e=>by simp at e
 |_,_,0,_,.cons r _,e=>by simp at e;subst e;exact lZ!
 |_,_,i+1,x,.cons _ t,e=>by
  let#[u,Y,h2]:=Ax.get (i:=i) (x:=x) t cY_;exact re_
def Ax.set(r:Bj x u):∀{xs:t_} {us:o_} (i:δ),Ax xs us->Ax (xs.set i x) (us.set i u)
 |_,_,_,.nil=>.nil
 |_,_,0,.cons _ t=>.cons r t
 |_,_,i+1,.cons q t=>.cons q (Ax.set r i t)
def Ax.append(h:dJ!)(s:Ax ys ws):Ax eC! (us++ws):=by
 induction h with
 |nil=>exact s
 |cons r _ ih=>exact F5_ r
def Ax.take:∀{xs:t_} {us:o_} (n:δ),Ax xs us->Ax (xs.take n) (us.take n)
 |_,_,0,_=>.nil
 |_,_,_+1,.nil=>.nil
 |_,_,n+1,.cons r t=>.cons r (Ax.take n t)
def Ax.drop:∀{xs:t_} {us:o_} (n:δ),Ax xs us->Ax (xs.drop n) (us.drop n)
 |_,_,0,r=>r
 |_,_,_+1,.nil=>.nil
 |_,_,n+1,.cons _ t=>Ax.drop n t
def Mw:ι V->Da_ Value->ν
 |some v,some u=>Bj v u
 |none,none=>True
 |_,_=>False
def KV:HE! κ V->HE! κ Value->Prop:=Paired λ(p:κ×V) (q:κ×Value)=>p.1=q.1/\Bj p.2 q.2
nonrec def kV:Key->V
 |.inl i=>.int i
 |.inr x=>.str x
inductive HO where
 |lst (xs:t_)
 |tup (xs:t_)
 |dK (h1:HE! Key V)|dT (h1:μ l0!)
 |set (S:Int->Bool) (n:δ)
 |ins (C dx:sw!) (fs:μ cZ_)
 |own (x:sw!)
 |xd (fs:μ cZ_)
 |met (f x:sw!)
 |rng (lo hi:Int)
 |frz (o:Obj) (u:HO)
 |tbl (ps:bp_)
 |ext (φ:Heap->Prop)
abbrev Hp:=Addr->Da_ HO
nonrec def upd(H:Hp)(a:sw!)(o:HO):Hp:=λb=>if b=a then ψ o else H b
def cC:KI_ o a=ψ o:=by delta upd;rw[y_]
def bD(h:b≠a):KI_ o b=H b:=by delta upd;rw[MZ h]
def cN{H:Hp}(h:H a=ψ o)(h':H b=υ):a≠b:=by intro e;subst e;rw[h]at h';rcases h'
section
variable(P:yM!)(w:yK!)
def Eb(H:Hp)(h:Heap)(a:sw!):HO->ν
 |.lst xs=>i!<=sizeLine/\∃(its:o_) (n:δ),G2_ xs/\h.get? a=ψ {cls:=.type "list",data:=Dz_ n}
 |.tup xs=>i!<=sizeLine/\∃its:List Value,G2_ xs/\IsTup h a ak_
 |.dK h1=>aw_<=sizeLine/\dJ_=θ/\∃vs,KV h1 vs/\h.DictOf bq! a vs
 |.dT h1=>aw_<=sizeLine/\dJ_=θ/\∃xs:List l0_,
   Paired (λ(p:List Key×V) (q:List Key×Addr×Value)=>p.1=q.1/\H q.2.1=ψ rk_/\Bj p.2 q.2.2) h1 xs/\
   ∃o es ep,h.get? a=ψ o/\im_/\o.data=HR_ es/\es.toList=xs.map (entryOfKey ga_)/\(xs.map e_).Nodup
 |.set S n=>h.SetOf (intKind P w) a S n
 |.ins C dx fs=>H dx=ψ gb!/\bq_<=1000/\dx≠a/\h.get? a=ψ l1!/\
   ∃mA,h.Ns1 dx mA/\rl_/\G3! l1_
 |.own _=>∃o,h.get? a=ψ o
 |.xd fs=>∃mA,h.Ns1 a mA/\∀f,Mw (DU! f) (mA f)
 |.rng lo hi=>∃t u v,h.get? a=ψ {cls:=.type "range",data:=Dl_ t}
 |.frz o u=>h.get? a=ψ o/\Eb H h a u
 |.tbl ps=>h.get? a=ψ {cls:=.none,data:=Fs! ps}
 |.met f x=>h.get? a=ψ (W.methodObj ad_ gb_)
 |.ext φ=>φ h/\(∃o,h.get? a=ψ o)/\∀Y h2:Heap,φ Y->(∀o,Y.get? a=ψ o->h2.get? a=ψ o)->φ h2
def Ko(H:Hp)(h:Heap):Prop:=∀a o,H a=ψ o->IT! H h o
end
section
variable{P:yM!}{w:yK!}{H H':Hp}{h h':Heap}{a:sw!}{o:HO}
def Eb.lt(x:l2!):a<b6!:=by
 cases o with
 |lst xs=>let#[_,_,_,_,e]:=x;exact NP e
 |tup xs=>let#[_,_,_,p]:=x;exact p.lt
 |dK h1=>let#[_,_,_,_,o,_,_,e,_]:=x;exact NP e
 |dT h1=>let#[_,_,_,_,o,_,_,e,_]:=x;exact NP e
 |set S n=>let#[o,_,_,_,e,_]:=x;exact NP e
 |ins C dx fs=>let#[_,_,_,e,_]:=x;exact NP e
 |own y=>let#[_,e]:=x;exact NP e
 |xd fs=>let#[_,#[_,_,_,e,_],_]:=x;exact NP e
 |rng lo hi=>let#[_,_,_,e]:=x;exact NP e
 |frz ob u=>let#[e,_]:=x;exact NP e
 |tbl ps=>exact NP in_
 |met f y=>exact NP in_
 |ext φ=>let#[_,#[_,e],_]:=x;exact NP e
def Paired.mapP{F G:α->β->ν}(h:E5! l₁ l₂)(f:∀a b,F a b->G a b):Paired G l₁ l₂:=by
 induction h with
 |nil=>exact .nil
 |cons r _ ih=>exact F5_ (f _ _ r)
def Eb.stay(x:l2!)(k:∀b u,(b=a\/H b=ψ gb!)->h.get? b=ψ u->Df! b=ψ u)
  (ho:∀b,H b=ψ gb!->H' b=ψ gb!)(ht:rn!):IT! H' h' o:=by
 induction o with
 |lst xs=>let#[z,its,n,r,e]:=x;exact#[z,its,n,r,bI!]
 |tup xs=>let#[z,its,r,ob,e,c]:=x;exact#[z,its,r,ob,bI!,c]
 |dK h1=>let#[z,y,vs,r,ob,es,ep,e,c]:=x;exact#[z,y,vs,r,ob,es,ep,bI!,c]
 |dT h1=>
  let#[z,y,xs,r,ob,es,ep,e,c]:=x;exact#[z,y,xs,Paired.mapP r λp q z=>#[z.1,ht _ _ z.2.1,z.2.2],ob,es,ep,bI!,c]
 |set S n=>let#[ob,es,ep,t,e,c]:=x;exact#[ob,es,ep,t,bI!,c]
 |ins C dx fs=>
  let#[d,z,ne,e,mA,#[od,es,ep,e2,c],r]:=x;exact#[ho _ d,z,ne,bI!,mA,#[od,es,ep,k _ _ (.inr d) e2,c],r]
 |own y=>let#[ob,e]:=x;exact#[ob,bI!]
 |xd fs=>let#[mA,#[od,es,ep,e,c],r]:=x;exact#[mA,#[od,es,ep,bI!,c],r]
 |rng lo hi=>let#[t,u,v,e]:=x;exact#[t,u,v,bI!]
 |frz ob u ih=>let#[e,q]:=x;exact#[bI!,ih q]
 |tbl ps=>
  let e:h.get? a=ψ {cls:=.none,data:=Fs! ps}:=x;show Df! a=ψ {cls:=.none,data:=Fs! ps};exact k a _ W_ e
 |met f y=>
  let e:h.get? a=ψ rq_:=x;show Df! a=ψ rq_;exact k a _ W_ e
 |ext φ=>let#[p,#[o,e],st]:=x;exact#[st _ _ p λo q=>k _ _ W_ q,#[o,bI!],st]
def Ko.lt(x:a8!)(e:H a=ψ o):a<b6!:=(x a o e).lt
def Ko.fresh(x:a8!)(e:b6!<=a):H a=none:=by
 cases q:H a with
 |none=>rfl
 |some u=>exact Jg! (x.lt q) e
def Ko.kept(x:a8!)(k:io_):Ko P w H h':=λa o e=>
 (x a o e).stay (λb u _ q=>k b u q) gc_ λ_ _ q=>q
def Ko.laid(x:a8!)(k:io_)(hp:b6!<=a)(new:IT! c0! h' o):Ko P w c0! h':=λb u e=>by
 let hn:=x.fresh hp;by_cases J:b=a
 .show"!x";exact new
 .rw[bD J]at e;exact(x b u e).stay (λc v _ q=>k c v q) (λc q=>by rw[gd!];exact q) λc xs q=>by rw[gd!];exact q
end
def Rd(H:Hp)(a:sw!)(u:HO):Prop:=H a=ψ u\/∃o,H a=ψ gd_
def Rd.ok(r:Rd H a u)(x:a8!):IT! H h u:=by
 obtain r|⟨o,r⟩:=r
 .exact x a u r
 .let#[_,q]:=x a _ r;exact q
def GX:Da_ HO->ν
 |some (.lst _)=>True
 |some (.dK _)=>True
 |some (.dT _)=>True
 |some (.set _ _)=>True
 |some (.ins _ _ _)=>True
 |some (.ext _)=>True
 |_=>False
section
variable{P:yM!}{w:yK!}{H:Hp}{h h':Heap}{x e:sw!}{o':HO}
def Ko.write(ok:a8!)(mu:GX (H x))(he:l4_)(k:rr!)(px:l5!)
  (new:Eb P w (upd H x o') h' x o'):Ko P w (upd H x o') h':=λb u q=>by
 let YG:∀c y,H c=ψ (.own y)->c≠x:=λc y r z=>by subst z;rw[r]at mu;exact mu
 let ntup:∀c xs,H c=ψ aK!->c≠x:=λc xs r z=>by subst z;rw[r]at mu;exact mu
 by_cases J:b=x
 .subst J;rw[cC]at q;rcases q;exact new
 .rw[bD J]at q;by_cases fq:b=e
  .let q':H b=ψ ip!:=by
    obtain z|z:=he
    .exact C6_ (fq.trans z) J
    .rw[fq];exact z
   rw[q]at q';rcases q';let#[v,hv]:=px;exact#[v,by rw[fq];exact hv]
  .exact(ok b u q).stay (λc v hc r=>k c v ?_ r) (λc r=>by rw[bD (YG c b r)];exact r) λc xs r=>by rw[bD (ntup c xs r)];exact r
   obtain rfl|hc:=hc
   .exact fq
   .rintro rfl;obtain z|z:=he
    .exact YG c b hc z
    .rw[hc]at z;cases z;exact J χ
end
structure Un(fs ex:aQ_)(H H':Hp)(h h':Heap):Prop where
 keep:∀b o,h.get? b=ψ o->H b=υ->b∉fs->b∉ex->Df! b=ψ o
 slot:∀b o,h.get? b=ψ o->H b=υ->b∈fs->b∉ex->∃sl,Df! b=ψ {o with slots:=sl}
 free:∀b o,h.get? b=ψ o->H b=υ->b∉ex->H' b=υ
 there:∀b o,h.get? b=ψ o->b∉ex->∃o',Df! b=ψ o'
 tups:∀b xs,H b=ψ aK!->H' b=ψ aK!
 frzs:∀b o u,H b=ψ gd_->H' b=ψ gd_
 tbls:∀b ps,H b=ψ (.tbl ps)->∃pz,H' b=ψ rs!
section
variable{fs fs' ex YH:List Addr}{H H1 H2:Hp}{h Y h2 h':Heap}{a x e:sw!}{o:HO}
def Un.any(u:rs_)(q:h.get? b=ψ ob)(n:H b=υ)(hx:b∉ex):∃sl,Y.get? b=ψ {ob with slots:=sl}:=by
 by_cases J:b∈fs
 .exact u.slot b ob q n J hx
 .exact#[ob.slots,u.keep b ob q n J hx]
def Un.kept(k:io_):Gy_ H h':=
 #[λb ob q _ _ _=>k b ob q,λb ob q _ _ _=>#[ob.slots,k b ob q],λ_ _ _ n _=>n,λb ob q _=>#[ob,k b ob q],λ_ _ q=>q,λ_ _ _ q=>q,λ_ ps q=>#[#[],by rw[q];simp]]
def Un.refl:Gy_ H h:=Un.kept λ_ _ q=>q
def Un.laid(k:io_)(hp:b6!<=a)(hn:H a=υ):Gy_ c0! h' where
 keep:=λb u q _ _ _=>k b u q
 slot:=λb u q _ _ _=>#[u.slots,k b u q]
 free:=λb u q n _=>by rw[bD (NZ (NN (NP q) hp))];exact n
 there:=λb u q _=>#[u,k b u q]
 tups:=λb xs q=>by rw[gd!];exact q
 frzs:=λb u xs q=>by rw[gd!];exact q
 tbls:=λb ps q=>EX! gd! q
def Un.write(mu:GX (H x))(he:l4_)(k:rr!)(px:l5!):Gy_ l6! h':=by
 let hx:∀b,H b=υ->b≠x:=λb n z=>by subst z;rw[n]at mu;exact mu
 let J:∀b,H b=υ->b≠e:=λb n z=>by
  subst z;obtain r|r:=he
  .exact hx b n r
  .rw[n]at r;rcases r
 let hm:∀b u,H b=ψ u->¬GX (ψ u)->b≠x:=λb u q nm z=>by subst z;rw[q]at mu;exact nm mu
 exact⟨λb u q n _ _=>k b u (J b n) q,λb u q n _ _=>#[u.slots,k b u (J b n) q],λb u q n _=>by rw[bD (hx b n)];exact n,λb u q _=>?_,
  λb xs q=>by rw[l6_];exact q,λb u xs q=>by rw[l6_];exact q,λb ps q=>EX! l6_ q⟩
 by_cases fq:b=e
 .subst fq;exact px
 .exact#[u,k b u fq q]
def Un.mono(u:rs_)(hs:∀b∈fs,b∈fs')(hx:∀b∈ex,b∈YH):Un fs' YH H H1 h Y:=
 #[λb ob q n J he=>u.keep b ob q n (λz=>J (hs b z)) λz=>In! b,λ_ _ q n _ he=>u.any q n λz=>In! _,λb ob q n he=>u.free b ob q n λz=>In! b,λb ob q he=>u.there b ob q λz=>In! b,u.tups,u.frzs,u.tbls]
end
def HJ(h:Heap)(H:Hp):μ Addr:=(ru!).filter λa=>(H a).isSome
def Sq(h:Heap)(H:Hp):Heap:=W.hideAll h (HJ h H)
def b6i(h:Heap)(H:Hp):(iq!).objs.size=b6!:=W.hideAll_size _ _
def c2k(e:rv!)(n:H b=υ):F6! iq!=ψ o:=
 W.hideAll_get _ e λhm=>by
  let q:(H b).isSome=true:=(PD.mp hm).2;rw[n]at q;simp at q
def c6y(e:F6! iq!=ψ o):h.get? b=ψ o/\H b=none:=by
 let e':h.get? b=ψ o:=W.of_hideAll (HJ h H) e;exact#[e',?_];cases q:H b with
 |none=>rfl
 |some x=>
  let hm:b∈HJ h H:=PD.mpr #[RY.mpr (NP e'),by simp[q]];let z:F6! iq!=none:=W.hideAll_none (HJ h H) hm;rw[z]at e;rcases e
def BN(g h:Heap)(L:sw!):μ eE_:=(ru!).filterMap λa=>if a=L\/(g.get? a).isSome=τ then υ else(h.get? a).map λo=>(a,o)
nonrec def rest(g h:Heap)(L d:sw!):μ eE_:=(BN g h L).filter λp=>decide (p.1≠d)
structure Mod(K:zA!)(mg:Q!)(base:Heap):Prop where
 kin:K.In base
 glob:DB_ base.Ns
 blt:∃mb,base.Ns builtinsNs mb/\∀x:Str,x≠"__name__"->mb x=Dg! x
 nolimit:base.NoLimit
structure Cx where
 prog:Program
 w:World
 K:W.Frag
 mg:Str->Da_ Value
 base:Heap
 A:Around
 N:μ Str
 s₀:Shared
 H₀:Hp
 env:Env
 outer:μ Env
 stack:μ Env
 ex:μ Addr
 fn:Str->Bool
 calm:Bool
 pn:μ eE_
 xe:Value->Shared->ν
nonrec def frs(l:aq_):μ Addr:=l.filterMap (·.frame)
abbrev Cx.fs(X:Cx):μ Addr:=frs X.outer
def Yj(sc:Scope)(x:Str):Prop:=DF! x=DM! ψ\/DF! x=ψ .cell\/DF! x=ψ .free
def Zt(sc:Scope)(x:Str):Prop:=DF! x=DM! ψ\/DF! x=ψ .cell
def GZ(env:Env)(h:Heap)(m:Q!)(x:Str)(u:v5!):Prop:=
 (env.kindOf x=DM! ψ/\m x=ψ u)\/((env.kindOf x=ψ .cell\/env.kindOf x=ψ .free)/\∃c,env.cells.lookup x=ψ c/\h.IsCell c (ψ u))
structure Cx.Ok(X:Cx):Prop where
 mod:Mod X.K X.mg X.base
 kind:l7_=.function
 glob:X.env.globals=mainGlobals
 blt:X.env.builtins=builtinsNs
 above:dL_<=X.env.locals
 inj:∀x y c,BG! x=ψ c->BG! y=ψ c->x=y
 has:∀x,rw_->∃c,BG! x=ψ c
 cab:∀x c,X.fn x=τ->BG! x=ψ c->dL_<=c
 hd:X.calm=τ->eF!=υ
 frames:X.A.frames=HS! ψ
 stk:X.stack=X.outer\/(X.stack=X.env::X.outer/\X.env.frame=ψ X.env.locals)
 exf:∀b∈X.ex,b≠X.env.locals/\∀x c,BG! x=ψ c->c≠b
 bs:∀b o,E5_ b=ψ o->DA! b=ψ o/\X.H₀ b=υ
 bsz:X.base.objs.size<=dL_
 noex:∀b o,E5_ b=ψ o->b∉X.ex
 exfs:∀b∈X.ex,b∉X.fs
 funs:GR! X.outer
 frf:∀b∈X.fs,X.H₀ b=υ
structure Inv(X:Cx)(hb:w_)(Z:List (Option V))(H:Hp)(s:yU!):Prop where
 ok:X.Ok
 os:s.os=X.s₀.os
 bare:HS_ s.gens
 base:Un X.fs X.ex X.H₀ H X.s₀.heap s.heap
 loc:∃m,Ev_ s.heap.Ns m/\∀(i:δ) (x:Str) (v:V),X.N[i]?=ψ x->Z[i]?=ψ aD!->Yj X.env.scope x->∃u,Bj v u/\GZ X.env s.heap m x u
 cell:∀x c,BG! x=ψ c->∃v,s.heap.IsCell c v
 free:Ev_ H=υ
 freeC:∀x c,BG! x=ψ c->H c=υ
 pin:∀p∈X.pn++hb,s.heap.get? p.1=ψ p.2/\H p.1=υ/\p.1≠X.env.locals/\p.1∉X.fs/\∀v,p.2.data≠.cell v
 hok:Dw_ Ko H s.heap
 len:eF_=X.N.length
section
variable{X:Cx}{hb:List (Addr×Obj)}{Z:List (Option V)}{H H':Hp}{s:yU!}{h':Heap}
def Cx.Ok.nofr(ok:X.Ok){b:sw!}{o:Obj}(e:E5_ b=ψ o):b∉X.fs:=λJ=>by
 let:=(ok.funs.mem J).1;rw[e]at this;rcases this
def Inv.bs(I:e!):∀b o,E5_ b=ψ o->yK_ b=ψ o/\H b=none:=λb o e=>
 #[I.base.keep b o (iq_).1 (iq_).2 (I.ok.nofr e) rz!,I.base.free b o (iq_).1 (iq_).2 rz!]
def Inv.bk(I:e!):∀b o,E5_ b=ψ o->yK_ b=ψ o:=λb o e=>(I.bs b o e).1
def Inv.mod(I:e!):Mod X.K X.mg X.base:=I.ok.mod
def Inv.kIn(I:e!):DY! X.K.In:=I.ok.mod.kin.keeps I.bk
def Inv.lt(I:e!):X.env.locals<j!:=by let#[_,hn,_]:=I.loc;exact hn.lt
def Inv.sz(I:e!):dL_<=j!:=NW I.ok.above (SE I.lt)
def Inv.nofs(I:e!){a:sw!}(h:j!<=a):a∉X.fs:=λJ=>by
 let#[_,o,ho,_]:=I.ok.funs.mem J;exact Jg! ir! (NW I.sz h)
def Inv.cne(I:e!):∀x c,BG! x=ψ c->c≠X.env.locals:=λx c e z=>by
 let#[v,o,ho,hd]:=FE! x e;let#[m,#[o',es,ep,gf,iu,_],_]:=I.loc;rw[z,gf]at ho;rcases ho;rw[iu]at hd;cases hd
def Inv.funs(I:e!):Ez_ X.base X.outer:=by
 let all:∀(l:aq_),(∀b∈frs l,b∈X.fs)->GR! l->Ez_ X.base l:=by
  intro l
  induction l with
  |nil=>intro _ _;trivial
  |cons env r ih=>
   intro hs hl;let#[hk,#[L,o,hf,hn,ho,hd],hr]:=hl;let hL:L∈X.fs:=hs L (by delta frs;rw[TU,hf];exact ML);let#[sl,e]:=I.base.slot L o ho (I.ok.frf L hL) hL λz=>I.ok.exfs L z hL
   exact#[hk,#[L,_,hf,hn,e,hd],ih (λb J=>hs b (by delta frs;rw[TU,hf];exact MF _ J)) hr]
 exact all X.outer (λ_ J=>J) I.ok.funs
def Inv.stack(I:e!):Ez_ X.base X.stack:=by
 obtain e|⟨e,hf⟩:=I.ok.stk
 .rw[e];exact I.funs
 .rw[e];let#[m,hn,_]:=I.loc;exact .cons (by rw[I.ok.kind];decide) hf hn ?_ I.funs;exact IT_ (NW I.ok.bsz I.ok.above)
def Inv.stkSub(I:e!):∀b∈frs X.stack,b∈X.env.locals::X.fs:=λb J=>by
 obtain e|⟨e,hf⟩:=I.ok.stk
 .rw[e]at J;exact MF _ J
 .rw[e]at J;delta frs at J;rw[TU,hf]at J;exact J
def Inv.stkFree(I:e!):∀b∈frs X.stack,H b=none:=λb J=>by
 obtain e|J:=MM.mp (I.stkSub b J)
 .rw[e];exact I.free
 .let#[_,o,ho,_]:=I.ok.funs.mem J;exact I.base.free b o ho (I.ok.frf b J) λz=>I.ok.exfs b z J
def Inv.step{g':Array GenState}{t':δ}{d':Drawn}{ch:aQ_}(I:e!)
  (iw:∀b∈ch,ir_/\b≠X.env.locals/\is!/\∀p∈X.pn++hb,p.1≠b)
  (keep:∀b o,b≠X.env.locals->b∉X.fs->b∉ch->yK_ b=ψ o->H b=υ->Df! b=ψ o)
  (slot:∀b o,b≠X.env.locals->b∈X.fs->b∉ch->yK_ b=ψ o->H b=υ->∃sl,Df! b=ψ {o with slots:=sl})(free:∀b o,b∉ch->yK_ b=ψ o->H b=υ->H' b=υ)
  (there:∀b o,b∉ch->yK_ b=ψ o->∃o',Df! b=ψ o')
  (tups:rn!)(frzs:∀b o u,H b=ψ gd_->H' b=ψ gd_)(tbls:∀b ps,H b=ψ (.tbl ps)->∃pz,H' b=ψ rs!)
  (ns:∀m,Ev_ s.heap.Ns m->Ev_ h'.Ns m)(hok:is_)(hg:ma_):
  Inv X hb Z H' {s with heap:=h',gens:=g',drawn:=d',toks:=t'}:=by
 let YI:∀b o,DA! b=ψ o->b≠X.env.locals:=λb o e=>NZ l9_;let vc:∀b o,DA! b=ψ o->b∉X.ex->b∉ch:=λb o e hx J=>by
  obtain z|z:=(iw b J).1
  .exact hx z
  .exact Jg! c1! z
 let YJ:∀x c,BG! x=ψ c->∀v,s.heap.IsCell c v->h'.IsCell c v:=by
  rintro x c e v ⟨o,ho,hd⟩;let se:c∉ch:=λz=>(iw c z).2.2.1 x c e χ;by_cases hc:c∈X.fs
  .let#[sl,q]:=slot c o (I.cne x c e) hc se ho mb!;exact#[_,q,hd]
  .exact#[o,keep c o (I.cne x c e) hc se ho mb!,hd]
 exact#[I.ok,I.os,hg,#[gg_,gg_,λb o e n hx=>?_,mb_,λb xs e=>tups b xs (I.base.tups b xs e),λb o xs e=>frzs b o xs (I.base.frzs b o xs e),λb ps e=>?_],?_,mc!,?_,mc!,c1_,hok,I.len]
 .exact keep b o (YI b o e) J it_ iu! mc_
 .show"!F";let#[sl',e2]:=slot b _ (YI b o e) J it_ e1 mc_;exact#[sl',e2]
 .show"!@";exact free b o' it_ e1 mc_
 .show"!@";exact there b o' it_ e1
 .let#[m1,e1]:=I.base.tbls b ps e;let#[m2,e2]:=tbls b _ e1;exact#[m1++m2,by rw[e2,Array.append_assoc]]
 .let#[m,hn,hl]:=I.loc;exact#[m,ns m hn,rF_];let#[u,r,l]:=hl i x v e1 e2 e3;exact#[u,r,?_];obtain l|⟨k,c,e,z⟩:=l
  .exact .inl l
  .exact .inr #[k,c,e,YJ x c e _ z]
 .let#[v,z]:=FE! x e;exact#[v,YJ x c e v z]
 .let#[m,#[o,_,_,ho,_],_]:=I.loc;exact HF! free iw I.free
 .let#[v,o,ho,hd]:=FE! x e;exact free c o (λz=>(iw c z).2.2.1 x c e χ) ho mb!
 .show"!R";let se:p.1∉ch:=λz=>(iw p.1 z).2.2.2 p hp χ;exact#[keep p.1 p.2 ne nf se e n,free p.1 p.2 se e n,ne,nf,d]
def Inv.un{t':δ}(I:e!)(u:Un X.fs [] H H' s.heap h')(hok:is_):oX! H' {s with heap:=h',toks:=t'}:=by
 let#[m,#[o,es,ep,ho,r],_]:=id I.loc;let#[sl,hL]:=u.any ho I.free b!;exact I.step (g':=s.gens) (d':=s.drawn) (ch:=[]) rI! (GM! u.keep) (GM! u.slot) (λb o _ e n=>u.free b o e n b!) (λb o _ e=>u.there b o e b!) u.tups u.frzs u.tbls (λm' hm=>by
  let#[o',bf,bv,gf,r']:=hm;rw[ho]at gf;rcases gf;exact rI_) hok I.bare
def Inv.call(I:e!)(u:FL_ ch H' h')(hok:is_)(hg:ma_)
  (iw:∀b∈ch,ir_/\b≠X.env.locals/\is!/\∀p∈X.pn++hb,p.1≠b):
  Inv X hb Z H' {s with heap:=h',gens:=g',drawn:=d',toks:=t'}:=by
 let#[m,#[o,es,ep,ho,r],_]:=id I.loc;let#[sl,hL]:=u.any ho I.free λz=>(iw _ z).2.1 χ
 exact I.step (ch:=ch) iw (λb o hL J hc e n=>u.keep b o e n (λz=>(MM.mp (I.stkSub b z)).elim hL J) hc) (λb o _ _ hc e n=>u.any e n hc) (λb o hc e n=>u.free b o e n hc) (λb o hc e=>u.there b o e hc) u.tups u.frzs u.tbls (λm' hm=>by
  let#[o',bf,bv,gf,r']:=hm;rw[ho]at gf;rcases gf;exact rI_) hok hg
def Inv.turned(I:e!)(k:∀b o,b≠it->yK_ b=ψ o->Df! b=ψ o)(hn:H it=υ)(hL:it≠X.env.locals)
  (Y:it∈X.ex\/dL_<=it)(h2:∀x c,BG! x=ψ c->c≠it)(h3:∀p∈X.pn++hb,p.1≠it):oX! H {s with heap:=h',toks:=t'}:=by
 let YK:∀b u,H b=ψ u->b≠it:=λb u e z=>by rw[z,hn]at e;rcases e
 exact I.step (g':=s.gens) (d':=s.drawn) (ch:=[it]) iv_ (λb o _ _ hc e _=>k b o iw_ e) (λb o _ _ hc e _=>#[o.slots,k b o iw_ e]) rL!
  (λb o hc e=>#[o,k b o iw_ e]) rL_ rM! (λb ps e=>me!) rM_ rN! I.bare
 .let e:b=it:=by simpa using J
  subst e;exact#[Y,hL,h2,h3]
 .show"#>";exact#[o,es,ep,k _ o (NY hL) ho,r]
 .exact(me_).stay (λc v hc q=>k c v ?_ q) gc_ λ_ _ q=>q;obtain z|z:=hc
  .rw[z];exact YK b u e
  .exact YK c _ z
def Inv.tok(I:e!)(t:δ):oX! H {s with toks:=t}:=I.un (h':=s.heap) (t':=t) Un.refl I.hok
def Inv.kept(I:e!)(k:rN_):oX! H {s with heap:=h',toks:=t'}:=I.un (Un.kept k) (I.hok.kept k)
def Inv.laid(I:e!)(k:rN_)(hp:j!<=a)(new:Dw_ Eb c0! h' a o):
  Inv X hb Z c0! {s with heap:=h',toks:=t'}:=I.un (Un.laid k hp (EE! hp)) (I.hok.laid k hp new)
def Inv.write(I:e!)(mu:GX (H x))(he:l4_)(k:∀b u,b≠e->yK_ b=ψ u->Df! b=ψ u)(px:l5!)
  (new:Dw_ Eb l6! h' x o):oX! l6! {s with heap:=h',toks:=t'}:=I.un (Un.write mu he k px) (I.hok.write mu he k px new)
def Inv.pins_of(I:e!)(h:∀p∈sf,s.heap.get? p.1=ψ p.2/\H p.1=υ/\p.1≠X.env.locals/\p.1∉X.fs/\∀v,p.2.data≠.cell v):EO! X sf:=
 #[I.ok,I.os,I.bare,I.base,I.loc,I.cell,I.free,I.freeC,λp hp=>Gz! ix_ (h p),I.hok,I.len]
def a5i{N:D!}(hN:N.Nodup){i j:δ}(a:N[i]?=ψ x)(b:N[j]?=ψ x):i=j:=by let#[Y,e1]:=NE.mp a;let#[h2,e2]:=NE.mp b;exact(List.getElem_inj hN).mp rO!
def xY(I:e!)(hN:br!)(hi:al!)(hx:bJ!)(r:a8_)
  (h:∀s',J2_ eG! H s'->(∃a,Heap.SameBut a s.heap s'.heap/\(a=X.env.locals\/X.env.cells.lookup x=ψ a))->Q () s')(hf:X.fn x=τ\/AN_ x=DM! some:=by first|exact .inl χ|exact .inr χ|assumption):oY! M rP!:=by
 let#[m,hn,hl]:=id I.loc;let hcls:(l7_==.class||(l7_==.module&&X.env.locals != X.env.globals))=false:=by rw[I.ok.kind];rfl
 let YL:i<eF_:=by rw[I.len];exact(NE.mp hi).1
 let cne:=I.cne;let YM:∀{a:sw!} {h':Heap},(∃o,s.heap.get? a=ψ o/\H a=υ)->Dh! a->Dw_ Ko H h':=λ{a h'} ha hs b ob e=>by
  let#[_,_,iy]:=ha;exact(rQ!).stay rQ_ gc_ λ_ _ q=>q;rintro rfl;obtain rfl|hc:=hc
  .rw[iy]at e;rcases e
  .rw[iy]at hc;rcases hc
 obtain hk|hk:=hx
 .exact wpAny_storeName_local hk hn (λh' qc hs=>?_) hcls;let#[oL,_,_,si,_]:=id hn;exact h _ #[I.ok,I.os,I.bare,rR!,#[_,qc,rR_],λy c e=>?_,I.free,I.freeC,c1_,YM #[oL,si,I.free] hs,rU!] #[_,hs,cv!]
  .exact DT! mg_ iu!
  .show"!F";exact EK_ sl mg_
  .show"!@";exact EK_ o' mg_
  .by_cases hj:j=i
   .show"#+";exact#[u,r,.inl #[hk,Q_]]
   .rw[mh!]at e2;let#[u',r',q]:=hl j y v' e1 e2 e3;exact mh_;obtain⟨k,e⟩|⟨k,c,e,z⟩:=q
    .exact .inl #[k,?_];let:y≠x:=λe=>hj (a5i hN e1 (e▸hi));simp[this,e]
    .exact .inr #[k,c,e,rW!]
  .let#[w',z]:=FE! y e;exact#[w',rW!]
  .show"!R";exact rW_
 .let wz:X.fn x=true:=by
   obtain z|z:=hf
   .exact z
   .rw[z]at hk;cases hk
  let#[c,hc]:=I.ok.has x mi_;let#[w',z]:=FE! x hc;exact wpAny_storeName_cell I.ok.kind hk hc z (λh' cb hs=>?_);let#[oc,YN,hocd]:=id z;exact h {s with heap:=h'} #[I.ok,I.os,I.bare,rR!,#[m,hn.sameBut hs (NY (cne x c hc)),rR_],λy c' e=>?_,I.free,I.freeC,c1_,YM #[oc,YN,I.freeC x c hc] hs,rU!] #[c,hs,.inr hc]
  .exact DT! mj! iu!
  .show"!F";exact EK_ sl mj!
  .show"!@";exact EK_ o' mj!
  .by_cases hj:j=i
   .show"#+";exact#[u,r,.inr #[.inl hk,c,hc,cb]]
   .rw[mh!]at e2;let#[u',r',q]:=hl j y v' e1 e2 e3;exact mh_;obtain q|⟨k,c',e,z'⟩:=q
    .exact .inl q
    .exact .inr #[k,c',e,z'.sameBut hs ?_];rintro rfl;exact hj (a5i hN e1 (I.ok.inj _ _ _ e hc▸hi))
  .by_cases ig:c'=c
   .subst ig;exact#[_,cb]
   .let#[w2,z2]:=I.cell y c' e;exact#[w2,z2.sameBut hs ig]
  .show"!R";exact#[(hs.2 p.1 ?_).trans e,n,ne,nf,d];intro q;rw[q,YN]at e;let q':oc=p.2:=OK e;exact d w' (Di_ q' hocd)
def uC(I:e!)(hN:br!)(hi:al!)(hx:bJ!)(r:a8_)
  (h:∀s',J2_ eG! H s'->Q () s')(hf:X.fn x=τ\/AN_ x=DM! some:=by first|exact .inl χ|exact .inr χ|assumption):oY! M rP!:=
 xY I hN hi hx r (λs' I' _=>h s' I') hf
def Inv.call'(I:e!)(ho:s'.os=s.os)(u:FL_ ch H' s'.heap)(hok:Dw_ Ko H' s'.heap)(hg:HS_ s'.gens)
  (iw:∀b∈ch,ir_/\b≠X.env.locals/\is!/\∀p∈X.pn++hb,p.1≠b):Jg_ H':=by
 let#[h',g',d',t',o']:=s';let e:o'=s.os:=ho;subst e;exact I.call (g':=g') (t':=t') (d':=d') u hok hg iw
end
abbrev XK:=Value->Da_ Addr->Hp->ν
abbrev St:=μ (ι V)
abbrev VK:=V->Hp->ν
abbrev TE:=St->Hp->VK->ν
abbrev TT:=St->Hp->r0!->ν
abbrev TA:=St->Hp->(μ V->Hp->ν)->ν
structure Uu where
 nx:St->Hp->ν
 rt:VK
 bk:St->Hp->Prop:=λ_ _=>False
 ct:St->Hp->Prop:=λ_ _=>False
abbrev TS:=Uu->St->Hp->ν
inductive EP(X:Cx)(hb:w_)(Z:St)(Q:VK)(u:v5!)(s':yU!):Prop
 |mk (v:V) (H':Hp) (I:mj_) (r:a8_) (q:Q v H'):DU_ u s'
inductive TP(X:Cx)(hb:w_)(Z:St)(Q:dM!)(b:Bool)(s':yU!):Prop
 |mk (H':Hp) (I:mj_) (q:Q b H'):TP X hb Z Q b s'
inductive AP(X:Cx)(hb:w_)(Z:St)(Q:c2!)(us:o_)(s':yU!):Prop
 |mk (vs:t_) (H':Hp) (I:mj_) (r:eH_) (q:Q vs H'):AP X hb Z Q us s'
def SP(X:Cx)(hb:w_)(D:Uu)(f:Flow)(s':yU!):Prop:=
 match f with
 |.next=>∃ae H',Es_ s'/\D.nx ae H'
 |.brk=>∃ae H',Es_ s'/\D.bk ae H'
 |.cont=>∃ae H',Es_ s'/\D.ct ae H'
 |.ret u=>∃v ae H',Es_ s'/\Bj v u/\D.rt v H'
def PE(X:Cx)(e:Expr)(t:TE):Prop:=
 ∀(hb:w_) (s:yU!) (Z:St) (H:Hp) (Q:VK),oX! H s->t Z H Q->I6! gh! a9!
def PT(X:Cx)(e:Expr)(t:TT):Prop:=
 ∀(hb:w_) (s:yU!) (Z:St) (H:Hp) (Q:dM!),oX! H s->t Z H Q->I6! (KG_ gh!) iy_
def PW(X:Cx)(e:Expr)(t:TT):Prop:=
 ∀(fw:Sem Value) (hb:w_) (s:yU!) (Z:St) (H:Hp) (Q:dM!),oX! H s->t Z H Q->I6! (KG_ fw) iy_
def PW.pt(h:PW X e t):PT X e t:=h _
def PA(X:Cx)(es:c2_)(t:TA):Prop:=
 ∀(pos:Pos) (hb:w_) (s:yU!) (Z:St) (H:Hp) (Q:c2!),oX! H s->t Z H Q->I6! (spliced r0_) (AP X hb Z Q)
def PS(X:Cx)(st:Stmt)(t:TS):Prop:=
 ∀(hb:w_) (s:yU!) (Z:St) (H:Hp) (D:Uu),oX! H s->t D Z H->I6! (exec st X.env) mk_
def Nz(X:Cx)(st:eI!)(t:TS):Prop:=
 ∀(hb:w_) (s:yU!) (Z:St) (H:Hp) (D:Uu),oX! H s->t D Z H->I6! (execs st X.env) mk_
def dP(h:oY! M t)(hQ:∀a s,Q a s->Q' a s):DR_ M t Q' E s:=PF h hQ λ_ _ x=>x
section
variable{X:Cx}
def bin(ha:aR!)(J:cv_){R:r1!}(I:e!)(h:r1_)
  {f:Value->Value->Sem α}
  (hf:r2!):
  wpAny h_ X.A r2_ r3! X.xe s:=by
 show"!A"
def IL(i:δ):TE:=λZ H Q=>∃v,Z[i]?=ψ aD!/\Q v H
nonrec def tC(v:V):TE:=λ_ H Q=>Q v H
def kW(hN:al!)(hv:cw!)(hd:y!:=by decide)(bw:cw_:=by decide):PE X cx! (IL i):=by
 intro hb s Z H Q I h;let#[v,e,h]:=h;let#[m,hn,hl]:=I.loc;let#[u,r,l]:=hl i x v hN e hv;let fin:DU_ u s:=ml_;obtain⟨hk,hm⟩|⟨hk,c,hc,df⟩:=l
 .exact HT! (wpAny_loadName_local I.ok.kind hk hn hm fin)
 .obtain hk|hk:=hk
  .exact HT! (wpAny_loadName_cell I.ok.kind hk hc df fin)
  .exact HT! (wpAny_loadName_free I.ok.kind hk hc df fin bw)
def d1z {i j pos}:HF_ r6! U!:=λ_ _ _ H _ I h=>XX #[dN!,H,aL!,D_,h]
def d5x {b j pos}:HF_ (Jn_ mn!) al_:=λ_ _ _ H _ I h=>Constant_bool (JG_ b h)
def d1y {j pos}:PE X r6_ (tC .non):=λ_ _ _ H _ I h=>Constant_none #[.non,H,I,χ,h]
def a0l {x j pos}:HF_ (Jn_ bJ_) bJ_:=λ_ _ _ H _ I h=>YD #[.str x,H,aL!,D_,h]
def Gl(X:Cx)(x:Str):Prop:=Gz_ x=ψ .globalImplicit
def iS(I:e!)(hg:J!)(hm:X.mg x=ψ u)(h:Q u s)
  (hd:y!:=by decide):Jo! r7_:=
 Calls.Name_function_global I.ok.kind hg (Calls.loadGlobal_global r8! hm h) hd
def iJ(I:e!)(hg:J!)(hm:cx_)(hv:r9!)(h:Q u s)
  (hn:cy!:=by decide)(hd:y!:=by decide):Jo! r7_:=by
 let#[mb,Y,h2]:=I.mod.blt;exact Calls.Name_function_global I.ok.kind hg (Calls.loadGlobal_builtin r8! hm (by rw[I.ok.blt];exact Y.keeps I.bk) ((h2 x hn).trans hv) h) hd
def a0m(hg:J!)(hm:X.mg x=ψ u)(r:a8_)(hd:y!:=by decide):HF_ cx! v:=
 λ_ _ _ H _ I h=>iS I hg hm ml_ hd
def c6k(hg:J!)(hm:cx_)(hv:r9!)(r:a8_)(hn:cy!:=by decide)(hd:y!:=by decide):HF_ cx! v:=
 λ_ _ _ H _ I h=>iJ I hg hm hv ml_ hn hd
variable{a b:Expr}{ta tb:TE}{pos:Pos}
nonrec def tB(t:TE):TT:=λZ H Q=>t Z H λx H1=>∃c,x=.bl c/\Q c H1
def a8p{e:Expr}{t:TE}(h:iA!)(he:iA_:=by intro _;rfl):PT X e (tB t):=by intro hb s Z H Q I hw;exact isTrue_plain (dP sb! ?_) (he _);rintro v s1 ⟨x,H1,I1,r1,q1⟩;let#[d,rfl,q]:=q1;subst r1;exact OX #[H1,I1,q]
variable{tA vd:TT}{rest:List Expr}
def IW(t u:TT):TT:=λZ H Q=>t Z H λc H1=>if c=τ then u Z H1 Q else Q θ H1
def LK(t u:TT):TT:=λZ H Q=>t Z H λc H1=>if c=τ then Q τ H1 else u Z H1 Q
def IR(t:TT):TT:=λZ H Q=>t Z H λc H1=>Q (!c) H1
def b1r(ha:gi_):PW X mp! tA:=by
 intro wh hb s Z H Q I h;exact isTrue_and sc!;cases c with
 |true=>exact isTrue_and_nil e
 |false=>exact e
def b8o(ha:gi_):PW X mp_ tA:=by
 intro wh hb s Z H Q I h;exact isTrue_or sc!;cases c with
 |false=>exact isTrue_or_nil e
 |true=>exact e
def b8p(ha:gi_)(J:PW X eK! vd):PW X eK_ (IW tA vd):=by
 intro wh hb s Z H Q I h;exact isTrue_and eL!;rintro c s1 ⟨H1,I1,q1⟩;cases c with
 |true=>exact In_ J
 |false=>exact sd_
def d0a(ha:gi_)(J:PW X eL_ vd):PW X eM! (LK tA vd):=by
 intro wh hb s Z H Q I h;exact isTrue_or eL!;rintro c s1 ⟨H1,I1,q1⟩;cases c with
 |true=>exact sd_
 |false=>exact In_ J
def b8u(ha:gi_):PT X eN! (IR tA):=by intro hb s Z H Q I h;exact isTrue_not (dP (JH! ha (λc H1=>Q (!c) H1)) λ_ _ ⟨H2,I2,q⟩=>#[H2,I2,q])
def FR(ta tb:TE):TE:=λZ H Q=>ta Z H λx H1=>∃c,x=.bl c/\if c=τ then tb Z H1 Q else Q B! H1
def IQ(ta tb:TE):TE:=λZ H Q=>ta Z H λx H1=>∃c,x=.bl c/\if c=τ then Q v_ H1 else tb Z H1 Q
def FM(ta:TE):TE:=λZ H Q=>ta Z H λx H1=>∃c,x=.bl c/\Q (.bl (!c)) H1
def b9k {op}{t:TE}(h:PE X a t):PE X mr_ t:=λhb s Z H Q I hw=>BoolOp_one se!
def b9q(ha:aR!)(J:PE X eK! tb):PE X eK_ (FR ta tb):=by
 intro hb s Z H Q I h;exact BoolOp_and eL!;rintro v s1 ⟨x,H1,I1,r1,q1⟩;let#[c,rfl,q1]:=q1;subst r1;exact OX ?_;cases c with
 |true=>exact DC! J Q
 |false=>exact#[.bl θ,H1,I1,χ,q1]
def d0d(ha:aR!)(J:PE X eL_ tb):PE X eM! (IQ ta tb):=by
 intro hb s Z H Q I h;exact BoolOp_or eL!;rintro v s1 ⟨x,H1,I1,r1,q1⟩;let#[c,rfl,q1]:=q1;subst r1;exact OX ?_;cases c with
 |false=>exact DC! J Q
 |true=>exact#[iC!,H1,I1,χ,q1]
def b9l(ha:aR!):PE X eN! (FM ta):=by intro hb s Z H Q I h;exact UnaryOp_ eL!;rintro v s1 ⟨x,H1,I1,r1,q1⟩;let#[c,rfl,q1]:=q1;subst r1;exact not_of (OX #[.bl (!c),H1,I1,χ,q1])
def LL(t:TT)(ta tb:TE):TE:=λZ H Q=>t Z H λc H1=>if c=τ then ta Z H1 Q else tb Z H1 Q
def pC{c:Expr}(hc:PT X c tA)(ha:aR!)(J:cv_):PE X iC_ (LL tA ta tb):=by
 intro hb s Z H Q I h;exact wpAny_IfExp se_;rintro d s1 ⟨H1,I1,q1⟩;cases d with
 |true=>exact DC! ha Q
 |false=>exact DC! J Q
end
def Ek(K:zA!)(H:Hp)(a:sw!)(xs:t_):Prop:=
 Rd H a N_\/
  ∃(o:Obj) (its:bp_) (n:δ),DW! a=ψ o/\o.cls=.type "list"/\o.dict=υ/\o.data=HE_ its/\its.size<=sizeLine/\Ax xs iD!
def Fb(K:zA!)(H:Hp)(a:sw!)(xs:t_):Prop:=
 Rd H a aK!\/
  ∃(o:Obj) (its:bp_) (n:δ),DW! a=ψ o/\o.cls=.type "tuple"/\o.data=HE_ its/\its.size<=sizeLine/\Ax xs iD!
def JK:Value->ι V
 |.none=>ψ .non
 |.bool b=>ψ al_
 |.int i _=>ψ U!
 |.str x _=>ψ bJ_
 |.bytes b _=>ψ (.byt b)
 |.float b _=>ψ (.flt b)
 |.ref a=>ψ M_
 |.type n=>ψ (.ty n)
 |_=>υ
def Bj.abs{x:V}{u:v5!}(r:Bj x u):JK u=ψ x:=by
 cases x with
 |non=>cases r;rfl
 |bl _=>cases r;rfl
 |int _=>let#[t,rfl]:=r;rfl
 |str _=>let#[t,rfl]:=r;rfl
 |byt _=>let#[t,rfl]:=r;rfl
 |flt _=>let#[t,rfl]:=r;rfl
 |ref _=>cases r;rfl
 |ty _=>cases r;rfl
def Bj.inj{x y:V}{u:v5!}(r:Bj x u)(q:Bj y u):x=y:=OK (r.abs.symm.trans q.abs)
def Ax.inj(h:dJ!):Ax ys us->xs=ys:=by
 induction h generalizing ys with
 |nil=>intro h;cases h;rfl
 |cons r t ih=>intro h;cases h with|cons r' t'=>rw[r.inj r',ih t']
section
variable{X:Cx}{hb:List (Addr×Obj)}{Z:St}{H:Hp}{s:yU!}{a:sw!}{xs ys:List V}
def Ek.of{K:zA!}(h:H a=ψ N_):F6_ Ek:=FS_ h
def Fb.of{K:zA!}(h:H a=ψ aK!):F6_ Fb:=FS_ h
def Inv.list(I:e!)(h:F7! a xs):∃its:List Value,G2_ xs/\DY! PlainL a ak_/\i!<=sizeLine:=by
 obtain h|⟨o,its,n,hk,hc,hd,hs,hz,r⟩:=h
 .let#[z,its,n,r,e]:=h.ok I.hok;exact#[its,r,#[_,n,e,χ,χ,χ],z]
 .exact#[iD!,r,#[o,n,I.kIn a o hk,hc,hd,sf_],?_];show"!}"
def Inv.tuple(I:e!)(h:GR_ a xs):∃its:List Value,G2_ xs/\Jz_ a ak_/\i!<=sizeLine:=by
 obtain h|⟨o,its,n,hk,hc,hs,hz,r⟩:=h
 .let#[z,its,r,p]:=h.ok I.hok;exact#[its,r,p,z]
 .exact#[iD!,r,#[o,I.kIn a o hk,hc,n,sf_],?_];show"!}"
def Inv.list_inj(I:e!)(h:F7! a xs)(h':F7! a ys):xs=ys:=by
 let#[its,r,#[o,n,e,_,_,d],_]:=I.list h;let#[its',r',#[o',n',e',_,_,d'],_]:=Ej_ h';rw[e]at e';rcases e';rw[d]at d';injection d' with d1 _
 let:its=its':=by simpa using Jj_ d1
 subst this;exact r.inj r'
def Inv.tuple_inj(I:e!)(h:GR_ a xs)(h':GR_ a ys):xs=ys:=by
 let#[its,r,#[o,e,_,n,d],_]:=Dq_ h;let#[its',r',#[o',e',_,n',d'],_]:=Dq_ h';rw[e]at e';rcases e';rw[d]at d';injection d' with d1 _
 let:its=its':=by simpa using Jj_ d1
 subst this;exact r.inj r'
end
abbrev Cx.wish(X:Cx)(E:G_):Cx:={X with xe:=E}
abbrev Cx.nox(X:Cx):Cx:=X.wish λ_ _=>False
def Cx.Ok.wish{X:Cx}(ok:X.Ok)(E:G_):(gj_).Ok:=
 iE_
def Cx.Ok.unwish{X:Cx}{E:G_}(ok:(gj_).Ok):X.Ok:=
 iE_
section
variable{X:Cx}{hb:List (Addr×Obj)}{Z:St}{H:Hp}{s:yU!}{E:Value->Shared->Prop}
def Inv.wish(I:e!)(E:G_):EO! gj_ hb:=#[I.ok.wish E,I.os,I.bare,I.base,I.loc,I.cell,I.free,I.freeC,I.pin,I.hok,I.len]
def Inv.unwish(I:EO! gj_ hb):oX! H s:=#[I.ok.unwish,I.os,I.bare,I.base,I.loc,I.cell,I.free,I.freeC,I.pin,I.hok,I.len]
def SP.unwish(h:SP gj_ hb D f s'):SP X hb D f s':=by
 cases f with
 |next=>let#[ae,H',I,q]:=h;exact mt!
 |brk=>let#[ae,H',I,q]:=h;exact mt!
 |cont=>let#[ae,H',I,q]:=h;exact mt!
 |ret u=>let#[v,ae,H',I,r,q]:=h;exact#[v,ae,H',I.unwish,r,q]
def Nz.nox{st:eI!}(h:Nz X.nox st t):Nz X st t:=λhb s Z H D I hw=>
 PF (Dt_ h D (I.wish _) hw) (λ_ _ q=>gk!) λ_ _ z=>Dr! z
end
section
variable{X:Cx}{st:Stmt}{rest:List Stmt}{t u:TS}{e:Expr}{te:TE}{pos:Pos}
def FN:TS:=λD Z H=>D.nx Z H
def IN(t u:TS):TS:=λD Z H=>t {D with nx:=u D} Z H
def b1t:Nz X [] FN:=λ_ _ Z H _ I h=>UN #[Z,H,I,h]
def uT(Y:iF!)(h2:Nz X rest u):Nz X iF_ (IN t u):=by
 intro hb s Z H D I h;exact F2_ (Y hb s Z H {D with nx:=u D} I h);cases f with
 |next=>
  let#[ae,H',I',q]:=q;exact h2 hb s1 ae H' D I' q
 |ret v=>exact q
 |brk=>exact q
 |cont=>exact q
def jK(Y:iF!):Nz X [st] t:=by
 intro hb s Z H D I h;exact F2_ (JH! Y D);cases f with
 |next=>exact UN q
 |ret v=>exact q
 |brk=>exact q
 |cont=>exact q
def Inv.quiet(I:e!):interactive X.env=false:=by simp[interactive,I.ok.kind]
def FO(te:TE):TS:=λD Z H=>te Z H λ_ H1=>D.nx Z H1
def sY(he:c4!)(hs:si!:=by rfl):PS X (G3_ e) (FO te):=by intro hb s Z H D I h;exact wpAny_Expr_any (F3! #[Z,H1,I1,q1]) I.quiet hs
def IP(te:TE):TS:=λD Z H=>te Z H D.rt
def b8x(he:c4!):PS X mu_ (IP te):=by intro hb s Z H D I h;exact wpAny_Return_some (F3! #[x,Z,H1,I1,r1,q1])
def FK:TS:=λD _ H=>D.rt .non H
def c6b:PS X si_ FK:=λ_ _ Z H _ I h=>wpAny_Return_none #[.non,Z,H,I,χ,h]
def IT(c:TT)(t u:TS):TS:=λD Z H=>c Z H λb H1=>if b=τ then t D Z H1 else u D Z H1
def b8z(hc:PT X c tc)(ha:Nz X a t)(J:Nz X b u):PS X (.If c a b pos) (IT tc t u):=by
 intro hb s Z H D I h;exact wpAny_If se_;rintro d s1 ⟨H1,I1,q1⟩;cases d with
 |true=>exact DC! ha D
 |false=>exact DC! J D
end
abbrev TG:=V->St->Hp->sj_->ν
abbrev GT:=μ V->St->Hp->sj_->ν
def PG(X:Cx)(ve:Expr)(t:TG):Prop:=
 ∀(hb:w_) (s:yU!) (Z:St) (H:Hp) (v:V) (u:v5!) (Q:iH_),oX! H s->Bj v u->t v Z H Q->
  wpAny h_ X.A (assign ve X.env u) sk_ X.xe s
def IE(X:Cx)(ts:c2_)(t:GT):Prop:=
 ∀(hb:w_) (s:yU!) (Z:St) (H:Hp) (vs:t_) (us:o_) (Q:iH_),oX! H s->Ax vs us->t vs Z H Q->
  wpAny h_ X.A (assignInOrder (Dy_ ts) us) sk_ X.xe s
abbrev GS:=V->V->V->Hp->mv_->ν
def Yc(X:Cx)(t:GS):Prop:=
 ∀(hb:w_) (s:yU!) (Z:St) (H:Hp) (o i v:V) (ov iv u:v5!) (Q:Hp->ν),oX! H s->Bj o ov->Bj i iv->Bj v u->t o i v H Q->
  wpAny h_ X.A (setItem ov iv u) (λ_ s'=>∃H',Jg_ H'/\Q H') X.xe s
section
variable{X:Cx}{pos:Pos}
def Mq(i:δ):TG:=λv Z H Q=>Q eG! H
def aZ(hN:br!)(hi:al!)(hx:bJ!)(hf:X.fn x=τ\/AN_ x=DM! some:=by first|exact .inl χ|exact .inr χ|assumption):PG X cx! eO_:=by intro hb s Z H v u Q I r h;exact wpAny_assign_Name (uC I hN hi hx r (λs' I'=>#[_,H,I',h]) hf)
def EJ:GT:=λvs Z H Q=>vs=[]/\Q Z H
def Um(t:TG)(u:GT):GT:=λvs Z H Q=>∃v r,vs=v::r/\t v Z H λae H'=>u r ae H' Q
def a0k:IE X [] EJ:=by intro hb s Z H vs us Q I r h;let#[e,h]:=h;subst e;cases r;exact assignInOrder_nil #[Z,H,I,h]
def kG(Y:PG X e t)(h2:IE X es u)
  (hs:Dy_ aD_=assign e X.env::G4! mw_:=by rfl):IE X aD_ (Um t u):=by
 intro hb s Z H vs us Q I r h;let#[v,vr,e1,h]:=h;subst e1;cases r with
 |cons r rr=>
  rw[hs];exact assignInOrder_cons (dP (Y hb s Z H _ _ _ I r h) ?_);rintro _ s1 ⟨bx,H1,I1,q1⟩;exact h2 hb s1 bx H1 _ _ Q I1 rr q1
def EI(K:zA!)(n:δ)(t:GT):TG:=λv Z H Q=>∃a xs,v=.ref a/\F6_ Fb/\i!=n/\t xs Z H Q
def a8r(hc:ax_)(h:IE X es t)
  (hn:(mw_).length=n:=by rfl)(hst:(mw_).findIdx? e_=none:=by rfl):PG X (.Tuple es k pos) (EI X.K n t):=by
 intro hb s Z H v u Q I r hw;let#[a,xs,e1,hq,hl,hw]:=hw;subst e1;subst r;let#[its,rv,ht,hz]:=Dq_ hq;exact assign_Tuple_tuple aR_ ht (by simp[hn,<-hl,rv.length]) hst λh' hx=>?_;let I1:oX! H {s with heap:=h'}:=I.kept (t':=s.toks) λb o e=>hx b o (NZ c1!) e;exact h hb _ Z H xs _ Q I1 (Db! rv) hw
def JI(to ti:TE)(t:GS):TG:=λv Z H Q=>to Z H λo H1=>ti Z H1 λi H2=>t o i v H2 λH3=>Q Z H3
def b9g(ho:PE X o to)(hi:PE X i ti)(hs:Yc X t)
  (ha:∀v,assign sm_ X.env v=(do
   let ov <-holding [v] cy_
   let iv <-holding [v,ov] sn!
   standAt pos
   holding eP! mx!
   release eP! []):=by intro _;rfl):PG X sm_ (JI to ti t):=by
 intro hb s Z H v u Q I r h;rw[ha];exact J3! sp!;rintro ov s1 ⟨x,H1,I1,r1,q1⟩;exact J3! (dP (DC! hi _) ?_);rintro iv s2 ⟨y,H2,I2,r2,q2⟩;exact MC (VB (J3! (dP (hs hb s2 Z H2 x y v ov iv u _ I2 r1 r2 r q2) ?_)));rintro _ s3 ⟨H3,I3,q3⟩;exact wpAny_release #[Z,H3,I3,q3]
def DH(te:TE)(g:TG):TS:=λD Z H=>te Z H λx H1=>g x Z H1 D.nx
def b9b(he:c4!)(hg:my!)(hs:Ew! [tg]=pure false:=by rfl)(hw:Ft! [tg]=pure none:=by rfl)
  (Y:Dy_ [tg]=[assign tg X.env]:=by rfl):PS X (Ez! [tg] e) (DH te g):=by
 intro hb s Z H D I h;exact wpAny_Assign_stores c4_ hs hw;rintro v s1 ⟨x,H1,I1,r1,q1⟩;rw[Y];exact dP (hg hb s1 Z H1 x v _ I1 r1 q1) λ_ s2 q=>q
def uU(hN:br!)(hi:al!)(hx:bJ!)(he:c4!)(hs:De! e ss!=pure false:=by rfl)(hf:X.fn x=τ\/AN_ x=DM! some:=by first|exact .inl χ|exact .inr χ|assumption):
  PS X (Ez! [.Name x nh] e) (DH te eO_):=by
 intro hb s Z H D I h;exact wpAny_Assign_Name c4_ hs;rintro v s1 ⟨y,H1,I1,r1,q1⟩;exact uC I1 hN hi hx r1 (λs2 I2=>#[_,H1,I2,q1]) hf
def DD(c:TT)(tb:TS):TS:=λD Z H=>∃W:Nat->St->Hp->Prop,(∃m,W m Z H)/\∀m Z H,W m Z H->
 c Z H λb H1=>if b=τ then∃N:St->Hp->Prop,(∀ae H',N ae H'->∃m',m'<m/\W m' ae H')/\tb {D with nx:=N,ct:=N,bk:=D.nx} Z H1 else D.nx Z H1
def b8w(hp:gl!)(hc:PT X c tc)(J:G4_ X tb):PS X sv! (DD tc tb):=by
 intro hb s Z H D I h;let#[W,#[m0,w0],turn]:=h;exact wpAny_While (codeAny_whileLoop (λn s'=>∃ae H',Inv X hb ae H' s'/\W n ae H') ?_ m0 #[Z,H,I,w0]);rintro n s1 ⟨bx,H1,I1,w1⟩;exact E6! (hc hb s1 bx H1 _ I1 (turn n bx H1 w1));rintro b s2 ⟨H2,I2,q2⟩;cases b with
 |true=>
  let#[N,hN,q2]:=q2;rw[y_];exact TH hp (dP (J hb s2 bx H2 _ I2 q2) λf s3 q3=>?_);cases f with
  |next=>
   show"!h"
  |cont=>
   show"!h"
  |brk=>exact q3
  |ret v=>exact q3
 |false=>
  rw[MZ NS];exact UN #[bx,H2,I2,q2]
end
structure It where
 go:δ->Hp->ν
 yld:δ->Hp->V->Hp->ν
 stop:δ->Hp->ν
def Fv(X:Cx)(hb:w_)(H:Hp)(b:sw!):Prop:=
 H b=υ/\b≠X.env.locals/\b∉X.fs/\ir_/\is!/\∀p∈X.pn++hb,p.1≠b
def Inv.fpOk(I:e!)(J:j!<=b)(hn:H' b=υ):D5_ H' b:=by
 exact#[hn,RA (NN I.lt J),I.nofs J,.inr (NW I.sz J),λx c e z=>?_,λp hp z=>?_]
 .let#[v,q]:=FE! x e;exact Jg! q.lt sy_
 .exact Jg! (NP (mz!).1) sy_
structure Qp(P:yM!)(w:yK!)(K:zA!)(tg:Expr)(af:It)(fp:aQ_)(it:sw!)(tn:gl_):Prop where
 mem:it∈fp
 obj:∀i h,tn i h->∀b∈fp,∃o,h.get? b=ψ o/\∀v,o.data≠.cell v
 keep:∀i h h',tn i h->(Fl_ h'.get?)->tn i h'
 item:∀(X:Cx),X.prog=P->X.w=w->X.K=K->X.calm=τ->∀(i:δ) (hb:w_) (s:yU!) (Z:St) (H:Hp) (E:G_),oX! H s->mz_->tn i s.heap->af.go i H->
  wpAny E! X.A iJ_ (λr s1=>∃u,r=ψ u/\
   wpAny E! X.A sz_ (λ_ s2=>∃x H',oX! H' s2/\Bj x u/\af.yld i H x H'/\tn x! s2.heap/\∀b∈fp,H' b=υ) E s1) E s
 done:∀(X:Cx),X.prog=P->X.w=w->X.K=K->X.calm=τ->∀(i:δ) (hb:w_) (s:yU!) (Z:St) (H:Hp) (E:G_),oX! H s->mz_->tn i s.heap->af.stop i H->
  wpAny E! X.A iJ_ (λr s1=>r=υ/\oX! H s1) E s
 self:∀(A:uB!) (i:δ) (s:yU!) (Q:G_) (E:G_),tn i s.heap->Q b6_ s->KL_ b6_
abbrev TI:=St->Hp->(It->Hp->ν)->ν
def IB(X:Cx)(hb:w_)(Z:St)(tg:Expr)(R:iK!)(vf:v5!)(s2:yU!):Prop:=
 ∃(it:sw!) (fp:aQ_) (tn:gl_) (af:It) (H':Hp),vf=.ref it/\oX! H' s2/\rJ! Qp tg af fp it tn/\tn 0 s2.heap/\(∀b∈fp,Fv X hb H' b)/\R af H'
def PI(X:Cx)(tg iter:Expr)(wi:TI):Prop:=
 ∀(hb:w_) (s:yU!) (Z:St) (H:Hp) (R:iK!),oX! H s->wi Z H R->
  wpAny h_ X.A (Dk_ iter) (λv s1=>Be_ (pyIter v) sA! X.xe s1) X.xe s
def b3c(ho:yK_ it=ψ o)(hc:o.cls=.type n)(hd:o.data=Fs! vs)
  (hn:(sB!).contains n=θ)(hQ:Q () s):oY! M sz_:=by
 delta letOwnedTupleGo;cases tg<;>first
  |exact MH hQ
  |(cases u<;>first
    |exact MH hQ
    |(exact EO_ wpAny_load ho;rw[hc,hd];show DR_ M (FE_ ((sB!).contains n&&vs[0]?==ψ (rawInt _)) τ) Q E s;rw[MZ (by intro h;rw[hn,Bool.false_and]at h;exact Bool.noConfusion h)];exact MH hQ))
def JP(K:zA!)(a:sw!):It:=
 (Dn_ Ek)
def JO(K:zA!)(a:sw!):It:=
 (Dn_ Fb)
def HB(lo:Int)(n:δ):It:=Fd! (lo+i)
def b4b{K:zA!}(a it:sw!):Kd_ JP h.IsListIter where
 mem:=by simp
 obj:=λi h st b J=>by
  let e:b=it:=by simpa using J
  subst e;show"!Y"
 keep:=λi h h' st k=>st.at λo e=>k it b! o e
 item:=by
  show"!2";let#[xs,x,hq,hx]:=hg;let#[its,rv,p,hz]:=Ej_ hq;let#[u,hu,ru]:=rv.get hx;show"!4";exact wpAny_pyNext_list_item st p.isList (x:=u) mA_ λh' ac sb=>?_;show"!J";exact GA! #[x,H,I1,ru,#[χ,sE_],ac,iK_]
 done:=by
  show"!2";let#[xs,hq,hx]:=hg;let#[its,rv,p,hz]:=Ej_ hq;show"!4";let hl:=c5!;exact wpAny_pyNext_list_end aR_ st p.isList aS! λh' eb=>mC!
 self:=λ_ _ _ _ _ st h=>wpAny_pyIter_listiter st h
def a7z{P:yM!}{w:yK!}{K:zA!}{tg:Expr}(a it:sw!):Kd_ JO h.IsTupleIter where
 mem:=by simp
 obj:=λi h st b J=>by
  let e:b=it:=by simpa using J
  subst e;show"!Y"
 keep:=λi h h' st k=>st.at λo e=>k it b! o e
 item:=by
  show"!2";let#[xs,x,hq,hx]:=hg;let#[its,rv,p,hz]:=Dq_ hq;let#[u,hu,ru]:=rv.get hx;show"!4";exact wpAny_pyNext_tuple_item st sF_ (x:=u) mA_ λh' ac sb=>?_;show"!J";exact GA! #[x,H,I1,ru,#[χ,λys hy=>by rw[I.tuple_inj hy hq];exact hx],ac,iK_]
 done:=by
  show"!2";let#[xs,hq,hx]:=hg;let#[its,rv,p,hz]:=Dq_ hq;show"!4";let hl:=c5!;exact wpAny_pyNext_tuple_end aR_ st sF_ aS! λh' eb=>mC!
 self:=λ_ _ _ _ _ st h=>wpAny_pyIter_tupleiter st h
def a8a{K:zA!}(it:sw!)(lo:Int)(n:δ):FT! (HB lo n) (λi h=>IsRangeIter h it (lo+(i:δ)*1) ((n:Int) - (i:δ)) 1) where
 mem:=by simp
 obj:=λi h st b J=>by
  let e:b=it:=by simpa using J
  subst e;exact⟨_,st,λv z=>by
   let z':Data.fields _=Data.cell v:=z;cases z'⟩
 keep:=λi h h' st k=>k it b! _ st
 item:=by
  show"!2";show"!4";let W:=Walks.range (prog:=X.prog) (w:=X.w) aR_ it lo 1 n;exact Io! i hg st λv h' tk hv ac kk=>?_;let#[t,rfl]:=hv;show"!c";exact#[_,χ,b3c (s:={s with heap:=h',toks:=tk}) (n:="range_iterator") ac χ χ a_ #[.int (lo+i),H,I1,#[t,?_],ae!,ac,iK_]];rw[Int.mul_one]
 done:=by
  show"!2";show"!4";exact wpAny_pyNext_range_end aR_ st (by let:n<=i:=hg;omega) λh' eb=>mC!
 self:=λ_ _ _ _ _ st h=>wpAny_pyIter_rangeiter st h
section
variable{X:Cx}{tg:Expr}
def GN(K:zA!)(tl:TE):TI:=λZ H R=>tl Z H λx H1=>∃a,x=.ref a/\(∃xs,Ek K H1 a xs)/\R (JP K a) H1
def Rg(K:zA!)(tl:TE):TI:=λZ H R=>tl Z H λx H1=>∃a,x=.ref a/\(∃xs,Fb K H1 a xs)/\R (JO K a) H1
def b1x(hl:PE X l tl):G5! l (GN X.K tl):=by
 intro hb s Z H R I h;exact dP mG_ ?_;rintro v s1 ⟨x,H1,I1,r1,q1⟩;let#[a,e,#[xs,hq],q]:=q1;subst e;subst r1;let#[its,rv,p,hz]:=I1.list hq;exact TN p.isList ?_;exact Ft_ b4b;let e:b=x_:=by simpa using J
 show"!S"
def d1w{l:Expr}{tl:TE}(hl:PE X l tl):G5! l (Rg X.K tl):=by
 intro hb s Z H R I h;exact dP mG_ λv s1 ⟨x,H1,I1,r1,q1⟩=>?_;let#[a,e,#[xs,hq],q]:=q1;subst e;cases r1;let#[its,rv,p,hz]:=I1.tuple hq;exact XV (show s1.heap.IsTuple a ak_ from p) ?_;exact Ft_ a7z;let e:b=x_:=by simpa using J
 show"!S"
def a4o{lo hi:Int}(I:e!)(Y:-gn_<=lo)(h2:lo<2 ^ 62)(h3:-gn_<=hi)(h4:hi<2 ^ 62)
  (q:R (HB lo (mH!).toNat) H):Be_ (pyIter br_) sA! E {s with heap:=s.heap.push {cls:=.type "range",data:=Dl_ t},toks:=tk}:=by
 exact wpAny_pyIter_range (IsRange.new ..) (small_one Y h2 h3 h4) ?_;let I1:oX! H {s with heap:=s.heap.push {cls:=.type "range",data:=Dl_ t},toks:=tk}:=I.kept λb o e=>MJ _ e;exact⟨(mH_).objs.size,[(mH_).objs.size],_,_,H,χ,
  I1.kept (t':=tk) λb o e=>MJ _ e,a8a _ lo (mH!).toNat,?_,λb J=>?_,q⟩
 .let e1:lo+iL_*1=lo:=by simp
  let e2:sK! - iL_=Builtin.Range.rangeSize lo hi 1:=by rw[rangeSize_one];split<;>omega
  show IsRangeIter _ _ (lo+iL_*1) (sK! - iL_) 1;rw[e1,e2];exact NJ _ χ
 .let e:b=(mH_).objs.size:=by simpa using J
  show"!S"
def GM(ta:TA):TI:=λZ H R=>ta Z H λvs H1=>∃j:Int,vs=[dO_]/\-gn_<=j/\j<2 ^ 62/\R (HB 0 j.toNat) H1
def GL(ta:TA):TI:=λZ H R=>ta Z H λvs H1=>∃i j:Int,vs=[dN!,dO_]/\(-gn_<=i/\i<2 ^ 62/\-gn_<=j/\j<2 ^ 62)/\R (HB i (go!).toNat) H1
def b4r(hg:iM!)(hm:iM_)(ha:PA X [a] ta)(hs:sL!:=by rfl):G5! sM! (GM ta):=by
 intro hb s Z H R I h;exact GA_ boot_range (PQ (dP go_ ?_) hs χ);rintro us s1 ⟨vs,H1,I1,r1,q1⟩;let#[j,e,q1,q2,q]:=q1;subst e;cases r1 with
 |cons r rr=>
  cases rr;show"#(";exact call_range_1 (a4o I1 a! a! q1 q2 (Db! q))
def b4q(hg:iM!)(hm:iM_)(ha:PA X O! ta)(hs:sO_:=by rfl)(bp:sP!:=by rfl):
  PI X tg sP_ (GL ta):=by
 intro hb s Z H R I h;exact Call_ (iJ I hg hm boot_range (PQ (dP go_ λus s1 ⟨vs,H1,I1,r1,q1⟩=>?_) (by rw[hs,bp]) (EX_ bp)));let#[i,j,e,#[q1,q2,q3,q4],q]:=q1;subst e;cases r1 with
 |cons r rr=>
  cases rr with
  |cons r' rr=>
   cases rr;show"#(";let#[t',rfl]:=r';exact call_range_2 (a4o I1 q1 q2 q3 q4 q)
def IU(wi:TI)(g:TG)(tb:TS):TS:=λD Z H=>wi Z H λaf H1=>∃W:Nat->Nat->St->Hp->Prop,(∃m,W 0 m Z H1)/\∀i m Z H,W i m Z H->
 (af.stop i H/\D.nx Z H)\/(af.go i H/\∃N:St->Hp->Prop,(∀ae H',N ae H'->∃m',m'<m/\W x! m' ae H')/\∀x H',af.yld i H x H'->g x Z H' λdz H2=>tb {D with nx:=N,ct:=N,bk:=D.nx} dz H2)
def Py(fp:aQ_)(h:Heap):μ eE_:=fp.filterMap λb=>(h.get? b).map λo=>(b,o)
def jC(J:b∈fp)(e:rv!):(b,o)∈Py fp h:=SM.mpr #[b,J,mI_]
def b5j(hp:p∈Py fp h):p.1∈fp/\h.get? p.1=ψ p.2:=by
 let#[b,J,e]:=SM.mp hp;cases q:h.get? b with
 |none=>rw[q]at e;rcases e
 |some o=>
  rw[q]at e;let e':(b,o)=p:=OK e;subst e';exact#[J,q]
def Inv.pinned(I:e!)(hf:∀b∈fp,D5_ H b)(ho:∀b∈fp,∃o,yK_ b=ψ o/\∀v,o.data≠.cell v):EO! X (hb++Py fp s.heap):=
 I.pins_of λp hp=>Gz! iP! λz=>by
  let#[J,e]:=b5j z;let#[f0,f1,f2,_]:=hf p.1 J;let#[o,e',d]:=ho p.1 J;rw[e]at e';rcases e';exact#[e,f0,f1,f2,d]
def Inv.unpinned(I:EO! X (hb++pl)):oX! H s:=I.pins_of λp hp=>I.pin p (MY _ iP_)
def b9a(hp:gl!)(hc:ax_)(hi:mJ!)(hg:my!)(J:G4_ X tb)
  (hs:c6_:=by intro _;rfl):PS X sT_ (IU wi g tb):=by
 intro hb s Z H D I h;exact wpAny_For (dP (JH! hi _) λv s1 Y=>dP Y λvf s2 h2=>?_) hs;let#[it,fp,tn,af,H2,e,I2,T,bu,f2,W,#[m0,w0],turn]:=h2;subst e;let nj:∀{H':Hp},gp_->∀b∈fp,D5_ H' b:=λhn b J=>#[hn b J,(dQ!).2];exact codeAny_forLoop_any (λn s'=>∃i ae H',Inv X hb ae H' s'/\tn i s'.heap/\gp_/\W i n ae H') ?_ m0 #[0,Z,H2,I2,bu,sU_,w0];rintro n s3 ⟨i,ii,H3,I3,vg,YO,w3⟩;obtain⟨stop,qn⟩|⟨go,N,hN,step⟩:=turn i n ii H3 w3
 .exact E6! (T.done X χ χ χ hc i hb s3 ii H3 X.xe I3 (nj YO) vg stop);rintro r s4 ⟨hr,I4⟩;subst hr;exact UN #[ii,H3,I4,qn]
 .exact E6! (T.item X χ χ χ hc i hb s3 ii H3 X.xe I3 (nj YO) vg go);rintro r s4 ⟨u,hr,h4⟩;subst hr;exact E6! h4;rintro _ s5 ⟨x,H5,I5,r5,y5,nq,w4⟩;let w5:=I5.pinned (nj w4) sV!;exact E6! (hg _ s5 ii H5 x u _ w5 r5 sV_);rintro _ s6 ⟨nr,H6,I6,q6⟩;exact TH hp (dP (J _ s6 nr H6 _ I6 q6) λf s7 q7=>?_);let again:∀{jd:St} {H7:Hp},Inv X (hb++Py fp s5.heap) jd H7 s7->N jd H7->∃m,m<n/\∃i ae H',Es_ s7/\tn i s7.heap/\gp_/\W i m ae H':=λ{jd H7} I7 n7=>by
   let#[m',hm,w7]:=hN jd H7 n7;exact#[m',hm,i+1,jd,H7,iQ_,T.keep _ _ _ nq λb J o e=>(sX!).1,bK!,w7];let#[o,e,d]:=HT_ nq;exact(sX!).2.1
  cases f with
  |next=>let#[jd,H7,I7,n7]:=q7;exact again I7 n7
  |cont=>let#[jd,H7,I7,n7]:=q7;exact again I7 n7
  |brk=>let#[jd,H7,I7,q7]:=q7;exact#[jd,H7,iQ_,q7]
  |ret v=>let#[x7,jd,H7,I7,r7,q7]:=q7;exact#[x7,jd,H7,iQ_,r7,q7]
end
abbrev R2:=V->V->Hp->VK->ν
def Fu(X:Cx)(f:sX_)(r:R2):Prop:=
 ∀(hb:w_) (s:yU!) (Z:St) (H:Hp) (x y:V) (v u:v5!) (Q:VK),oX! H s->Bj x v->Bj y u->G5_ r->
  wpAny h_ X.A (f v u) a9! X.xe s
def JL(X:Cx)(f:Value->Sem Value)(r:sY!):Prop:=
 ∀(hb:w_) (s:yU!) (Z:St) (H:Hp) (x:V) (v:v5!) (Q:VK),oX! H s->Bj x v->r x H Q->
  wpAny h_ X.A (f v) a9! X.xe s
def Fm(X:Cx)(f:v5!)(r:eR_):Prop:=
 ∀(hb:w_) (s:yU!) (Z:St) (H:Hp) (xs:t_) (us:o_) (Q:VK),oX! H s->Ax xs us->r xs H Q->
  wpAny h_ X.A (call f us) a9! X.xe s
def JM(X:Cx)(r:V->Hp->r0!->ν):Prop:=
 ∀(hb:w_) (s:yU!) (Z:St) (H:Hp) (x:V) (v:v5!) (Q:dM!),oX! H s->Bj x v->r x H Q->
  wpAny h_ X.A mn_ iy_ X.xe s
def EZ(r:R2)(ta tb:TE):TE:=λZ H Q=>ta Z H λx H1=>tb Z H1 λy H2=>r x y H2 Q
def LI(r:sY!)(ta:TE):TE:=λZ H Q=>ta Z H λx H1=>r x H1 Q
nonrec def rI(C:Int->Int->ν)(g:Int->Int->V):R2:=λx y H Q=>∃i j,x=.int i/\y=.int j/\C i j/\Q bs! H
def Se(g:Int->Int->V):R2:=λx y H Q=>∃i j,x=.int i/\y=.int j/\Q bs! H
nonrec def rU(g:Int->V):V->Hp->VK->Prop:=λx H Q=>∃i,x=.int i/\Q (g i) H
section
variable{X:Cx}{a b c:Expr}{ta tb tc:TE}{pos:Pos}
def d4y(ha:aR!)(J:cv_){R:r1!}(I:e!)
  (h:r1_){f:sX_}
  (hf:r2!):
  wpAny h_ X.A r2_ r3! X.xe s:=by
 show"!A"
def b1y(ho:mN!)(ha:aR!)(J:cv_):PE X mN_ iR!:=by intro hb s Z H Q I h;exact wpAny_BinOp s0!
def d5w(ho:JL X (unaryOp op) r)(ha:aR!):PE X (.UnaryOp op a pos) (LI r ta):=by intro hb s Z H Q I h;exact UnaryOp_ (Ek! ho)
def opI{g:s1!}
  (rule:∀(i j:Int) (t u:Tok) (s:yU!) (Q:G_) (E:G_),C i j->Q s0_ {s with toks:=s.toks+1}->Jo! mP_):
  Fu X f (rI C λi j=>.int bs!):=by
 intro hb s Z H x y v u Q I rx ry h;let#[i,j,rfl,rfl,hc,q]:=h;show"!G";let#[t',rfl]:=ry;exact FT_ hc s1_
def d6d{g:s1!}
  (rule:∀(i j:Int) (t u:Tok) (s:yU!) (Q:G_) (E:G_),Q s0_ {s with toks:=s.toks+1}->Jo! mP_):
  Fu X f (Se λi j=>.int bs!):=by
 show"!X";exact FT_ s1_
def c6r{g:s2!}
  (rule:∀(i j:Int) (t u:Tok) (s:yU!) (Q:G_) (E:G_),Q (.bool bs!) s->Jo! mP_):
  Fu X f (Se λi j=>.bl bs!):=by
 show"!X";exact FT_ (JG_ bs! q)
def EW(i j:Int):Prop:=0<j/\j<1073741824
def EV(i j:Int):Prop:=0<=j/\j<=1000000/\aS_<2 ^ 64
def Zw(i j:Int):Prop:=(-gq_<i/\i<2 ^ 64)\/(-gq_<j/\j<2 ^ 64)
def Zw.ok(h:Zw i j):IntMulOk i j:=by
 obtain⟨Y,h2⟩|⟨Y,h2⟩:=h
 .exact .of_left s2_
 .exact .of_right s2_
def d2j:Fu X eS! (Se λi j=>.int (i+j)):=d6d λ_ _ _ _ _ _ _ q=>add_int q
def uW:Fu X (binaryOp .Sub) s3!:=d6d λ_ _ _ _ _ _ _ q=>sub_int q
def qT:Fu X s3_ mR!:=opI λ_ _ _ _ _ _ _ hc q=>mul_int q hc.ok
def nH:Fu X (binaryOp .FloorDiv) mS!:=opI λi j _ _ _ _ _ hc q=>by
 let Y:(0:Int)<j:=hc.1;let h2:j<1073741824:=hc.2;exact Io_ floordiv_int Int.fdiv_eq_ediv_of_nonneg (.inl (PyProof.noPylong_small a!))
def eY:Fu X (binaryOp .Mod) mS_:=opI λi j _ _ _ _ _ hc q=>by
 let Y:(0:Int)<j:=hc;exact Io_ mod_int' Int.fmod_eq_emod_of_nonneg
def d2d:Fu X (binaryOp .Pow) mT_:=opI λ_ _ _ _ _ _ _ hc q=>pow_int_small hc.1 hc.2.1 hc.2.2 q
def unI{g:mU_}
  (rule:∀(i:Int) (t:Tok) (s:yU!) (Q:G_) (E:G_),Q (.int (g i) s.toks) {s with toks:=s.toks+1}->Jo! (f dI!)):
  JL X f (rU λi=>.int (g i)):=by
 intro hb s Z H x v Q I rx h;let#[i,rfl,q]:=h;show"!G";exact rule i t s _ _ #[.int (g i),H,aL!,D_,q]
def d1d:JL X (unaryOp .USub) (rU λi=>.int (-i)):=unI λ_ _ _ _ _ q=>neg_int q
end
def IY:V->V->Bool
 |.non,.non=>τ|.non,.int _=>τ|.int _,.non=>τ|.non,.bl _=>τ|.bl _,.non=>τ|.non,.str _=>τ|.str _,.non=>τ
 |.int _,.int _=>τ|.bl _,.bl _=>τ|.str _,.str _=>τ|.byt _,.byt _=>τ
 |.int _,.str _=>τ|.str _,.int _=>τ|.bl _,.str _=>τ|.str _,.bl _=>τ
 |_,_=>θ
def KC:R2:=λx y H Q=>IY x y=τ/\Ew_ (!decide (x=y))
def b3k:decide (V.int i=V.int j)=(i==j):=by rw[PU];simp
def d4i:decide (V.bl i=V.bl j)=(i==j):=by rw[PU];simp
def b3j:decide (V.str i=V.str j)=(i==j):=by rw[PU];simp
def c8w:decide (V.byt i=V.byt j)=(i.toList==j.toList):=by rw[PU];cases i;cases j;simp
section
variable{X:Cx}{a b c:Expr}{ta tb tc:TE}{pos:Pos}
def eQ(I:e!)(q:Ew_ k)(e:k=k'):DU_ (.bool k') s:=by subst e;exact JG_ k q
def yJ:Fu X s7_ KC:=by
 intro hb s Z H x y v u Q I rx ry h;let#[hs,q]:=h;cases x with
 |non=>
  subst rx;cases y with
  |non=>cases ry;exact PySem.EqNone.ne_none_none bK_
  |bl j=>cases ry;exact PySem.EqNone.ne_none_bool bK_
  |int j=>let#[t',rfl]:=ry;exact PySem.EqNone.ne_none_int bK_
  |str j=>let#[t',rfl]:=ry;exact PySem.EqNone.ne_none_str bK_
  |_=>exact Jp! eT!
 |bl i=>
  subst rx;cases y with
  |non=>cases ry;exact PySem.EqNone.ne_bool_none bK_
  |bl j=>cases ry;exact Jh! ne_bool d4i
  |str j=>let#[t',rfl]:=ry;exact PySem.EqMixed.ne_bool_str bK_
  |_=>exact Jp! eT!
 |int i=>
  let#[t,rfl]:=rx;cases y with
  |non=>cases ry;exact PySem.EqNone.ne_int_none bK_
  |int j=>let#[t',rfl]:=ry;exact Jh! ne_int b3k
  |str j=>let#[t',rfl]:=ry;exact PySem.EqMixed.ne_int_str bK_
  |_=>exact Jp! eT!
 |str i=>
  let#[t,rfl]:=rx;cases y with
  |non=>cases ry;exact PySem.EqNone.ne_str_none bK_
  |bl j=>cases ry;exact PySem.EqMixed.ne_str_bool bK_
  |int j=>let#[t',rfl]:=ry;exact PySem.EqMixed.ne_str_int bK_
  |str j=>let#[t',rfl]:=ry;exact Jh! ne_str b3j
  |_=>exact Jp! eT!
 |byt i=>
  let#[t,rfl]:=rx;cases y with
  |byt j=>let#[t',rfl]:=ry;exact Jh! W.ne_bytes c8w
  |_=>exact Jp! eT!
 |_=>cases y<;>exact Jp! eT!
def b9y:Fu X (compareOp .Lt) mW!:=c6r λ_ _ _ _ _ _ _ q=>lt_int q
def d6b:Fu X mW_ (Se λi j=>.bl mX!):=c6r λ_ _ _ _ _ _ _ q=>le_int q
def a4w:Fu X s9_ mY!:=c6r λ_ _ _ _ _ _ _ q=>gt_int q
def d6c:Fu X (compareOp .GtE) mZ!:=c6r λ_ _ _ _ _ _ _ q=>ge_int q
def b4y:Fu X eT_ (Fh_ iT!):=by intro hb s Z H x y v u Q I rx ry h;let#[i,j,rfl,rfl,q]:=h;let#[t,rfl]:=rx;let#[t',rfl]:=ry;exact in_str (eQ I q χ)
def uY:Fu X ta! ta_:=by
 intro hb s Z H x y v u Q I rx ry h;let#[rfl,q]:=h;subst ry;exact is_none_gen (eQ I q ?_);cases x<;>first
  |(subst rx;rfl)
  |(let#[t,rfl]:=rx;rfl)
def kY:Fu X tb! tb_:=by
 intro hb s Z H x y v u Q I rx ry h;let#[rfl,q]:=h;subst ry;exact isnot_none_gen (eQ I q ?_);cases x<;>first
  |(subst rx;rfl)
  |(let#[t,rfl]:=rx;rfl)
def Fu.or(h:Fu X f r)(h':Fu X f r'):Fu X f tc_:=by
 intro hb s Z H x y v u Q I rx ry q;obtain q|q:=q
 .exact J3_ h
 .exact J3_ h'
def aR(b:Expr)(h:op≠.In:=by decide)(h2:op≠.NotIn:=by decide):behindInMarks op b=false:=by
 let e1:(op==CmpOp.In)=false:=by cases op<;>first|rfl|exact Dd! h
 let e2:(op==CmpOp.NotIn)=false:=by cases op<;>first|rfl|exact Dd! h2
 cases b<;>simp[behindInMarks,e1,e2]
def b2b(ho:b8!)(ha:aR!)(J:cv_)(hm:eU!):PE X eU_ iR!:=by intro hb s Z H Q I h;exact wpAny_Compare1 s0! hm
def BY(t:TE):TT:=λZ H Q=>t Z H λx H'=>∃k,x=.bl k/\Q k H'
def b1s(ho:b8!)(ha:aR!)(J:cv_)(hm:eU!):PT X eU_ (BY iR!):=by
 intro hb s Z H Q I h;exact wpAny_isTrue_Compare1 (dP c3! λv s1 ⟨x,H1,I1,r1,q1⟩=>dP gh_ λu s2 ⟨y,H2,I2,r2,q2⟩=>
  dP m1! λc s3 ⟨z,H3,I3,r3,k,e,q3⟩=>?_) hm
 subst e;subst r3;exact OX #[H3,I3,q3]
def Yq(r r':R2)(ta tb tc:TE):TE:=λZ H Q=>ta Z H λx H1=>tb Z H1 λy H2=>r x y H2 λz H3=>∃k,z=.bl k/\
 (if k=τ then tc Z H3 λw' H4=>r' y w' H4 Q else Q B! H3)
def b9p(ho:b8!)(gf:iU!)(ha:aR!)(J:cv_)(hc:PE X c tc)
  (hm:iU_:=by with_unfolding_all rfl):PE X iV! te!:=by
 intro hb s Z H Q I h;exact Compare_chain (dP c3! λv s1 ⟨x,H1,I1,r1,q1⟩=>chain_link (dP gh_ λu s2 ⟨y,H2,I2,r2,q2⟩=>
  dP m1! λd s3 ⟨z,H3,I3,r3,k,e,q3⟩=>?_)) hm
 subst e;subst r3;exact OX ?_;cases k with
 |false=>exact ite_ff #[.bl θ,H3,I3,χ,q3]
 |true=>exact ite_tt (chain_last (dP te_ λw' s4 ⟨z',H4,I4,r4,q4⟩=>gf hb s4 Z H4 y z' u w' Q I4 r2 r4 q4))
def b8v(ho:b8!)(gf:iU!)(ha:aR!)(J:cv_)(hc:PE X c tc)
  (hm:iU_:=by with_unfolding_all rfl):PT X iV! (BY te!):=by
 intro hb s Z H Q I h;exact isTrue_chain (dP c3! λv s1 ⟨x,H1,I1,r1,q1⟩=>test_link (dP gh_ λu s2 ⟨y,H2,I2,r2,q2⟩=>
  dP m1! λd s3 ⟨z,H3,I3,r3,k,e,q3⟩=>?_)) hm
 subst e;subst r3;exact OX ?_;cases k with
 |false=>
  let#[k',e',q']:=q3;cases e';exact ite_ff #[H3,I3,q']
 |true=>
  exact ite_tt (test_last (dP te_ λw' s4 ⟨z',H4,I4,r4,q4⟩=>dP (gf hb s4 Z H4 y z' u w' _ I4 r2 r4 q4) ?_));rintro d' s5 ⟨z2,H5,I5,r5,k2,e2,q5⟩;subst e2;subst r5;exact OX #[H5,I5,q5]
def GR(K:zA!)(x:V)(H:Hp)(k:Bool):Prop:=
 match x with
 |.non=>k=θ
 |.bl b=>k=b
 |.int i=>k=gu!
 |.str y=>am!<=sizeLine/\k=((am!:Int) != 0)
 |.byt y=>y.size<=sizeLine/\k=((y.size:Int) != 0)
 |.ref p=>(EC! Ek K)\/(EC! Fb K)\/∃h1,H p=ψ dT!/\k=! m2!
 |_=>False
def a9s(r:KV h1 vs):(!vs.isEmpty)=! m2!:=by cases r<;>rfl
def wB(r:G2_ xs):(! m2_)=! dS_:=by cases r<;>simp
def rC:(sizeLine:δ)<2 ^ 63:=by rw[PB];decide
def d1f:JM X (λx H Q=>∃k,GR X.K x H k/\Q k H):=by
 intro hb s Z H x v Q I rx h;let#[k,e,q]:=h;let hl:=rC;let hs:sizeLine=16777216:=PB;cases x with
 |non=>
  subst rx;let e':k=false:=e;subst e';exact truthy_none m3_
 |bl b=>
  subst rx;let e':k=b:=e;subst e';exact OX m3_
 |int i=>
  show"!G";let e':k=gu!:=e;subst e';exact PySem.P.truthy_int m3_
 |str y=>
  show"!G";obtain⟨hy,e'⟩:am!<=sizeLine/\k=((am!:Int) != 0):=e;subst e';exact PySem.P.truthy_str a! #[H,aL!,q]
 |byt y=>
  show"!G";obtain⟨hy,e'⟩:y.size<=sizeLine/\k=((y.size:Int) != 0):=e;subst e';exact W.truthy_bytes a! #[H,aL!,q]
 |ref p=>
  subst rx;let e':(EC! Ek X.K)\/(EC! Fb X.K)\/∃h1,H p=ψ dT!/\k=! m2!:=e;obtain⟨xs,hx,e'⟩|⟨xs,hx,e'⟩|⟨h1,hx,e'⟩:=e'
  .subst e';let#[its,r,pl,hz]:=Ej_ hx;let ar:=ax!;exact Fu! wpAny_truthy_list iV_ tj!
  .subst e';let#[its,r,pl,hz]:=Dq_ hx;let ar:=ax!;exact truthy_tuple pl iV_ tj!
  .subst e';obtain⟨hz,hS,vs,r,m⟩:aw_<=sizeLine/\(p==sysModules)=θ/\∃vs,KV h1 vs/\s.heap.DictOf (mixKind X.prog X.w) p vs:=I.hok p _ hx;let ar:aw_=ba!:=TR r;exact wpAny_truthy_dict hS m a! #[H,aL!,by rw[a9s r];exact q]
 |_=>exact(tj_).elim
def b8t(ha:aR!)(he:∀fw,isTrue a X.env fw=(do let v <-fw;standAt a.pos;holding [v] mn_)):
  PT X a (λZ H Q=>ta Z H λx H'=>∃k,GR X.K x H' k/\Q k H'):=by
 show"!E";exact isTrue_plain (Ek! d1f) (he _)
def a8u:Fu X eS! (λx y H Q=>∃i j,x=.str i/\y=.str j/\i.length+j.length<=sizeLine/\Q (.str (i++j)) H):=by intro hb s Z H x y v u Q I rx ry h;let#[i,j,rfl,rfl,hz,q]:=h;let#[t,rfl]:=rx;let#[t',rfl]:=ry;exact add_str (λt' tk=>#[.str (i++j),H,aL!,D_,q]) hz
def gV(r:Ax [x] us):∃u,us=[u]/\Bj x u:=by
 cases r with
 |cons r1 r2=>cases r2;exact Hp! r1
def tY(r:Ax [x,y] us):∃u w',us=[u,w']/\Bj x u/\Bj y w':=by
 cases r with
 |cons r1 r2=>
  cases r2 with
  |cons r3 r4=>cases r4;exact#[_,_,χ,r1,r3]
def c4g:Fm X tl_ tm!:=by intro hb s Z H xs us Q I r h;let#[i,rfl,q]:=h;let#[u,rfl,t,rfl]:=gV r;exact call_abs_int λu tk=>#[.int iX!,H,aL!,D_,q]
def a3g:Fm X ba_ (λxs H Q=>∃i,xs=c7_/\c8_<1920/\Q m5! H):=by intro hb s Z H xs us Q I r h;let#[i,rfl,hz,q]:=h;let#[u,rfl,t,rfl]:=gV r;exact PySem.P.str_of_int hz tn!
def c4d:Fm X to! tp_:=by intro hb s Z H xs us Q I r h;let#[x,rfl,hz,q]:=h;let#[u,rfl,t,rfl]:=gV r;exact ord_of_one hz iY!
def EQ(K:zA!)(x:V)(H:Hp)(n:δ):Prop:=
 match x with
 |.str y=>am!<=sizeLine/\n=am!
 |.byt y=>y.size<=sizeLine/\n=y.size
 |.ref p=>(Ip! K)\/∃xs,Fb K H p xs/\n=i!
 |_=>False
def cR:Fm X tq! (λxs H Q=>∃x n,xs=[x]/\EQ X.K x H n/\Q dT_ H):=by
 intro hb s Z H xs us Q I r h;let#[x,n,rfl,e,q]:=h;let#[u,rfl,rx]:=gV r;let hl:=rC;let hs:sizeLine=16777216:=PB;cases x with
 |str y=>
  show"!G";obtain⟨hy,e'⟩:am!<=sizeLine/\n=am!:=e;subst e';exact len_str a! iY!
 |byt y=>
  show"!G";obtain⟨hy,e'⟩:y.size<=sizeLine/\n=y.size:=e;subst e';exact W.len_bytes a! iY!
 |ref p=>
  subst rx;let e':(Ip! X.K)\/∃xs,GR_ p xs/\n=i!:=e;obtain⟨xs,hx,e'⟩|⟨xs,hx,e'⟩:=e'
  .subst e';let#[its,r',pl,hz]:=Ej_ hx;let ar:=gv!;exact Fu! Calls.call_len_list iV_ tq_
  .subst e';let#[its,r',pl,hz]:=Dq_ hx;let ar:=gv!;exact len_tuple pl iV_ tq_
 |_=>exact(tj_).elim
end
structure Wi(h:Heap)(x dx C:sw!)(mA:Q!):Prop where
 obj:h.get? x=ψ l1!
 ns:h.Ns1 dx mA
 ne:dx≠x
def b6a{h:Heap}(n:h.Ns1 dx mA):∃od,h.get? dx=ψ od/\∀name,HU! od=ψ (mA name):=by
 let#[o,es,ep,ho,hd,hk,_,hm]:=n;exact#[o,ho,λname=>?_];let e:=hm name;delta nsFind findBy at e;rw[<-Array.find?_toList]at e;delta W.lookIn;rw[hd];show"#8";split
 .rename_i y q;rw[q]at e;exact Jt! e
 .rename_i q;rw[q]at e;let a:es.toList.any (·.refKey)=false:=by
   rw[List.any_eq_false];intro y hy;let#[z,t,hkey]:=hk y (Array.mem_toList_iff.mp hy);simp[DictEntry.refKey,hkey]
  let a':¬es.toList.any (·.refKey)=true:=by rw[a];exact NS
  rw[MZ a'];exact Jt! e
def Wi.look(I:Wi h x dx C mA):∃od,W.InstAt h x l1! C (ψ od)/\∀name,HU! od=ψ (mA name):=
 let⟨od,ho,hl⟩:=b6a I.ns
 #[od,#[I.obj,χ,χ,ho],hl]
section
variable{prog:yM!}{w:yK!}{A:uB!}{E:Value->Shared->Prop}{s:yU!}{K:zA!}{x dx C f:sw!}{mA:Str->Option Value}{name:Str}{v:v5!}
def c8c(X:iY_)(I:m6!)(hg:tr_)(hh:ts!)
  (ha:DA_ K name=ψ υ)(hv:mA name=ψ v)(w6:W.handedIn v=τ)(h:Q v {s with toks:=s.toks+1}):
  wpAny n! A (getAttr gb_ name expr) Q E s:=by
 show"#=";exact W.get_value X af (m6_).1 (W.findObj_own hh ha χ (by rw[hl,hv])) w6 h
def c2m(X:iY_)(I:m6!)(hg:tr_)
  (hf:DA_ K name=ψ dU!)(ht:W.isFn K ad_=τ)(hv:mA name=υ)(h:Q (.ref f,[.ref x]) s):
  wpAny n! A (getMethod gb_ name pl) Q E s:=by
 show"#=";exact W.method_fn X af (m6_).1 (m6_).2 hf (QK.mp ht) (by show(HU! od).map (·.isSome)=ψ θ;rw[hl,hv];rfl) h
def c5l(X:iY_)(I:m6!)
  (hs:DA_ K "__setattr__"=ψ tu!)(hp:W.plainOver K C=τ)(ht:W.takerIn K C name=ψ υ)(hh:ts!)
  (hw:G3! ns)(bi:tv!)
  (h:∀h',Wi h' x dx C (λy=>if y=name then ψ v else mA y)->Dh! dx->Q () {s with heap:=h',toks:=s.toks+2}):
  wpAny n! A (setAttr gb_ name v) Q E s:=by
 show"#=";exact W.set_plain X af hs (W.osa_open (s:=m7!) (r:=υ) X af hp ht λb=>?_);let#[cd,hc,iu]:=W.any_some hh;let hx:yK_ x=ψ #[.ref C,ψ dx,.plain,#[]]:=I.obj;exact G6! (Jr! (XG hx (MC (W.Looks.here (s:=m7!) (W.looks_clsIn X hc) ?_))));rw[iu];exact MH (a:=ψ dx) (G6! gw!);exact wpAny_nsSet1 (s:=m7!) I.ns λh' iz bp=>?_;let#[oD,esD,epD,w9,xa,hcD]:=iz.count (PySem.Within.cons name v hw);exact MC (wpAny_lookBehind w9 (by rw[xa];exact pastItsLine_dict (NW hcD (D8! NH))) ?_);exact MH (h _ #[(bp.2 _ (NY I.ne)).trans I.obj,iz,I.ne] bp)
def c1c(X:iY_)(hm:W.makesIn K C=τ)
  (hi:JP_ K=ψ dU!)(hf:W.typeIn K ad_=ψ (.type "function"))
  (h:codeAny n! (A.under (FF! vs)) (.call ad_ #[.ref X!::vs,kw]) (W.InitBack X! R)
   {s with heap:=(eW!).push iZ_}):
  codeAny n! A (.call aa_ #[vs,kw]) R s:=by
 let#[hh,g,d,t,os]:=s;exact W.make_core (W.makes_of X hm) (W.looks_findIn X hi) (λself=>W.bind_fn X self hf) W_ h
end
def Jv(f:Str)(v:V):μ cZ_->μ cZ_
 |[]=>[(f,v)]
 |(g,x)::r=>if g=f then(g,v)::r else(g,x)::Jv f v r
def sD(f g:Str)(v:V):∀fs:List cZ_,GB! i0! g=if g=f then ψ v else DU! g
 |[]=>by
  show Eo! g [(f,v)]=_;by_cases h:g=f
  .let J:(g==f)=true:=QK.mpr h;simp![List.lookup,J,MO h]
  .let J:(g==f)=false:=OJ.mpr h;simp![List.lookup,J,MZ h]
 |(k,x)::r=>by
  let ih:=sD f g v r;rw[m8_];by_cases hk:k=f
  .rw[bb!];by_cases h:g=k
   .let J:(g==k)=true:=QK.mpr h;simp![List.lookup,J,MO (h.trans hk)]
   .let J:(g==k)=false:=OJ.mpr h;simp![List.lookup,J,MZ (λe:g=f=>h (e.trans hk.symm))]
  .rw[bb_];by_cases h:g=k
   .let J:(g==k)=true:=QK.mpr h;simp![List.lookup,J,MZ (λe:g=f=>hk (h.symm.trans e))]
   .let J:(g==k)=false:=OJ.mpr h;simp![List.lookup,J];exact ih
def rD(f:Str)(v:V):∀fs:List cZ_,f∈Dc_ i0!/\∀g,g∈fs.map e_->g∈Dc_ i0!
 |[]=>#[by simp[Jv],λg h=>by simp at h]
 |(k,x)::r=>by
  let#[i1,i2]:=rD f v r;rw[m8_];by_cases hk:k=f
  .rw[bb!];subst hk;exact#[Q_,λg h=>by simpa using h]
  .rw[bb_];exact#[?_,λg h=>?_]
   .rw[MU];exact MF _ i1
   .rw[MU]at h ⊢;obtain e|e:=MM.mp h
    .exact MM.mpr (.inl e)
    .exact MF _ (i2 g e)
def sF(f:Str)(v:V):∀fs:List cZ_,(i0!).length<=bq_+1
 |[]=>by simp[Jv]
 |(k,x)::r=>by
  let ih:=sF f v r;rw[m8_];by_cases hk:k=f
  .rw[bb!,NH,NH];omega
  .rw[bb_,NH,NH];omega
def Mw.some_of(r:Mw aD! o):∃u,o=ψ u/\Bj v u:=by
 cases o with
 |none=>exact(i0_).elim
 |some u=>exact#[u,χ,r]
def Mw.none_of(r:Mw υ o):o=none:=by
 cases o with
 |none=>rfl
 |some u=>exact(i0_).elim
def b6j(r:a8_):W.handedIn u=true:=by
 cases v with
 |non=>cases (show u=dI_ from r);rfl
 |bl b=>cases (show u=Value.bool b from r);rfl
 |int i=>let#[t,e]:=tC_;subst e;rfl
 |str x=>let#[t,e]:=tD!;subst e;rfl
 |byt b=>let#[t,e]:=(Ip_ Value.bytes);subst e;rfl
 |flt b=>let#[t,e]:=(Ip_ Value.float);subst e;rfl
 |ref a=>cases (show u=Value.ref a from r);rfl
 |ty n=>cases (show u=Value.type n from r);rfl
section
variable{P:yM!}{w:yK!}{H H':Hp}{h h':Heap}{a C dx:sw!}{fs fs':List (Str×V)}
def a2o(hok:a8!)(e:i1!):∃mA,Wi h a dx C mA/\rl_/\G3! l1_/\bq_<=1000/\H dx=ψ gb!:=by let#[d,z,ne,ob,mA,n,r,q]:=(HG! eW_ hok);exact#[mA,#[ob,n,ne],r,q,z,d]
end
structure Uw(K:zA!)(C:sw!):Prop where
 pg:W.plainGet K C Str.empty=τ
 hd:W.hasDictIn K C=τ
 po:W.plainOver K C=τ
 sa:DA_ K "__setattr__"=ψ tu!
def Uw.get{K:zA!}(c:Uw K C)(f:Str):W.plainGet K C f=true:=c.pg
def Dl(K:zA!)(C:sw!)(f:Str):Prop:=DA_ K f=ψ υ
def Dl.taker{K:zA!}(n:Dl K C f):W.takerIn K C f=ψ none:=by delta W.takerIn;rw[show DA_ K f=ψ υ from n];rfl
structure Yf(K:zA!)(C:sw!)(m:Str)(f:sw!):Prop where
 at_:DA_ K m=ψ dU!
 fn:W.isFn K ad_=τ
 kp:Et! K ad_=τ
section
variable{X:Cx}{hb:List (Addr×Obj)}{Z:St}{H:Hp}{s:yU!}{a C dx:sw!}{fs:List (Str×V)}{f:Str}{v:V}{A:uB!}{E:Value->Shared->Prop}
def a9z(I:e!)(e:i1!)(c:dU_)(n:Dl X.K C f)(l:DU! f=ψ v)
  (h:∀u s',oX! H s'->Bj v u->Q u s'):Jp_ (getAttr M_ f b):=by
 let#[mA,O,r,_,_,_]:=a2o I.hok e;let#[u,hu,ru]:=Mw.some_of (v:=v) (o:=mA f) (by rw[<-l];exact r f);exact c8c I.kIn O (c.get f) c.hd n hu (b6j ru) (h u _ dV! ru)
def oN(I:e!)(e:i1!)(c:dU_)(k:HG_ g)(l:DU! m=υ)
  (h:Q (.ref g,aU!) s):Jp_ (getMethod M_ m pl):=by
 let#[mA,O,r,_,_,_]:=a2o I.hok e;let hn:mA m=none:=Mw.none_of (by rw[<-l];exact r m);exact c2m I.kIn O (c.get m) k.at_ k.fn hn h
def a8g(I:e!)(e:i1!)(c:dU_)(n:Dl X.K C f)(hl:bq_<1000)(ry:Bj y u)
  (h:∀s',Jg_ (KI_ tE!)->Q () s'):Jp_ (setAttr M_ f u):=by
 let#[mA,O,r,wi,_,ho]:=a2o I.hok e;let hz:(l1_).length<=sizeLine:=by rw[MV,PB];omega
 exact c5l I.kIn O c.sa c.po n.taker c.hd wi hz λh' O' sb=>h _ ?_;let hd:∃o,Df! dx=ψ o:=by let#[o,_,_,e',_]:=O'.ns;exact#[o,e']
 exact I.write (x:=a) (e:=dx) tE_ (.inr ho) (λb q J z=>(sb.2 b J).trans z) hd ?_;exact#[by rw[bD O.ne];exact ho,?_,O.ne,O'.obj,_,O'.ns,λg=>?_,λg hg=>?_]
 .let:=sF f y fs;omega
 .show Mw ((Jv f y fs).lookup g) tF_;rw[sD];by_cases q:g=f
  .rw[MO q,MO q];exact ry
  .rw[MZ q,MZ q];exact r g
 .by_cases q:g=f
  .rw[q];exact(rD f y fs).1
  .exact(rD f y fs).2 g (wi g λz=>hg ?_);show tF_=υ;rw[MZ q];exact z
def Inv.made(I:e!):oX! (upd (Ke! (.own X!)) X! (JV! C))
  {s with heap:=(eW!).push iZ_}:=by
 let e1:(eW!).get? j!=ψ iZ!:=DY! NJ χ;let e2:((eW!).push iZ_).get? X!=ψ iZ_:=by
  let:=NJ eW! (o:=W.instObj C j!) χ;rwa[RK]at this
 let e3:(eW!).Ns s.heap.objs.size gx!:=#[iZ!,#[],_,e1,χ,(λe he=>ξ he b!),cz!];let I1:=I.laid (a:=j!) (o:=.own X!) (h':=s.heap.push iZ!) (t':=s.toks) tG_ u! #[_,e1];exact I1.laid (a:=j!+1) (o:=JV! C) (t':=s.toks) tG_ (TY (RK _ _)) ?_;let ne:j!≠j!+1:=NZ (UR _);exact#[by rw[bD ne,cC],OG _,ne,e2,λ_=>υ,(Heap.Ns1.of_empty e3).at λo q=>MJ _ q,λ_=>i2!,λy hy=>ξ χ hy]
def c9p(J:attributeBase e f env (F7_ e)=F7_ e)
  (h:DR_ n! (F7_ e) (λo ao=>wpAny n! A (getAttr o f τ) Q E ao) E s):Jk! (eval tH! env):=
 Attribute_any_ h (by rw[arm_eval_Attribute,J])
end
def IV(K:zA!)(ta:TE)(f:Str):TE:=λZ H Q=>ta Z H λx H1=>∃a C dx fs v,x=.ref a/\H1 a=ψ eW_/\Uw K C/\Dl K C f/\DU! f=ψ v/\Q v H1
def IZ(K:zA!)(ta tv:TE)(f:Str):TS:=λD Z H=>tv Z H λy H1=>ta Z H1 λx H2=>∃a C dx fs,x=.ref a/\H2 a=ψ eW_/\Uw K C/\Dl K C f/\bq_<1000/\
 D.nx Z (upd H2 a tE!)
section
variable{X:Cx}{o e value:Expr}{f:Str}{pos nh tpos:Pos}{ta tv:TE}
def d2a(he:PE X e ta)(J:C8! e f gh!=Dk_ e):PE X tH! (IV X.K ta f):=by intro hb s Z H Q I h;exact c9p J c4_;rintro u s1 ⟨x,H1,I1,rx,a,C,dx,fs,v,ex,ea,c,n,l,q⟩;subst ex;obtain rfl:u=Value.ref a:=rx;exact a9z I1 ea c n l λu' s2 I2 ru=>#[v,H1,I2,ru,q]
def d1u(ha:nc_)(hv:PE X value tv)(hs:De! value (ψ (Kz_ f nh))=pure θ):PS X (Ez! [.Attribute o f nh] value) (IZ X.K ta tv f):=by intro hb s Z H D I h;exact plainObj_wpAny_Assign_Attribute (dP (JH! hv _) λu s1 ⟨y,H1,I1,ry,q⟩=>dP (ha hb s1 Z H1 _ I1 q) ?_) hs;rintro ov s2 ⟨x,H2,I2,rx,a,C,dx,fs,ex,ea,c,n,l,q2⟩;subst ex;obtain rfl:ov=Value.ref a:=rx;exact a8g I2 ea c n l ry λs3 I3=>#[Z,_,I3,q2]
def d0j(he:c4!)(I:e!)
  (h:te Z H λx H1=>∃a C dx fs g,x=.ref a/\H1 a=ψ eW_/\Uw X.K C/\HG_ g/\DU! m=υ/\
   ∀s1,oX! H1 s1->Be_ (callWith pos (.ref g) aU! tI! eY!) Q X.xe s1)
  (ht:eval tJ! X.env=(do
   let ov <-eval e X.env
   standAt gy!
   let(f,first) <-holding [ov] gy_
   callWith pos f first tI! eY!)):
  wpAny h_ X.A (Dk_ tJ!) Q X.xe s:=by
 exact W.methodCall_KW (pl:=pl) c4_ ht;rintro u s1 ⟨x,H1,I1,rx,a,C,dx,fs,g,ex,ea,c,k,l,q⟩;subst ex;obtain rfl:u=Value.ref a:=rx;exact oN I1 ea c k l (q s1 I1)
end
structure Ah(k:Nat)(A:uB!):Prop where
 hd:A.handled=υ
 dp:A.depth+3*k+5<recursionLimit
 un:A.units+16*k+200<cLine
 gd:A.guards=ψ []
def Ah.mono(r:gz!)(h:j<=k):Ah j A:=#[r.hd,by let:=r.dp;omega,by let:=r.un;omega,r.gd]
def Ah.deeper(r:Ah R! A)(env:Env):Ah k (A.deeper env):=
 #[r.hd,by let:=r.dp;show A.depth+1+3*k+5<_;omega,by let:=r.un;show A.units+3+16*k+200<_;omega,r.gd]
def Ah.in1(r:Ah R! A):Ah k A.in1:=
 #[r.hd,by let:=r.dp;show A.depth+3*k+5<_;omega,by let:=r.un;show A.units+1+16*k+200<_;omega,r.gd]
def a9n{A:uB!}:(i3_).depth=A.depth+1:=by first|rfl|simp[Around.under,Code.weight,Code.isCreation,Code.isGuard,Code.isCaller,Code.frames,Code.isFrame,guardIds]
def a9m{A:uB!}:(i3_).units=A.units+1:=by first|rfl|simp[Around.under,Code.cUnits,Code.frames,Code.isFrame]
def Ah.make(r:Ah R! A)(C:sw!)(us:o_)(kw:i4!):Ah k i3_:=
 #[r.hd,by let:=r.dp;rw[a9n];omega,by let:=r.un;rw[a9m];omega,by first|exact r.gd|(simpa[Around.under,Code.guards,Code.isGuard,guardIds,pushGuards]using r.gd)]
def Ah.depth(r:gz!):A.depth<recursionLimit:=by let:=r.dp;omega
def Ah.units(r:gz!):A.units+64<cLine:=by let:=r.un;omega
def Ah.units0(r:gz!):A.units<cLine:=by let:=r.un;omega
def DF:TA:=λ_ H Q=>Q [] H
def FP(ta:TE)(tr:TA):TA:=λZ H Q=>ta Z H λx H1=>tr Z H1 λxs H2=>Q cz_ H2
section
variable{X:Cx}{e:Expr}{es:List Expr}{te:TE}{t:TA}{pos:Pos}
def eO:PA X [] DF:=λ_ _ _ _ H Q I h=>SK #[[],H,I,.nil,h]
def cU(ha:c4!)(hr:gz_)(hs:ai!:=by rfl):PA X aD_ (FP te t):=by intro pos hb s Z H Q I h;rw[hs];show Di! (spliced (dW!::backTo pos mk!)) s;exact QI eL!;rintro u s1 ⟨x,H1,I1,r1,q1⟩;exact Iq! hr q1 λus s2 ⟨xs,H2,I2,r2,q2⟩=>#[x::xs,H2,I2,.cons r1 r2,q2]
def IM(t:TA):TE:=λZ H Q=>t Z H λxs H1=>i!<=sizeLine/\∀p,H1 p=υ->Ek_ H1 aK!
def IS(t:TA):TE:=λZ H Q=>t Z H λxs H1=>i!<=sizeLine/\∀p,H1 p=υ->Ek_ H1 N_
def b9i {x1}(h:gz_):PE X tL! (IM t):=by intro hb s Z H Q I hq;exact wpAny_Tuple_spliced tL_;let hf:H1 x_=none:=GB_ u!;exact EL! aK!;exact#[z,us,r,Ht! dO! _]
def qS(h:gz_):PE X i4_ (IS t):=by intro hb s Z H Q I hq;exact wpAny_List_spliced tL_;let hf:H1 x_=none:=GB_ u!;exact EL! N_;exact#[z,us,0,r,dO!]
end
abbrev Sp:=μ V->Hp->VK->XK->ν
abbrev BS:=μ Env->Hp->Shared->XK->Value->Shared->ν
structure Qr(P:yM!)(w:yK!)(K:zA!)(mg:Q!)(base:Heap)(A:uB!)(outer:aq_)(s:yU!)(H:Hp):Prop where
 frames:A.frames=ψ outer
 mod:Mod K mg base
 bs:∀b o,base.get? b=ψ o->yK_ b=ψ o/\H b=υ
 bsz:base.objs.size<=j!
 funs:Ez_ base outer
 frf:∀b∈frs outer,H b=υ
 hok:Ko P w H s.heap
 bare:HS_ s.gens
def CE(outer:aq_)(P:yM!)(w:yK!)(H:Hp)(s:yU!)(Q:VK)(u:v5!)(s':yU!):Prop:=
 ∃v H',s'.os=s.os/\HS_ s'.gens/\FU! H/\Ko P w H' s'.heap/\Bj v u/\Q v H'
def CR(CX:BS)(outer:aq_)(P:yM!)(w:yK!)(H:Hp)(s:yU!)(Q:VK)(E:XK)(r:Result)(s':yU!):Prop:=
 match r with
 |.ok (.ret u)=>Iq_ P
 |.ok _=>False
 |.error e=>CX outer H s E e s'
structure Ez(P:yM!)(w:yK!)(K:zA!)(mg:Q!)(base:Heap)(CX:BS)(k:Nat)(f:sw!)(fd:FuncData)(ps:D!)(sp:Sp):Prop where
 len:∀vs H Q E,Fu_ E->ba!=ab!
 run:∀(A:uB!) (outer:aq_) (s:yU!) (H:Hp) (args:Args) (us:o_) (vs:t_) (Q:VK) (E:XK),Ah k A->oW_ Qr A outer s H->GC! args da_->Ax vs us->Fu_ E->
  codeAny E! A (.call ad_ args) (CR CX outer P w H s Q E) s
def Ez.mono{K:zA!}(F:JC! CX j)(h:j<=k):
  Ez P w K mg base CX k f fd ps sp:=#[F.len,λA outer s H args us vs Q E hr=>F.run A outer s H args us vs Q E (hr.mono h)]
def Ez.imp{K:zA!}(F:JC! CX k)
  (h:∀vs H Q E,sp' vs H Q E->Fu_ E):oW_ Ez CX k f fd ps sp':=
 #[λvs H Q E q=>F.len vs H Q E (h _ _ _ _ q),λA outer s H args us vs Q E hr he J hv hs=>F.run A outer s H args us vs Q E hr he J hv (h _ _ _ _ hs)]
def Qr.make{K:zA!}(e:ne!)(C:sw!)(us:o_)(kw:i4!):
  Qr P w K mg base i3_ outer s H:=#[by first|exact e.frames|(simpa[Around.under,Code.envs,Code.isFrame,pushEnvs]using e.frames),e.mod,e.bs,e.bsz,e.funs,e.frf,e.hok,e.bare]
def Qr.in1{K:zA!}(e:ne!):
  Qr P w K mg base A.in1 outer s H:=#[e.frames,e.mod,e.bs,e.bsz,e.funs,e.frf,e.hok,e.bare]
section
variable{X:Cx}{hb:List (Addr×Obj)}{Z:St}{H:Hp}{s s':yU!}
def Inv.env0(I:e!):JA! X.A:=
 #[I.ok.frames,I.ok.mod,I.bs,NW I.ok.bsz I.sz,I.stack,I.stkFree,I.hok,I.bare]
def Inv.after(I:e!)(h:HS! CE X.prog X.w H s Q u s'):DU_ u s':=by let#[v,H',os,bare,un,hok,r,q]:=h;let#[hh,g,d,t,jf]:=s';obtain rfl:jf=s.os:=os;exact#[v,H',I.call (h':=hh) (g':=g) (d':=d) (t':=t) (ch:=[]) un hok bare tO!,r,q]
end
def FQ(sp:Sp)(cf:t_)(E:XK)(t:TA):TE:=λZ H Q=>t Z H λvs H1=>sp db! H1 Q E
def BZ(C:sw!)(m:Str)(sp:Sp)(cf:t_)(E:XK)(ta:TE)(t:TA):TE:=λZ H Q=>ta Z H λx H1=>∃a dx fs,x=.ref a/\H1 a=ψ eW_/\DU! m=υ/\
 t Z H1 λvs H2=>sp (x::db!) H2 Q E
def CA(C:sw!)(sp:Sp)(cf:t_)(E:XK)(t:TA):TE:=λZ H Q=>t Z H λvs H1=>∀x dx,H1 x=υ->H1 dx=υ->dx≠x->
 sp (.ref x::db!) nf_ tP! E
def Ei(K:zA!)(fd:FuncData)(ps:D!)(ds:o_):Prop:=
 ∀(s:yU!) (us:o_),DY! K.In->(eY_).length=ab!->GC! db_ (ps.zip eY_)
def Ei.all{K:zA!}(h:∀us:List Value,aw!=ab!->GC_ fd=pure da_):DC_ K:=λs us _ hl=>by
 rw[OA]at hl ⊢;exact .of_eq (h us hl)
def Jl(CX:BS)(X:Cx)(E:XK):Prop:=∀(hb:w_) (Z:St) (H:Hp) (s:yU!) (e:v5!) (s':yU!),oX! H s->HS! CX H s E e s'->X.xe e s'
section
variable{X:Cx}{CX:BS}{k:Nat}{f C:sw!}{fd:FuncData}{ps:List Str}{sp:Sp}{cf:List V}{ds:List Value}{E:XK}{x m:Str}{p pos ax:Pos}{e o:Expr}{es:List Expr}{ta:TE}{t:TA}
def a0g(F:dW_)(hr:bc_)(J:dX_)(hd:dM_)(hx:dX!)
  (I:e!)(r:eH_)(h:sp db! H Q E):I6! (call ad_ us) a9!:=by
 let r2:Ax db! eY_:=HU_ hd;let hl:(eY_).length=ab!:=by rw[<-r2.length];exact FU_ F.len h
 exact GM_ (F.run X.A X.stack s H db_ eY_ db! Q E hr I.env0 (J s us I.kIn hl) r2 h);cases r with
 |error e=>exact hx hb Z H s e s' I hq
 |ok fl=>
  cases fl with
  |ret u=>exact I.after hq
  |next=>exact Dr! hq
  |brk=>exact Dr! hq
  |cont=>exact Dr! hq
def a0n(F:dW_)(hr:bc_)(hg:J!)(hm:X.mg x=ψ ad_)(hk:Et! X.K ad_=τ)(J:dX_)(hd:dM_)(hx:dX!)
  (ha:eZ_)(a8:y!:=by decide)(he:ai!:=by rfl)(az:aF!:=by rfl):
  PE X aU_ (FQ sp cf E t):=by
 show"!E";exact QH ng_;exact W.callWith_K (h₀:=X.base) I.ok.mod.kin hk tQ! he az;exact a0g F hr J hd hx I1 r q
def c6h(he:nc_)(c:dU_)(hm:HG_ f)(F:dW_)(hr:bc_)(J:dX_)(hd:dM_)(hx:dX!)(ha:eZ_)
  (hst:ai!:=by rfl)(az:aF!:=by rfl)
  (ht:eval i5_ X.env=(do
   let ov <-eval o X.env
   standAt gy!
   let(f,first) <-holding [ov] gy_
   callWith pos f first tT! eY!):=by rfl):
  PE X i5_ (BZ C m sp cf E ta t):=by
 show"!E";show"!>";exact W.callWith_K (first:=aU!) (h₀:=X.base) I.ok.mod.kin hm.kp (Iq! ha q λus s2 ⟨vs,H2,I2,r,q2⟩=>sf!) hst az;exact a0g (us:=.ref a::us) (vs:=.ref a::vs) F hr J hd hx I2 (.cons χ r) q2
def b9m(he:nc_)(c:dU_)(hm:HG_ f)(F:dW_)(hr:bc_)(J:dX_)(hd:dM_)(hx:dX!)
  (ht:eval i6! X.env=(do
   let ov <-eval o X.env
   standAt gy!
   let(f,first) <-holding [ov] gy_
   callWith pos f first nh_ eY!):=by rfl):
  PE X i6! (BZ C m sp cf E ta DF):=by
 show"!E";show"!>";exact W.callWith_K0 (first:=aU!) I1.kIn hm.kp (a0g (us:=aU!) (vs:=aU!) F hr J hd hx I1 tU! q)
structure Mk(K:zA!)(C f:sw!):Prop where
 makes:W.makesIn K C=τ
 init:JP_ K=ψ dU!
 fn:W.isFn K ad_=τ
 kp:Et! K aa_=τ
def a4f(M:ni_)(F:dW_)(hr:gB_)(J:dX_)(hd:dM_)
  (hx:dX!)(I:e!)(r:eH_)
  (h:∀x dx,H x=υ->H dx=υ->dx≠x->sp (.ref x::db!) (upd (upd H dx ip!) x nf!) tP! E):
  wpAny h_ X.A (call aa_ us) a9! X.xe s:=by
 let hq:=Dp! h X! tU_ e0! (NZ (UR _));let I2:=Inv.made (C:=C) I;let r2:Ax (V.ref X!::db!) tV_:=.cons χ (HU_ hd);let hl:(Value.ref X!::us++ds).length=ab!:=by
  let e:=r2.length;rw[FU_ F.len hq]at e;exact e.symm
 exact wpAny_call (c1c (f:=f) I.kIn M.makes M.init (QK.mp M.fn) (UW (F.run _ X.stack _ _ #[Value.ref X!::us,[]] tV_ _ _ E (hr.make C us [])
  (I2.env0.make C us []) (J _ (Value.ref X!::us) I2.kIn hl) r2 hq) λr s' bh=>?_))
 cases r with
 |error e=>exact hx hb Z _ _ e s' I2 bh
 |ok fl=>
  cases fl with
  |ret u=>
   let#[v,H',I3,rv,ev,q3]:=I2.after bh;subst ev;exact#[rv,#[V.ref X!,H',I3,χ,q3]]
  |next=>exact Dr! bh
  |brk=>exact Dr! bh
  |cont=>exact Dr! bh
def c6i(M:ni_)(F:dW_)(hr:gB_)(hg:J!)(hm:gC!)(J:dX_)(hd:dM_)(hx:dX!)
  (ha:eZ_)(a8:y!:=by decide)(he:ai!:=by rfl)(az:aF!:=by rfl):
  PE X aU_ (CA C sp cf E t):=by
 show"!E";exact QH ng_;exact W.callWith_K (h₀:=X.base) I.ok.mod.kin M.kp tQ! he az;exact a4f M F hr J hd hx I1 r q
def b9n(M:ni_)(F:dW_)(hr:gB_)(hg:J!)(hm:gC!)(J:dX_)(hd:dM_)(hx:dX!)
  (a8:y!:=by decide):PE X tW_ (CA C sp cf E DF):=by
 show"!E";exact QH ng_;exact W.callWith_K0 I.kIn M.kp (a4f (us:=[]) M F hr J hd hx I .nil h)
end
structure Fc(N P:D!)(sc:Scope):Prop where
 kind:sc.kind=.function
 co:sc.isCoroutine=θ
 gen:sc.isGenerator=θ
 nd:N.Nodup
 pre:N.take P.length=P
 par:∀x∈P,DF! x=DM! ψ\/DF! x=ψ .cell
 nofree:∀y∈sc.names,y.2≠.free
def zT{kindOf:i7_}:∀{binds:i4!} {m:Q!},tX!->bindL kindOf binds m x=m x
 |[],_,_=>rfl
 |(n,v)::r,m,h=>by
  delta bindL;rw[zT λw hw=>h w (MF _ hw)];split
  .let:x≠n:=by rintro rfl;exact h v ML
   simp[this]
  .rfl
def zV{kindOf:i7_}:∀{binds:i4!} {m:Q!},tX!->bindC kindOf binds m x=m x
 |[],_,_=>rfl
 |(n,v)::r,m,h=>by
  delta bindC;rw[zV λw hw=>h w (MF _ hw)];split
  .rfl
  .let:x≠n:=by rintro rfl;exact h v ML
   simp[this]
def zU{kindOf:i7_}:∀{P:D!} {vs:o_} {i:δ} {m:Q!},P.Nodup->P[i]?=ψ x->vs[i]?=ψ v->kindOf x=DM! ψ->
  bindL kindOf (P.zip vs) m x=ψ v
 |[],_,_,_,_,h,_,_=>by simp at h
 |_::_,[],_,_,_,_,h,_=>by simp at h
 |p::P,w::vs,0,m,nd,Y,h2,hk=>by
  simp at Y h2;subst Y;subst h2;show GD! bindL p=_;delta bindL;rw[zT λv hv=>(i8_).1 (XZ hv).1,bb!];simp
 |p::P,w::vs,i+1,m,nd,Y,h2,hk=>by
  show GD! bindL x=_;delta bindL;exact zU (i:=i) (i8_).2 tZ! tY_ hk
def zW{kindOf:i7_}:∀{P:D!} {vs:o_} {i:δ} {m:Q!},P.Nodup->P[i]?=ψ x->vs[i]?=ψ v->kindOf x≠DM! ψ->
  bindC kindOf (P.zip vs) m x=ψ v
 |[],_,_,_,_,h,_,_=>by simp at h
 |_::_,[],_,_,_,_,h,_=>by simp at h
 |p::P,w::vs,0,m,nd,Y,h2,hk=>by
  simp at Y h2;subst Y;subst h2;show GD! bindC p=_;delta bindC;rw[zV λv hv=>(i8_).1 (XZ hv).1,bb_];simp
 |p::P,w::vs,i+1,m,nd,Y,h2,hk=>by
  show GD! bindC x=_;delta bindC;exact zW (i:=i) (i8_).2 tZ! tY_ hk
nonrec def start(N:D!)(vs:t_):St:=vs.map ψ++Da! (ja! - ba!) υ
def Jk(CX:BS)(P:yM!)(w:yK!)(K:zA!)(mg:Q!)(base:Heap)(N:D!)(qual:Str)(scope:Scope)(f:sw!)(cd:v5!)(A:uB!)(outer:aq_)(s:yU!)(H:Hp)(E:XK):Cx where
 prog:=P
 w:=w
 K:=K
 mg:=mg
 base:=base
 A:=A.deeper gE!
 N:=N
 s₀:=s
 H₀:=H
 env:=El! qual scope f cd
 outer:=outer
 stack:=El! qual scope f cd::outer
 ex:=[]
 calm:=τ
 fn:=λ_=>τ
 pn:=[]
 xe:=λe s'=>wpAny E! (A.deeper gE!) (leaving gE! e) (λ_ xb=>CX outer H s E e xb) (λe' xb=>CX outer H s E e' xb) s'
def a7k{sc:Scope}(h:DF! x=ψ .cell):∃c,(cellsFrom n sc.names []).lookup x=ψ c:=by let q:=W.cellsFrom_some sc.names n [] (.inl h);exact VJ.mp q
def b6f{K:zA!}
  (S:Fc N ps scope)(hd:bM!)(e0:ne!)(hl:ba!=ab!)(r:eH_)
  (x:Dp! InCallC s (Hp_ bindL) t0_ (Hp_ bindC) s1):
  Inv t1! [] gF_ H s1:=by
 let az:ab!<=ja!:=by let:=JI! S.pre;rw[RN]at this;omega
 let#[Y,tk,rfl,hk]:=x.done;let sj:∀b:Addr,b∉(t1!).ex:=λb z=>C6_ t2! b!;exact⟨#[e0.mod,S.kind,χ,χ,NC _,λy z c Y h2=>?_,λy hy=>?_,λy c _ h=>?_,λ_=>hd,Around.frames_deeper e0.frames,.inr ae!,t3_,e0.bs,e0.bsz,λb _ _=>sj b,t3_,e0.funs,e0.frf],
  rfl,e0.bare,Un.kept hk,#[_,x.toInCall.ns,λi y v Y h2 h3=>?_],λy c h=>#[_,x.cell y c h],e0.hok.fresh u!,λy c h=>?_,λp hp=>C6_ (show p∈([]:μ eE_)from hp) b!,e0.hok.kept hk,?_⟩
 .exact name_of_addr x.apart (RD Y) (RD h2)
 .let hy:Eb! y=ψ .cell\/Eb! y=ψ .free:=hy;obtain hy|hy:=hy
  .exact a7k hy
  .exact Dd! (S.nofree _ (RD hy))
 .exact SE t4!
 .let hi:i<ba!:=by
   delta start at h2;by_cases hi:i<ba!
   .exact hi
   .rw[e1_]at h2;rw[QY]at h2;split at h2<;>cases h2
  let ha:vs[i]?=ψ v:=by
   delta start at h2;rw[QA gH!,OE]at h2;cases e:vs[i]? with
   |none=>rw[e]at h2;rcases h2
   |some a=>rw[e]at h2;cases h2;rfl
  let#[u,hu,rv]:=r.get ha;let hp:ps[i]?=ψ y:=by
   rw[<-S.pre,List.getElem?_take_of_lt a!];exact Y
  let YQ:ps.Nodup:=by rw[<-S.pre];exact S.nd.sublist (List.take_sublist _ _)
  exact#[u,rv,?_];obtain k|k:=S.par y (TD hp)
  .exact .inl #[k,zU YQ hp hu k]
  .let#[c,e]:=a7k (n:=j!+1) k;exact .inr #[.inl k,c,e,?_];let q:=x.cell y c e;rw[zW YQ hp hu (by show scope.names.lookup y≠_;rw[k];decide)]at q;exact q
 .exact e0.hok.fresh (SE t4!)
 .delta start;show _=ja!;rw[NR,MV,RQ];omega
def d0r{K:zA!}{kV:v5!}
  (lk:DW! f=El_ t4_)(bw:t5!)(S:Fc N ps scope)
  (len:t5_)
  (qe:∀(A:uB!) (outer:aq_) (s:yU!) (H:Hp) (vs:t_) (Q:VK) (E:XK),EE_ scope->Fu_ E->
   ∃t,G4_ nn! t/\t {nx:=λ_ H'=>Q .non H',rt:=Q} gF_ H):
  Ez P w K mg base CX R! f t4_ ps sp:=by
 exact#[len,λA outer s H args us vs Q E hr e0 J r d6=>?_];let hl:=FU_ len d6;let KX:DY! K.In:=e0.mod.kin.keeps λb o e=>(e0.bs b o e).1;let ai:s.heap.NoLimit:=e0.mod.nolimit.keeps λb o e=>(e0.bs b o e).1;let c9:∀y∈ps.zip us,scope.names.lookup y.1=DM! ψ\/(scope.names.lookup y.1=ψ .cell/\((t0_).lookup y.1).isSome=τ):=by
  rintro⟨n,v⟩ hy;obtain q|q:=S.par n (XZ hy).1
  .exact .inl q
  .exact .inr #[q,W.cellsFrom_some _ _ _ (.inl q)]
 exact codeAny_call_function hr.depth (KX _ _ lk) χ S.co S.gen χ (W.codeRec_of KX bw) (J _ _ _ _ ?_);exact wpAny_newFunctionEnv_cells S.kind c9 λenv he s1 x=>?_;subst he;exact#[ai.keeps x.toInCall.keep,codeAny_func ?_];let#[t,ht,hq]:=qe A outer s H vs Q E (hr.deeper _) d6;let I:Inv nn! [] gF_ H s1:=b6f S hr.hd e0 hl r x;exact PF (ht [] s1 gF_ H _ I hq) (λfl s' hs=>?_) λe s' hs=>hs;let fin:∀{ae:St} {H':Hp} {v:V} {u:v5!},Inv nn! [] ae H' s'->Bj v u->Q v H'->Iq_ P:=
  λ{ae H' v u} af rv q=>#[v,H',af.os,af.bare,af.base,af.hok,rv,q]
 cases fl with
 |ret u=>
  let#[v,ae,H',af,rv,q]:=hs;exact fin af rv q
 |next=>
  let#[ae,H',af,q]:=hs;exact fin (v:=V.non) (u:=dI_) af χ q
 |brk=>
  let#[_,_,_,q]:=hs;exact Dr! q
 |cont=>
  let#[_,_,_,q]:=hs;exact Dr! q
section
variable{X:Cx}{x:Str}{p pos:Pos}{e:Expr}{es:List Expr}{t:TA}{id T:String}{r:List V->Hp->VK->Prop}
def KB(r:eR_)(t:TA):TE:=λZ H Q=>t Z H λvs H1=>r vs H1 Q
def pE(hc:no!)(hg:J!)(hm:cx_)(hv:no_)(ha:eZ_)(hn:cy!:=by decide)(a8:y!:=by decide)
  (he:ai!:=by rfl)(az:aF!:=by rfl):PE X aU_ (KB r t):=by
 show"!E";exact QH t7!;exact PyProof.Rows.callWith_builtin1 t7_ he az
def yI(hc:np_)(hg:J!)(hm:cx_)(hv:jd!)(ha:eZ_)(hn:cy!:=by decide)(a8:y!:=by decide)
  (he:ai!:=by rfl)(az:aF!:=by rfl):PE X aU_ (KB r t):=by
 show"!E";exact QH t7!;exact PQ t7_ he az
end
end L2
namespace HT
open PySem PyProof.Rows
nonrec def lexLt:μ Int->μ Int->Bool
 |[],[]=>θ
 |[],_::_=>τ
 |_::_,[]=>θ
 |x::xs,y::ys=>if x=y then lexLt xs ys else decide (x<y)
def lexLt_cons(x y:Int)(xs ys:r_):lexLt cz_ (y::ys)=if x=y then lexLt xs ys else decide (x<y):=χ
def lexLt_nil_nil:lexLt [] []=false:=χ
def vQ(y:Int)(ys:r_):lexLt [] (y::ys)=true:=χ
def vR(x:Int)(xs:r_):lexLt cz_ []=false:=χ
def c2y(A:uB!)(s:yU!)(a:Int)(t:Tok)(c:Int)(u:Tok):∃e,Ir! A gH_ nq! e/\(e=τ↔a=c):=
 #[(a==c),VO a t c u,Q_]
section
variable{prog:yM!}{w:yK!}{A:uB!}{E:Value->Shared->Prop}{s:yU!}
def cat_tup(ht:Jz_ t cC!)(J:Jz_ b ws.toArray)(hv:vs≠[])
  (Y:ws=[]->Q je! s)(h2:ws≠[]->Q br_ {s with heap:=s.heap.push {cls:=.type "tuple",data:=.seq (vs++ws).toArray}})
  (bi:ba!+ca_<=sizeLine):Jk! (binaryOp .Add je! d0!):=by
 let#[#[cls,dd,data,sl],ho,hc,n,hd]:=id ht;let#[#[YR,mh,data2,gu],jz,j0,n2,j4]:=id J;simp only at hc hd j0 j4;subst hc hd j0 j4;let e:cC!++ws.toArray=(vs++ws).toArray:=by simp
 by_cases hw:ws=[]
 .exact Dm_ _
   (EW_ tuple_addW1 (DS! hw)) #[ho,jz,Y hw]
 .exact Dm_ _
   (EW_ tuple_addW2 nr! (by rw[MX,MX];exact bi)) #[ho,jz,?_]
  rw[e];exact h2 hw
nonrec def sIx(n d:δ):Da_ Int->δ
 |none=>d
 |some v=>if v<0 then(nr_).toNat else min v.toNat n
def sIx_none(n d:δ):sIx n d υ=d:=χ
def sIx_nat(n d k:δ):sIx n d (ψ (k:Int))=min k n:=by show(if(k:Int)<0 then((k:Int)+(n:Int)).toNat else min (k:Int).toNat n)=min k n;rw[MZ a!,SX]
def d1m(n d:δ)(hd:d<=n)(o:aW_):sIx n d o<=n:=by
 cases o with
 |none=>exact hd
 |some v=>
  show ub_<=n;by_cases hv:v<0
  .rw[MO hv];omega
  .rw[MZ hv];exact Nat.min_le_right _ _
def b3q(v:Int)(n d:δ):uc!=((sIx n d aD!:δ):Int):=by
 show uc!=((ub_:δ):Int);by_cases hv:v<0
 .simp only[MO hv];omega
 .simp only[MZ hv];omega
def b0w(lo hi:aW_)(n:δ):Builtin.Slice.sliceAdjust lo hi 1 (n:Int)=(jg!,uc_):=by
 let Y:¬((1:Int)<0):=by omega
 delta Builtin.Slice.sliceAdjust;dsimp only[Y,if_false];exact Prod.ext ?_ ?_
 .cases lo with
  |none=>rfl
  |some v=>exact b3q v n 0
 .cases hi with
  |none=>rfl
  |some v=>exact b3q v n n
def a8q(i j:δ):Builtin.Slice.slicePlaces (i:Int) (j:Int) 1=j - i:=by
 delta Builtin.Slice.slicePlaces;let Y:(1:Int)>0:=by omega
 simp![Y,PP,Int.ediv_one];split<;>omega
def uG(p:IsPart v o)(h:Q o s):Jk! (Builtin.Slice.slicePartIndex v):=by
 cases p with
 |none=>exact slicePart_none h
 |int i t=>exact slicePart_int h
def qI{lo hi:aW_}{Q:Int×Int×δ->Shared->ν}(hs:ud!)(pl:IsPart vl lo)(pu:IsPart vu hi)
  (h:Q (jg!,1,sIx n n hi - sIx n 0 lo) s):Jk! (Builtin.Slice.sliceApplied jh! (pure (n:Int))):=by
 let#[os,jh,qf,qg]:=id hs;delta Builtin.Slice.sliceApplied Builtin.Slice.sliceFields;exact Jr! (OY jh qg (x:=vl) χ (MC (OY jh qg (x:=vu) χ (MC (OY jh qg (x:=dg_) χ ab_)))));exact EA! slicePart_none;show JC_ ((1:Int)==0);rw[d1_];exact MC (uG pl (MC (uG pu (MC ab_))));show wpAny _ _ (match Builtin.Slice.sliceAdjust lo hi 1 (n:Int)with|(lo,hi)=>pure (lo,(1:Int),Builtin.Slice.slicePlaces lo hi 1)) _ _ s;rw[b0w lo hi n];show Di! (pure (jg!,(1:Int),Builtin.Slice.slicePlaces jg! uc_ 1)) s;rw[a8q];exact MH h
def b9f(xs:bp_)(i k:δ):((Eo_ k).filterMap λ(m:Nat)=>xs[(nt_).toNat]?).toArray=((xs.toList.drop i).take k).toArray:=by
 let e:(λ(m:Nat)=>xs[(nt_).toNat]?)=λm=>xs[i+m]?:=by
  funext m;let:(nt_).toNat=i+m:=by omega
  rw[this]
 rw[e];let:=pick_run xs i k;rw[List.filterMap_map]at this;let e2:((λx=>xs[x]?)∘λx=>i+x)=λm=>xs[i+m]?:=χ;rw[e2]at this;rw[this]
def getItem_tuple_cut{lo hi:aW_}(ht:Jz_ t ak)(hs:ud!)(pl:IsPart vl lo)(pu:IsPart vu hi)
  (hw:¬(sIx ak.size 0 lo=0/\sIx ak.size ak.size hi=ak.size))
  (h:Q br_ {s with heap:=s.heap.push {cls:=.type "tuple",data:=.seq (nu!).toArray}})
  (bi:ak.size<=sizeLine):Jk! (getItem je! jh!):=by
 let vh:sizeOk (.seq (nu!).toArray):=by
  show(nu!).toArray.size<=sizeLine;rw[MX,RN,XQ,RH];exact NW (Nat.min_le_right _ _) (NW (Nat.sub_le _ _) bi)
 let hj:Gl_ ak.size hi<=ak.size:=d1m _ _ u! hi;let#[os,jh,qf,qg]:=id hs;let hTs:F8! jh! "slice":=#[os,jh,qf];delta getItem
 try with_reducible exact OM ?_
 first|exact MC ab_|skip
 exact MC (wpAny_sequenceKey ht.typeIs a_ ?_);exact MC (OV (name:=BH! "__getitem__") ht.typeIs UK
  (OQ UK ht.typeIs entry_tuple_getitem ?_ (args_tuple_getitem _ _)))
 show Di! (Builtin.Tuple.tupleItemsOf je!>>=_) s;exact EO_ tupleItemsOf_ ht;exact EO_ WO hTs;rw[MO a_];exact MC (qI hs pl pu ?_);let hno:¬(uh!=τ):=by
  intro q;rw[NU,NU]at q;let q1:ug_=0:=eq_of_beq q.1.1;let q2:Gl_ ak.size hi - Gl_ 0 lo=ak.size:=eq_of_beq q.2;exact hw #[p_,p_]
 show JC_ uh!;rw[MZ hno,b9f]
 first
  |exact MC (m:=ji!) (PZ ji_ vh)
  |exact MC (m:=ji!) (PZ (G6! ji_) vh)
  |exact HH! (MH ji_)
  |exact HH! ji_
end
end HT
namespace L2
open PySem PySem.Spec PyProof.Rows
abbrev TO:=St->Hp->(ι Int->Hp->ν)->ν
def PO(X:Cx)(e:Da_ Expr)(t:TO):Prop:=
 ∀(hb:w_) (s:yU!) (Z:St) (H:Hp) (Q:uj!),oX! H s->t Z H Q->
  wpAny h_ X.A (evalPart e X.env) (λu s'=>∃o H',Jg_ H'/\IsPart u o/\Q o H') X.xe s
def AI:TO:=λ_ H Q=>Q υ H
def FL(t:TE):TO:=λZ H Q=>t Z H λx H1=>∃i,x=.int i/\HV! i H1
def wF:∀{us:o_},Ax cb! us->Kh! us:=by
 induction ns with
 |nil=>intro us r;rw[RP]at r;cases r;exact .nil
 |cons n ns ih=>
  intro us r;rw[MU]at r;cases r with
  |cons r1 r2=>
   let#[t,e]:=r1;subst e;exact .cons n t (ih r2)
section
variable{X:Cx}{e:Expr}{te:TE}{lo hi:Option Expr}{tl th:TO}{pos p2:Pos}
def c6d:PO X υ AI:=by intro hb s Z H Q I h;rw[evalPart_none];exact MH #[υ,H,I,dg_,h]
def c6c(h:c4!):PO X iH! (FL te):=by intro hb s Z H Q I hw;rw[evalPart_some];exact dP sb! ?_;rintro u s1 ⟨x,H1,I1,r1,q1⟩;let#[i,rfl,q]:=q1;let#[t,rfl]:=r1;exact#[N!,H1,I1,.int i t,q]
def CT(X:Cx)(r:uj_):Prop:=
 ∀(hb:w_) (s:yU!) (Z:St) (H:Hp) (x:V) (v vl vu:v5!) (lo hi:aW_) (sl:sw!) (Q:VK),oX! H s->Bj x v->s.heap.IsSliceOf sl vl vu .none->IsPart vl lo->IsPart vu hi->r x lo hi H Q->
  ∃T id,Gp_ cB_ "__getitem__"=pure (ψ e3!)/\F8! v T/\I6! (getItem v jh!) a9!
def CT.or(h:CT X r)(h':CT X r'):CT X (λx lo hi H Q=>r x lo hi H Q\/r' x lo hi H Q):=by
 intro hb s Z H x v vl vu lo hi sl Q I rx hs pl pu q;obtain q|q:=q
 .exact Jm_ h
 .exact Jm_ h'
def LJ(r:uj_)(te:TE)(tl th:TO):TE:=λZ H Q=>te Z H λx H1=>tl Z H1 λl H2=>th Z H2 λu H3=>r x l u H3 Q
def b9j(hr:CT X r)(he:c4!)(hl:PO X lo tl)(hu:PO X hi th):PE X (Jh_ e nv!) (LJ r te tl th):=by intro hb s Z H Q I h;exact Subscript_ c4_;rintro v s1 ⟨x,H1,I1,r1,q1⟩;exact wpAny_Slice (dP (DC! hl _) λvl s2 ⟨l,H2,I2,pl,q2⟩=>dP (hu hb s2 Z H2 _ I2 q2) ?_);rintro vu s3 ⟨u,H3,I3,pu,q3⟩;rw[evalPart_none];exact MH ?_;let I4:oX! H3 {s3 with heap:=s3.heap.push {cls:=.type "slice",data:=EM_ vl}}:=I3.kept (t':=s3.toks) λb ob q=>MJ _ q;let#[T,id,hT,ht,hg]:=hr hb {s3 with heap:=s3.heap.push {cls:=.type "slice",data:=EM_ vl}} Z H3 x v vl vu l u s3.heap.objs.size Q I4 r1 (Heap.IsSliceOf.new ..) pl pu q3;show Be_ (subscriptTail e nv! v (.ref uk_)) a9! X.xe {s3 with heap:=s3.heap.push {cls:=.type "slice",data:=EM_ vl}};exact tail_any (ops:=[.ref uk_,v]) ht hT hg (by with_unfolding_all rfl)
def Uq(xs:t_)(lo hi:aW_):μ V:=(xs.drop nw!).take nw_
def sK(xs:t_)(lo hi:aW_):(gJ_).length<=i!:=by delta Uq;rw[RN,XQ];omega
def JB(K:zA!):V->Da_ Int->Da_ Int->Hp->VK->Prop:=λx lo hi H Q=>∃a xs,x=.ref a/\F6_ Fb/\
 ¬(HT.sIx xs.length 0 lo=0/\HT.sIx xs.length xs.length hi=i!)/\∀p,H p=υ->Ek_ H (.tup gJ_)
def d1i:CT X (JB X.K):=by
 intro hb s Z H x v vl vu lo hi sl Q I rx hs pl pu h;let#[a,xs,rfl,hx,hw,q]:=h;subst rx;let#[its,r,ht,hz]:=Dq_ hx;let ar:be!=i!:=by rw[MX];exact r.length.symm
 exact#["tuple",_,UK.lookup,ht.typeIs,?_];exact HT.getItem_tuple_cut ht hs pl pu (BG_ ar hw) ?_ (BG_ ar hz);rw[ar];exact#[di_,_,I.laid (t':=s.toks) (o:=.tup gJ_) ny! u! ?_,χ,q _ e0!];exact#[un!,_,un_,nz_]
def CG(K:zA!):R2:=λx y H Q=>∃a b xs ys,x=.ref a/\y=.ref b/\F6_ Fb/\Fb K H b ys/\xs≠[]/\i!+X_<=sizeLine/\
 (ys=[]->Q M_ H)/\(ys≠[]->∀p,H p=υ->Q bc! (G6_ p eC!))
def Ax.nil_iff(r:dJ!):us=[]↔xs=[]:=by
 cases r with
 |nil=>simp
 |cons _ _=>simp
def c6p:Fd_ eS! CG:=by intro hb s Z H x y v u Q I rx ry h;let#[a,b,xs,ys,rfl,rfl,ha,J,hx,hz,q1,q2]:=h;subst rx;subst ry;let#[its,r1,p1,_]:=Dq_ ha;let#[ij,r2,p2,_]:=Dq_ J;exact HT.cat_tup p1 p2 (λz=>hx (r1.nil_iff.mp z)) (λz=>#[bL!,H,I,χ,q1 (r2.nil_iff.mp z)]) (λz=>?_) (by rw[<-r1.length,<-r2.length];exact hz);exact#[di_,_,I.laid (t':=s.toks) (o:=.tup eC!) ny! u! ?_,χ,q2 (λw=>z (r2.nil_iff.mpr w)) _ e0!];exact#[by rw[NR];exact hz,_,r1.append r2,nz_]
end
def Hv(n:δ)(i:Int):ι Nat:=if 0<=i then(if i<n then ψ i.toNat else υ)else if -(n:Int)<=i then ψ (i+n).toNat else υ
def Et(xs:W!)(i:Int):ι α:=(Fv! i).bind λj=>xs[j]?
def b2z(h:Hv n i=ψ j):seqIndex? i n=ψ j/\j<n/\-(n:Int)<=i/\i<n:=by
 delta Hv at h;by_cases h0:0<=i
 .rw[MO h0]at h;by_cases Y:i<n
  .rw[MO Y]at h;let e:i.toNat=j:=OK h;exact#[by rw[seqIndex_of h0 Y,e],p_,p_,Y]
  .rw[MZ Y]at h;rcases h
 .rw[MZ h0]at h;by_cases Y:-(n:Int)<=i
  .rw[MO Y]at h;let e:(i+n).toNat=j:=OK h;exact#[by rw[seqIndex_neg a! Y,e],p_,Y,p_]
  .rw[MZ Y]at h;rcases h
def a3j(h:Et xs i=ψ v):∃j,seqIndex? i i!=ψ j/\xs[j]?=ψ v/\j<i!/\-(i!:Int)<=i/\i<i!:=by
 delta Et at h;cases e:Fv! i with
 |none=>rw[e]at h;rcases h
 |some j=>
  rw[e]at h;let#[Y,h2,h3,h4]:=b2z e;exact#[j,Y,h,h2,h3,h4]
def Pc(b:Expr):Prop:=∀o i,Ir_ b=operate [o,i] (getItem o i)
def Yg(X:Cx)(r:R2):Prop:=
 ∀(value gw:Expr) (hb:w_) (s:yU!) (Z:St) (H:Hp) (x y:V) (v u:v5!) (Q:VK),oX! H s->Bj x v->Bj y u->G5_ r->
  subscripted gw θ v u=operate [v,u] (getItem v u)->I6! (subscriptTail value gw v u) a9!
def GY(X:Cx)(id:String)(r:nB_):Prop:=
 ∀(hb:w_) (s:yU!) (Z:St) (H:Hp) (x:V) (xs:t_) (v:v5!) (us:o_) (Q:VK),oX! H s->Bj x v->Ax xs us->r x xs H Q->
  wpAny h_ X.A uq_ a9! X.xe s
section
variable{X:Cx}{a b:Expr}{ta tb:TE}{pos:Pos}
def Yg.or(h:Yg X r)(h':Yg X r'):Yg X tc_:=by
 intro value gw hb s Z H x y v u Q I rx ry q hs;obtain q|q:=q
 .exact Fm! h
 .exact Fm! h'
def b9o(hr:Yg X r)(ha:aR!)(J:cv_)(hs:Pc b):PE X nC_ iR!:=by intro hb s Z H Q I h;exact Subscript_ (d4y ha J I h λv u s2 x y H2 I2 rx ry q=>hr a b hb s2 Z H2 x y v u Q I2 rx ry q (hs _ _))
def FX(K:zA!):R2:=λx y H Q=>∃p xs i v,x=.ref p/\y=.int i/\Ek K H p xs/\Et xs i=ψ v/\Q v H
def FV(K:zA!):R2:=λx y H Q=>∃p xs i v,x=.ref p/\y=.int i/\Fb K H p xs/\Et xs i=ψ v/\Q v H
def FW:R2:=λx y H Q=>∃z i c,x=.str z/\y=.int i/\aY!<=sizeLine/\Et z.cps.toList i=ψ c/\Q cD_ H
def b2x:Yg X (FX X.K):=by
 intro value gw hb s Z H x y v u Q I rx ry h hs;let#[p,xs,i,z,rfl,rfl,hq,he,q]:=h;subst rx;let#[t,rfl]:=ry;show"!V";let#[j,Y,h2,h3,h4,h5]:=a3j he;let#[w,ew,a9]:=r.get h2;let hl:=ax!;let hn:=rC;let fin:DU_ w s:=us_;by_cases h0:0<=i
 .let hj:i.toNat=j:=by
   rw[seqIndex_of h0 h5]at Y;exact OK Y
  exact Fu! item_listR h0 a! ur! fin hs
 .let hj:(i+(be!:Int)).toNat=j:=by
   rw[seqIndex_neg a! h4]at Y;rw[MX,<-hl];exact OK Y
  exact subscriptTail_builtinR (x:=w) pl.isList.typeIs ut!
   (wpAny_getItem_list_neg (Q:=ut_) pl.isList a! uu_ a! ur! #[χ,fin]) hs
def d3k:Yg X (FV X.K):=by
 intro value gw hb s Z H x y v u Q I rx ry h hs;let#[p,xs,i,z,rfl,rfl,hq,he,q]:=h;subst rx;let#[t,rfl]:=ry;let#[its,r,pl,hz]:=Dq_ hq;let#[j,Y,h2,h3,h4,h5]:=a3j he;let#[w,ew,a9]:=r.get h2;let hl:=ax!;let hn:=rC;let fin:DU_ w s:=us_;exact subscriptTail_builtinR (x:=w) pl.typeIs slot_tuple_getitem.lookup
  (getItem_tuple (j:=j) (Q:=ut_) pl a! a! (FI_ Y) (Db! ew) #[χ,fin]) hs
def d3l:Yg X FW:=by
 intro value gw hb s Z H x y v u Q I rx ry h hs;let#[z,i,c,rfl,rfl,hz,he,q]:=h;let#[t,rfl]:=rx;let#[t',rfl]:=ry;let#[j,Y,h2,h3,h4,h5]:=a3j he;let hl:z.cps.toList.length=aY!:=by simp[Str.length]
 rw[hl]at Y h4 h5;let hn:=rC;exact tail_any (VE s z t) slot_str_getitem.lookup (getItem_str (c:=c) (by
  let e1:decide (i< -(2 ^ 63:Int))=false:=NA a!;let e2:decide (i>=2 ^ 63)=false:=NA a!;rw[e1,e2,WY]) (by rw[Y];simpa using h2) #[d3!,H,aL!,D_,q]) hs
def JE(K:zA!):R2:=λx y H Q=>FX K x y H Q\/FV K x y H Q\/G5_ FW
def aH:Yg X (JE X.K):=b2x.or (d3k.or d3l)
def a9l(its:o_)(n j:δ)(u:v5!):Obj.mapSeq uw_ {cls:=.type "list",data:=Dz_ n}={cls:=.type "list",data:=.seq (its.set j u).toArray n}:=by simp[Obj.mapSeq]
def Inv.lst(I:e!)(h:H p=ψ N_):
  ∃(its:o_) (n:δ),G2_ xs/\yK_ p=ψ {cls:=.type "list",data:=Dz_ n}/\i!<=sizeLine:=by
 let#[z,its,n,r,e]:=I.hok p _ h;exact#[its,n,r,e,z]
def Inv.lstUpd{its its':o_}(I:e!)(h:H p=ψ N_)
  (ho:yK_ p=ψ {cls:=.type "list",data:=Dz_ n})(hf:f {cls:=.type "list",data:=Dz_ n}={cls:=.type "list",data:=.seq its'.toArray n'})(r:Ax ys its')(hz:jm!)(t:δ):
  Inv X hb Z (upd H p bu_) {s with heap:=D0_ p f,toks:=t}:=by
 let e:(D0_ p f).get? p=ψ {cls:=.type "list",data:=.seq its'.toArray n'}:=by
  rw[QE f ho (by rw[hf]<;>rfl),hf]
 exact I.write (x:=p) (e:=p) (by rw[h];trivial) W_ (λb u J q=>D8_ e6_ q) bv! ?_;exact#[hz,its',n',r,e]
def FS:V->V->V->Hp->mv_->Prop:=λo i v H Q=>∃p xs k j,o=.ref p/\i=.int k/\H p=ψ N_/\Fv! k=ψ j/\Q uz!
def a4d:Yc X FS:=by
 intro hb s Z H o i v ov iv u Q I ro ri rv h;let#[p,xs,k,j,rfl,rfl,hp,hj,q]:=h;subst ro;let#[t,rfl]:=ri;let#[its,n,r,ho,hz]:=I.lst hp;let#[Y,h2,h3,h4]:=b2z hj;let hl:=ax!;let hn:=rC;let I':oX! uz! {s with heap:=D0_ p (Obj.mapSeq uw_)}:=
  I.lstUpd hp ho (a9l its n j u) (r.set rv j) (BG_ RF hz) s.toks
 by_cases h0:0<=k
 .let hk:k.toNat=j:=by
   rw[seqIndex_of h0 h4]at Y;exact OK Y
  exact W.ki_setAt ho h0 a! (FI_ h4) uA!
 .let hk:(k+(be!:Int)).toNat=j:=by
   rw[seqIndex_neg a! h3]at Y;rw[MX,<-hl];exact OK Y
  exact W.ki_setBack ho a! (FI_ h3) a! uA!
def a0d(lo hi:aW_)(n:δ):(nF!).1=((HT.sIx n 0 lo:δ):Int)/\(nF!).2.1=((HT.sIx n n hi:δ):Int)/\(nF!).2.2=1:=by
 exact#[?_,?_,χ]
 .cases lo with
  |none=>simp[sliceBounds,HT.sIx]
  |some i=>
   show"!T"
   .simp only[h,PP]<;>omega
   .simp only[h,PC]<;>omega
 .cases hi with
  |none=>simp[sliceBounds,HT.sIx]
  |some i=>
   show"!T"
   .simp only[h,PP]<;>omega
   .simp only[h,PC]<;>omega
def xA(its:o_)(lo hi:aW_):slicePick its.toArray lo hi υ=((its.drop (HT.sIx its.length 0 lo)).take (HT.sIx its.length its.length hi - HT.sIx its.length 0 lo)).toArray:=by let#[Y,h2,h3]:=a0d lo hi be!;delta slicePick;rw[Y,h2,h3];simp![sliceRange_one,pick_run,MX]<;>rfl
def JC(K:zA!):V->Da_ Int->Da_ Int->Hp->VK->Prop:=λx lo hi H Q=>∃a xs,x=.ref a/\F6_ Ek/\∀p,H p=υ->Kh_ gJ_
def c5i:CT X (JC X.K):=by intro hb s Z H x v vl vu lo hi sl Q I rx hs pl pu h;let#[a,xs,rfl,hx,q]:=h;subst rx;let#[its,r,ht,hz]:=Ej_ hx;let ar:=ax!;exact#["list",_,ut!,ht.isList.typeIs,?_];exact wpAny_getItem_list_slice ht.isList hs pl pu .none b! ?_ uu_;rw[xA,<-ar];exact#[di_,_,I.laid (t':=s.toks) (o:=.lst gJ_) ny! u! ?_,χ,q _ e0!];exact#[un!,_,0,un_,dO!]
def Lm:V->Bool
 |.non=>τ
 |.bl _=>τ
 |.int _=>τ
 |.str _=>τ
 |_=>θ
def Zy:V->V->Bool
 |.non,.non=>τ
 |.bl a,.bl b=>a==b
 |.bl a,.int b=>uC_==b
 |.int a,.bl b=>a==jn_
 |.int a,.int b=>a==b
 |.str a,.str b=>a==b
 |_,_=>θ
def d3v(ry:Bj y u)(rx:Bj x v)(fy:Lm y=τ)(fx:Lm x=τ):Dr_ v (Zy y x):=by
 cases y with
 |non=>
  subst ry;cases x with
  |non=>cases rx;exact SeqAt.EqAt.same _
  |bl b=>cases rx;exact SeqAt.EqAt.none_bool b
  |int b=>let#[t,rfl]:=rx;exact SeqAt.EqAt.none_int b t
  |str b=>let#[t,rfl]:=rx;exact SeqAt.EqAt.none_str b t
  |_=>exact Jp! jo!
 |bl a=>
  subst ry;cases x with
  |non=>cases rx;exact SeqAt.EqAt.bool_none a
  |bl b=>cases rx;exact SeqAt.EqAt.bool_bool a b
  |int b=>let#[t,rfl]:=rx;exact SeqAt.EqAt.bool_int a b t
  |str b=>let#[t,rfl]:=rx;exact SeqAt.EqAt.bool_str a b t
  |_=>exact Jp! jo!
 |int a=>
  let#[t',rfl]:=ry;cases x with
  |non=>cases rx;exact SeqAt.EqAt.int_none a t'
  |bl b=>cases rx;exact SeqAt.EqAt.int_bool a t' b
  |int b=>let#[t,rfl]:=rx;exact VO a t' b t
  |str b=>let#[t,rfl]:=rx;exact SeqAt.EqAt.int_str a t' b t
  |_=>exact Jp! jo!
 |str a=>
  let#[t',rfl]:=ry;cases x with
  |non=>cases rx;exact SeqAt.EqAt.str_none a t'
  |bl b=>cases rx;exact SeqAt.EqAt.str_bool a t' b
  |int b=>let#[t,rfl]:=rx;exact SeqAt.EqAt.str_int a t' b t
  |str b=>let#[t,rfl]:=rx;exact SeqAt.EqAt.str_str a t' b t
  |_=>exact Jp! jo!
 |_=>exact KG! fy
def BK(x:V)(u:v5!):Bool:=match u with
 |.none=>Zy .non x
 |.bool b=>Zy al_ x
 |.int i _=>Zy U! x
 |.str z _=>Zy (.str z) x
 |_=>θ
def c2x(r:Bj y u)(f:Lm y=τ):BK x u=Zy y x:=by
 cases y with
 |non=>cases r;rfl
 |bl b=>cases r;rfl
 |int i=>let#[t,rfl]:=r;rfl
 |str z=>let#[t,rfl]:=r;rfl
 |_=>exact KG! f
def b3s(h:dJ!):xs.all Lm=τ->us.any gO!=xs.any λy=>Zy y x:=by
 induction h with
 |nil=>exact λ_=>χ
 |cons r _ ih=>
  intro f;rw[SW,NU]at f;rw[RT,RT,c2x r f.1,ih f.2]
def vO{A:uB!}{s:yU!}{x:V}{v:v5!}(rx:Bj x v)(fx:Lm x=τ):∀{xs:t_} {us:o_},Ax xs us->xs.all Lm=τ->∀u∈us,Dr_ v (BK x u)
 |_,_,.nil,_=>λu hu=>by exact(MN hu).elim
 |y::xs,u::us,.cons r t,f=>λu' hu=>by
  rw[SW,NU]at f;obtain rfl|hu:=MM.mp hu
  .rw[c2x r f.1];exact d3v r rx f.1 fx
  .exact vO rx fx t f.2 u' hu
def HP(x:V)(xs:t_):Bool:=xs.any λy=>Zy y x
def GA(K:zA!)(neg:Bool):R2:=λx y H Q=>∃p xs,y=.ref p/\(Ek K H p xs\/Fb K H p xs)/\Lm x=τ/\xs.all Lm=τ/\Ew_ (if neg then !HP x xs else HP x xs)
def yK:IU! GA:=by
 intro hb s Z H x y v u Q I rx ry h;let#[p,xs,rfl,hq,fx,fs,q]:=h;subst ry;obtain hq|hq:=hq
 .show"!V";exact Hq! gO! uD_;rw[uE!,b3s r fs];exact q
 .show"!z";exact IU_ gO! uD_;rw[uE!,b3s r fs];exact q
def a3h:Fm X d6! (EF! (Ek X.K H p ys\/Fb X.K H p ys)):=by
 intro hb s Z H xs us Q I r h;let#[p,ys,rfl,hq,q]:=h;let#[u,rfl,rx]:=gV r;cases rx;let fin:∀(its:o_),G2_ ys->X_<=sizeLine->∀(h':Heap) (c':δ),(∀b o',s.heap.get? b=ψ o'->h'.get? b=ψ o')->
   h'.get? j!=ψ {cls:=.type "list",dict:=υ,data:=Dz_ c',slots:=#[]}->DU_ br_ {s with heap:=h'}:=λits r' hz h' c' kp e=>
  #[di_,_,I.laid (t':=s.toks) kp u! (show Dw_ Eb _ h' _ bu_ from#[hz,its,c',r',e]),χ,q _ e0!]
 obtain hq|hq:=hq
 .let#[its,r',pl,hz]:=Ej_ hq;let ar:=gv!;let#[o,ho,hc,n,hd]:=pl.isList;exact Gm! W_
 .let#[its,r',pl,hz]:=Dq_ hq;let ar:=gv!;let#[o,ho,hc,n,hd]:=pl;exact Gm! cE_
def kB:Fm X aZ! (KB! X.K X.K):=by
 intro hb s Z H xs us Q I r h;let#[p,ys,rfl,h]:=h;let#[u,rfl,rx]:=gV r;cases rx;obtain⟨hq,q⟩|⟨hq,q⟩:=h
 .let#[its,r',pl,hz]:=Ej_ hq;let ar:=gv!;exact Fu! call_tuple_list (λh' kp=>?_) nG!;let I1:oX! H {s with heap:=h'}:=I.kept (t':=s.toks) kp;let I2:oX! (upd H h'.objs.size jq_) {s with heap:=h'.push {cls:=.type "tuple",data:=.seq ak_}}:=
   I1.laid (t':=s.toks) (λb o e=>MJ _ e) u! (show Dw_ Eb _ _ _ jq_ from#[hz,its,r',nz_])
  exact#[.ref js!,_,I2,χ,q _ eQ_]
 .let#[its,r',pl,hz]:=Dq_ hq;exact call_tuple_same pl #[.ref p,H,I,χ,q]
def JV(K:zA!)(T:String)(x:V)(H:Hp):Prop:=match x with
 |.str _=>T="str"
 |.int _=>T="int"
 |.ref p=>(T="list"/\∃xs,Ek K H p xs)\/(T="tuple"/\∃o,K.lookup p=ψ o/\o.cls=.type "tuple"/\o.dict=υ)\/
   (T="dict"/\((∃h1,H p=ψ dT!)\/∃h1,H p=ψ jt_))\/(T="set"/\∃S n,H p=ψ (.set S n))
 |_=>False
def d1e{hb:w_}{Z:St}{H:Hp}{s:yU!}{T:String}{x:V}{v:v5!}(I:e!)(r:Bj x v)(ty:JV X.K T x H):
  s.TypeIs v T/\∀a,v=.ref a->∃ob,yK_ a=ψ ob/\ob.dict=none:=by
 cases x with
 |str z=>
  show"#(";cases (show T="str" from ty);exact#[VE s z t,uH!]
 |int i=>
  show"#(";cases (show T="int" from ty);exact#[typeIs_int s i t,uH!]
 |ref p=>
  subst r;obtain⟨rfl,xs,hq⟩|⟨rfl,o,hk,hc,hd⟩|⟨rfl,hk⟩|⟨rfl,S,n,hk⟩:=ty
  .let#[its,_,pl,_]:=Ej_ hq;exact#[pl.isList.typeIs,λa e=>?_];cases e;let#[o,n,e,c,hd,_]:=pl;exact#[o,e,hd]
  .exact#[#[o,I.kIn p o hk,hc],λa e=>?_];cases e;exact#[o,I.kIn _ o hk,hd]
  .let z:∃o,yK_ p=ψ o/\im_:=by
    obtain⟨h1,hk⟩|⟨h1,hk⟩:=hk
    .show"!v"
    .show"!v"
   let#[o,e,ex]:=z;exact uJ_;cases e2;exact uK!
  .let#[o,_,_,_,e,ex,_]:=I.hok p _ hk;exact uJ_;cases e2;exact uK!
 |_=>exact Dr! ty
def LM(K:zA!)(T:String)(r:nB_)(to:TE)(t:TA):TE:=λZ H Q=>to Z H λx H1=>JV K T x H1/\t Z H1 λxs H2=>r x xs H2 Q
variable{o e:Expr}{es:List Expr}{to:TE}{t:TA}{name:Str}{ax ah:Pos}{T id:String}{r:V->List V->Hp->VK->Prop}
def pF(pa:PlainAttrs T)(slot:Slot T name id)(vi:typeOf e3!=pure (.type "method_descriptor"))(hm:GY X id r)(ho:PE X o to)(ha:eZ_)
  (dh:Jt_ name=Dk_ o:=by rfl)
  (dn:((G7! tR!).all bw!&&D3! bw_
   &&decide (GS! aD_))=true:=by rfl)
  (dq:cc!:=by rfl) (hs:ai!:=by rfl) (cx:(uM!).any e_=false:=by rfl):
  PE X (I7_ (D1! o name) aD_) (LM X.K T r to t):=by
 show"!E";exact wpAny_Call_method_late dh dn dq χ sp!;rintro v s1 ⟨x,H1,I1,r1,ty,q1⟩;let#[Y,h2]:=d1e I1 r1 ty;exact#[T,id,pa,slot,vi,Y,h2,?_];let hA:=ha ah hb s1 Z H1 _ I1 q1;rw[hs]at hA ⊢;exact SZ (by show(θ||(uM!).any e_)=θ;rw[cx]<;>rfl) (SH ?_);exact dP hA λus s2 ⟨vs,H2,I2,r2,q2⟩=>hm hb s2 Z H2 x vs v us Q I2 r1 r2 q2
end
def JN(X:Cx)(id:String)(r:nB_):Prop:=
 ∀(hb:w_) (s:yU!) (Z:St) (H:Hp) (x:V) (xs:t_) (v:v5!) (us:o_) (Q:VK),oX! H s->Bj x v->Ax xs us->r x xs H Q->
  wpAny h_ X.A uq_ a9! X.xe s
def Ax.one(h:Ax [x] us):∃u,us=[u]/\Bj x u:=by
 cases h with
 |cons r t=>cases t;exact lZ!
def Ax.rep{xs:t_}(h:dJ!):∀k:Nat,Ax (uN!).flatten (Da! k us).flatten
 |0=>.nil
 |k+1=>by
  rw[RE,RE,SV,SV];exact Ax.append h (Ax.rep h k)
def zE(its:o_):∀(k:δ) (σ:o_),
  List.foldl nK! σ.toArray (Da! k ak_)=(σ++(uN_).flatten).toArray
 |0,σ=>by simp
 |k+1,σ=>by
  let e:σ.toArray++ak_=(nK_).toArray:=by simp
  let e2:nK_++(uN_).flatten=σ++(Da! R! its).flatten:=by
   rw[RE,SV,PN]
  rw[<-e2,<-zE its k nK_,<-e,RE,SO]
section
variable{X:Cx}{hb:List (Addr×Obj)}{Z:St}{H:Hp}{s:yU!}{l b:sw!}{xs ys zs:List V}
def Inv.lset{its its':o_}{n:δ}{f:uP_}{t':δ}(I:e!)(hH:H l=ψ N_)
  (e:yK_ l=ψ {cls:=.type "list",data:=Dz_ n})(hf:f ak_=its'.toArray)(hv:Ax ys its')(hz:jm!):
  Inv X hb Z jp! {s with heap:=D0_ l uQ_,toks:=t'}:=by
 let q:=PySem.IsL.update e f;rw[hf]at q;exact I.write (x:=l) (e:=l) (by rw[hH];exact ο) W_ (λb' u J hu=>(OF s.heap uQ_ e6_).trans hu) #[_,q] ?_;exact#[hz,its',_,hv,q]
def Inv.lnew{its:o_}{t':δ}(I:e!)(hv:G2_ ys)(hz:jm!):
  Inv X hb Z (Dp! upd H bu_) {s with heap:=s.heap.push {cls:=.type "list",data:=.seq ak_},toks:=t'}:=
 I.laid uR! u! #[hz,its,0,hv,dO!]
def Inv.fresh(I:e!):H j!=none:=EE! u!
def Inv.lstM(I:e!)(hH:H l=ψ N_):i!<=sizeLine/\∃(its:o_) (n:δ),G2_ xs/\i!=gT!/\yK_ l=ψ {cls:=.type "list",data:=Dz_ n}:=by let#[z,its,n,r,e]:=I.hok l _ hH;exact#[z,its,n,r,ax!,e]
def a5h{n:δ}(h:nM!):HH_ n=false:=by delta Builtin.List.listTooLong;exact NA a!
end
section
variable{X:Cx}
def AW:V->μ V->Hp->VK->Prop:=λx vs H Q=>∃l xs y,x=.ref l/\vs=[y]/\H l=ψ N_/\i!<sizeLine/\GN! (.lst (xs++[y]))
def yS:JN X "list.append" AW:=by intro hb s Z H x vs v us Q I rx rv h;let#[l,xs,y,rfl,rfl,hH,hz,q]:=h;subst rx;let#[u,rfl,ru]:=rv.one;let#[z,its,n,r,hl,e]:=I.lstM hH;exact SU F.slot_list_append d7_ F.entry_list_append (F.args_list_append_2 _ _) (PySem.list_append l its.toArray n u uU!) jx!;exact#[.non,_,I.lset (its':=its++[u]) hH e b! (HU_ nM_) ?_,χ,q];rw[NR,QR];omega
def AV:V->μ V->Hp->VK->Prop:=λx vs H Q=>∃l b xs zs,x=.ref l/\vs=[.ref b]/\H l=ψ N_/\H b=yJ_ zs/\i!+zs.length<=sizeLine/\GN! uU_
def b5u:JN X "list.extend" AV:=by
 intro hb s Z H x vs v us Q I rx rv h;let#[l,b,xs,zs,rfl,rfl,hH,hB,hz,q]:=h;subst rx;let#[u,rfl,ru]:=rv.one;subst ru;let#[z,its,n,r,hl,e]:=I.lstM hH;let#[z2,ij,n2,r2,hl2,e2]:=I.lstM hB;let bi:be!+uV!<=sizeLine:=by rw[MX,MX];omega
 let xc:¬(! m2_&&Builtin.List.listTooLong (be!+uV!))=true:=by
  rw[a5h bi,VD];exact NS
 exact SU F.slot_list_extend d7_ F.entry_list_extend (F.args_list_extend_2 _ _)
  (AutoSeq1.list_extend_list_list_0 l its.toArray n b ij.toArray n2 xc uU! a!) #[e,e2,?_]
 exact#[.non,_,I.lset (its':=its++ij) hH e b! (HU_ r2) ?_,χ,q];rw[NR];omega
def JD:R2:=λx y H Q=>∃l k xs,x=.ref l/\y=.int k/\H l=ψ N_/\-(2 ^ 63)<=k/\k<2 ^ 63/\i!*k.toNat<=sizeLine/\
 ∀p,H p=υ->Q bc! (upd H p (.lst (Da! k.toNat xs).flatten))
def c7l(xs:W!)(k:δ):(uN!).flatten.length=k*i!:=by
 induction k with
 |zero=>simp
 |succ k ih=>rw[RE,SV,NR,ih,Nat.succ_mul,Nat.add_comm]
def b9x:Fu X s3_ JD:=by
 intro hb s Z H x y v u Q I rx ry h;let#[l,k,xs,rfl,rfl,hH,Y,h2,hz,q]:=h;subst rx;let#[t,rfl]:=ry;let#[z,its,n,r,hl,e]:=I.lstM hH;let ar:be!*k.toNat<=sizeLine:=by rw[MX,<-hl];exact hz
 let hcap:¬be!*k.toNat>(2 ^ 63 - 1) / 8:=by
  let:(sizeLine:δ)<=(2 ^ 63 - 1) / 8:=by decide
  omega
 let xg:¬(!Builtin.List.listFitsIndex k)=true:=by
  rw[fitsIndex_both Y h2];exact NS
 let xc:¬HH_ (be!*k.toNat)=true:=by
  rw[a5h ar];exact NS
 let qh:JD! (if m2_=τ then 0 else k.toNat)=(Da! k.toNat its).flatten.toArray:=by
  let f0:∀m:Nat,JD! m=(Da! m its).flatten.toArray:=λm=>by
   let:=zE its m [];rw[QC]at this;exact this
  rw[f0];cases its with
  |nil=>simp
  |cons a r'=>rw[bO_]
 exact wpAny_binaryOp_repeat_ref (T:="list") (U:="int") a_ d7_ (λs'=>typeIs_int s' k t) noFill_list_mul F.fills_int_mul F.slot_int_rmul repeat_list F.slot_int_index.lookup
  (SU F.slot_int_rmul (typeIs_int s k t) F.entry_int_rmul (F.args_int_rmul_2 _ _) (int___rmul___int_list k t l its.toArray n)
   #[e,χ,d7_,SU F.slot_list_mul d7_ F.entry_list_mul (F.args_list_mul_2 _ _) (AutoListH.list___mul___list_int_3 l its.toArray n k t xg hcap xc) jx!])
 rw[qh];exact#[gU_,_,I.lnew (t':=s.toks) (r.rep k.toNat) (by rw[c7l,Nat.mul_comm];exact hz),χ,q _ I.fresh]
end
section
variable{κ:Type} [DecidableEq κ]
def Ma(h1:HE! κ V)(k:κ):ι V:=(h1.find? λkv=>decide (kv.1=k)).map ar!
def b7n{k:κ}(e:p.1=k):Ma (p::r) k=ψ p.2:=by simp[Ma,RG,e]
def b7o{k:κ}(e:¬p.1=k):Ma (p::r) k=Ma r k:=by simp[Ma,RG,e]
def Mw.isSome_eq(r:Mw o u):o.isSome=u.isSome:=by
 cases o with
 |none=>cases u with
  |none=>rfl
  |some _=>exact(i0_).elim
 |some _=>cases u with
  |none=>exact(i0_).elim
  |some _=>rfl
def KV.val(r:KV h1 vs)(k:κ):Mw (Ma h1 k) (valueAt vs k):=by
 delta KV at r
 induction r with
 |nil=>exact i2!
 |@cons p q ps qs h t ih=>
  let#[Y,h2]:=h;by_cases e:p.1=k
  .let e':q.1=k:=Y.symm.trans e;let b:valueAt (q::qs) k=ψ q.2:=by simp[valueAt,RG,e']
   rw[b7n e,b];exact h2
  .let e':¬q.1=k:=λz=>e (Y.trans z);let b:valueAt (q::qs) k=valueAt qs k:=by simp[valueAt,RG,e']
   rw[b7o e,b];exact ih
end
def c1w(r:Bj (kV k) u):(bq!).is k u=true:=by
 cases k with
 |inl i=>let#[t,e]:=tC_;subst e;exact a5o P w i t
 |inr x=>let#[t,e]:=tD!;subst e;exact mP P w x t
def rF:∀{ks:μ Key} {us:o_},Ax nR! us->ItemsAre bq! ks us
 |[],_,r=>by rw[RP]at r;cases r;exact .nil
 |k::ks,_,r=>by
  rw[MU]at r;cases r with
  |cons h t=>exact .cons (c1w h) (rF t)
abbrev KT(H:Hp):μ l0!->μ l0_->Prop:=Paired λp q=>p.1=q.1/\H q.2.1=ψ rk_/\Bj p.2 q.2.2
section
variable{P:yM!}{w:yK!}{H:Hp}{h:Heap}{a:sw!}
def d5v(ok:a8!)(e:Rd H a u):IT! H h u:=e.ok ok
def a2f(ok:a8!)(e:H a=Ds! nR!):(ga_).is h ks a:=by let#[_,its,r,o,Y,h2,n,h3]:=(HG! (.tup nR!) ok);exact#[o,ak_,n,Y,h2,h3,by simpa using rF r]
def d7g(ok:a8!)(e:Rd H a jt_):aw_<=sizeLine/\dJ_=θ/\
  ∃xs,KT H h1 xs/\h.DictOfH ga_ a xs:=by
 let#[z,y,xs,r,o,es,ep,Y,h2,h3,h4,h5]:=(show Eb P w H h a jt_ from d5v ok e);exact#[z,y,xs,r,o,es,ep,Y,h2,h3,h4,aA!,h5];let all:∀{l:μ l0!} {m:μ l0_},KT H l m->∀x∈m,(ga_).is h x.1 x.2.1:=by
  intro l m q
  induction q with
  |nil=>intro x hx;exact nomatch hx
  |@cons p q ps qs hq t ih=>
   intro x hx;obtain e|hx:=MM.mp hx
   .subst e;exact a2f ok (by rw[<-hq.1];exact hq.2.1)
   .exact ih x hx
 exact all r x hx
def wM(ok:a8!)(e:H a=ψ jt_):aw_<=sizeLine/\dJ_=θ/\
  ∃xs,KT H h1 xs/\h.DictOfH ga_ a xs:=d7g ok (.inl e)
end
section
variable{X:Cx}{hb:List (Addr×Obj)}{Z:St}{H:Hp}{s:yU!}{a:sw!}{y v:V}{u r:v5!}{o:Option V}{A:uB!}{E:Value->Shared->Prop}
def Inv.big(I:e!):sysModules<j!:=by let h:mainGlobals<j!:=(I.mod.glob.keeps I.bk).lt;exact XJ a_ h
def c9b(I:e!)(mu:GX (H a))(hs:u0!)(he:∃q,Df! a=ψ q)(new:Dw_ Eb (KI_ ob) h' a ob):
  Inv X hb Z (KI_ ob) {s with heap:=h',toks:=t'}:=
 I.write (x:=a) (e:=a) mu W_ (λb q J z=>(hs.2 b J).trans z) he new
end
def GW(i:Expr):Prop:=∀ov iv,subscripted i θ ov iv=operate [ov,iv] (getItem ov iv)
def c5f{T id:String}
  (hl:Gp_ cB_ "__getitem__"=pure (ψ e3!))(hs:GW gw)
  (h:DR_ n! (F7_ value) (λo ao=>wpAny n! A (F7_ gw) (λi av=>av.TypeIs o T/\wpAny n! A (getItem o i) Q E av) E ao) E s):
  wpAny n! A (F7_ (Jh_ value gw)) Q E s:=by
 exact Subscript_ (PF h (λo ao h₁=>PF h₁ (λi av j5=>?_) λ_ _ x=>x) λ_ _ x=>x);let#[hT,j5]:=j5;delta subscriptTail;exact MC ?_;rw[Is! hT.not_modules];exact MC (VF hT hl ?_);let fin:DR_ n! (Ir_ gw) (λr fz=>wpAny n! A (FM! o) Q E fz) E av:=by
  rw[hs o i];exact wpAny_operating (PF j5 (λr fz i'=>MC (Ht_ i')) λ_ _ x=>x)
 first
  |exact MH jz_
  |exact G6! jz_
  |exact MC fin
structure M1(X:Cx)(o:Expr)(m:Str)(ax:Pos)(e:Expr)(ah:Pos):Prop where
 base:Jt_ m=Dk_ o
 few:(EY_ jA!&&D3! bw_
  &&decide (FF_ [e]))=τ
 line:nI_=τ
 trees:G7! u1!=[dW!]
structure M2(X:Cx)(o:Expr)(m:Str)(ax:Pos)(e f:Expr)(ah:Pos):Prop where
 base:Jt_ m=Dk_ o
 few:((G7! u2_).all bw!&&D3! bw_
  &&decide (FF_ [e,f]))=τ
 line:nI_=τ
 trees:G7! u2_=[dW!,(θ,eval f X.env)]
end L2
namespace Att
open PySem PySem.W PySem.Calls PyProof.Rows
def sU:∀(ns:r_) (vs:o_),WellAll P h vs u4!->Kh! vs:=by
 intro ns
 induction ns with
 |nil=>
  intro vs w;rw[RP]at w;cases w;exact .nil
 |cons n ns ih=>
  intro vs w;rw[MU]at w;cases w with
  |cons a b=>
   cases a;exact .cons _ _ (ih _ b)
def b4i{l:OpenLaw}(hn:jB_)
  (qi:l.row.toRowW.claim.pre args=τ)(vj:WellAll P h vk args):
  ∃a vs ns,vk=[Value.ref a]/\args=[WData.list u4!]/\h.get? a=ψ {cls:=.type "list",data:=.seq cC!}/\Kh! vs/\c9!<=n:=by
 let hsh:WShape.hasAll [] args [.list .int]=true:=(u5!).1;let hc:l.pre.holds [] {args:=args}=true:=(u5!).2;let#[d,r,rfl,Y,h2]:=hasAllW_cons hsh;obtain rfl:=hasAllW_nil h2;let#[xs,rfl,h3]:=hasW_list Y;let#[ns,rfl]:=items_int h3;let ar:c9!<=n:=by
  delta OpenLaw.pre at hc;let h4:(WTm.not (.lt (.lit (.int (n:Int))) (.len (.arg 0)))).holds [] {args:=[.list jC_]}=true:=by
   let h4:=(holds_andW hc).1;rw[hn]at h4;exact h4
  let h5:=condW_of h4 (w_not (w_lt w_lit (w_len_list (w_arg χ))));rw[MV]at h5;exact Nat.le_of_not_lt λq=>?_;let q':(n:Int)<((c9!:δ):Int):=by omega
  first
   |(rw[NG q']at h5;exact C6_ h5 a_)
   |(simp at h5;omega)
 cases vj with
 |cons w1 w2=>
  cases w2;cases w1 with
  |list ho ji=>exact#[_,_,ns,χ,χ,ho,sU ns _ ji,ar]
def b4o(l:OpenLaw)(args:μ WData):l.row.toRowW.claim.post args ff! args=true:=
 postW_of (r:=l.row.toRowW) (X:=(τ==τ))
  (show WShape.has [] ff! .bool=τ by first|rfl|decide|simp[WShape.has,WShape.arms,WShape.armsAll])
  (show(WTm.eq .res (.lit ff!)).value [] {args:=args,res:=ψ ff!,after:=args}=ψ (.bool (τ==τ))from w_eq_bool (w_res χ) w_lit) χ
def a7p{l:OpenLaw}
  (hn:jB_)(sm:nU_)
  (call:∀(w:yK!) (s₀ ao:yU!) (mg mb:Q!) (fa:sw!) (o:Obj) (pm cd bt:v5!) (a:sw!) (vs:o_) (ns:r_),
   Ground q loose [] XP w s₀ mg mb ao.heap->YP w ao.heap->
   ao.heap.get? fa=ψ o->o.data=.func (docDef d.name d.params d.body d.scope pm cd bt)->ao.heap.CodeRec cd d.name->mg d.name=ψ ff_->
   ao.heap.get? a=ψ {cls:=.type "list",data:=.seq cC!}->Kh! vs->c9!<=n->ao.gens=#[]->
   codeAny (model l.prog w) callerA nV! nV_ ao):
  WalkO q loose XP YP l.row.toRowW d [] nW!:=by
 intro w s₀ ao mg mb G ja fa o pm cd bt dV kV ho hd bw hD ky hg args vk as qi hlay hrd vj hlo;obtain rfl:dV=.none:=Dflts.none hD sm;obtain rfl:kV=.none:=Dflts.noKw hD;let#[a,vs,ns,rfl,rfl,xh,hints,ar]:=b4i hn qi vj;exact enter_call (UW (call w s₀ ao mg mb fa o pm cd bt a vs ns G ja ho (fd_plain hd) bw ky xh hints ar hg) λr s' hq=>?_);let#[rfl,h2,h3,h4]:=hq;exact#[.inl #[nX_,nX_,[],χ,cz!,nX_,b4o l _,λ_=>#[jE_,λ_ hm=>(nomatch hm)]],h2,h3,h4]
end Att
namespace L2
open PySem PySem.Spec PyProof.Rows
def b3z(h:Kh! vs):Ax cb! vs:=by
 induction h with
 |nil=>exact .nil
 |cons n t h ih=>exact F5_ cc_
def BP(H:Hp):Prop:=∀b,H b=υ\/∃o xs,H b=ψ (.frz o N_)
def c1m{K:zA!}
  (KX:K.In ao.heap)(c7:DB_ ao.heap.Ns)(J:ao.heap.Ns builtinsNs mb)(hbb:∀x:Str,x≠"__name__"->mb x=Dg! x)(qj:ao.heap.NoLimit)(hg:ao.gens=#[])
  (ha:Is_ a=ψ {cls:=.type "list",data:=.seq cC!})(hi:Kh! vs)(hl:tv!)(hr:nZ!)
  (F:∀base:Heap,K.In base->DB_ base.Ns->oW_ Ez CX k fa fd [x] sp)(hbind:∀(s:yU!) (u:v5!),GC! jF! [(x,u)])
  (d6:∀H:Hp,BP H->HI! K->sp aU! H jF_ λ_ _ _=>False)
  (sv:∀H e s',CX [] H ao n0! e s'->False):
  codeAny E! callerA nV! nV_ ao:=by
 let rv:=b3z hi;let lenV:=hi.length;let YS:∀H:Hp,BP H->HI! K->Ko P w H ao.heap->(∀b,H b≠υ->b=a)->(H a≠υ->K.lookup a=υ)->
   codeAny E! callerA nV! nV_ ao:=by
  intro H hO hS hok hA hK;let YT:∀{b:sw!} {o:Obj},Is_ b=ψ o->H b=υ->F6! gZ_=ψ o:=λe n=>c2k e n;let sj:∀{b:sw!} {o:Obj} {es:jG!} {ep:δ},Is_ b=ψ o->o.data=HR_ es->H b=none:=λ{b o es ep} e d=>by
   cases q:H b with
   |none=>rfl
   |some u=>
    let e':b=a:=hA b cF_;subst e';rw[ha]at e;rcases e;let d':Data.seq vs.toArray _=Data.dict es ep:=d;cases d'
  let vm:∀{b:sw!} {m:Q!},ao.heap.Ns b m->(gZ_).Ns b m:=λ{b m} ⟨o,es,ep,e,d,r⟩=>#[o,es,ep,YT e (sj e d),d,r];let YU:K.In gZ_:=λb o e=>YT (KX b o e) (by
   cases q:H b with
   |none=>rfl
   |some u=>
    let e':b=a:=hA b cF_;subst e';rw[hK cF_]at e;rcases e)
  let hM:Mod K mg gZ_:=#[YU,vm c7,#[mb,vm J,hbb],by let#[mc,Y,h2]:=qj;exact#[mc,vm Y,h2]];let e0:Qr P w K mg gZ_ callerA [] ao H:=#[χ,hM,λb o e=>c6y e,TY (b6i _ _),ο,λb J=>ξ (show b∈t3! from J) b!,hok,.of_eq hg];exact UW ((F _ YU (vm c7)).run callerA [] ao H #[aU!,[]] aU! aU! _ _ hr e0 (hbind ao M_) tU! (d6 H hO hS)) λr s' h=>?_;cases r with
  |error e=>exact(sv H e s' h).elim
  |ok fl=>
   cases fl with
   |next=>exact Dr! h
   |brk=>exact Dr! h
   |cont=>exact Dr! h
   |ret u=>
    let#[v,H',os,bare,un,hok',r',q]:=h;let q':v=.bl true:=q;subst q';obtain rfl:u=Value.bool true:=r';exact#[χ,OldK.of_keep λb o e=>?_,os,bare];cases q:H b with
    |none=>exact un.keep b o e q (by intro z;exact ξ t2! b!) b!
    |some u=>
     obtain z|⟨ob,xs,z⟩:=hO b
     .rw[q]at z;rcases z
     .let z2:=un.frzs b ob _ z;let#[e1,_]:=hok b _ z;let#[e2,_]:=hok' b _ z2;rw[e]at e1;rcases e1;exact e2
 cases hk:DW! a with
 |some o=>
  let e:=KX a o hk;rw[ha]at e;rcases e;exact YS gx! (λ_=>.inl χ) (.inr #[_,cC!,_,hk,χ,χ,χ,by rw[MX,lenV];exact hl,by simpa using rv]) (λb u z=>by let z':(none:ι HO)=ψ u:=z;rcases z') (λb z=>ξ χ z) λz=>Dd! z
 |none=>
  exact YS (λb=>if b=a then ψ (.frz {cls:=.type "list",data:=.seq cC!} (.lst cb!))else υ) (λb=>?_) (JI_ #[{cls:=.type "list",data:=.seq cC!},y_]) (λb u z=>?_) (λb z=>?_) λ_=>hk
  .by_cases J:b=a
   .exact .inr #[_,_,MO J]
   .exact .inl (MZ J)
  .by_cases J:b=a
   .let z':=(MO J).symm.trans z;rcases z';subst J;exact#[ha,by rw[MV];exact hl,vs,_,rv,ha]
   .let z':=(MZ J).symm.trans z;rcases z'
  .by_cases J:b=a
   .exact J
   .exact C6_ (MZ J) z
def c4z{l:W.OpenLaw}{K:vb!}{CX:World->BS}{sp:World->Sp}
  (hn:jB_)(iz:nM!)(sm:nU_)(hr:nZ!)
  (hY:vc!)
  (F:∀(w:yK!) (mg:Q!) (fa:sw!) (h:Heap),HV_ h->DB_ h.Ns->mg d.name=ψ ff_->
   ∃fd:FuncData,vc_/\
    ∀base:Heap,HV_ base->DB_ base.Ns->FV! (CX w) (sp w))
  (d6:∀(w:yK!) (H:Hp) (a:sw!) (ns:r_),c9!<=n->BP H->HI! bP!->sp w aU! H jF_ λ_ _ _=>False)
  (sv:∀(w:yK!) (H:Hp) (s:yU!) (e:v5!) (s':yU!),CX w [] H s n0! e s'->False):
  W.WalkO q loose XP YP l.row.toRowW d [] nW!:=by
 exact Att.a7p hn sm λw s₀ ao mg mb fa o pm cd bt a vs ns G ja ho hd bw ky xh hints ar hg=>?_;let KX:=hY w _ ja;let#[fd,J,hF]:=F w mg fa _ KX G.T.g ky;exact c1m KX G.T.g G.T.b G.T.builtins G.T.nolimit hg xh hints (NW ar iz) hr hF J (λH hO hS=>d6 w H a ns ar hO hS) λH e s'=>sv w H ao e s'
def b7l{l:W.OpenLaw}{n k:δ}{XP:(Str->ι Value)->Heap->ν}{YP:World->Heap->ν}{d:DefRec}{K:vb!}{CX:BS}{sp:W.Frag->Sp}{x:Str}
  (hn:jB_)(iz:nM!)(sm:nU_)(hr:nZ!)
  (hY:vc!)
  (F:∀(w:yK!) (mg:Q!) (fa:sw!) (h:Heap),HV_ h->DB_ h.Ns->mg d.name=ψ ff_->
   ∃fd:FuncData,vc_/\
    ∀base:Heap,HV_ base->DB_ base.Ns->FV! CX (sp bP!))
  (d6:∀(K:zA!) (H:Hp) (a:sw!) (ns:r_),c9!<=n->BP H->HI! K->sp K aU! H jF_ λ_ _ _=>False)
  (sv:∀(H:Hp) (s:yU!) (e:v5!) (s':yU!),CX [] H s n0! e s'->False):
  W.WalkO q loose XP YP l.row.toRowW d [] nW!:=
 c4z (K:=K) (CX:=λ_=>CX) (sp:=λw=>sp bP!) hn iz sm hr hY F (λw H a ns Y h2 h3=>d6 bP! H a ns Y h2 h3) λ_ H s e s'=>sv H s e s'
def Fa(s:Stmt):Arguments:=match s with
 |.FunctionDef _ a _ _ _ _ _ _ _ _=>a
 |_=>{posonlyargs:=[],args:=[],vararg:=υ,kwonlyargs:=[],kw_defaults:=[],kwarg:=υ,defaults:=[]}
def Ch(s:Stmt):μ Stmt:=match s with
 |.FunctionDef _ _ b _ _ _ _ _ _ _=>b
 |_=>[]
def Aj(s:Stmt):Scope:=match s with
 |.FunctionDef _ _ _ _ _ _ sc _ _ _=>sc
 |_=>{kind:=.function,names:=[],isGenerator:=θ,isCoroutine:=θ}
abbrev Ot:BS:=λ_ _ _ _ _ _=>False
abbrev E0:XK:=λ_ _ _=>False
def uV:Jl Ot X E0:=λ_ _ _ _ _ _ _ h=>h.elim
structure Zv(K:zA!)(x qual:Str)(st:Stmt)(f:sw!)(fd:FuncData):Prop where
 ex:∃(oc:v5!) (od:dk!) (kV bt pm:v5!) (an:dk!) (aj ct:v5!) (jg:jI_),
  fd=W.fnOf x qual jJ! bx_ bg_ .none kV bt pm an aj ct/\DW! f=El_ fd/\W.codeIn K aj qual=τ
 kp:Et! K ad_=τ
section
variable{P:yM!}{w:yK!}{K:zA!}{mg:Str->Option Value}{base:Heap}
def Zv.ok{st:Stmt}(F:vf!)(S:dk_)(len:t5_)
  (qe:∀(aj:v5!) (A:uB!) (outer:aq_) (s:yU!) (H:Hp) (vs:t_) (Q:VK) (E:XK),EE_ bg_->Fu_ E->
   ∃t,Nz (Jk Ot P w K mg base N qual bg_ f aj A outer s H E).nox bx_ t/\t {nx:=λ_ H'=>Q .non H',rt:=Q} gF_ H):JC! Ot R!:=by
 show"!K";exact d0r lk bw S len λA outer s H vs Q E hr d6=>?_;let#[t,h,q]:=qe aj A outer s H vs Q E hr d6;exact#[t,h.nox,q]
def Zv.binds{st:Stmt}(F:vf!)
  (h:vf_):DC_ K:=by
 show"!K";exact .all (h kV bt pm an aj ct)
def oO{st:Stmt}{kV:v5!}(l:DW! f=ψ vg!)
  (c:t5!)(k:Et! K ad_=τ):Zv K x qual st f n4_:=#[#[oc,od,kV,bt,pm,an,aj,ct,jg,χ,l,c],k]
end
def b4e(h:n<=1000):n<sizeLine:=OZ h a_
def lK{A B:ν}(h:B):if θ=τ then A else B:=by rw[MZ NS];exact h
def kL{A B:ν}(h:A):if τ=τ then A else B:=by rw[y_];exact h
def Ba(H H':Hp):Prop:=∀b o,H b=ψ o->H' b=ψ o
def Ba.refl(H:Hp):Ba H H:=λ_ _ h=>h
def Ba.trans(a:Ba H H1)(b:Ba H1 H2):Ba H H2:=λc o h=>b c o (a c o h)
def Ba.free(e:fg_)(h:H' l=n5_):H l=n5_:=by
 cases q:H l with
 |none=>rfl
 |some o=>
  rw[e l o q]at h;rcases h
def Ba.seq{K:zA!}(e:fg_)(h:F6_ Ek):Ek K H' a xs:=by
 rcases h with(h|⟨o,h⟩)|h
 .exact vg_
 .exact vh_
 .exact .inr h
def Inv.track{D:sw!}(I:e!)
  (hD:yK_ D=ψ {cls:=.type "list",data:=HE_ us.toArray})(r:Ax ys us)(hz:jm!)(hn:H D=υ)(hs:dL_<=D)(hL:D≠X.env.locals)
  (hc:∀x c,BG! x=ψ c->c≠D)(hp:∀p∈X.pn++hb,p.1≠D):oX! (upd H D bu_) s:=by
 let ne:∀b u,H b=ψ u->b≠D:=λb u e=>cN e hn;exact I.step (ch:=[D]) iv_ (λb o _ _ _ e _=>e) (λb o _ _ _ e _=>vi_) (λb o hc e n=>?_) (λb o _ e=>#[o,e])
  (λb xs e=>by rw[n6_];exact e) (λb o u e=>by rw[n6_];exact e) (λb ps e=>EX! n6_ e) n7_ rN! I.bare
 .let e:b=D:=by simpa using J
  subst e;exact#[.inr hs,hL,hc,hp]
 .rw[n8_];exact n
 .by_cases J:b=D
  .show"!x";exact#[hz,us,n,r,hD]
  .rw[bD J]at e;exact(me_).stay n9! (λc q=>by rw[bD (ne c _ q)];exact q) λc xs q=>by rw[bD (ne c _ q)];exact q
nonrec def closOf(cells:cd!):μ vl!->μ fh_->μ fh_
 |[],σ=>σ
 |(n,k)::r,σ=>if k==.free then GD_ r ((n,(cells.lookup n).getD 0)::σ)else GD_ r σ
structure BQ(X:Cx)(scope:Scope)(cl:cd!):Prop where
 eq:closureFor scope X.env=pure cl
 sub:∀x c,cl.lookup x=ψ c->BG! x=ψ c
 all:∀x,Eb! x=ψ .free->∃c,cl.lookup x=ψ c
def rS:∀(names:fi!) (σ:cd!),(Fv_ env.cells.lookup)->
  (forIn names σ λx r=>(match x with|(name,kind)=>if(kind==g1_)=true then(do let a <-cellOf env name;pure vm!)else pure jL!:Sem vn!))=(pure (closOf env.cells names σ):Sem (List fh_))
 |[],σ,_=>rfl
 |(n,k)::r,σ,h=>by
  rw[SD];cases hk:(k==g1_)with
  |true=>
   let#[c,hc]:=h (n,k) ML vo_;let cb:env.cells.lookup n=ψ c:=hc;let e:cellOf env n=pure c:=by delta cellOf;rw[cb]
   let ih:=rS r ((n,c)::σ) λp hp=>h p jL_;let e2:Fe! ((n,k)::r) σ=Fe! r ((n,c)::σ):=by
    show vp_;rw[bb!,cb];rfl
   rw[e2,<-ih];simp![hk,PP,e];rfl
  |false=>
   let ih:=rS r σ λp hp=>h p jL_;let e2:Fe! ((n,k)::r) σ=Fe! r σ:=by
    show vp_;rw[Jr_ hk]
   rw[e2,<-ih];simp![hk];rfl
def oS(cells:cd!):∀(names:fi!) (σ:cd!),(Fv_ cells.lookup)->(∀p∈σ,cells.lookup p.1=ψ p.2)->∀p∈closOf cells names σ,cells.lookup p.1=ψ p.2
 |[],_,_,h=>h
 |(n,k)::r,σ,hn,h=>by
  delta closOf;split
  .rename_i hk;let#[c,hc]:=hn (n,k) ML vo_;exact G7_ oS vq_ λp hp=>?_;obtain rfl|hp:=MM.mp hp
   .let cb:cells.lookup n=ψ c:=hc;rw[cb];rfl
   .exact h p hp
  .exact G7_ oS vq_ h
def oV(cells:cd!):∀(names:fi!) (σ:cd!) (x:Str),(∃c,(x,c)∈σ)->∃c,(x,c)∈GD_ names σ
 |[],_,_,h=>h
 |(n,k)::r,σ,x,h=>by
  delta closOf;split
  .exact G7_ oV x (by let#[c,hc]:=h;exact#[c,MF _ hc])
  .exact G7_ oV x h
def oU(cells:cd!):∀(names:fi!) (σ:cd!) (x:Str),(x,g1_)∈names->∃c,(x,c)∈GD_ names σ
 |[],_,_,h=>nomatch h
 |(n,k)::r,σ,x,h=>by
  delta closOf;obtain h|h:=MM.mp h
  .cases h;rw[fi_];exact G7_ oV _ #[_,ML]
  .split
   .exact vr_
   .exact vr_
def nW:∀{l:HE! Str β} {x:Str} {c:β},(x,c)∈l->∃d,l.lookup x=ψ d
 |[],_,_,h=>nomatch h
 |(n,k)::r,x,c,h=>by
  cases hx:(x==n)with
  |true=>exact#[k,by simp[PL,hx]]
  |false=>
   obtain h|h:=MM.mp h
   .cases h;simp at hx
   .let#[d,hd]:=nW h;exact#[d,by simp[PL,hx,hd]]
def b3p(h:∀p∈cd_,p.2=.free->∃c,X.env.cells.lookup p.1=ψ c):∃cl,BQ X scope cl:=by
 exact#[closOf X.env.cells scope.names [],?_,mc!,λx e=>?_]
 .let e:=rS scope.names [] h;dsimp only[closureFor];rw[show(forIn scope.names ([]:List fh_) λx r=>(match x with|(name,kind)=>if(kind==NameKind.free)=true then(do let a <-cellOf X.env name;pure vm!)else pure jL!:Sem vn!))=pure (closOf X.env.cells scope.names [])from e];rfl
 .exact Hq_ oS h rI! (x,c) (RD e)
 .let#[c,hc]:=Hq_ oU x (RD e);exact nW hc
def Lx(X:Cx)(scope:Scope)(cl:cd!)(C:sw!)(N:D!)(av:yU!)(bj:Hp)(fp:aQ_):Cx:=
 {X with N:=N,s₀:=av,H₀:=bj,env:=HW! C,outer:=X.stack,stack:=X.stack,ex:=fp,fn:=λ_=>θ,pn:=[],xe:=λ_ _=>False}
def mR{env:Env}:∀{names:fi!} {x:Str},(∀y∈names,y.2≠.cell)->
  (GB! jM! x=ψ .cell\/
     (jM!).lookup x=ψ .free)->names.lookup x=ψ .free
 |[],_,_,h=>by simp at h
 |(n,k)::r,x,hc,h=>by
  let ih:=@mR env r x λy hy=>hc y cG!;let hk:=hc (n,k) ML;rw[MU]at h;by_cases hf:oa_=τ
  .simp only[hf,PP]at h;cases hx:x==n with
   |true=>
    simp![PL,hx];simp![NU,QK]at hf;rw[hf.1.1]
   |false=>
    simp![PL,hx]at h ⊢;exact ih h
  .simp only[hf]at h;cases hx:x==n with
   |true=>
    simp![OC,PC,PL,hx]at h ⊢;obtain h|h:=h
    .rcases h;exact Dd! hk
    .exact h
   |false=>
    show"#0";exact ih h
def mS{env:Env}:∀{names:fi!} {x:Str},names.lookup x=ψ .free->
  (GB! jM! x=ψ .cell\/
     (jM!).lookup x=ψ .free)
 |[],_,h=>by simp at h
 |(n,k)::r,x,h=>by
  let ih:=@mS env r x;rw[MU];by_cases hf:oa_=τ
  .simp only[hf,PP];cases hx:x==n with
   |true=>exact .inl (by simp[PL,hx])
   |false=>
    simp![PL,hx]at h ⊢;exact ih h
  .simp only[hf];cases hx:x==n with
   |true=>
    show"#0";exact .inr h
   |false=>
    show"#0";exact ih h
structure Bq(X:Cx)(scope:Scope)(NF:D!)(ix:g_):Prop where
 len:NF.length=ix.length
 at_:∀(k:δ) (x:Str),NF[k]?=ψ x->∃j,ix[k]?=ψ j/\X.N[j]?=ψ x/\Eb! x=ψ .free/\rw_
def Bq.nil:Bq X scope [] []:=#[χ,λk x e=>by simp at e]
def Bq.cons(h:dl_)(Y:vv!:=by rfl)(h2:Eb! x=ψ .free:=by rfl)
  (h3:Gz_ x=ψ .cell\/Gz_ x=ψ .free:=by first|exact Or.inl χ|exact Or.inr χ):Bq X scope (x::NF) (j::ix):=
 ⟨by simp[h.len],λk y e=>by
  cases k with
  |zero=>simp at e;subst e;exact#[j,χ,Y,h2,h3]
  |succ k=>simpa using h.at_ k y cY_⟩
def Ny(nl:δ)(ix:g_)(Z:St):St:=Da! nl υ++ix.map λj=>(Z[j]?).join
def d4m
  (c9:dm!)(df:dm_)(cg:ob_)(I2:oc!)(f2:oc_)(flt:vw_)(hC:T!<=C):
  (HI_ N).Ok where
 mod:=I2.ok.mod
 kind:=c9
 glob:=I2.ok.glob
 blt:=I2.ok.blt
 above:=hC
 inj:=λx y c Y h2=>I2.ok.inj x y c (cg.sub x c Y) (cg.sub y c h2)
 has:=λx h=>cg.all x (mR df h)
 cab:=λ_ _ h=>nomatch h
 hd:=I2.ok.hd
 frames:=I2.ok.frames
 stk:=.inl χ
 exf:=λb J=>#[NZ (NN jM_ hC),λx c h=>(dQ!).2.2.2.2.1 x c g2_]
 bs:=I2.bs
 bsz:=NW I2.ok.bsz I2.sz
 noex:=λb o e J=>by
  obtain z|z:=(dQ!).2.2.2.1
  .exact I2.ok.noex b o e z
  .exact Jg! c1! (NW I2.ok.bsz z)
 exfs:=λb J hf=>by
  let#[_,f1,f3,_]:=f2 b J;obtain z|z:=FV_ hf
  .exact f1 z
  .exact f3 z
 funs:=I2.stack
 frf:=I2.stkFree
def c2h{D:sw!}
  (c9:dm!)(df:dm_)(cg:ob_)(cap:dl_)(I2:oc!)(f2:oc_)(flt:vw_)
  (hC:T!<=C)(hD:T!<=D)(j6:D≠C)(old:∀b u,s2.heap.get? b=ψ u->h₁.get? b=ψ u)(hn:h₁.Ns C m)(w9:h₁.get? D=ψ oD)(xa:∀v,oD.data≠.cell v):
  Inv (HI_ g3!) (cG_++[(D,oD)]) od_ H2 {s2 with heap:=h₁,toks:=t}:=by
 exact#[d4m c9 df cg I2 f2 flt hC,χ,I2.bare,Un.kept old,#[m,hn,rF_],λx c h=>?_,I2.hok.fresh hC,λx c h=>I2.freeC x c g2_,c1_,I2.hok.kept old,?_]
 .let YV:g3![i]?=ψ x:=e1;delta Ny at e2;by_cases hi:i<NL.length
  .rw[QA gH!,QY]at e2;rw[MO hi]at e2;cases e2
  .rw[e1_,OE,RQ]at e2;rw[e1_]at YV;let#[j,hj,hN,hf,hk]:=cap.at_ _ _ YV;rw[hj]at e2;let vn:(Z[j]?).join=ψ v:=OK e2;let e4:Z[j]?=ψ aD!:=by
    cases q:Z[j]? with
    |none=>rw[q]at vn;rcases vn
    |some o=>rw[q]at vn;exact Jt! vn
   let#[m2,_,hl]:=I2.loc;let hv:Yj X.env.scope x:=hk.elim vA! λz=>.inr g4_;let#[u,r,l]:=hl j x v hN e4 hv;exact#[u,r,.inr ?_];obtain⟨k,_⟩|⟨_,c,hc,z⟩:=l
   .obtain z|z:=hk
    .rw[z]at k;cases k
    .rw[z]at k;cases k
   .let#[c',cb]:=cg.all x hf;let e5:=cg.sub x c' cb;rw[hc]at e5;rcases e5;let#[o,ho,hd]:=z;exact#[mS hf,c,cb,#[o,old _ _ ho,hd]]
 .let#[v,o,ho,hd]:=G8! g2_;exact#[v,o,old _ _ ho,hd]
 .let YW:∀b,b≠X.env.locals->b∉X.fs->b∉HS! frs:=λb Y h2 h3=>(FV_ h3).elim Y h2;let bz:p∈cG_++[(D,oD)]:=by simpa[Lx]using hp
  obtain bz|bz:=ND.mp bz
  .let#[e,n,ne,nf,d]:=I2.pin p bz;exact#[old _ _ e,n,NZ (NN c1! hC),YW _ ne nf,d]
  .let e:p=(D,oD):=by simpa using bz
   subst e;exact#[w9,I2.hok.fresh hD,j6,YW _ (RA (NN I2.lt hD)) (I2.nofs hD),xa]
 .show(od_).length=(g3!).length;delta Ny;rw[NR,NR,MV,RQ,cap.len]
def a3f(I:δ->Shared->ν)
  (hE:∀e s',E e s'->notedBy n! A env (λe s'=>R (.error e) s') e s')
  (turn:∀n s,I n s->DR_ n! (pyNext it) (λr ao=>match r with
   |none=>R (.ok .next) ao
   |some v=>DR_ n! (letOwnedTupleGo ve it v) (λ_ YX=>DR_ n! (assign ve env v) (λ_ av=>
     wpAny n! A (forIn d7 true λc r=>if r=true then do let ok <-isTrue c env (eval c env);pure vB_ else pure jL!) (λok fz=>
      if ok=τ then DR_ n! (F7_ f7) (λx vo=>
       wpAny n! A (KI! "list.append" [σ,x]) (λ_ YY=>∃m,m<n/\I m YY) E vo) E fz
      else∃m,m<n/\I m fz) E av) E YX) E ao) E s)
  (n:δ) (h:I n s):codeAny n! A (.compLoop (.ListComp f7 [#[ve,iter,d7,0]] scope pos) 0 it σ env) R s:=by
 exact codeAny_loop χ I (λn s hI=>?_) n h;exact wpAny_noted ?_;rw[compTurn_list];exact MC (VB (MC (PF (turn n s hI) (λr ao h₁=>?_) hE)));cases r with
 |none=>exact MH h₁
 |some v=>
  exact MC (PF h₁ (λ_ YX h₁'=>?_) hE);exact MC (PF h₁' (λ_ av j5=>MC (PF j5 (λok fz i'=>?_) hE)) hE);cases ok with
  |false=>exact MH #[χ,i']
  |true=>
   exact Jr! (PF i' (λx vo j7=>MC (PF j7 (λ_ YY kz=>MH (MH #[χ,kz])) hE)) hE)
def Os(X:Cx)(d7:c2_)(t:TT):Prop:=
 ∀(hb:w_) (s:yU!) (Z:St) (H:Hp) (Q:dM!),oX! H s->t Z H Q->
  wpAny h_ X.A (forIn d7 true λc r=>if r=true then do let ok <-isTrue c X.env (eval c X.env);pure vB_ else pure jL!) iy_ X.xe s
def FI:TT:=λ_ H Q=>Q τ H
def a4s:Os X [] FI:=λhb s Z H Q I h=>wpAny_tests_nil #[H,I,h]
def a4r(h:PT X c t):Os X [c] t:=λhb s Z H Q I hw=>wpAny_tests_one se!
def Xd(af:It)(g:TG)(tt:TT)(te:TE)(Fin:c2!)(Z:St)(H:Hp):Prop:=∃W:Nat->Nat->List V->St->Hp->Prop,(∃m,W 0 m [] Z H)/\∀i m ys Z H,W i m ys Z H->X_<=sizeLine/\
 ((af.stop i H/\Fin ys H)\/(af.go i H/\∀x H',af.yld i H x H'->g x Z H' λdz H2=>tt dz H2 λb H3=>if b=τ then te dz H3 λy H4=>∃m',m'<m/\W x! m' (ys++[y]) dz H4 else∃m',m'<m/\W x! m' ys dz H3))
abbrev Vx(us:o_)(n:δ):Obj:={cls:=.type "list",data:=HE_ us.toArray}
def zP
  {Fin:c2!}{RR:Value->Addr->Result->Shared->ν}
  (c9:dm!)(df:dm_)(cg:ob_)(cap:dl_)(calm:ax_)
  (hg:∀C av bj fp,PG ce! tg g)(hi:∀C av bj fp,It! tt)(he:∀C av bj fp,PE ce! f7 te)
  (I2:oc!)(T:rJ! Qp tg af fp it tn)(bu:tn 0 s2.heap)(f2:oc_)(hw:Xd af g tt te Fin od_ H2)
  (hRR:∀(D C:sw!) (us:o_) (n:δ) (ys:t_) (H':Hp) (s':yU!),Jg_ H'->Fw! D=ψ (Vx us n)->Ax ys us->X_<=sizeLine->H' D=υ->T!<=D->T!<=C->D≠C->H' C=υ->
   (∃m,s'.heap.Ns C m)->Fin ys H'->RR (.ref D) C (.ok .next) s'):
  wpAny h_ X.A (newList []) (λσ fz=>Be_ (newFunctionEnv scope X.env.globals cl [] X.env.qual υ .none (ψ X.env)) (λYZ vo=>
   codeAny h_ X.A (.compStart g8! 0 b6_ σ {YZ with scope:=relabel scope X.env}) (RR σ YZ.locals) vo) E fz) E s2:=by
 let#[W,#[m0,w0],turn]:=hw;let flt:∀b∈fp,b<T!:=λb J=>by let#[o,e,_]:=HT_ bu;exact NP e
 exact PZ (wpAny_newFunctionEnv df (by intro y hy;simp at hy) (λh₁ xi vp=>?_) c9);dsimp only at xi vp ⊢;generalize xk:s2.heap.push {cls:=.type "list",dict:=none,data:=.seq (vJ_).toArray}=G2 at xi vp ⊢;let hC:g9!=T!+1:=by rw[<-xk,RK]
 let j6:T!≠g9!:=by rw[hC];exact NZ (UR _)
 let Y6:T!<=g9!:=by rw[hC];exact QW _
 let Y7:∀b,b<T!->b≠g9!:=λb J=>by rw[hC];exact NZ (UL J)
 let old:∀b o,s2.heap.get? b=ψ o->h₁.get? b=ψ o:=λb o e=>vp.extBut b o (Y7 b c1!) (MJ _ (xk▸MJ _ e));let hacc:=vp.extBut _ _ j6 (MJ _ (xk▸NJ _ χ));let qk:=T.keep _ _ _ bu λb _ o e=>old b o e;let I1:=c2h (NL:=NL) (t:=s2.toks+([]:μ nd_).length) c9 df cg cap I2 f2 flt Y6 u! j6 old xi hacc vK_;let nj:∀{H':Hp} {oD:Obj},gp_->∀b∈fp,Fv fk! (cG_++[(T!,oD)]) H' b:=λ{H' oD} hn b J=>by
  let#[_,f1,f3,f4,f5,f6]:=f2 b J;exact#[hn b J,Y7 b jM_,λz=>(FV_ z).elim f1 f3,.inl J,λx c h=>f5 x c g2_,c1_];let bz:p∈cG_++[(T!,oD)]:=by simpa[Lx]using hp
  obtain bz|bz:=ND.mp bz
  .exact f6 p bz
  .let e:p=(T!,oD):=by simpa using bz
   subst e;exact RA jM_
 let Y8:∀fz:Shared,fz={s2 with heap:=h₁,toks:=s2.toks+([]:μ nd_).length}->
   codeAny h_ X.A (.compLoop g8! 0 b6_ (.ref T!) (HW! G2.objs.size)) (RR (.ref T!) g9!) fz:=by
  rintro fz rfl;exact a3f (E:=vN!) (λk s'=>∃i ys us n ae H',Inv fk! (cG_++[jP!]) ae H' s'/\tn i s'.heap/\gp_/\Ax ys us/\W i k ys ae H')
   (λ_ _ z=>z.elim) ?_ m0 #[0,[],[],0,_,H2,I1,qk,sU_,.nil,w0]
  rintro k s' ⟨i,ys,us,n,ae,H',I',ac,sw,rv,w'⟩;let#[ar,xm]:=turn i k ys ae H' w';obtain⟨stop,fin⟩|⟨go,step⟩:=xm
  .exact dP (T.done fk! χ χ χ calm i _ s' ae H' _ I' (nj sw) ac stop) ?_;rintro r s4 ⟨hr,I4⟩;subst hr;let Y9:=I4.pin jP! (DS! Lx);let IX:=I2.call' I4.os I4.base I4.hok I4.bare λb J=>by
    let#[_,f1,f3,f4,f5,f6]:=f2 b J;exact#[f4,f1,f5,f6]
   let#[mC,hnC,_]:=I4.loc;exact hRR _ _ us n ys H' s4 IX Y9.1 rv ar Y9.2.1 u! Y6 j6 I4.free #[mC,hnC] fin
  .exact dP (T.item fk! χ χ χ calm i _ s' ae H' _ I' (nj sw) ac go) ?_;rintro r s4 ⟨u,hr,h4⟩;subst hr;exact dP h4 ?_;rintro _ s5 ⟨x,H5,I5,r5,y5,nq,w4⟩;let w5:=I5.pinned (nj w4) sV!;exact dP (hg _ _ _ _ _ s5 ae H5 x u _ w5 r5 sV_) ?_;rintro _ s6 ⟨nr,H6,I6,q6⟩;exact dP (hi _ _ _ _ _ s6 nr H6 _ I6 q6) ?_;rintro ok s7 ⟨H7,I7,q7⟩;let Y':∀{ZA:St} {H8:Hp} {s8:yU!},Inv fk! ((cG_++[jP!])++Py fp s5.heap) ZA H8 s8->tn x! s8.heap/\∀b∈fp,H8 b=none:=λ{ZA H8 s8} I8=>by
    exact#[T.keep _ _ _ nq λb J o e=>(vP!).1,bK!];let#[o,e,d]:=HT_ nq;exact(vP!).2.1
   cases ok with
   |false=>
    simp![OC,PC]at q7 ⊢;let#[m',hm,w7]:=q7;let#[t7,n7]:=Y' I7;exact#[m',hm,i+1,ys,us,n,nr,H7,iQ_,t7,n7,rv,w7]
   |true=>
    simp![PP]at q7 ⊢;exact dP (he _ _ _ _ _ s7 nr H7 _ I7 q7) ?_;rintro yv s8 ⟨y,H8,I8,r8,m',hm,w8⟩;let#[t8,n8]:=Y' I8;let pD:=I8.pin jP! (MY _ (NM _ b!));let hul:=rv.length.symm;exact wpAny_list_append_plain #[n,pD.1] λh9 hl9 ZB=>?_;let#[n9,e9]:=hl9;let I8a:=I8.pins_of λp hp=>I8.pin p (MY _ (NM _ iP_));let I9:Inv fk! cG_ nr H8 {s8 with heap:=h9,toks:=s8.toks}:=by
     exact I8a.turned (λb o J e=>(ZB.2 b J).trans e) pD.2.1 j6 (.inr u!) (λx c h=>?_) λp hp=>?_
     .let#[v,o,ho,_]:=G8! g2_;exact NZ ir!
     .let bz:p∈X.pn++hb:=by simpa[Lx]using hp
      exact NZ (G8_ bz)
    let e9':h9.get? T!=ψ (Vx (us++[yv]) n9):=by
     rw[e9,List.push_toArray]
    exact#[m',hm,i+1,ys++[y],us++[yv],n9,nr,H8,I9.pins_of λp hp=>?_,T.keep _ _ _ t8 λb J o e=>(ZB.2 b (NZ jM_)).trans e,n8,rv.append (EZ! r8),w8];obtain hp|hp:=ND.mp hp
    .exact I9.pin p (MY _ hp)
    .let e:p=(T!,Vx (us++[yv]) n9):=by simpa using hp
     subst e;exact#[e9',pD.2.1,pD.2.2.1,pD.2.2.2.1,g9_]
 exact codeAny_compStart_list (Y8 _ χ) (T.self _ 0 _ _ _ qk (Y8 _ χ))
def CB(nl:δ)(ix:g_)(wi:TI)(g:TG)(tt:TT)(te:TE):TE:=λZ H Q=>wi Z H λaf H1=>Xd af g tt te (λys H'=>∀p,H' p=υ->Q bc! (upd H' p bu_)) (Ny nl ix Z) H1
def b2a{X:Cx}{scope:Scope}{NL:D!}{ix:g_}{wi:TI}{g:TG}{tt:TT}{te:TE}
  (c9:dm!)(df:dm_)(k8:∀y∈cd_,y.2=.local->scope.names.lookup y.1=DM! ψ)
  (iy:ha!)(cap:dl_)(calm:ax_)(ay:mJ!)
  (hg:ha_)(hi:vU_)(he:vV!)
  (hs:c6_:=by intro _;rfl):
  PE X g8! vV_:=by
 show"!E";show"!|"
 rw[eval_ListComp];exact E4! hs;let#[it,fp,tn,af,H2,e,I2,T,bu,f2,hw]:=h2;subst e;exact Ep! T;rintro D C us n ys H' s' I' eD rv ar nD hD hC j6 nC ⟨m,hn⟩ fin;exact#[m,hn,λh' c8=>?_];let gg:∀b,b<T!->b≠C/\b≠D:=λb J=>vY!;let ql:∀x c,BG! x=ψ c->c<T!:=λx c h=>by let#[_,_,ho,_]:=G8! h;exact NP ho
 let sy:∀p∈X.pn++hb,p.1<T!:=λp hp=>G8_ hp;let IC:oX! H' {s' with heap:=h',toks:=s'.toks}:=It_ I'.turned nC λp hp=>(jQ!).1;let ID:=IC.track ((c8.2 D j6).trans eD) rv ar nD (NW I2.sz hD) (NY (hb!).2) v1_ λp hp=>(jQ!).2;exact#[.ref D,_,ID,χ,fin D nD]
end L2
namespace DL
open PySem PySem.Spec PyProof.Rows L2
abbrev St:=L2.St
inductive D where
 |non|bl (b:Bool)|int (i:Int)|str (x:Str)|tup (xs:d_)|lst (xs:d_)|fn (a:sw!)|dk (h1:μ om!)
mutual
noncomputable def Ap(KF:zA!)(H:Hp):D->V->Prop
 |.non,v=>v=V.non
 |.bl b,v=>v=V.bl b
 |.int i,v=>v=V.int i
 |.str x,v=>v=V.str x
 |.tup xs,v=>∃a vs,v=V.ref a/\Eb_ a vs/\D6! xs vs
 |.lst xs,v=>∃a vs,v=V.ref a/\Fw_ a vs/\D6! xs vs
 |.fn a,v=>v=V.ref a
 |.dk h1,v=>∃a,v=V.ref a/\Rd H a dT!
noncomputable def Al(KF:zA!)(H:Hp):List D->List V->Prop
 |[],vs=>vs=[]
 |d::ds,vs=>∃v r,vs=v::r/\Dj! d v/\D6! ds r
end
mutual
noncomputable def Do:D->Bool
 |.lst _=>θ
 |.dk _=>θ
 |.tup xs=>Ew xs
 |_=>τ
noncomputable def Ew:List D->Bool
 |[]=>τ
 |d::ds=>Do d&&Ew ds
end
mutual
noncomputable def Ir:D->Nat
 |.lst xs=>Cz xs+1
 |.tup xs=>Cz xs+1
 |_=>0
noncomputable def Cz:List D->Nat
 |[]=>0
 |d::ds=>max (Ir d) (Cz ds)
end
section
variable{KF:zA!}{H H':Hp}
mutual
theorem Ap.map(ht:jQ_)(hl:v2_)(hd:v3_):∀(d:D) (v:V),Dj! d v->DM_ H'
 |.non,_,h=>h
 |.bl _,_,h=>h
 |.int _,_,h=>h
 |.str _,_,h=>h
 |.tup xs,_,h=>by
  show"![";exact#[a,vs,e,ht a vs q,v4_]
 |.lst xs,_,h=>by
  show"![";exact#[a,vs,e,hl a vs q,v4_]
 |.fn _,_,h=>h
 |.dk h1,_,h=>by
  delta Ap at h ⊢;let#[a,e,q]:=h;exact#[a,e,hd a h1 q]
theorem Al.map(ht:jQ_)(hl:v2_)(hd:v3_):∀(ds:d_) (vs:t_),C1_ H->C1_ H'
 |[],_,h=>h
 |d::ds,_,h=>by
  delta Al at h ⊢;let#[v,r,e,q,t]:=h;exact#[v,r,e,Ap.map ht hl hd d v q,Al.map ht hl hd ds r t]
end
mutual
theorem Ap.mapT(ht:jQ_):∀(d:D) (v:V),Do d=τ->Dj! d v->DM_ H'
 |.non,_,_,h=>h
 |.bl _,_,_,h=>h
 |.int _,_,_,h=>h
 |.str _,_,_,h=>h
 |.tup xs,_,n,h=>by
  delta Do at n;show"![";exact#[a,vs,e,ht a vs q,Al.mapT ht xs vs n r]
 |.lst xs,_,n,_=>by
  delta Do at n;exact C6! n
 |.fn _,_,_,h=>h
 |.dk _,_,n,_=>by
  delta Do at n;exact C6! n
theorem Al.mapT(ht:jQ_):∀(ds:d_) (vs:t_),Ew ds=τ->C1_ H->C1_ H'
 |[],_,_,h=>h
 |d::ds,_,n,h=>by
  delta Ew at n;rw[NU]at n;delta Al at h ⊢;let#[v,r,e,q,t]:=h;exact#[v,r,e,Ap.mapT ht d v n.1 q,Al.mapT ht ds r n.2 t]
end
def bV(e:fg_)(h:Eb_ a xs):HW_ a xs:=by
 rcases h with(h|⟨o,h⟩)|h
 .exact vg_
 .exact vh_
 .exact .inr h
def b1k(e:fg_)(h:Rd H a o):Rd H' a o:=by
 obtain h|⟨u,h⟩:=h
 .exact .inl (e _ _ h)
 .exact .inr #[u,e _ _ h]
def Ap.mono(e:fg_)(h:hc!):DM_ H':=Ap.map v7_ v8_ v8! d v h
def Al.mono(e:fg_)(h:cI!):C1_ H':=Al.map v7_ v8_ v8! ds vs h
def Ap.non:Ap KF H .non V.non:=by delta Ap;rfl
def Ap.bl:Dj! al_ (V.bl b):=by delta Ap;rfl
def Ap.int:Dj! U! (V.int i):=by delta Ap;rfl
def Ap.str:Dj! bJ_ (V.str x):=by delta Ap;rfl
def Ap.fn:Dj! by_ hc_:=by delta Ap;rfl
def Ap.tup(h:Eb_ a vs)(r:cI!):Dj! bQ_ hc_:=by delta Ap;exact wa!
def Ap.lst(h:Fw_ a vs)(r:cI!):Dj! bR! hc_:=by delta Ap;exact wa!
def Al.nil:Al KF H [] []:=by delta Al;rfl
def Al.cons(h:hc!)(t:cI!):D6! eb! (v::vs):=by delta Al;exact#[v,vs,χ,h,t]
def aK:∀{ds:d_} {vs:t_},C1_ H->h!=ba!
 |[],vs,h=>by delta Al at h;subst h;rfl
 |d::ds,vs,h=>by
  delta Al at h;let#[v,r,e,_,t]:=h;rw[e,NH,NH,aK t]
def fP:∀{ds:d_} {vs:t_} {i:δ} {d:D},C1_ H->ds[i]?=ψ d->∃v,vs[i]?=ψ v/\Dj! d v
 |[],_,_,_,_,e=>by simp at e
 |c::ds,vs,i,d,h,e=>by
  delta Al at h;let#[v,r,e1,q,t]:=h;subst e1;cases i with
  |zero=>simp at e;subst e;exact#[v,χ,q]
  |succ i=>
   let#[u,Y,h2]:=fP t cY_;exact re_
def dH:∀{ds es:d_} {vs ws:t_},C1_ H->D6! es ws->D6! (ds++es) (vs++ws)
 |[],_,_,_,h,k=>by delta Al at h;subst h;exact k
 |c::ds,_,vs,_,h,k=>by
  show"!Q";exact FM_ q (dH t k)
def qO:∀{ds:d_} {vs:t_} (n:δ),C1_ H->D6! (ds.take n) (vs.take n)
 |_,_,0,_=>Al.nil
 |[],_,n+1,h=>by delta Al at h;subst h;exact Al.nil
 |c::ds,vs,n+1,h=>by
  show"!Q";exact FM_ q (qO n t)
def qQ:∀{ds:d_} {vs:t_} (n:δ),C1_ H->D6! oo_ (vs.drop n)
 |_,_,0,h=>h
 |[],_,n+1,h=>by delta Al at h;subst h;exact Al.nil
 |c::ds,vs,n+1,h=>by
  show"!Q";exact qQ n t
def uN(hd:hc!):∀{ds:d_} {vs:t_} (n:δ),C1_ H->D6! (ds.set n d) (vs.set n v)
 |[],_,_,h=>by delta Al at h;subst h;exact Al.nil
 |c::ds,vs,n,h=>by
  delta Al at h;let#[u,r,e1,q,t]:=h;subst e1;cases n with
  |zero=>exact FM_ hd t
  |succ n=>exact FM_ q (uN hd n t)
def cQ(h:Al KF H [] vs):vs=[]:=by delta Al at h;exact h
def bS(h:D6! eb! vs):∃v r,vs=v::r/\Dj! d v/\D6! ds r:=by delta Al at h;exact h
def bW(h:Dj! bQ_ v):∃a vs,v=V.ref a/\Eb_ a vs/\C1_ H:=by delta Ap at h;exact h
def bU(h:Dj! bR! v):∃a vs,v=V.ref a/\Fw_ a vs/\C1_ H:=by delta Ap at h;exact h
def bC(h:Dj! U! v):v=V.int i:=by delta Ap at h;exact h
def dA(h:Dj! (.bl i) v):v=V.bl i:=by delta Ap at h;exact h
def bO(h:Dj! hd! v):v=V.str i:=by delta Ap at h;exact h
def eM(h:Ap KF H .non v):v=V.non:=by delta Ap at h;exact h
def gG(h:Dj! by_ v):v=V.ref a:=by delta Ap at h;exact h
def d1n(h:Dj! (.dk h1) v):∃a,v=V.ref a/\Rd H a dT!:=by delta Ap at h;exact h
def iV(h:cI_):Ba H fl_:=λb u e=>by rw[bD (cN e h)];exact e
def eL(h:cI_)(r:cI!):Ap KF (G6_ p vs) bQ_ oq!:=Ap.tup (Fb.of cC) wd_
def cW(h:cI_)(r:cI!):Ap KF jT! bR! oq!:=Hu! cC wd_
end
structure Bo(G H G' H':Hp):Prop where
 g:Ba G G'
 h:Ba H H'
 sub:Ba G' H'
 new:∀b,G' b≠υ->G b≠υ\/H b=υ
def Bo.refl{G H:Hp}(s:K!):Bo G H G H:=#[fm!,Ba.refl H,s,jT_]
def Bo.trans(a:Bo G H G1 H1)(b:Bo G1 H1 G2 H2):Bo G H G2 H2:=
 #[a.g.trans b.g,a.h.trans b.h,b.sub,λc h=>(b.new c h).elim (λz=>a.new c z) λz=>.inr (a.h.free z)]
def Bo.laid(s:K!)(hp:cI_):Bo G H (upd G p o) fl_:=by
 exact#[iV (s.free hp),iV hp,jU!,bh!]
 .by_cases J:b=p
  .subst J;rw[cC]at e ⊢;exact e
  .rw[bD J]at e ⊢;exact s b u e
 .by_cases J:b=p
  .subst J;exact .inr hp
  .rw[bD J]at h;exact .inl h
abbrev Ae:=μ (ι D)
structure OR(KF:zA!)(own:g_)(G H:Hp)(Z:St)(ρ:Ae):Prop where
 sub:Ba G H
 len:jU_=eF_
 at_:∀(i:δ) (d:D),ρ[i]?=ψ ce_->i∉own->∃v,Z[i]?=ψ aD!/\DM_ G
 own_:∀i∈own,∃p ds vs,ρ[i]?=ψ oq_/\Z[i]?=ψ cf!/\H p=ψ eb_/\G p=υ/\C1_ G
 dis:∀i∈own,∀j∈own,i≠j->∀p q,Z[i]?=ψ cf!->Z[j]?=EF_ (V.ref q)->p≠q
def OR.grow{KF:zA!}(h:cf_)(x:jV_):EG! OR G' H' Z ρ where
 sub:=x.sub
 len:=h.len
 at_:=λi d q n=>by let#[v,Y,h2]:=h.at_ i d q n;exact wg_
 own_:=λi hi=>by
  let#[p,ds,vs,Y,h2,h3,h4,h5]:=h.own_ i hi;exact#[p,ds,vs,Y,h2,x.h _ _ h3,?_,h5.mono x.g];cases q:G' p with
  |none=>rfl
  |some o=>
   rcases x.new p cF_ with z|z
   .exact C6_ h4 z
   .rw[h3]at z;rcases z
 dis:=h.dis
def OR.set{KF:zA!}(h:cf_)(hi:a0_)(r:cJ!):EG! OR G H eG! bR_ where
 sub:=h.sub
 len:=by rw[RF,RF,h.len]
 at_:=λj c q n=>by
  by_cases hj:i=j
  .subst hj;by_cases hi:i<jU_
   .rw[OI hi]at q;cases q;exact#[v,by rw[OI (Di_ h.len hi)],r]
   .rw[PH (D8! RF)]at q;rcases q
  .rw[NX hj]at q;rw[NX hj];exact h.at_ j c q n
 own_:=λj hj=>by
  let ne:i≠j:=λe=>Iu! e;rw[NX ne,NX ne];exact h.own_ j hj
 dis:=λj hj k hk hne p q e1 e2=>by
  let ne:i≠j:=λe=>Iu! e;let xo:i≠k:=λe=>hi (e▸hk);rw[NX ne]at e1;rw[NX xo]at e2;exact h.dis j hj k hk hne p q e1 e2
def Jm(own:g_)(Z:St):μ Addr:=own.filterMap λi=>match Z[i]? with|some (some (V.ref p))=>ψ p|_=>υ
def nL(h:p∈Jm own Z):∃i∈own,Z[i]?=ψ cf!:=by
 let#[i,hi,e]:=SM.mp h;exact#[i,hi,?_];show"!9"
 .rename_i q he;rcases e;exact he
 .rcases e
def a4h(hi:ec!)(h:wj_):p∈Jm own Z:=SM.mpr #[i,hi,by rw[h]]
def Js(own:g_)(Z:St)(G H:Hp):Hp:=λb=>if b∈Jm own Z then H b else G b
def OR.full{KF:zA!}(h:cf_):OR KF [] fn! H Z ρ:=by
 let s1:Ba G fn!:=λb o e=>by
  delta Js;split
  .exact h.sub b o e
  .exact e
 let s2:Ba fn! H:=λb o e=>by
  delta Js at e;show"!9"
  .exact e
  .exact h.sub b o e
 exact#[s2,h.len,os_,at!,at!];by_cases hi:i∈own
 .let#[p,ds,vs,Y,h2,h3,h4,h5]:=h.own_ i hi;rw[Y]at q;cases q;exact#[_,h2,Ap.lst (Ek.of ?_) (h5.mono s1)];delta Js;rw[MO (a4h hi h2)];exact h3
 .let#[v,Y,h2]:=h.at_ i d q hi;exact#[v,Y,h2.mono s1]
def Le(ρ ρ':Ae):Prop:=jU_=ρ'.length/\∀(i:δ) (d:D),ρ[i]?=ψ ce_->ρ'[i]?=ψ ce_
def OR.le{KF:zA!}(h:Fx! Z ρ')(l:Le ρ ρ'):Fx! Z ρ:=#[h.sub,l.1.trans h.len,λi d q n=>h.at_ i d (l.2 i d q) n,at!,at!]
def Le.set(h:Le ρ ρ')(hi:ρ[i]?=ψ υ):Le ρ (ρ'.set i ce_):=by
 exact#[by rw[RF];exact h.1,λj c q=>?_];let:i≠j:=λe=>by subst e;rw[hi]at q;cases q
 rw[NX this];exact h.2 j c q
def Le.refl(ρ:Ae):Le ρ ρ:=#[χ,λ_ _ h=>h]
def BM(nl:δ)(ix:g_)(ρ:Ae):Ae:=Da! nl υ++ix.map λj=>(ρ[j]?).join
def OR.cap{KF:zA!}(h:cf_)(nl:δ)(ix:g_)(hx:jX_):Fx! (Ny nl ix Z) ot_:=by
 delta Ny BM;exact#[h.sub,Q_,os_,at!,at!];by_cases hi:i<nl
 .rw[QA gH!,QY,MO hi]at q;cases q
 .rw[e1_,OE,RQ]at q;rw[e1_,OE,RQ];cases e:ix[i - nl]? with
  |none=>rw[e]at q;rcases q
  |some j=>
   rw[e]at q;let q':(ρ[j]?).join=ψ d:=OK q;let q2:ρ[j]?=ψ ce_:=by
    cases z:ρ[j]? with
    |none=>rw[z]at q';rcases q'
    |some o=>rw[z]at q';exact Jt! q'
   let#[v,Y,h2]:=h.at_ j d q2 (hx j (TD e));exact#[v,by simp[Y],h2]
inductive tD(KF:zA!)(own:g_)(f:m_)(Z:St)(H:Hp)(Q:VK):Prop
 |mk (G:Hp) (ρ:Ae) (d:D) (o:cf_) (e:bS!) (k:∀v G' H',DP! G H->DM_ G'->Q v H'):EG! tD f Z H Q
inductive KA(KF:zA!)(own:g_)(f:a1!)(Z:St)(H:Hp)(Q:c2!):Prop
 |mk (G:Hp) (ρ:Ae) (ds:d_) (o:cf_) (e:ou!) (k:∀vs G' H',DP! G H->C1_ G'->Q vs H'):EG! KA f Z H Q
inductive DC(KF:zA!)(own:g_)(f:bh_)(Z:St)(H:Hp)(Q:dM!):Prop
 |mk (G:Hp) (ρ:Ae) (b:Bool) (o:cf_) (e:ou_) (k:∀G' H',DP! G H->Q b H'):EG! DC f Z H Q
structure DE(X:Cx)(own:g_)(e:Expr)(f:m_):Prop where
 ok:PE X e (EP! tD f)
structure DA(X:Cx)(own:g_)(es:c2_)(f:a1!):Prop where
 ok:PA X es (EP! KA f)
structure DT(X:Cx)(own:g_)(e:Expr)(f:bh_):Prop where
 ok:PT X e ws!
structure DW(X:Cx)(own:g_)(e:Expr)(f:bh_):Prop where
 ok:PW X e ws!
section
variable{X:Cx}{own:List Nat}{e a b c:Expr}{es:List Expr}{pos:Pos}{f fa fb fc:Ae->Option D}{fs:Ae->Option (List D)}{ft fu:Ae->Option Bool}
def eB{t:TE}(h:iA!)(hw:∀Z G H Q ρ d,DV! X.K->f ρ=ψ d->(E7! Ap)->t Z H Q):C5! e f:=wq_
def c3s(h:gz_)(hw:∀Z G H Q ρ d,DV! X.K->fs ρ=ψ d->(E7! Al)->t Z H Q):DA X own es fs:=DY_ p
def wM(h:PT X e t)(hw:wt!):D9! DT e:=wq_
def d0t(h:PW X e t)(hw:wt!):D9! DW e:=DY_ wh
def Mt(f:m_):Ae->ι D:=λρ=>(ai_).bind λd=>if Do d then ψ d else υ
def b3l(h:DE X [] e f):C5! e (Mt f):=eB h.ok λZ G H Q ρ d er e k=>by
 let#[d',e1,e2]:=MD.mp e;split at e2
 .rename_i hn;cases e2;exact#[Js own Z G H,ρ,d,er.full,e1,λv G' H' x r=>?_];let hroot:∀b,b∈Jm own Z->∃vs,G' b=ψ eb_:=λb J=>by
   show"!O";exact#[vs,x.g _ _ ?_];delta Js;rw[MO J];exact h3
  let hG:∀b,b∈Jm own Z->G b=none:=λb J=>by
   show"!O";exact h4
  exact k v (λb=>if b∈Jm own Z then υ else G' b) H' #[λb o z=>?_,x.h,λb o z=>?_,λb z=>?_] (Ap.mapT (λa vs q=>?_) d v hn r)
  .let J:b∉Jm own Z:=λJ=>by rw[hG b J]at z;rcases z
   rw[MZ J];exact x.g _ _ ?_;delta Js;rw[MZ J];exact z
  .let z':ww_=ψ o:=z;split at z'
   .rcases z'
   .exact x.sub _ _ z'
  .let z':ww_≠none:=z;split at z'
   .exact Dd! z'
   .rename_i J;obtain y|y:=x.new b z'
    .delta Js at y;rw[MZ J]at y;exact .inl y
    .exact .inr y
  .let ne:∀u,G' a=ψ u->(∀ws,u≠.lst ws)->(if a∈Jm own Z then υ else G' a)=ψ u:=λu e1 hu=>by
    rw[MZ (λJ=>by let#[ws,e2]:=hroot a J;rw[e1]at e2;exact hu ws (OK e2))];exact e1
   rcases q with(q|⟨o,q⟩)|q
   .exact FS_ (ne _ q λ_ z=>nomatch z)
   .exact JI_ #[o,ne _ q λ_ z=>nomatch z]
   .exact .inr q
 .rcases e2
def Aa(i:δ):Ae->ι D:=λρ=>(ρ[i]?).join
nonrec def fC(d:D):Ae->ι D:=λ_=>ψ d
def join_some{ρ:Ae}{i:δ}(h:(ρ[i]?).join=ψ d):ρ[i]?=ψ ce_:=by
 cases z:ρ[i]? with
 |none=>rw[z]at h;rcases h
 |some o=>rw[z]at h;exact Jt! h
def aA(i:δ){x:Str}(hi:a0_:=by decide)(hN:al!:=by rfl)(hv:cw!:=by first|exact Or.inl χ|exact GE! d!|exact GE! aG_)(hd:y!:=by decide)
  (bw:cw_:=by decide):C5! cx! eP_:=
 eB jY_ λZ G H Q ρ d er e k=>by let#[v,Y,h2]:=er.at_ i d (join_some e) hi;exact#[v,Y,k v G H hh! h2]
def b6t(h:iA!)(ht:∀Z H Q,Q v H->t Z H Q)(r:∀H,DP_ H):JQ_ e d:=
 eB h λZ G H Q ρ d' er e' k=>by
  rcases e';exact ht Z H Q (k v G H hh! (r G))
def aB:JQ_ r6! U!:=b6t d1z fo! λ_=>Ap.int
def aU:C5! (Jn_ hd!) (fC hd!):=b6t a0l fo! λ_=>Ap.str
def eU:C5! (Jn_ (.bool i)) (fC (.bl i)):=b6t d5x fo! λ_=>Ap.bl
def cV:C5! r6_ bi!:=b6t d1y fo! λ_=>Ap.non
def c8x(hg:J!)(hm:X.mg x=ψ dI!)(hd:y!:=by decide):JQ_ cx! U!:=
 b6t (a0m (v:=V.int i) hg hm cc_ hd) fo! λ_=>Ap.int
nonrec def f2(g:hh_)(fa fb:m_):Ae->ι D:=λρ=>(ch!).bind λx=>(gm_).bind λy=>g x y
def Ha(KF:zA!)(r:R2)(g:hh_):Prop:=∀{x y:V} {dx dy d:D} {G H:Hp} {Q:VK},Ba G H->E6_ dx x->E6_ dy y->g dx dy=ψ d->jZ!->G5_ r
def two(hg:ec_)(er:sG!)(e:f2 g fa fb ρ=ψ d)(k:∀v G' H',DP! G H->DP_ G'->Q v H'):
  EZ r (EP! tD fa) (EP! tD fb) Z H Q:=by
 delta f2 at e;show"!8";exact#[G,ρ,x,er,e1,λu G1 H1 s1 r1=>#[G1,ρ,y,dn_,e2,λw G2 H2 s2 r2=>hg s2.sub hj! r2 e λv G' H' s3 r3=>k v G' H' wG! r3]]
def bB(ho:mN!)(hg:ec_)(ha:K_)(J:ch_):C5! mN_ jZ_:=
 eB sQ_ λZ G H Q ρ d er e k=>Iu_ e k
def fN(ho:b8!)(hg:ec_)(ha:K_)(J:ch_)(hm:eU!):C5! eU_ jZ_:=
 eB wH! λZ G H Q ρ d er e k=>Iu_ e k
def aM(hr:Yg X r)(hg:ec_)(ha:K_)(J:ch_)(hs:Pc b):C5! nC_ jZ_:=
 eB wH_ λZ G H Q ρ d er e k=>Iu_ e k
nonrec def fT(f:m_):Ae->ι Bool:=λρ=>(ai_).bind λd=>match d with|.bl b=>ψ b|_=>υ
def lM{b:Bool}(h:fT f ρ=ψ b):f ρ=ψ al_:=by delta fT at h;let#[d,e,h]:=MD.mp h;cases d<;>first|(rcases h;exact e)|cases h
def bF(ho:b8!)(hg:ec_)(ha:K_)(J:ch_)(hm:eU!):HX! eU_ (fT jZ_):=
 wM wI! λZ G H Q ρ d er e k=>Iu_ (lM e) λv G' H' s' r'=>by
  obtain rfl:=dA r';exact wK!
def dZ(h:do!)(he:iA_:=by intro _;rfl):DT X own e (fT f):=
 wM (a8p h.ok he) λZ G H Q ρ d er e k=>⟨G,ρ,.bl d,er,lM e,λv G' H' s' r'=>by
  obtain rfl:=dA r';exact wK!⟩
def AH:D->Da_ Bool
 |.lst xs=>ψ (! dS_)
 |.tup xs=>ψ (! dS_)
 |.bl b=>ψ b
 |.int i=>ψ gu!
 |.non=>ψ θ
 |_=>υ
def sH{KF:zA!}(h:cI!):(!ds.isEmpty)=!vs.isEmpty:=by let:=aK h;cases ds<;>cases vs<;>simp_all
def a6t(h:do!)(he:iA_:=by intro _;rfl):DT X own e (λρ=>(ai_).bind AH):=
 wM (b8t h.ok he) λZ G H Q ρ b er e k=>by
  let#[d,e1,e2]:=MD.mp e;exact#[G,ρ,d,er,e1,λv G' H' s' r'=>#[b,?_,oz_]];cases d with
  |non=>cases eM r';rcases e2;exact(rfl:θ=θ)
  |bl x=>cases dA r';rcases e2;exact χ
  |int i=>cases bC r';rcases e2;exact(rfl:gu!=gu!)
  |str x=>cases e2
  |fn a=>cases e2
  |dk a=>cases e2
  |tup xs=>
   let#[a,vs,e3,q,r3]:=bW r';subst e3;rcases e2;exact EG_ #[vs,bV s'.sub q,sH r3]
  |lst xs=>
   let#[a,vs,e3,q,r3]:=bU r';subst e3;rcases e2;exact .inl #[vs,s'.sub.seq q,sH r3]
def Fy(ft fu:bh_):Ae->ι Bool:=λρ=>(hk_).bind λb=>if b then fu ρ else ψ θ
def Qh(ft fu:bh_):Ae->ι Bool:=λρ=>(hk_).bind λb=>if b then ψ τ else fu ρ
def Ea(ft:bh_):Ae->ι Bool:=λρ=>(hk_).map (!·)
variable{rest:List Expr}
def nO(h:hl!):D9! DW mp!:=wM!
def lP(h:hl!):D9! DW mp_:=wN!
def rP(ha:hl!)(J:DW X own eK! fu):DW X own eK_ (Fy ft fu):=
 d0t wN_ λZ G H Q ρ d er e k=>by
  let#[x,e1,e]:=MD.mp e;exact oB!;cases x with
  |true=>exact kL wO_
  |false=>cases e;exact lK (k G1 H1 s1)
def qB(ha:hl!)(J:DW X own eL_ fu):DW X own eM! (Qh ft fu):=
 d0t wQ! λZ G H Q ρ d er e k=>by
  let#[x,e1,e]:=MD.mp e;exact oB!;cases x with
  |false=>exact lK wO_
  |true=>cases e;exact kL (k G1 H1 s1)
def oQ(h:D9! DW e):D9! DT e:=#[h.ok.pt]
def gS(h:hl!):HX! eN! (Ea ft):=
 wM (b8u h.ok) λZ G H Q ρ d er e k=>by
  let#[x,e1,rfl]:=MQ.mp e;exact#[G,ρ,x,er,e1,λG1 H1 s1=>k G1 H1 s1]
def Ii(fa fb:m_):Ae->ι D:=λρ=>(oB_).bind λb=>if b then fb ρ else ψ B!
def Ms(fa fb:m_):Ae->ι D:=λρ=>(oB_).bind λb=>if b then ψ v_ else fb ρ
def CN(fa:m_):Ae->ι D:=λρ=>(oB_).map λb=>.bl (!b)
def iM(h:K_):C5! mr_ fa:=wR!
def lR(ha:K_)(J:C5! eK! fb):C5! eK_ (Ii fa fb):=
 eB wR_ λZ G H Q ρ d er e k=>by
  let#[x,e1,e]:=MD.mp e;exact oC!;obtain rfl:=dA r1;exact j1_;cases x with
  |true=>exact kL j2!
  |false=>cases e;exact lK wT!
def zN(ha:K_)(J:C5! eL_ fb):C5! eM! (Ms fa fb):=
 eB wT_ λZ G H Q ρ d er e k=>by
  let#[x,e1,e]:=MD.mp e;exact oC!;obtain rfl:=dA r1;exact j1_;cases x with
  |false=>exact lK j2!
  |true=>cases e;exact kL wT!
def d4j(ha:K_):C5! eN! (CN fa):=
 eB (b9l ha.ok) λZ G H Q ρ d er e k=>by
  let#[x,e1,rfl]:=MQ.mp e;exact oC!;obtain rfl:=dA r1;exact#[x,χ,wU_]
def Yi(ft:bh_)(fa fb:m_):Ae->ι D:=λρ=>(hk_).bind λb=>if b then fa ρ else fb ρ
def c3p(hc:D9! DT c)(ha:K_)(J:ch_):C5! iC_ (Yi ft fa fb):=
 eB wV_ λZ G H Q ρ d er e k=>by
  let#[x,e1,e]:=MD.mp e;exact oB!;cases x with
  |true=>exact kL j2!
  |false=>exact lK j2!
nonrec def f3(g h:hh_)(fa fb fc:m_):Ae->ι D:=λρ=>(ch!).bind λx=>(gm_).bind λy=>(g x y).bind λz=>match z with
 |.bl true=>(fc ρ).bind λw=>h y w
 |.bl false=>ψ B!
 |_=>υ
def Af:Ae->ι aN_:=λ_=>ψ []
def Ac(f:m_)(fs:a1!):Ae->ι aN_:=λρ=>(ai_).bind λd=>(fp!).bind λds=>ψ eb!
def aI:DA X own [] Af:=c3s eO λZ G H Q ρ d er e k=>by
 rcases e;exact k [] G H hh! Al.nil
def aD(h:do!)(hs:j2_)(hst:ai!:=by rfl):DA X own aD_ (Ac f fs):=
 c3s wW! λZ G H Q ρ d er e' k=>by
  let#[x,e1,e']:=MD.mp e';let#[xs,e2,e']:=MD.mp e';rcases e';exact Ei! #[G1,ρ,xs,dn_,e2,λvs G2 H2 s2 r2=>k _ G2 H2 bS_ (Al.cons hj! r2)]
def Bg(fs:a1!):Ae->ι D:=λρ=>(fp!).bind λds=>if h!<=1000 then ψ bQ_ else υ
def Fe(fs:a1!):Ae->ι D:=λρ=>(fp!).bind λds=>if h!<=1000 then ψ bR! else υ
def fF(h:n<=1000):n<=sizeLine:=SE (b4e h)
protected def dD(h:j2_):C5! tL! (Bg fs):=
 eB (b9i h.ok) λZ G H Q ρ d er e k=>by
  show"!N"
  .show"!W";exact D1_ eL
  .rcases e
protected def jG(h:j2_):C5! i4_ (Fe fs):=
 eB j3! λZ G H Q ρ d er e k=>by
  show"!N"
  .show"!W";exact D1_ cW
  .rcases e
def Kq(KF:zA!)(r:eR_)(g:bz_):Prop:=∀{vs:t_} {ds:d_} {d:D} {G H:Hp} {Q:VK},Ba G H->C1_ G->g ds=ψ d->jZ!->r vs H Q
nonrec def f1(g:bz_)(fs:a1!):Ae->ι D:=λρ=>(fp!).bind g
def cG{id:String}(hc:no!)(hd:Kq X.K r g)(hg:J!)(hm:cx_)(hv:no_)(ha:hl_)(hn:cy!:=by decide)
  (a8:y!:=by decide)(he:ai!:=by rfl)(az:aF!:=by rfl):C5! aU_ j3_:=
 eB wZ! λZ G H Q ρ d er e' k=>by
  show"#1";exact wZ_
def gF{T:String}{x:Str}{r:eR_}{g:bz_}(hc:np_)(hd:Kq X.K r g)(hg:J!)(hm:cx_)(hv:jd!)(ha:hl_)(hn:cy!:=by decide)
  (a8:y!:=by decide)(he:ai!:=by rfl)(az:aF!:=by rfl):C5! aU_ j3_:=
 eB w0! λZ G H Q ρ d er e' k=>by
  show"#1";exact wZ_
def CD(KF:zA!)(n:δ)(g:bz_):Sp:=λvs H Q _=>ba!=n/\∃G ds d,Ba G H/\C1_ G/\g ds=ψ d/\∀v G' H',DP! G H->DM_ G'->Q v H'
def c9a(F:JO_ ag w0_)(hr:bc_)(hg:J!)(hm:X.mg x=ψ bi_)(hk:J4! X.K=τ)
  (J:j4!)(ha:hl_)(hn:w2_:=by rfl)(ar:w1_)
  (a8:y!:=by decide)(he:ai!:=by rfl)(az:aF!:=by rfl):
  DE X own aU_ j3_:=
 eB (a0n F hr hg hm hk J .nil uV ha.ok a8 he az) λZ G H Q ρ d er e' k=>by
  show"#1";exact#[G,ρ,ds,er,e1,λvs G1 H1 s1 r1=>?_];rw[OA];exact#[by rw[<-aK r1];exact ar ρ ds e1,G1,ds,d,s1.sub,r1,e',wS_]
end
def aX(h:Af ρ=ψ ds):h!=0:=by rcases h;rfl
def aJ(hf:w3_):∀(ρ:Ae) (ds:d_),Ac f fs ρ=ψ ds->h!=n+1:=λρ ds e=>by
 show"#I";let#[xs,e2,e]:=MD.mp e;rcases e;rw[NH,hf ρ xs e2]
def oC(p:PlainL h a its):∃n sl,h.get? a=ψ {cls:=.type "list",dict:=υ,data:=HE_ its,slots:=sl}:=by let#[#[cls,dd,data,sl],n,e,Y,h2,h3]:=p;simp only at Y h2 h3;subst Y h2 h3;exact#[n,sl,e]
section
variable{X:Cx}
def CH(KF:zA!):R2:=λx y H Q=>∃l b xs zs,x=.ref l/\y=.ref b/\Fw_ l xs/\Fw_ b zs/\i!+zs.length<=sizeLine/\∀p,H p=υ->Ek_ H uU_
def c6q:Fd_ eS! CH:=by
 intro hb s Z H x y v u Q I rx ry h;let#[l,b,xs,zs,rfl,rfl,hH,hB,hz,q]:=h;subst rx;subst ry;let#[its,r,pl,z]:=Ej_ hH;let#[ij,r2,pl2,z2]:=Ej_ hB;let#[n,sl,e]:=oC pl;let#[n2,gu,e2]:=oC pl2;let Y:=ax!;let h2:=r2.length;exact concat_meets d7_ (Hu_ e2) PySem.noFill_list_add PySem.seq_list_add PySem.F.slot_list_add PySem.F.entry_list_add (PySem.F.args_list_add_2 _ _)
  (Hr! list_addW l υ υ sl gu oF!) #[e,e2,?_]
 let ea:ak_++ij.toArray=(its++ij).toArray:=by simp
 rw[ea];exact#[gU_,_,I.lnew (HU_ r2) w5_,χ,q _ I.fresh]
def Yy(KF:zA!):R2:=λx y H Q=>∃a b ys,x=.ref a/\y=.ref b/\Eb_ a []/\Eb_ b ys/\Q d0! H
def b9z:Fd_ eS! Yy:=by
 intro hb s Z H x y v u Q I rx ry h;let#[a,b,ys,rfl,rfl,ha,J,q]:=h;subst rx;subst ry;let#[its,r1,p1,_]:=Dq_ ha;let#[ij,r2,p2,_]:=Dq_ J;let#[#[cls,dd,data,sl],ho,hc,n,hd]:=id p1;let#[#[YR,mh,data2,gu],jz,j0,n2,j4]:=id p2;simp only at hc hd j0 j4;subst hc hd j0 j4;let e0:=r1.nil_iff.mpr χ;exact Dm_ _
  (Hr! tuple_addW0 a dd mh sl gu (DS! e0)) #[ho,jz,#[.ref b,H,I,χ,q]]
abbrev big:Nat:=100000
def cS(h:n<=big):n<=sizeLine:=NW h w6!
def An:D->D->ι D
 |.int i,.int j=>C2_ (i+j)
 |.str x,.str y=>if b8_+am!<=big then E7_ (x++y) else υ
 |.tup xs,.tup ys=>if i!+X_<=big then Ds! eC! else υ
 |.lst xs,.lst ys=>if i!+X_<=big then yJ_ eC! else υ
 |_,_=>υ
def Sf(KF:zA!):R2:=λx y H Q=>Se (λi j=>.int (i+j)) x y H Q\/((∃i j,x=.str i/\y=.str j/\i.length+j.length<=sizeLine/\Q (.str (i++j)) H)\/(CG KF x y H Q\/(Yy KF x y H Q\/CH KF x y H Q)))
def aO:Fd_ eS! Sf:=d2j.or (a8u.or (c6p.or (b9z.or c6q)))
protected def bJ{KF:zA!}:Gq! Sf An:=by
 show"!3";delta An at e;show"!9"
 .show"!D";exact .inl #[_,_,χ,χ,do_]
 .show"!{";show"!9"
  .show"!W";exact EG_ #[_,_,χ,χ,cS hl,j5!]
  .rcases e
 .show"!Z";let#[b,ws,rfl,qb,rb]:=bW ry;show"!9"
  .show"!W";let l1:=aK ra;let l2:=aK rb;by_cases hv:vs=[]
   .subst hv;exact Jx_ (.inl #[a,b,ws,χ,χ,j6!,oG!,k _ G H aA_ ?_]);let:(_:d_)=[]:=UF.mp l1;rw[this,QC];exact Ap.tup qb rb
   .exact De_ (.inl #[a,b,vs,ws,χ,χ,j6!,oG!,hv,by rw[<-l1,<-l2];exact cS hl,λhw=>?_,λhw p hp=>?_])
    .subst hw;let:(_:d_)=[]:=UF.mp l2;exact k _ G H aA_ ?_;rw[this,OA];exact Ap.tup qa ra
    .exact k _ _ _ hm! (eL fq! (dH ra rb))
  .rcases e
 .show"#%";let#[b,ws,rfl,qb,rb]:=bU ry;show"!9"
  .show"!W";exact Jx_ (.inr #[a,b,vs,ws,χ,χ,sub.seq qa,sub.seq qb,by rw[<-aK ra,<-aK rb];exact cS hl,λp hp=>k _ _ _ hm! (cW fq! (dH ra rb))])
  .rcases e
 .rcases e
def Rf(c:s2!)(g:Int->Int->D):D->D->ι D
 |.int i,.int j=>if c i j=τ then ψ bs! else υ
 |_,_=>υ
def a0w{KF:zA!}(hc:∀i j,c i j=τ->C i j)(hg:xa_):Ha KF (rI C gv) (Rf c g):=by
 show"!3";delta Rf at e;show"!9"
 .obtain rfl:=bC rx;obtain rfl:=bC ry;show"!9"
  .rename_i h;rcases e;exact#[_,_,χ,χ,hc _ _ h,xb_]
  .rcases e
 .rcases e
def Hn(g:Int->Int->D):D->D->ι D
 |.int i,.int j=>ψ bs!
 |_,_=>υ
def tE{KF:zA!}(hg:xa_):Ha KF (Se gv) (Hn g):=by
 show"!3";delta Hn at e;show"!9"
 .show"!D";exact#[_,_,χ,χ,xb_]
 .rcases e
def Ka:D->D->ι D:=Hn λi j=>.int (i - j)
def vC{KF:zA!}:Ha KF s3! Ka:=tE λ_ _ _=>Ap.int
def Wv(i j:Int):Bool:=(decide (-gq_<i)&&decide (i<2 ^ 64))||(decide (-gq_<j)&&decide (j<2 ^ 64))
def d2p{KF:zA!}:Ha KF mR! (F8_ Wv (i*j)):=a0w (λi j h=>by
 delta Wv at h;simp![Bool.or_eq_true,NU,NT]at h;exact h) λ_ _ _=>Ap.int
def d2q{KF:zA!}:Ha KF mS_ (F8_ xd_ (i%j)):=a0w (λi j h=>by simpa using h) λ_ _ _=>Ap.int
def c6z{KF:zA!}:Ha KF mS! (F8_ xe! (i / j)):=a0w (λi j h=>by
 simp![NU,NT]at h;exact h) λ_ _ _=>Ap.int
def d2o{KF:zA!}:Ha KF mT_ (F8_ xf! mT!):=a0w (λi j h=>by
 simp![NU,NT]at h;exact#[h.1.1,h.1.2,h.2]) λ_ _ _=>Ap.int
def d6g{KF:zA!}:FN! mW! mV_:=tE λ_ _ _=>Ap.bl
def d6h{KF:zA!}:FN! mY! mX_:=tE λ_ _ _=>Ap.bl
def d6i{KF:zA!}:FN! mZ! mY_:=tE λ_ _ _=>Ap.bl
def Rk(x y:Str):Bool:=!decide (y.cps.toList<x.cps.toList)
def b4w:Fu X mW_ (Fh_ xg_):=by intro hb s Z H x y v u Q I rx ry h;let#[i,j,rfl,rfl,q]:=h;let#[t,rfl]:=rx;let#[t',rfl]:=ry;exact PySem.P.le_str (eQ I q χ)
def Iw:D->Bool
 |.non=>τ
 |_=>θ
def Jh:D->D->ι D
 |x,.non=>C4_ (Iw x)
 |_,_=>υ
def yF{KF:zA!}(r:Dj! d x):decide (x=V.non)=Iw d:=by
 cases d with
 |non=>cases eM r;rfl
 |bl b=>cases dA r;rfl
 |int b=>cases bC r;rfl
 |str b=>cases bO r;rfl
 |tup b=>let#[a,vs,rfl,_]:=bW r;rfl
 |lst b=>let#[a,vs,rfl,_]:=bU r;rfl
 |fn b=>cases gG r;rfl
 |dk b=>let#[a,rfl,_]:=d1n r;rfl
def vE{KF:zA!}:Ha KF ta_ Jh:=by
 show"!3";delta Jh at e;show"!9"
 .show"!j"
 .rcases e
def Bh:D->D->ι D
 |x,.non=>C4_ (!Iw x)
 |_,_=>υ
def lD{KF:zA!}:Ha KF tb_ Bh:=by
 show"!3";delta Bh at e;show"!9"
 .show"!j"
 .rcases e
def Ai:D->D->ι D
 |.tup xs,.int i=>Et xs i
 |.lst xs,.int i=>Et xs i
 |.str x,.int i=>if b8_<=big then(Et x.cps.toList i).map λc=>.str H_ else υ
 |_,_=>υ
def pB{KF:zA!}(r:cI!)(h:Et ds i=ψ d):∃v,Et vs i=ψ v/\Dj! d v:=by delta Et at h ⊢;let#[j,Y,h2]:=MD.mp h;let#[v,h3,h4]:=fP r h2;exact#[v,MD.mpr #[j,by rw[<-aK r];exact Y,h3],h4]
def aL{KF:zA!}:Gq! JE Ai:=by
 show"!3";delta Ai at e;show"!9"
 .show"!Z";show"#L";exact EG_ #[a,vs,_,v,χ,χ,j6!,Y,xi!]
 .show"#%";show"#L";exact .inl #[a,vs,_,v,χ,χ,sub.seq qa,Y,xi!]
 .obtain rfl:=bO rx;obtain rfl:=bC ry;show"!9"
  .rename_i hl;let#[c,Y,rfl]:=MQ.mp e;exact De_ #[_,_,c,χ,χ,cS hl,Y,j5!]
  .rcases e
 .rcases e
def Es(xs:W!)(lo hi:aW_):μ α:=(xs.drop nw!).take nw_
def a4l{KF:zA!}(r:cI!)(lo hi:aW_):D6! (Es ds lo hi) (Uq vs lo hi):=by delta Es Uq;rw[aK r];exact qO _ (qQ _ r)
end
section
variable{X:Cx}{own:List Nat}{e a b c:Expr}{es:List Expr}{pos p2:Pos}{f fa fb fc:Ae->Option D}{fs:Ae->Option (List D)}{ft fu:Ae->Option Bool}{ol oh:Ae->Option (Option Int)}
inductive FG(KF:zA!)(own:g_)(o:xj!)(Z:St)(H:Hp)(Q:uj!):Prop
 |mk (G:Hp) (ρ:Ae) (i:aW_) (r:cf_) (e:o ρ=ψ i) (k:∀G' H',DP! G H->Q i H'):EG! FG o Z H Q
def Av:Ae->ι oH!:=λ_=>ψ υ
def Aq(f:m_):Ae->ι oH!:=λρ=>(ai_).bind λd=>match d with|.int i=>EF_ i|_=>υ
def cP:Ko! υ Av:=by rintro hb s Z H Q I ⟨G,ρ,i,er,e,k⟩;rcases e;exact Ko_ c6d (k G H hh!)
def cI(h:do!):PO X iH! (FG X.K own (Aq f)):=by
 rintro hb s Z H Q I ⟨G,ρ,i,er,e',k⟩;let#[d,e1,e2]:=MD.mp e';exact c6c h.ok hb s Z H Q I #[G,ρ,d,er,e1,λv G' H' s' r'=>?_];cases d<;>first
  |cases e2
  |skip
 obtain rfl:=bC r';exact Hp! oz_
def Cq:D->Da_ Int->Da_ Int->ι D
 |.tup xs,lo,hi=>if D4_ 0 lo=0/\J4_ hi=i! then υ else Ds! (Es xs lo hi)
 |.lst xs,lo,hi=>yJ_ (Es xs lo hi)
 |_,_,_=>υ
def Dq(f:m_)(ol oh:xj!):Ae->ι D:=λρ=>(ai_).bind λd=>(ol ρ).bind λl=>(oh ρ).bind λh=>Cq d l h
def bY{lo hi:Da_ Expr}(ha:K_)(hl:Ko! lo ol)(hh:Ko! hi oh):C5! (Jh_ a nv!) (Dq fa ol oh):=
 eB (b9j (CT.or d1i c5i) ha.ok hl hh) λZ G H Q ρ d er e k=>by
  show"#I";let#[l,e2,e]:=MD.mp e;let#[h,e3,e]:=MD.mp e;exact Ei! #[G1,ρ,l,dn_,e2,λG2 H2 s2=>#[G2,ρ,h,er.grow bS_,e3,λG3 H3 s3=>?_]];let r3:=(hj!).mono s3.g;let s4:=s1.trans hj_;let sub:=s4.sub;delta Cq at e;show"!9"
  .show"!9"
   .rcases e
   .rename_i hw;rcases e;let#[p,vs,rfl,q,rr]:=bW r3;exact .inl #[p,vs,χ,bV sub q,?_,λp hp=>k _ _ _ xk_ (eL fq! (a4l rr l h))];rw[<-aK rr];exact hw
  .rcases e;let#[p,vs,rfl,q,rr]:=bU r3;exact .inr #[p,vs,χ,j6_,λp hp=>k _ _ _ xk_ (cW fq! (a4l rr l h))]
  .rcases e
def JW:D->Value
 |.non=>.type "NoneType"
 |.bl _=>.type "bool"
 |.int _=>.type "int"
 |.str _=>.type "str"
 |.tup _=>.type "tuple"
 |.lst _=>.type "list"
 |.fn _=>.none
 |.dk _=>.none
def JF(KF:zA!)(T:String):μ V->Hp->VK->Prop:=λxs H Q=>∃x d b,xs=[x,.ty T]/\Dj! d x/\IV! d=ψ b/\(∀a,d≠.fn a)/\(∀a,d≠.dk a)/\Q al_ H
def c4f:Fm X j7_ (JF X.K T):=by
 intro hb s Z H xs us Q I r h;let#[x,d,b,rfl,rx,e,hf,s9,q]:=h;let#[u,w',rfl,r1,r2]:=tY r;subst r2;let fin:∀tk,DU_ mn! {s with toks:=tk}:=λtk=>#[.bl b,H,I.tok tk,χ,q];cases d with
 |non=>cases eM rx;subst r1;exact DN! W.kitx_none
 |bl y=>cases dA rx;subst r1;exact DN! W.kitx_bool
 |int y=>cases bC rx;let#[t,rfl]:=r1;exact DN! W.kitx_int
 |str y=>cases bO rx;let#[t,rfl]:=r1;exact DN! W.kitx_str
 |tup ys=>
  show"!Z";subst r1;let#[its,_,#[o,Y,h2,_],_]:=Dq_ qa;exact Ii_ W.kitx_tuple
 |lst ys=>
  show"#%";subst r1;let#[its,_,pl,_]:=Ej_ qa;let#[o,n,Y,h2,_]:=pl;exact Ii_ W.kitx_list
 |fn a=>exact Dd! (hf a)
 |dk a=>exact Dd! (s9 a)
def Xz(T:String):D->Da_ Bool
 |.non=>Jf! T
 |.bl _=>DT_ T T
 |.int _=>JJ! T
 |.str _=>JJ_ T
 |.tup _=>Js! T
 |.lst _=>Jy! T
 |.fn _=>υ
 |.dk _=>υ
structure Zu(KF:zA!)(T:String):Prop where
 ok:∀d b,Xz T d=ψ b->IV! d=ψ b
def a1w:J5! j8!=Jf! "int":=by decide+kernel
def a5v:J5! bT!=DT_ "int" "int":=by decide+kernel
def a2a:J5! bj!=JJ! "int":=by decide+kernel
def a1u:J5! ba_=JJ_ "int":=by decide+kernel
def a1s:J5! aZ!=Js! "int":=by decide+kernel
def a1y:J5! d6!=Jy! "int":=by decide+kernel
def c7v{KF:zA!}:Zu KF "int":=⟨λd b h=>match d,b,h with
 |.non,b,h=>by rcases h;exact a1w
 |.bl _,b,h=>by rcases h;exact a5v
 |.int _,b,h=>by rcases h;exact a2a
 |.str _,b,h=>by rcases h;exact a1u
 |.tup _,b,h=>by rcases h;exact a1s
 |.lst _,b,h=>by rcases h;exact a1y
 |.fn _,b,h=>by rcases h
 |.dk _,b,h=>by rcases h⟩
def xN:J5_ j8!=Jf! "bool":=by decide+kernel
def a2b:J5_ bT!=DT_ "bool" "bool":=by decide+kernel
def xP:J5_ bj!=JJ! "bool":=by decide+kernel
def xM:J5_ ba_=JJ_ "bool":=by decide+kernel
def xL:J5_ aZ!=Js! "bool":=by decide+kernel
def xO:J5_ d6!=Jy! "bool":=by decide+kernel
def c2e{KF:zA!}:Zu KF "bool":=⟨λd b h=>match d,b,h with
 |.non,b,h=>by rcases h;exact xN
 |.bl _,b,h=>by rcases h;exact a2b
 |.int _,b,h=>by rcases h;exact xP
 |.str _,b,h=>by rcases h;exact xM
 |.tup _,b,h=>by rcases h;exact xL
 |.lst _,b,h=>by rcases h;exact xO
 |.fn _,b,h=>by rcases h
 |.dk _,b,h=>by rcases h⟩
def a1v:J6! j8!=Jf! "str":=by decide+kernel
def a5u:J6! bT!=DT_ "str" "str":=by decide+kernel
def a1z:J6! bj!=JJ! "str":=by decide+kernel
def a1t:J6! ba_=JJ_ "str":=by decide+kernel
def a1r:J6! aZ!=Js! "str":=by decide+kernel
def a1x:J6! d6!=Jy! "str":=by decide+kernel
def a2k{KF:zA!}:Zu KF "str":=⟨λd b h=>match d,b,h with
 |.non,b,h=>by rcases h;exact a1v
 |.bl _,b,h=>by rcases h;exact a5u
 |.int _,b,h=>by rcases h;exact a1z
 |.str _,b,h=>by rcases h;exact a1t
 |.tup _,b,h=>by rcases h;exact a1r
 |.lst _,b,h=>by rcases h;exact a1x
 |.fn _,b,h=>by rcases h
 |.dk _,b,h=>by rcases h⟩
def vU:J6_ j8!=Jf! "tuple":=by decide+kernel
def xQ:J6_ bT!=DT_ "tuple" "tuple":=by decide+kernel
def vW:J6_ bj!=JJ! "tuple":=by decide+kernel
def vT:J6_ ba_=JJ_ "tuple":=by decide+kernel
def vS:J6_ aZ!=Js! "tuple":=by decide+kernel
def vV:J6_ d6!=Jy! "tuple":=by decide+kernel
def kM{KF:zA!}:Zu KF "tuple":=⟨λd b h=>match d,b,h with
 |.non,b,h=>by rcases h;exact vU
 |.bl _,b,h=>by rcases h;exact xQ
 |.int _,b,h=>by rcases h;exact vW
 |.str _,b,h=>by rcases h;exact vT
 |.tup _,b,h=>by rcases h;exact vS
 |.lst _,b,h=>by rcases h;exact vV
 |.fn _,b,h=>by rcases h
 |.dk _,b,h=>by rcases h⟩
def Lf(T:String)(f:m_):Ae->ι D:=λρ=>(ai_).bind λd=>(Xz T d).map D.bl
def jZ(ht:Zu X.K T)(hg:oK!)(hm:oL!)(nv:J!)(ny:cx_)(hv:oK_)(hv2:jd!)(ha:K_)
  (iz:cy!:=by decide)(j4:y!:=by decide)
  (he:C7_ [a,cK!]=dP!::C7_ [cK!]:=by rfl)(jj:C7_ [cK!]=(θ,eval ee! X.env)::starEach [] X.env:=by rfl)
  (az:(JV_ (C7_ [cK!])).any e_=false:=by rfl):C5! (.Call (.Name "isinstance" p) [a,cK!] [] pos) (Lf T fa):=
 eB (pE c4f hg hm hv (cU ha.ok (cU (c6k (v:=V.ty T) nv ny hv2 χ iz j4) eO jj) he) a_ a_ he az) λZ G H Q ρ d er e k=>by
  show"#I";let#[b,e2,rfl]:=MQ.mp e;exact Ei! #[v,x,b,χ,r1.mono s1.sub,ht.ok x b e2,xu!,xu!,wU_]
def dW{KF:zA!}(h:D6! [d] vs):∃v,vs=[v]/\Dj! d v:=by let#[v,r,rfl,Y,h2]:=bS h;obtain rfl:=cQ h2;exact#[v,χ,Y]
def Bv:μ D->ι D
 |[.tup xs]=>C2_ i!
 |[.lst xs]=>C2_ i!
 |[.str x]=>if b8_<=big then C2_ b8_ else υ
 |_=>υ
protected def eK{KF:zA!}:Kq KF xv! Bv:=by
 show"!<";delta Bv at e;show"!9"
 .show"!7";let#[a,ws,rfl,q,rr]:=bW rv;rcases e;exact#[_,_,χ,.inr #[ws,bV sub q,aK rr],do_]
 .show"!d";rcases e;exact#[_,_,χ,.inl #[ws,j6_,aK rr],do_]
 .show"!7";obtain rfl:=bO rv;show"!9"
  .show"!W";exact#[_,_,χ,#[cS hl,χ],do_]
  .rcases e
 .rcases e
def BO:μ D->ι D
 |[.int i]=>C2_ iX!
 |_=>υ
def d4q{KF:zA!}:Kq KF tm! BO:=by
 show"!<";delta BO at e;show"!9"
 .show"!7";obtain rfl:=bC rv;rcases e;exact xw_
 .rcases e
def EE:μ D->ι D
 |[.str x]=>if b8_=1 then ψ tp! else υ
 |_=>υ
protected def d4p{KF:zA!}:Kq KF tp_ EE:=by
 show"!<";delta EE at e;show"!9"
 .show"!7";obtain rfl:=bO rv;show"!9"
  .show"!W";exact#[_,χ,hl,do_]
  .rcases e
 .rcases e
def Ln:μ D->ι D
 |[.lst xs]=>ψ aK!
 |[.tup xs]=>ψ aK!
 |_=>υ
def wR{KF:zA!}:Kq KF (KB! KF KF) Ln:=by
 show"!<";delta Ln at e;show"!9"
 .show"!d";cases e;exact#[a,ws,χ,.inl #[j6_,λp hp=>k _ _ _ hm! (eL fq! rr)]]
 .show"!7";let#[a,ws,rfl,q,rr]:=bW rv;cases e;exact#[a,ws,χ,.inr #[bV sub q,k _ G H aA_ rv]]
 .cases e
def tX:∀{bs:j8_} {us:o_},Ax (bs.map V.bl) us->us=bs.map Value.bool
 |[],_,.nil=>rfl
 |b::bs,_,.cons r t=>by subst r;rw[tX t];rfl
def GE(KF:zA!):μ V->Hp->VK->Prop:=λxs H Q=>∃(p:sw!) (bs:j8_),xs=e8_/\Fw_ p (bs.map V.bl)/\Ew_ oO!
def b7c:∀(bs:j8_),((Eo_ bs.length).all λi=>(bs[i]?).getD τ)=bs.all id:=λbs=>by
 rw[PU,SJ,SJ];show"!r"
 .intro h x hx;let#[i,hi,rfl]:=US.mp hx;let:=h i (RY.mpr hi);simpa[hi]using this
 .intro h i hi;let f8:=RY.mp hi;simpa[f8]using h bs[i] (QF f8)
def a7n(hc:ax_):Fm X xz_ (GE X.K):=by
 intro hb s Z H xs us Q I r h;let#[p,bs,rfl,hq,q]:=h;let#[u,rfl,r1]:=gV r;subst r1;let#[its,rv,pl,hz]:=Ej_ hq;let e:=tX rv;subst e;let hl:=pl.isList;let au:p<j!:=by let#[_,e,_]:=hl;exact NP e
 exact call_all_walk (TN hl ?_);exact⟨j!,[j!,p],[j!],(j9!).toArray.size,_,_,λi=>(bs[i]?).getD τ,χ,Walks.list (A:=X.A.in1) aR_ _ p (NZ au) (j9!).toArray,
  #[dN_,hl.push _],λi v s' Q' E' hP hQ=>?_,λh' tk hk=>?_⟩
 .let ZC:j9![i]?=ψ v:=by simpa using hP
  rw[OE]at ZC;let#[b,J,rfl]:=MQ.mp ZC;simp![J,Option.getD_some]at hQ;exact OX hQ
 .let e:((List.range (j9!).toArray.size).all λi=>(bs[i]?).getD τ)=bs.all id:=by
   rw[MX,MV];exact b7c bs
  rw[e];exact#[.bl _,H,I.kept λb x ex=>hk b x (λhm=>by rw[NI.mp hm]at ex;exact QN _ (NP ex)) (MJ _ ex),χ,q]
def Rn:μ D->Jy_ Bool
 |[]=>ψ []
 |.bl b::r=>(Rn r).map (b::·)
 |_=>υ
def Zs:μ D->ι D
 |[.lst xs]=>(Rn xs).map λbs=>.bl oO!
 |_=>υ
def yG{KF:zA!}:∀{ds:d_} {vs:t_} {bs:j8_},C1_ H->Rn ds=ψ bs->vs=bs.map V.bl
 |[],vs,bs,r,e=>by obtain rfl:=cQ r;rcases e;rfl
 |d::ds,vs,bs,r,e=>by
  let#[v,t,rfl,r1,r2]:=bS r;cases d<;>first|cases e|skip
  let#[bs',e1,rfl]:=MQ.mp e;obtain rfl:=dA r1;rw[yG r2 e1];rfl
def c4c{KF:zA!}:Kq KF (GE KF) Zs:=by
 show"!<";delta Zs at e;show"!9"
 .show"!d";let#[bs,e1,rfl]:=MQ.mp e;let:=yG rr e1;subst this;exact#[a,bs,χ,j6_,ef!]
 .rcases e
end
def AB(KF:zA!)(af:It)(ds:d_)(G1:Hp):Prop:=∀(i:δ) (G' H':Hp),Ba G1 G'->Ba G' H'->
 xB_/\xC!
inductive JZ(KF:zA!)(own:g_)(fi:a1!)(Z:St)(H:Hp)(R:iK!):Prop
 |mk (G:Hp) (ρ:Ae) (ds:d_) (o:cf_) (e:fi ρ=ψ ds) (k:∀af G1 H1,Bo G H G1 H1->Hv! af ds->R af H1):EG! JZ fi Z H R
structure DI(X:Cx)(own:g_)(tg iter:Expr)(fi:a1!):Prop where
 ok:G5! iter (EP! JZ fi)
section
variable{X:Cx}{own:List Nat}{e a b c tg:Expr}{es:List Expr}{pos p2:Pos}{f fa fb fc:Ae->Option D}{fs fi:Ae->Option (List D)}{ft fu:Ae->Option Bool}
def zM(h:G5! e wi)(hw:∀Z G H R ρ ds,DV! X.K->fi ρ=ψ ds->(∀af G1 H1,Bo G H G1 H1->AB X.K af ds G1->R af H1)->wi Z H R):EQ! DI e fi:=#[by rintro hb s Z H R I ⟨G,ρ,ds,er,e,k⟩;exact h hb s Z H R I (hw Z G H R ρ ds er e k)]
def Cs(f:m_):Ae->ι aN_:=λρ=>(ai_).bind λd=>match d with|.lst xs=>ψ xs|_=>υ
def Rg(f:m_):Ae->ι aN_:=λρ=>(ai_).bind λd=>match d with|.tup xs=>ψ xs|_=>υ
def a6c{KF:zA!}{ad:sw!}(q:Ek KF G1 ad vs)(r:oP_):Hv! (JP KF ad) ds:=by intro i G' H' s1 s2;let q':Ek KF H' ad vs:=s2.seq (s1.seq q);exact xE_;let#[v,Y,h2]:=fP r hd;exact xG!;let#[e1,e2]:=hy;subst e1;let:=e2 vs q';rw[Y]at this;rcases this;exact xH!
def c7t{KF:zA!}{G1:Hp}{ad:sw!}(q:Fb KF G1 ad vs)(r:oP_):Hv! (JO KF ad) ds:=by intro i G' H' s1 s2;let q':HW_ ad vs:=HX_ q;exact xE_;let#[v,Y,h2]:=fP r hd;exact xG!;let#[e1,e2]:=hy;subst e1;let:=e2 vs q';rw[Y]at this;cases this;exact xH!
def dR(h:K_):Ki! DI Cs:=zM (b1x h.ok) λZ G H R ρ ds er e k=>by
 let#[d,e1,e2]:=MD.mp e;cases d<;>first|cases e2|skip
 exact cj!;let#[p,vs,rfl,q,rr]:=bU r1;exact#[p,χ,#[vs,s1.sub.seq q],k _ G1 H1 s1 (a6c q rr)]
def c3m(h:K_):Ki! DI Rg:=zM (d1w h.ok) λZ G H R ρ ds er e k=>by
 let#[d,e1,e2]:=MD.mp e;cases d<;>first|cases e2|skip
 exact cj!;let#[p,vs,rfl,q,rr]:=bW r1;exact#[p,χ,#[vs,bV s1.sub q],k _ G1 H1 s1 (c7t q rr)]
def Db(n:δ):μ D:=(oQ!).map λi=>.int (i:δ)
def Eu(f:m_):Ae->ι aN_:=λρ=>(ai_).bind λd=>match d with|.int j=>if -1000<=j/\j<=100000 then ψ (Db j.toNat)else υ|_=>υ
def b6d{KF:zA!}:Hv! (HB 0 n) (Db n):=by intro i G' H' s1 s2;delta Db;exact xJ!;rw[OE]at hd;let#[j,hj,rfl]:=MQ.mp hd;let#[hl,he]:=NE.mp hj;rw[WV]at he;subst he;rw[QM]at hl;exact#[hl,ft!];let#[e1,e2]:=hy;subst e1 e2;exact#[G',j9_,?_];rw[Int.zero_add];exact Ap.int
def fW(hg:iM!)(hm:iM_)(h:K_)(hs:sL!:=by rfl)(cm:fu!:=by rfl):
  DI X own tg sM! (Eu fa):=zM (b4r hg hm (cU h.ok eO cm) hs) λZ G H R ρ ds er e k=>by
 let#[d,e1,e2]:=MD.mp e;cases d<;>first|cases e2|skip
 rename_i j;let e3:(if -1000<=j/\j<=100000 then ψ (Db j.toNat)else υ)=ψ ds:=e2;split at e3
 .rename_i hj;rcases e3;exact cj!;obtain rfl:=bC r1;exact#[j,χ,p_,p_,k _ G1 H1 s1 b6d]
 .rcases e3
def Cc(bnd:bA_)(ft:bh_)(fe:m_)(ρ:Ae):μ D->Da_ aN_
 |[]=>ψ []
 |d::ds=>(kb!).bind λal=>(ft al).bind λb=>if b then(fe al).bind λy=>(EH! ρ).map kb_ else EH! ρ
def GD(KF:zA!)(g:TG)(bnd:bA_):Prop:=∀{x:V} {d:D} {Z:St} {G H:Hp} {ρ al:Ae} {Q:iH_},Fx! Z ρ->E6_ d x->bnd d ρ=ψ al->(∀bx,OR KF [] G H bx al->Le ρ al->Q bx H)->g x Z H Q
def Ar(i:δ):D->Ae->ι Ae:=λd ρ=>match ρ[i]? with|some none=>ψ bR_|_=>υ
def bZ{KF:zA!}(i:δ):GD KF eO_ (Ar i):=by
 intro x d Z G H ρ al Q er r e k;delta Ar at e;show"!9"
 .rename_i h;rcases e;exact k _ (er.set nofun r) ((Le.refl ρ).set h)
 .rcases e
def Qo(i j:δ):D->Ae->ι Ae:=λd ρ=>match d with
 |.tup [x,y]=>(Ar i x ρ).bind λal=>Ar j y al
 |_=>υ
def Le.trans(a:Le ρ al)(b:Le al bn):Le ρ bn:=#[a.1.trans b.1,λi d h=>b.2 i d (a.2 i d h)]
def c8d{KF:zA!}(i j:δ):GD KF xO! (Qo i j):=by
 intro x d Z G H ρ al Q er r e k;delta Qo at e;show"!9"
 .let#[bn,e1,e2]:=MD.mp e;show"!`";show"!:";exact#[p,[v1,v2],χ,bV er.sub q,χ,v1,[v2],χ,?_];exact bZ i er r1 e1 λbx nz l1=>#[v2,[],χ,?_];exact bZ j nz r2 e2 λdz dr l2=>#[χ,k dz dr (l1.trans l2)]
 .rcases e
def Ce(nl:δ)(ix:g_)(fi:a1!)(bnd:bA_)(ft:bh_)(fe:m_):Ae->ι D:=λρ=>(fi ρ).bind λds=>if h!<=big then(EH! ot_).map D.lst else υ
def d4o{KF:zA!}{Fin:c2!}
  (J:h!<=big)(gi:xQ!)(hg:GD KF g bnd)(er:OR KF [] G1 H1 xq og)(e:EH! og=ψ j8)(k:∀ys G' H',DP! G1 H1->G9! j8->Fin ys H'):
  Xd af g (DC KF [] ft) (tD KF [] fe) Fin xq H1:=by
 exact⟨λi m ys ae H'=>i<=h!/\m=h! - i/\∃G' ws r,DP! G1 H1/\OR KF [] G' H' ae og/\G9! ws/\ca_<=i/\Cc bnd ft fe og (HY! i)=ψ r/\ws++r=j8,
  #[h!,OG _,χ,G1,[],j8,Bo.refl er.sub,er,Al.nil,OG _,e,χ],?_⟩
 rintro i m ys ae H' ⟨hi,rfl,G',ws,r,x,db,a9,hw,dr,et⟩;exact xR_;let#[oj,om]:=gi i G' H' x.g db.sub;by_cases au:i<h!
 .right;let hd:ds[i]?=ψ ds[i]:=by simp[au]
  let xr:=QQ au;rw[xr]at dr;delta Cc at dr;let#[al,e1,dr]:=MD.mp dr;let#[b,e2,dr]:=MD.mp dr;let#[go,yl]:=oj _ hd;exact#[go,kc_];let#[G2,x2,r2]:=yl v H2 hy;exact hg (db.grow x2) r2 e1 λbx nz tf=>#[G2,al,b,nz,e2,λG3 H3 x3=>?_];let k9:=nz.grow x3;let mi:=x.trans (x2.trans x3);cases b with
  |true=>
   let#[y,e3,dr]:=MD.mp dr;let#[zs,e4,rfl]:=MQ.mp dr;exact kL #[G3,al,y,k9,e3,λu G4 H4 x4 r4=>#[_,?_,au,χ,G4,ws++[y],zs,mi.trans x4,(k9.grow x4).le tf,?_,?_,e4,?_]]
   .omega
   .exact dH xS! (DD! r4)
   .rw[NR,QR];omega
   .rw[PN];exact et
  |false=>
   exact lK #[_,?_,au,χ,G3,ws,r,mi,k9.le tf,(oU_).mono x3.g,p_,dr,et];omega
 .left;let jk:i=h!:=by omega
  exact#[om jk,k ys G' H' x ?_];rw[jk,VQ]at dr;rcases dr;rw[OA]at et;subst et;exact a9
def fY
  (c9:dm!)(df:dm_)(k8:∀y∈cd_,y.2=.local->scope.names.lookup y.1=DM! ψ)
  (iy:ha!)(cap:dl_)(hix:jX_)(calm:ax_)(ay:EQ! DI iter fi)
  (hg:ha_)(oo:oV!)(hi:∀cl C av bj fp,It! xS_)(he:∀cl C av bj fp,DE ce! [] f7 fe)
  (hs:c6_:=by intro _;rfl):
  DE X own g8! (Ce NL.length ix fi bnd ft fe):=
 eB xT_ λZ G H Q ρ d er e k=>by
  show"!N"
  .rename_i J;let#[j8,e2,rfl]:=MQ.mp e;exact#[G,ρ,ds,er,e1,xU!];exact d4o J gi oo ((er.grow x1).cap NL.length ix hix) e2 λys G' H' x r p hp=>?_;exact k _ _ _ (x1.trans (x.trans ho!)) (cW oW! r)
  .rcases e
def nS:Os X [] (DC X.K [] λ_=>ψ τ):=by rintro hb s Z H Q I ⟨G,ρ,b,er,e,k⟩;rcases e;exact Ko_ a4s (k G H hh!)
def d0c(h:DT X [] c ft):Os X [c] xS_:=a4r h.ok
end
inductive Fl where
 |nx (ρ:Ae)|rt (d:D)
structure SR(KF:zA!)(own:g_)(G0 F0 G H:Hp)(Z:St)(ρ:Ae):Prop where
 or:DV! KF
 ext:Bo G0 F0 G H
 fr:∀i∈own,∀p,Z[i]?=ψ cf!->F0 p=υ
inductive HI(KF:zA!)(G0 F0:Hp)(own cr:g_)(f:cL_)(E:Uu)(Z:St)(H:Hp):Prop
 |mk (G:Hp) (ρ:Ae) (r:Fl) (o:fw!) (e:f ρ=ψ r) (k:match(generalizing:=false) r with
  |.nx ρ'=>∀G' ae H',SR KF cr G0 F0 G' H' ae ρ'->E.nx ae H'
  |.rt d=>∀v G' H',DP! G0 F0->DM_ G'->E.rt v H'):HI KF G0 F0 own cr f E Z H
structure DS(X:Cx)(own cr:g_)(st:Stmt)(f:cL_):Prop where
 ok:∀G0 F0,PS X st xV!
structure Yl(X:Cx)(own cr:g_)(st:eI!)(f:cL_):Prop where
 ok:∀G0 F0,Nz X st xV!
section
variable{X:Cx}{own bd ik:List Nat}{st:Stmt}{rest body:List Stmt}{e a b c tg:Expr}{es:List Expr}{pos p2:Pos}{f fa fb fc:Ae->Option D}{fs fi:Ae->Option (List D)}{ft fu:Ae->Option Bool}{q1 q2 q3:Ae->Option Fl}
def d0u(h:iF!)(hw:∀G0 F0 E Z G H ρ r,EP! SR G0 F0 G H Z ρ->q1 ρ=ψ r->(match r with
  |.nx ρ'=>∀G' ae H',SR X.K bd G0 F0 G' H' ae ρ'->E.nx ae H'
  |.rt d=>∀v G' H',DP! G0 F0->DP_ G'->E.rt v H')->t E Z H):DL! DS st q1:=#[by rintro G0 F0 hb s Z H E I ⟨G,ρ,r,er,e,k⟩;exact h hb s Z H E I (hw G0 F0 E Z G H ρ r er e k)]
def SR.grow{KF:zA!}(s:fw!)(x:jV_):JD_ G0 F0:=#[s.or.grow x,s.ext.trans x,s.fr]
def SR.set{KF:zA!}(s:fw!)(hi:a0_)(r:cJ!):EG! SR G0 F0 G H eG! bR_:=
 ⟨s.or.set hi r,s.ext,λj hj p e=>by
  let ne:i≠j:=λz=>Iu! z;rw[NX ne]at e;exact s.fr j hj p e⟩
def El:Ae->ι Fl:=λρ=>ψ ad!
nonrec def sSeq(q1 q2:cL_):Ae->ι Fl:=λρ=>(q1 ρ).bind λr=>match r with|.nx ρ'=>q2 ρ'|.rt d=>ψ af_
def dC:Ex! Yl [] El:=⟨by
 rintro G0 F0 hb s Z H E I ⟨G,ρ,r,er,e,k⟩;rcases e;exact Dt_ b1t E I (k G Z H er)⟩
def aY(Y:xW!)(h2:Yl X bd ik rest q2):Yl X own ik iF_ (sSeq q1 q2):=⟨by
 rintro G0 F0 hb s Z H E I ⟨G,ρ,r,er,e,k⟩;exact uT oZ! (h2.ok G0 F0) hb s Z H E I ?_;let#[r1,e1,e2]:=MD.mp e;exact#[G,ρ,r1,er,e1,?_];cases r1 with
 |nx ρ'=>exact λG' ae H' db=>#[G',ρ',r,db,e2,k]
 |rt d=>
  rcases e2;exact k⟩
def aV(Y:xW!):DL! Yl [st] q1:=#[λG0 F0=>jK oZ!]
def SR.free{KF:zA!}(s:fw!):SR KF [] G0 F0 fn! H Z ρ:=by
 let o:=s.or.full;exact#[o,#[jU!,s.ext.h,o.sub,bh!],at!]
 .let z:=s.ext.g b u e;delta Js;split
  .exact Iv! z
  .exact z
 .delta Js at h;split at h
  .rename_i J;let#[i,hi,q]:=nL J;exact .inr (s.fr i hi b q)
  .exact s.ext.new b h
def a6u(h:Yl X [] ik rest q1):Yl X own ik rest q1:=#[by rintro G0 F0 hb s Z H E I ⟨G,ρ,r,er,e,k⟩;exact h.ok G0 F0 hb s Z H E I #[_,ρ,r,er.free,e,k]]
def Bi(f:m_):Ae->ι Fl:=λρ=>(ai_).map Fl.rt
def bK(h:do!):DS X own bd mu_ (Bi f):=d0u (b8x h.ok) λG0 F0 E Z G H ρ r er e' k=>by
 let#[d,e1,rfl]:=MQ.mp e';exact#[G,ρ,d,er.or,e1,λv G' H' x r=>k v G' H' (er.ext.trans x) r]
def Dk(i:δ)(f:m_):Ae->ι Fl:=λρ=>(ai_).map λd=>.nx bR_
def eI(hN:br!)(hi:al!)(hx:bJ!)(h:do!)(b6:a0_:=by decide)(hs:o0_:=by rfl)
  (hf:X.fn x=τ\/AN_ x=DM! some:=by first|exact .inl χ|exact .inr χ|assumption):Ex! DS xX! (Dk i f):=
 d0u xX_ λG0 F0 E Z G H ρ r er e' k=>by
  let#[d,e1,rfl]:=MQ.mp e';exact#[G,ρ,d,er.or,e1,λv G' H' x r=>k G' _ H' ((hq!).set b6 r)]
def Hx(ft:bh_)(q1 q2:cL_):Ae->ι Fl:=λρ=>(hk_).bind λb=>if b then q1 ρ else q2 ρ
def fG(hc:D9! DT c)(Y:DL! Yl b1 q1)(h2:DL! Yl b2 q2):DL! DS o1! (Hx ft q1 q2):=⟨by
 rintro G0 F0 hb s Z H E I ⟨G,ρ,r,er,e',k⟩;exact GE_ oZ! (h2.ok G0 F0) E I ?_;let#[x,e1,e2]:=MD.mp e';exact#[G,ρ,x,er.or,e1,λG' H' x'=>?_];cases x with
 |true=>exact kL xZ_
 |false=>exact lK xZ_⟩
def Sb(i:δ)(fs:a1!):Ae->ι Fl:=λρ=>(fp!).bind λds=>if h!<=1000 then DQ! o1_ else υ
def SR.ownNew{KF:zA!}(s:fw!)(hi:a0_)(hl:i<eF_)(r:ke!)(hp:cI_):
  SR KF (i::own) G0 F0 G jT! (Z.set i cf!) o1_:=by
 let xt:i<jU_:=by rw[s.or.len];exact hl
 let xu:Ba H jT!:=iV hp;show"#7";exact#[#[x0_,by rw[RF,RF,s.or.len],x1!,ke_,λj hj k hk hne a b e1 e2=>?_],#[s.ext.g,s.ext.h.trans xu,x0_,s.ext.new],λj hj a e=>?_]
 .let du:i≠j:=λz=>n (BG_ z ML);rw[NX du]at q ⊢;exact s.or.at_ j d q λz=>n (MF _ z)
 .obtain z|z:=MM.mp hj
  .subst z;exact#[p,ds,vs,by rw[OI xt],by rw[OI hl],cC,s.or.sub.free hp,r]
  .let du:i≠j:=λy=>hi (y▸z);let#[a,qm,g6,Y,h2,h3,h4,h5]:=F9! j z;exact#[a,qm,g6,by rw[NX du];exact Y,by rw[NX du];exact h2,by rw[bD (ne h3)];exact h3,h4,h5]
 .let look:∀{j:δ} {a:sw!},j∈i::own->(Z.set i cf!)[j]?=ψ kf_->(j=i/\a=p)\/(j≠i/\j∈own/\Z[j]?=ψ kf_/\a≠p):=λ{j a} hj e=>by
   by_cases du:i=j
   .subst du;rw[OI hl]at e;cases e;exact .inl ae!
   .rw[NX du]at e;let hm:=(MM.mp hj).elim x2! id;let#[a',qm,g6,Y,h2,h3,h4,h5]:=F9! j hm;rw[e]at h2;cases h2;exact .inr #[NY du,hm,e,ne h3]
  obtain⟨z1,z2⟩|⟨z1,z2,z3,z4⟩:=look hj e1
  .obtain⟨y1,y2⟩|⟨y1,y2,y3,y4⟩:=look hk e2
   .exact C6_ (z1.trans y1.symm) hne
   .rw[z2];exact NY y4
  .obtain⟨y1,y2⟩|⟨y1,y2,y3,y4⟩:=look hk e2
   .rw[y2];exact z4
   .exact s.or.dis j z2 k y2 hne a b z3 y3
 .by_cases du:i=j
  .subst du;rw[OI hl]at e;cases e;exact s.ext.h.free hp
  .rw[NX du]at e;exact s.fr j ((MM.mp hj).elim x2! id) a e
def oR{p3 p4:Pos}(hN:br!)(hi:al!)(hx:bJ!)(h:j2_)(b6:a0_:=by decide)
  (hf:X.fn x=τ\/AN_ x=DM! some:=by first|exact .inl χ|exact .inr χ|assumption)(c8:swapsWith o3! (ψ (J7! p3)) p4.line X.env=pure false:=by rfl):DS X own (i::own) (.Assign [.Name x p3] o3! p4) (Sb i fs):=⟨by
  rintro G0 F0 hb s Z H E I ⟨G,ρ,r,er,e',k⟩;exact uU hN hi hx j3! c8 hf hb s Z H E I ?_;let hl:i<eF_:=by rw[I.len];exact(NE.mp hi).1
  let#[ds,e1,e2]:=MD.mp e';split at e2
  .rename_i bi;rcases e2;exact#[G,ρ,ds,er.or,e1,λvs G' H' x r=>#[by rw[<-aK r];exact fF bi,λp hp=>k G' _ _ ((hq!).ownNew b6 hl r hp)]]
  .rcases e2⟩
def SR.upd{KF:zA!}(s:fw!)(hi:ec!)(hp:wj_)(r:ke!):
  SR KF own G0 F0 G jT! Z o1_:=by
 let#[p',qm,g6,Y,h2,h3,h4,h5]:=F9! i hi;rw[hp]at h2;cases h2;let hG:∀{b u},G b=ψ u->b≠p:=λe=>cN e h4;let hF:∀{b u},F0 b=ψ u->b≠p:=λe=>cN e (s.fr i hi p hp);let xt:=(kh!).1;exact#[#[x4!,by rw[RF,s.or.len],x1!,ke_,s.or.dis],#[s.ext.g,λb u e=>by rw[bD (hF e)];exact s.ext.h b u e,x4!,s.ext.new],s.fr]
 .let du:i≠j:=λz=>n (z▸hi);rw[NX du]at q;exact s.or.at_ j d q n
 .by_cases du:i=j
  .subst du;exact#[p,ds,vs,by rw[OI xt],hp,cC,h4,r]
  .let#[a,ds2,ZD,g1,g2,g3,g4,g5]:=F9! j hj;let ne:=NY (s.or.dis i hi j hj du p a hp g2);exact#[a,ds2,ZD,by rw[NX du];exact g1,g2,by rw[bD ne];exact g3,g4,g5]
def Po(i:δ)(f:m_):Ae->ι Fl:=λρ=>(ai_).bind λd=>match ρ[i]? with|some (some (.lst ds))=>if h!<big then ψ x5! else υ|_=>υ
def rQ(b6:ec!:=by decide)(h:do!)(hN:al!:=by rfl)(hv:cw!:=by first|exact Or.inl rfl|exact Or.inr d!|exact Or.inr aG_)
  (hd:y!:=by decide)(bw:cw_:=by decide)
  (hst:hr_:=by rfl)(dn:(EY_ jA!&&D3! bw_
   &&decide x5_)=true:=by rfl) (dq:cc!:=by rfl)
  (dh:C8! bk_ "append" kh_=Dk_ bk_:=by rfl) (cx:eg!:=by rfl) (gj:De! x6_ υ=pure false:=by rfl):
  DS X own own (G3_ x6_) (Po i f):=⟨by
  rintro G0 F0 hb s Z H E I ⟨G,ρ,r,er,e',k⟩;exact Iv_ (pF UC PySem.F.slot_list_append PySem.F.type_list_append yS jY_ x7_ dh dn dq hst cx);let#[d,e1,e2]:=MD.mp e';let#[p,ds,vs,Y,h2,h3,h4,h5]:=HY_ i;rw[Y]at e2;simp only at e2;split at e2
  .rename_i hl;rcases e2;exact#[fx_,h2,o4!,G,ρ,d,er.or,e1,λv G' H' x r=>#[p,vs,v,χ,χ,x.h _ _ h3,?_,?_]]
   .rw[<-aK h5];exact NN hl ki!
   .exact k G' Z _ ((hq!).upd b6 h2 (dH o4_ (DD! r)))
  .rcases e2⟩
def Vm(i:δ)(fx fv:m_):Ae->ι Fl:=λρ=>(fv ρ).bind λd=>(fx ρ).bind λx=>match x,ρ[i]? with|.int j,some (some (.lst ds))=>(o5_).map λk=>.nx x8_|_,_=>υ
def c3h(b6:ec!:=by decide)(hx:x9!)(hv:C5! e fv)(hN:al!:=by rfl)(xv:cw!:=by first|exact Or.inl χ|exact GE! d!|exact GE! aG_)
  (hd:y!:=by decide)(bw:cw_:=by decide)
  (ha:∀v,assign x9_ X.env v=(do
   let ov <-holding [v] kh_
   let iv <-holding [v,ov] (eval ix X.env)
   standAt p2
   holding eP! mx!
   release eP! []):=by intro _;rfl)
  (hs:Ew! ki_=pure false:=by rfl) (hw:Ft! ki_=pure none:=by rfl)
  (Y:Dy_ ki_=[assign x9_ X.env]:=by rfl):
  DS X own own (Ez! ki_ e) (Vm i fx fv):=⟨by
  rintro G0 F0 hb s Z H E I ⟨G,ρ,r,er,e',k⟩;exact b9b hv.ok (b9g ya_ hx.ok a4d ha) hs hw Y hb s Z H E I ?_;let#[d,e1,e2]:=MD.mp e';let#[z,e3,e4]:=MD.mp e2;let#[p,ds,vs,Y,h2,h3,h4,h5]:=HY_ i;rw[Y]at e4;cases z<;>first|cases e4|skip
  rename_i j;let#[n,e5,rfl]:=MQ.mp (show(o5_).map _=ψ r from e4);exact#[G,ρ,d,er.or,e1,λv G' H' x r=>#[fx_,h2,G',ρ,dO_,er.or.grow x,e3,yb!]];obtain rfl:=bC r2;exact#[p,vs,j,n,χ,χ,yb_,by rw[<-aK h5];exact e5,?_];exact Jq! (uN (r.mono x2.g) n ((o4_).mono x2.g))⟩
def Km(i:δ)(fx:m_):Ae->ι D:=λρ=>(fx ρ).bind λx=>match x,ρ[i]? with|.int j,some (some (.lst ds))=>Et ds j|_,_=>υ
def rR(b6:ec!:=by decide)(hx:x9!)(hs:Pc ix)(hN:al!:=by rfl)(xv:cw!:=by first|exact Or.inl χ|exact GE! d!|exact GE! aG_)
  (hd:y!:=by decide)(bw:cw_:=by decide):C5! (Jh_ bk_ ix) (Km i fx):=
 eB (b9o b2x ya_ hx.ok hs) λZ G H Q ρ d er e k=>by
  let#[z,e3,e4]:=MD.mp e;let#[p,ds,vs,Y,h2,h3,h4,h5]:=er.own_ i b6;rw[Y]at e4;cases z<;>first|cases e4|skip
  rename_i j;let e5:=e4;let#[v,e6,r6]:=pB h5 e5;exact#[fx_,h2,G,ρ,dO_,er,e3,yb!];obtain rfl:=bC r2;exact#[p,vs,j,v,χ,χ,Ek.of (x2.h _ _ h3),e6,k v G2 H2 x2 (r6.mono x2.g)]
def Nu(bnd:bA_)(q:cL_):μ D->Ae->Da_ Fl
 |[],ρ=>ψ ad!
 |d::ds,ρ=>(kb!).bind λal=>(q al).bind λr=>match r with|.nx bn=>Nu bnd q ds bn|.rt d=>ψ af_
def Vn(fi:a1!)(bnd:bA_)(q:cL_):Ae->ι Fl:=λρ=>(fi ρ).bind λds=>Nu bnd q ds ρ
def Qm(F0 G1:Hp):Hp:=λb=>match F0 b with|some o=>ψ o|none=>G1 b
def SR.base{KF:zA!}(s:EG! SR G0 F0 G1 H1 Z ρ):EG! SR G1 hs_ G1 H1 Z ρ:=by
 exact#[s.or,#[Ba.refl _,jU!,s.or.sub,dq_],yc_]
 .delta Qm at e;show"!9"
  .rename_i o ho;rcases e;exact s.ext.h b _ ho
  .exact Iv! e
 .let#[p',ds,vs,Y,h2,h3,h4,h5]:=F9! i hi;rw[e]at h2;cases h2;delta Qm;rw[GS_ s.fr];exact h4
def wK(x:yd!)(y:DP! G1 hs_):DP! G0 F0:=by
 exact#[x.g.trans y.g,λb u e=>y.h b u ?_,y.sub,bh!]
 .delta Qm;rw[e]
 .obtain z|z:=y.new b h
  .exact x.new b z
  .right;delta Qm at z;split at z
   .rcases z
   .assumption
def SR.unbase{KF:zA!}(x:yd!)(s:JD_ G1 hs_):JD_ G0 F0:=
 ⟨s.or,wK x s.ext,λi hi p e=>by
  let z:=GS_ s.fr;delta Qm at z;split at z
  .rcases z
  .assumption⟩
def Bw(i:δ):D->Ae->ι Ae:=λd ρ=>ψ bR_
def b0e(hp:gl!)(hc:ax_)(ay:DI X own ee! iter fi)(hN:br!)(hi:al!)(hx:bJ!)(J:Ex! Yl body q1)(b6:a0_:=by decide)
  (hf:X.fn x=τ\/AN_ x=DM! some:=by first|exact .inl χ|exact .inr χ|assumption)(hs:c6_:=by intro _;rfl):
  DS X own own (.For ee! iter body [] pos) (Vn fi (Bw i) q1):=⟨by
 rintro G0 F0 hb s Z H E I ⟨G,ρ,r,er,e',k⟩;let#[ds,e1,e2]:=MD.mp e';let g7:G4_ X (λE Z H=>∃A B,HI X.K A B own own q1 E Z H):=by rintro hb s Z H E I ⟨A,B,h⟩;exact J.ok A B hb s Z H E I h
 exact F3_ (aZ hN hi hx hf) #[G,ρ,ds,er.or,e1,xU!];let ZE:=er.ext.trans x1;exact⟨λn m ae H'=>n<=h!/\m=h! - n/\∃G' ρ',EP! SR G1 hs_ G' H' ae ρ'/\Nu (Bw i) q1 oo_ ρ'=ψ r,
  #[h!,OG _,χ,G1,ρ,(er.grow x1).base,e2],?_⟩
 rintro n m ae H' ⟨hn,rfl,G',ρ',db,e3⟩;let#[oj,om]:=gi n G' H' db.ext.g db.or.sub;by_cases au:n<h!
 .right;let hd:ds[n]?=ψ ds[n]:=by simp[au]
  let xr:=QQ au;rw[xr]at e3;delta Nu at e3;let#[al,e4,e3]:=MD.mp e3;let#[r1,e5,e3]:=MD.mp e3;rcases e4;let#[go,yl]:=oj _ hd;exact#[go,λdz H2=>∃G2 bn,SR X.K own G1 hs_ G2 H2 dz bn/\Nu (Bw i) q1 (HY! bC!) bn=ψ r,by rintro dz H2 ⟨G2,bn,Y,h2⟩;exact#[h! - bC!,p_,au,χ,G2,bn,Y,h2],kc_];let#[G2,x2,r2]:=yl v H2 hy;exact#[G1,Qm F0 G1,G2,_,r1,(db.grow x2).set b6 r2,e5,?_];cases r1 with
  |nx bn=>exact λG3 ii H3 k9=>#[G3,bn,k9,e3]
  |rt d=>
   rcases e3;exact λw G3 H3 x3 r3=>k w G3 H3 (wK ZE x3) r3
 .left;let jk:n=h!:=by omega
  exact o8!;rw[jk,VQ]at e3;rcases e3;exact k G' ae H' (SR.unbase ZE db)⟩
def uD{KF:zA!}(s:K!)(r:ke!):Fx! (L2.start N vs) cN!:=by
 let hl:=aK r;delta L2.start;exact#[s,by simp[hl],os_,at!,at!];by_cases hi:i<h!
 .rw[QA gH!,OE]at q;let#[d',Y,h2]:=MQ.mp q;rcases h2;let#[v,h3,h4]:=fP r Y;exact#[v,by rw[QA (by simpa[<-hl]using hi),OE,h3];rfl,h4]
 .rw[e1_,QY]at q;split at q<;>cases q
end
def d4g{KF:zA!}{st:Stmt}
  (F:ye_)(S:dk_)
  (J:∀(aj:v5!) (A:uB!) (outer:aq_) (s:yU!) (H:Hp) (E:XK),Ah k o9_->GT! Yl pa!)
  (hg:∀ds d,h!=ab!->g ds=ψ d->q cN!=ψ af_\/∃ρ,q cN!=ψ ad!/\d=.non):
  Ez P w KF mg base Ot R! ag fd ps pa_:=by
 exact yf_;let#[hl,G,ds,d,sub,r,e,kk]:=h;exact#[_,(yg!).ok G H,?_];let er:=uD (N:=N) sub r;rcases hg ds d (by rw[aK r];exact hl) e with z|⟨ρ,z,rfl⟩
 .exact#[G,_,_,yg_,z,λv G' H' x r=>kk v G' H' x r]
 .exact#[G,_,_,yg_,z,λG' ae H' db=>kk _ G' H' db.ext Ap.non]
mutual
noncomputable def Ej:D->D->Bool
 |.non,.non=>τ
 |.bl a,.bl b=>a==b
 |.bl a,.int b=>uC_==b
 |.int a,.bl b=>a==jn_
 |.int a,.int b=>a==b
 |.str a,.str b=>a==b
 |.tup xs,.tup ys=>Iq xs ys
 |.lst xs,.lst ys=>Iq xs ys
 |_,_=>θ
noncomputable def Iq:List D->List D->Bool
 |[],[]=>τ
 |x::xs,y::ys=>Ej x y&&Iq xs ys
 |_,_=>θ
end
mutual
noncomputable def Bc:D->Bool
 |.fn _=>θ
 |.dk _=>θ
 |.tup xs=>Br xs
 |.lst xs=>Br xs
 |_=>τ
noncomputable def Br:List D->Bool
 |[]=>τ
 |d::ds=>Bc d&&Br ds
end
section
variable{X:Cx}{hb:List (Addr×Obj)}{Z:St}{H:Hp}{s:yU!}
def uB(I:e!)(h:kj_)(h':F7! a ws):False:=by let#[_,_,#[o,e,c,_],_]:=Dq_ h;let#[_,_,#[o',n,e',c',_],_]:=Ej_ h';rw[e]at e';rcases e';rw[c]at c';exact C6_ c' nofun
mutual
theorem a0h(I:e!):∀(d d':D) (v:V),Bc d=τ->Bc d'=τ->DP_ H->Ap X.K H d' v->d=d'
 |.non,d',v,n,n',r,r'=>by
  obtain rfl:=eM r;cases d'<;>first
   |rfl
   |(delta Ap at r';cases r';done)
   |(let#[a,vs,e,_]:=bW r';cases e)
   |(let#[a,vs,e,_]:=bU r';cases e)
   |(delta Bc at n';cases n')
 |.bl b,d',v,n,n',r,r'=>by
  obtain rfl:=dA r;cases d'<;>first
   |(cases dA r';rfl;done)
   |(delta Ap at r';cases r';done)
   |(let#[a,vs,e,_]:=bW r';cases e)
   |(let#[a,vs,e,_]:=bU r';cases e)
   |(delta Bc at n';cases n')
 |.int b,d',v,n,n',r,r'=>by
  cases bC r;cases d'<;>first
   |(cases bC r';rfl;done)
   |(delta Ap at r';cases r';done)
   |(let#[a,vs,e,_]:=bW r';cases e)
   |(let#[a,vs,e,_]:=bU r';cases e)
   |(delta Bc at n';cases n')
 |.str b,d',v,n,n',r,r'=>by
  cases bO r;cases d'<;>first
   |(cases bO r';rfl;done)
   |(delta Ap at r';cases r';done)
   |(let#[a,vs,e,_]:=bW r';cases e)
   |(let#[a,vs,e,_]:=bU r';cases e)
   |(delta Bc at n';cases n')
 |.tup xs,d',v,n,n',r,r'=>by
  let#[a,vs,rfl,q,rr]:=bW r;cases d' with
  |tup ys=>
   let#[a',g6,e,q',b7]:=bW r';cases e;let:=I.tuple_inj q q';subst this;delta Bc at n n';rw[yh!]
  |lst ys=>
   let#[a',g6,e,q',b7]:=bU r';cases e;exact(uB I q q').elim
  |fn b=>delta Bc at n';cases n'
  |dk b=>delta Bc at n';cases n'
  |non=>cases eM r'
  |bl b=>cases dA r'
  |int b=>cases bC r'
  |str b=>cases bO r'
 |.lst xs,d',v,n,n',r,r'=>by
  let#[a,vs,rfl,q,rr]:=bU r;cases d' with
  |lst ys=>
   let#[a',g6,e,q',b7]:=bU r';cases e;let:=I.list_inj q q';subst this;delta Bc at n n';rw[yh!]
  |tup ys=>
   let#[a',g6,e,q',b7]:=bW r';cases e;exact(uB I q' q).elim
  |fn b=>delta Bc at n';cases n'
  |dk b=>delta Bc at n';cases n'
  |non=>cases eM r'
  |bl b=>cases dA r'
  |int b=>cases bC r'
  |str b=>cases bO r'
 |.fn a,d',v,n,n',r,r'=>by delta Bc at n;cases n
 |.dk a,d',v,n,n',r,r'=>by delta Bc at n;cases n
theorem uP(I:e!):∀(ds es:d_) (vs:t_),Br ds=τ->Br es=τ->FW! ds->FW! es->ds=es
 |[],es,vs,n,n',r,r'=>by
  obtain rfl:=cQ r;cases es with
  |nil=>rfl
  |cons e es=>let#[v,t,z,_]:=bS r';rcases z
 |d::ds,es,vs,n,n',r,r'=>by
  let#[v,t,rfl,r1,r2]:=bS r;cases es with
  |nil=>cases cQ r'
  |cons e es=>
   let#[v',t',z,xw,xy]:=bS r';cases z;delta Br at n n';rw[NU]at n n';rw[a0h I d e v n.1 n'.1 r1 xw,uP I ds es t n.2 n'.2 r2 xy]
end
mutual
theorem wL:∀d:D,Bc d=τ->Ej d d=τ
 |.non,_=>by rfl
 |.bl b,_=>by simp[Ej]
 |.int i,_=>by simp[Ej]
 |.str s,_=>by simp[Ej]
 |.tup xs,h=>by delta Ej;exact rN xs yh_
 |.lst xs,h=>by delta Ej;exact rN xs yh_
 |.fn a,h=>by simp[Bc]at h
 |.dk k,h=>by simp[Bc]at h
theorem rN:∀ds:List D,Br ds=τ->Iq ds ds=τ
 |[],_=>by simp[Iq]
 |d::ds,h=>by
  delta Br at h;rw[NU]at h;delta Iq;rw[wL d h.1,rN ds h.2];rfl
end
def a4i(I:e!)(d d':D)(v:V)(n:cN_)(n':fA!)(r:eh_)(r':Ap X.K H d' v):Ej d d'=true:=by rw[<-IV_ I];exact wL d n
def iT(A:uB!):A.in1.units=A.units+1:=χ
def nA:∀(xs ys:d_),i!=X_->((Eo_ i!).all λj=>Ej (xs.getD j .non) (ys.getD j .non))=Iq xs ys
 |[],[],_=>rfl
 |x::xs,y::ys,h=>by
  let ih:=nA xs ys kl!;delta Iq;rw[NH,List.range_succ_eq_map,SW,<-ih,List.all_map];rfl
 |[],_::_,h=>by simp at h
 |_::_,[],h=>by simp at h
def mY:∀(xs ys:d_),i!≠X_->Iq xs ys=θ
 |[],[],h=>Dd! h
 |x::xs,y::ys,h=>by
  delta Iq;rw[mY xs ys kl!,VD]
 |[],_::_,_=>rfl
 |_::_,[],_=>rfl
def pR(rd:hu!)(re:hu_)(rv:eH_)(a9:Ax ws us')
  (h:∀(j:δ) u u',us[j]?=ψ u->us'[j]?=ψ u'->Dr_ u' kl_):
  ∀j (Y:j<pc!) (h2:j<pc_),Ir! A hv_[j] pd![j] kl_:=λj Y h2=>by
 let l1:j<aw!:=by simpa using Y
 let l2:j<us'.length:=by simpa using h2
 exact h j _ _ (DS! l1) (DS! l2)
def yH(I:e!)(qa:kj_)(qb:GR_ b ws)(rd:hu!)(re:hu_)(hu:an!)
  (h:km_):Et_ M_ d0! (Iq ds es):=by
 let#[us,rv,p1,_]:=Dq_ qa;let#[us',a9,p2,_]:=Dq_ qb;let Y:=aK rd;let h2:=aK re;let h3:=c5!;let h4:=kn_;let z:=SeqAt.RcAt.tuples p1 p2 hu kn!;let e:yl_=Iq ds es:=by
  show"#4"
  .rw[hl,Nat.min_self,<-hl,ko!,hl];simp
  .rw[ko_];let:(h!==an_)=false:=by simpa using hl
   rw[this,VD]
 rw[e]at z;exact z
def a4n(I:e!)(qa:pe!)(qb:F7! b ws)(rd:hu!)(re:hu_)(hu:an!)
  (h:km_):Et_ M_ d0! (Iq ds es):=by
 show"!I";let h4:=kn_;by_cases hl:h!=an_
 .let z:=Ex_ SeqAt.RcAt.lists oF! kn!;rw[MX,<-h3,<-Y,ko!]at z;exact z
 .rw[ko_];exact Ex_ SeqAt.RcAt.lists_lengths ym!
def c2g(I:e!)(q:kj_):∃ak,Eu! a ak:=by let#[its,_,p,_]:=Dq_ q;exact#[_,p]
def b6e(I:e!)(q:pe!):∃ak,HZ! a ak:=by let#[its,_,p,_]:=I.list q;exact#[_,p.isList]
inductive RV(X:Cx)(H:Hp)(s:yU!):D->Value->Prop
 |non:RV X H s .non .none
 |bl (b:Bool):GT_ al_ mn!
 |int (i:Int) (t:Tok):GT_ U! dI!
 |str (x:Str) (t:Tok):GT_ bJ_ ga!
 |tup {xs:d_} {a:sw!} {its:bp_}:Eu! a its->GT_ aK! M_
 |lst {xs:d_} {a:sw!} {its:bp_}:HZ! a its->GT_ N_ M_
def yE(I:e!)(n:cN_)(r:eh_)(ru:a8_):GT_ d u:=by
 cases d with
 |non=>cases eM r;subst ru;exact .non
 |bl b=>cases dA r;subst ru;exact .bl b
 |int b=>cases bC r;let#[t,rfl]:=ru;exact .int b t
 |str b=>cases bO r;let#[t,rfl]:=ru;exact .str b t
 |tup ys=>let#[a,ws,rfl,q,_]:=bW r;subst ru;let#[its,p]:=c2g I q;exact .tup p
 |lst ys=>let#[a,ws,rfl,q,_]:=bU r;subst ru;let#[its,p]:=b6e I q;exact .lst p
 |fn a=>delta Bc at n;exact C6! n
 |dk a=>delta Bc at n;exact C6! n
def mZ(I:e!)(n:cN_)(n':fA!)(hu:an!)(r:eh_)(r':hw!)(ru:a8_)(be:hw_)(hT:∀xs ys,d=.tup xs->d'=.tup ys->Dr_ u' dt_)(hL:∀xs ys,d=.lst xs->d'=.lst ys->Dr_ u' dt_):Dr_ u' dt_:=by
 show"!l"
 all_goals first|exact E8! hT|exact E8! hL|(delta Ej;with_reducible first|exact .none_none|exact .same _|exact .none_bool _|exact .none_int _ _|exact .none_str _ _|exact .none_tuple ‹_› hu|exact .none_list ‹_› hu|exact .bool_none _|exact Iw! _|exact HZ_ _|exact H0! _|exact .bool_tuple _ ‹_› hu|exact .bool_list _ ‹_› hu|exact .int_none _ _|exact H0_ _|exact Hv_ _|exact Hw! _|exact Iw_ _ ‹_› hu|exact .int_list _ _ ‹_› hu|exact .str_none _ _|exact H1! _|exact Hw_ _|exact Hx! _|exact Ix! _ ‹_› hu|exact .str_list _ _ ‹_› hu|exact .tuple_none ‹_› hu|exact .tuple_bool _ ‹_› hu|exact Ix_ _ ‹_› hu|exact Iy! _ ‹_› hu|exact .tuple_list ‹_› ‹_› hu|exact .list_none ‹_› hu|exact .list_bool _ ‹_› hu|exact .list_int _ _ ‹_› hu|exact .list_str _ _ ‹_› hu|exact .list_tuple ‹_› ‹_› hu)
def d1p(I:e!)(n:cN_)(n':fA!)(hu:an!)(r:eh_)(r':hw!)(ru:a8_)(be:hw_)(hT:∀xs ys,d=.tup xs->d'=.tup ys->JW! u)(hL:∀xs ys,d=.lst xs->d'=.lst ys->JW! u):JW! u:=by
 show"!l"
 all_goals first|exact E8! hT|exact E8! hL|(delta Ej;with_reducible first|exact .none_none|exact .same _|exact .none_bool _|exact .none_int _ _|exact .none_str _ _|exact .none_tuple ‹_› hu|exact .none_list ‹_› hu|exact .bool_none _|exact Iw! _|exact HZ_ _|exact H0! _|exact .bool_tuple _ ‹_› hu|exact .bool_list _ ‹_› hu|exact .int_none _ _|exact H0_ _|exact Hv_ _|exact Hw! _|exact Iw_ _ ‹_› hu|exact .int_list _ _ ‹_› hu|exact .str_none _ _|exact H1! _|exact Hw_ _|exact Hx! _|exact Ix! _ ‹_› hu|exact .str_list _ _ ‹_› hu|exact .tuple_none ‹_› hu|exact .tuple_bool _ ‹_› hu|exact Ix_ _ ‹_› hu|exact Iy! _ ‹_› hu|exact .tuple_list ‹_› ‹_› hu|exact .list_none ‹_› hu|exact .list_bool _ ‹_› hu|exact .list_int _ _ ‹_› hu|exact .list_str _ _ ‹_› hu|exact .list_tuple ‹_› ‹_› hu)
mutual
theorem c2z(I:e!):∀(d d':D) (A:uB!) (v v':V) (u u':v5!),Bc d=τ->Bc d'=τ->A.units+Ir d<cLine->DP_ H->Ap X.K H d' v'->Bj v u->Bj v' u'->Dr_ u' dt_
 |.non,d',A,v,v',u,u',n,n',hu,r,r',ru,be=>J7_ I
 |.bl _,d',A,v,v',u,u',n,n',hu,r,r',ru,be=>J7_ I
 |.int _,d',A,v,v',u,u',n,n',hu,r,r',ru,be=>J7_ I
 |.str _,d',A,v,v',u,u',n,n',hu,r,r',ru,be=>J7_ I
 |.fn _,d',A,v,v',u,u',n,n',hu,r,r',ru,be=>J7_ I
 |.dk _,d',A,v,v',u,u',n,n',hu,r,r',ru,be=>J7_ I
 |.tup xs,d',A,v,v',u,u',n,n',hu,r,r',ru,be=>mZ I n n' a! r r' ru be (λ_ ys e e'=>by
  cases e;subst e';let#[a,vs,rfl,q,rr]:=bW r;let#[b,ws,rfl,q',b7]:=bW r';cases ru;cases be;by_cases mj:a=b
  .subst mj;rw[yn!];exact .same _
  .delta Bc at n n';delta Ir at hu;delta Ej;exact Dy! yH) a3!
 |.lst xs,d',A,v,v',u,u',n,n',hu,r,r',ru,be=>Dh_ I (λ_ ys e e'=>by
  cases e;subst e';let#[a,vs,rfl,q,rr]:=bU r;let#[b,ws,rfl,q',b7]:=bU r';cases ru;cases be;by_cases mj:a=b
  .subst mj;rw[yn!];exact .same _
  .delta Bc at n n';delta Ir at hu;delta Ej;exact Dy! a4n)
theorem lO(I:e!):∀(ds es:d_) (A:uB!) (vs ws:t_) (us us':o_),Br ds=τ->Br es=τ->A.units+Cz ds<cLine->FW! ds->Al X.K H es ws->Ax vs us->Ax ws us'->
  ∀(j:δ) u u',us[j]?=ψ u->us'[j]?=ψ u'->Dr_ u' kl_
 |[],es,A,vs,ws,us,us',n,n',hu,r,r',rv,a9,j,u,u',e,e'=>by
  obtain rfl:=cQ r;cases rv;simp at e
 |d::ds,es,A,vs,ws,us,us',n,n',hu,r,r',rv,a9,j,u,u',e,e'=>by
  let#[v,t,rfl,r1,r2]:=bS r;cases es with
  |nil=>
   obtain rfl:=cQ r';cases a9;simp at e'
  |cons c es=>
   let#[w,t',rfl,xw,xy]:=bS r';delta Br at n n';rw[NU]at n n';delta Cz at hu;cases rv with
   |cons qo tj=>
    cases a9 with
    |cons rw1 rw2=>
     cases j with
     |zero=>
      simp at e e';subst e e';exact c2z I d c A v w _ _ n.1 n'.1 a! r1 xw qo rw1
     |succ j=>
      exact lO I ds es A t t' _ _ n.2 n'.2 a! r2 xy tj rw2 j u u' cY_ (Db! e')
end
def d1q(I:e!)(d d':D)(n:cN_)(n':fA!)(hu:yo!)(r:eh_)(r':hw!)(ru:a8_)(be:hw_):JW! u:=
 d1p I n n' a! r r' ru be (λxs ys e e'=>by
  subst e e';let#[a,vs,rfl,q,rr]:=bW r;let#[b,ws,rfl,q',b7]:=bW r';subst ru;subst be;delta Bc at n n';delta Ir at hu;delta Ej;exact Fx_ yH λus us' rv a9=>Dg_ I) (λxs ys e e'=>by
  subst e e';let#[a,vs,rfl,q,rr]:=bU r;let#[b,ws,rfl,q',b7]:=bU r';subst ru;subst be;delta Bc at n n';delta Ir at hu;delta Ej;exact Fx_ a4n λus us' rv a9=>Dg_ I)
def GC(KF:zA!):R2:=λx y H Q=>∃dx dy,Dj! dx x/\Dj! dy y/\Bc dx=τ/\Bc dy=τ/\Ir dx<=40/\Ew_ (Ej dx dy)
def bQ(hu:ao!):Fd_ (compareOp .Eq) GC:=by intro hb s Z H x y v u Q I rx ry h;let#[dx,dy,r1,r2,n1,n2,hd,q]:=h;exact EL_ d1q
def At:D->D->ι D:=λx y=>if Bc x&&Bc y&&decide (Ir x<=40)then C4_ (Ej x y) else υ
protected def bR{KF:zA!}:Gq! GC At:=by
 show"!3";delta At at e;show"!9"
 .show"!s";rcases e;exact yo_
 .rcases e
end
section
variable{X:Cx}{own:List Nat}{e a b c o i tg:Expr}{es:List Expr}{pos p2:Pos}{f fa fb fc fe:Ae->Option D}{fs fi:Ae->Option (List D)}{ft fu:Ae->Option Bool}
def Gs(g g':hh_)(fa fb fc:m_):Ae->ι D:=λρ=>(ch!).bind λx=>(gm_).bind λy=>(g x y).bind λz=>match z with
 |.bl true=>(fc ρ).bind λu=>g' y u
 |.bl false=>ψ B!
 |_=>υ
def a7a(ho:b8!)(hg:ec_)(gf:iU!)(tu:Ha X.K r' g')(ha:K_)(J:ch_)(hc:C5! c fc)
  (hm:iU_:=by with_unfolding_all rfl):C5! iV! yp!:=
 eB (Hx_ b9p) λZ G H Q ρ d er e k=>by
  let#[x,e1,e]:=MD.mp e;let#[y,e2,e]:=MD.mp e;let#[z,e3,e]:=MD.mp e;exact yp_;let oq:=s1.trans hj_;cases z<;>first|cases e|skip
  rename_i bb;obtain rfl:=dA r3;exact yq!;cases bb with
  |true=>
   let#[u,e4,e]:=MD.mp e;exact kL #[G3,ρ,u,er.grow oq,e4,λq G4 H4 s4 r4=>tu s4.sub yq_ r4 e λv G5 H5 s5 r5=>k v G5 H5 yr! r5]
  |false=>
   rcases e;exact lK (k _ G3 H3 oq Ap.bl)
def We(f:m_):Ae->ι D:=λρ=>(ai_).bind λd=>match d with|.int i=>C2_ (-i)|_=>υ
def b0j(h:K_):C5! (.UnaryOp .USub a pos) (We fa):=
 eB (d5w d1d h.ok) λZ G H Q ρ d er e k=>by
  let#[x,e1,e]:=MD.mp e;cases x<;>first|cases e|skip
  exact cj!;obtain rfl:=bC r1;exact#[_,χ,k _ G1 H1 s1 Ap.int]
def Jo:D->Bool
 |.non=>τ
 |.bl _=>τ
 |.int _=>τ
 |.str _=>τ
 |_=>θ
def a6n{KF:zA!}(h:Jo d=τ)(r:hc!):Lm v=true:=by
 cases d<;>first
  |(exact C6! h;done)
  |(obtain rfl:=eM r;rfl)
  |(obtain rfl:=dA r;rfl)
  |(obtain rfl:=bC r;rfl)
  |(obtain rfl:=bO r;rfl)
def c8k{KF:zA!}(h:Jo d=τ)(h':Jo d'=τ)(r:hc!)(r':Dj! d' v'):Zy v v'=Ej d d':=by
 cases d<;>first
  |(exact C6! h;done)
  |skip
 all_goals (cases d'<;>first
  |(exact C6! h';done)
  |skip)
 all_goals first
  |(obtain rfl:=eM r)
  |(obtain rfl:=dA r)
  |(obtain rfl:=bC r)
  |(obtain rfl:=bO r)
 all_goals first
  |(obtain rfl:=eM r')
  |(obtain rfl:=dA r')
  |(obtain rfl:=bC r')
  |(obtain rfl:=bO r')
 all_goals simp[Zy,Ej]
def a6p{KF:zA!}:∀{ds:d_} {vs:t_},ds.all Jo=τ->C1_ H->vs.all Lm=τ
 |[],vs,_,r=>by obtain rfl:=cQ r;rfl
 |d::ds,vs,h,r=>by
  let#[v,t,rfl,r1,r2]:=bS r;rw[SW,NU]at h;rw[SW,NU];exact#[a6n h.1 r1,a6p h.2 r2]
def a6o{KF:zA!}(hx:Jo x=τ)(rx:Dj! x v):∀{ds:d_} {vs:t_},ds.all Jo=τ->C1_ H->HP v vs=ds.any λd=>Ej d x
 |[],vs,_,r=>by obtain rfl:=cQ r;rfl
 |d::ds,vs,h,r=>by
  let#[w,t,rfl,r1,r2]:=bS r;rw[SW,NU]at h;let ih:=a6o hx rx h.2 r2;delta HP at ih ⊢;rw[RT,RT,ih,c8k h.1 hx r1 rx]
def EF:D->Da_ aN_
 |.tup xs=>ψ xs
 |.lst xs=>ψ xs
 |_=>υ
def Uk(neg:Bool):D->D->ι D:=λx y=>(EF y).bind λds=>if Jo x&&ds.all Jo then ψ ys! else υ
def d0e{KF:zA!}:Ha KF (GA KF neg) (Uk neg):=by
 show"!3";show"!N"
 .rename_i h;rw[NU]at h;rcases e;let fin:∀{p:sw!} {vs:t_},(Ek KF H p vs\/Fb KF H p vs)->C1_ G->y=V.ref p->GA KF neg x y H Q:=λ{p vs} q r ey=>by
   exact#[p,vs,ey,q,a6n h.1 rx,a6p h.2 r,?_];rw[a6o h.1 rx h.2 r];exact G9_ k
  cases dy<;>first|(rcases e1;done)|skip
  .rcases e1;let#[p,vs,ey,q,r]:=bW ry;exact fin (.inr kq!) r ey
  .rcases e1;let#[p,vs,ey,q,r]:=bU ry;exact fin (.inl (sub.seq q)) r ey
 .rcases e
structure Ut(X:Cx)(x:Str)(b8:hy!):Prop where
 ex:∃(ad:sw!) (h1:μ om!) (vs:μ ys_),X.mg x=ψ kr!/\pj_=θ/\(∀h:Heap,X.K.In h->h.DictOf (mixKind X.prog X.w) ad vs)/\KV h1 vs/\
  (∀y,Ma h1 ej!=υ↔Ha! y=υ)/\∀y d,Ha! y=ψ d->∃v,Ma h1 ej!=ψ v/\∀H,DP_ H
def BJ(b8:hy!)(neg:Bool)(f:m_):Ae->ι D:=λρ=>(ai_).bind λd=>match d with|.str y=>C4_ (I9_ pk! pk!)|_=>υ
def Ul(b8:hy!)(f:m_):Ae->ι D:=λρ=>(ai_).bind λd=>match d with|.str y=>Ha! y|_=>υ
def c8y(hd:Ut X x b8)(hg:J!)(ha:K_)(c8:GW a)(a8:y!:=by decide):C5! (Jh_ ee! a) (Ul b8 fa):=by
 show"#K";exact eB (t:=λZ H Q=>EP! tD fa Z H λv H1=>∃y u,v=.str y/\Ma h1 ej!=ψ u/\Q u H1) yt! λZ G H Q ρ d er e k=>?_
 .exact c5f PySem.F.slot_dict_getitem.lookup c8 (iS I hg ky (dP yt_ ?_) a8);rintro v s1 ⟨y,H1,I1,r1,z,u,hz,hu,q1⟩;subst hz;let dd:=xz _ I1.kIn;let#[w',hw,a9]:=Mw.some_of (by rw[<-hu];exact x5.val (HR! z));let ty:s1.TypeIs kr! "dict":=by
   let#[o,es,ep,Y,h2,_]:=dd;exact#[o,Y,h2.1]
  exact#[ty,wpAny_getItem_of yv_ dd.mapOf hw #[u,H1,I1.tok _,a9,q1]]
 .let#[x,e1,e]:=MD.mp e;cases x<;>first|(rcases e;done)|skip
  rename_i y;let#[v,hv,hr]:=hs y d e;exact#[G,ρ,_,er,e1,λw G1 H1 s1 r1=>?_];obtain rfl:=bO r1;exact#[y,v,χ,hv,k _ G1 H1 s1 (hr G1)]
def Ok(P:yM!)(w:yK!)(KF:zA!)(mg:Q!)(base:Heap)(k:δ)(x:Str)(ps:D!)(g:bz_):Prop:=
 ∃ag fd,I4! pa_/\DC_ KF/\mg x=ψ bi_/\J4! KF=τ
def aT(F:yx!)(hr:bc_)(hg:J!)(ha:hl_)(ar:w1_)
  (hn:w2_:=by rfl)(a8:y!:=by decide)(he:ai!:=by rfl)(az:aF!:=by rfl):
  DE X own aU_ j3_:=by
 show"#,";exact c9a Y hr hg h3 h4 h2 ha hn ar a8 he az
def CY(P:yM!)(w:yK!)(KF:zA!)(mg:Q!)(base:Heap)(k n:δ)(b8:yx_):Prop:=
 ∀ag g,b8 ag=ψ g->∃fd ps,ab!=n/\I4! pa_/\DC_ KF/\J4! KF=τ
def No(b8:yx_)(i:δ)(fs:a1!):Ae->ι D:=λρ=>(Aa i ρ).bind λd=>match d with|.fn ag=>(b8 ag).bind λg=>(fp!).bind g|_=>υ
def c3r(F:rJ! CY X.mg X.base k n b8)(hr:bc_)(ha:hl_)(ar:w3_)
  (hj:j∉own:=by decide)(hN:vv!:=by rfl)(hv:cw!:=by first|exact Or.inl χ|exact GE! d!|exact GE! aG_)(a8:y!:=by decide)(bw:cw_:=by decide)
  (he:ai!:=by rfl)(az:aF!:=by rfl):
  DE X own aU_ (No b8 j fs):=⟨by
 intro hb s Z H Q I h;let#[G,ρ,d,er,e1,kk]:=h;let#[z,e2,e1]:=MD.mp e1;cases z<;>first|(rcases e1;done)|skip
 rename_i ag;let#[g,e3,e1]:=MD.mp e1;let#[ds,e4,e1]:=MD.mp e1;let#[fd,ps,ml,F1,F2,F3]:=F ag g e3;let#[v,Y,h2]:=er.at_ j _ (join_some e2) hj;obtain rfl:=gG h2;exact QH (dP (kW hN hv a8 bw hb s Z H (λu H'=>u=.ref ag/\H'=H) I (KL! Y)) ?_);rintro u s1 ⟨y,H1,I1,r1,hy,hH⟩;subst hy hH;subst r1;exact W.callWith_K (h₀:=X.base) I1.ok.mod.kin F3 (dP (ha.ok pos hb s1 Z H1 _ I1 #[G,ρ,ds,er,e4,λvs G2 H2 s2 r2=>(?_:(λvs H2=>CD X.K ps.length g vs H2 Q E0) vs H2)]) λus s2 ⟨vs,H2,I2,r2,q2⟩=>sf!) he az
 .exact#[by rw[<-aK r2,ar ρ ds e4,ml],G2,ds,d,s2.sub,r2,e1,λv G3 H3 s3 r3=>kk v G3 H3 hj_ r3]
 .exact a0g F1 hr F2 .nil uV I2 r2 (BG_ OA q2)⟩
def HA(x:Str):It:=#[yy!,λi H v H'=>H'=H/\∃c,x.cps[i]?=ψ c/\v=.str H_,yy_]
def EH(f:m_):Ae->ι aN_:=λρ=>(ai_).bind λd=>match d with|.str x=>ψ yz!|_=>υ
def c7u{KF:zA!}:Hv! (HA x) yz!:=by intro i G' H' s1 s2;exact#[dp!,λhi=>by rw[MV,RH]at hi;exact TY hi.symm];rw[OE]at hd;let#[c,hc,rfl]:=MQ.mp hd;rw[SS]at hc;exact yA!;let#[e1,c',cb,e2]:=hy;subst e1;rw[hc]at cb;rcases cb;subst e2;exact#[G',j9_,Ap.str]
def a3r{KF:zA!}(hd:yA_)
  (W:∀A':Around,po_=υ->Walks P w A' it [it] [it] x.cps.size (SignAt x) gn)(hself:∀(A:uB!) (i:δ) (s:yU!) (Q:G_) (E:G_),gn i s.heap->Q b6_ s->KL_ b6_):
  Qp P w KF hz_ (HA x) [it] it yB! where
 mem:=by simp
 obj:=λi h st b J=>by
  let e:b=it:=by simpa using J
  subst e;exact hd i h st.2
 keep:=λi h h' st k=>⟨st.1,by
  let Wd:=W callerA χ;exact Wd.frame i h h' st.2 λb J o e=>k b J o e⟩
 item:=by
  show"!2";show"!4";exact(W X.A aR_).item i s _ _ hg st.2 λv h' tk hv ac kk=>?_;let#[cc,u,ig,rfl]:=hv;show"!c";exact#[_,χ,MH #[.str (FN_ cc),H,I1,#[u,χ],#[χ,cc,ig,χ],#[hg,ac],iK_]]
 done:=by
  show"!2";show"!4";let hi:=IW! hg;subst hi;exact(W X.A aR_).done s _ _ st.2 λh' tk kk=>GF! mD_
 self:=λA i s Q E st h=>hself A i s Q E st.2 h
def d1x(hl:PE X a tl):PI X hz_ a (λZ H R=>tl Z H λv H1=>∃x,v=.str x/\R (HA x) H1):=by
 intro hb s Z H R I h;exact dP mG_ ?_;rintro v s1 ⟨u,H1,I1,r1,x,hx,q⟩;subst hx;let#[t,rfl]:=r1;let ZG:∀(ty:String) (i:δ) (h:Heap),FO! h.IsStrIter ty i->∃o,h.get? x_=ψ o/\∀v,o.data≠.cell v:=λty i h st=>by
  show"!Y"
 let fin:∀(ob:Obj) (gn:gl_),rJ! Qp hz_ (HA x) [x_] s1.heap.objs.size yB!->gn 0 (Iy_ ob)->
   IB X hb Z hz_ R (.ref x_) {s1 with heap:=Iy_ ob}:=λob gn T st=>by
  exact#[x_,[x_],_,_,H1,χ,yD!,T,#[OG _,st],bK!,q];let e:b=x_:=by simpa using J
  show"!S"
 cases ha:x.cps.all (·<128)with
 |false=>
  exact wpAny_pyIter_wide ha (fin _ _ (a3r yD_ (λA' hA=>Walks.strWide hA _ x t) λA i s Q E st h=>wpAny_pyIter_striter_wide st h) dN_)
 |true=>
  exact wpAny_pyIter_ascii ha (fin _ _ (a3r yD_ (λA' hA=>Walks.strAscii hA _ x t) λA i s Q E st h=>wpAny_pyIter_striter_ascii st h) dN_)
def d4f(h:K_):DI X own hz_ a (EH fa):=zM (d1x h.ok) λZ G H R ρ ds er e k=>by
 let#[d,e1,e2]:=MD.mp e;cases d with
 |str x=>
  rcases e2;exact cj!;obtain rfl:=bO r1;exact#[x,χ,k _ G1 H1 s1 c7u]
 |_=>cases e2
def xV:∀{ys:D!} {us:o_},Ax yE_ us->StrsAre us ys
 |[],_,.nil=>.nil
 |y::ys,_,.cons r t=>by
  let#[k,rfl]:=r;exact .cons y k (xV t)
def FU(KF:zA!):V->μ V->Hp->VK->Prop:=λx vs H Q=>∃(z:Str) (p:sw!) (ys:D!),x=.str z/\vs=e8_/\Fw_ p yE_/\(hA!).sum+X_*aY!<=16777216/\Q yF! H
def b2n:GY X "str.join" (FU X.K):=by intro hb s Z H x xs v us Q I rx r h;let#[z,p,ys,rfl,rfl,hq,hz,q]:=h;let#[t,rfl]:=rx;let#[u,rfl,r1]:=gV r;subst r1;let#[its,rv,pl,_]:=Ej_ hq;exact Fu! join_list (by simpa using xV rv) hz λt' k=>tn!
def Li:μ D->Jy_ Str
 |[]=>ψ []
 |.str x::r=>(Li r).map (x::·)
 |_=>υ
def uM{KF:zA!}:∀{ds:d_} {vs:t_} {ys:D!},C1_ H->Li ds=ψ ys->vs=ys.map V.str
 |[],vs,ys,r,e=>by obtain rfl:=cQ r;rcases e;rfl
 |d::ds,vs,ys,r,e=>by
  let#[v,t,rfl,r1,r2]:=bS r;cases d<;>first|(rcases e;done)|skip
  let#[ys',e1,rfl]:=MQ.mp e;obtain rfl:=bO r1;rw[uM r2 e1];rfl
def Hm:D->D->ι D
 |.str z,.lst xs=>(Li xs).bind λys=>if(hA!).sum+X_*aY!<=big then ψ yF! else υ
 |_,_=>υ
def Nv(fo fa:m_):Ae->ι D:=λρ=>(kw!).bind λx=>(ch!).bind λy=>Hm x y
protected def a3b(ho:kw_)(ha:K_)
  (dh:Jt_ "join"=Dk_ o:=by rfl)
  (dn:(EY_ hB!&&D3! bw_
   &&decide hB_)=true:=by rfl)
  (dq:cc!:=by rfl) (hs:fu!:=by rfl) (cx:eg!:=by rfl):
  DE X own (KM_ o) (Nv fo fa):=
 eB (DZ! ho.ok) λZ G H Q ρ d er e k=>by
  show"!8";delta Hm at e;show"!9"
  .let#[ys,e3,e]:=MD.mp e;show"!9"
   .show"!W";exact cj!;obtain rfl:=bO r1;exact kx_;let#[p,vs,rfl,q,rr]:=bU r2;let:=uM rr e3;subst this;exact#[_,p,ys,χ,χ,s2.sub.seq q,NW hl a_,k _ G2 H2 bS_ Ap.str]
   .rcases e
  .rcases e
end
section
variable{prog:yM!}{w:yK!}{A:uB!}{E:Value->Shared->Prop}{s:yU!}
def a0y(g1:yH_)(g2:yI!)(g3:xs[n]?=ψ v)
  (k:∀h',DQ_ jt tt bC!->Dh! jt->Q v {s with heap:=h'}):oY! n! yI_:=by
 show"!B";show"!b";exact MC (UA eo ed b! (MH (Kp! v (k _ ?_ ek_))));exact#[_,QE _ eo (SA (QZ ed _)),(yM_).trans ec,by rw[QZ ed];simp[rawInt]]
def vG(hh:bM!)(g1:yH_)(g2:yI!)(g3:xs[n]?=υ)
  (k:∀h' e,Ij! jt s.heap->(∃o,h'.get? e=ψ o/\o.cls=.type "StopIteration")->E aB! {s with heap:=h'}):oY! n! yI_:=by
 show"!B";show"!b";exact Fy! (MC (UA eo ed b! ?_));exact MC ?_;dsimp only[newExc,newTuple];exact MC (PZ ?_ hC_);exact EO_ wpAny_of_eq yN_;exact PZ ?_ hC_;dsimp only[raiseNew];exact MC yO!
 first|rw[yO_]|rw[hh]
 exact MC yP_;exact k _ _ yQ! kz!
def cJ(x:H1_ aa tt n)(hs:Ij! bb h)(ne:aa≠bb):DQ_ aa tt n:=by let#[ob,eo,r]:=x;exact#[ob,hs _ _ ne eo,r]
def a7u{TI TO:sw!}{Q:G_}(D:kz_)
  (gz:kA!)(gI:kA_)(gO:kB!)
  (g1:kB_)(g2:kC!)(jb:hD_)(jl:hE!)(gx:yR_)(gy:yS!)
  (kk:∀h',DW_ h' (rawInt j!)->Hb! h' y->DQ_ i1 l1 (k1+1)->DQ_ i2 l2 (k2+1)->Dp! IsPair h' x y->
   kC_->Q br_ {s with heap:=h'}):
  wpAny n! A yS_ yT! E s:=by
 show"!w";show"!H";exact MC yV!
 replace mv:J8! Y:=mv
 exact MC ?_;dsimp only[List.zipIdx_cons,List.zipIdx_nil,List.forIn_cons,List.forIn_nil];exact MC kD!;exact MC yW_;let tz:=Fm_ D.TOi1 yX!;exact MC yY!;exact MC yX_
 replace vq:Hb! h3 q:=vq
 exact MC (TK ab_);exact MC kD!;exact MC (a0y yZ! yZ_ gy λh4 g24 j9=>MH ?_);let ZI:=KN! D.TOi2 vq;exact Fn! QV ZI;exact MC (XA ZI λh5 vt mz=>?_)
 replace vt:Hb! h5 y:=vt
 exact MC (TK (MH ab_));exact Fn! QV vt;exact MC y0_;let sz:h5.objs.size=j!:=by rw[mz.1,j9.1,d8.1,bp.1,cm.1]
 let ZJ:=mz.extBut _ _ D.TOz.symm (KN! D.i2z.symm y1!);let gk5:∀c ob,c≠z->c≠TO->c≠i1->c≠i2->yK_ c=ψ ob->h5.get? c=ψ ob:=λc ob c1 c2 c3 c4 e=>mz.extBut _ _ c2 (KN! c4 (JR! (cm.extBut _ _ c1 e)));let g15:=cJ (cJ (cJ ZH d8.extBut D.TOi1.symm) j9.extBut D.i12) mz.extBut D.TOi1.symm;let g25:=cJ g24 mz.extBut D.TOi2.symm;let ZK:=NP ZJ;exact MC ?_;delta Builtin.SmallTypes.ownedTupleHandOut;let gz6:J8! (h5.push {cls:=.type "tuple",data:=.seq [x,y].toArray}):=MJ _ ZJ;exact MC (QG gz6 b! λh7 yc ZL=>?_)
 replace yc:DW_ h7 y2!:=yc
 exact QG yc b! λh8 vw ZM=>?_
 replace vw:DW_ h8 y2!:=vw
 let up:∀c ob,c≠z->h5.get? c=ψ ob->h8.get? c=ψ ob:=λc ob c1 e=>ZM.extBut _ _ c1 (ZL.extBut _ _ c1 (MJ _ e));let ZN:=ZM.extBut _ _ (RA ZK) (ZL.extBut _ _ (RA ZK) hF_);rw[sz]at vw ZN;exact MH y3_;rw[sz];let#[ob1,eo1,r1]:=g15;let#[ob2,eo2,r2]:=g25;exact kk h8 vw (up _ _ D.TOz vt) #[ob1,up _ _ D.i1z eo1,r1] #[ob2,up _ _ D.i2z eo2,r2] ZN λc ob c1 c2 c3 c4 e=>up c ob c1 (gk5 c ob c1 c2 c3 c4 e)
def b3v{TI TO:sw!}(hh:bM!)(D:kz_)
  (gz:kA!)(gI:kA_)(gO:kB!)
  (g1:kB_)(g2:kC!)(jb:hD_)(jl:hE!)(ge:y4_)
  (kk:∀h' e,kC_->(∃ob,h'.get? e=ψ ob/\ob.cls=.type "StopIteration")->E aB! {s with heap:=h'}):
  wpAny n! A yS_ Q E s:=by
 show"!w";show"!H";exact MC yV!
 replace mv:J8! Y:=mv
 exact MC ?_;dsimp only[List.zipIdx_cons,List.zipIdx_nil,List.forIn_cons,List.forIn_nil];exact MC kD!;cases gx:xs[k1]? with
 |none=>
  exact MC (vG hh yV_ yW! gx λh2 e bp he=>?_);let#[oe,ou,t0]:=he;let ZO:=bp _ _ D.i1z.symm mv;let yd:e≠z:=λx=>by subst x;rw[ZO]at ou;rcases ou;simp at t0
  exact QG ZO b! λh3 _ d8=>kk h3 e (λc ob c1 _ c3 _ x=>d8.extBut _ _ c1 (bp _ _ c3 y5_)) #[oe,d8.extBut _ _ yd ou,t0]
 |some x=>
  let gy:ys[k2]?=none:=by
   obtain h|h:=ge
   .rw[gx]at h;rcases h
   .exact h
  exact MC yW_;let tz:=Fm_ D.TOi1 yX!;exact MC yY!;exact MC yX_;exact MC (TK ab_);exact MC kD!;exact MC (vG hh yZ! yZ_ gy λh4 e j9 he=>?_);let#[oe,ou,t0]:=he;let ZP:=j9 _ _ D.i2z.symm y1!;let yd:e≠z:=λx=>by subst x;rw[ZP]at ou;rcases ou;simp at t0
  exact QG ZP b! λh5 _ mz=>kk h5 e (λc ob c1 c2 c3 c4 x=>mz.extBut _ _ c1 (j9 _ _ c4 (JR! y5_))) #[oe,mz.extBut _ _ yd ou,t0]
def a8o{TI TO:sw!}(D:kz_)
  (gz:kA!)(gI:kA_)(gO:kB!)
  (g1:kB_)(g2:kC!)(jb:hD_)(jl:hE!)(gx:yR_)(gy:yS!)
  (kk:∀h',DW_ h' (rawInt j!)->Hb! h' y->DQ_ i1 l1 (k1+1)->DQ_ i2 l2 (k2+1)->Dp! IsPair h' x y->
   kC_->HV! br_ {s with heap:=h'}):
  wpAny n! A (pyNext hE_) Q E s:=by
 let gT:F8! hE_ "zip":=y6!;delta pyNext;exact MC (TQ (OV gT WX (OQ WX gT y7_
  (a7u D gz gI gO g1 g2 jb jl gx gy λh' a1 a2 a3 a4 a5 a6=>MH (kk h' a1 a2 a3 a4 a5 a6)) y7!)))
def xD{TI TO:sw!}(hh:bM!)(D:kz_)
  (gz:kA!)(gI:kA_)(gO:kB!)
  (g1:kB_)(g2:kC!)(jb:hD_)(jl:hE!)(ge:y4_)
  (kk:∀h',kC_->Q υ {s with heap:=h'}):Jk! (pyNext hE_):=by
 let gT:F8! hE_ "zip":=y6!;delta pyNext;exact MC (TQ (OV gT WX (OQ WX gT y7_
  (b3v hh D gz gI gO g1 g2 jb jl ge λh' e hk he=>?_) y7!)))
 let#[ob,ho,hc]:=he;exact MC (wpAny_isInstance #[ob,ho,hc] isSubtype_stop (MH (kk _ hk)))
abbrev HG(h:Heap)(l1:sw!):Heap:=h.push {cls:=.type "tuple_iterator",data:=DF_ l1}
abbrev HF(h:Heap)(l1 l2:sw!):Heap:=(HG h l1).push {cls:=.type "tuple_iterator",data:=DF_ l2}
abbrev HE(h:Heap)(l1 l2:sw!):Heap:=(HF h l1 l2).push {cls:=.type "tuple",data:=.seq [.ref b6!,.ref (HG h l1).objs.size].toArray}
abbrev HD(h:Heap)(l1 l2:sw!):Heap:=(HE h l1 l2).push {cls:=.type "tuple",data:=.seq [.none,.none].toArray}
abbrev EX(h:Heap)(l1 l2:sw!):Heap:=(HD h l1 l2).push {cls:=.type "zip",data:=.fields [.none,.bool θ,.bool θ,.ref (HF h l1 l2).objs.size,.ref (HE h l1 l2).objs.size].toArray}
def a9j(l1 l2:sw!)(xs ys:bp_):
  Meets (Builtin.«zip.__new__» #[[.type "zip",.ref l1,.ref l2],[]]) (λ_ R s=>Eu! l1 xs/\Eu! l2 ys/\R (Ke_ pt!) {s with heap:=DY! EX l1 l2}):=
 .of_wp λprog w A R s h=>by
  let#[hp,g,d,tk,os]:=s;let#[jb,jl,h]:=h;let ow:=sub_zip;let gL1:=jb;let gL2:Heap.IsTuple (Shared.heap #[hp.push {cls:=.type "tuple_iterator",data:=.fields [.ref l1,.int 0 0].toArray},g,d,tk,os]) l2 ys:=by let#[ob,eo,r]:=jl;exact#[ob,MJ _ eo,r]
  wp_walk using XV gL1,XV gL2
  exact kF!
def c4h(jb:hD_)(jl:hE!)
  (kk:∀h',IsZip h' (j!+4) (j!+2) (j!+3) .none->IsPair h' (j!+2) br_ fH_->
   IsPair h' (j!+3) .none .none->DQ_ s.heap.objs.size l1 0->DQ_ X! l2 0->(∀c ob,s.heap.get? c=ψ ob->h'.get? c=ψ ob)->Q (.ref (j!+4)) {s with heap:=h'}):
  wpAny n! A (call pu! [.ref l1,.ref l2]) Q E s:=by
 exact callType_new F.called_zip a_ (F.typeCall_zip_2 _ _) (F.newCall_zip_2 _ _) (λobj=>F.args_object_init_3 obj _ _) F.entry_zip_new (a9j l1 l2 xs ys) #[jb,jl,?_];let z1:(y9!).objs.size=j!+1:=RK ..;let z2:(y9_).objs.size=j!+2:=by rw[RK,z1]
 let z3:(za!).objs.size=j!+3:=by rw[RK,z2]
 let z4:(pt!).objs.size=j!+4:=by rw[RK,z3]
 let y5:Em! pt!=ψ _:=NJ _ χ;let y4:Em! za!=ψ _:=MJ _ hF_;let y3:Em! y9_=ψ _:=MJ _ pu_;let y2:Em! y9!=ψ _:=Hb_ pu_;let y1:(hG_).get? j!=ψ _:=Hb_ (MJ _ pu_);show _/\_;rw[z2,z3,z4]at y5;rw[z1,z2]at y3;rw[z3]at y4;rw[z1]at y2;rw[z4];exact#[Hu_ y5,kk _ y5 y3 y4 (KL! y1) (KL! y2) λc ob x=>MJ _ (MJ _ (MJ _ (Hb_ x)))]
end
def IH(KF:zA!)(a b:sw!):It:=
 ⟨λi H=>∃xs ys x y,Eb_ a xs/\Eb_ b ys/\xs[i]?=ψ x/\ys[i]?=ψ y,
   λi H v H'=>∃T,v=.ref T/\H T=υ/\∀xs ys,Eb_ a xs->Eb_ b ys->∃x y,xs[i]?=ψ x/\ys[i]?=ψ y/\H'=G6_ T [x,y],
   λi H=>∃xs ys,Eb_ a xs/\Eb_ b ys/\(i!<=i\/X_<=i)⟩
def c2s{P:kH_}:∀x∈([]:μ α),P x:=λ_ h=>by exact(em_).elim
def hW{P:kH_}(h:P a)(k:∀x∈l,P x):∀x∈a::l,P x:=λx hx=>by
 obtain rfl|hx:=MM.mp hx
 .exact h
 .exact k x hx
def zB{ch:aQ_}(I:e!)(hf:∀c∈ch,D5_ H c)(kp:∀c o,c∉ch->yK_ c=ψ o->Df! c=ψ o):oX! H {s with heap:=h',toks:=s.toks}:=by
 exact zc!
 .let#[_,f2,_,f4,f5,f6]:=hf c hc;exact#[f4,f2,f5,f6]
 .show"#>";exact zd!
 .exact HJ! c λ_ _ e'=>e';let hn:=(hf d hm).1;obtain rfl|hd:=hd
  .rw[hn]at e;rcases e
  .rw[hn]at hd;rcases hd
def ne4(h:c∉[a1,a2,a3,a4]):c≠a1/\c≠a2/\c≠a3/\c≠a4:=by simpa using h
def d5p{P:kH_}(h:∀x∈[a1,b,a2,a3,a4],P x):∀x∈[a1,a2,a3,a4],P x:=λx hx=>h x (by simp![MM]at hx ⊢;exact hx.imp_right .inr)
def b4a{w:yK!}{KF:zA!}{a b TI TO:sw!}(D:ZipApart z TI TO i1 i2 a b):
  Qp P w KF dv_ (IH KF a b) ze_ z (λi h=>DW_ h .none/\IsPair h TI (.ref i1) (.ref i2)/\(∃p q,IsPair h TO p q)/\H1_ i1 a i/\H1_ i2 b i) where
 mem:=by simp
 obj:=λi h st=>by
  let#[s1,s2,#[p,q,s3],#[o4,s4,c4,d4],#[o5,s5,c5,d5]]:=st;exact hW #[_,s1,px_] (hW #[_,s2,px_] (hW #[_,s3,px_] (hW #[o4,s4,λv y=>by rw[d4]at y;cases y] (hW #[o5,s5,λv y=>by rw[d5]at y;cases y] c2s))))
 keep:=λi h h' st k=>by
  let#[s1,s2,#[p,q,s3],#[o4,s4,r4],#[o5,s5,r5]]:=st;exact#[k z b! _ s1,k TI b! _ s2,#[p,q,k TO b! _ s3],#[o4,k i1 b! _ s4,r4],#[o5,k i2 b! _ s5,r5]]
 item:=by
  intro X hP hw hK hc i hb s Z H E I hf st hg;subst hP hw hK;let#[xs,ys,x,y,qa,qb,hx,hy]:=hg;let#[s1,s2,#[p,q,s3],s4,s5]:=st;let#[ia,ra,ta,za]:=Dq_ qa;let#[ib,rb,tb,zb]:=Dq_ qb;let#[u,hu,ru]:=ra.get hx;let#[v,hv,rv]:=rb.get hy;exact a8o D s1 s2 s3 s4 s5 ta tb mA_ jf_ λh' a1 a2 a3 a4 a5 a6=>?_;exact#[_,χ,wpAny_letOwnedTupleGo_zip a1 λh2 b1 bp=>?_];let qp:Fs_ z h' h2:=bp;let neT:∀c o,yK_ c=ψ o->j!≠c:=λc o e=>RA c1!;let I1:oX! H {s with heap:=h2,toks:=s.toks}:=zB I (d5p hf) λc o hc e=>by
   let#[n1,n2,n3,n4]:=ne4 hc;exact qp.extBut _ _ n1 (a6 c o n1 n2 n3 n4 e)
  let t6:=EE! u!;let eT:h2.get? j!=ψ {cls:=.type "tuple",data:=.seq [u,v].toArray}:=qp.extBut _ _ (neT z _ s1) a5;let I2:oX! (Ke! (.tup [x,y])) {s with heap:=h2,toks:=s.toks}:=by
   let ne:∀c o,H c=ψ o->c≠j!:=λc o e=>cN e t6;let hpin:∀p∈X.pn++hb,p.1≠j!:=λp hp=>NZ (NP (mz!).1);exact Inv.step (s:={s with heap:=h2,toks:=s.toks}) (g':=s.gens) (d':=s.drawn) (t':=s.toks) (h':=h2) (ch:=[j!]) I1 pw! zg! zg_ zh! zh_
    (zj_) zj! zk! n7_ pw_ I1.bare
   .let e:c=j!:=by simpa using hc
    subst e;exact#[.inr I.sz,RA I.lt,λx c h=>(λz=>by let#[v,o,ho,_]:=I.cell x c h;rw[z]at ho;exact ξ ir! dK_),hpin]
   .rw[n8_];exact n
   .by_cases J:c=j!
    .show"!x";exact#[by show 2<=sizeLine;rw[PB];decide,[u,v],.cons ru (EZ! rv),Ht! eT _]
    .rw[bD J]at e;exact(zl!).stay n9! zl_ λd xs q=>by rw[pz_];exact q
  exact#[di_,_,I2,χ,#[_,χ,t6,λxs' ys' f9 t9=>#[x,y,?_,?_,χ]],#[b1,qp.extBut _ _ D.TIz (a6 TI _ D.TIz D.TITO D.TIi1 D.TIi2 s2),#[u,v,qp.extBut _ _ D.TOz a2],cJ a3 qp.extBut D.i1z,cJ a4 qp.extBut D.i2z],pA!]
  .rw[I.tuple_inj f9 qa];exact hx
  .rw[I.tuple_inj t9 qb];exact hy
  .let cb:∀c∈ze_,∃o,yK_ c=ψ o:=by
    let#[o4,t4,_]:=s4;let#[o5,t5,_]:=s5;exact hW #[_,s1] (hW #[_,s2] (hW #[_,s3] (hW #[_,t4] (hW #[_,t5] c2s))))
   let#[o,ho]:=cb c hc;rw[bD (NY (neT c o ho))];exact(hf c hc).1
 done:=by
  intro X hP hw hK hc i hb s Z H E I hf st hg;subst hP hw hK;let#[xs,ys,qa,qb,hend]:=hg;let#[s1,s2,#[p,q,s3],s4,s5]:=st;let#[ia,ra,ta,za]:=Dq_ qa;let#[ib,rb,tb,zb]:=Dq_ qb;let l1:=ra.length;let l2:=rb.length;exact xD aR_ D s1 s2 s3 s4 s5 ta tb (by
   obtain h|h:=hend
   .left;simp;omega
   .right;simp;omega) λh2 a6=>j_
  exact zB I (ch:=[z,TO,i1,i2]) (d5p hf) λc o hc e=>by
   let#[n1,n2,n3,n4]:=ne4 hc;exact a6 c o n1 n2 n3 n4 e
 self:=λA i s Q E st h=>wpAny_pyIter_zip st.1 h
section
variable{X:Cx}{own:List Nat}{e a b c o i tg:Expr}{es jc:List Expr}{pos p2 p tp:Pos}{f fa fb fc fe:Ae->Option D}{n1:Nat}
def c6g(hg:Gl X "zip")(hm:zn_)(hv:zo!)(ha:PA X O! ta)(hs:zo_:=by rfl)(az:zp_:=by rfl):
  PI X dv_ zq! (λZ H R=>ta Z H λvs H1=>∃x y xs ys,vs=[.ref x,.ref y]/\Fb X.K H1 x xs/\Fb X.K H1 y ys/\R (IH X.K x y) H1):=by
 intro hb s Z H R I h;exact GA_ hv (PQ (dP go_ ?_) hs az);rintro us s1 ⟨vs,H1,I1,r1,q1⟩;let#[x,y,xs,ys,rfl,qx,qy,q]:=q1;let#[u,u',rfl,ru,be]:=tY r1;subst ru;subst be;let#[ia,ra,ZQ,za]:=I1.tuple qx;let#[ib,rb,ZR,zb]:=I1.tuple qy;let lx:x<x_:=by let#[ob,eo,_]:=ZQ;exact NP eo
 let ly:y<x_:=by let#[ob,eo,_]:=ZR;exact NP eo
 exact c4h ZQ ZR λh' a1 a2 a3 a4 a5 a6=>?_;exact wpAny_pyIter_zip a1 ?_;let I2:oX! H1 {s1 with heap:=h',toks:=s1.toks}:=I1.kept a6;let D:ZipApart (x_+4) (x_+2) (x_+3) s1.heap.objs.size (x_+1) x y:=by
  constructor<;>(intro z;let z':@Eq δ _ _:=z;let l1:@LT.lt δ _ x _:=lx;let l2:@LT.lt δ _ y _:=ly;omega)
 exact#[_,_,_,IH X.K x y,H1,χ,I2,b4a D,#[a1,a2,#[_,_,a3],a4,a5],pA!,q];let io:x_<=c:=by
  simp![MM,MN,RI]at hc;obtain rfl|rfl|rfl|rfl|rfl:=hc<;>omega
 exact I1.fpOk io (GB_ io)
def Jw:μ D->μ D->μ D
 |x::xs,y::ys=>.tup [x,y]::Jw xs ys
 |_,_=>[]
def EG(fa fb:m_):Ae->ι aN_:=λρ=>(ch!).bind λx=>(gm_).bind λy=>match x,y with|.tup xs,.tup ys=>ψ kL_|_,_=>υ
def a3o:∀(xs ys:d_) (n:δ) (d:D),kL_[n]?=ψ d->∃x y,xs[n]?=ψ x/\ys[n]?=ψ y/\d=.tup [x,y]
 |[],_,n,d,h=>by simp[Jw]at h
 |_::_,[],n,d,h=>by simp[Jw]at h
 |x::xs,y::ys,0,d,h=>by
  simp[Jw]at h;exact#[x,y,χ,χ,h.symm]
 |x::xs,y::ys,n+1,d,h=>by
  let#[u,v,Y,h2,h3]:=a3o xs ys n d (by simpa[Jw]using h);exact#[u,v,lY_,by simpa using h2,h3]
def a3n:∀(xs ys:d_),i!<=(kL_).length\/X_<=(kL_).length
 |[],ys=>.inl cl!
 |_::_,[]=>.inr cl!
 |x::xs,y::ys=>by
  obtain h|h:=a3n xs ys
  .left;simp[Jw];exact h
  .right;simp[Jw];exact h
def c7s{KF:zA!}{es:d_}(qa:Fb KF G1 x vs)(qb:Fb KF G1 y ws)(ra:oP_)(rb:Al KF G1 es ws):Hv! (IH KF x y) (Jw ds es):=by
 intro n G' H' s1 s2;let f9:HW_ x vs:=HX_ qa;let t9:HW_ y ws:=HX_ qb;exact#[dp!,λhn=>#[vs,ws,f9,t9,?_]]
 .let#[u,v,Y,h2,rfl]:=a3o ds es n d hd;let#[v1,g1,r1]:=fP ra Y;let#[v2,g2,r2]:=fP rb h2;exact#[#[vs,ws,v1,v2,f9,t9,g1,g2],λx' gh hy=>?_];let#[T,rfl,hT,hh]:=hy;let#[x1,y1,e1,e2,rfl]:=hh vs ws f9 t9;rw[g1]at e1;rw[g2]at e2;rcases e1;rcases e2;exact#[_,Bo.laid s2 hT,eL (s2.free hT) (Al.cons (r1.mono s1) (DD! (r2.mono s1)))]
 .rw[hn,<-aK ra,<-aK rb];exact a3n ds es
def d4e(hg:Gl X "zip")(hm:zn_)(hv:zo!)(ha:K_)(J:ch_)(hs:zo_:=by rfl)
  (bp:C7_ [b]=iN!::starEach [] X.env:=by rfl)(az:zp_:=by rfl):DI X own dv_ zq! (EG fa fb):=
 zM (c6g hg hm hv zt_ hs az) λZ G H R ρ ds er e k=>by
  let#[x,e1,e]:=MD.mp e;let#[y,e2,e]:=MD.mp e;cases x with
  |tup xs=>
   cases y with
   |tup ys=>
    rcases e;exact zu!;let#[p,vs,rfl,q,rr]:=bW hj!;let#[p',ws,rfl,q',b7]:=bW r2;exact#[p,p',vs,ws,χ,bV s2.sub q,bV s2.sub q',k _ G2 H2 bS_ (c7s q q' rr b7)]
   |_=>cases e
  |_=>cases e
end
def Nm:D->D->ι D:=Rf Wv λi j=>.int (i*j)
def qV{KF:zA!}:Ha KF mR! Nm:=d2p
def Dy:D->D->ι D:=Rf xd_ λi j=>.int (i%j)
def eZ{KF:zA!}:Ha KF mS_ Dy:=d2q
def Ja:D->D->ι D:=Rf xe! λi j=>.int (i / j)
def nI{KF:zA!}:Ha KF mS! Ja:=c6z
def ED:D->D->ι D:=Rf xf! λi j=>.int mT!
def d2k{KF:zA!}:Ha KF mT_ ED:=d2o
def Ww:D->D->ι D:=Hn λi j=>.bl mV_
def c0a{KF:zA!}:Ha KF mW! Ww:=d6g
def Ya:D->D->ι D:=Hn λi j=>.bl mX_
def a4x{KF:zA!}:Ha KF mY! Ya:=d6h
def KR:D->D->ι D:=Hn λi j=>.bl mY_
def d6e{KF:zA!}:Ha KF mZ! KR:=d6i
section
variable{X:Cx}{own:List Nat}{pos p2:Pos}
def qU:Fu X mW_ zu_:=d6b.or b4w
def Rm:D->D->ι D
 |.int i,.int j=>C4_ mX!
 |.str x,.str y=>C4_ (Rk x y)
 |_,_=>υ
def qW{KF:zA!}:Ha KF zu_ Rm:=by
 show"!3";delta Rm at e;show"!9"
 .show"!D";exact .inl kM_
 .show"!{";rcases e;exact .inr kM_
 .rcases e
def Zx:D->D->ι D
 |.int i,.int j=>C4_ (!(i==j))
 |.str x,.str y=>C4_ (!(x==y))
 |_,_=>υ
def yM{KF:zA!}:Ha KF KC Zx:=by
 show"!3";delta Zx at e;show"!9"
 .show"!D";exact j_;rw[b3k];exact G9_ k
 .show"!{";rcases e;exact j_;rw[b3j];exact G9_ k
 .rcases e
def iD(hm:∃t,X.mg x=ψ dI!)(hg:J!)(hd:y!:=by decide):JQ_ cx! U!:=by let#[t,ht]:=hm;exact c8x hg ht hd
end
def bI{X:Cx}{scope sc:Scope}(h:X.env.scope=sc)(hd:∀y∈cd_,y.2=.free->(sc.names.lookup y.1=ψ .cell\/sc.names.lookup y.1=ψ .free)):
  ∀y∈cd_,y.2=.free->vU!:=λy hy hf=>by
 delta Env.kindOf;rw[h];exact hd y hy hf
section
variable{X:Cx}{own:List Nat}{a b c:Expr}{pos p2:Pos}{fa fb fc:Ae->Option D}
def c3f(ho:b8!)(hg:ec_)(gf:iU!)(tu:Ha X.K r' g')(ha:K_)(J:ch_)(hc:C5! c fc)
  (hm:iU_:=by with_unfolding_all rfl):HX! iV! (fT yp!):=
 wM (Hx_ b8v) λZ G H Q ρ d er e k=>by
  let e:=lM e;let#[x,e1,e]:=MD.mp e;let#[y,e2,e]:=MD.mp e;let#[z,e3,e]:=MD.mp e;exact yp_;let oq:=s1.trans hj_;cases z with
  |bl bb=>
   obtain rfl:=dA r3;exact yq!;cases bb with
   |true=>
    let#[u,e4,e]:=MD.mp e;exact kL #[G3,ρ,u,er.grow oq,e4,λq G4 H4 s4 r4=>tu s4.sub yq_ r4 e λv G5 H5 s5 r5=>?_];obtain rfl:=dA r5;exact#[d,χ,k G5 H5 yr!]
   |false=>
    cases e;exact lK #[θ,χ,k G3 H3 oq]
  |_=>cases e
def b6n(hd:Ut X x b8)(hg:J!)(ha:K_)(hm:behindInMarks .NotIn ee!=false:=by rfl)(a8:y!:=by decide):HX! (.Compare a [.NotIn] [cK!] pos) (fT (BJ b8 τ fa)):=by
 show"#K";exact wM (t:=λZ H Q=>EP! tD fa Z H λv H1=>∃y,v=.str y/\Q (!(Ma h1 ej!).isSome) H1) yt! λZ G H Q ρ d er e k=>?_
 .exact wpAny_isTrue_Compare1 (dP yt_ λv s1 ⟨y,H1,I1,r1,z,hz,q1⟩=>iS I1 hg ky ?_ a8) hm;subst hz;exact wpAny_notIn_of yv_ ZF (xz _ I1.kIn).mapOf ?_;rw[<-(x5.val (HR! z)).isSome_eq];exact OX #[H1,I1.tok _,q1]
 .let e:=lM e;let#[x,e1,e]:=MD.mp e;cases x with
  |str y=>
   cases e;exact cj!;obtain rfl:=bO r1;exact#[y,χ,?_];let J:(Ma h1 ej!).isSome=(pk!).isSome:=by
    cases ht:Ha! y with
    |none=>rw[(hn y).mpr ht];rfl
    |some d=>let#[v,hv,_]:=hs y d ht;rw[hv];rfl
   rw[J];exact k G1 H1 s1
  |_=>cases e
end
def eA:Dg! "len"=ψ tq!:=by decide+kernel
def d4x:Dg! "abs"=ψ tl_:=by decide+kernel
def d4w:Dg! "ord"=ψ to!:=by decide+kernel
def c4l:Dg! "all"=ψ xz_:=by decide+kernel
def cL:Dg! "isinstance"=ψ j7_:=by decide+kernel
def b0u:Dg! "int"=ψ bj!:=by decide+kernel
def c9m:Dg! "bool"=ψ bT!:=by decide+kernel
def rT:Dg! "str"=ψ ba_:=by decide+kernel
def iE:Dg! "tuple"=ψ aZ!:=by decide+kernel
def b3r:Dg! "list"=ψ d6!:=by decide+kernel
def d4v:Dg! "zip"=ψ pu!:=by decide+kernel
def Dx(KF:zA!)(mg:Q!)(x:Str)(st:Stmt)(ps:D!):Prop:=∃ag fd,F9_ x x/\DC_ KF/\mg x=ψ bi_
def Di(N:D!)(n:δ)(q:cL_)(ds:d_):ι D:=if h!=n then(match q cN! with|some (.rt d)=>ψ d|some (.nx _)=>ψ .non|none=>υ)else υ
def dU{KF:zA!}{st:Stmt}(h:pD!)(S:dk_)
  (J:∀{ag:sw!} {aj:v5!} {A:uB!} {outer:aq_} {s:yU!} {H:Hp} {E:XK},Ah k kO!->N.Nodup->GU! Yl pE_):
  Ok P w KF mg base R! x ps (Di N ps.length q):=by
 let#[ag,fd,F,B,m]:=h;exact#[ag,fd,d4g F S (λaj A outer s H E hr=>J hr S.nd) (λds d hl e=>?_),B,m,F.kp];delta Di at e;rw[MO hl]at e;show"!9"
 .rcases e;left;assumption
 .rcases e;right;exact#[_,by assumption,χ]
 .rcases e
def GJ:Const->ι D
 |.int i=>ψ U!
 |.str i=>ψ hd!
 |.bool i=>C4_ i
 |.none=>ψ .non
 |_=>υ
mutual
noncomputable def Vz:Nat->Expr->Option D
 |0,_=>υ
 |n+1,e=>match e with
  |.Constant c _ _=>GJ c
  |.Tuple es _ _=>(pF!).bind λds=>if h!<=1000 then ψ bQ_ else υ
  |.List es _=>(pF!).bind λds=>if h!<=1000 then ψ bR! else υ
  |_=>υ
noncomputable def Vy:Nat->List Expr->Option aN_
 |0,_=>υ
 |n+1,[]=>ψ []
 |n+1,e::es=>(Vz n e).bind λd=>(pF!).bind λds=>ψ eb!
end
section
variable{X:Cx}{own:List Nat}
def c1h(h:Vz n e=ψ d):C7_ aD_=dW!::C7_ es:=by
 cases n with
 |zero=>delta Vz at h;rcases h
 |succ n=>
  cases e<;>first|rfl|(simp[Vz]at h;done)
set_option tactic.hygienic true in
mutual
theorem eJ:∀{n:δ} {e:Expr} {d:D},Vz n e=ψ d->JQ_ e d
 |0,e,d,h=>by delta Vz at h;rcases h
 |n+1,e,d,h=>by
  delta Vz at h;split at h
  .delta GJ at h;split at h
   .rcases h;exact aB
   .rcases h;exact aU
   .rcases h;exact eU
   .rcases h;exact cV
   .rcases h
  .let#[ds,e1,e2]:=MD.mp h;split at e2
   .rename_i hl;rcases e2;exact eB (dD (b0k e1)).ok λZ G H Q ρ d er e k=>?_;show"#F"
   .rcases e2
  .let#[ds,e1,e2]:=MD.mp h;split at e2
   .rename_i hl;rcases e2;exact eB (jG (b0k e1)).ok λZ G H Q ρ d er e k=>?_;show"#F"
   .rcases e2
  .rcases h
theorem b0k:∀{n:δ} {es:c2_} {ds:d_},Vy n es=ψ ds->DA X own es (λ_=>ψ ds)
 |0,e,d,h=>by delta Vy at h;rcases h
 |n+1,[],d,h=>by
  delta Vy at h;rcases h;exact aI
 |n+1,e::es,d,h=>by
  delta Vy at h;let#[d1,e1,h]:=MD.mp h;let#[ds,e2,h]:=MD.mp h;rcases h;exact c3s (aD (eJ e1) (b0k e2) (c1h e1)).ok λZ G H Q ρ d er e k=>#[G,ρ,_,er,e,k]
end
end
section
variable{P:yM!}{w:yK!}{KF:zA!}{mg:Str->Option Value}{h:Heap}
def aW{st:Stmt}{kV:v5!}(X:fJ_)(G:eo_)
  (a:zB_)(l:zD!)
  (c:zD_)(k:kP!)
  (b:zE!):Dx KF mg x st ps:=
 #[f,_,kP_,pG_,kQ!]
def ET(KF:zA!)(mg:Q!)(x:Str)(st:Stmt)(ps:D!):Prop:=∃ag fd,F9_ x x/\(∀us:List Value,aw!=ab!->bindArgs fd db_=pure da_)/\mg x=ψ bi_
def c8u{st:Stmt}{kV:v5!}(X:fJ_)(G:eo_)
  (a:zB_)(l:zD!)
  (c:zD_)(k:kP!)
  (b:zE!):ET KF mg x st ps:=
 #[f,_,kP_,FU_ b _ _,kQ!]
def pX(X:fJ_)(G:eo_)(a:Ec! KF x=ψ (D3_ i)):∃tk,mg x=D3_ i:=#[tk,kQ!]
def eE(X:fJ_)(G:eo_)(e:Ec! KF x=ψ hL!):mg x=ψ M_:=W.mg_of X G e
def dO(X:fJ_)(G:eo_)(e:Ec! KF x=ψ υ):mg x=none:=W.mg_none_of X G e
def zC{KF:zA!}:∀(ns:r_),D6! pH! cb!
 |[]=>Al.nil
 |n::r=>FM_ Ap.int (zC r)
abbrev Wg:=Str×Tok×Addr
def DN(w:yK!)(r:Wg):DictEntry:=#[PyData.keyHash w.params r.1,.str r.1 r.2.1,.ref r.2.2]
def Wf(KF:zA!):μ Wg->μ ck!->ν
 |[],[]=>True
 |r::rs,t::ts=>r.1=t.1/\(∀H,Ap KF H t.2 (V.ref r.2.2))/\Wf KF rs ts
 |_,_=>False
abbrev Wt(rows:hM_):μ om!:=rows.map λr=>(Sum.inr r.1,V.ref r.2.2)
abbrev Tt(rows:hM_):μ ys_:=rows.map λr=>(Sum.inr r.1,Value.ref r.2.2)
def uK:∀(rows:hM_),Pairs bq! zF_ pI!
 |[]=>.nil
 |r::rs=>.cons (mP P w r.1 r.2.1) χ (uK rs)
def qK:∀{rows:hM_} {b8:hy!},Wf KF rows b8->(Ma pI_ ej!=υ↔b8.lookup y=υ)/\∀d,Ha! y=ψ d->∃v,Ma pI_ ej!=ψ v/\∀H,Dj! d v
 |[],[],_=>#[#[cz!,cz!],λd e=>by rcases e]
 |[],t::ts,h=>h.elim
 |r::rs,[],h=>h.elim
 |r::rs,(x,d0)::ts,h=>by
  let#[Y,h2,h3]:=h;let ih:=qK (y:=y) h3;let jm:r.1=x:=Y;delta Ma at ih ⊢;simp![MU,RG,PL];by_cases e:y=x
  .subst e;let:decide zG_=true:=by simp[jm]
   simp![this,ON];exact#[#[zH!,zH!],λd z=>?_];rcases z;exact Hp! h2
  .let e1:decide zG_=false:=by
    rw[jm];exact NA λz=>e (zI!).symm
   let e2:(y==x)=false:=by simp[e]
   simp![e1,e2];exact ih
def b2u:∀(rows:hM_),KV pI_ pI!
 |[]=>.nil
 |r::rs=>.cons ae! (b2u rs)
def c2n{ad:sw!}(hw:X.w=w)(hK:X.K=KF)(ky:X.mg=mg)(hm:mg x=ψ kr!)(hs:pj_=θ)(hl:Ec_ ad=ψ {cls:=.type "dict",data:=.dict (zF_).toArray ep})
  (nd:fK_)(ht:Wf KF rows b8):Ut X x b8:=by
 subst hw hK ky;exact#[ad,Wt rows,Tt rows,hm,hs,λh hK=>#[_,_,_,hK _ _ hl,pL_,χ,?_,?_,?_],b2u rows,λy=>(qK ht).1,λy d=>(qK ht).2 d]
 .intro e he;let jn:e∈rows.map (DN X.w):=by simpa using he
  let#[r,hr,rfl]:=NB.mp jn;exact#[Sum.inr r.1,mP _ _ r.1 r.2.1,χ]
 .simpa using uK rows
 .let e:Dc_ pI!=(pK!).map (Sum.inr:Str->L2.Key):=by simp[Tt]
  rw[e];exact List.Pairwise.map _ (λa b mj z=>mj zI!) nd
def a4k:∀(fs:aQ_),D6! (fs.map D.fn) zJ_
 |[]=>Al.nil
 |n::r=>FM_ (by delta Ap;rfl) (a4k r)
def xW:∀(fs:aQ_),Ax zJ_ zK!
 |[]=>.nil
 |n::r=>.cons χ (xW r)
def iA{fs:aQ_}(l:Ec_ a=ψ #[cR_,od,.seq (zK!).toArray n,sl])(hz:bq_<=1000)(H:Hp):Dj! (.tup (fs.map D.fn)) hc_:=
 Ap.tup (.inr #[_,_,n,l,χ,χ,by simpa using fF hz,by simpa using xW fs]) (a4k fs)
end
section
variable{X:Cx}{own bd:List Nat}{e a b c o:Expr}{es:List Expr}{pos p2:Pos}{f fa fb fc fe:Ae->Option D}{fs fi:Ae->Option (List D)}{ft fu:Ae->Option Bool}{st:Stmt}{q1:Ae->Option Fl}
def wU:Fm X ba_ zL!:=by
 intro hb s Z H xs us Q I r h;obtain h|⟨z,rfl,q⟩:=h
 .exact Dt_ a3g xs us Q I r h
 .let#[u,rfl,t,rfl]:=gV r;exact PySem.P.str_of_str #[.str z,H,I,D_,q]
def Nd:μ D->ι D
 |[.int i]=>if c8_<1920 then ψ m5! else υ
 |[.str z]=>E7_ z
 |_=>υ
def b0s{KF:zA!}:Kq KF zL! Nd:=by
 show"!<";delta Nd at e;show"!9"
 .show"!7";cases bC rv;show"!9"
  .rename_i hl;cases e;exact .inl #[_,χ,hl,j5!]
  .cases e
 .show"!7";cases bO rv;cases e;exact .inr (Hp! j5!)
 .cases e
def b6y:Fm X bj! zL_:=by intro hb s Z H xs us Q I r h;let#[z,n,rfl,hn,hl,q]:=h;let#[u,rfl,t,rfl]:=gV r;exact W.KIN.call_text hn hl #[ap_,H,aL!,D_,q]
def Wy:μ D->ι D
 |[.str z]=>if aY!<=640 then(FO_ z).map D.int else υ
 |_=>υ
def c9j{KF:zA!}:Kq KF zL_ Wy:=by
 show"!<";delta Wy at e;show"!9"
 .show"!7";cases bO rv;show"!9"
  .rename_i hl;let#[n,e1,rfl]:=MQ.mp e;exact#[_,n,χ,e1,hl,do_]
  .cases e
 .cases e
def HS:D->D->ι D
 |.str i,.str j=>ψ iT!
 |x,y=>Uk θ x y
def d2h:Fu X eT_ (Ed! X.K):=yK.or b4y
def d2l{KF:zA!}:Ha KF (Ed! KF) HS:=by
 show"!3";delta HS at e;show"!9"
 .cases bO rx;cases bO ry;cases e;exact .inr kM_
 .exact .inl (H2! d0e)
def Il(x y:Str)(ai:δ):μ Str:=
 if(decide (b8_<am!)||decide (EH_ x<EH_ y))=τ then[x]else
 if(pN!).isEmpty=τ then[x]else Gm_ x
def qE:∀(l:D!) (k:δ),Ax (l.map V.str) (strsFrom k l)
 |[],_=>.nil
 |y::r,k=>.cons #[k,χ] (qE r R!)
def yO(x y:Str)(ai:δ)(h:ai<=big+1):(Gm_ x).length<=sizeLine:=by
 rw[length_partsBetween];let:=StrLaws.occ_length_le x y 0 x.length ai;let h2:big+2<=sizeLine:=by rw[PB];decide
 omega
def AS:V->μ V->Hp->VK->Prop:=λx vs H Q=>∃(z y:Str),x=.str z/\vs=[.str y]/\(am!==0)=θ/\aY!<=big/\∀p,H p=υ->Kh_ ((zP!).map V.str)
def b5s:GY X "str.split" AS:=by
 intro hb s Z H x xs v us Q I rx r h;let#[z,y,rfl,rfl,hy,hz,q]:=h;let#[t,rfl]:=rx;let#[u,rfl,t',rfl]:=gV r;let q':=q _ I.fresh;delta Il at q';cases Y:zQ! with
 |true=>
  rw[Y]at q';exact JK! (meets_str_split_cannot_occur z y t t' Y);exact kS_
 |false=>
  rw[Y]at q';cases hf:(zR_).isEmpty with
  |true=>
   rw[hf]at q';exact JK! (meets_str_split_not_found z y t t' Y hy hf);exact kS_
  |false=>
   rw[hf]at q';let hs:=yO z y (aY!+1) a!;exact JK! (meets_str_split_sep z y t t' Y hy hf (cS hz) hs);exact DJ! zR_
def AR:V->μ V->Hp->VK->Prop:=λx vs H Q=>∃(z y:Str) (k:Int),x=.str z/\vs=[.str y,fM!]/\(am!==0)=θ/\aY!<=big/\0<=k/\k<=1000/\∀p,H p=υ->Kh_ ((Il z y kT!).map V.str)
def b5r:GY X "str.split" AR:=by
 intro hb s Z H x xs v us Q I rx r h;let#[z,y,k,rfl,rfl,hy,hz,k0,k1,q]:=h;let#[t,rfl]:=rx;let#[u,u2,rfl,#[t',rfl],#[t2,rfl]]:=tY r;let q':=q _ I.fresh;let hk:(decide (k< -(2 ^ 63:Int))||decide (k>=2 ^ 63))=false:=by
  rw[Bool.or_eq_false_iff,SF,SF];omega
 let qj:limitOf z k<=big+1:=by
  delta limitOf big at *;split<;>omega
 delta Il at q';cases Y:zQ! with
 |true=>
  rw[Y]at q';exact EQ_ pO_ (meets_str_split_max_cannot_occur z y k t t' t2 hk Y) ?_;exact kS_
 |false=>
  rw[Y]at q';cases hf:(zT!).isEmpty with
  |true=>
   rw[hf]at q';exact EQ_ pO_ (meets_str_split_max_not_found z y k t t' t2 hk Y hy hf) ?_;exact kS_
  |false=>
   rw[hf]at q';let hs:=yO z y kT! qj;exact EQ_ pO_ (meets_str_split_sep_max z y k t t' t2 hk Y hy hf (cS hz) hs) ?_;exact DJ! zT!
def Rj(l:D!):D:=.lst (l.map D.str)
def qP{KF:zA!}{H:Hp}:∀(l:D!),D6! (l.map D.str) (l.map V.str)
 |[]=>Al.nil
 |_::r=>FM_ Ap.str (qP r)
def Ov:D->D->ι D
 |.str z,.str y=>if am!≠0/\aY!<=big then ψ (Rj zP!)else υ
 |_,_=>υ
def Mr(fo fa:m_):Ae->ι D:=λρ=>(kw!).bind λx=>(ch!).bind λy=>Ov x y
def b6s{fo:m_}{ax ah:Pos}(ho:kw_)(ha:K_)
  (dh:zU!:=by rfl)
  (dn:(EY_ hB!&&D3! bw_
   &&decide hB_)=true:=by rfl)
  (dq:cc!:=by rfl) (hs:fu!:=by rfl) (cx:eg!:=by rfl):
  DE X own (Ha_ zU_ ah) (Mr fo fa):=
 eB (D4! b5s kx!) λZ G H Q ρ d er e k=>by
  show"!8";delta Ov at e;show"!9"
  .show"!9"
   .rename_i hl;show"!L";exact#[_,_,χ,χ,zV_,hl.2,λp hp=>k _ _ _ (DT! bS_ (KN_ s2.sub hp)) (cW (s2.sub.free hp) (qP _))]
   .cases e
  .cases e
def Ou:D->D->D->ι D
 |.str z,.str y,.int k=>if am!≠0/\aY!<=big/\0<=k/\k<=1000 then ψ (Rj (Il z y kT!))else υ
 |_,_,_=>υ
def Xa(fo fa fb:m_):Ae->ι D:=λρ=>(kw!).bind λx=>(ch!).bind λy=>(gm_).bind λz=>Ou x y z
def b6r{fo:m_}{ax ah:Pos}(ho:kw_)(ha:K_)(J:ch_)
  (dh:zU!:=by rfl)
  (dn:(JR_ O!&&D3! bw_
   &&decide (GS! O!))=true:=by rfl)
  (dq:cc!:=by rfl) (hs:zW_:=by rfl) (bp:zX!:=by rfl) (cx:EP_ ah zp!=false:=by rfl):
  DE X own (I7_ zU_ O!) (Xa fo fa fb):=
 eB (D4! b5r zt_) λZ G H Q ρ d er e k=>by
  show"!8";let#[z,e3,e]:=MD.mp e;delta Ou at e;show"!9"
  .show"!9"
   .rename_i hl;show"!L";exact#[G2,ρ,_,er.grow bS_,e3,λw G3 H3 s3 r3=>?_];cases bC r3;exact#[_,_,_,χ,χ,zV_,hl.2.1,hl.2.2.1,hl.2.2.2,λp hp=>k _ _ _ (DT! wG! (KN_ s3.sub hp)) (cW (s3.sub.free hp) (qP _))]
   .cases e
  .cases e
def c8q:DL! DS st gx!:=#[λG0 F0 hb s Z H E I ⟨G,ρ,r,er,e,k⟩=>by cases e]
def c3g{body:eI!}{h0:ExceptHandler}{hs:μ ExceptHandler}(J:Yl X.nox own bd body q1):DL! DS (.Try body (h0::hs) [] [] pos) q1:=⟨λG0 F0 hb s Z H E I ⟨G,ρ,r,er,e,k⟩=>by
 exact wpAny_Try_except (PF (J.ok G0 F0 hb s Z H E (I.wish _) #[G,ρ,r,er,e,k]) (λf s1 q=>?_) λ_ _ z=>False.elim z);cases f with
 |next=>exact UN gk!
 |brk=>exact gk!
 |cont=>exact gk!
 |ret u=>exact gk!⟩
end
abbrev MK:=Da_ (Sum L2.Key (μ L2.Key))
abbrev GI:Int:=0xFCA86420
section
variable{P:yM!}{w:yK!}{A:uB!}{E:Value->Shared->Prop}{s:yU!}
variable (P w)in
def Jg(h:Heap):MK->Value->ν
 |none,v=>v=.none
 |some (.inl k),v=>Qc k v=τ
 |some (.inr ks),v=>∃a,v=.ref a/\IsTupleKey bq! h ks a
variable (P w)in
nonrec def mkHash:MK->Int
 |none=>GI
 |some (.inl k)=>GK w k
 |some (.inr ks)=>tupleKeyHash bq! ks
def a5n(hx:H2_ x v)(hy:H2_ y v):x=y:=by
 obtain _|x|x:=x<;>obtain _|y|y:=y
 .rfl
 .cases zY!;obtain⟨i,t,_,e⟩|⟨i,t,_,e⟩:=bX hy<;>exact nomatch e
 .cases zY!;let#[a,e,_]:=hy;exact nomatch e
 .cases hN_;obtain⟨i,t,_,e⟩|⟨i,t,_,e⟩:=bX hx<;>exact nomatch e
 .rw[(bq!).inj v x y hx hy]
 .let#[a,rfl,_]:=hy;obtain⟨i,t,_,e⟩|⟨i,t,_,e⟩:=bX hx<;>exact nomatch e
 .cases hN_;let#[a,e,_]:=hx;exact nomatch e
 .let#[a,rfl,_]:=hx;obtain⟨i,t,_,e⟩|⟨i,t,_,e⟩:=bX hy<;>exact nomatch e
 .let#[a,rfl,hx]:=hx;let#[b,e,hy]:=hy;cases e;rw[hx.inj hy]
def kQ(x:IsTupleKey bq! h ks a):∃its,h.IsTuple a its:=by let#[o,its,n,Y,h2,h3,_]:=x;exact#[its,o,Y,h2,n,h3]
def c0w(hu:an!)(hx:pQ!)(hy:Hc! y)(h:D2! Q (x=y) s):JH_ (eqBool u v):=by
 obtain _|x|x:=x<;>obtain _|y|y:=y
 .cases hO!;cases hN_;rw[ep_]at h;exact FU_ SeqAt.EqAt.same _ h
 .cases hO!;rw[fN_]at h;obtain⟨i,t,rfl,rfl⟩|⟨i,t,rfl,rfl⟩:=bX hy
  .exact Ga! SeqAt.EqAt.none_int
  .exact Ga! SeqAt.EqAt.none_str
 .cases hO!;rw[fN_]at h;let#[a,rfl,q]:=hy;let#[its,q]:=kQ q;exact SeqAt.EqAt.none_tuple q hu _ _ _ _ h
 .cases hN_;rw[fN_]at h;obtain⟨i,t,rfl,rfl⟩|⟨i,t,rfl,rfl⟩:=bX hx
  .exact Ga! SeqAt.EqAt.int_none
  .exact Ga! SeqAt.EqAt.str_none
 .exact(bq!).eqBool hx hy ?_;by_cases e:x=y
  .subst e;rw[ep_]at h ⊢;exact h
  .rw[NA cY_]at h;rw[NA e];exact h
 .rw[fN_]at h;let#[a,rfl,q]:=hy;let#[its,q]:=kQ q;obtain⟨i,t,rfl,rfl⟩|⟨i,t,rfl,rfl⟩:=bX hx
  .exact ER! SeqAt.EqAt.int_tuple
  .exact ER! SeqAt.EqAt.str_tuple
 .cases hN_;rw[fN_]at h;show"#.";let#[its,q]:=kQ q;exact SeqAt.EqAt.tuple_none q hu _ _ _ _ h
 .rw[fN_]at h;let#[a,rfl,q]:=hx;let#[its,q]:=kQ q;obtain⟨i,t,rfl,rfl⟩|⟨i,t,rfl,rfl⟩:=bX hy
  .exact ER! SeqAt.EqAt.tuple_int
  .exact ER! SeqAt.EqAt.tuple_str
 .show"#.";let#[b,rfl,q2]:=hy;exact wpAny_eqBool_tuple hu q q2 ?_;by_cases e:x=y
  .subst e;rw[ep_]at h ⊢;exact h
  .rw[NA cY_]at h;rw[NA e];exact h
def a5m(hx:pQ!)(h:Q τ s):JH_ (eqIsQuiet 8 u):=by
 obtain _|x|x:=x
 .cases hO!;rw[eqIsQuiet_byValue _ χ];exact MH h
 .rw[eqIsQuiet_byValue _ ((bq!).byValue x u hx)];exact MH h
 .show"#.";exact wpAny_eqIsQuiet_tuple q h
def tJ(hu:an!)(hx:pQ!)(h:∀tk,Q (mkHash P w x) {s with toks:=tk}):JH_ (pyHash u):=by
 obtain _|x|x:=x
 .cases hO!;delta pyHash;let hv:[dI_].any Value.onHeap=false:=χ;exact MC ?_;rw[cRoomFor,Jr_ hv];exact MH ?_;let hT:s.TypeIs .none "NoneType":=χ;exact MC z1!;rw[MZ (show¬(ψ (Value.builtin "NoneType.__hash__")==ψ Value.none)=τ by rw[beq_builtin_none];exact NS)];exact MC z1!;exact MC (wpAny_callSpecialIfBoundUnlessNone?_slot hT TB (OQ TB hT PySem.F.entry_NoneType_hash ?_ (PySem.F.args_NoneType_hash_1 _)));exact wpAny_ret_mkInt ?_;exact MH (h _)
 .exact(bq!).pyHash hx (h _)
 .show"#.";exact wpAny_pyHash_tuple hu q (h _)
end
def Ld(ks:hO_)(k:MK):ι Nat:=ks.findIdx? λx=>decide (x=k)
def Gj(ks:hO_)(k:MK)(i:δ):Bool:=decide (ks[i]?=ψ k)
def pP(h:z1_):ks[j]?=ψ k/\∀i,i<j->ks[i]?≠ψ k:=by let#[Y,h2,h3]:=List.findIdx?_eq_some_iff_getElem.mp h;exact#[by rw[NK Y];exact congrArg ψ (PM h2),λi hi e=>?_];let:=h3 i hi;let#[q1,q2]:=NE.mp e;rw[q2]at this;simp at this
def a5x(h:Ld ks k=υ)(i:δ):ks[i]?≠ψ k:=λe=>by
 let:=List.findIdx?_eq_none_iff.mp h k (TD e);simp at this
def b0c(ks:hO_)(k:MK):(Eo_ kU!).find? dy!=Ld ks k:=by
 cases h:Ld ks k with
 |none=>
  rw[List.find?_eq_none];intro i hi z;exact a5x h i (PM z)
 |some j=>
  let#[Y,h2]:=pP h;rw[List.find?_range_eq_some];exact#[by delta Gj;exact NG Y,RY.mpr (kh!).1,λi hi=>?_];delta Gj;rw[NA (h2 i hi)];rfl
section
variable{P:yM!}{w:yK!}{A:uB!}{E:Value->Shared->Prop}{s:yU!}
variable (P w)in
structure Mx(h:Heap)(es:jG!)(ks:hO_):Prop where
 len:es.size=kU!
 at_:∀(i:δ) (e:DictEntry) (k:MK),es[i]?=ψ e->ks[i]?=ψ k->H2_ k e.key/\e.hash=mkHash P w k
 nd:hP!
def Mx.get(x:kV!){i:δ}(q:es[i]?=ψ e):∃k,ks[i]?=ψ k/\H2_ k e.key/\e.hash=mkHash P w k:=by
 let hl:i<kU!:=by rw[<-x.len];exact(PX.mp q).1
 exact#[ks[i],NK hl,x.at_ i e _ q (NK hl)]
def Mx.one(x:kV!)(Y:FW_ i=τ)(h2:FW_ j=τ):i=j:=by let e1:=PM Y;let e2:=PM h2;exact(List.getElem?_inj (NE.mp e1).1 x.nd).mp rO!
abbrev plc(es:jG!)(h:Int):μ Nat:=placesWithHash es.size (λi=>es[i]?.map (·.hash)) h
def a6q{es:jG!}{ks:hO_}(x:kV!)(k:MK):(kV_).find? dy!=Ld ks k:=by
 delta plc placesWithHash;rw[List.find?_filter,<-b0c,x.len];congr 1;funext i;cases hp:FW_ i with
 |false=>simp
 |true=>
  let e1:=PM hp;let hl:i<es.size:=by rw[x.len];exact(NE.mp e1).1
  let#[k',q1,q2,q3]:=Gq_ hl;rw[e1]at q1;rcases q1;simp[OH hl,q3]
def b9c(hi:i∈plc es h):i<es.size:=by let:=(PD.mp hi).1;simpa using this
def d1v:(plc es h).Nodup:=List.nodup_range.sublist WM
def a7y(hu:an!)(x:z3_)(hk:eq!)
  (ho:z4!)(hd:z4_)(h:Q hP_ s):oY! E! z5_:=by
 show"!k";generalize plc es dy_=L at hf hl ⊢;rw[<-hf]at h;delta dictWalkPlain;exact MC (WC _ (λrest b s'=>s'=s/\b=hQ!/\rest.find? dy!=L.find? dy!/\∀i∈rest,i<es.size) _ ?_ ?_ _ _ #[rfl,rfl,rfl,hl])
 .rintro i rest b s' ⟨rfl,rfl,Y,h2⟩;let au:=h2 i ML;let he:=OH au;let#[k',q1,q2,q3]:=x.get he;let no:k'≠k->rest.find? dy!=L.find? dy!:=λhne=>by
   rw[<-Y,RG];let:FW_ i=false:=by delta Gj;rw[q1];exact NA z6_
   rw[this]
  show"#9";rw[he];show"#8";split
  .exact MC pR_;rw[bO_];by_cases m7:k'=k
   .subst m7;rw[ep_];let hi:Gj ks k' i=true:=by delta Gj;exact NG q1
    let:L.find? (Gj ks k')=ψ i:=by rw[<-Y,RG,hi]
    rw[this]at h;exact Fy! kX!
   .rw[NA m7];exact Fy! (MH #[χ,χ,no m7,rs])
  .rename_i hh;exact MH #[χ,χ,no z8_,rs]
 .rintro b s' ⟨rfl,rfl,Y,_⟩;rw[<-Y]at h;exact MH h
def a3s(hk:eq!)(hl:∀v∈L,∃k',Hc! k')(h:Q θ s):JH_ (tableMayTell u L):=by
 delta tableMayTell;split
 .exact MH h
 .exact EO_ a5m hk;rw[bY_];exact MC (WC _ (λrest r s'=>s'=s/\r=hQ!/\∀v∈rest,v∈L) _ ?_ ?_ _ _ #[χ,χ,λ_ z=>z])
  .rintro v rest r s' ⟨rfl,rfl,hr⟩;let#[k',q]:=hl v (hr v ML);exact EO_ a5m q;rw[bY_];exact MH #[χ,χ,λy hy=>hr y cG!]
  .rintro r s' ⟨rfl,rfl,_⟩;exact MH h
def c5a(q1:z9_)(e:k'=k):FW_ i=true:=by delta Gj;rw[<-e];exact NG q1
def b3y{rest:g_}(hc:(ay=υ/\(i::rest).find? dy!=Ld ks k)\/∃j,ay=ψ j/\Ld ks k=ψ j/\FW_ j=τ/\j∉i::rest)(q1:z9_)(hne:¬k'=k):
  Aa!\/∃j,ay=ψ j/\Ld ks k=ψ j/\FW_ j=τ/\j∉rest:=by
 obtain⟨e,Y⟩|⟨j,e,Y,h4,h5⟩:=hc
 .exact .inl jx!;rw[<-Y,RG];let:FW_ i=false:=by delta Gj;rw[q1];exact NA z6_
  rw[this]
 .exact .inr #[j,e,Y,h4,λz=>h5 (MF _ z)]
def rG(q:H2_ k v):v.isStr z=decide (k=ψ fO!):=by
 by_cases e:k=ψ fO!
 .subst e;rw[ep_];obtain⟨i,t,e,_⟩|⟨i,t,e,rfl⟩:=bX q
  .cases e
  .cases e;simp[Value.isStr]
 .rw[NA e];cases v<;>first|rfl|skip
  rename_i y t;simp![Value.isStr,OJ,ne_eq];rintro rfl;exact e (a5n q (rE y t))
def c2r(x:kV!)(z:Str):(es.findIdx? λe=>e.key.isStr z)=Ld ks (ψ fO!):=by
 cases hk:Ld ks (ψ fO!)with
 |none=>
  rw[Array.findIdx?_eq_none_iff];intro e he;let#[i,hi]:=Array.mem_iff_getElem?.mp he;let#[k',q1,q2,_]:=x.get hi;rw[rG q2];exact NA λ(e:k'=_)=>a5x hk i Ab!
 |some j=>
  let#[Y,h2]:=pP hk;let hj:j<es.size:=by rw[x.len];exact(kh!).1
  rw[Array.findIdx?_eq_some_iff_getElem];exact#[hj,?_,λi hi=>?_]
  .let#[k',q1,q2,_]:=Gq_ hj;rw[rG q2];rw[Y]at q1;rcases q1;exact NG χ
  .let#[k',q1,q2,_]:=Gq_ (XJ hi hj);rw[rG q2,NA (λ(e:k'=_)=>h2 i hi Ab!)];decide
def d5q(h:∃T:Prop,(T->g)/\T):g:=by let#[_,f,k]:=h;exact f k
def pY(hu:an!)(x:z3_)(hk:eq!)
  (ho:z4!)(hd:z4_)(h:Q hP_ s):JH_ (dictFind d u dy_):=by
 let hst:∀v∈(kV_).filterMap (λi=>es[i]?.map kY!),∃k',Hc! k':=λv hv=>by
  let#[i,_,e]:=SM.mp hv;let#[e',e1,rfl]:=MQ.mp e;let#[k',_,q,_]:=x.get e1;exact#[k',q]
 let hany:¬(es.any λe=>e.key==u&&e.hash != mkHash P w k)=true:=λz=>by
  let#[i,hi,z]:=Array.any_eq_true.mp z;rw[NU,QK,bne_iff_ne]at z;let#[k',_,q,q3]:=Gq_ hi;rw[z.1]at q;exact z.2 (by rw[q3,a5n q hk])
 show"!k";let qq:(kV_).Nodup:=d1v;let az:oY! E! z5_:=a7y hu x hk ho hd h;delta dictFind;exact J8_ pT!;exact d5q ?_;apply Exists.intro;apply And.intro
 .intro tl;let xm:(∃a,u=.ref a)\/(∃z t,u=.str z t/\k=ψ fO!)\/(u=.none\/∃i t,u=.int i t):=by
   clear tl;obtain _|k|k:=k
   .exact De_ mi_
   .obtain⟨i,t,rfl,rfl⟩|⟨i,t,rfl,rfl⟩:=bX hk
    .exact Jx_ #[i,t,χ]
    .exact EG_ #[i,t,χ,χ]
   .let#[a,rfl,_]:=hk;exact .inl #[a,χ]
  obtain⟨a,ea⟩|⟨z,t,ea,ZS⟩|ea|⟨i,t,ea⟩:=xm
  all_goals rw[ea]
  all_goals dsimp only
  rotate_left
  exact Hc_ (λji=>?_) λ_=>?_
  .clear tl;delta foundByValue;rw[c2r x z,<-ZS];cases hj:Ld ks k with
   |none=>rw[hj]at h;exact MH h
   |some j=>
    let#[Y,_]:=pP hj;let au:j<es.size:=by rw[x.len];exact(kh!).1
    let#[k',q1,q2,_]:=Gq_ au;rw[Y]at q1;rcases q1;show"#8";rw[OH au,<-ea];exact MC pR_;rw[bO_,ep_];rw[hj]at h;exact Fy! (MH h)
  all_goals rw[<-ea]
  all_goals exact Hc_ (λ_=>az) λ_=>?_
  rotate_right
  rw[MZ hany]
  all_goals exact Hc_ (λ_=>MC ab_) λ_=>MC (a3s hk hst ?_)
  all_goals rw[bY_]
  all_goals exact tl
 exact MC (WC _ (λrest b s'=>s'=s/\∃ay,b=(υ,ay)/\(∀i∈rest,i<es.size)/\rest.Nodup/\
  (Aa!\/∃j,ay=ψ j/\Ld ks k=ψ j/\FW_ j=τ/\j∉rest)) _ ?_ ?_ _ _ #[χ,υ,χ,hl,qq,.inl #[χ,hf]])
 rotate_left
 .rintro b s' ⟨rfl,ay,rfl,_,_,hc⟩;obtain⟨rfl,Y⟩|⟨j,rfl,Y,_⟩:=hc
  .rw[<-Y]at h;exact MH h
  .rw[Y]at h;exact MH h
 .rintro i rest b s' ⟨rfl,ay,rfl,h2,h3,hc⟩;let au:=h2 i ML;let he:=OH au;let#[k',q1,q2,q3]:=x.get he;let#[n1,n2]:=NO.mp h3;show"#9";let stay:=λhne=>b3y hc q1 hne;rw[he];show"#8";split
  .exact MC pR_;rw[bO_];by_cases m7:k'=k
   rotate_left
   .rw[NA m7];simp![OC,PC,Bool.false_and];exact Fy! (JK_ m7)
   .let hi:=c5a q1 m7;rw[NG m7];obtain⟨rfl,Y⟩|⟨j,e,Y,h4,h5⟩:=hc
    .let hL:=Y;rw[RG,hi]at hL;dsimp only[if_true,Option.isSome_none,Bool.false_eq_true,if_false];exact MC fD_;split
     .rw[<-hL]at h;exact H3! h
     .exact MH #[χ,N!,χ,rs,n2,.inr #[i,χ,hL.symm,hi,n1]]
    .exact C6_ (x.one hi h4) λz=>h5 (z▸ML)
  .rename_i hh;exact JK_ z8_
end
def Mz(h:Heap)(a:sw!)(es:cS_)(ep:δ):Prop:=∃o,h.get? a=ψ o/\im_/\o.data=HR_ es.toArray
def Mz.typeIs{s:yU!}(D:hR!):F8! M_ "dict":=by let#[o,ho,hc,_]:=D;exact#[o,ho,hc.1]
def BH(es:cS_)(j:Da_ δ)(h:Int)(u v:v5!):μ DictEntry:=match j with
 |some j=>es.modify j λe=>{e with val:=v}
 |none=>es++[#[h,u,v]]
def GG(j:Da_ δ)(ep:δ):Nat:=match j with
 |some _=>ep
 |none=>ep+1
section
variable{P:yM!}{w:yK!}{A:uB!}{E:Value->Shared->Prop}{s:yU!}{a:sw!}{es:List DictEntry}{ep:Nat}{ks:List MK}{k:MK}{u v:v5!}
def d7f(hu:an!)(D:hR!)(x:kY_)(hk:eq!)(h:∀tk,Q ((hP_).bind λj=>es[j]?.map (·.val)) {s with toks:=tk}):
  wpAny E! A (dictGet a u) Q E s:=by
 let#[o,ho,_,hd]:=D;delta dictGet;exact OM pT_;let h:=h tk;cases hj:Ld ks k with
 |none=>rw[hj]at h;exact MH h
 |some j=>
  rw[hj]at h;exact MC (RM ho hd ab_);rw[RS];exact h
def tR{h:Heap}(ho:h.get? a=ψ o)(hc:im_)(hd:o.data=HR_ es.toArray)(he:f es.toArray=bf.toArray):
  Mz (h.update a (Obj.mapDict f)) a bf ep/\Mz (h.update a (Obj.mapDictKeys f)) a bf dz!:=
 #[#[_,QE _ ho (Hr_ Obj.data_mapDict),hc.mapDict _,by rw[Obj.data_mapDict hd,he]],#[_,QE _ ho (Hr_ Obj.data_mapDictKeys),hc.mapDictKeys _,by rw[Obj.data_mapDictKeys hd,he]]]
def d7e(hu:an!)(D:hR!)(x:kY_)(hk:eq!)(hl:pV_)
  (h:∀h' tk,Mz h' a (BH es hP_ dy_ u v) (GG hP_ ep)->Dh! a->Q () {s with heap:=h',toks:=tk}):oY! E! Ah_:=by
 let#[o,ho,hc,hd]:=D;delta dictSet;exact J8_ (tJ hu hk λtk=>?_);delta dictSetHashed;exact J8_ Af_;cases hj:Ld ks k with
 |none=>
  rw[hj]at h;exact Fy! (XB ho hd (h _ tk (Ai!).2 ek_))
 |some j=>
  rw[hj]at h;exact Fy! (MC (wpAny_updateDict ho hd (wpAny_point (h _ tk (Ai!).1 ek_))))
def qA(hu:an!)(D:hR!)(x:kY_)(hk:eq!)(hl:pV_)
  (Y:∀j e tk,Ld ks k=ψ j->es[j]?=ψ e->Q e.val {s with toks:=tk})
  (h2:∀h' tk,Ld ks k=υ->Mz h' a (es++[#[mkHash P w k,u,v]]) dz!->Dh! a->Q v {s with heap:=h',toks:=tk}):JH_ (dictSetDefault a u v):=by
 let#[o,ho,hc,hd]:=D;delta dictSetDefault;exact OM pT_;cases hj:Ld ks k with
 |none=>
  exact Fy! (MC (XB ho hd (MH (h2 _ tk hj (tR ho hc hd b!).2 ek_))))
 |some j=>
  let au:j<an_:=by
   let:=(NE.mp (pP hj).1).1;rw[<-x.len]at this;simpa using this
  exact MC pT!;rw[RS,NK au];exact Fy! (MH (Y j _ tk hj (NK au)))
def d3x(hu:an!)(D:hR!)(x:kY_)(hk:eq!)(hl:pV_)(hj:z1_)(he:es[j]?=ψ e)
  (h:∀h' tk,Mz h' a Aj! dz!->Dh! a->Q iH! {s with heap:=h',toks:=tk}):oY! E! Aj_:=by
 let#[o,ho,hc,hd]:=D;delta Builtin.Dict.takeOut;exact OM pT_;rw[hj];exact MC pT!;rw[RS,he];let au:=(NE.mp he).1;exact MC (XB ho hd (MH (h _ tk (tR ho hc hd ?_).2 ek_)) (hf:=?_))
 .rw[Array.eraseIdxIfInBounds,dif_pos pY!];simp
 .rw[Array.eraseIdxIfInBounds];split
  .rw[Array.size_eraseIdx];omega
  .omega
end
def Ki:μ D->Jy_ L2.Key
 |[]=>ψ []
 |.int i::r=>(Ki r).map (Sum.inl i::·)
 |.str x::r=>(Ki r).map (Sum.inr x::·)
 |_::_=>υ
def Ck:D->Da_ MK
 |.non=>ψ υ
 |.int i=>EF_ (.inl (.inl i))
 |.str x=>EF_ (JI_ x)
 |.tup xs=>(Ki xs).map λks=>ψ (.inr ks)
 |_=>υ
def yY:∀{xs ys:d_} {ks:μ L2.Key},Ki xs=ψ ks->Ki ys=ψ ks->xs=ys
 |[],ys,ks,h,h'=>by
  cases h;cases ys with
  |nil=>rfl
  |cons y r=>cases y<;>simp[Ki]at h'
 |x::xs,[],ks,h,h'=>by
  cases h';cases x<;>simp[Ki]at h
 |x::xs,y::ys,ks,h,h'=>by
  cases x<;>simp![Ki]at h<;>first|(rcases h;done)|skip
  all_goals (let#[l,e1,rfl]:=MQ.mp h)
  all_goals (cases y<;>simp![Ki]at h'<;>first|(rcases h';done)|skip)
  all_goals (let#[l',e2,e3]:=MQ.mp h')
  all_goals (injection e3 with e4 e5)
  all_goals first|(injection e4;done)|skip
  all_goals (injection e4 with e4;subst e4 e5;rw[yY e1 e2])
def b2o(h:aB_)(h':bn!):x=y:=by
 cases x<;>simp![Ck]at h<;>first|(rcases h;done)|skip
 all_goals (cases y<;>simp![Ck]at h'<;>first|(rcases h';done)|skip)
 all_goals first
  |rfl
  |(cases h;cases h';rfl)
  |(cases h;cases h')
  |(cases h;let#[l,e1,e2]:=MQ.mp h';cases e2)
  |(cases h';let#[l,e1,e2]:=MQ.mp h;cases e2)
  |(let#[l,e1,e2]:=MQ.mp h;let#[l',e3,e4]:=MQ.mp h';cases e2;cases e4;rw[yY e1 e3])
def Cp(KF:zA!)(G:Hp)(d:D)(u:v5!):Prop:=∃v,DM_ G/\Bj v u
def Cp.mono{KF:zA!}(e:k0!)(h:Hd! G):Hd! G':=by let#[v,Y,h2]:=h;exact#[v,Y.mono e,h2]
def a4j{KF:zA!}:∀{ds:d_} {vs:t_} {ks:μ L2.Key},C1_ G->Ki ds=ψ ks->vs=ks.map kV
 |[],vs,ks,r,e=>by cases cQ r;cases e;rfl
 |d::ds,vs,ks,r,e=>by
  let#[v,t,rfl,r1,r2]:=bS r;cases d<;>simp![Ki]at e<;>first|(rcases e;done)|skip
  all_goals (let#[l,e1,rfl]:=MQ.mp e;rw[a4j r2 e1])
  .cases bC r1;rfl
  .cases bO r1;rfl
def qN(I:e!)(sub:K!)(r:bZ!)(e:bo!):Dw_ Jg s.heap k u:=by
 let#[v,r,ru]:=r;cases d<;>simp![Ck]at e<;>first|(rcases e;done)|skip
 .cases e;cases eM r;exact ru
 .cases e;cases bC r;let#[t,rfl]:=ru;exact yZ _ _
 .cases e;cases bO r;let#[t,rfl]:=ru;exact rE _ _
 .let#[ks,e1,rfl]:=MQ.mp e;let#[a,vs,rfl,q,rr]:=bW r;cases ru;show"#6";rw[a4j rr e1]at rv;exact#[a,χ,o,ak_,n,Y,h2,h3,by simpa using rF rv]
open Classical in
nonrec def kget:μ aj!->D->ι D
 |[],_=>υ
 |(k,v)::r,d=>if k=d then ψ v else kget r d
open Classical in
def Bp:μ aj!->D->D->μ aj!
 |[],d,v=>[(d,v)]
 |(k,x)::r,d,v=>if k=d then(k,v)::r else(k,x)::Bp r d v
open Classical in
def Hl:μ aj!->D->μ aj!
 |[],_=>[]
 |(k,x)::r,d=>if k=d then r else(k,x)::Hl r d
section
variable{P:yM!}{w:yK!}{KF:zA!}{G G':Hp}
variable (P w KF G)in
def HC(p:D×D)(e:DictEntry):Prop:=Cp KF G p.1 e.key/\Cp KF G p.2 e.val/\∃k,Ck p.1=ψ k/\e.hash=mkHash P w k
variable (P w KF G)in
def Gp(h1:q!)(es:cS_):Prop:=Ea_ (HC P w KF G) h1 es/\(fP!).Nodup
def Gp.mono(e:k0!)(h:fP_):BH_ Gp G' h1 es:=
 #[Paired.mapP h.1 λp q z=>#[z.1.mono e,z.2.1.mono e,z.2.2],h.2]
def Hk(h1:q!):μ MK:=h1.map λp=>(Ck p.1).getD υ
def iX:∀{l:W!} {m:μ β} {i:δ} {a:α},E5! l m->l[i]?=ψ a->∃b,m[i]?=ψ b/\F a b
 |_,_,_,_,.nil,e=>by simp at e
 |_,_,0,_,.cons r _,e=>by simp at e;subst e;exact lZ!
 |_,_,i+1,a,.cons _ t,e=>by
  let#[b,Y,h2]:=iX t cY_;exact#[b,lY_,h2]
def nU(h:E5! l m)(h':E5! l' m'):E5! (l++l') (m++m'):=by
 induction h with
 |nil=>exact h'
 |cons r _ ih=>exact F5_ r
def xE{l:W!}{m:μ β}(j:δ)(h:E5! l m):(∀a b,l[j]?=ψ a->m[j]?=ψ b->F a b->F (f a) (g b))->E5! (l.modify j f) (m.modify j g):=by
 induction h generalizing j with
 |nil=>intro _;simpa using Paired.nil
 |cons r t ih=>
  intro h;cases j with
  |zero=>exact .cons (h _ _ χ χ r) t
  |succ j=>exact .cons r (ih j λa b e1 e2=>h a b (Db! e1) (Db! e2))
def pG:∀{l:W!} {m:μ β} (j:δ),E5! l m->E5! (l.eraseIdx j) (m.eraseIdx j)
 |_,_,_,.nil=>.nil
 |_,_,0,.cons _ t=>t
 |_,_,j+1,.cons r t=>.cons r (pG j t)
def Gp.ents(I:e!)(sub:K!)(h:rJ! Gp G h1 es):JS! Mx:=by
 let#[Y,h2]:=h;exact#[by simp[Hk,TR Y],λi e k he hk=>?_,?_]
 .rw[RS]at he;delta Hk at hk;rw[OE]at hk;let#[p,hp,rfl]:=MQ.mp hk;let#[e',jn,q1,_,k',q2,q3]:=iX Y hp;rw[he]at jn;cases jn;rw[q2];exact#[qN I sub q1 q2,q3]
 .let li:∀{l:q!} {m:cS_},Paired (rJ! HC G) l m->(eq_).Nodup->(Hk l).Nodup:=by
   intro l m hp
   induction hp with
   |nil=>intro _;exact QO
   |@cons p e l m q t ih=>
    intro nd;rw[MU,NO]at nd;show(_::Hk l).Nodup;rw[NO];exact#[bZ_,ih nd.2];let#[p',bz,e']:=NB.mp z;let#[_,_,k,hk,_]:=q;let#[i,hi]:=UQ.mp bz;let#[_,_,_,_,k',cu,_]:=iX t hi;dsimp only at e';rw[hk,cu]at e';let:k'=k:=e';subst this;exact nd.1 (NB.mpr #[p',bz,b2o cu hk])
  exact li Y h2
def Gp.look(h:fP_)(hd:bo!):
  (Ld fQ_ k=υ/\Ep_ d=υ/\(∀v,Bp h1 d v=h1++[(d,v)])/\d∉h1.map e_)\/∃j x e,Ld fQ_ k=ψ j/\h1[j]?=ψ dz_/\es[j]?=ψ e/\Ep_ d=ψ x/\Cp KF G x e.val/\(∀v,Bp h1 d v=h1.modify j λp=>(p.1,v))/\Hl h1 d=h1.eraseIdx j:=by
 let#[Y,h2]:=h
 induction Y with
 |nil=>exact .inl #[χ,χ,cz!,Q_]
 |@cons p e l m q t ih=>
  let#[y,z]:=p;rw[MU,NO]at h2;let#[_,q2,k',q3,_]:=q;let q3:=q3;let ox:Hk ((y,z)::l)=k'::Hk l:=by delta Hk;rw[MU,q3];rfl
  by_cases hy:y=d
  .subst hy;rw[hd]at q3;cases q3;exact .inr #[0,z,e,?_,χ,χ,by simp[kget],q2,λv=>by simp[Bp,List.modify],by simp[Hl]];rw[ox];delta Ld;rw[List.findIdx?_cons];simp
  .let hne:k'≠k:=λe=>hy (b2o q3 (e▸hd));let cu:Ld (Hk ((y,z)::l)) k=(Ld (Hk l) k).map (·+1):=by
    rw[ox];delta Ld;rw[List.findIdx?_cons];simp[hne]
   obtain⟨i1,i2,i3,i4⟩|⟨j,x,e',i1,i2,i3,i4,i5,i6,i7⟩:=ih h2.2
   .exact .inl #[Ao!,by simp[kget,hy,i2],λv=>by simp[Bp,hy,i3 v],?_];rw[MU,MM,UV];exact#[λe=>hy e.symm,i4]
   .exact .inr #[j+1,x,e',Ao!,by simpa using i2,by simpa using i3,by simp[kget,hy,i4],i5,λv=>by simp[Bp,hy,i6 v],by simp[Hl,hy,i7]]
def Gp.put(h:fP_)(hd:bo!)(ru:Hd! G)(rv:Cp KF G x v):BH_ Gp G p2! (BH es (Ld fQ_ k) dy_ u v):=by
 obtain⟨i1,i2,i3,i4⟩|⟨j,y,e',i1,i2,i3,i4,i5,i6,i7⟩:=h.look hd
 .rw[i1,i3];exact#[nU h.1 (EZ! #[ru,rv,k,hd,χ]),?_];rw[NV,OL];exact#[h.2,Q_,λa ha b J e=>?_];simp at J;subst J e;exact i4 ha
 .rw[i1,i6];exact#[xE j h.1 λa b _ _ q=>#[q.1,rv,q.2.2],?_];let:∀(l:q!) (j:δ),(l.modify j λp=>(p.1,x)).map e_=l.map e_:=by
   intro l
   induction l with
   |nil=>intro j;simp
   |cons p l ih=>
    intro j;cases j with
    |zero=>simp
    |succ j=>simp[ih j]
  rw[this];exact h.2
def Gp.del(h:fP_):BH_ Gp G (h1.eraseIdx j) Aj!:=by exact#[pG j h.1,?_];exact h.2.sublist ((List.eraseIdx_sublist h1 j).map _)
end
inductive Dh where
 |lst (xs:d_)|dct (h1:q!) (ep:δ)|obj (C:sw!) (fs:hy!)
nonrec def Dh.tg:Dh->δ
 |.lst _=>0|.dct _ _=>1|.obj _ _=>2
def cne{P:ν}{x y:Dh}(h:ψ x=ψ y)(e:(x.tg==y.tg)=θ):P:=by cases h;rw[ON]at e;cases e
abbrev Mh:=Addr->Da_ Dh
nonrec def mup(M:Mh)(a:sw!)(c:Dh):Mh:=λb=>if b=a then ψ c else M b
def mup_same:Gr! a a=ψ c:=by delta mup;rw[y_]
def mup_ne(h:b≠a):Gr! a b=M b:=by delta mup;rw[MZ h]
nonrec def dE(a:sw!)(es:cS_)(ep:δ):HO:=.ext λh=>HJ_ a/\dJ_=θ/\an_<=big
def Jp(KF:zA!)(G:Hp):μ ck!->μ cZ_->Prop:=Paired λp q=>p.1=q.1/\Ap KF G p.2 q.2
section
variable(P:yM!)(w:yK!)(KF:zA!)
def Gf(G H:Hp)(a:sw!):Dh->ν
 |.lst xs=>∃vs,H a=ψ eb_/\Al KF G xs vs
 |.dct h1 ep=>∃es,H a=ψ k2!/\BH_ Gp G h1 es
 |.obj C fs=>∃dx vs,H a=ψ Ao_/\Jp KF G fs vs
structure MR(M:Mh)(G H:Hp):Prop where
 cell:∀a c,M a=ψ c->G a=υ/\BH_ Gf G H a c
end
structure XM(M:Mh)(G H:Hp)(M':Mh)(G' H':Hp):Prop where
 g:Ba G G'
 sub:Ba G' H'
 new:∀b,G' b≠υ->G b≠υ\/H b=υ
 keep:∀b o,H b=ψ o->M b=υ->H' b=ψ o
 dom:∀b,M' b≠υ->M b≠υ\/H b=υ
 cells:∀b,M b≠υ->M' b≠υ
def XM.refl(s:K!):Du! M G H:=#[fm!,s,jT_,λ_ _ h _=>h,jT_,λ_ h=>h]
def XM.free(x:k2_)(hM:M b=υ)(h:H' b=υ):H b=none:=by
 cases e:H b with
 |none=>rfl
 |some o=>rw[x.keep b o e hM]at h;cases h
section
variable{P:yM!}{w:yK!}{KF:zA!}{M M1 M2:Mh}{G H G' H' G1 H1 G2 H2:Hp}
def Jp.mono(e:k0!)(h:k3!):Jp KF G' fs vs:=Paired.mapP h λ_ _ z=>#[z.1,z.2.mono e]
def Gf.mono(e:k0!)(h:Ap_)(hH:H' a=H a):BH_ Gf G' H' a c:=by
 cases c with
 |lst xs=>let#[vs,Y,h2]:=h;exact#[vs,p3!,p3_]
 |dct h1 ep=>let#[es,Y,h2]:=h;exact#[es,p3!,p3_]
 |obj C fs=>let#[dx,vs,Y,h2]:=h;exact#[dx,vs,p3!,p3_]
def Gf.has(h:Ap_):H a≠none:=by
 cases c with
 |lst xs=>let#[vs,Y,h2]:=h;rw[Y];simp
 |dct h1 ep=>let#[es,Y,h2]:=h;rw[Y];simp
 |obj C fs=>let#[dx,vs,Y,h2]:=h;rw[Y];simp
def MR.has(m:cm_)(h:M c≠υ):H c≠none:=by
 cases e:M c with
 |none=>exact H3_ h
 |some q=>exact(IW_ c q).2.has
def XM.trans(a:Du! M1 G1 H1)(b:XM M1 G1 H1 M2 G2 H2)(m:Aq!):Du! M2 G2 H2 where
 g:=a.g.trans b.g
 sub:=b.sub
 new:=λc h=>by
  obtain z|z:=b.new c h
  .exact a.new c z
  .cases hM:M c with
   |none=>exact .inr (a.free hM z)
   |some q=>exact Ga_ (m.has (a.cells c Aq_))
 keep:=λc o h hM=>by
  exact b.keep c o (a.keep c o h hM) ?_;cases e:M1 c with
  |none=>rfl
  |some q=>
   rcases a.dom c k4_ with z|z
   .exact C6_ hM z
   .rw[h]at z;cases z
 dom:=λc h=>by
  obtain z|z:=b.dom c h
  .exact a.dom c z
  .cases hM:M c with
   |none=>exact .inr (a.free hM z)
   |some q=>exact .inl nofun
 cells:=λc h=>b.cells c (a.cells c h)
def XM.ext(x:jV_):Jc! M:=#[x.g,x.sub,x.new,λb o h _=>x.h b o h,jT_,λ_ h=>h]
def MR.ext(m:cm_)(x:jV_):I5! M:=⟨λa c e=>by
 let#[Y,h2]:=IW_ a c;let hn:=h2.has;exact Ar!
 .cases q:G' a with
  |none=>rfl
  |some o=>
   rcases x.new a cF_ with z|z
   .exact ξ Y z
   .exact Ga_ hn
 .cases q:H a with
  |none=>exact ξ q hn
  |some o=>exact x.h a o q⟩
end
structure Tb(P:yM!)(w:yK!)(KF:zA!)(own:g_)(G H:Hp)(Z:St)(ρ:Ae)(M:Mh):Prop where
 or:DV! KF
 mr:Jb_ M
 dj:∀i∈own,∀p,Z[i]?=ψ cf!->M p=υ
section
variable{P:yM!}{w:yK!}{KF:zA!}{own:List Nat}{M M' M1 M2:Mh}{G H G' H' G1 H1 G2 H2:Hp}{Z:St}{ρ:Ae}
def OR.growM(h:cf_)(x:k2_)(dj:∀i∈own,∀p,Z[i]?=ψ cf!->M p=υ):EG! OR G' H' Z ρ where
 sub:=x.sub
 len:=h.len
 at_:=λi d q n=>by let#[v,Y,h2]:=h.at_ i d q n;exact wg_
 own_:=λi hi=>by
  let#[p,ds,vs,Y,h2,h3,h4,h5]:=h.own_ i hi;exact#[p,ds,vs,Y,h2,x.keep _ _ h3 (dj i hi p h2),?_,h5.mono x.g];cases q:G' p with
  |none=>rfl
  |some o=>
   rcases x.new p cF_ with z|z
   .exact C6_ h4 z
   .rw[h3]at z;cases z
 dis:=h.dis
def Tb.grow(s:hV!)(x:k2_)(m:Ar_):BH_ Tb own G' H' Z ρ M':=
 ⟨s.or.growM x s.dj,m,λi hi p e=>by
  cases q:M' p with
  |none=>rfl
  |some c=>
   let#[p',ds,vs,Y,h2,h3,h4,h5]:=F9! i hi;rw[e]at h2;cases h2;rcases x.dom p cF_ with z|z
   .exact C6_ (s.dj i hi p e) z
   .rw[h3]at z;cases z⟩
end
abbrev WE:=Ae->Mh->p4_->ν
abbrev WA:=Ae->Mh->At!->ν
abbrev WT:=Ae->Mh->(Bool->Mh->ν)->ν
section
variable(P:yM!)(w:yK!)(KF:zA!)(own:List Nat)
inductive FH(f:WE)(Z:St)(H:Hp)(Q:VK):Prop
 |mk (G:Hp) (ρ:Ae) (M:Mh) (R:L_) (st:hV!) (e:hW_) (k:∀d M' v G' H',R d M'->Jc! M'->I5! M'->DM_ G'->Q v H'):FH f Z H Q
inductive JY(f:WA)(Z:St)(H:Hp)(Q:c2!):Prop
 |mk (G:Hp) (ρ:Ae) (M:Mh) (R:p5_) (st:hV!) (e:hW_) (k:∀d M' v G' H',R d M'->Jc! M'->I5! M'->Al KF G' d v->Q v H'):JY f Z H Q
inductive BW(f:WT)(Z:St)(H:Hp)(Q:dM!):Prop
 |mk (G:Hp) (ρ:Ae) (M:Mh) (R:fS_) (st:hV!) (e:hW_) (k:∀d M' G' H',R d M'->Jc! M'->I5! M'->Q d H'):BW f Z H Q
end
structure ME(X:Cx)(own:g_)(e:Expr)(f:WE):Prop where
 ok:PE X e (Em_ FH f)
structure MA(X:Cx)(own:g_)(es:c2_)(f:WA):Prop where
 ok:PA X es (Em_ JY f)
structure MT(X:Cx)(own:g_)(e:Expr)(f:WT):Prop where
 ok:PT X e At_
structure MW(X:Cx)(own:g_)(e:Expr)(f:WT):Prop where
 ok:PW X e At_
nonrec def wl(f:m_):WE:=λρ M R=>match f ρ with|some d=>R d M|none=>False
def Ca(f:bh_):WT:=λρ M R=>match f ρ with|some d=>R d M|none=>False
section
variable{X:Cx}{own:List Nat}{e a b c:Expr}{es rest:List Expr}{pos:Pos}{f fa fb fc:WE}{fs:WA}{ft fu:WT}{g:Ae->Option D}{gs:Ae->Option (List D)}{gt:Ae->Option Bool}
def fD(h:iA!)(hw:∀Z G H Q ρ M R,I8_ G->f ρ M R->(DE! Ap)->t Z H Q):C9_ e f:=
 Au_
def d0l(h:gz_)(hw:∀Z G H Q ρ M R,I8_ G->HK! fs->(DE! Al)->t Z H Q):MA X own es fs:=
 (D2_ p)
def b2m(h:PT X e t)(hw:Av!):D9! MT e:=
 Au_
def d0g(h:PW X e t)(hw:Av!):D9! MW e:=
 (D2_ wh)
def c4u(h:wl g ρ M R):∃d,g ρ=ψ d/\R d M:=by
 delta wl at h;split at h
 .exact Aw!
 .exact h.elim
def b7k(h:Ca gt ρ M R):∃d,gt ρ=ψ d/\R d M:=by
 delta Ca at h;split at h
 .exact Aw!
 .exact h.elim
def aC(h:C5! e g):C9_ e (wl g):=fD h.ok λZ G H Q ρ M R st e' k=>by
 let#[d,e1,e2]:=c4u e';exact#[G,ρ,d,st.or,e1,λv G' H' x r=>k d M v G' H' e2 (.ext x) p6_ r]
def eH(h:HX! e gt):MT X own e (Ca gt):=b2m h.ok λZ G H Q ρ M R st e' k=>by
 let#[d,e1,e2]:=b7k e';exact#[G,ρ,d,st.or,e1,λG' H' x=>k d M G' H' e2 (.ext x) p6_]
def Ad:WA:=λ_ M R=>R [] M
def Ab(f:WE)(fs:WA):WA:=λρ M R=>f ρ M λd M1=>fs ρ M1 λds M2=>R eb! M2
def aN:MA X own [] Ad:=d0l eO λZ G H Q ρ M R st e k=>k [] M [] G H e k6_ st.mr Al.nil
def aE(h:b1!)(hs:fT!)(hst:ai!:=by rfl):MA X own aD_ (Ab f fs):=
 d0l wW! λZ G H Q ρ M R st e' k=>⟨G,ρ,M,_,st,e',λd M1 v G1 H1 r1 x1 m1 q1=>⟨G1,ρ,M1,_,st.grow x1 m1,r1,λds M2 vs G2 H2 r2 x2 m2 q2=>
  k _ M2 _ G2 H2 r2 cn_ m2 (FM_ b1_ q2)⟩⟩
def AA(P:yM!)(w:yK!)(KF:zA!)(r:R2)(g:hX!):Prop:=∀{x y:V} {dx dy d:D} {M:Mh} {G H:Hp} {Q:VK},Ba G H->Jb_ M->E6_ dx x->E6_ dy y->g M dx dy=ψ d->jZ!->G5_ r
def Ha.m{KF:zA!}{g:hh_}(h:Ha KF r g):BH_ AA r (λ_=>g):=λs _ rx ry e k=>h s rx ry e k
nonrec def w2(g:hX!)(fa fb:WE):WE:=λρ M R=>fa ρ M λx M1=>fb ρ M1 λy M2=>match g M2 x y with|some d=>R d M2|none=>False
def c5b(hg:hX_)(st:Aw_)(e:w2 gm fa fb ρ M R)
  (k:∀d M' v G' H',R d M'->Jc! M'->Ki_ MR->DP_ G'->Q v H'):EZ r (Em_ FH fa) (Em_ FH fb) Z H Q:=
 ⟨G,ρ,M,_,st,e,λx M1 u G1 H1 r1 x1 m1 q1=>⟨G1,ρ,M1,_,st.grow x1 m1,r1,λy M2 v G2 H2 r2 x2 m2 q2=>by
  let r2:=r2;split at r2
  .rename_i d hd;exact hg x2.sub m2 b1_ q2 hd λz G3 H3 x3 q3=>k d M2 z G3 H3 r2 ((cn_).trans (.ext x3) m2) (m2.ext x3) q3
  .exact r2.elim⟩⟩
def a5p(ho:mN!)(hg:hX_)(ha:aj_)(J:co!):C9_ mN_ k7_:=
 fD sQ_ λZ G H Q ρ M R st e k=>Iz_ e k
def lH(ho:b8!)(hg:hX_)(ha:aj_)(J:co!)(hm:eU!):C9_ eU_ k7_:=
 fD wH! λZ G H Q ρ M R st e k=>Iz_ e k
def cH(hr:Yg X r)(hg:hX_)(ha:aj_)(J:co!)(hs:Pc b):C9_ nC_ k7_:=
 fD wH_ λZ G H Q ρ M R st e k=>Iz_ e k
nonrec def wT(f:WE):WT:=λρ M R=>f ρ M λd M1=>match d with|.bl b=>R b M1|_=>False
def cY(ho:b8!)(hg:hX_)(ha:aj_)(J:co!)(hm:eU!):MT X own eU_ (wT k7_):=
 b2m wI! λZ G H Q ρ M R st e k=>Iz_ e λd M' v G' H' r' x' m' q'=>by
  cases d<;>first|exact r'.elim|skip
  obtain rfl:=dA q';exact Ax!
def gB(h:b1!)(he:iA_:=by intro _;rfl):MT X own e (wT f):=
 b2m (a8p h.ok he) λZ G H Q ρ M R st e k=>⟨G,ρ,M,_,st,e,λd M' v G' H' r' x' m' q'=>by
  cases d<;>first|exact r'.elim|skip
  obtain rfl:=dA q';exact Ax!⟩
def Dt(ft fu:WT):WT:=λρ M R=>ft ρ M λb M1=>if b then E8_ fu else R θ M1
def Ym(ft fu:WT):WT:=λρ M R=>ft ρ M λb M1=>if b then R τ M1 else E8_ fu
def Hw(ft:WT):WT:=λρ M R=>ft ρ M λb M1=>R (!b) M1
def gL(h:hY!):D9! MW mp!:=wM!
def a1c(h:hY!):D9! MW mp_:=wN!
def iH(ha:hY!)(J:MW X own eK! fu):MW X own eK_ (Dt ft fu):=
 d0g wN_ λZ G H Q ρ M R st e k=>⟨G,ρ,M,_,st,e,λx M1 G1 H1 r1 x1 m1=>by
  cases x with
  |true=>exact kL Ay!
  |false=>exact lK Ay_⟩
def b2l(ha:hY!)(J:MW X own eL_ fu):MW X own eM! (Ym ft fu):=
 d0g wQ! λZ G H Q ρ M R st e k=>⟨G,ρ,M,_,st,e,λx M1 G1 H1 r1 x1 m1=>by
  cases x with
  |false=>exact lK Ay!
  |true=>exact kL Ay_⟩
def oJ(h:D9! MW e):D9! MT e:=#[h.ok.pt]
def lF(h:hY!):MT X own eN! (Hw ft):=
 b2m (b8u h.ok) λZ G H Q ρ M R st e k=>#[G,ρ,M,_,st,e,λx M1 G1 H1 r1 x1 m1=>k _ M1 G1 H1 r1 x1 m1]
def Lh(fa fb:WE):WE:=λρ M R=>wT fa ρ M λb M1=>if b then E8_ fb else R B! M1
def AE(fa fb:WE):WE:=λρ M R=>wT fa ρ M λb M1=>if b then R v_ M1 else E8_ fb
def Yn(fa:WE):WE:=λρ M R=>wT fa ρ M λb M1=>R (.bl (!b)) M1
def a1g(h:aj_):C9_ mr_ fa:=wR!
def a1i(ha:aj_)(J:C9_ eK! fb):C9_ eK_ (Lh fa fb):=
 fD wR_ λZ G H Q ρ M R st e k=>⟨G,ρ,M,_,st,e,λd M1 v G1 H1 r1 x1 m1 q1=>by
  cases d<;>first|exact r1.elim|skip
  rename_i x;obtain rfl:=dA q1;exact j1_;cases x with
  |true=>exact kL k9!
  |false=>exact lK Az!⟩
def d6r(ha:aj_)(J:C9_ eL_ fb):C9_ eM! (AE fa fb):=
 fD wT_ λZ G H Q ρ M R st e k=>⟨G,ρ,M,_,st,e,λd M1 v G1 H1 r1 x1 m1 q1=>by
  cases d<;>first|exact r1.elim|skip
  rename_i x;obtain rfl:=dA q1;exact j1_;cases x with
  |false=>exact lK k9!
  |true=>exact kL Az!⟩
def d2y(ha:aj_):C9_ eN! (Yn fa):=
 fD (b9l ha.ok) λZ G H Q ρ M R st e k=>⟨G,ρ,M,_,st,e,λd M1 v G1 H1 r1 x1 m1 q1=>by
  cases d<;>first|exact r1.elim|skip
  obtain rfl:=dA q1;exact#[_,χ,k _ M1 _ G1 H1 r1 x1 m1 Ap.bl]⟩
def BV(ft:WT)(fa fb:WE):WE:=λρ M R=>ft ρ M λb M1=>if b then E8_ fa else E8_ fb
def d0k(hc:hY_)(ha:aj_)(J:co!):C9_ iC_ (BV ft fa fb):=
 fD wV_ λZ G H Q ρ M R st e k=>⟨G,ρ,M,_,st,e,λx M1 G1 H1 r1 x1 m1=>by
  cases x with
  |true=>exact kL k9!
  |false=>exact lK k9!⟩
def Qu(fs:WA):WE:=λρ M R=>fs ρ M λds M1=>h!<=1000/\R bQ_ M1
def AF(fs:WA):WE:=λρ M R=>fs ρ M λds M1=>h!<=1000/\R bR! M1
def a1f(h:fT!):C9_ (.Tuple es n pos) (Qu fs):=
 fD (b9i h.ok) λZ G H Q ρ M R st e k=>⟨G,ρ,M,_,st,e,λds M1 vs G1 H1 r1 x1 m1 q1=>⟨by rw[<-aK q1];exact fF r1.1,λp hp=>
  k _ M1 _ _ _ r1.2 Az_ (m1.ext p9!) (eL AA! q1)⟩⟩
def d2z(h:fT!):C9_ i4_ (AF fs):=
 fD j3! λZ G H Q ρ M R st e k=>⟨G,ρ,M,_,st,e,λds M1 vs G1 H1 r1 x1 m1 q1=>⟨by rw[<-aK q1];exact fF r1.1,λp hp=>
  k _ M1 _ _ _ r1.2 Az_ (m1.ext p9!) (cW AA! q1)⟩⟩
end
section
variable{P:yM!}{w:yK!}{KF:zA!}{M:Mh}{G H:Hp}{p a:sw!}{o:HO}{c c0:Dh}
def MR.nocell(m:cm_)(h:cI_):M p=none:=by
 cases e:M p with
 |none=>rfl
 |some q=>exact ξ h (m.has k4_)
def XM.laid(s:K!)(hp:cI_):Du! (Ji_ c) G fl_:=by
 show"#7";exact#[fm!,λb u e=>by rw[bD (ne (s b u e))];exact s b u e,dq_,λb u e _=>by rw[bD (ne e)];exact e,bh!,bh!]
 .by_cases J:b=p
  .subst J;exact .inr hp
  .rw[cT!]at h;exact .inl h
 .by_cases J:b=p
  .subst J;rw[mup_same];simp
  .rw[cT!];exact h
def MR.laid(m:cm_)(hp:cI_)(s:K!)(h:BH_ Gf G fl_ p c):BH_ MR (Gr! p) G fl_:=⟨λb q e=>by
 by_cases J:b=p
 .show"#*";exact#[s.free hp,h]
 .rw[cT!]at e;let#[Y,h2]:=IW_ b q;exact AC_⟩
def XM.write(m:cm_)(s:K!)(ha:M a=ψ c0):Du! (mup M a c) G c0!:=by
 let hG:=(m.cell a c0 ha).1;exact#[fm!,λb u e=>by rw[bD (cN e hG)];exact s b u e,dq_,λb u e J=>?_,bh!,bh!]
 .let:b≠a:=λz=>by subst z;rw[ha]at J;rcases J
  rw[bD this];exact e
 .by_cases J:b=a
  .subst J;exact .inl (EI! ha)
  .rw[cT!]at h;exact .inl h
 .by_cases J:b=a
  .subst J;rw[mup_same];simp
  .rw[cT!];exact h
def MR.write(m:cm_)(ha:M a=ψ c0)(h:BH_ Gf G c0! a c):BH_ MR (Gr! a) G c0!:=⟨λb q e=>by
 by_cases J:b=a
 .show"#*";exact#[(m.cell _ c0 ha).1,h]
 .rw[cT!]at e;let#[Y,h2]:=IW_ b q;exact AC_⟩
end
open Classical in
def Ia(h1:q!)(d:D)(ep:δ):Nat:=if(dB!).isSome then ep else ep+1
def KZ(KF:zA!)(G:Hp):ι D->Da_ Value->ν
 |some d,some u=>Hd! G
 |none,none=>True
 |_,_=>False
section
variable{X:Cx}{hb:List (Addr×Obj)}{Z:St}{G H:Hp}{s:yU!}{M:Mh}{a:sw!}{h1:List (D×D)}{ep:Nat}{A:uB!}{E:Value->Shared->Prop}{d x:D}{k:MK}{u v:v5!}
def eV(I:e!)(m:bG_)(sub:K!)(e:co_):∃es,H a=ψ k2!/\rJ! Gp G h1 es/\DY! Mz a es ep/\dJ_=θ/\an_<=big/\JS! Mx:=by let#[es,Y,h2]:=(IW_ a _).2;let#[#[h3,h4,h5],_]:=(show Eb X.prog X.w H s.heap a k2! from I.hok a _ Y);exact#[es,Y,h2,h3,h4,h5,h2.ents I sub]
def a3c(I:e!)(e:H a=ψ k2!)(D':Mz h' a bf bv)(hs:u0!)(hn:dJ_=θ)(hl:bf.length<=big):oX! (KI_ (dE a bf bv)) {s with heap:=h',toks:=t'}:=by exact c9b I tE_ hs (by let#[o,h,_]:=D';exact qb_) #[#[D',hn,hl],let⟨o,h,_⟩:=D';qb_,AD_];let#[#[o,z1,z2,z3],z4]:=z;exact lb!
def a3e(hu:an!)(I:e!)(m:bG_)(sub:K!)(e:co_)(r:bZ!)(hk:bo!)
  (h:∀o s',oX! H s'->KZ X.K G dB! o->Q o s'):Jp_ (dictGet a u):=by
 let#[es,Y,h2,h3,h4,h5,h6]:=DX! I;exact GF_ d7f λtk=>h _ _ dV! ?_;obtain⟨i1,i2,i3,i4⟩|⟨j,y,e',i1,i2,i3,i4,i5,i6,i7⟩:=h2.look hk
 .rw[i1,i2];exact i2!
 .rw[i1,i4];show KZ X.K G (ψ y) (es[j]?.map (·.val));rw[i3];exact i5
def kput_len:∀(l:q!) (d x:D),(Bp l d x).length<=ah!+1
 |[],_,_=>by simp[Bp]
 |(y,z)::l,d,x=>by
  delta Bp;split
  .simp
  .let:=kput_len l d x;dsimp only[List.length_cons];omega
def b0m(hu:an!)(I:e!)(m:bG_)(sub:K!)(e:co_)(r:bZ!)(hk:bo!)(rv:lb_)(hl:es!)
  (h:AF_):oY! h_ Ah_:=by
 let#[es,Y,h2,h3,h4,h5,h6]:=DX! I;exact GF_ d7e h0_ λh' tk D' hs=>?_;let m8:=h2.put hk r rv;let qr:GG (Ld fQ_ k) ep=Ia h1 d ep:=by
  delta Ia;obtain⟨i1,i2,i3,i4⟩|⟨j,y,e',i1,i2,i3,i4,i5,i6,i7⟩:=h2.look hk
  .rw[i1,i2];rfl
  .rw[i1,i4];rfl
 rw[qr]at D';let vx:=TR m8.1;let:=kput_len h1 d x;exact h _ _ (a3c I Y D' hs h4 a!) #[_,cC,m8]
def b0n(hu:es_)(I:e!)(m:bG_)(sub:K!)(e:co_)(r:bZ!)(hk:bo!)(hx:AH!)
  (h:∀o s',oX! H s'->Gr_ x->Q o s'):Jp_ (getItem M_ u):=by
 let#[es,Y,h2,h3,h4,h5,h6]:=DX! I;let hT:=fU!;delta getItem;exact FG! (OV hT PySem.slot_dict_getitem (OQ PySem.slot_dict_getitem hT PySem.entry_dict_getitem ?_ (PySem.args_dict_getitem _ _)));show Dx! h_ lc_;exact MC ld!;rw[hx]at ho;cases o with
 |none=>exact ho.elim
 |some o=>exact MH (Kp! o (h o s' I' ho))
def sJ(hu:es_)(I:e!)(m:bG_)(sub:K!)(e:co_)(r:bZ!)(hk:bo!)
  (h:∀s',oX! H s'->Q (dB!).isSome s'):Jp_ (contains M_ u):=by
 let#[es,Y,h2,h3,h4,h5,h6]:=DX! I;let hT:=fU!;delta contains;exact J8_ (VF hT VH.lookup ?_);rw[Jr_ beq_builtin_none];exact MC (wpAny_callSpecialUnlessNone?_slot hT VH (OQ VH hT PySem.entry_dict_contains ?_ (PySem.args_dict_contains _ _)));show Dx! h_ lc_;exact MC ld!;cases o with
 |none=>
  let hn:Ep_ d=none:=by
   cases q:Ep_ d with
   |none=>rfl
   |some y=>rw[q]at ho;exact ho.elim
  let h:=h s' I';rw[hn]at h;exact MC (wpAny_pendingKey_other h4 (MH AH_))
 |some o=>
  let hn:(dB!).isSome=true:=by
   cases q:Ep_ d with
   |none=>rw[q]at ho;exact ho.elim
   |some y=>rfl
  let h:=h s' I';rw[hn]at h;exact MH AH_
def b0l(hu:es_)(I:e!)(m:bG_)(sub:K!)(e:co_)(r:bZ!)(hk:bo!)(rv:lb_)(hl:es!)
  (h:AF_):Jp_ (setItem M_ u v):=by
 let#[es,Y,h2,h3,h4,h5,h6]:=DX! I;let hT:=fU!;delta setItem;exact FG! (OV hT PySem.slot_dict_setitem (OQ PySem.slot_dict_setitem hT PySem.entry_dict_setitem ?_ (PySem.args_dict_setitem _ _ _)));exact EO_ TJ hT;show Dx! h_ (dictSet a u v>>=_);exact MC (b0m hu I m sub e r hk rv hl λbf s' I' c'=>MH (Kp! dg_ (h bf s' I' c')))
def c9e(hu:es_)(I:e!)(m:bG_)(sub:K!)(e:co_)(r:bZ!)(hk:bo!)
  (h:∀o s',oX! H s'->Gr_ (JL! dB!)->Q o s'):Jp_ (call AI! [bL!,u]):=by
 let#[es,Y,h2,h3,h4,h5,h6]:=DX! I;exact Fi! (PySem.F.args_dict_get_2 _ _);show Dx! h_ lc_;exact MC ld!;cases q:Ep_ d with
 |none=>
  rw[q]at ho;cases o with
  |none=>
   let h:=h .none s' I';rw[q]at h;exact FJ! dg_ #[V.non,Ap.non,χ]
  |some o=>exact ho.elim
 |some y=>
  rw[q]at ho;cases o with
  |none=>exact ho.elim
  |some o=>
   let h:=h o s' I';rw[q]at h;exact MH AJ_
def c9d(hu:es_)(I:e!)(m:bG_)(sub:K!)(e:co_)(r:bZ!)(hk:bo!)(rv:lb_)
  (h:∀o s',oX! H s'->Gr_ ((dB!).getD x)->Q o s'):Jp_ (call AI! [bL!,u,v]):=by
 let#[es,Y,h2,h3,h4,h5,h6]:=DX! I;exact Fi! (PySem.F.args_dict_get_3 _ _ _);show Dx! h_ lc_;exact MC ld!;cases q:Ep_ d with
 |none=>
  rw[q]at ho;cases o with
  |none=>
   let h:=h v s' I';rw[q]at h;exact FJ! v rv
  |some o=>exact ho.elim
 |some y=>
  rw[q]at ho;cases o with
  |none=>exact ho.elim
  |some o=>
   let h:=h o s' I';rw[q]at h;exact MH AJ_
def xS(hu:es_)(I:e!)(m:bG_)(sub:K!)(e:co_)(r:bZ!)(hk:bo!)(rv:lb_)(hl:es!)
  (hs:∀y o s',Ep_ d=ψ y->oX! H s'->Gr_ y->Q o s')
  (hn:Ep_ d=υ->∀bf s',Jg_ ld_->JS_ p2!->Q v s'):Jp_ (KI! "dict.setdefault" [bL!,u,v]):=by
 let#[es,Y,h2,h3,h4,h5,h6]:=DX! I;let ar:=TR h2.1;let hT:=fU!;exact OQ XU hT PySem.F.entry_dict_setdefault ?_ (PySem.F.args_dict_setdefault_3 _ _ _);delta Builtin.«dict.setdefault» AK!;exact MC qd!;dsimp only;rw[Jr_ h4];obtain⟨i1,i2,i3,i4⟩|⟨j,y,e',i1,i2,i3,i4,i5,i6,i7⟩:=h2.look hk
 .exact MC (qA hu h3 h6 h0! h0_ (λj e tk q=>by rw[i1]at q;rcases q) λh' tk _ D' c8=>MH #[_,χ,hn i2 _ _ AL! #[_,cC,?_]])
  .rw[NR,QR];omega
  .let:=h2.put hk r rv;rw[i1]at this;exact this
 .exact MC (GF_ qA h0_ (λj' e tk q q2=>by
   rw[i1]at q;rcases q;rw[i3]at q2;rcases q2;exact MH #[_,χ,hs y _ _ i4 dV! i5]) λh' tk q=>by rw[i1]at q;rcases q)
def d4k(hu:es_)(I:e!)(m:bG_)(sub:K!)(e:co_)(r:bZ!)(hk:bo!)(hx:AH!)
  (h:∀bf o s',Jg_ ld_->JS_ (Hl h1 d)->Gr_ x->Q o s'):Jp_ (KI! "dict.pop" [bL!,u]):=by
 let#[es,Y,h2,h3,h4,h5,h6]:=DX! I;let hT:=fU!;obtain⟨i1,i2,i3,i4⟩|⟨j,y,e',i1,i2,i3,i4,i5,i6,i7⟩:=h2.look hk
 .rw[i2]at hx;rcases hx
 .rw[i4]at hx;rcases hx;exact OQ PySem.F.slot_dict_pop hT PySem.F.entry_dict_pop ?_ (PySem.F.args_dict_pop_2 _ _);delta Builtin.«dict.pop» AK!;exact MC qd!;dsimp only;let fin:wpAny h_ A.in1 Aj_ (λold s'=>∃e o,old=ψ e/\e.val=o/\Q o s') E s:=by
   exact GF_ d3x h0_ i1 i3 λh' tk D' c8=>#[e',_,χ,χ,h _ _ _ AL! #[_,cC,?_] i5]
   .exact NW (List.length_eraseIdx_le _ _) h5
   .rw[i7];exact h2.del
  let#[o,ho,_,hd]:=id h3;let hne:es.toArray.isEmpty=false:=by
   cases es with
   |nil=>simp at i3
   |cons _ _=>rfl
  by_cases hp:(keyPart u).isSome=τ
  .rw[MO hp];exact MC ab_;rw[MZ NS];show"!f"
  .rw[MZ hp];exact MC (RM ho hd (MC ab_));rw[hne,MZ NS];show"!f"
end
section
variable{X:Cx}{hb:List (Addr×Obj)}{Z:St}{H:Hp}{s:yU!}
def a4m(I:e!)(qa:kj_)(qb:GR_ b ws)(rd:hu!)(re:hu_)(hu:an!)
  (h:km_):D5! M_ d0! (!Iq ds es):=by
 let#[us,rv,p1,_]:=Dq_ qa;let#[us',a9,p2,_]:=Dq_ qb;let Y:=aK rd;let h2:=aK re;let h3:=c5!;let h4:=kn_;let z:=SeqAt.RcNeAt.tuples p1 p2 hu kn!;let e:yl_=Iq ds es:=by
  show"#4"
  .rw[hl,Nat.min_self,<-hl,ko!,hl];simp
  .rw[ko_];let:(h!==an_)=false:=by simpa using hl
   rw[this,VD]
 rw[e]at z;exact z
def a8m(I:e!)(qa:pe!)(qb:F7! b ws)(rd:hu!)(re:hu_)(hu:an!)
  (h:km_):D5! M_ d0! (!Iq ds es):=by
 show"!I";let h4:=kn_;by_cases hl:h!=an_
 .let z:=Ex_ SeqAt.RcNeAt.lists oF! kn!;rw[MX,<-h3,<-Y,ko!]at z;exact z
 .rw[ko_];exact Ex_ SeqAt.RcNeAt.lists_lengths ym!
def b8i(I:e!)(n:cN_)(n':fA!)(hu:an!)(r:eh_)(r':hw!)(ru:a8_)(be:hw_)(hT:∀xs ys,d=.tup xs->d'=.tup ys->JW_ u)(hL:∀xs ys,d=.lst xs->d'=.lst ys->JW_ u):JW_ u:=by
 show"!l"
 all_goals first|exact E8! hT|exact E8! hL|(delta Ej;(try simp![Bool.not_false,SG]);with_reducible first|exact .none_none|exact .same _|exact .none_bool _|exact .none_int _ _|exact .none_str _ _|exact .none_tuple ‹_› hu|exact .none_list ‹_› hu|exact .bool_none _|exact Iw! _|exact HZ_ _|exact H0! _|exact .bool_tuple _ ‹_› hu|exact .bool_list _ ‹_› hu|exact .int_none _ _|exact H0_ _|exact Hv_ _|exact Hw! _|exact Iw_ _ ‹_› hu|exact .int_list _ _ ‹_› hu|exact .str_none _ _|exact H1! _|exact Hw_ _|exact Hx! _|exact Ix! _ ‹_› hu|exact .str_list _ _ ‹_› hu|exact .tuple_none ‹_› hu|exact .tuple_bool _ ‹_› hu|exact Ix_ _ ‹_› hu|exact Iy! _ ‹_› hu|exact .tuple_list ‹_› ‹_› hu|exact .list_none ‹_› hu|exact .list_bool _ ‹_› hu|exact .list_int _ _ ‹_› hu|exact .list_str _ _ ‹_› hu|exact .list_tuple ‹_› ‹_› hu)
def b8j(I:e!)(d d':D)(n:cN_)(n':fA!)(hu:yo!)(r:eh_)(r':hw!)(ru:a8_)(be:hw_):JW_ u:=
 b8i I n n' a! r r' ru be (λxs ys e e'=>by
  subst e e';let#[a,vs,rfl,q,rr]:=bW r;let#[b,ws,rfl,q',b7]:=bW r';subst ru;subst be;delta Bc at n n';delta Ir at hu;delta Ej;exact Fx_ a4m λus us' rv a9=>Dg_ I) (λxs ys e e'=>by
  subst e e';let#[a,vs,rfl,q,rr]:=bU r;let#[b,ws,rfl,q',b7]:=bU r';subst ru;subst be;delta Bc at n n';delta Ir at hu;delta Ej;exact Fx_ a8m λus us' rv a9=>Dg_ I)
def DO(KF:zA!):R2:=λx y H Q=>∃dx dy,Dj! dx x/\Dj! dy y/\Bc dx=τ/\Bc dy=τ/\Ir dx<=40/\Ew_ (!Ej dx dy)
def iG(hu:ao!):Fd_ s7_ DO:=by intro hb s Z H x y v u Q I rx ry h;let#[dx,dy,r1,r2,n1,n2,hd,q]:=h;exact EL_ b8j
def Em:D->D->ι D:=λx y=>if Bc x&&Bc y&&decide (Ir x<=40)then C4_ (!Ej x y) else υ
protected def vD{KF:zA!}:Gq! DO Em:=by
 show"!3";delta Em at e;show"!9"
 .show"!s";rcases e;exact yo_
 .rcases e
open Classical in
def Vb(KF:zA!)(H:Hp)(x:D)(u:v5!):Bool:=decide (∃d,Hd! H/\Bc d=τ/\Ej d x=τ)
open Classical in
def c2w(I:e!)(r:Cp X.K H d u)(n:cN_):Vb X.K H x u=Ej d x:=by
 delta Vb;cases h:Ej d x with
 |true=>exact NG #[d,r,n,h]
 |false=>
  exact NA ?_;rintro⟨d',⟨v',r',be⟩,n',h'⟩;let#[v,r,ru]:=r;let:=ru.inj be;subst this;rw[IV_ I]at h;rw[h]at h';exact C6! h'
def qC(I:e!):∀{ds:d_} {vs:t_} {us:o_},FW! ds->Ax vs us->Br ds=τ->us.any (Vb X.K H x)=ds.any λd=>Ej d x
 |[],vs,us,r,rv,_=>by obtain rfl:=cQ r;cases rv;rfl
 |d::ds,vs,us,r,rv,n=>by
  let#[v,t,rfl,r1,r2]:=bS r;delta Br at n;rw[NU]at n;cases rv with
  |cons qo tj=>rw[RT,RT,c2w I #[v,r1,qo] n.1,qC I r2 tj n.2]
def pL(I:e!)(rx:Ap X.K H x y)(ry:Bj y v)(nx:Bc x=τ):∀{ds:d_} {vs:t_} {us:o_},FW! ds->Ax vs us->Br ds=τ->A.units+Cz ds<cLine->∀u∈us,Dr_ v (Vb X.K H x u)
 |[],vs,us,r,rv,_,_=>λu hu=>by obtain rfl:=cQ r;cases rv;exact(MN hu).elim
 |d::ds,vs,us,r,rv,n,hd=>λu hu=>by
  let#[z,t,rfl,r1,r2]:=bS r;delta Br at n;rw[NU]at n;delta Cz at hd;cases rv with
  |cons qo tj=>
   obtain rfl|hu:=MM.mp hu
   .rw[c2w I #[z,r1,qo] n.1];exact c2z I d x A z y _ _ n.1 nx a! r1 rx qo ry
   .exact pL I rx ry nx r2 tj n.2 a! u hu
def DQ(KF:zA!)(neg:Bool):R2:=λx y H Q=>∃p ys dx ds,y=.ref p/\qe_/\Dj! dx x/\D6! ds ys/\Bc dx=τ/\Br ds=τ/\Cz ds<=40/\Ew_ (Ja_ dx)
def d2f(hu:ao!):IU! DQ:=by
 intro hb s Z H x y v u Q I rx ry h;let#[p,ys,dx,ds,rfl,hq,r1,r2,n1,n2,hd,q]:=h;subst ry;obtain hq|hq:=hq
 .show"!V";exact Hq! fW! lg!;rw[lg_,lh!];exact q
 .show"!z";exact IU_ fW! lg!;rw[lg_,lh!];exact q
def b4u(hu:ao!):Fu X qf! (DQ X.K τ):=by
 intro hb s Z H x y v u Q I rx ry h;let#[p,ys,dx,ds,rfl,hq,r1,r2,n1,n2,hd,q]:=h;subst ry;obtain hq|hq:=hq
 .show"!V";exact SeqAt.notIn_listAt fW! pl.isList lg! e8!;rw[lg_,lh!];exact q
 .show"!z";exact SeqAt.notIn_tupleAt fW! pl lg! e8!;rw[lg_,lh!];exact q
def DR(P:yM!)(w:yK!)(KF:zA!)(neg:Bool):R2:=λx y H Q=>∃(M:Mh) (G:Hp) (a:sw!) (h1:q!) (ep:δ) (d:D) (k:MK),y=.ref a/\Ba G H/\Jb_ M/\M a=ψ hZ!/\E6_ d x/\Ck d=ψ k/\Ew_ (I9_ dB! dB!)
def d2g(hu:ao!):Kp_ DR:=by intro hb s Z H x y v u Q I rx ry h;let#[M,G,a,h1,ep,d,k,rfl,sub,m,e,r,hk,q]:=h;subst ry;exact MC AO_
def b4v(hu:ao!):Fu X qf! (rJ! DR τ):=by intro hb s Z H x y v u Q I rx ry h;let#[M,G,a,h1,ep,d,k,rfl,sub,m,e,r,hk,q]:=h;subst ry;exact MC AO_
def AU(P:yM!)(w:yK!)(KF:zA!)(neg:Bool):R2:=λx y H Q=>DQ KF neg x y H Q\/BH_ DR neg x y H Q
def fZ(hu:ao!):Kp_ AU:=(d2f hu).or (d2g hu)
def gX(hu:ao!):Fu X qf! (rJ! AU τ):=(b4u hu).or (b4v hu)
def Pn(M:Mh):D->Da_ aN_
 |.lst xs=>ψ xs
 |.tup xs=>ψ xs
 |.fn a=>match M a with|some (.lst xs)=>ψ xs|_=>υ
 |_=>υ
def a0f{KF:zA!}(sub:K!)(m:cm_)(r:cJ!)(e:Pn M d=ψ xs):∃p ys,v=.ref p/\qe_/\Al KF G xs ys:=by
 cases d<;>first|(rcases e;done)|skip
 .rcases e;show"!`";exact#[p,vs,χ,.inr kq!,rr]
 .rcases e;let#[p,vs,rfl,q,rr]:=bU r;exact#[p,vs,χ,.inl (sub.seq q),rr]
 .rename_i a;obtain rfl:=gG r;dsimp only[Pn]at e;show"!9"
  .rename_i ys hy;rcases e;let#[_,vs,Y,h2]:=m.cell a _ hy;exact#[a,vs,χ,.inl (Ek.of Y),h2]
  .rcases e
def Gq(neg:Bool)(M:Mh)(x y:D):ι D:=match y with
 |.fn a=>match M a with
  |some (.dct h1 _)=>(Ck x).bind λ_=>C4_ (if neg then !(kget h1 x).isSome else(kget h1 x).isSome)
  |_=>inS M x y
 |_=>inS M x y
where inS (M:Mh) (x y:D):ι D:=(Pn M y).bind λds=>if Bc x&&Br ds&&decide (Cz ds<=40)then ψ ys! else υ
protected def dY{KF:zA!}:BH_ AA (AU P w KF neg) (Gq neg):=by
 intro x y dx dy d M G H Q sub m rx ry e k;let seq:Gq.inS neg M dx dy=ψ d->BH_ AU neg x y H Q:=λe=>by
  let#[ds,e1,e2]:=MD.mp e;split at e2
  .show"!s";rcases e2;let#[p,ys,rfl,q,rr]:=a0f sub m ry e1;exact .inl #[p,ys,dx,ds,χ,q,rx.mono sub,rr.mono sub,h.1.1,h.1.2,h.2,ef!]
  .rcases e2
 delta Gq at e;show"!9"
 .rename_i a;show"!9"
  .show"#E";rcases e2;obtain rfl:=gG ry;exact .inr #[M,G,a,h1,ep,dx,kk,χ,sub,m,hM,rx,e1,ef!]
  .exact seq e
 .exact seq e
def FY(P:yM!)(w:yK!)(KF:zA!):R2:=λx y H Q=>∃(M:Mh) (G:Hp) (a:sw!) (h1:q!) (ep:δ) (d z:D) (k:MK),x=.ref a/\Ba G H/\Jb_ M/\M a=ψ hZ!/\E6_ d y/\Ck d=ψ k/\Ep_ d=ψ z/\∀v,E6_ z v->Q v H
def d3m(hu:ao!):Yg X (Dw_ FY X.K):=by
 intro value gw hb s Z H x y v u Q I rx ry h hs;let#[M,G,a,h1,ep,d,z,k,rfl,sub,m,e,r,hk,hz,q]:=h;subst rx;let#[es,Y,h2,h3,h4,h5,h6]:=DX! I;delta subscriptTail;exact MC ?_;rw[Is! h3.typeIs.not_modules];exact MC (VF h3.typeIs PySem.F.slot_dict_getitem.lookup ?_);let fin:Be_ (subscripted gw θ M_ u) (λr fz=>wpAny h_ X.A (FM! M_) a9! X.xe fz) X.xe s:=by
  rw[hs];exact wpAny_operating (b0n a! I m sub e #[_,r,ry] hk hz λo s' I' ⟨v',r',be⟩=>MC (Ht_ #[v',H,I',be,q v' r']))
 first
  |exact MH jz_
  |exact G6! jz_
  |exact MC fin
def FZ(P:yM!)(w:yK!)(KF:zA!):R2:=λx y H Q=>JE KF x y H Q\/BH_ FY x y H Q
def bN(hu:ao!):Yg X (Dw_ FZ X.K):=aH.or (d3m hu)
def By(M:Mh)(x y:D):ι D:=match x with
 |.fn a=>match M a with
  |some (.dct h1 _)=>(fW_).bind λ_=>Ep_ y
  |some (.lst xs)=>match y with|.int i=>Et xs i|_=>υ
  |_=>υ
 |_=>Ai x y
protected def bM{KF:zA!}:BH_ AA (BH_ FZ) By:=by
 show"!e";delta By at e;show"!9"
 .rename_i a;obtain rfl:=gG rx;show"!9"
  .show"#E";exact .inr #[M,G,a,h1,ep,dy,d,kk,χ,sub,m,hM,ry,e1,e2,λv r=>k v G H aA_ r]
  .rename_i xs hM;show"!9"
   .rename_i i;obtain rfl:=bC ry;show"!u";let#[v,e6,r6]:=pB h2 e;exact FS_ #[a,vs,i,v,χ,χ,Ek.of Y,e6,k v G H aA_ r6]
   .rcases e
  .rcases e
 .exact .inl (H2! aL)
def Rh(M:Mh)(x y:D):ι D:=match x with
 |.fn a=>match M a,y with
  |some (.lst xs),.lst ys=>if i!+X_<=big then yJ_ eC! else υ
  |_,_=>υ
 |_=>An x y
protected def pH{KF:zA!}:BH_ AA (Sf KF) Rh:=by
 show"!e";delta Rh at e;show"!9"
 .rename_i a;obtain rfl:=gG rx;show"!9"
  .rename_i xs ys hM;show"!9"
   .show"!W";show"!u";let#[b,ws,rfl,qb,rb]:=bU ry;exact Jx_ (.inr #[a,b,vs,ws,χ,χ,Ek.of Y,sub.seq qb,by rw[<-aK h2,<-aK rb];exact cS hl,λp hp=>k _ _ _ hm! (cW fq! (dH h2 rb))])
   .rcases e
  .rcases e
 .exact H2! bJ
end
def Dm{α:Type}(o:Da_ α)(R:kH_):Prop:=match o with|some a=>R a|none=>False
def dF(h:Dm o R):∃a,o=ψ a/\R a:=by
 cases o with
 |none=>exact h.elim
 |some a=>exact#[a,χ,h]
def Fx(C:sw!)(x:Str)(M:Mh)(d:D):ι D:=match d with
 |.fn a=>match M a with
  |some (.obj C' fs)=>if C'=C then DU! x else υ
  |_=>υ
 |_=>υ
def Hi(f:Str)(v:D):μ ck!->μ ck!
 |[]=>[(f,v)]
 |(g,x)::r=>if g=f then(g,v)::r else(g,x)::Hi f v r
def c2q{KF:zA!}{x:Str}(h:k3!):DU! x=ψ d->∃v,vs.lookup x=ψ v/\DM_ G:=by
 delta Jp at h
 induction h with
 |nil=>intro e;rcases e
 |@cons p q _ _ h t ih=>
  intro e;rw[PL]at e ⊢;rw[<-h.1];show"!9"
  .rcases e;exact#[_,χ,h.2]
  .exact ih e
def c2p{KF:zA!}{x:Str}(h:k3!):DU! x=υ->vs.lookup x=none:=by
 delta Jp at h
 induction h with
 |nil=>exact λ_=>χ
 |@cons p q _ _ h t ih=>
  intro e;rw[PL]at e ⊢;rw[<-h.1];show"!9"
  .rcases e
  .exact ih e
def c8j{KF:zA!}{x:Str}(r:cJ!)(h:k3!):Jp KF G (Hi x d fs) (Jv x v vs):=by
 delta Jp at h
 induction h with
 |nil=>exact .cons #[χ,r] .nil
 |@cons p q fs vs h t ih=>
  show Jp KF G (if p.1=x then(p.1,d)::fs else p::Hi x d fs) (if q.1=x then(q.1,v)::vs else q::Jv x v vs);rw[<-h.1];by_cases e:p.1=x
  .rw[MO e,MO e];exact .cons #[χ,r] t
  .rw[MZ e,MZ e];exact F5_ h
section
variable{X:Cx}{own:List Nat}{e o a b:Expr}{es:List Expr}{pos ax ah p:Pos}{f fa fb fo:WE}{fs:WA}{x m:Str}{C:sw!}
def Au(C:sw!)(x:Str)(f:WE):WE:=λρ M R=>f ρ M λd M1=>Dm (Fx C x M1 d) λv=>R v M1
def bL(c:dU_)(n:Dl X.K C x)(h:b1!)(J:C8! e x gh!=Dk_ e:=by rfl):C9_ (.Attribute e x pos) (Au C x f):=
 fD (d2a h.ok J) λZ G H Q ρ M R st e k=>⟨G,ρ,M,_,st,e,λd M1 v G1 H1 r1 x1 m1 q1=>by
  let#[z,Y,h2]:=dF r1;cases d<;>first|(rcases Y;done)|skip
  rename_i ad;obtain rfl:=gG q1;dsimp only[Fx]at Y;split at Y
  .rename_i C' fs hM;split at Y
   .rename_i hC;subst hC;let#[_,dx,vs,h3,h4]:=m1.cell ad _ hM;let#[u,h5,h6]:=c2q h4 Y;exact#[ad,_,dx,vs,u,χ,h3,c,n,h5,k z M1 u G1 H1 h2 x1 m1 h6]
   .rcases Y
  .rcases Y⟩
def Ux(P:yM!)(w:yK!)(KF:zA!)(r:eR_)(g:qg!):Prop:=∀{vs:t_} {ds:d_} {d:D} {M:Mh} {G H:Hp} {Q:VK},Ba G H->Jb_ M->C1_ G->g M ds=ψ d->jZ!->r vs H Q
nonrec def w1(g:qg!)(fs:WA):WE:=λρ M R=>fs ρ M λds M1=>Dm (g M1 ds) λd=>R d M1
def a5r{id:String}(hc:no!)(hd:AS_)(hg:J!)(hm:cx_)(hv:no_)(ha:fX!)(hn:cy!:=by decide)
  (a8:y!:=by decide)(he:ai!:=by rfl)(az:aF!:=by rfl):C9_ aU_ (w1 g fs):=
 fD wZ! λZ G H Q ρ M R st e' k=>⟨G,ρ,M,_,st,e',λds M1 vs G1 H1 r1 x1 m1 q1=>by
  let#[d,Y,h2]:=dF r1;exact hd x1.sub m1 q1 Y λv G2 H2 x2 q2=>F4! k⟩
def yT{T:String}{r:eR_}{g:qg!}(hc:np_)(hd:AS_)(hg:J!)(hm:cx_)(hv:jd!)(ha:fX!)(hn:cy!:=by decide)
  (a8:y!:=by decide)(he:ai!:=by rfl)(az:aF!:=by rfl):C9_ aU_ (w1 g fs):=
 fD w0! λZ G H Q ρ M R st e' k=>⟨G,ρ,M,_,st,e',λds M1 vs G1 H1 r1 x1 m1 q1=>by
  let#[d,Y,h2]:=dF r1;exact hd x1.sub m1 q1 Y λv G2 H2 x2 q2=>F4! k⟩
def Wa(M:Mh):μ D->ι D
 |[.str x]=>Bv [.str x]
 |[d]=>(Pn M d).map λxs=>.int i!
 |_=>υ
def c3z{KF:zA!}:BH_ Ux xv! Wa:=by
 show"#&";delta Wa at e;show"!9"
 .exact eK sub r e k
 .let#[xs,e1,rfl]:=MQ.mp e;show"!m";exact#[fx_,i!,χ,?_,do_];rw[aK rr];exact q.elim (λz=>.inl AU!) λz=>.inr AU!
 .rcases e
def Wx(M:Mh):μ D->ι D
 |[d]=>(Pn M d).bind λxs=>if i!<=big then ψ N_ else υ
 |_=>υ
def c9g{KF:zA!}:BH_ Ux (EF! qe_) Wx:=by
 show"#&";delta Wx at e;show"!9"
 .let#[xs,e1,e2]:=MD.mp e;split at e2
  .cases e2;show"!m";exact#[p,ys,χ,q,λl hl=>k _ _ _ AU_ (cW (sub.free hl) rr)]
  .cases e2
 .cases e
def Ri(fs:WA):WE:=λρ M R=>fs ρ M λds M1=>h!<=1000/\∀p,M1 p=υ->R A_ (mup M1 p bR!)
def a1h(h:fT!):C9_ i4_ (Ri fs):=
 fD j3! λZ G H Q ρ M R st e k=>⟨G,ρ,M,_,st,e,λds M1 vs G1 H1 r1 x1 m1 q1=>⟨by rw[<-aK q1];exact fF r1.1,λp hp=>
  k _ _ _ _ _ (r1.2 p (IA! hp)) (JL_ (.laid x1.sub hp)) (m1.laid hp x1.sub #[vs,cC,q1]) Ap.fn⟩⟩
def Mv(M:Mh)(d:D):Da_ (Addr×μ D):=match d with
 |.fn p=>match M p with|some (.lst xs)=>ψ (p,xs)|_=>υ
 |_=>υ
protected def wQ{KF:zA!}(m:cm_)(r:cJ!)(e:Mv M d=ψ q):d=.fn q.1/\v=.ref q.1/\M q.1=ψ (.lst q.2)/\∃vs,H q.1=ψ eb_/\Al KF G q.2 vs:=by
 cases d<;>first|(rcases e;done)|skip
 show"#H";dsimp only[Mv]at e;show"!9"
 .rename_i xs hM;rcases e;exact#[χ,χ,hM,(m.cell p _ hM).2]
 .rcases e
def Dr(M:Mh)(d:D):Da_ (Addr×μ aj!×δ):=match d with
 |.fn p=>match M p with|some (.dct h1 ep)=>ψ lj_|_=>υ
 |_=>υ
protected def dJ{KF:zA!}(r:cJ!)(e:Dr M d=ψ q):d=.fn q.1/\v=.ref q.1/\M q.1=ψ qh_:=by
 cases d<;>first|(rcases e;done)|skip
 show"#H";dsimp only[Dr]at e;show"!9"
 .rename_i xs ep hM;rcases e;exact H4! hM
 .rcases e
def Yo(fo fa:WE):WE:=λρ M R=>fo ρ M λd M1=>Hd_ M1 λ_=>fa ρ M1 λv M2=>Hd_ M2 λq=>qi!<big/\Ed_ AV_
def c7g(ho:cU!)(ha:aj_)(hst:fu!:=by rfl)(dn:(EY_ hB!&&D3! bw_
   &&decide hB_)=true:=by rfl) (dq:cc!:=by rfl)
  (dh:Jt_ "append"=Dk_ o:=by rfl) (cx:eg!:=by rfl):KR_ (Kz_ "append" ax) Yo:=
 fD (pF UC PySem.F.slot_list_append PySem.F.type_list_append yS ho.ok (cU ha.ok eO hst) dh dn dq hst cx) λZ G H Q ρ M R st e k=>
  ⟨G,ρ,M,_,st,e,λd M1 v G1 H1 r1 x1 m1 q1=>by
   let#[c1,e1,r1]:=dF r1;let#[rfl,rfl,_,vs1,hH,_]:=wQ m1 q1 e1;exact#[.inl #[χ,vs1,Ek.of hH],G1,ρ,M1,_,k8!,r1,λz M2 u G2 H2 r2 x2 m2 q2=>?_];let#[#[p2,xs2],e2,r2]:=dF r2;let#[z1,z2,z3,vs,Y,h2]:=wQ m2 b1_ e2;cases z2;exact#[_,vs,u,χ,χ,Y,by rw[<-aK h2];exact NN r2.1 ki!,?_];exact FU_ k _ r2.2 (Gb! z3) (m2.write z3 #[_,cC,dH h2 (DD! q2)]) Ap.non⟩
def lS{q:Addr×μ aj!×δ}(I:e!)(m:bG_)(sub:K!)(e:M q.1=ψ qh_):
  s.TypeIs (.ref q.1) "dict"/\∀b,Value.ref q.1=.ref b->∃ob,yK_ b=ψ ob/\ob.dict=none:=by
 let#[es,_,_,h3,_]:=DX! I;exact#[fU!,λb z=>?_];cases z;let#[o,h,hc,_]:=h3;exact#[o,h,hc.2.1]
def ME.run(h:b1!)(I:e!)(st:Aw_)(hf:hW_)
  (k:∀d M' v G' H' u s',R d M'->Jc! M'->Ki_ MR->DP_ G'->Jg_ H'->Bj v u->Q u s'):I6! gh! Q:=
 dP (Dt_ h.ok (λv H'=>∃d M' G',R d M'/\XM M G H M' G' H'/\MR X.prog X.w X.K M' G' H'/\Ap X.K G' d v) I #[G,ρ,M,R,st,hf,λd M' v G' H' r x m q=>#[d,M',G',r,x,m,q]]) λu s' ⟨v,H',I',rv,d,M',G',r,x,m,q⟩=>GG! k u s' r x m q I' rv
def Nc(fo fa:WE):WE:=λρ M R=>fo ρ M λd M1=>Dm h2! λ_=>fa ρ M1 λy M2=>HK_ M2 d λq=>Dm fW_ λ_=>R (JL! qi_) M2
def c1a(hu:ao!)(ho:cU!)(ha:aj_)(m:M1 X o "get" ax a ah):KR_ AW! Nc:=⟨by
 rintro hb s Z H Q I ⟨G,ρ,M,R,st,e,k⟩;exact JT! UP;let#[c1,e1,r1]:=dF r1;let#[rfl,rfl,hM]:=dJ q1 e1;subst rx;let#[t1,t2]:=EI_ lS;exact ll!;rw[m.trees];exact SZ χ AW_;let#[#[p2,ye,m9],e2,r2]:=dF r2;let#[kk,e3,r2]:=dF r2;let#[z1,z2,gq]:=dJ b1_ e2;cases z1;exact Hy! c9e λov s' I' ⟨v',r',be⟩=>#[v',H2,I',be,k _ M2 v' G2 H2 r2 cn_ m2 r']⟩
def Fd(fo fa fb:WE):WE:=λρ M R=>fo ρ M λd M1=>Dm h2! λ_=>fa ρ M1 λy M2=>fb ρ M2 λz M3=>HK_ M3 d λq=>Dm fW_ λ_=>R ((qi_).getD z) M3
def kJ(hu:ao!)(ho:cU!)(ha:aj_)(J:co!)(m:M2 X o "get" ax a b ah):K0! AW! Fd:=⟨by
 rintro hb s Z H Q I ⟨G,ρ,M,R,st,e,k⟩;exact JT! UP;let#[c1,e1,r1]:=dF r1;let#[rfl,rfl,hM]:=dJ q1 e1;subst rx;let#[t1,t2]:=EI_ lS;exact ll!;rw[m.trees];exact SZ χ (SH (QI (ha.run I1 fX_ r1 λy M2 yv G2 H2 iv s2 r2 x2 m2 q2 I2 ry=>
  QI AY!)))
 let#[#[p2,ye,m9],e2,r3]:=dF r3;let#[kk,e3,r3]:=dF r3;let#[z1,z2,gq]:=dJ AY_ e2;cases z1;exact GN_ c9d λov s' I' ⟨v',r',be⟩=>Fz! qj!⟩
def Rp(fo fa fb:WE):WE:=λρ M R=>fo ρ M λd M1=>Dm h2! λ_=>fa ρ M1 λy M2=>fb ρ M2 λz M3=>HK_ M3 d λq=>Dm fW_ λ_=>q.2.1.length<big/\
 match kget q.2.1 y with
 |some v=>R v M3
 |none=>R z (IA_ M3 (Bp q.2.1 y z))
def b5y(hu:ao!)(ho:cU!)(ha:aj_)(J:co!)(m:M2 X o "setdefault" ax a b ah):K0! (Kz_ "setdefault" ax) Rp:=⟨by
 rintro hb s Z H Q I ⟨G,ρ,M,R,st,e,k⟩;exact DS_ XU PySem.F.type_dict_setdefault;let#[c1,e1,r1]:=dF r1;let#[rfl,rfl,hM]:=dJ q1 e1;subst rx;let#[t1,t2]:=EI_ lS;exact ll!;rw[m.trees];exact SZ χ (SH (QI (ha.run I1 fX_ r1 λy M2 yv G2 H2 iv s2 r2 x2 m2 q2 I2 ry=>
  QI AY!)))
 let#[#[p2,ye,m9],e2,r3]:=dF r3;let#[kk,e3,hl,r3]:=dF r3;let#[z1,z2,gq]:=dJ AY_ e2;cases z1;let mi:=DT! cn_ x3 m2;exact GN_ xS hl (λw ov s' hw I' ⟨v',r',be⟩=>?_) λhn bf s' I' c'=>?_
 .dsimp only at r3;rw[hw]at r3;exact Fz! mi
 .dsimp only at r3;rw[hn]at r3;exact#[zv,_,I',rz,k _ _ zv G3 _ r3 (mi.trans (.write m3 x3.sub gq) m3) (m3.write gq c') q3]⟩
def Ve(fo fa:WE):WE:=λρ M R=>fo ρ M λd M1=>Dm h2! λ_=>fa ρ M1 λy M2=>HK_ M2 d λq=>Dm fW_ λ_=>Dm qi_ λv=>R v (IA_ M2 (Hl q.2.1 y))
def c0z(hu:ao!)(ho:cU!)(ha:aj_)(m:M1 X o "pop" ax a ah):KR_ (Kz_ "pop" ax) Ve:=⟨by
 rintro hb s Z H Q I ⟨G,ρ,M,R,st,e,k⟩;exact DS_ PySem.F.slot_dict_pop PySem.F.type_dict_pop;let#[c1,e1,r1]:=dF r1;let#[rfl,rfl,hM]:=dJ q1 e1;subst rx;let#[t1,t2]:=EI_ lS;exact ll!;rw[m.trees];exact SZ χ AW_;let#[#[p2,ye,m9],e2,r2]:=dF r2;let#[kk,e3,r2]:=dF r2;let#[w,e4,r2]:=dF r2;let#[z1,z2,gq]:=dJ b1_ e2;cases z1;exact Hy! d4k e4 λbf ov s' I' c' ⟨v',r',be⟩=>#[v',_,I',be,k _ _ v' G2 _ r2 (Gb! gq) (m2.write gq c') r']⟩
def Gv:WE:=λρ M R=>∀p,M p=υ->R A_ fY!
def hV:C9_ (.Dict [] [] pos) Gv:=⟨by
 rintro hb s Z H Q I ⟨G,ρ,M,R,st,e,k⟩;let hp:=I.fresh;let D0:J9! 0:=qk!;exact wpAny_Dict_empty #[di_,upd H s.heap.objs.size A0_,qk_,χ,?_]
 .show"!]"
 .exact k _ _ _ G _ (e _ (IB! hp)) (.laid st.or.sub hp) (HL! hp) Ap.fn⟩
end
abbrev WP:=Ae->Mh->(μ aj!->Mh->ν)->ν
def CU(KF:zA!)(G:Hp):μ aj!->μ ql_->Prop:=Paired λp q=>Cp KF G p.1 q.1/\Cp KF G p.2 q.2
structure MP(X:Cx)(own:g_)(pos:Pos)(keys:List (Option Expr))(kg:c2_)(f:WP):Prop where
 ok:∀(hb:w_) (s:yU!) (Z:St) (G H:Hp) (ρ:Ae) (M:Mh) (R:A1!) (Q:μ ql_->Shared->ν),oX! H s->I8_ G->f ρ M R->
  (∀h1 M' G' H' us s',R h1 M'->Jc! M'->Ki_ MR->CU X.K G' h1 us->Jg_ H'->Q us s')->I6! (evalPairs (pairTrees keys kg X.env pos)) Q
section
variable{X:Cx}{own:List Nat}{e o a b:Expr}{es:List Expr}{pos ax ah p:Pos}{f fa fb fo:WE}{fs:WA}{fp:WP}{keys:List (Option Expr)}{kg:List Expr}
def Lz:WP:=λ_ M R=>R [] M
def Ds(fa fb:WE)(fp:WP):WP:=λρ M R=>fa ρ M λx M1=>fb ρ M1 λy M2=>fp ρ M2 λh1 M3=>R ((x,y)::h1) M3
def vK:MP X own pos [] [] Lz:=#[λhb s Z G H ρ M R Q I st e k=>pairTrees_nil_walk (k [] M G H [] s e k6_ st.mr .nil I)]
def iR(ha:aj_)(J:co!)(hp:A2!):MP X own pos (some a::keys) (b::kg) (Ds fa fb fp):=⟨λhb s Z G H ρ M R Q I st e k=>
 pairTrees_cons_walk (ha.run I st e λx M1 v G1 H1 u s1 r1 x1 m1 q1 I1 ru=>J.run I1 fX_ r1 λy M2 v2 G2 H2 u2 s2 r2 x2 m2 q2 I2 ru2=>
  hp.ok hb s2 Z G2 H2 ρ M2 _ _ I2 AX_ r2 λh1 M3 G3 H3 us s3 r3 x3 m3 q3 I3=>
   k _ M3 G3 H3 _ s3 r3 qj! m3 (.cons #[#[v,(b1_).mono x3.g,ru],#[v2,q2.mono x3.g,ru2]] q3) I3)⟩
def mU:∀{l:q!} {d x:D},d∉l.map e_->Bp l d x=l++[dz_]
 |[],_,_,_=>rfl
 |(y,z)::l,d,x,h=>by
  rw[MU,MM,UV]at h;delta Bp;rw[ln!,mU h.2];rfl
def vX:∀{l:q!} {d:D},d∉l.map e_->kget l d=υ
 |[],_,_=>rfl
 |(y,z)::l,d,h=>by
  rw[MU,MM,UV]at h;delta kget;rw[ln!,vX h.2]
def xZ(hu:an!):∀{h1:q!} {us:μ ql_} {σ:q!} {H:Hp} {s:yU!} {M:Mh} {n:δ} {Q:PUnit->Shared->ν},CU X.K G h1 us->oX! H s->KO! M H->Ba G H->
  M c=C3_ σ n->cU_+aw_<=1000->(∀p∈h1,(Ck p.1).isSome=τ)->((σ++h1).map e_).Nodup->
  (∀H' s',Jg_ H'->Du! A4_ G H'->KO! A4_ H'->Q PUnit.unit s')->
  wpAny h_ A (forIn us PUnit.unit λ(x:Value×Value) (_:PUnit)=>(do dictSet c x.1 x.2;pure (ForInStep.yield PUnit.unit):Sem (ForInStep PUnit))) Q E s
 |_,_,σ,H,s,M,n,Q,.nil,I,m,sub,hM,hl,hk,nd,k=>by
  rw[WH];let hc:Ij_ (σ++[]) (n+0)=M:=by
   show"#2";split
   .rename_i e;rw[e,OA,hM];rfl
   .rfl
  let k:=k H s I;rw[QS,hc]at k;exact MH (k (.refl sub) m)
 |(d,x)::h1,(u,v)::us,σ,H,s,M,n,Q,.cons r t,I,m,sub,hM,hl,hk,nd,k=>by
  rw[SD];let#[kk,hd]:=VJ.mp (hk _ ML);let qh:d∉σ.map e_:=λz=>by
   rw[NV,OL]at nd;exact nd.2.2 d z d b! χ
  dsimp only[List.length_cons]at hl;exact Jr! (b0m hu I m sub hM r.1 hd r.2 (NN a! (show 1001<=big by decide)) λbf s' I' c'=>MH ?_);let qr:Ia σ d n=n+1:=by delta Ia;rw[vX qh];rfl
  rw[qr,mU qh]at c';rw[qr]at I';let m':=m.write hM c';let sub':Ba G (upd H c (dE c bf bC!)):=(XM.write (c:=.dct (σ++[dz_]) bC!) m sub hM).sub;exact xZ hu t I' m' sub' mup_same A6_ (HL_ hk jL_) (BG_ PN nd) λH2 s2 I2 x2 m2=>?_;let hc:mup (Ij_ (σ++[dz_]) bC!) c (.dct (σ++[dz_]++h1) (n+1+aw_))=Ij_ (σ++dz_::h1) (n+(dz_::h1).length):=by
   show"#2";split
   .rw[PN,NH];dsimp only[List.singleton_append];rw[show n+1+h1.length=n+(h1.length+1)by omega]
   .rfl
  rw[hc]at x2 m2;exact k H2 s2 I2 ((XM.write m sub hM).trans x2 m') m2
def Nq(fp:WP):WE:=λρ M R=>∀p,M p=υ->fp ρ fY! λh1 M1=>M1 p=ψ qj_/\aw_<=1000/\(∀q∈h1,(Ck q.1).isSome=τ)/\(fP!).Nodup/\R A_ (mup M1 p (.dct h1 aw_))
def pM(hu:ao!)(hp:A2!)(ji:keys.all (·.isSome)=true:=by rfl)(hl:keys.length=kg.length:=by rfl)(h0:keys≠[]:=by simp)(ZT:keys.length<=15:=by decide):C9_ (.Dict keys kg pos) (Nq fp):=⟨by
 rintro hb s Z H Q I ⟨G,ρ,M,R,st,e,k⟩;let hn:=Gs! pairTrees_length ji hl;let g8:Gs! pairTrees≠[]:=λz=>by rw[z]at hn;exact h0 (UF.mp hn.symm)
 rw[arm_eval_Dict,Gs! zip_pairTrees ji hl,dictDisplay_pairs _ g8 a!];delta subDict;let hf:=I.fresh;let D0:J9! 0:=qk!;let I1:oX! dD! {s with heap:=s.heap.push {cls:=.type "dict",data:=.dict #[]}}:=by
  exact qk_;show"!]"
 let x0:Du! h3_ G dD!:=.laid st.or.sub hf;let m0:rJ! MR h3_ G dD!:=HL! hf;exact MC (VB (Jr! (wpAny_alloc (EA! OM))));rw[aJ!];exact MC (hp.ok hb _ Z G _ ρ _ _ _ I1 (st.grow x0 m0) (e _ (IB! hf)) λh1 M1 G1 H1 us s1 r1 x1 m1 q1 I2=>?_);let#[hM1,ar,hk,nd,r1]:=r1;exact J8_ (xZ a! q1 I2 m1 x1.sub hM1 (Db! ar) hk nd λH2 s2 I3 x2 m2=>MH (H3! #[di_,H2,I3,χ,?_]));let ZU:=(x0.trans x1 m0).trans x2 m1;simp![QC,TW]at ZU m2;exact k _ _ _ G1 H2 r1 ZU m2 Ap.fn⟩
end
abbrev WS:=Ae->Mh->(Fl->Mh->ν)->ν
structure Ik(P:yM!)(w:yK!)(KF:zA!)(own:g_)(M0:Mh)(G0 F0:Hp)(M:Mh)(G H:Hp)(Z:St)(ρ:Ae):Prop where
 st:BH_ Tb own G H Z ρ M
 x:XM M0 G0 F0 M G H
 fr:∀i∈own,∀p,Z[i]?=ψ cf!->F0 p=υ
inductive EY(P:yM!)(w:yK!)(KF:zA!)(M0:Mh)(G0 F0:Hp)(own cr:g_)(f:WS)(E:Uu)(Z:St)(H:Hp):Prop
 |mk (G:Hp) (ρ:Ae) (M:Mh) (R:l_) (st:b3!) (e:hW_) (a:∀ρ' M' G' ae H',R cV! M'->Je! cr M'->E.nx ae H') (b:∀d M' v G' H',R af_ M'->E0! M'->I5! M'->DM_ G'->E.rt v H'):BH_ EY M0 G0 F0 own cr f E Z H
structure MS(X:Cx)(own cr:g_)(st:Stmt)(f:WS):Prop where
 ok:∀M0 G0 F0,PS X st Ba!
structure Vd(X:Cx)(own cr:g_)(st:eI!)(f:WS):Prop where
 ok:∀M0 G0 F0,Nz X st Ba!
section
variable{P:yM!}{w:yK!}{KF:zA!}{own cr:List Nat}{M0 M M':Mh}{G0 F0 G H G' H':Hp}{Z ae:St}{ρ ρ':Ae}
def Ik.grow(s:b3!)(x:k2_)(m:Ar_):BH_ Ik own M0 G0 F0 M' G' H' Z ρ:=#[s.st.grow x m,s.x.trans x s.st.mr,s.fr]
def Ik.set(s:b3!)(hi:a0_)(r:cJ!):BH_ Ik own M0 G0 F0 M G H eG! bR_:=by
 let ne:∀j∈own,i≠j:=λj hj z=>Iu! z;exact#[#[s.st.or.set hi r,s.st.mr,Bb!],s.x,Bb!]
 .rw[NX (ne j hj)]at e;exact s.st.dj j hj p e
 .rw[NX (ne j hj)]at e;exact s.fr j hj p e
def Fn(own:g_)(Z:St)(H:Hp):Hp:=λb=>if b∈Jm own Z then υ else H b
def Ik.sr(s:b3!):EG! SR G lp_ G H Z ρ:=by
 exact#[s.st.or,#[fm!,jU!,s.st.or.sub,dq_],yc_]
 .delta Fn at e;show"!9"
  .rcases e
  .exact e
 .delta Fn;rw[MO (a4h hi e)]
def Ik.root(s:b3!)(h:b∈Jm own Z):M b=υ/\F0 b=none:=by let#[i,hi,q]:=nL h;exact#[s.st.dj i hi b q,s.fr i hi b q]
def Ik.noF(s:b3!)(h:Fn own Z H b=υ):F0 b=none:=by
 delta Fn at h;split at h
 .rename_i J;exact(lq!).2
 .cases hM:M0 b with
  |none=>exact s.x.free hM h
  |some c=>exact ξ h (s.st.mr.has (s.x.cells b Aq_))
def Ik.cellF(s:b3!)(h:M b=ψ c):Fn own Z H b=H b/\H b≠none:=by exact#[?_,s.st.mr.has (EI! h)];delta Fn;rw[F4_ h]
def Ik.mr'(s:b3!)(x:Bc!):I5! M:=⟨λa c e=>by
 let#[Y,h2]:=s.st.mr.cell a c e;let#[e1,e2]:=s.cellF e;exact Ar!
 .cases q:G' a with
  |none=>rfl
  |some o=>
   rcases x.new a cF_ with z|z
   .exact ξ Y z
   .rw[e1]at z;exact Ga_ e2
 .cases q:H a with
  |none=>exact ξ q e2
  |some o=>exact x.h a o (e1.trans q)⟩
def Ik.x'(s:b3!)(x:Bc!):E0! M:=by
 exact#[s.x.g.trans x.g,x.sub,bh!,Bd!,s.x.dom,s.x.cells]
 .obtain z|z:=x.new b h
  .exact s.x.new b z
  .exact qq_
 .let Y:=s.x.keep b o e J;exact x.h b o ?_;delta Fn;rw[Be!];exact Y
def Ik.after(s:b3!)(r:SR KF cr G lp_ G' H' ae ρ'):Je! cr M:=
 ⟨⟨r.or,s.mr' r.ext,λi hi p e=>by
  cases q:M p with
  |none=>rfl
  |some c=>
   let#[e1,e2]:=s.cellF q;let:=GS_ r.fr;rw[e1]at this;exact C6_ this e2⟩,s.x' r.ext,λi hi p e=>s.noF (GS_ r.fr)⟩
end
section
variable{X:Cx}{own bd ik:List Nat}{st:Stmt}{rest body:List Stmt}{e a b c tg o:Expr}{es:List Expr}{pos p2:Pos}{f fa fb fc fo:WE}{fs:WA}{ft fu:WT}{q1 q2 q3:WS}{q:Ae->Option Fl}
def sC(h:iF!)(hw:∀M0 G0 F0 E Z G H ρ M R,rJ! Ik own M0 G0 F0 M G H Z ρ->HK! q1->
  (∀ρ' M' G' ae H',R cV! M'->rJ! Ik bd M0 G0 F0 M' G' H' ae ρ'->E.nx ae H')->(∀d M' v G' H',R af_ M'->XM M0 G0 F0 M' G' H'->MR X.prog X.w X.K M' G' H'->Ap X.K G' d v->E.rt v H')->t E Z H):DL! MS st q1:=
 #[by rintro M0 G0 F0 hb s Z H E I ⟨G,ρ,M,R,sr,e,k1,k2⟩;exact Dt_ h E I (hw M0 G0 F0 E Z G H ρ M R sr e k1 k2)]
def Wj(q:cL_):WS:=λρ M R=>Dm (q ρ) λr=>R r M
def b5v(h:DL! DS st q):DL! MS st (Wj q):=⟨by
 rintro M0 G0 F0 hb s Z H E I ⟨G,ρ,M,R,sr,e,k1,k2⟩;let#[r,e1,e2]:=dF e;exact h.ok G lp_ hb s Z H E I #[G,ρ,r,sr.sr,e1,?_];cases r with
 |nx ρ'=>exact λG' ae H' db=>k1 ρ' M G' ae H' e2 (sr.after db)
 |rt d=>exact λv G' H' x r=>k2 d M v G' H' e2 (sr.x' x) (sr.mr' x) r⟩
def Bf:WS:=λρ M R=>R ad! M
def Ag(q1 q2:WS):WS:=λρ M R=>q1 ρ M λr M1=>match r with|.nx al=>q2 al M1 R|.rt d=>R af_ M1
def bP:Ex! Vd [] Bf:=#[by rintro M0 G0 F0 hb s Z H E I ⟨G,ρ,M,R,sr,e,k1,k2⟩;exact b1t hb s Z H E I (k1 ρ M G Z H e sr)]
def aF(Y:qr!)(h2:Vd X bd ik rest q2):Vd X own ik iF_ (Ag q1 q2):=⟨λM0 G0 F0 hb s Z H E I ⟨G,ρ,M,R,sr,e,k1,k2⟩=>
 uT qr_ Bf_ hb s Z H E I Bg!⟩
def aG(Y:qr!):DL! Vd [st] q1:=#[λM0 G0 F0=>jK qr_]
def Ik.free{KF:zA!}{M0 M:Mh}(s:b3!):BH_ Ik [] M0 G0 F0 M fn! H Z ρ:=by
 let o:=s.st.or.full;let sG:Ba G fn!:=λb u e=>by
  delta Js;split
  .exact s.st.or.sub b u e
  .exact e
 exact#[#[o,#[λa c e=>?_],at!],#[s.x.g.trans sG,o.sub,bh!,s.x.keep,s.x.dom,s.x.cells],at!]
 .let#[Y,h2]:=s.st.mr.cell a c e;exact#[?_,h2.mono sG χ];delta Js;rw[F4_ e];exact Y
 .delta Js at h;split at h
  .rename_i J;exact .inr (lq!).2
  .exact s.x.new b h
def vJ(h:Vd X [] ik rest q1):Vd X own ik rest q1:=#[by rintro M0 G0 F0 hb s Z H E I ⟨G,ρ,M,R,sr,e,k1,k2⟩;exact h.ok M0 G0 F0 hb s Z H E I #[_,ρ,M,R,sr.free,e,k1,k2]]
def Aw(f:WE):WS:=λρ M R=>f ρ M λd M1=>R af_ M1
def bE(h:b1!):DL! MS mu_ (Aw f):=sC (b8x h.ok) λM0 G0 F0 E Z G H ρ M R sr e k1 k2=>
 #[G,ρ,M,_,sr.st,e,λd M' v G' H' r x m q=>GG! k2 r (sr.x.trans x sr.st.mr) m q]
def Np:WS:=λ_ M R=>R (.rt .non) M
def a1d:DL! MS si_ Np:=sC c6b λM0 G0 F0 E Z G H ρ M R sr e k1 k2=>k2 _ M _ G H e sr.x sr.st.mr Ap.non
def Am(i:δ)(f:WE):WS:=λρ M R=>f ρ M λd M1=>D0! bR_ M1
def bA(hN:br!)(hi:al!)(hx:bJ!)(h:b1!)(b6:a0_:=by decide)(hs:o0_:=by rfl)
  (hf:X.fn x=τ\/AN_ x=DM! some:=by first|exact .inl χ|exact .inr χ|assumption):Ex! MS xX! (Am i f):=
 sC xX_ λM0 G0 F0 E Z G H ρ M R sr e k1 k2=>#[G,ρ,M,_,sr.st,e,Bh_]
def As(ft:WT)(q1 q2:WS):WS:=λρ M R=>ft ρ M λb M1=>if b then E8_ q1 else E8_ q2
def cK(hc:hY_)(Y:DL! Vd b1 q1)(h2:DL! Vd b2 q2):DL! MS o1! qs_:=⟨by
 rintro M0 G0 F0 hb s Z H E I ⟨G,ρ,M,R,sr,e,k1,k2⟩;exact GE_ qr_ Bf_ E I Bi!;cases b with
 |true=>exact kL lr!
 |false=>exact lK lr!⟩
def Cd(f:WE):WS:=λρ M R=>f ρ M λ_ M1=>R ad! M1
def dL(h:b1!)(hs:si!:=by rfl):Ex! MS (G3_ e) (Cd f):=
 sC (sY h.ok hs) λM0 G0 F0 E Z G H ρ M R sr e k1 k2=>#[G,ρ,M,_,sr.st,e,λd M' v G' H' r x m q=>k1 ρ M' G' Z H' r (IB_ x)]
def He:WS:=λ_ _ _=>False
def jB:DL! MS st He:=#[by rintro M0 G0 F0 hb s Z H E I ⟨G,ρ,M,R,sr,e,k1,k2⟩;exact e.elim]
def Fz(C:sw!)(x:Str)(fo f:WE):WS:=λρ M R=>f ρ M λy M1=>fo ρ M1 λd M2=>match d with
 |.fn p=>(match M2 p with|some (.obj C' fs)=>C'=C/\bq_<100/\R ad! Bj_|_=>False)
 |_=>False
def gM(c:dU_)(n:Dl X.K C x)(ho:cU!)(h:b1!)(hs:De! e (ψ (Kz_ x p2))=pure false:=by rfl):Ex! MS (Ez! [.Attribute o x p2] e) (Fz C x fo f):=
 sC (d1u ho.ok h.ok hs) λM0 G0 F0 E Z G H ρ M R sr e k1 k2=>⟨G,ρ,M,_,sr.st,e,λy M1 v G1 H1 r1 x1 m1 q1=>⟨G1,ρ,M1,_,Gb_ x1,r1,λd M2 u G2 H2 r2 x2 m2 q2=>by
  cases d<;>first|exact r2.elim|skip
  rename_i p;obtain rfl:=gG q2;dsimp only at r2;split at r2
  .rename_i C' fs hM;let#[hC,hl,r2]:=r2;subst hC;let#[_,dx,vs,h3,h4]:=m2.cell p _ hM;let ar:bq_=ba!:=TR h4;exact#[p,_,dx,vs,χ,h3,c,n,p_,k1 ρ _ G2 Z _ r2 ((Bk_).grow (.write m2 x2.sub hM) (m2.write hM #[dx,_,cC,c8j b1_ h4]))]
  .exact r2.elim⟩⟩
def Ju(M:Mh)(d y v:D):ι Mh:=match d with
 |.fn p=>match M p with
  |some (.dct h1 ep)=>if(fW_).isSome&&decide (aw_<big)then ψ h5! else υ
  |some (.lst xs)=>match y with
   |.int j=>(Fv! j).map λk=>Ji_ (He! k)
   |_=>υ
  |_=>υ
 |_=>υ
def FT(P:yM!)(w:yK!)(KF:zA!):V->V->V->Hp->mv_->Prop:=λo i v H Q=>∃(M:Mh) (G:Hp) (a:sw!) (h1:q!) (ep:δ) (d x:D) (k:MK),o=.ref a/\Ba G H/\Jb_ M/\M a=ψ hZ!/\E6_ d i/\Ck d=ψ k/\E6_ x v/\aw_<big/\
 ∀bf,BH_ Gf G lc! a AF!->Q lc!
def c5m(hu:ao!):Yc X (Dw_ FT X.K):=by intro hb s Z H o i v ov iv u Q I ro ri rv h;let#[M,G,a,h1,ep,d,x,k,rfl,sub,m,e,r,hk,rx,hl,q]:=h;subst ro;exact b0l a! I m sub e #[_,r,ri] hk #[_,rx,rv] hl λbf s' I' c'=>#[_,I',q bf c']
def c5z(h:Yc X r)(h':Yc X r'):Yc X (λo i v H Q=>r o i v H Q\/r' o i v H Q):=by
 intro hb s Z H o i v ov iv u Q I ro ri rv q;obtain q|q:=q
 .exact Jv! h
 .exact Jv! h'
def Bx(fo fi f:WE):WS:=λρ M R=>f ρ M λv M1=>fo ρ M1 λd M2=>fi ρ M2 λy M3=>Dm qu! λM4=>R ad! M4
def dX(hu:ao!)(ho:cU!)(hi:C9_ i fi)(h:b1!)
  (ha:∀v,assign Bm_ X.env v=(do
   let ov <-holding [v] cy_
   let iv <-holding [v,ov] sn!
   standAt p2
   holding eP! mx!
   release eP! []):=by intro _;rfl)
  (hs:Ew! ls!=pure false:=by rfl) (hw:Ft! ls!=pure none:=by rfl)
  (Y:Dy_ ls!=[assign Bm_ X.env]:=by rfl):Ex! MS (Ez! ls! e) (Bx fo fi f):=
 sC (b9b h.ok (b9g ho.ok hi.ok (c5z a4d (c5m hu)) ha) hs hw Y) λM0 G0 F0 E Z G H ρ M R sr e k1 k2=>⟨G,ρ,M,_,sr.st,e,λv M1 vv G1 H1 r1 x1 m1 q1=>⟨G1,ρ,M1,_,Gb_ x1,r1,λd M2 dv G2 H2 r2 x2 m2 q2=>
  ⟨G2,ρ,M2,_,(Gb_ x1).grow x2 m2,r2,λy M3 yv G3 H3 r3 x3 m3 q3=>by
   let#[M4,e4,r4]:=dF r3;let vy:=(Bk_).grow x3 m3;let qd:=q2.mono x3.g;let qv:=(b1_).mono x3.g;delta Ju at e4;split at e4
   .rename_i p;obtain rfl:=gG qd;split at e4
    .rename_i h1 ep hM;split at e4
     .rename_i hc;rw[NU,NT]at hc;rcases e4;let#[kk,hk]:=VJ.mp hc.1;exact .inr #[M3,G3,p,h1,ep,y,v,kk,χ,x3.sub,m3,hM,q3,hk,qv,hc.2,λbf c'=>k1 ρ _ G3 Z _ r4 (Hy_ c')]
     .rcases e4
    .rename_i xs hM;split at e4
     .rename_i j;obtain rfl:=bC q3;let#[n,e5,rfl]:=MQ.mp e4;let#[_,vs,h3,h4]:=m3.cell p _ hM;exact .inl #[p,vs,j,n,χ,χ,h3,by rw[<-aK h4];exact e5,k1 ρ _ G3 Z _ r4 (Hy_ #[_,cC,uN qv n h4])]
     .rcases e4
    .rcases e4
   .rcases e4⟩⟩⟩
def Cm(ft:WT)(q:WS):δ->WS
 |0=>λ_ _ _=>False
 |n+1=>λρ M R=>ft ρ M λb M1=>if b then q ρ M1 (λr M2=>match r with|.nx bn=>Cm ft q n bn M2 R|.rt d=>R af_ M2)else R ad! M1
def Jy(ft:WT)(q:WS):WS:=λρ M R=>∃n,Cm ft q n ρ M R
def mO(hp:gl!)(hc:hY_)(J:Bp_):Ex! MS sv! (Jy ft q1):=⟨by
 rintro M0 G0 F0 hb s Z H E I ⟨G,ρ,M,R,sr,⟨n,e⟩,k1,k2⟩;exact b8w hp hc.ok (J.ok M0 G0 F0) hb s Z H E I #[λm ae H'=>∃G' ρ' M',Ik X.prog X.w X.K own M0 G0 F0 M' G' H' ae ρ'/\Cm ft q1 m ρ' M' R,#[n,G,ρ,M,sr,e],?_];rintro m ae H' ⟨G',ρ',M',d9,e'⟩;cases m with
 |zero=>exact e'.elim
 |succ m=>
  exact#[G',ρ',M',_,d9.st,e',λb M1 G1 H1 r1 x1 m1=>?_];cases b with
  |true=>exact kL #[λdz H2=>∃G2 bn M2,Ik X.prog X.w X.K own M0 G0 F0 M2 G2 H2 dz bn/\Cm ft q1 m bn M2 R,λdz H2 h=>#[m,UR m,h],G1,ρ',M1,_,d9.grow x1 m1,r1,λbn M2 G2 dz H2 r2 yf=>#[G2,bn,M2,yf,r2],λd M2 v G2 H2 r2 x2 m2 q2=>k2 d M2 v G2 H2 r2 x2 m2 q2]
  |false=>exact lK (k1 ρ' M1 G1 ae H1 r1 (d9.grow x1 m1))⟩
end
def II(P:yM!)(w:yK!)(KF:zA!)(af:It)(ds:d_)(ck:cq_)(G1:Hp):Prop:=∀(i:δ) (M':Mh) (G' H':Hp),Ba G1 G'->Ba G' H'->I5! M'->ck M'->
 xB_/\xC!
abbrev WI:=Ae->Mh->(μ D->(Mh->ν)->Mh->ν)->ν
inductive JX(P:yM!)(w:yK!)(KF:zA!)(own:g_)(fi:WI)(Z:St)(H:Hp)(R:iK!):Prop
 |mk (G:Hp) (ρ:Ae) (M:Mh) (T:μ D->(Mh->ν)->Mh->ν) (st:hV!) (e:fi ρ M T) (k:∀ds ck M1 af G1 H1,T ds ck M1->Du! M1 G1 H1->BH_ MR M1 G1 H1->JM! ck->R af H1):BH_ JX own fi Z H R
structure MI(X:Cx)(own:g_)(tg iter:Expr)(fi:WI):Prop where
 ok:G5! iter (Em_ JX fi)
section
variable{X:Cx}{own bd ik:List Nat}{st:Stmt}{rest body:List Stmt}{e a b c tg o:Expr}{es:List Expr}{pos p2:Pos}{f fa fb fc fo:WE}{fs:WA}{fi:WI}{ft fu:WT}{q1 q2 q3:WS}{di:Ae->Option (List D)}
def d0i(h:G5! e wi)(hw:∀Z G H R ρ M T,I8_ G->fi ρ M T->(∀ds ck M1 af G1 H1,T ds ck M1->XM M G H M1 G1 H1->MR X.prog X.w X.K M1 G1 H1->II X.prog X.w X.K af ds ck G1->R af H1)->wi Z H R):EQ! MI e fi:=
 #[by rintro hb s Z H R I ⟨G,ρ,M,T,st,e,k⟩;exact Dt_ h R I (hw Z G H R ρ M T st e k)]
def Gu(di:a1!):WI:=λρ M T=>Dm (di ρ) λds=>T ds P! M
def AB.m{KF:zA!}(h:xQ!):JM! P!:=λi M' G' H' s1 s2 _ _=>h i G' H' s1 s2
def kI(h:EQ! DI e di):EQ! MI e (Gu di):=d0i h.ok λZ G H R ρ M T st e k=>by
 let#[ds,e1,e2]:=dF e;exact#[G,ρ,ds,st.or,e1,λaf G1 H1 x gi=>k ds _ M af G1 H1 e2 (.ext x) p6_ gi.m]
def Cb(f:WE):WI:=λρ M T=>f ρ M λd M1=>match d with
 |.lst xs=>T xs P! M1
 |.fn p=>(match M1 p with|some (.lst xs)=>T xs (λM=>M p=ψ N_) M1|_=>False)
 |_=>False
def fB(h:aj_):Ki! MI Cb:=d0i (b1x h.ok) λZ G H R ρ M T st e k=>⟨G,ρ,M,_,st,e,λd M1 v G1 H1 r1 x1 m1 q1=>by
 cases d<;>first|exact r1.elim|skip
 .let#[p,vs,rfl,q,rr]:=bU q1;exact#[p,χ,#[vs,x1.sub.seq q],k _ _ M1 _ G1 H1 r1 x1 m1 (a6c q rr).m]
 .rename_i p;obtain rfl:=gG q1;dsimp only at r1;split at r1
  .rename_i xs hM;let#[_,vs,Y,h2]:=m1.cell p _ hM;exact#[p,χ,#[vs,Ek.of Y],k _ _ M1 _ G1 H1 r1 x1 m1 λi M' G' H' s1 s2 m' ck=>?_];let#[_,g6,h3,h4]:=m'.cell p _ ck;let q':Ek X.K H' p g6:=Ek.of h3;exact#[dp!,λhi=>GU_ g6 h4];let#[v,g1,g2]:=fP h4 hd;exact#[#[g6,v,q',g1],ft!];let#[e1,e2]:=hy;subst e1;let:=e2 g6 q';rw[g1]at this;rcases this;exact#[G',j9_,g2]
  .exact r1.elim⟩
def Fw(bnd:bA_)(ck:cq_)(q:WS):μ D->WS
 |[]=>λρ M R=>ck M/\R ad! M
 |d::ds=>λρ M R=>ck M/\Dm kb! λal=>q al M λr M1=>match r with|.nx bn=>Fw bnd ck q ds bn M1 R|.rt d=>R af_ M1
def Cn(fi:WI)(bnd:bA_)(q:WS):WS:=λρ M R=>fi ρ M λds ck M1=>Fw bnd ck q ds ρ M1 R
def JR(KF:zA!)(own:g_)(g:TG)(bnd:bA_):Prop:=∀{P:yM!} {w:yK!} {x:V} {d:D} {Z:St} {M0 M:Mh} {G0 F0 G H:Hp} {ρ al:Ae} {Q:iH_},JE! M->E6_ d x->bnd d ρ=ψ al->(∀bx,Ik P w KF own M0 G0 F0 M G H bx al->Q bx H)->g x Z H Q
def dI{KF:zA!}(i:δ)(hi:a0_:=by decide):EG! JR eO_ (Bw i):=by intro P w x d Z M0 M G0 F0 G H ρ al Q sr r e k;rcases e;exact k _ (sr.set hi r)
def Qn(i j:δ):D->Ae->ι Ae:=λd ρ=>match d with|.tup [x,y]=>ψ ((ρ.set i lu_).set j (ψ y))|_=>υ
def a6l{KF:zA!}(i j:δ)(hi:a0_:=by decide)(hj:j∉own:=by decide):EG! JR xO! (Qn i j):=by
 intro P w x d Z M0 M G0 F0 G H ρ al Q sr r e k;delta Qn at e;show"!9"
 .rcases e;show"!`";show"!:";exact#[p,[v1,v2],χ,bV sr.st.or.sub q,χ,v1,[v2],χ,v2,[],χ,χ,k _ ((sr.set hi r1).set hj r2)]
 .rcases e
def Ik.base{KF:zA!}{M0 M1:Mh}(s:qy!):BH_ Ik own M1 G1 h9! M1 G1 H1 Z ρ:=
 #[s.st,#[Ba.refl _,s.st.or.sub,dq_,λb o e _=>s.sr.ext.h b o e,dq_,λb h=>h],λi hi p e=>GS_ s.sr.fr]
def Ik.unx{KF:zA!}{M0 M1 M':Mh}(s:qy!)(y:Gs_ h9!):E0! M':=by
 exact#[s.x.g.trans y.g,y.sub,bh!,Bd!,bh!,λb h=>y.cells b (s.x.cells b h)]
 .obtain z|z:=y.new b h
  .exact s.x.new b z
  .exact qq_
 .exact y.keep b o ?_ ?_
  .delta Fn;rw[Be!];exact s.x.keep b o e J
  .cases q:M1 b with
   |none=>rfl
   |some c=>
    rcases s.x.dom b cF_ with z|z
    .exact ξ J z
    .rw[e]at z;rcases z
 .obtain z|z:=y.dom b h
  .exact s.x.dom b z
  .exact qq_
def Ik.unbase{KF:zA!}{M0 M1 M':Mh}(s:qy!)(s':BH_ Ik bd M1 G1 h9! M' G' H' ae ρ'):Je! bd M':=
 #[s'.st,s.unx s'.x,λi hi p e=>s.noF (GS_ s'.fr)]
def eP(hp:gl!)(hc:ax_)(ay:qy_)(hg:my!)(oo:EP! JR g bnd)(J:Bp_)
  (hs:c6_:=by intro _;rfl):Ex! MS sT_ (Cn fi bnd q1):=⟨by
 rintro M0 G0 F0 hb s Z H E I ⟨G,ρ,M,R,sr,e,k1,k2⟩;let g7:G4_ X (λE Z H=>∃A B C,EY X.prog X.w X.K A B C own own q1 E Z H):=by rintro hb s Z H E I ⟨A,B,C,h⟩;exact J.ok A B C hb s Z H E I h
 exact F3_ hg #[G,ρ,M,_,sr.st,e,λds ck M1 af G1 H1 r1 x1 m1 gi=>?_];let yg:=sr.grow x1 m1;exact⟨λn m ae H'=>n<=h!/\m=h! - n/\∃G' ρ' M',rJ! Ik own M1 G1 h9! M' G' H' ae ρ'/\Fw bnd ck q1 oo_ ρ' M' R,
  #[h!,OG _,χ,G1,ρ,M1,yg.base,r1],?_⟩
 rintro n m ae H' ⟨hn,rfl,G',ρ',M',d9,e3⟩;let dw:ck M':=by
  cases hd:HY! n with
  |nil=>rw[hd]at e3;exact e3.1
  |cons _ _=>rw[hd]at e3;exact e3.1
 let#[oj,om]:=gi n M' G' H' d9.x.g d9.st.or.sub d9.st.mr dw;by_cases au:n<h!
 .right;let hd:ds[n]?=ψ ds[n]:=by simp[au]
  rw[QQ au]at e3;let#[_,e3]:=e3;let#[al,e4,e3]:=dF e3;let#[go,yl]:=oj _ hd;exact#[go,λdz H2=>∃G2 bn M2,Ik X.prog X.w X.K own M1 G1 h9! M2 G2 H2 dz bn/\Fw bnd ck q1 (HY! bC!) bn M2 R,by rintro dz H2 ⟨G2,bn,M2,Y,h3⟩;exact#[h! - bC!,p_,au,χ,G2,bn,M2,Y,h3],kc_];let#[G2,x2,r2]:=yl v H2 hy;let yf:=d9.grow lj! (d9.st.mr.ext x2);exact oo yf r2 e4 λii vy=>#[M1,G1,Fn own Z H1,G2,al,M',_,vy,e3,λua M4 G4 σ4 H4 r4 sr4=>#[G4,ua,M4,sr4,r4],λd M4 v G4 H4 r4 x4 m4 q4=>k2 d M4 v G4 H4 r4 (yg.unx x4) m4 q4]
 .left;let jk:n=h!:=by omega
  exact o8!;rw[jk,VQ]at e3;exact k1 ρ' M' G' ae H' e3.2 (yg.unbase d9)⟩
def Ql(bnd:bA_)(ck:cq_)(ft:WT)(fe:WE)(ρ:Ae):μ D->Mh->At!->ν
 |[],M,R=>ck M/\R [] M
 |d::ds,M,R=>ck M/\Dm kb! λal=>ft al M λb M1=>if b then fe al M1 λy M2=>Ee! ρ ds M2 λys M3=>R (y::ys) M3 else Ee! ρ ds M1 R
def Bd(nl:δ)(ix:g_)(fi:WI)(bnd:bA_)(ft:WT)(fe:WE):WE:=λρ M R=>fi ρ M λds ck M1=>h!<=big/\Ee! ot_ ds M1 λys M2=>R bu_ M2
def b3o{KF:zA!}{M1:Mh}{Fin:c2!}
  (J:h!<=big)(gi:JM! ck)(hg:GD KF g bnd)(er:BH_ Tb [] G1 H1 xq og M1)(e:Ee! og ds M1 R)(k:∀j8 ys M' G' H',R j8 M'->Gs_ H1->I5! M'->G9! j8->j8.length<=h!->Fin ys H'):
  Xd af g (BH_ BW [] ft) (BH_ FH [] fe) Fin xq H1:=by
 exact⟨λi m ys ae H'=>i<=h!/\m=h! - i/\∃G' M' ws,Gs_ H1/\BH_ Tb [] G' H' ae og M'/\G9! ws/\ca_<=i/\Ee! og (HY! i) M' λr M2=>R (ws++r) M2,
  #[h!,OG _,χ,G1,M1,[],.refl er.or.sub,er,Al.nil,OG _,e],?_⟩
 rintro i m ys ae H' ⟨hi,rfl,G',M',ws,x,db,a9,hw,e2⟩;exact xR_;let dw:ck M':=by
  cases hd:HY! i with
  |nil=>rw[hd]at e2;exact e2.1
  |cons _ _=>rw[hd]at e2;exact e2.1
 let#[oj,om]:=gi i M' G' H' x.g db.or.sub db.mr dw;by_cases au:i<h!
 .right;let hd:ds[i]?=ψ ds[i]:=by simp[au]
  rw[QQ au]at e2;let#[_,e2]:=e2;let#[al,e1,e2]:=dF e2;let#[go,yl]:=oj _ hd;exact#[go,kc_];let#[G2,x2,r2]:=yl v H2 hy;let dr:=db.grow lj! (db.mr.ext x2);let xx2:=x.trans lj! db.mr;exact hg dr.or r2 e1 λbx nz tf=>#[G2,al,M',_,Bw_,e2,λb M3 G3 H3 r3 x3 m3=>?_];let k9:=(show Tb P w KF [] G2 H2 bx al M' from Bw_).grow x3 m3;let mi:=xx2.trans x3 dr.mr;cases b with
  |true=>
   exact kL #[G3,al,M3,_,k9,r3,λy M4 u G4 H4 r4 x4 m4 q4=>#[h! - x!,p_,au,χ,G4,M4,ws++[y],mi.trans x4 m3,#[(k9.grow x4 m4).or.le tf,m4,at!],?_,?_,?_]]
   .exact dH xS! (DD! q4)
   .rw[NR,QR];omega
   .let e5:(λr M2=>R (ws++[y]++r) M2)=λr M2=>R (ws++y::r) M2:=by
     funext r M2;rw[PN];rfl
    rw[e5];exact r4
  |false=>
   exact lK #[h! - x!,p_,au,χ,G3,M3,ws,mi,#[k9.or.le tf,m3,at!],(oU_).mono x3.g,p_,r3]
 .left;let jk:i=h!:=by omega
  exact o8!;rw[jk,VQ]at e2;let this:R (ws++[]) M':=e2.2;rw[OA]at this;exact k ws ys M' G' H' this x db.mr a9 a!
def gQ
  (c9:dm!)(df:dm_)(k8:∀y∈cd_,y.2=.local->scope.names.lookup y.1=DM! ψ)
  (iy:ha!)(cap:dl_)(hix:jX_)(calm:ax_)(ay:qy_)
  (hg:ha_)(oo:oV!)(hi:By_)(he:Bz!)
  (hs:c6_:=by intro _;rfl):
  ME X own g8! Bz_:=
 fD xT_ λZ G H Q ρ M R st e k=>⟨G,ρ,M,_,st,e,λds ck M1 af G1 H1 r1 x1 m1 gi=>by
  let#[J,r1]:=r1;let qk:=st.grow x1 m1;exact b3o J gi oo BA! r1 λj8 ys M' G' H' r x m q _ p hp=>?_;exact k _ M' _ _ _ r ((JL_ x).trans (.ext ho!) m) (m.ext ho!) (cW oW! q)⟩
def vM:Os X [] (BW X.prog X.w X.K [] λρ M R=>R τ M):=by rintro hb s Z H Q I ⟨G,ρ,M,R,st,e,k⟩;exact Ko_ a4s (k τ M G H e k6_ st.mr)
def lX(h:MT X [] c ft):Os X [c] By!:=a4r h.ok
abbrev WF:=μ D->Mh->p4_->ν
def DK(P:yM!)(w:yK!)(KF:zA!)(n:δ)(g:WF):Sp:=λvs H Q _=>ba!=n/\∃G ds M R,Ba G H/\Jb_ M/\C1_ G/\g ds M R/\∀d M' v G' H',R d M'->Jc! M'->I5! M'->DM_ G'->Q v H'
def Jc(P:yM!)(w:yK!)(KF:zA!)(mg:Q!)(base:Heap)(k:δ)(x:Str)(ps:D!)(g:WF):Prop:=
 ∃ag fd,I4! qz_/\DC_ KF/\mg x=ψ bi_/\J4! KF=τ
nonrec def gl(g:bz_):WF:=λds M R=>Dm (g ds) λd=>R d M
def Ak(n:δ)(g:WF)(fs:WA):WE:=λρ M R=>fs ρ M λds M1=>h!=n/\g ds M1 R
def aQ(F:JX! Jc)(hr:bc_)(hg:J!)(ha:fX!)
  (a8:y!:=by decide)(he:ai!:=by rfl)(az:aF!:=by rfl):
  ME X own aU_ (Ak ps.length g fs):=by
 show"#,";exact fD (Fn_ uV) λZ G H Q ρ M R st e' k=>#[G,ρ,M,_,st,e',BB!];rw[OA];exact#[BB_,G1,ds,M1,R,x1.sub,m1,q1,r1.2,k8_]
def De(P:yM!)(w:yK!)(KF:zA!)(mg:Q!)(base:Heap)(k:δ)(C:sw!)(m:Str)(ps:D!)(g:WF):Prop:=
 Uw KF C/\∃ag fd,Yf KF C m ag/\I4! qz_/\DC_ KF
def Dd(C:sw!)(m:Str)(M:Mh)(d:D):Prop:=match d with
 |.fn p=>(match M p with|some (.obj C' fs)=>C'=C/\fs.lookup m=υ|_=>False)
 |_=>False
protected def a6e{KF:zA!}(mr:cm_)(r:cJ!)(h:lv_):∃p dx vs,d=.fn p/\v=.ref p/\H p=ψ Ao_/\vs.lookup m=none:=by
 delta Dd at h;split at h
 .show"#H";split at h
  .rename_i C' fs hM;let#[rfl,hl]:=h;let#[_,dx,vs,Y,h2]:=mr.cell p _ hM;exact#[p,dx,vs,χ,χ,Y,c2p h2 hl]
  .exact h.elim
 .exact h.elim
def Az(C:sw!)(m:Str)(n:δ)(g:WF)(fo:WE)(fs:WA):WE:=λρ M R=>fo ρ M λd M1=>Dd C m M1 d/\fs ρ M1 λds M2=>h!+1=n/\g eb! M2 R
def cE(F:BC!)(hr:bc_)(ho:cU!)(ha:fX!)
  (hst:ai!:=by rfl)(az:aF!:=by rfl)
  (ht:eval i5_ X.env=(do
   let ov <-eval o X.env
   standAt gy!
   let(f,first) <-holding [ov] gy_
   callWith pos f first tT! eY!):=by rfl):C9_ i5_ (IC! fs):=by
 let#[cl,ag,fd,Y,h2,h3]:=F;exact fD (c6h ho.ok cl Y h2 hr h3 .nil uV ha.ok hst az ht) λZ G H Q ρ M R st e' k=>BD!;show"!n";exact#[p,dx,vs,χ,hH,hl,G1,ρ,M1,_,k8!,r1,λds M2 us G2 H2 r2 x2 m2 q2=>?_];rw[OA];exact#[by rw[NH,<-aK q2];exact r2.1,G2,.fn p::ds,M2,R,x2.sub,m2,Al.cons Ap.fn q2,r2.2,λd M3 v G3 H3 r3 x3 m3 q3=>k d M3 v G3 H3 r3 qj! m3 q3]
def a5q(F:BC!)(hr:bc_)(ho:cU!)
  (ht:eval i6! X.env=(do
   let ov <-eval o X.env
   standAt gy!
   let(f,first) <-holding [ov] gy_
   callWith pos f first nh_ eY!):=by rfl):C9_ i6! (IC! Ad):=by
 let#[cl,ag,fd,Y,h2,h3]:=F;exact fD (b9m ho.ok cl Y h2 hr h3 .nil uV ht) λZ G H Q ρ M R st e' k=>BD!;show"!n";exact#[p,dx,vs,χ,hH,hl,?_];let r2:=r1;exact#[r2.1,G1,[.fn p],M1,R,x1.sub,m1,Al.cons Ap.fn Al.nil,r2.2,λd M3 v G3 H3 r3 x3 m3 q3=>k d M3 v G3 H3 r3 (JL_ x3) m3 q3]
def Ye(P:yM!)(w:yK!)(KF:zA!)(mg:Q!)(base:Heap)(k:δ)(x:Str)(C:sw!)(ps:D!)(g:WF):Prop:=
 mg x=ψ aa_/\∃ag fd,Mk KF C ag/\I4! qz_/\DC_ KF
def Gh(C:sw!)(n:δ)(g:WF)(fs:WA):WE:=λρ M R=>fs ρ M λds M1=>h!+1=n/\∀p,M1 p=υ->g (.fn p::ds) (mup M1 p (.obj C [])) λd M2=>d=.non/\R A_ M2
def c1b{KF:zA!}{M1:Mh}(sub:Ba G1 H1)(m1:Aq!)(hx:H1 x=υ)(kh:H1 dx=υ)(ne:dx≠x):
  XM M1 G1 H1 BD_ G1 nf_/\BH_ MR BD_ G1 nf_:=by
 let old:∀b o,H1 b=ψ o->upd rY! x nf! b=ψ o:=λb o e=>by rw[bD (cN e hx),bD (cN e kh)];exact e
 exact#[#[Ba.refl G1,λb o e=>old b o (sub b o e),dq_,λb o e _=>old b o e,bh!,bh!],#[λb q e=>?_]]
 .by_cases J:b=x
  .subst J;exact .inr hx
  .rw[cT!]at h;exact .inl h
 .by_cases J:b=x
  .subst J;rw[mup_same];simp
  .rw[cT!];exact h
 .by_cases J:b=x
  .show"#*";exact#[sub.free hx,dx,[],cC,.nil]
  .rw[cT!]at e;let#[Y,h2]:=m1.cell b q e;exact#[Y,h2.mono (Ba.refl G1) ?_];cases hq:H1 b with
   |none=>exact C6_ hq h2.has
   |some o=>exact old b o hq
def c7f(F:BE!)(hr:gB_)(hg:J!)(ha:fX!)
  (a8:y!:=by decide)(he:ai!:=by rfl)(az:aF!:=by rfl):C9_ aU_ (Gh C ps.length g fs):=by
 let#[hm,ag,fd,Y,h2,h3]:=F;exact fD (c6i Y h2 hr hg hm h3 .nil uV ha.ok a8 he az) λZ G H Q ρ M R st e' k=>#[G,ρ,M,_,st,e',λds M1 vs G1 H1 r1 x1 m1 q1=>λy dx hy kh ne=>?_];let#[z1,z2]:=c1b x1.sub m1 hy kh ne;rw[OA];exact⟨by rw[NH,<-aK q1];exact r1.1,G1,.fn y::ds,_,_,z1.sub,z2,FM_ Ap.fn q1,r1.2 y (IA! hy),λd M2 v G2 H2 r2 x2 m2 q2=>by
  let#[rfl,r2]:=r2;exact FX! ((JL_ z1).trans x2 z2)⟩
def mQ(F:BE!)(hr:gB_)(hg:J!)
  (a8:y!:=by decide):C9_ tW_ (Gh C ps.length g Ad):=by
 let#[hm,ag,fd,Y,h2,h3]:=F;exact fD (b9n Y h2 hr hg hm h3 .nil uV a8) λZ G H Q ρ M R st e' k=>λy dx hy kh ne=>?_;let#[z1,z2]:=c1b st.or.sub st.mr hy kh ne;let r1:=e';exact⟨r1.1,G,[.fn y],_,_,z1.sub,z2,DD! Ap.fn,r1.2 y (IB! hy),λd M2 v G2 H2 r2 x2 m2 q2=>by
  let#[rfl,r2]:=r2;exact FX! (z1.trans x2 z2)⟩
def Bk(N:D!)(n:δ)(q:WS):WF:=λds M R=>h!=n/\q cN! M λr M'=>match r with|.rt d=>R d M'|.nx _=>Ed_ M'
end
def tQ{KF:zA!}{st:Stmt}
  (F:ye_)(S:dk_)
  (J:∀(aj:v5!) (A:uB!) (outer:aq_) (s:yU!) (H:Hp) (E:XK),Ah k o9_->GT! Vd pa!):
  Ez P w KF mg base Ot R! ag fd ps (BH_ DK ps.length lw_):=by
 exact yf_;let#[hl,G,ds,M,R,sub,m,r,e,kk]:=h;exact#[_,(yg!).ok M G H,?_];let er:=uD (N:=N) sub r;exact BE_
section
variable{P:yM!}{w:yK!}{A:uB!}{E:Value->Shared->Prop}{s:yU!}{d it:sw!}{es:List DictEntry}{ep i:Nat}
def Mz.at(D:HJ_ d)(e:∀o,h.get? d=ψ o->Df! d=ψ o):Mz h' d es ep:=by let#[o,ho,r]:=D;exact#[o,e o ho,r]
def c2d(hd:BF!)(D:qB_)
  (h:Q br_ {s with heap:=s.heap.push {cls:=.type "dict_keyiterator",data:=.fields [.ref d,.int 0 0,.int es.length 0,.int ep 0].toArray}}):KL_ (.ref d):=by
 let hT:=D.typeIs;let#[o,ho,hc,ZV]:=id D;exact wpAny_pyIter_slot hT PySem.F.slot_dict_iter (OQ PySem.F.slot_dict_iter hT PySem.F.entry_dict_iter ?_ (PySem.F.args_dict_iter_1 _));delta Builtin.«dict.__iter__» Builtin.Dict.dictSlotNone;exact MC qd!;show Dx! E! (Builtin.Dict.showsAll d>>=_);delta Builtin.Dict.showsAll;rw[Jr_ hd];exact G6! (MC (RM ho ZV (MC (RO ho ZV (MC (PZ (MH #[_,χ,"dict_keyiterator",_,kz!,QB.lookup,?_])))))));simpa[rawInt]using h
def a5j(ay:BF_)(D:qB_)(hx:es[i]?=ψ e)
  (h:∀h',h'.IsKeyIter it d x! es.length ep->Dh! it->HV! e.key {s with heap:=h'}):oY! E! iJ_:=by
 show"!a";let#[au,jo]:=NE.mp hx;show"#3"
 first|exact GV! SN lx!|exact GV! UJ lx!
 show"!C";exact MC BJ!;rw[bO_];exact MH ?_;simp![BJ_,PC,SX,RS,hx];exact MC ?_
 first|exact GV! SN BK_|exact GV! UJ BK_
 show Dx! E! (setField b6_ 1 (rawInt ev!)>>=_);let jp:(s.heap.update it (Obj.mapFields (·.setIfInBounds 1 (rawInt ev!)))).IsKeyIter it d x! es.length ep:=
  #[_,QE _ ho (SA (QZ hd _)),DT! yM_ hc,by rw[QZ hd];simp[rawInt]]
 exact MC (UA ho hd b! (J3! (EO_ WQ jp.typeIs)));exact H3! (Kp! _ (h _ jp ek_))
def b3g(hh:bM!)(ay:BF_)(D:qB_)(hx:an_<=i)
  (h:BM!):oY! E! iJ_:=by
 show"!a";show"#3"
 first|exact GV! SN lx!|exact GV! UJ lx!
 show"!C";exact MC BJ!;rw[bO_];exact MH ?_;simp![BJ_,PC,SX,RS,PH hx];exact MC ?_
 first|exact GV! SN ab_|exact GV! UJ ab_
 show Dx! E! (setField b6_ 0 .none>>=_);exact MC (UA ho hd b! ?_);exact MC ?_;dsimp only[newExc,newTuple];exact MC (PZ (MC (wpAny_of_eq yN_ (PZ ?_ hC_))) hC_);dsimp only[raiseNew];exact MC yO!;rw[yO_];exact MC yP_;exact Fz_ (show Shared.TypeIs _ _ _ from kz!);exact MH (h _ yQ!)
def b3x(hh:bM!)(I d:sw!)(hne:d≠I)(es:cS_)(ep:δ):Walks P w A I [I,d] [I] es.length qD! (λi h=>h.IsKeyIter I d i es.length ep/\Mz h d es ep) where
 sub:=λb J=>by simp at J;simp[J]
 frame:=λ_ _ _ st hk=>#[st.1.at λo e=>hk I b! o e,st.2.at λo e=>hk d b! o e]
 item:=λi s Q E hi st hQ=>by
  exact a5j st.1 st.2 (NK hi) λh' jp c8=>?_;exact hQ _ h' s.toks #[_,NK hi,χ] #[jp,st.2.at λo e=>(c8.2 d hne).trans e] λb o J e=>(c8.2 b gn!).trans e
 done:=λs Q E st hQ=>b3g hh st.1 st.2 u! λh' jn=>hQ h' s.toks λb o J e=>jn b o gn! e
 self:=λ_ _ _ _ st hQ=>wpAny_pyIter_keyiter st.1 hQ
def d4l(D:HJ_ d)(D':Mz h d bf bv):es=bf/\ep=bv:=by
 let#[o,Y,_,h2]:=D;let#[o',h3,_,h4]:=D';rw[Y]at h3;rcases h3;rw[h2]at h4;injection h4 with h5 h6
 exact#[by simpa using congrArg Array.toList h5,h6]
def LC(d:sw!)(ep n:δ):It:=#[λi H=>∃es e x,H d=ψ ev_/\an_=n/\es[i]?=ψ e/\Bj x e.key,λi H x H'=>H'=H/\∀es,H d=ψ ev_->∃e,es[i]?=ψ e/\Bj x e.key,λi H=>∃es,H d=ψ ev_/\an_=n/\n<=i]
def a3d(hok:a8!)(e:H d=ψ ev_):HJ_ d:=by let#[#[h3,_],_]:=(show Eb P w H h d ev_ from hok d _ e);exact h3
def b7u{KF:zA!}(d it:sw!):BH_ Qp tg (LC d ep n) [it] it (λi h=>h.IsKeyIter it d i n ep) where
 mem:=by simp
 obj:=λi h st b J=>by
  let e:b=it:=by simpa using J
  subst e;show"!Y"
 keep:=λi h h' st k=>st.at λo e=>k it b! o e
 item:=by
  intro X hP hw hK hc i hb s Z H E I hf st hg;subst hP hw hK;let#[es,e,x,hH,hl,hx,rx]:=hg;let D:=a3d I.hok hH;let#[f0,f1,f2,f3,f4,f5]:=hf it b!;subst hl;exact a5j st D hx λh' ac sb=>?_;let I1:oX! H {s with heap:=h'}:=I.turned mB! f0 f1 f3 f4 f5;let#[o,eo,c,dd]:=id ac;exact⟨_,χ,b3c eo c dd a_ ⟨x,H,I1,rx,⟨χ,λbf hy=>by
   let#[rfl,_]:=d4l D (a3d I.hok hy);exact#[e,hx,rx]⟩,ac,λb J=>(eQ!).1⟩⟩
 done:=by
  show"!2";let#[es,hH,hl,hx]:=hg;show"!4";subst hl;exact b3g aR_ st (a3d I.hok hH) hx λh' eb=>GF! sF!
 self:=λ_ _ _ _ _ st h=>wpAny_pyIter_keyiter st h
end
section
variable{X:Cx}{own:List Nat}{a tg:Expr}{fa:WE}
def Jx(f:WE):WI:=λρ M T=>f ρ M λd M1=>Dm h2! λq=>T qD_ (λM=>M q.1=ψ qh_) M1
def a9i(h:aj_):Ki! MI Jx:=⟨by
 rintro hb s Z H R I ⟨G,ρ,M,T,st,e,k⟩;exact h.run I st e λd M1 v G1 H1 u s1 r1 x1 m1 q1 I1 rx=>?_;let#[#[p,h1,ep],e1,r2]:=dF r1;let#[rfl,rfl,hM]:=dJ q1 e1;subst rx;let#[es,Y,h2,h3,h4,h5,h6]:=EI_ eV;let ar:aw_=an_:=TR h2.1;exact c2d h4 h3 #[x_,[x_],_,LC p ep an_,H1,χ,yD!,b7u p _,dN_,bK!,k _ _ M1 _ G1 H1 r2 x1 m1 λi M' G' H' s2 s3 m' ck=>?_]
 .let e:b=x_:=by simpa using J
  show"!S"
 .let#[_,bf,g1,g2]:=m'.cell p _ ck;let hlen':aw_=bf.length:=TR g2.1;exact#[dp!,λhi=>#[bf,g1,p_,by rw[hi,MV];show an_<=aw_;omega]];rw[OE]at hd;let#[q,hq,rfl]:=MQ.mp hd;let#[e',jn,#[v,r1,rv],_,_]:=iX g2.1 hq;exact#[#[bf,e',v,g1,p_,jn,rv],ft!];let#[z1,z2]:=hy;subst z1;let#[e2,jj,rx]:=z2 bf g1;rw[jn]at jj;rcases jj;rw[rx.inj rv];exact#[G',Bo.refl s3,r1]⟩
end
section
variable{X:Cx}{hb:List (Addr×Obj)}{Z:St}{H:Hp}{s:yU!}
def iO{wr:aQ_}(I:e!)(hf:∀b∈wr,D5_ H b)(kp:∀c o,c∉wr->yK_ c=ψ o->h2.get? c=ψ o):oX! H {s with heap:=h2,toks:=t'}:=by
 exact zc!
 .let#[f0,f1,f2,f3,f4,f5]:=hf c hc;exact#[f3,f1,f4,f5]
 .show"#>";exact zd!
 .exact HJ! c λ_ _ e'=>e';let hn:=(hf d hm).1;obtain rfl|hd:=hd
  .rw[hn]at e;rcases e
  .rw[hn]at hd;rcases hd
def b7v(I:oX! H s0)(I1:e!)(hT:BO_<=T)(eT:Eu! T hv_)(rv:dJ!)(hz:i!<=sizeLine):oX! (upd H T aK!) s:=by
 let t6:=EE! hT;let ne:∀c o,H c=ψ o->c≠T:=λc o e=>cN e t6;exact Inv.step (ch:=[T]) I1 pw! zg! zg_ zh! zh_
  (zj_) zj! zk! n7_ pw_ I1.bare
 .let e:c=T:=by simpa using hc
  subst e;let#[_,g1,_,g3,g4,g5]:=I.fpOk hT t6;exact#[g3,g1,g4,g5]
 .rw[n8_];exact n
 .by_cases J:c=T
  .show"!x";exact#[hz,us,rv,eT]
  .rw[bD J]at e;exact(zl!).stay n9! zl_ λd xs q=>by rw[pz_];exact q
end
def LB(x:Str):It:=#[yy!,λi H v H'=>∃T c,v=.ref T/\H T=υ/\x.cps[i]?=ψ c/\H'=upd H T (.tup [dN!,d3!]),yy_]
def a8b{KF:zA!}(jq:f1!)(hd:yA_)
  (D:∀A':Around,po_=υ->Draws P w A' it [it] x.cps.size BP! gn):
  Qp P w KF dv_ (LB x) cV_ e (λi h=>i<=ku_/\BP_/\gn i h) where
 mem:=by simp
 obj:=λi h st b J=>by
  simp![MM,MN,RI]at J;let#[_,#[old,s1],s2]:=st;obtain rfl|rfl:=J
  .exact BQ!
  .exact hd i h s2
 keep:=λi h h' st k=>by
  let W:=GV_ (D callerA.in1 χ) qE!;exact#[st.1,W.frame i h h' st.2 λb J o q=>k b gn! o q]
 item:=by
  intro X hP hw hK hc i hb s Z H E I hf st hg;subst hP hw hK;let hh:=I.ok.hd hc;let W:=GV_ BQ_ qE!;exact Io! i hg st.2 λT vk h' tk hP hT yh hm kp=>ER_ i;let#[t,y,#[c,u,ig,rfl],rfl]:=hP;let hfw:=hf;let I1:oX! H {s with heap:=h2,toks:=tk}:=iO I hfw λc o hc eo=>na c o hc BR!;let ud:=W.apart i T _ hm;let eT:h2.IsTuple T [.int i t,.str H_ u].toArray:=by
   let#[o,eo,r]:=yh;exact BR_
  let I2:=b7v (xs:=[dN!,d3!]) I I1 hT eT (.cons cc_ (EZ! #[u,χ])) BS!;exact#[.ref T,_,I2,χ,#[T,c,χ,BT!,ig,χ],#[hg,bu],bK!];rw[BU!];exact(eQ!).1
 done:=by
  show"!2";let hh:=I.ok.hd hc;let W:=GV_ BQ_ qE!;let hi:=IW! hg;subst hi;exact W.done s _ _ st.2 λh' tk kp=>BU_
 self:=λA i s Q E st h=>by
  let#[_,#[old,s1],_]:=st;exact UT s1 h
section
variable{X:Cx}{own:List Nat}{a:Expr}{jc:List Expr}{n1:Nat}{tp p pos:Pos}{fa:Ae->Option D}
def Wb(f:m_):Ae->ι aN_:=λρ=>(ai_).bind λd=>match d with|.str x=>ψ (x.cps.toList.zipIdx.map λq=>.tup BV!)|_=>υ
def c3n(hg:qG!)(hm:qG_)(h:K_)(hs:qH!:=by rfl)(az:BV_:=by rfl):
  DI X own dv_ (Ha_ BW! pos) (Wb fa):=⟨by
 rintro hb s Z H R I ⟨G,ρ,ds,er,e,k⟩;let#[d,e1,e2]:=MD.mp e;cases d<;>first|(rcases e2;done)|skip
 rename_i x;rcases e2;exact Call_ (JT_ (PQ (dP (cU h.ok eO hs pos hb s Z H (λvs H1=>∃v G1,vs=[v]/\Bo G H G1 H1/\Ap X.K G1 bJ_ v) I #[G,ρ,_,er,e1,λv G1 H1 x1 r1=>#[v,G1,χ,x1,r1]]) ?_) hs az));rintro us s1 ⟨vs,H1,I1,r1,v,G1,q1,x1,rr⟩;subst q1;obtain rfl:=bO rr;let#[u,rfl,t,rfl]:=gV r1;exact call_enumerate_str λh' he ay bi hk=>?_;exact UT he ?_;let I2:oX! H1 {s1 with heap:=h',toks:=s1.toks}:=I1.kept hk;let io:∀b∈qH_,x_<=b:=λb J=>by
  simp![MM,MN,RI]at J;obtain rfl|rfl:=J<;>omega
 let fin:∀{gn:gl_},gn 0 h'->(∀i h,gn i h->∃o,h.get? x_=ψ o/\∀v,o.data≠.cell v)->(∀A':Around,po_=υ->Draws X.prog X.w A' s1.heap.objs.size [x_] x.cps.size BP! gn)->
   IB X hb Z dv_ R (.ref (x_+1)) {s1 with heap:=h'}:=λ{gn} h0 hd D=>by
  exact#[_,_,_,LB x,H1,χ,I2,a8b (XO _) hd D,#[OG _,#[_,he],h0],BY!,k _ G1 H1 x1 ?_];intro i G' H' g1 g2;exact#[dp!,λhi=>by rw[MV,VA,RH]at hi;exact TY hi.symm];rw[OE,WB]at hd;let#[q,hq,rfl]:=MQ.mp hd;let#[c,hc,rfl]:=MQ.mp hq;rw[SS]at hc;exact yA!;let#[T,c',rfl,hT,cb,rfl]:=hy;rw[hc]at cb;rcases cb;exact Jb! Ap.str;rw[TW];exact Ap.int
 cases ha:x.cps.all (·<128)
 .let jp:FO! h'.IsStrIter "str_iterator" 0:=by simpa[strIterType,ha]using ay
  exact fin jp BZ_ λA' hh=>Draws.strWide hh _ x t
 .let jp:FO! h'.IsStrIter "str_ascii_iterator" 0:=by simpa[strIterType,ha]using ay
  exact fin jp BZ_ λA' hh=>Draws.strAscii hh _ x t⟩
def Sc(a:Int)(n:δ):μ D:=(oQ!).map λi=>.int (a+(i:δ))
def So(f g:m_):Ae->ι aN_:=λρ=>(ai_).bind λx=>(g ρ).bind λy=>match x,y with|.int i,.int j=>if -1000<=i/\i<=100000/\-1000<=j/\j<=100000 then ψ (Sc i (go!).toNat)else υ|_,_=>υ
end
end DL
namespace HT
open PySem PySem.Spec PyProof.Rows
def b8k(A:uB!)(s:yU!)(a:Int)(t:Tok)(c:Int)(u:Tok)(prog:yM!)(w:yK!)(E:G_)(Q:G_)(h:Q (.bool (decide (c<a))) s):
  wpAny n! A (richCompare .Gt gH_ nq!) Q E s:=
 (PyProof.Rows.gt_int h:Jk! (compareOp .Gt gH_ nq!))
section
open PySem.SeqAt
open PySem.AutoSeq1 (wpAny_loadPart')
open PySem.MeetsSeq PySem.MeetsSeq2 PySem.MeetsSeq3
def wY(l b:sw!)(ak lj:bp_)(n n2:δ)(dd mh:dk!)(sl gu:jI_)(ns ms:r_)(hi:B0_)(hj:B1!):
  Meets (Builtin.«tuple.__gt__» #[[cs!,.ref b],[]])
   (λ_ R s=>yK_ l=ψ {cls:=.type "tuple",dict:=dd,data:=HE_ ak,slots:=sl}/\yK_ b=ψ {cls:=.type "tuple",dict:=mh,data:=.seq lj n2,slots:=gu}/\
    R (EZ_ qI_) s):=
 .of_wp λprog w A R s h=>by
  let#[hp,g,d,tk,os]:=s;let#[hl,J,h]:=h;let f2:=AutoSeq1.sub_tuple_tuple;let z1:ak.size=c9!:=by rw[<-hi.length];rfl
  let z2:lj.size=ms.length:=by rw[<-hj.length];rfl
  wp_walk using SI hl,SI J,WC _ (λrest b s'=>b.1=υ/\s'=ia_/\∃(vs ws:o_) (qt qu:r_),rest=vs.zip ws/\
   IntsAre vs qt/\EV! ws qu/\qt.length+lj.size=qu.length+ak.size/\R (EZ_ (.bool (lexLt qu qt))) ia_) _
  case turn=>
   rintro⟨y,x⟩ rest b s' ⟨g7,rfl,vs,ws,qt,qu,hz,yi,vz,ar,hR⟩;cases yi with
   |nil=>rw[List.zip_nil_left]at hz;cases hz
   |cons a t hvi'=>
    cases vz with
    |nil=>rw[List.zip_nil_right]at hz;cases hz
    |cons c u hwi'=>
     rw[UZ]at hz;injection hz with hyx hrest
     injection hyx with hy hx
     subst hy hx;rw[lexLt_cons]at hR;simp![NH]at ar;let#[e,he,ZW]:=c2y A.in1 ia_ a t c u;exact MC (he prog w _ _ ?_);cases e with
     |true=>
      rw[MO (ZW.mp χ).symm]at hR
      wp_walk
      exact#[χ,χ,_,_,_,_,hrest,hvi',hwi',p_,hR]
     |false=>
      rw[MZ (λq=>ξ (ZW.mpr q.symm) NS)]at hR;let hri:=b8k A.in1 ia_ a t c u prog w
      wp_walk using hri
      exact#[_,χ,by simpa using hR]
  case fin=>
   rintro⟨b1,b2⟩ s' ⟨g7,rfl,vs,ws,qt,qu,hz,yi,vz,ar,hR⟩;simp only at g7;subst g7;let hv:lexLt qu qt=decide (lj.size<ak.size):=by
    cases yi with
    |nil=>
     cases vz with
     |nil=>
      simp![QS]at ar;rw[lexLt_nil_nil];exact(NA a!).symm
     |cons c u hw=>
      simp![QS,NH]at ar;rw[vR];exact(NA a!).symm
    |cons a t hv=>
     cases vz with
     |nil=>
      simp![QS,NH]at ar;rw[vQ];exact(NG a!).symm
     |cons c u hw=>
      rw[UZ]at hz;cases hz
   rw[hv]at hR
   wp_walk
   exact#[_,χ,by simpa[Builtin.Tuple.tupleCompareSizes]using hR]
  case h=>
   exact#[χ,χ,ak.toList,lj.toList,ns,ms,χ,hi,hj,p_,h]
end
section
variable{prog:yM!}{w:yK!}{A:uB!}{E:Value->Shared->Prop}{s:yU!}
def gt_tupInts(hl:Jz_ l ak)(J:Jz_ b lj)(hi:B0_)(hj:B1!)
  (hu:an!)(h:Q qI_ s):Jk! (compareOp .Gt e9! d0!):=by
 let#[#[cls,dd,data,sl],ho,hc,n,hd]:=id hl;let#[#[YR,mh,data2,gu],jz,j0,n2,j4]:=id J;simp only at hc hd j0 j4;subst hc hd j0 j4;exact richCompare_meets_room (op:=.Gt) je_ jf! PySem.F.slot_tuple_gt PySem.F.entry_tuple_gt (PySem.F.args_tuple_gt_2 _ _) (wY l b ak lj n n2 dd mh sl gu ns ms hi hj)
  #[ho,jz,show Value.bool (lexLt ms ns)≠Value.notImplemented/\Q qI_ s from#[(λx=>nomatch x),h]] hu
end
end HT
namespace DL
open PySem PySem.Spec PyProof.Rows L2
section
variable{X:Cx}{own bd:List Nat}{a b e tg o:Expr}{es:List Expr}{p pos:Pos}{fa fb f:Ae->Option D}
def GB(KF:zA!):R2:=λx y H Q=>∃a b ns ms,x=.ref a/\y=.ref b/\Eb_ a cb!/\Eb_ b (ms.map V.int)/\Ew_ qK_
def d2i(hu:X.A.units<cLine):Fd_ s9_ GB:=by intro hb s Z H x y v u Q I rx ry h;let#[a,b,ns,ms,rfl,rfl,ha,J,q]:=h;subst rx;subst ry;let#[its,r1,p1,_]:=Dq_ ha;let#[ij,r2,p2,_]:=Dq_ J;let i1:Kh! its.toArray.toList:=wF r1;let i2:EV! ij.toArray.toList ms:=wF r2;exact HT.gt_tupInts p1 p2 i1 i2 hu (JG_ qK_ q)
def Ll:μ D->Jy_ Int
 |[]=>ψ []
 |.int i::r=>(Ll r).map (i::·)
 |_=>υ
def kD{KF:zA!}:∀{ds:d_} {vs:t_} {ns:r_},C1_ G->Ll ds=ψ ns->vs=ns.map V.int
 |[],vs,ns,r,e=>by obtain rfl:=cQ r;rcases e;rfl
 |d::ds,vs,ns,r,e=>by
  let#[v,t,rfl,r1,r2]:=bS r;cases d<;>simp![Ll]at e<;>first|(rcases e;done)|skip
  let#[l,e1,rfl]:=MQ.mp e;rw[kD r2 e1];obtain rfl:=bC r1;rfl
def FC:D->D->ι D
 |.tup xs,.tup ys=>(Ll xs).bind λns=>(Ll ys).map λms=>.bl qK_
 |_,_=>υ
def d2r{KF:zA!}:Gq! GB FC:=by
 show"!3";delta FC at e;show"!9"
 .let#[ns,e1,e]:=MD.mp e;let#[ms,e2,rfl]:=MQ.mp e;show"!Z";let#[b,ws,rfl,qb,rb]:=bW ry;rw[kD ra e1]at qa;rw[kD rb e2]at qb;exact#[a,b,ns,ms,χ,χ,j6!,oG!,ef!]
 .rcases e
def DP(neg:Bool):R2:=λx y H Q=>∃b c,x=.bl b/\y=.bl c/\Q B7! H
def d2e:Fu X ta! (DP θ):=by
 intro hb s Z H x y v u Q I rx ry h;let#[b,c,rfl,rfl,q]:=h;cases rx;cases ry;exact FP! wpAny_is_plain;let e:B7_=(b==c):=by cases b<;>cases c<;>rfl
 rw[e];exact hx_
def b4x:Fu X tb! (DP τ):=by
 intro hb s Z H x y v u Q I rx ry h;let#[b,c,rfl,rfl,q]:=h;cases rx;cases ry;exact FP! wpAny_isNot_plain;let e:B7_=(b==c):=by cases b<;>cases c<;>rfl
 rw[e];exact hx_
def FA(neg:Bool):D->D->ι D
 |.bl b,.bl c=>ψ B7!
 |_,_=>υ
def c0j{KF:zA!}{neg:Bool}:Ha KF (DP neg) (FA neg):=by
 show"!3";delta FA at e;show"!9"
 .cases e;cases dA rx;cases dA ry;exact kM_
 .cases e
def b6p(hg:iM!)(hm:iM_)(ha:K_)(J:ch_)(hs:sO_:=by rfl)(bp:sP!:=by rfl)
  (d8:zW_:=by rfl)(j9:zX!:=by rfl):EQ! DI sP_ (So fa fb):=
 zM (b4q hg hm (cU ha.ok (cU J.ok eO j9) d8) hs bp) λZ G H R ρ ds er e k=>by
  let#[x,e1,e3]:=MD.mp e;let#[y,e2,e4]:=MD.mp e3;clear e e3;split at e4
  .rename_i i j;split at e4
   .rename_i h;rcases e4;exact zu!;obtain rfl:=bC r1;obtain rfl:=bC r2;exact#[i,j,χ,p_,k _ G2 H2 bS_ ?_];intro n G' H' g1 g2;delta Sc;exact xJ!;rw[OE]at hd;let#[m,hj,rfl]:=MQ.mp hd;let#[hl,he]:=NE.mp hj;rw[WV]at he;subst he;rw[QM]at hl;exact#[hl,ft!];let#[z1,z2]:=hy;subst z1 z2;exact#[G',Bo.refl g2,Ap.int]
   .rcases e4
  .rcases e4
def AT:V->μ V->Hp->VK->Prop:=λx vs H Q=>∃l xs k y,x=.ref l/\vs=[.int (k:δ),y]/\H l=ψ N_/\k<=i!/\i!<sizeLine/\GN! (.lst (xs.take k++y::xs.drop k))
def b5t:JN X "list.insert" AT:=by
 intro hb s Z H x vs v us Q I rx rv h;let#[l,xs,k,y,rfl,rfl,hH,hk,hz,q]:=h;subst rx;let#[u,u2,rfl,#[t,rfl],ru]:=tY rv;let#[z,its,n,r,hl,e]:=I.lstM hH;let xg:¬(!Builtin.List.listFitsIndex (k:Int))=true:=by
  rw[fitsIndex_both (Int.le_trans a_ (Int.natCast_nonneg k)) (Int.lt_of_le_of_lt (Int.ofNat_le.mpr (NW hk (SE hz))) w6!)];exact NS
 let bi:be!<=sizeLine:=by rw[MX];omega
 exact SU (S:=?S) PySem.F.slot_list_insert d7_ PySem.F.entry_list_insert (PySem.F.args_list_insert_3 _ _ _) ?g ?h
 case g=>exact @PySem.AutoSeq1.list_insert_list_int_val_1 l its.toArray n (k:Int) t u2 xg bi
 exact jx!;exact#[.non,_,I.lset (its':=its.take k++u2::its.drop k) hH e ?_ ((r.take k).append (.cons ru (r.drop k))) ?_,χ,q]
 .let Y:¬cW!<0:=by omega
  let h2:min (cW!).toNat be!=k:=by simp;omega
  simp![Y,PC,h2];simp[List.extract_eq_drop_take];rw[VT b!]
 .simp only[NR,NH,RN,XQ];omega
def Yw(i:δ)(fk f:m_):Ae->ι Fl:=λρ=>(fk ρ).bind λx=>(ai_).bind λd=>match x,ρ[i]? with
 |.int j,some (some (.lst ds))=>if 0<=j/\j.toNat<=h!/\h!<big then ψ (.nx (JU! (ds.take j.toNat++d::ds.drop j.toNat)))else υ
 |_,_=>υ
def b6o(b6:ec!:=by decide)(hk:DE X own ek fk)(h:do!)(hN:al!:=by rfl)(hv:cw!:=by first|exact Or.inl rfl|exact Or.inr d!|exact Or.inr aG_)
  (hd:y!:=by decide)(bw:cw_:=by decide)
  (hst:starEach (ek::[e]) X.env=(θ,eval ek X.env)::C7_ [e]:=by rfl)(hst2:hr_:=by rfl)(dn:(JR_ [ek,e]&&D3! bw_
   &&decide ([ek,e].length+(dj_).length+d7!<30))=true:=by rfl) (dq:cc!:=by rfl)
  (dh:C8! bk_ "insert" kh_=Dk_ bk_:=by rfl) (cx:(jA!).any e_=false:=by rfl) (gj:De! B9! υ=pure false:=by rfl):
  DS X own own (G3_ B9!) (Yw i fk f):=⟨by
  rintro G0 F0 hb s Z H E I ⟨G,ρ,r,er,e',k⟩;exact Iv_ (pF UC PySem.F.slot_list_insert PySem.F.type_list_insert b5t jY_ (cU hk.ok (cU h.ok eO hst2) hst) dh dn dq hst cx);let#[z,e1,e4]:=MD.mp e';let#[d,e3,e2]:=MD.mp e4;clear e' e4;let#[p,ds,vs,Y,h2,h3,h4,h5]:=HY_ i;rw[Y]at e2;cases z<;>first|(rcases e2;done)|skip
  rename_i j;simp only at e2;split at e2
  .rename_i hj;rcases e2;exact#[fx_,h2,o4!,G,ρ,_,er.or,e1,λv G' H' x r=>#[G',ρ,d,er.or.grow x,e3,λv2 G2 H2 x2 r2=>?_]];obtain rfl:=bC r;let hl:=aK h5;exact#[p,vs,j.toNat,v2,χ,?_,yb_,p_,by rw[<-hl];exact NN hj.2.2 ki!,?_]
   .rw[Int.toNat_of_nonneg hj.1]
   .let h6:=(o4_).mono x2.g;exact Jq! (dH (qO _ h6) (FM_ r2 (qQ _ h6)))
  .rcases e2⟩
end
section
variable{X:Cx}{own bd:List Nat}{a b e tg o:Expr}{es:List Expr}{p p2 pos:Pos}{fa fb fo f:WE}{fs:WA}
def AG(i:δ)(f:WE):WS:=λρ M R=>f ρ M λd M1=>Hd_ M1 λq=>match ρ[i]? with
 |some (some (.lst ds))=>h!+qi!<=big/\R (.nx (JU! (ds++q.2))) M1
 |_=>False
def b5w(b6:ec!:=by decide)(h:b1!)(hN:al!:=by rfl)(hv:cw!:=by first|exact Or.inl χ|exact GE! d!|exact GE! aG_)
  (hd:y!:=by decide)(bw:cw_:=by decide)
  (hst:hr_:=by rfl)(dn:(EY_ jA!&&D3! bw_
   &&decide x5_)=true:=by rfl) (dq:cc!:=by rfl)
  (dh:C8! bk_ "extend" kh_=Dk_ bk_:=by rfl) (cx:eg!:=by rfl) (gj:De! Ca_ υ=pure false:=by rfl):
  MS X own own (G3_ Ca_) (AG i f):=
 sC (sY (pF UC PySem.F.slot_list_extend PySem.F.type_list_extend b5u jY_ x7_ dh dn dq hst cx) gj) λM0 G0 F0 E Z G H ρ M R sr e' k1 k2=>by
  let#[p,ds,vs,Y,h2,h3,h4,h5]:=sr.st.or.own_ i b6;exact#[fx_,h2,o4!,G,ρ,M,_,sr.st,e',λd M' v G' H' r x m q=>?_];let#[#[c,zs],e1,r]:=dF r;let#[z1,z2,z3,us,h6,h7]:=wQ m q e1;subst z2;rw[Y]at r;let d9:=IB_ x;let#[p',qm,g6,g1,g2,g3,g4,g5]:=d9.st.or.own_ i b6;rw[h2]at g2;cases g2;rw[Y]at g1;cases g1;exact#[p,c,g6,us,χ,χ,g3,h6,?_,k1 _ M' G' Z _ r.2 (d9.after (d9.sr.upd b6 h2 (dH g5 h7)))];let:=r.1;rw[<-aK g5,<-aK h7];exact cS this
def Pd(s0:Str)(fa:WE):WE:=λρ M R=>fa ρ M λy M2=>Dm (Hm (.str s0) y) λd=>R d M2
def b2q(ha:aj_)
  (dh:C8! lD_ "join" (Dk_ lD_)=Dk_ lD_:=by rfl)
  (dn:(EY_ hB!&&D3! bw_
   &&decide hB_)=true:=by rfl)
  (dq:cc!:=by rfl) (hs:fu!:=by rfl) (cx:eg!:=by rfl):
  ME X own (KM_ lD_) (Pd s0 fa):=
 fD (DZ! a0l) λZ G H Q ρ M R st e k=>⟨χ,G,ρ,M,_,st,e,λy M2 w G2 H2 r2 x2 m2 q2=>by
  let#[d,e3,r3]:=dF r2;cases y<;>first|(rcases e3;done)|skip
  rename_i xs;let#[ys,e4,e5]:=MD.mp (show((Li xs).bind λys=>if(hA!).sum+X_*s0.length<=big then ψ (.str (He_ s0))else υ)=ψ d from e3);split at e5
  .rename_i hl;rcases e5;let#[p,vs,rfl,q,rr]:=bU q2;let:=uM rr e4;subst this;exact#[_,p,ys,χ,χ,x2.sub.seq q,NW hl a_,k _ M2 _ G2 H2 r3 x2 m2 Ap.str]
  .rcases e5⟩
def Wl(fs:WA)(fb:WE):WE:=λρ M R=>fs ρ M λds M1=>h!<=1000/\fb ρ M1 λy M2=>match y with
 |.int k=>Cc_/\∀p,M2 p=υ->R A_ (mup M2 p Cd!)
 |_=>False
def a6r{p:sw!}{o:HO}(s:K!)(hp:cI_):Bo G H G fl_:=#[fm!,iV hp,s.trans (iV hp),dq_]
def uO{KF:zA!}(r:ke!):∀k:Nat,Al KF G (Da! k ds).flatten (Da! k vs).flatten
 |0=>Al.nil
 |k+1=>by
  rw[RE,RE,SV,SV];exact dH r (uO r k)
def c7d(ha:fT!)(J:co!):C9_ Ce! (Wl fs fb):=
 fD Ce_ λZ G H Q ρ M R st e k=>⟨G,ρ,M,_,st,e,λds M1 vs G1 H1 r1 x1 m1 q1=>⟨by rw[<-aK q1];exact fF r1.1,λp hp=>by
  let xj:Bo G1 H1 G1 Cf!:=a6r x1.sub hp;let hM:=IA! hp;exact Cf_;cases y<;>first|exact r2.elim|skip
  rename_i n;obtain rfl:=bC q2;let#[#[hn,iz,hl],r2]:=r2;let yj:=x2.keep p _ cC hM;exact Cg!;let yk:=DT! Cg_ x2 qO!;exact k _ _ _ G2 _ (r2 c (m2.nocell hc)) (yk.trans (.laid x2.sub hc) m2) (m2.laid hc x2.sub #[_,cC,uO b1_ _]) Ap.fn⟩⟩
end
nonrec def rk(r:qQ_)(xs:lF!)(i:δ):Int:=(xs[i]?.map r).getD 0
def b8g(hs:c<xs.size)(hd:d<=c)(k:δ):Hf! (bubble xs c d)=if k=c - d then FX_ c else if c - d<k/\k<=c then FX_ (k - 1) else Hf! xs:=by
 delta rk;rw[getElem?_bubble hs d hd k];split
 .rfl
 .split<;>rfl
def a8l(hj:j<=xs.size)(k:δ):Hf! Ch_=if i<=k/\k<j then FX_ (i+j - 1 - k) else Hf! xs:=by delta rk;rw[getElem?_mirror_all hj k];split<;>rfl
def pA(hj:j<=xs.size)(he:∀k,i<=k->k<j->FX_ k=FX_ ew_)(k:δ):Hf! Ch_=Hf! xs:=by
 rw[a8l hj];by_cases h:i<=k/\k<j
 .rw[MO h,he _ a! a!,he k h.1 h.2]
 .rw[MZ h]
def Up(r:qQ_)(xs:lF!)(n:δ):Prop:=∀i j,i<=j->j<n->FX_ i<=FX_ j
def Dn(r:qQ_)(xs:lF!)(n:δ):Prop:=∀i j,i<=j->j<n->FX_ j<=FX_ i
structure SB(kd:SortKind)(a0:lF!)(st:SortSt):Prop where
 pm:(M!).Perm a0
 kn:kindOf st=kd
 fl:Gc! st=υ
 pd:Hf_ st=#[]
def SB.sz{st:SortSt}(h:cs_):(M!).size=a0.size:=h.pm.size_eq
def SB.put{st:SortSt}(h:cs_)(hp:xs.Perm M!):Gc_ (setArr st xs):=#[hp.trans h.pm,h.kn,h.fl,h.pd]
section
variable{prog:yM!}{w:yK!}{A:uB!}{E:Value->Shared->Prop}{s:yU!}{a0:Array Keyed}{kd:SortKind}{r:Keyed->Int}
variable (prog w A s a0 kd r)in
def Us:Prop:=∀(x y:Keyed) (F:G_) (Q:Bool->Shared->ν),x∈id_->y∈id_->D2! Q (r x<r y) s->DR_ n! (keyLt' kd x.1 y.1) Q F s
def b8f{st:SortSt}(hl:dG!)(b:cs_)(hi:i<a0.size)(hj:j<a0.size)(h:Q (J9_ (rk r M! i<rk r M! j)) st):DG! (ltAt' i j):=by
 let at_:∀k,k<a0.size->∃p,M![k]?=ψ p/\p∈id_/\Hf! M!=r p:=λk hk=>by
  let cu:k<(M!).size:=by rw[b.sz];exact hk
  exact#[M![k],Ci!,(GO! b.pm).mem_iff.mp b!,?_];delta rk;rw[Ci!];rfl
 let#[x,ex,mx,rx]:=at_ i hi;let#[y,ey,my,ry]:=at_ j hj;rw[rx,ry]at h;rw[ltAt'_eq];exact PV f1_;show DG! (elem' M! i>>=λx=>elem' M! j>>=λy=>lt' x y);rw[elem'_eq,elem'_eq,ex,ey];exact PV (RL (PV (RL ?_)));rw[lt'_eq];exact PV f1_;rw[b.kn];exact PV (wpS_lift (TQ (hl x y _ _ mx my #[χ,RL h])))
def c9w{st:SortSt}(hl:dG!)(hn:f2!)(ha:1<=a)(ym:a<=n)(b:cs_)(hu:Up r M! a)
  (h:∀m,a<=m->m<=n->Up r M! m->(m=n\/rk r M! m<rk r M! lG!)->Q (υ,m) st):DG! (ascLoop a n):=by
 delta ascLoop;exact WK (I:=λx c ac=>ac=st/\c=(υ,x)/\Up r M! x) ?_ ?_ (H4! hu)
 .rintro x c ac Y h2 ⟨rfl,rfl,u⟩;exact PV (b8f hl b (NN h2 hn) a! ?_);by_cases q:Eq! x<Eq! ie_
  .rw[NG q];exact RL (h x Y (SE h2) u (.inr q))
  .rw[NA q];exact RL (H4! Cj!);obtain h5|h5:=RB j x
   .exact u i j h3 h5
   .let:j=x:=by omega
    subst this;obtain h6|h6:=RB i j
    .let:=Hg! u;omega
    .let:i=j:=by omega
     rw[this];exact QD _
 .rintro c ac ⟨rfl,rfl,u⟩;rw[show max a n=n by omega]at u ⊢;exact h n ym u! u W_
def b8d{st:SortSt}(hl:dG!)(hn:f2!)(Y:1<=m)(hm:m<=n)(b:cs_)(hd:Dn r M! m)
  (h:qS_):DG! (tail3 m n):=by
 delta tail3;let b':Gc_ (setArr st (mirror M! 0 m ((m - 0) / 2))):=b.put lG_;let hz:m<=(M!).size:=by rw[b.sz];omega
 exact Fe_ (PV (c9w hl hn Y hm b' (λi j h3 h4=>?_) λk h3 h4 u _=>RL (h k _ b' a! h4 u)));rw[a8l hz,a8l hz,aJ!,aJ!];exact hd _ _ a! a!
def d1l{st:SortSt}(hl:dG!)(hn:f2!)(Y:1<=m)(hm:m<=n)(b:cs_)(hd:Dn r M! m)
  (h:∀k q ac,Gc_ ac->m<=k->k<=n->Dn r z! k->q+1<=k->(∀i,k - (q+1)<=i->i<k->rk r z! i=rk r z! (k - 1))->Q (υ,k,q) ac):DG! (descLoop m n):=by
 delta descLoop;exact WK (I:=λx c ac=>∃q,c=(υ,x,q)/\Gc_ ac/\Dn r z! x/\q+1<=x/\∀i,x - (q+1)<=i->i<x->Eq! i=Eq! ie_) ?_ ?_ #[0,χ,b,hd,p_,λi h2 h3=>by rw[show i=m - 1 by omega]]
 .rintro x c ac h2 h3 ⟨q,rfl,b',d,hq,he⟩;let hz:x<=(z!).size:=by rw[b'.sz];omega
  exact GW! (NN h3 hn) Ck!;by_cases p:Eq! x<Eq! ie_
  .rw[NG p];let pz:∀xs:Array Keyed,(∀k,rk r xs k=rk r z! k)->Dn r xs (x+1):=λxs hk i j h4 h5=>by
    rw[hk,hk];obtain h6|h6:=RB j x
    .exact d i j h4 h6
    .let:j=x:=by omega
     subst this;obtain h7|h7:=RB i j
     .let:=Hg! d;omega
     .show"#;"
   by_cases ue:q>0
   .simp only[PP,ue];exact Fe_ (RL #[0,χ,b'.put lG_,pz _ (pA hz he),p_,Cl_])
   .simp only[PP,ue,PC];exact RL #[0,χ,b',pz _ λ_=>χ,p_,Cl_]
  .rw[NA p];dsimp only[Bool.false_eq_true,if_false];exact GW! Ck! (NN h3 hn);by_cases p2:Eq! ie_<Eq! x
   .rw[NG p2];exact RL (h x q ac b' h2 (SE h3) d hq he)
   .rw[NA p2];let ex:Eq! x=rk r z! ie_:=by omega
    exact RL #[q+1,χ,b',λi j h4 h5=>?_,p_,λi h4 h5=>?_]
    .obtain h6|h6:=RB j x
     .exact d i j h4 h6
     .let:j=x:=by omega
      subst this;obtain h7|h7:=RB i j
      .rw[ex];exact Hg! d
      .show"#;"
    .rw[show x+1 - 1=x by omega];obtain h6|h6:=RB i x
     .rw[ex];exact he i a! h6
     .rw[show i=x by omega]
 .rintro c ac ⟨q,rfl,b',d,hq,he⟩;rw[show max m n=n by omega]at d hq he ⊢;exact h n q ac b' hm u! d hq he
def b8e{st:SortSt}(hl:dG!)(hn:f2!)(hm:m+1<=n)(b:cs_)(hd:Dn r M! cX!)
  (h:qS_):DG! (descPart m n):=by
 delta descPart;exact GW_ (d1l hl hn a! hm b hd λk q ac b' Y h2 d hq he=>?_);by_cases ue:q>0
 .simp only[PP,ue];exact Fe_ (b8d hl hn a! h2 (b'.put lG_) (λi j h4 h5=>?_) h);let hz:k<=(z!).size:=by rw[b'.sz];omega
  rw[pA hz he,pA hz he];exact d i j h4 h5
 .simp only[ue,PC];exact b8d hl hn a! h2 b' d h
def c5p{st:SortSt}(hl:dG!)(hn:f2!)(Y:1<=n)(b:cs_)(h:qS_):
  wpS n! A E s (countRun' 0 n) Q st:=by
 rw[countRun0_eq];exact PV (c9w hl hn (NC 1) Y b (λi j h3 h4=>by rw[f2_];exact QD _) λm h3 h4 u hor=>?_);by_cases e:m=n
 .simp only[QK,e,PP];rw[<-e];exact RL Cm_
 .let au:=hor.resolve_left e;simp![QK,e,PC];by_cases hg:m>1
  .simp only[hg,PP];exact PV (b8f hl b a! a! ?_);by_cases p:rk r M! 0<rk r M! lG!
   .rw[NG p];exact RL Cm_
   .rw[NA p];let uf:∀k,0<=k->k<m->Hf! M!=rk r M! lG!:=λk _ hk=>by
     let a1:=u 0 k a! hk;let a2:=u k lG! a! a!;omega
    let hz:m<=(M!).size:=by rw[b.sz];omega
    exact Fe_ (b8e hl hn a! (b.put lG_) Cn! h);rw[pA hz uf,pA hz uf];obtain h7|h7:=RB j m
    .rw[uf i a! a!,uf j a! h7];exact QD _
    .let:j=m:=by omega
     subst this;obtain h8|h8:=RB i j
     .rw[uf i a! h8];omega
     .show"#;"
  .simp only[hg,PC];let:m=1:=by omega
   subst this;exact b8e hl hn a! b Cn! h;obtain h8|h8:=RB i j
   .rw[show i=0 by omega,show j=1 by omega];exact IC_ au
   .show"#;"
def d2w{lo hi k x n:δ}(h:¬lo>=hi)(g2:hi<=k)(g3:hi - lo<=k - x)(hk:k<n):lo<=bH_ / 2/\bH_ / 2<hi/\bH_ / 2<k/\bH_ / 2<n/\bH_ / 2 - lo<=k - (x+1)/\hi - (bH_ / 2+1)<=k - (x+1):=by
 let e1:lo<=bH_ / 2:=by omega
 let e2:bH_ / 2<hi:=by omega
 generalize bH_ / 2=m at *;let e3:=NN e2 g2;exact#[e1,e2,e3,XJ e3 hk,Nat.le_sub_one_of_lt (NN (Nat.sub_lt_sub_right e1 e2) g3),Nat.le_sub_one_of_lt (NN (Nat.sub_lt_sub_left (Nat.not_le.mp h) (Nat.lt_succ_of_le e1)) g3)]
def d5s{st:SortSt}(hl:dG!)(hn:f2!)(hk:k0<=n)(b:cs_)(hu:Up r M! k0)(h:∀ac,Gc_ ac->Up r z! n->Q τ ac):
  wpS n! A E s (binarySort' 0 n k0) Q st:=by
 rw[binarySort'_eq];simp![TW];exact PV (wpS_mono (WK (I:=λk c ac=>c=hQ!/\SB kd a0 ac/\Up r z! (min k n)) (Q:=λc ac=>c=hQ!/\SB kd a0 ac/\Up r z! n) ?_ ?_ #[χ,b,Cj!]) ?_)
 .rintro k c ac h2 h3 ⟨rfl,b',u⟩;rw[show min k n=k by omega]at u;let ll:k<a0.size:=by omega
  exact PV (wpS_mono (WK (I:=λx c bu=>bu=ac/\∃lo hi,c=(υ,lo,hi)/\lo<=hi/\hi<=k/\hi - lo<=k - x/\Cp!/\∀i,hi<=i->i<k->Eq! k<Eq! i)
   (Q:=λc bu=>bu=ac/\∃lo hi,c=(υ,lo,hi)/\lo<=k/\Cp!/\∀i,lo<=i->i<k->Eq! k<Eq! i) ?_ ?_ #[χ,0,k,χ,p_,p_,p_,λi hi=>by omega,λi h4 h5=>by omega]) ?_)
  .rintro x c bu h4 h5 ⟨rfl,lo,hi,rfl,g1,g2,g3,g4,g5⟩;show"#8";by_cases yn:lo>=hi
   .rw[MO yn];let:lo=hi:=by omega
    subst this;exact RL Cp_
   .rw[MZ yn];let#[m1,m2,m3,m4,m5,m6]:=d2w yn g2 g3 ll;exact GW! ll m4;by_cases p:Hf! qV!<rk r qV! qV_
    .rw[NG p];exact RL #[χ,lo,bH_ / 2,χ,m1,SE m3,m5,g4,λi h6 h7=>Int.lt_of_lt_of_le p (u qV_ i h6 h7)]
    .rw[NA p];exact RL #[χ,bH_ / 2+1,hi,χ,m2,g2,m6,λi h6=>Int.le_trans (u i qV_ (Nat.le_of_lt_succ h6) m3) (Int.not_lt.mp p),g5]
  .rintro c bu ⟨rfl,lo,hi,rfl,g1,g2,g3,g4,g5⟩;let:lo=hi:=by omega
   subst this;exact Cp_
  .rintro c bu ⟨rfl,lo,hi,rfl,g1,g4,g5⟩;rw[moveDown'_eq];exact PV (wpS_modify (RL #[χ,b'.put (bubble_perm _ _ _),λi j h6 h7=>?_]));rw[show min R! n=k+1 by omega]at h7;let ox:k<(qV!).size:=by rw[b'.sz];exact ll
   rw[b8g ox a!,b8g ox a!,show k - (k - lo)=lo by omega];let n1:=g4;let n2:=g5;by_cases ei:i=lo
   .rw[MO ei];by_cases ej:j=lo
    .rw[MO ej];exact QD _
    .rw[MZ ej];by_cases fj:lo<j/\j<=k
     .rw[MO fj];exact IC_ (n2 ew_ a! a!)
     .omega
   .rw[MZ ei];by_cases fi:lo<i/\i<=k
    .rw[MO fi,MZ a!,aJ!];exact u (i - 1) ew_ a! a!
    .rw[MZ fi];by_cases ej:j=lo
     .rw[MO ej];exact n1 i a!
     .rw[MZ ej];by_cases fj:lo<j/\j<=k
      .rw[MO fj];exact Hg! u
      .rw[MZ fj];exact u i j h6 a!
 .rintro c ac ⟨e,b',u⟩;rw[show min (max (max k0 1) n) n=n by omega]at u;exact#[e,b',u]
 .by_cases h0:k0=0
  .show"#;"
  .exact hu i j h3 a!
 .rintro c ac ⟨rfl,b',u⟩;exact RL (h ac b' u)
def d1k{st:SortSt}(hl:dG!)(b:cs_)(h2:2<=a0.size)(ug:a0.size<64)
  (h:∀ac,(z!).Perm a0->Gc! ac=υ->GG_ z!->Q () ac):DG! sortRuns':=by
 rw[sortRuns'_eq];exact PV f1_;let hmr:minRun' a0.size a0.size 0=a0.size:=by
  let:∀f,minRun' (f+1) a0.size 0=a0.size:=λf=>by rw[minRun'_succ,MO ug];rfl
  let q:=this (a0.size - 1);rwa[show a0.size - 1+1=a0.size by omega]at q
 dsimp only;simp![b.sz,hmr];let fin:∀{ac:SortSt},Gc_ ac->GG_ z!->(arrOf lL_).Perm a0/\Gc! lL_=υ/\Hf_ lL_=[lL!].toArray/\GG_ (arrOf lL_):=
  λ{ac} b' u=>#[b'.pm,b'.fl,by show(Cr_).push _=_;rw[b'.pd];rfl,u]
 exact PV (wpS_mono (WK (I:=λx c ac=>(x=0/\c=(υ,0)/\SB kd a0 ac)\/(1<=x/\c=Cs_/\(z!).Perm a0/\failedOf ac=υ/\pendingOf ac=[lL!].toArray/\Up r z! a0.size))
  (Q:=λc ac=>c=Cs_/\(z!).Perm a0/\Gc! ac=υ/\Hf_ ac=[lL!].toArray/\GG_ z!) ?_ ?_ (.inl (H4! b))) ?_)
 .rintro x c ac _ hx (⟨rfl,rfl,b'⟩|⟨_,rfl,d⟩)
  .show"#8";rw[MZ a!];simp![Nat.sub_zero,Nat.min_self,TW];exact PV (c5p hl u! a! b' λm bu b2 g1 g2 u2=>?_);by_cases au:m<a0.size
   .simp only[au,PP];exact GW_ (d5s hl u! g2 b2 u2 λvg b3 u3=>?_);simp![SG,OC,PC];exact PV f1_;rw[show(Hf_ vg).back?=υ by rw[b3.pd];rfl];exact Fo! b3 u3
   .simp only[au,PC];let:m=a0.size:=by omega
    subst this;exact PV f1_;rw[show(Hf_ bu).back?=υ by rw[b2.pd];rfl];exact Fo! b2 u2
  .show"#8";rw[MO u!];exact RL #[χ,d]
 .rintro c ac (⟨hx,_⟩|⟨_,e,d⟩)
  .omega
  .exact#[e,d]
 .rintro c ac ⟨rfl,d1,d2,d3,d4⟩;exact PV (wpS_mono (WK (I:=λ_ c bu=>bu=ac/\c=hQ!) ?_ Cu_ ae!) ?_)
  .rintro x c bu _ _ ⟨rfl,rfl⟩;exact PV f1_;rw[MO (by rw[d3];exact NC 1)];exact RL ae!
  .rintro c bu ⟨rfl,rfl⟩;exact RL (h _ d1 d2 d4)
end
abbrev FF:Bool->SortKind:=sortPriv%PySem.Builtin.KeyKind.tuples
section
variable{prog:yM!}{w:yK!}{A:uB!}{E:Value->Shared->Prop}{s:yU!}
def Ij(h:Heap)(v:v5!)(a b:Int):Prop:=∃(p:sw!) (o:Obj) (n:δ) (t u:Tok),v=.ref p/\h.get? p=ψ o/\o.cls=.type "tuple"/\o.data=.seq [.int a t,.int b u].toArray n
def HN(a b c d:Int):Bool:=if a=c then decide (b<d)else decide (a<c)
def yL(h:D2! Q (a<b) s):Jk! (oneLt' f gH_ (.int b u)):=by
 cases f with
 |true=>exact oneLt_int h
 |false=>
  rw[oneLt'_eq];rw[MZ NS];exact MC (show wpAny n! A (compareOp .Lt gH_ (.int b u)) _ E s from PyProof.Rows.lt_int ?_);exact OX h
def a9q(hx:DY! Ij x a b)(hy:DY! Ij y c d)(h:Q (HN a b c d) s):Jk! (keyLt' (FF f) x y):=by
 let#[p,o,n,t,u,rfl,Y,_,h2]:=hx;let#[p',o',n',t',u',rfl,jm,_,m8]:=hy;exact MC (listItems_at Y h2 (MC (listItems_at jm m8 gw!)));show DR_ n! (forIn [((Value.int a t,Value.int c t'),0),((Value.int b u,Value.int d u'),1)] _ _) _ E s;rw[SD];exact Jr! (VO a t c t' _ _ _ _ ?_);delta HN at h;by_cases e:a=c
 .rw[MO e]at h;let e1:(a==c)=true:=by simpa using e
  rw[e1];dsimp only[Bool.not_true,Bool.false_eq_true,if_false];exact MH ?_;show"#8";rw[SD];exact Jr! (VO b u d u' _ _ _ _ ?_);by_cases e2:b=d
  .let e3:(b==d)=true:=by simpa using e2
   rw[e3];dsimp only[Bool.not_true,Bool.false_eq_true,if_false];exact MH ?_;dsimp only;rw[WH];exact MH ab_;let e4:decide (b<d)=false:=by rw[e2];simp
   rw[e4]at h;simpa using h
  .let e3:(b==d)=false:=by simpa using e2
   rw[e3];show"!i"
 .rw[MZ e]at h;let e1:(a==c)=false:=by simpa using e
  rw[e1];show"!i"
def b0z:∀(xs:W!),Cw_->(IX! Q ys.toArray)->Jk! (xs.toArray.mapM f):=by
 intro xs hf hq;rw[Array.mapM_eq_mapM_toList];let li:∀(xs:W!) (R:μ β->Shared->ν),Cw_->(IX! R ys)->DR_ n! (xs.mapM f) R E s:=by
  intro xs
  induction xs with
  |nil=>
   intro R _ h;rw[List.mapM_nil];exact MH (h [] .nil)
  |cons x xs ih=>
   intro R Y h2;rw[List.mapM_cons];exact MC (Y x ML _ λy hy=>MC (ih _ (λz hz=>Y z lM!) λys qw=>MH (h2 _ (.cons hy qw))))
 let:(List.toArray<$>xs.toArray.toList.mapM f:Sem (Array β))=(xs.toArray.toList.mapM f>>=λl=>pure l.toArray):=by rw[map_eq_pure_bind]
 rw[this];exact MC (li _ _ (Db! hf) λys qw=>MH (hq ys (Db! qw)))
def c1q(h:∀v∈vs,∃a b,DY! Ij v a b)(h0:vs≠[])(hq:Q (FF τ) s):Jk! (keyKind' cC!):=by
 exact MC (b0z (F:=λ_ y=>∃a t,y=ψ lN!) vs Cz! λys qw=>?_)
 .let#[a,b,p,o,n,t,u,rfl,Y,h2,h3]:=h v hv;exact EO_ WO oI!;rw[d1_];exact MC (listItems_at Y h3 (MH (hR _ #[a,t,χ])))
 .let ji:∀y∈ys,∃a t,y=ψ lN!:=by
   let li:∀{l:o_} {m:μ Ag!},Ea_ (λ_ y=>∃a t,y=ψ lN!) l m->∀y∈m,∃a t,y=ψ lN!:=by
    intro l m hp
    induction hp with
    |nil=>intro y hy;exact(MN hy).elim
    |cons q _ ih=>
     intro y hy;obtain rfl|hy:=MM.mp hy
     .exact q
     .exact ih y hy
   exact li qw
  let hne:ys≠[]:=λz=>by subst z;cases qw;exact h0 χ
  rw[MO (by rw[List.all_toArray,SJ];intro y hy;let#[a,t,rfl]:=ji y hy;rfl)];exact MC fD_;let hints:∀v∈(CA!).toList,∃a t,v=Value.int a t:=λv hv=>by
   simp![List.filterMap_toArray,SM,id]at hv;let#[y,hy,e]:=hv;let#[a,t,e2]:=ji y hy;rw[e2]at e;exact#[a,t,(OK e).symm]
  let hz:(CA!).toList≠[]:=λz=>by
   cases ys with
   |nil=>exact hne χ
   |cons y r=>
    let#[a,t,rfl]:=ji y ML;simp at z
  generalize hZ:ys.toArray.filterMap id=Z at hints hz ⊢;let#[zs]:=Z;exact MC ?_;exact MC (b0z (F:=λ_ y=>y=Value.type "int") zs Cz! λts ZX=>?_)
  .let#[a,t,rfl]:=hints v jf_;exact WO (typeIs_int s a t) (hR _ χ)
  .let ZY:∀t∈ts,t=Gp! "int":=by
    let li:∀{l m:o_},Ea_ (λ_ y=>y=Value.type "int") l m->∀y∈m,y=Gp! "int":=by
     intro l m hp
     induction hp with
     |nil=>intro y hy;exact(MN hy).elim
     |cons q _ ih=>
      intro y hy;obtain rfl|hy:=MM.mp hy
      .exact q
      .exact ih y hy
    exact li ZX
   cases ts with
   |nil=>cases ZX;exact Dd! hz
   |cons t r=>
    let ht:=ZY t ML;subst ht;let e1:((CB_).toArray)[0]?=ψ (Gp! "int"):=χ;rw[e1];let e2:((CB_).toArray.all λx=>x==Value.type "int")=true:=by
     rw[List.all_toArray,SJ];intro y hy;rw[ZY y hy];rfl
    show"#8";rw[MO e2];exact H3! hq
end
def Kr(p q:Int×Int):Bool:=HN p.1 p.2 q.1 q.2
def tK:Kr p q=τ↔(p.1<q.1\/(p.1=q.1/\p.2<q.2)):=by
 delta Kr HN;split
 .rename_i h;rw[NT];omega
 .rename_i h;rw[NT];omega
def b2t(p:Int×Int):Kr p p=false:=by
 cases h:Kr p p with
 |false=>rfl
 |true=>let:=tK.mp h;omega
def kK(Y:Kr p q=τ)(h2:Kr q r=τ):Kr p r=true:=by rw[tK]at Y h2 ⊢;omega
def a1l(h:p≠q)(Y:Kr p q=θ):Kr q p=true:=by
 let jm:¬Kr p q=true:=by rw[Y];decide
 rw[tK]at jm ⊢;let:¬(p.1=q.1/\p.2=q.2):=λz=>h (Prod.ext z.1 z.2);omega
section
variable{α:Type}(kf:α->Int×Int)
def Qd(x:α):μ α->μ α
 |[]=>[x]
 |y::r=>if Kr (kf x) (kf y)then x::y::r else y::Qd x r
def Oi:μ α->μ α
 |[]=>[]
 |x::r=>Qd kf x (Oi r)
def Oo(l:W!):Prop:=l.Pairwise λx y=>Kr (kf x) (kf y)=τ
variable {kf}
def rH(x:α):∀l:List α,(Qd kf x l).Perm (x::l)
 |[]=>WJ _
 |y::r=>by
  delta Qd;split
  .exact WJ _
  .exact((rH x r).cons y).trans (List.Perm.swap x y r)
def cF:∀l:List α,(Oi kf l).Perm l
 |[]=>WJ _
 |x::r=>(rH x _).trans ((cF r).cons x)
def wH:∀{l:W!},Oo kf l->(∀y∈l,kf x≠kf y)->Oo kf (Qd kf x l)
 |[],_,_=>List.pairwise_singleton _ _
 |y::r,h,hn=>by
  delta Qd;delta Oo at h;rw[PY]at h;split
  .rename_i au;exact PY.mpr #[q0_,PY.mpr h];obtain rfl|hz:=MM.mp hz
   .exact au
   .exact kK au (h.1 z hz)
  .rename_i au;exact PY.mpr #[q0_,wH h.2 λz hz=>hn z lM!];obtain rfl|hz:=MM.mp ((rH x r).mem_iff.mp hz)
   .exact a1l (hn y ML) pY!
   .exact h.1 z hz
def mD:∀{l:W!},(l.map kf).Nodup->Oo kf (Oi kf l)
 |[],_=>jE_
 |x::r,h=>by
  rw[MU,NO]at h;exact wH (mD h.2) λy hy e=>h.1 ?_;rw[e];exact NQ ((cF r).mem_iff.mp hy)
def oX:∀{l m:W!},Oo kf l->Oo kf m->l.Perm m->l=m
 |[],m,_,_,h=>(List.Perm.nil_eq h)
 |x::l,m,Y,h2,h=>by
  cases m with
  |nil=>exact C6_ h.length_eq nofun
  |cons y m=>
   let e:x=y:=by
    obtain e|hx:=MM.mp (h.mem_iff.mp ML)
    .exact e
    .obtain e|hy:=MM.mp (h.symm.mem_iff.mp ML)
     .exact e.symm
     .let a1:=(PY.mp Y).1 y hy;let a2:=(PY.mp h2).1 x hx;let:=kK a1 a2;rw[b2t]at this;exact C6! this
   subst e;rw[oX (PY.mp Y).2 (PY.mp h2).2 ((List.perm_cons x).mp h)]
def b9h(h:l.Perm m):∀{L:W!},m=L.map f->∃L':List α,L'.Perm L/\L'.map f=l:=by
 induction h with
 |nil=>intro L e;exact#[[],by rw[List.map_eq_nil_iff.mp e.symm],χ]
 |cons x _ ih=>
  intro L e;cases L with
  |nil=>cases e
  |cons y L=>
   injection e with e1 e2
   let#[L',Y,h2]:=ih e2;exact#[y::L',Y.cons y,by rw[MU,h2,e1]]
 |swap x y l=>
  intro L e
  match L,e with
  |a::b::L,e=>
   injection e with e1 e2
   injection e2 with e3 e4
   exact#[b::a::L,List.Perm.swap a b L,by rw[MU,MU,<-e1,<-e3,<-e4]]
 |trans _ _ ih1 ih2=>
  intro L e;let#[L2,Y,h2]:=ih2 e;let#[L1,h3,h4]:=ih1 h2.symm;exact#[L1,h3.trans Y,h4]
def Oj(ks:μ ez!)(k:Int×Int):Int:=((ks.filter λx=>Kr x k).length:δ)
def qL(hp:p∈ks)(h:Kr p q=τ):Oj ks p<Oj ks q:=by
 delta Oj;let li:∀l:List ez!,(CE_).length<=(CF!).length:=by
  intro l
  induction l with
  |nil=>simp
  |cons x l ih=>
   simp![XT];by_cases hx:Kr x p=τ
   .simp only[hx,kK hx h,PP,NH];omega
   .by_cases hy:Kr x q=τ
    .simp only[hx,hy,PP,NH];show"#:";omega
    .simp only[hx,hy];show"#:";exact ih
 let aux2:∀l:List ez!,p∈l->(CE_).length<(CF!).length:=by
  intro l hl
  induction l with
  |nil=>cases hl
  |cons x l ih=>
   obtain e|hl:=MM.mp hl
   .subst e;let:=li l;simp![XT,b2t,h,PP,NH,OC,PC];omega
   .let:=ih hl;simp![XT];by_cases hx:Kr x p=τ
    .simp only[hx,kK hx h,PP,NH];omega
    .by_cases hy:Kr x q=τ
     .simp only[hx,hy,PP,NH];show"#:";omega
     .simp only[hx,hy];show"#:";exact this
 let:=aux2 ks hp;omega
def c5s(hp:p∈ks)(hq:q∈ks):decide (Oj ks p<Oj ks q)=Kr p q:=by
 cases h:Kr p q with
 |true=>exact NG (qL hp h)
 |false=>
  exact NA λz=>?_;by_cases e:p=q
  .subst e;omega
  .let:=qL hq (a1l e h);omega
end
section
open Classical
variable{h:Heap}
def Ij.inj(x:H4_ v)(y:Ij h v c d):(a,b)=(c,d):=by
 let#[p,o,n,t,u,rfl,Y,_,h2]:=x;let#[p',o',n',t',u',e,jm,_,m8]:=y;cases e;rw[Y]at jm;rcases jm;rw[h2]at m8;injection m8 with h3 _
 let:=Jj_ h3;simp at this;rw[this.1.1,this.2.1]
def Uh(h:Heap)(v:v5!):Int×Int:=if x:∃a b,H4_ v then(x.choose,x.choose_spec.choose)else(0,0)
def a2g(x:H4_ v):Uh h v=(a,b):=by let z:∃a b,H4_ v:=#[a,b,x];delta Uh;rw[dif_pos z];exact z.choose_spec.choose_spec.inj x
def a3z(ha:id_=L.map e_)(hk:∀q∈L,Ij h q.1.1 (kf q.2).1 (kf q.2).2)(nd:(q2_).Nodup)(hp:uh.Perm a0)
  (hu:Up CG_ uh a0.size):∃L':List (Keyed×D),L'.Perm L/\uh.toList=L'.map e_/\L'.map ar!=Oi kf q2!:=by
 let bz:uh.toList.Perm id_:=GO! hp;let#[L',Y,h2]:=b9h bz ha;exact#[L',Y,h2.symm,oX ?_ (mD nd) ((Y.map _).trans (cF _).symm)];let ui:((L'.map ar!).map kf).Nodup:=(((Y.map _).map _).nodup_iff).mpr nd;delta Oo;rw[RX];intro i j hi hj yo;let f8:i<ii!:=by simpa using hi
 let v0:j<ii!:=by simpa using hj
 let bp:a0.size=ii!:=by rw[<-RH,ha,MV,Y.length_eq]
 let ZZ:∀k (cu:k<ii!),rk CG_ uh k=Oj q2_ (GX! k):=λk cu=>by
  delta rk;let e:uh[k]?=ψ L'[k].1:=by
   rw[<-SS,<-h2,OE,NK cu];rfl
  rw[e];show Oj _ (Uh h L'[k].1.1)=_;rw[a2g (hk L'[k] CH!)]
 let io:=hu i j (SE yo) a!;rw[ZZ i f8,ZZ j v0]at io;simp![List.getElem_map];let mem:∀k (cu:k<ii!),GX! k∈(q2!).map kf:=λk cu=>NQ (NQ CH!);let ne:GX! i≠GX! j:=λe=>by
  let q:=(List.getElem_inj (i:=i) (j:=j) (h₀:=by simpa using f8) (h₁:=by simpa using v0) ui).mp cY_;omega
 cases au:Kr (GX! i) (GX! j)with
 |true=>rfl
 |false=>
  let:=qL (mem j v0) (a1l ne au);omega
end
def b0v(a v:v5!):argsOk "list.sort" CH_:=by delta argsOk;kernel_rfl
def a3k(a v:v5!):argsOk "sorted" CH_:=by delta argsOk;kernel_rfl
section
variable{X:Cx}{hb:List (Addr×Obj)}{Z:St}{G H:Hp}{s:yU!}{A:uB!}{E:Value->Shared->Prop}
def c5r(F:JO_ f sp)(hr:gz!)(J:j4!)(e0:JA! A)
  (I:e!)(r:eH_)(h:Fu_ E0):Kj! (call ad_ us) a9!:=by
 let hl:(us++[]).length=ab!:=by rw[OA,<-r.length];exact FU_ F.len h
 let g7:=J s us I.kIn hl;rw[OA]at g7;exact GM_ (F.run A X.stack s H db_ us vs Q E0 hr e0 g7 r h);cases r with
 |error e=>exact hq.elim
 |ok fl=>
  cases fl with
  |ret u=>exact I.after hq
  |next=>exact Dr! hq
  |brk=>exact Dr! hq
  |cont=>exact Dr! hq
def Re:D->Da_ ez!
 |.tup [.int a,.int b]=>ψ (a,b)
 |_=>υ
def b9t(I:e!)(sub:K!)(r:bZ!)(e:Re d=ψ (a,b)):DY! Ij u a b:=by
 delta Re at e;show"!9"
 .cases e;let#[v,r,ru]:=r;show"!`";subst ru;show"!:";obtain rfl:=bC r1;obtain rfl:=bC r2;show"#6";let#[x,y,rfl,#[t,rfl],#[u,rfl]]:=tY rv;exact#[p,o,n,t,u,χ,Y,h2,h3]
 .rcases e
def Lu(g:bz_):μ D->Jy_ ez!
 |[]=>ψ []
 |d::r=>(g [d]).bind λx=>(Re x).bind λk=>(Lu g r).map (k::·)
def d5t(I:EO! X (hb++[f6!,(c,oc)]))(hc:D5_ H c)(jr:a≠c)(kp:∀b o,b≠c->yK_ b=ψ o->Df! b=ψ o)(ho:Df! c=ψ yp)(hd:∀v,yp.data≠.cell v):
  Inv X (hb++[f6!,(c,yp)]) Z H {s with heap:=h',toks:=t'}:=by
 let I1:EO! X q3!:=I.pins_of λp hp=>I.pin p (MY _ (by
  obtain z|z:=ND.mp hp
  .exact NM _ z
  .exact MY _ (by simp at z;simp[z])))
 let ln:∀b∈[c],Fv X q3! H b:=λb J=>by
  let e:b=c:=by simpa using J
  subst e;let#[f0,f1,f2,f3,f4,f5]:=hc;exact#[f0,f1,f2,f3,f4,c1_];obtain z|z:=ND.mp hp
  .exact f5 p ix_
  .obtain z|z:=ND.mp z
   .exact f5 p iP!
   .let:p=f6!:=by simpa using z
    rw[this];exact jr
 let I2:Inv X q3! Z H {s with heap:=h',toks:=t'}:=iO I1 ln λb o J e=>kp b o gn! e;exact I2.pins_of λp hp=>?_;obtain z|z:=ND.mp hp
 .exact I2.pin p (MY _ ix_)
 .obtain z|z:=MM.mp z
  .subst z;exact I2.pin _ f6_
  .let:p=(c,yp):=by simpa using z
   subst this;exact#[ho,hc.1,hc.2.1,hc.2.2.1,hd]
def yX(F:CI!)(hr:q3_)(J:j4!)(ml:ab!=1)(jr:a≠c)
  (qe:∀x (R:ForInStep PUnit->Shared->ν) s,FJ_ (call ad_ [x]) (λk s'=>wpAny h_ X.A.in1.in1 (Builtin.List.listUpdate a7_ (·.push k)) (λ_ s2=>R (.yield ⟨⟩) s2) E s') E s->FJ_ (body x ⟨⟩) R E s):
  ∀{ds:d_} {us:o_} {kd:d_} {ku:o_} {n:δ} {ks:μ ez!} {s:yU!} {G H:Hp},EO! X (hb++[f6!,CL!])->Ba G H->Ea_ f7! ds us->Ea_ f7! kd ku->Lu g ds=ψ ks->
   (∀H':Hp,H' c=υ->D5_ H' c)->ku.length+h!<=1000->
   (∀s' H' G' qz uj n',Inv X (hb++[f6!,(c,seqObj "list" (ku++qz).toArray n')]) Z H' s'->DP! G H->Ea_ (Cp X.K G') (kd++uj) (ku++qz)->Ea_ q4_ uj ks->Q ⟨⟩ s')->
   wpAny h_ X.A.in1.in1 (forIn us ⟨⟩ body) Q E s
 |_,_,kd,ku,n,ks,s,G,H,I,sub,.nil,pk,e,st,hl,hq=>by
  rw[WH];rcases e;exact MH (hq s H G [] [] n ?_ aA_ ?_ .nil)
  .rw[OA];exact I
  .rw[OA,OA];exact pk
 |d::ds,u::us,kd,ku,n,ks,s,G,H,I,sub,.cons r t,pk,e,st,hl,hq=>by
  show"!U";let#[v,rv,ru]:=r;rw[SD];dsimp only[List.length_cons]at hl;exact MC (qe u _ s (dP (c5r (Q:=λv' H'=>∃G',Bo G H G' H'/\Ap X.K G' x v') F hr J I.env0.in1.in1 I nM_ #[ml.symm,G,[d],x,sub,Al.cons rv Al.nil,e1,λv' G' H' x' r'=>#[G',x',r']]) ?_));rintro kv s1 ⟨v1,H1,I1,rk1,G1,x1,r1⟩;let pc:=I1.pin CL! f6_;exact GO_ (by simp![YE,MX];rw[PB];omega);let e4:=VX pc.1 (·.push kv);let I2:=d5t (t':=s1.toks) I1 (st H1 pc.2.1) jr (λb o J e=>D8_ e6_ e) (by rw[e4,List.push_toArray]) vK_;exact yX F hr J ml jr qe I2 x1.sub (ES! t x1.g) (nU (ES! pk x1.g) (EZ! #[v1,r1,rk1])) e3 st A6_ λs' H' G' qz uj n' I' x' p' k'=>?_;exact hq s' H' G' (kv::qz) (x::uj) n' ?_ (x1.trans x') ?_ (.cons e2 k')
  .rw[PN]at I';exact I'
  .rw[PN,PN]at p';exact p'
end
def Iv(g:bz_)(d:D):Int×Int:=((g [d]).bind Re).getD (0,0)
def vZ:∀{ds:d_} {ks:μ ez!},Lu g ds=ψ ks->ks=ds.map eA!
 |[],_,e=>by rcases e;rfl
 |d::r,ks,e=>by
  show"!U";rw[MU,<-vZ e3];congr 1;delta Iv;rw[e1];show q=(Re x).getD _;rw[e2];rfl
section
variable{X:Cx}{hb:List (Addr×Obj)}{Z:St}{G H:Hp}{s:yU!}{A:uB!}{E:Value->Shared->Prop}
def c0y{P:Value->D->ν}{R:D->Value->ν}(Y:Paired P ku ds):∀{us:o_},Paired R ds us->∀q∈(lS!).zip ds,P q.1.1 q.2/\R q.2 q.1.2:=by
 induction Y with
 |nil=>intro _ _ q h;simp at h
 |cons p t ih=>
  intro _ h2 q h;cases h2 with
  |cons r u=>
   rw[UZ,UZ]at h;obtain rfl|h:=MM.mp h
   .exact#[p,r]
   .exact ih u q h
def nT:∀{l:μ γ},(∀q∈l,R (f q) (h q))->Paired R ii_ (l.map h)
 |[],_=>.nil
 |q::r,hh=>.cons (hh q (ML ..)) (nT λz hz=>hh z lM!)
def oE(h:Paired R l m):ah!=m.length:=by
 induction h with
 |nil=>rfl
 |cons _ _ ih=>rw[NH,NH,ih]
def a4u(hp:∀d u a b,Cp X.K G d u->Re d=ψ (a,b)->H4_ u)(Y:CO_):∀{ds:d_},Ea_ q4_ kd (ds.map kf)->Ea_ (λv d=>Ij h v (kf d).1 (kf d).2) ku ds:=by
 induction Y with
 |nil=>intro ds h;cases ds with|nil=>exact .nil|cons=>cases h
 |cons r t ih=>intro ds h;cases ds with|nil=>cases h|cons=>cases h with|cons k u=>exact .cons (hp _ _ _ _ r k) (ih u)
def d5n{st:SortSt}{us':o_}{ku:o_}(hout:G4! M!=pd!)(hz:us'.length<64)(ZS:ku.length<64)(hf:Gc! st=υ)(jr:a≠c)
  (ju:q6!)(ln:CP_)(I:CR!)
  (hP:∀s' n',oX! H s'->Fw! a=ψ lT!->P q7_ s'):Kj! CR_ P:=by
 let pa:=I.pin lS_ f6_;let pc:=I.pin CQ! f6_;delta ksk_tail;show"#8";rw[hout];exact MC (GO_ cl!);exact EA! TK;let ea:(D0_ c CS!).get? a=ψ CS_:=(OF _ _ (NY jr)).trans pa.1;exact Fn! seqEpoch_at ea;show"#:";exact MC (listUpdate_at ea χ ?_ cl! lR_);rw[hf];simp![bne_self_eq_false,OC,PC];let I1:=I.unpinned;exact MH (hP _ _ (iO (wr:=[a,c]) I1 iv_ λb o J q=>?_) (VX ea λ_=>pd!))
 .obtain rfl|J:=MM.mp J
  .exact ju H pa.2.1
  .rw[NI.mp J];exact ln H pc.2.1
 .let Y:b≠a:=λz=>J (by rw[z];exact ML ..);let h2:b≠c:=λz=>J (by rw[z];exact MF _ (ML ..));exact D8_ (NY Y) ((OF _ _ (NY h2)).trans q)
def d8m{ds:d_}(ug:h!<64)(nd:(ds.map eA!).Nodup)(jr:a≠c)
  (ju:q6!)(ln:CP_)(I:CR!)(sub:K!)
  (pu:CT_)(pk:CO_)(kk:Ea_ q4_ kd (ds.map eA!))
  (hP:∀s' us' n',oX! H s'->Ea_ f7! q9! us'->Fw! a=ψ lT!->P q7_ s'):Kj! (ksk_end a θ us.toArray e1 a7_ ku.toArray) P:=by
 let z:=a4u (λd u a b r q=>b9t I sub r q) pk kk;let l1:=(oE pu).symm;let l2:=oE z;let mem:=c0y z pu;let q8:(lU!).toList=Dc_ lU_:=by
  rw[ksk_zip,List.map_fst_zip CU_]
 let hd:G4! lU_=ds:=List.map_snd_zip CU_;let fin:∀{L':HE! Keyed D} {st:SortSt},L'.Perm lU_->(M!).toList=L'.map e_->L'.map ar!=Oi eA! ds->Gc! st=υ->Kj! CR_ P:=λ{L' st} Y h2 h3 h4=>by
  exact d5n (us':=L'.map (·.1.2)) ?_ (by rw[MV,Y.length_eq,UE,UE];omega) a! h4 jr ju ln I λs' n' I' e'=>hP s' _ n' I' ?_ e'
  .apply VR.mp;rw[Array.toList_map,h2,OD];rfl
  .rw[<-h3];exact nT λq hq=>(mem q (Y.mem_iff.mp hq)).2
 delta ksk_end;show"#8";show"#:";by_cases h2:pc!<2
 .rw[MO h2,MO h2];exact MC ab_;rw[StateT.run_pure];exact MC ab_;show"#8";exact fin (WJ _) q8 ?_ χ;rw[hd];rw[MX,l1]at h2
  match ds,h2 with
  |[],_=>rfl
  |[x],_=>rfl
  |_::_::r,h2=>simp at h2;omega
 .rw[MZ h2,MZ h2];rw[MX]at h2;exact MC (c1q (λv hv=>?_) (λz=>by rw[z]at l2;simp at l2;omega) ?_)
  .let#[i,hi]:=UQ.mp hv;let#[d,_,p]:=iX z hi;exact#[_,_,p]
  .let bi:(lU!).size=h!:=by rw[<-RH,q8,MV,UE,UE];omega
   let hk:∀q∈(lS!).zip ds,DY! Ij q.1.1 (q9_).1 (q9_).2:=λq hq=>(mem q hq).1;let ui:(lV!).Nodup:=by rw[hd];exact nd
   exact MC (PF (d1k (Q:=λ_ ac=>(z!).Perm lU!/\Gc! ac=υ/\Up (λp=>Oj lV! (Uh s.heap p.1)) z! (lU!).size)
    (λx y F Q hx hy hq=>?_) #[Array.Perm.refl _,χ,χ,χ] (D8! bi) (BG_ bi ug) λac a1 a2 a3=>#[a1,a2,a3]) ?_ λ_ _ e=>e)
   .rw[q8]at hx hy;let#[p,hp,rfl]:=NB.mp hx;let#[q,bh,rfl]:=NB.mp hy;exact a9q (hk p hp) (hk q bh) ?_;let mm:∀p∈(lS!).zip ds,Iv g p.2∈(CV!).map eA!:=λp hp=>NQ (NQ hp);let hh:decide (Oj lV! (Uh s.heap p.1.1)<Oj lV! (Uh s.heap q.1.1))=Kr (Iv g p.2) q9_:=by
     rw[a2g (hk p hp),a2g (hk q bh)];exact c5s (mm p hp) (mm q bh)
    let oy:=hq;rw[hh]at oy;exact oy
   .rintro⟨⟨⟩,ac⟩ s' ⟨rfl,a1,a2,a3⟩;show"#8";let#[L',b1,b2,b3]:=a3z q8 hk ui a1 a3;exact fin b1 b2 (by rw[b3,hd]) a2
def d5m(F:CI!)(hr:q3_)(J:j4!)(ml:ab!=1)
  (I:e!)(sub:K!)(pu:CT_)(ha:yK_ a=ψ (GH! us.toArray n))(g9:H a=υ)
  (ju:q6!)(ek:Lu g ds=ψ ks)(nd:hP!)(ug:h!<64)
  (hP:∀s' H' G' us' n',Jg_ H'->DP! G H->Ea_ (Cp X.K G') q9! us'->H' a=υ->Fw! a=ψ lT!->P q7_ s'):
  wpAny h_ X.A.in1.in1 (ksk_tree a ad_ θ) P E s:=by
 let l1:aw!=h!:=(oE pu).symm;let ekm:=vZ ek;obtain⟨e1,Z0⟩:∃e1,(D0_ a (Obj.mapSeq λ_=>(#[]:Array Value))).get? a=ψ (seqObj "list" #[] e1):=#[_,VX ha λ_=>#[]];delta ksk_tree;exact Fn! listItems_at ha;exact MC (listUpdate_at ha χ ?_ lR_ cl!);exact Fn! seqEpoch_at Z0;exact MC (wpAny_newTuple ?_ (by show aw!<=_;rw[PB];omega));exact MC CW_;exact OM ?_;let bi:(ij_).objs.size=j!+1:=by rw[size_push',Heap.size_update]
 let ig:(CX!).get? (ij_).objs.size=ψ f9!:=NJ _ χ;rw[bi]at ig ⊢;let jr:a≠j!+1:=NZ (UL (NP ha));let ln:∀H':Hp,H' X!=υ->D5_ H' X!:=λH' q=>I.fpOk (QW _) q;let hca:(CX!).get? a=ψ CS_:=Hb_ Z0;let I1:oX! H {s with heap:=(ij_).push f9!}:=
  iO I (λb J=>by rw[NI.mp J];exact ju H g9) λb o J q=>MJ _ (MJ _ (D8_ (λz=>J (by rw[z];exact NI.mpr χ)) q))
 let fa:=ju H g9;let fc:=ln H tU_;let I2:Inv X (hb++[lS_,(j!+1,seqObj "list" (vJ_).toArray 0)]) Z H {s with heap:=(ij_).push f9!}:=I1.pins_of λp hp=>by
  obtain z|z:=ND.mp hp
  .exact I1.pin p iP!
  .obtain rfl|z:=MM.mp z
   .exact#[hca,g9,fa.2.1,fa.2.2.1,g9_]
   .rw[cY!];exact#[ig,fc.1,fc.2.1,fc.2.2.1,g9_]
 generalize j!+1=c at *;delta ksk_rest;exact MC fD_
 first
  |rw[List.forIn_toArray]
  |(rw[<-Array.forIn_toList];dsimp only[List.toList_toArray])
  |rw[<-Array.forIn_toList]
 exact MC (PF (yX (E:=vN!) F hr J ml jr (λx R s' hx=>?_) I2 sub pu .nil ek ln (D8! QS) λs' H' G' qz uj n' I' x' p' k'=>?_) Cu_ λ_ _ z=>z.elim)
 .exact MC (TQ (PF hx (λkv s2 hk=>?_) λ_ _ z=>z.elim));show"#8";exact MC (PF hk (λ_ s3 z=>MH z) λ_ _ z=>z)
 .rw[QC]at I';rw[QC,QC]at p';let pc:=I'.pin (c,seqObj "list" qz.toArray n') f6_;let pa:=I'.pin lS_ f6_;exact MC (listItems_at pc.1 χ ?_);rw[ekm]at k' nd;exact d8m ug nd jr ju ln I' x'.sub (ES! pu x'.g) p' k' λs3 us' n3 I3 p3 e3=>hP s3 H' G' us' n3 I3 x' p3 pa.2.1 e3
def DJ(g:bz_)(ds:d_):ι aN_:=(Lu g ds).bind λks=>if hP!/\h!<64 then ψ q9! else υ
def Wc(g:bz_)(fa:m_):Ae->ι D:=λρ=>(ch!).bind λd=>match d with
 |.lst ds=>(DJ g ds).map D.lst
 |_=>υ
def rY{KF:zA!}:∀{ds:d_} {vs:t_} {us:o_},C1_ G->Ax vs us->Ea_ ik! ds us
 |[],vs,us,r,p=>by obtain rfl:=cQ r;cases p;exact .nil
 |d::ds,vs,us,r,p=>by
  let#[v,t,rfl,r1,r2]:=bS r;cases p with
  |cons a b=>exact .cons #[v,r1,a] (rY r2 b)
def rZ{KF:zA!}(h:Ea_ ik! ds us):∃vs,C1_ G/\Ax vs us:=by
 induction h with
 |nil=>exact#[[],Al.nil,.nil]
 |cons p _ ih=>
  let#[v,r,p]:=p;let#[vs,r2,p2]:=ih;exact#[v::vs,Al.cons r r2,.cons p p2]
def c5h(I0:oX! H0 s0)(I:e!)(sub:K!)(hs:BO_<=a)(pu:Ea_ f7! ds us')(hz:h!<=sizeLine)(ho:yK_ a=ψ lT!)(hn:H a=υ)
  (hQ:∀v G' H',DP! G H->Ap X.K G' bR! v->Q v H'):DU_ M_ s:=by
 let#[vs,r,p]:=rZ pu;let f:=I0.fpOk hs hn;exact#[bL!,upd H a eb_,I.track ho p (by rw[<-aK r];exact hz) hn ?_ f.2.1 f.2.2.2.2.1 f.2.2.2.2.2,χ,hQ _ _ _ (KN_ sub hn) ?_]
 .exact NW I0.sz hs
 .exact Hu! cC (r.mono (λb u e=>by rw[bD (λz=>by rw[z]at e;rw[sub _ _ e]at hn;rcases hn)];exact e))
def b7a:Dg! "sorted"=ψ C0!:=by decide+kernel
def a0c{us:o_}(hl:C0_)(hz:aw!<64)
  (h:FJ_ (ksk_tree X! ad_ θ) (λfin s'=>∃v,fin=.done (.ret v)/\Q fH_ s') E {s with heap:=(rb!).push lW_}):
  wpAny h_ X.A (call C0! [cs!] [(Str.ofString "key",.ref f)]) Q E s:=by
 exact call_function_entry_kw kind_sorted plain_sorted entry_sorted (a3k _ _) ?_;delta Builtin.«sorted»;exact MC ab_;exact MC (collect_list hl ?_ rb_);exact MC (wpAny_newList ?_ rb_);let bi:(rb!).objs.size=j!+1:=by
  rw[Heap.size_update,size_push']
 let si:((rb!).push lW_).get? X!=ψ lW_:=by
  rw[<-bi];exact NJ _ χ
 rw[bi];exact J3! (wpAny_call_entry_kw slot_list_sort (Hu_ si) entry_list_sort ?body (b0v _ _))
 case body=>
  rw[ksk_t1];exact PF h (λfin s' hq=>?_) λ_ _ z=>z;let#[v,rfl,hq]:=hq;exact Kp! v rc_
variable{own:List Nat}{fa:Ae->Option D}{e:Expr}{pos p p2 kp:Pos}{x:Str}
def c3o{ps:D!}(F:yx!)(hr:q3_)(hgx:J!)(yq:Gl X "sorted")(yr:X.mg "sorted"=υ)(ha:C5! e fa)(ml:ab!=1:=by rfl)(a8:y!:=by decide)
  (he:hr_:=by rfl):
  DE X own (Hg_ "sorted" [e] [#[ψ "key",cK!,kp]] pos) (Wc g fa):=⟨by
 let#[ag,fd,Y,h2,h3,h4]:=F;rintro hb s Z H Q I ⟨G,ρ,d,er,e1,kq⟩;let#[d0,e2,e1]:=MD.mp e1;cases d0 with
 |lst ds=>
  let#[qm,e3,rfl]:=MQ.mp e1;let#[ks,e4,e5]:=MD.mp e3;let qq:hP!/\h!<64:=by
   by_cases z:hP!/\h!<64
   .exact z
   .rw[MZ z]at e5;rcases e5
  rw[MO qq]at e5;rcases e5;let da:=(aD ha aI he).ok;exact QH (iJ I yq yr b7a ?_ a_ a_);exact FY! (da pos hb s Z H _ I #[G,ρ,[.lst ds],er,by delta Ac Af;rw[e2];rfl,λvs G1 H1 x1 r1=>(#[G1,x1,r1]:∃G1,Bo G H G1 H1/\Al X.K G1 [.lst ds] vs)]);rintro us s1 ⟨vs,H1,I1,r,G1,x1,r1⟩;exact kws_cons (iS I1 hgx h3 lZ_ a8);let#[v,t,rfl,rv,rr]:=bS r1;obtain rfl:=cQ rr;let#[l,xs,rfl,sq,rx]:=bU rv;let#[its,hv,pl,hz]:=I1.list re!;cases r with
  |cons ra rb=>
   cases rb;subst ra;let lz:gT!=h!:=by rw[<-hv.length,<-aK rx]
   let#[nn,sl,ho]:=oC pl;exact a0c (Ht! ho nn) (by rw[lz];exact qq.2) ?_;let keep:∀b o,s1.heap.get? b=ψ o->F6! rg!=ψ o:=λb o q=>by
    let au:=NP q;exact MJ _ ((Heap.get?_update_ne _ _ _ _ (NZ au)).trans ((Heap.get?_push_ne _ _ _ (NZ au)).trans q))
   let bi:(rf!).objs.size=x_+1:=by
    rw[Heap.size_update,size_push']
   let si:(rg!).get? (x_+1)=ψ rf_:=by
    rw[<-bi];exact NJ _ χ
   let I2:=I1.kept (t':=s1.toks) keep;let cm:x_<=x_+1:=QW _;exact d5m Y hr h2 ml I2 x1.sub (rY rx hv) si (GB_ cm) (λH' q=>I1.fpOk cm q) e4 qq.1 qq.2 λs3 H3 G3 us3 n3 I3 x3 p3 hn3 ho3=>y3_;exact c5h I1 I3 x3.sub cm p3 (by rw[(cF _).length_eq,PB];omega) ho3 hn3 λv G4 H4 x4 r4=>kq v G4 H4 (x1.trans (x3.trans x4)) r4
 |_=>cases e1⟩
end
def c5g(hd:BF!):W.KdlSrc P w "dict" d d es.length qD! (λh=>Mz h d es ep) where
 type:=λ_ hm=>hm.typeIs
 there:=λ_ hm=>by let#[_,ho,_]:=hm;exact#[NP ho,NP ho]
 keep:=λ_ _ hm hk=>hm.at λo e=>hk d W_ o e
 notList:=by decide
 notTuple:=by decide
 hint:=λ_ _ _ _ hm hq=>W.kdl_hint_dict hm.typeIs hq
 iter:=λ_ _ hh hm=>#[_,_,(λ_ _ hq=>c2d hd hm hq),b3x hh _ d (by let#[_,ho,_]:=hm;exact NZ ir!) es ep,#[dN_,hm.at λo e=>MJ _ e]]
section
variable{X:Cx}{hb:List (Addr×Obj)}{Z:St}{G H:Hp}{s:yU!}{A:uB!}{E:Value->Shared->Prop}
def d3f{KF:zA!}(ok:fP_)(hi:rh_):Ea_ ik! fP! im!:=by
 let ea:im!=es.map kY!:=by
  apply XD;intro i;rw[OE];by_cases h:i<an_
  .let Y:i<σ.size:=by rw[hi.1];exact h
   show"!o"
  .rw[rj!,PH a!];rfl
 rw[ea];let:∀{h1:q!} {es:cS_},Ea_ ri! h1 es->Ea_ ik! fP! il_:=λ{h1 es} h=>by
  induction h with
  |nil=>exact .nil
  |cons a _ ih=>exact F5_ a
 exact this ri_
nonrec def kf2(d:D):Int×Int:=(Re d).getD (0,0)
def Yx(f:μ V->VK->Hp->ν):μ V->Hp->VK->Prop:=λxs H Q=>∃d es ep ys,xs=[.ref d]/\H d=ψ ev_/\Ax ys il_/\f ys Q H
def a6a{es:cS_}(hi:rh_):im!=es.map kY!:=by
 apply XD;intro i;rw[OE];by_cases h:i<an_
 .let Y:i<σ.size:=by rw[hi.1];exact h
  show"!o"
 .rw[rj!,PH a!];rfl
def xU(hc:ax_):Fm X d6! rk!:=by
 intro hb s Z H xs us Q I r ⟨d,es,ep,ys,e1,e2,hv,k⟩;subst e1;cases r with
 |cons ra rb=>
  cases rb;cases ra;let#[#[h3,h4,h5],_]:=(show Eb X.prog X.w H s.heap d ev_ from I.hok d _ e2);exact W.kdl_call (c5g h4) aR_ h3 h0_ λh' tk σ c hk hs hi=>?_;let hn:H j!=none:=EE! u!;let f:=I.fpOk (H':=H) u! hn;exact#[di_,upd H s.heap.objs.size bu_,?_,χ,k _ hn];let ia:=a6a hi;exact(I.kept (t':=tk) hk).track (us:=im!) (n:=c) (BG_ Array.toArray_toList hs) (BG_ ia hv) ?_ hn I.sz f.2.1 f.2.2.2.2.1 f.2.2.2.2.2;rw[hv.length,MV];exact cS h5
def Qb(M:Mh):μ D->ι D
 |[d]=>(Dr M d).map λq=>.lst qD_
 |_=>υ
def b6c{KF:zA!}(ok:fP_):∃ys,Al KF G fP! ys/\Ax ys il_:=by
 let:∀{h1:q!} {es:cS_},Ea_ ri! h1 es->Ea_ ik! fP! il_:=λ{h1 es} h=>by
  induction h with
  |nil=>exact .nil
  |cons a _ ih=>exact F5_ a
 exact rZ (this ri_)
def c4a{KF:zA!}:BH_ Ux rk! Qb:=by
 show"#&";delta Qb at e;show"!9"
 .let#[q,e1,rfl]:=MQ.mp e;let#[v,rfl,r1]:=dW r;let#[rfl,rfl,hM]:=dJ r1 e1;let#[es,Y,h2]:=(m.cell q.1 _ hM).2;let#[ys,g1,g2]:=b6c h2;exact#[q.1,es,q.2.2,ys,χ,Y,g2,λl hl=>k _ _ _ AU_ (cW (sub.free hl) g1)]
 .cases e
end
def Vo(M:Mh):D->D
 |.fn a=>match M a with|some (.lst xs)=>.lst xs|_=>.fn a
 |d=>d
def Qa(M:Mh)(x y:D):ι D:=Em (Vo M x) (Vo M y)
def b1q{KF:zA!}(sub:K!)(m:cm_)(r:cJ!):Dj! (Vo M d) v:=by
 cases d<;>first|exact r.mono sub|skip
 rename_i a;dsimp only[Vo];split
 .rename_i xs hM;show"!u";obtain rfl:=gG r;exact Hu! Y (H5! sub)
 .exact r.mono sub
protected def oG{KF:zA!}:BH_ AA (DO KF) Qa:=by
 show"!e";delta Qa Em at e;show"!9"
 .show"!s";rcases e;exact#[_,_,b1q sub m rx,b1q sub m ry,h.1.1,h.1.2,h.2,ef!]
 .rcases e
def Ci(KF:zA!)(C:sw!)(m qual:Str)(st:Stmt)(ps:D!):Prop:=∃ag fd,F9_ m qual/\DC_ KF/\Yf KF C m ag
def Uv(KF:zA!)(mg:Q!)(x:Str)(C:sw!)(qual:Str)(st:Stmt)(ps:D!):Prop:=mg x=ψ aa_/\∃ag fd,F9_ "__init__" qual/\DC_ KF/\Mk KF C ag
section
variable{P:yM!}{w:yK!}{KF:zA!}{mg:Str->Option Value}{base h:Heap}{x qual:Str}{st:Stmt}{N ps:List Str}{k:Nat}{cr:List Nat}{q:WS}{C:sw!}
def cD(d:pD!)(S:dk_)
  (J:∀{ag:sw!} {aj:v5!} {A:uB!} {outer:aq_} {s:yU!} {H:Hp} {E:XK},Ah k kO!->N.Nodup->GU! Vd pE_):
  Jc P w KF mg base R! x ps lw_:=by
 let#[ag,fd,F,B,m]:=d;exact#[ag,fd,l3!,B,m,F.kp]
def cM(c:Uw KF C)(d:Ci KF C x qual st ps)(S:dk_)
  (J:rn_):
  De P w KF mg base R! C x ps lw_:=by
 let#[ag,fd,F,B,m]:=d;exact#[c,ag,fd,m,l3!,B]
def a0v(d:ID! x)(S:dk_)
  (J:rn_):
  Ye P w KF mg base R! x C ps lw_:=by
 let#[m,ag,fd,F,B,mk]:=d;exact#[m,ag,fd,mk,l3!,B]
def dQ{kV:v5!}
  (a:DA_ KF x=ψ dU!)(i:rp_)(l:Ec_ f=ψ vg!)
  (c:rp!)(k:kP!)
  (b:vf_):Ci KF C x qual st ps:=
 #[f,_,kP_,pG_,#[a,i,k]]
def c0v{kV:v5!}(m:mg x=ψ aa_)
  (a:JP_ KF=ψ dU!)(i:rp_)(l:Ec_ f=El_ rq!)
  (c:rp!)(k:kP!)(mm:W.makesIn KF C=τ)(kc:Et! KF aa_=τ)
  (b:∀(kV bt pm:v5!) (an:dk!) (aj ct:v5!) (us:o_),aw!=ab!->GC_ rq!=pure da_):ID! x:=
 #[m,f,_,kP_,pG_,#[mm,a,i,kc]]
def c7o(hd:ET KF mg x st [y])(S:Fc N [y] bg_)(ju:mg x=ψ ff_)
  (J:∀(base:Heap) (ag:sw!) (aj:v5!) (A:uB!) (outer:aq_) (s:yU!) (H:Hp) (E:XK),Ah k kO!->GT! Vd pE_):
  ∃fd:FuncData,(Fi_ y)/\∀base:Heap,KF.In base->DB_ base.Ns->BH_ Ez mg base Ot R! fa fd [y] (DK P w KF 1 (Bk N 1 q)):=by
 let#[f,fd,F,B,m]:=hd;rw[ju]at m;cases m;exact#[fd,λs u=>.of_eq (B [u] χ),λbase _ _=>tQ F S λaj A outer s H E hr=>J base _ aj A outer s H E hr]
def usS{p:eC_}(h:∀a us,aw!=n->p (a::us))(us:W!)(e:aw!=n+1):p us:=by
 cases us with
 |nil=>cases e
 |cons a us=>exact h a us (Nat.succ.inj e)
def jR{p:eC_}(h:∀a,p [a]):∀us:List α,aw!=1->p us:=usS λa us e=>by cases us with|nil=>exact h a|cons=>cases e
def lU{p:eC_}(h:∀a b,p O!):∀us:List α,aw!=2->p us:=usS λa=>jR (h a)
def us3{p:eC_}(h:∀a b c,p eD!):∀us:List α,aw!=3->p us:=usS λa=>lU (h a)
def us4{p:eC_}(h:∀a b c d,p [a,b,c,d]):∀us:List α,aw!=4->p us:=usS λa=>us3 (h a)
def us5{p:eC_}(h:∀a b c d e,p [a,b,c,d,e]):∀us:List α,aw!=5->p us:=usS λa=>us4 (h a)
def M0:Mh:=λ_=>υ
def c7n{ns:r_}(hS:Fw_ a cb!)(hg:g l5_ M0 λd _=>d=.bl τ):BH_ DK 1 g aU! H jF_ λ_ _ _=>False:=
 #[χ,H,l5_,M0,_,Ba.refl H,#[λa c e=>by rcases e],DD! (Ap.lst hS (zC ns)),hg,λd M' v G' H' r _ _ q=>by subst r;exact dA q]
end
end DL
namespace L2
open PySem PySem.Spec PyProof.Rows
def c6a
  (hN:br!)(f8:al!)(hx:bJ!)
  (c9:dm!)(df:dm_)(k8:∀y∈cd_,y.2=.local->scope.names.lookup y.1=DM! ψ)
  (iy:ha!)(cap:dl_)(calm:ax_)(ay:mJ!)
  (hg:ha_)(hi:vU_)(he:vV!)
  (hs:c6_:=by intro _;rfl)
  (gj:De! ip_ ss!=pure true:=by rfl)
  (hf:X.fn x=τ\/AN_ x=DM! some:=by first|exact .inl χ|exact .inr χ|assumption):
  PS X (Ez! [.Name x nh] ip_) (DH vV_ eO_):=by
 intro hb s Z H D I h;show"!|"
 rw[exec_Assign_Name_used x nh _ pos gj];exact MC (VB gw!);delta evalThenUse;exact MC (E4! hs);let#[it,fp,tn,af,H2,e,I2,T,bu,f2,hw]:=h2;subst e;exact Ep! T;rintro D' C us n ys H' s' I' eD rv ar nD hD hC j6 nC ⟨m,hn⟩ fin;let gg:∀b,b<T!->b≠C/\b≠D':=λb J=>vY!;let ql:∀x c,BG! x=ψ c->c<T!:=λx c h=>by let#[_,_,ho,_]:=G8! h;exact NP ho
 let sy:∀p∈X.pn++hb,p.1<T!:=λp hp=>G8_ hp;let ID:=I'.track eD rv ar nD (NW I2.sz hD) (NY (hb!).2) v1_ λp hp=>(jQ!).2;exact EA! VB;exact wpAny_bindName (xY ID hN f8 hx (v:=.ref D') χ (?_) hf);rintro s3 I3 ⟨a,sb,ha⟩;let haC:a≠C:=by
  obtain rfl|ha:=ha
  .exact(hb!).1
  .exact(gg _ (ql _ _ ha)).1
 exact#[m,hn.sameBut sb (NY haC),λh' c8=>?_];let nC':upd H' D' bu_ C=none:=by rw[bD (NY j6)];exact nC
 let IC:J2_ (Z.set i (DD_ D')) (upd H' D' bu_) {s3 with heap:=h',toks:=s3.toks}:=It_ I3.turned nC' λp hp=>(jQ!).1;exact H3! #[_,_,IC,fin D' nD]
end L2
namespace DL
open PySem PySem.Spec PyProof.Rows L2
section
variable{X:Cx}{own:List Nat}{tg:Expr}{fi:WI}{ft:WT}
def jN{pos p2:Pos}
  (hN:br!)(f8:al!)(hx:bJ!)
  (c9:dm!)(df:dm_)(k8:∀y∈cd_,y.2=.local->scope.names.lookup y.1=DM! ψ)
  (iy:ha!)(cap:dl_)(hix:jX_)(calm:ax_)(ay:qy_)
  (hg:ha_)(oo:oV!)(hi:By_)(he:Bz!)
  (b6:a0_:=by decide)(hs:c6_:=by intro _;rfl)
  (gj:De! ip_ (ψ ee!)=pure true:=by rfl)
  (hf:X.fn x=τ\/AN_ x=DM! some:=by first|exact .inl χ|exact .inr χ|assumption):
  MS X own own (Ez! [cK!] ip_) (Am i Bz_):=
 sC (c6a hN f8 hx c9 df k8 iy cap calm ay.ok hg hi xT! hs gj hf) λM0 G0 F0 E Z G H ρ M R sr e k1 k2=>⟨G,ρ,M,_,sr.st,e,λds ck M1 af G1 H1 r1 x1 m1 gi=>by
  let#[J,r1]:=r1;let qk:=Gb_ x1;exact b3o J gi oo BA! r1 λj8 ys M' G' H' r x m q _ p hp=>?_;exact k1 _ M' _ _ _ r ((((Bl_).grow x m).grow (.ext ho!) (m.ext ho!)).set b6 (cW oW! q))⟩
end
section
variable{X:Cx}{own:List Nat}{a b:Expr}{pos q1 q2 q3 q4 q5:Pos}{s1 s2 s3:Str}{j1 j2 j3:Nat}{fa fb:Ae->Option D}
def c8h{hb:w_}{Z:St}{G H:Hp}{ρ:Ae}{i:Int}{Q:G_}(h:K_)(I:e!)(er:sG!)(e:fa ρ=ψ U!)(hi:c8_<1920)
  (hQ:∀G' H' s' t,DP! G H->Jg_ H'->Q (.str c8! t) s'):I6! (eval (.FormattedValue a (-1) υ pos) X.env) Q:=by
 exact JE_ (h.ok hb s Z H (λv H'=>v=.int i/\∃G',Bo G H G' H') I #[G,ρ,_,er,e,λv G' H' x r=>#[bC r,G',x]]);rintro u s' ⟨x,H',I',r,rfl,G',xx⟩;show"#(";exact ID_ hi (hQ G' H' _ _ xx ((I'.tok _).tok _))
end
end DL
namespace XS
open PySem
abbrev frA(l:aq_):μ Addr:=l.filterMap (·.frame)
structure Kp(a7 fr:aQ_)(h h':Heap):Prop where
 old:∀b o,b∉a7->b∉fr->h.get? b=ψ o->Df! b=ψ o
 frm:∀b o,b∈fr->h.get? b=ψ o->∃sl,Df! b=ψ {o with slots:=sl}
 thr:∀b o,h.get? b=ψ o->∃o',Df! b=ψ o'
 sz:b6!<=js!
def Kp.trans(a:GX_ Y h2)(b:GX_ h2 h3):GX_ Y h3:=
 ⟨λx o l m e=>b.old x o l m rt!,λx o m e=>by
  let#[sl,e1]:=a.frm x o m e;let#[gu,e2]:=b.frm x _ m e1;exact#[gu,e2],λx o e=>by let#[o1,e1]:=a.thr x o e;exact b.thr x o1 e1,NW a.sz b.sz⟩
def Kp.weak(a:GX_ h h')(J:∀b∈a7,b∈yt):Kp yt fr h h':=#[λx o l m e=>a.old x o (λz=>l (J x z)) m e,a.frm,a.thr,a.sz]
def Kp.skip(a:GX_ Y h2)(b:Kp yt fr h2 h3)(J:∀x∈yt,x∈a7\/Y.get? x=υ):GX_ Y h3:=
 ⟨λx o l m e=>b.old x o (λz=>(J x z).elim l λq=>by rw[q]at e;cases e) m rt!,λx o m e=>by
  let#[sl,e1]:=a.frm x o m e;let#[gu,e2]:=b.frm x _ m e1;exact#[gu,e2],λx o e=>by let#[o1,e1]:=a.thr x o e;exact b.thr x o1 e1,NW a.sz b.sz⟩
def EC(o:Obj)(cls:v5!):Prop:=o.cls=cls/\o.dict=υ/\W.notCls o=τ
def EC.mapF{cls:v5!}{f:uP_}(h:EC o cls):EC (Obj.mapFields f o) cls:=by
 let#[Y,h2,h3]:=h;exact#[(Obj.cls_mapFields _ _).trans Y,?_,?_]
 .delta Obj.mapFields;split<;>exact h2
 .delta Obj.mapFields;split
  .rfl
  .exact h3
structure XN(n:Heap)(h:Heap)(e:sw!)(cls:v5!):Prop where
 new:n.get? e=υ
 ex:∃oe vs,h.get? e=ψ oe/\EC oe cls/\oe.data=Fs! vs/\vs[1]?=ψ .none
structure XF(n:Heap)(h:Heap)(e T:sw!)(cls fl:v5!):Prop where
 new:n.get? e=υ
 ex:∃oe vs oT ts,h.get? e=ψ oe/\EC oe cls/\oe.data=Fs! vs/\vs[1]?=DD_ T/\n.get? T=υ/\T≠e/\h.get? T=ψ oT/\oT.data=Fs! ts/\ts[3]?=ψ fl
section
variable{M:Model}{A:uB!}{E:Value->Shared->Prop}{s:yU!}{base:Heap}{env:Env}{outer:List Env}{L e:sw!}{n:Heap}{cls fl:v5!}{Q:Unit->Shared->Prop}
def d0q(hl:eD_)(hn:eE!)(he:n.get? e=υ):e∉frA bI_:=λhm=>by let#[o,q]:=hn e hm;rw[he]at q;cases q
def d0s{oe:Obj}{vs:bp_}{hadNext:Bool}(fh:ge!)(hl:eD_)(hf:ge_)(hn:eE!)(c7:gf!)
  (hne:n.get? e=υ)(he:yK_ e=ψ oe)(hc:EC oe cls)(hd:oe.data=Fs! vs)(bi:1<vs.size)
  (k:rw!):
  wpAny M A (do setField aB! 1 (<-EntryCells.newEntry Z1 (<-frameOf env) .none l7! .none (<-entryPlaceOf L hadNext))) Q E s:=by
 let Z2:=d0q hl hn hne;exact MC (wpAny_frameOf_fun fh hl hf λY so=>?_);exact MC (wpAny_entryPlaceOf λpl az=>?_);delta EntryCells.newEntry newFields;exact MC (PZ ?_ (az.sizeOk5 _ _ _ _ _));let e1:=(so.2.1 e Z2).trans he;let eT:=NP e1;generalize hob:({cls:=.type "traceback",dict:=none,data:=.fields (rx!).toArray}:Obj)=ob;let Z3:ob.data=.fields (rx!).toArray:=by rw[<-hob]
 let hobf:=SA Z3;let e2:(Y.push ob).get? e=ψ oe:=MJ _ e1;exact UA e2 hd bi ?_;let d3:=QZ hd rx_;let e3:=QE ry_ e2 (SA d3);let b9:∀b o,b≠e->Y.get? b=ψ o->F6! ry!=ψ o:=λb o J eb=>by
  rw[OF _ _ e6_];exact MJ _ eb
 let tT:(ry!).get? Y.objs.size=ψ ob:=by
  rw[OF _ _ (NZ eT)];exact NJ _ hobf
 let s1:=so.1.symm;exact k _ Y.objs.size (Gd! s1 NC) #[hne,_,_,ob,_,e3,hc.mapF,d3,by simp[bi],c7 _ a!,RA eT,tT,Z3,?_] #[λb o J hbf eb=>?_,λb o J eb=>?_,λb o eb=>?_,by rw[SY,RK,s1];exact QW _] (hl.of_keeps λb o eb uk=>?_)
 .obtain rfl|⟨_,_,_,_,_,_,_,rfl⟩:=az<;>simp
 .exact b9 b o gg! ?_;rw[so.2.1 b hbf];exact eb
 .show"#)";exact#[sl,b9 b _ (λz=>Z2 (z▸J)) lp]
 .show"#)";by_cases fq:b=e
  .subst fq;exact#[_,e3]
  .exact#[_,b9 b _ fq lp]
 .show"#)";exact#[_,b9 b _ (Ff! he hd) lp,χ]
def a5g(fh:ge!)(hl:eD_)(hf:ge_)(hn:eE!)(c7:gf!)(x:XN n s.heap e cls)
  (k:rw!):oY! M l8_:=by
 let#[hne,oe,vs,he,hc,hd,Y]:=x;delta noteFrame;simp![hf];exact MC l9!;rw[MZ (show¬((Value.none != Value.none)=τ)by decide)];exact Hz! d0s hne he hc hd (PX.mp Y).1 k
variable{T:sw!}
def yP(fh:ge!)(hl:eD_)(hf:ge_)(hn:eE!)(c7:gf!)(x:rA_)(hfl:fl≠rawInt L)
  (k:∀h' T',j!<=T'->XF n h' e T' cls l7!->E9! [e,T] h'->Eq_ bI_->Q () {s with heap:=h'}):oY! M l8_:=by
 let#[hne,oe,vs,oT,ts,he,hc,hd,Y,hT,q9,ht,lq,h3]:=x;delta noteFrame;simp![hf];exact MC l9!;rw[rB_];exact MC (OY ht lq h3 ?_);rw[MZ (show¬((fl==rawInt L)=τ)by simpa using hfl)];exact MC (UA ht lq (PX.mp h3).1 ?_);let b9:∀b,b≠T->F6! it!=s.heap.get? b:=λb J=>OF _ _ e6_;let yu:=d0q hl hn hT;let kp:E9! [e,T] it!:=
  ⟨λb o J _ eb=>by rw[b9 b gg!];exact eb,λb o J eb=>rD!,λb o eb=>by
   by_cases J:b=T
   .subst J;exact#[_,QE _ ht rD_]
   .exact#[o,by rw[b9 b J];exact eb],TY (SY ..).symm⟩
 let vx:(it!).FunFrames base bI_:=hl.of_keeps λb o eb uk=>⟨o,by
  rw[rE!];exact eb,χ⟩
 let hz:(it!).objs.size=j!:=SY ..;exact d0s fh vx hf hn (BG_ hz c7) hne (DT! rE_ he) hc hd (PX.mp Y).1 λh' T' a0 a1 a2 a3=>k h' T' (Di_ hz a0) a1 (kp.trans (a2.weak b!)) a3
def a2v(hl:Ez_ base l)(hn:∀b∈frA l,∃o,n.get? b=ψ o)(x:rA_)
  (k:∀h',ES_ h' rF!->Kp [T] (frA l) s.heap h'->Eq_ l->js!=j!->Q () {s with heap:=h'}):oY! M (setFlight aB! fo):=by
 let#[hne,oe,vs,oT,ts,he,hc,hd,Y,hT,q9,ht,lq,h3]:=x;let bi:=(PX.mp h3).1;delta setFlight;exact MC l9!;rw[rB_];let b9:∀b,b≠T->(D0_ T rG!).get? b=s.heap.get? b:=λb J=>OF _ _ e6_;let yu:T∉frA l:=λhm=>by let#[o,q]:=hn T hm;rw[hT]at q;cases q
 let self:=QE rG! ht rD_;exact UA ht lq bi (k _ #[hne,oe,vs,_,_,(rE_).trans he,hc,hd,Y,hT,q9,self,QZ lq _,by simp[bi]]
  ⟨λb o J _ eb=>by rw[b9 b gg!];exact eb,λb o J eb=>rD!,λb o eb=>by
   by_cases J:b=T
   .subst J;exact#[_,self]
   .exact#[o,by rw[b9 b J,eb]],TY (SY ..).symm⟩
  (hl.of_keeps λb o eb uk=>#[o,by rw[rE!];exact eb,χ]) (SY ..))
inductive Xq(n:Heap)(h:Heap)(e:sw!)(cls:v5!)(L:sw!):List Addr->Prop
 |new:XN n h e cls->FG_ h L [e]
 |on {T:sw!}:ES_ h .none->FG_ h L [e,T]
def d6w(fh:ge!)(hl:eD_)(hf:ge_)(hn:eE!)(c7:gf!)(x:FG_ s.heap L a7)
  (k:∀h' T,rH!->ES_ h' .none->E9! a7 h'->Eq_ bI_->Q () {s with heap:=h'}):oY! M (leaving env aB!):=by
 let Z4:∀{T:sw!},j!<=T->yK_ T=none:=λ{T} hT=>by
  cases q:yK_ T with
  |none=>rfl
  |some o=>exact C6_ (NP q) (Nat.not_lt.mpr hT)
 delta leaving;cases x with
 |new x=>
  exact MC (a5g fh hl hf hn c7 x λY T a0 a1 a2 a3=>?_);show"#!"
 |on x=>
  exact MC (yP fh hl hf hn c7 x rJ_ λY T a0 a1 a2 a3=>?_);show"#!"
end
open PySem.Spec PyProof.Rows L2
def CP(base:Heap)(P:yM!)(w:yK!):BS:=λouter H s E e s'=>∃(a T:sw!) (cls:v5!) (H':Hp),e=.ref a/\s'.os=s.os/\HS_ s'.gens/\FU! H/\Ko P w H' s'.heap/\
 XF s.heap s'.heap a T cls .none/\H' a=υ/\H' T=υ/\s'.heap.FunFrames base outer/\Hh! E
def Lo(m n:Heap):Prop:=∀b,n.get? b=υ->m.get? b=υ
def In(n h:Heap):Prop:=∀b,b6!<=b->n.get? b=υ
def Lo.in(l:Lo n h):In n h:=λb z=>l b (IT_ z)
def Lo.of(k:∀b o,h.get? b=ψ o->∃o',Df! b=ψ o'):Lo h h':=λb z=>by
 cases y:h.get? b with
 |none=>rfl
 |some o=>let#[o',e]:=k b o y;rw[z]at e;rcases e
def XF.low(x:ES_ h fl)(l:Lo m n):XF m h e T cls fl:=by let#[hne,oe,vs,oT,ts,he,hc,hd,Y,hT,r]:=x;exact#[l _ hne,oe,vs,oT,ts,he,hc,hd,Y,l _ hT,r]
def Xq.ge(x:md!):∀b∈a7,n.get? b=none:=by
 intro b J;cases x with
 |new x=>simp at J;subst J;exact x.new
 |on x=>
  let#[hne,oe,vs,oT,ts,he,hc,hd,Y,hT,r]:=x;simp at J;obtain rfl|rfl:=J
  .exact hne
  .exact hT
structure Nw(X:Cx)(hb:w_)(n:Heap):Prop where
 s0:∀b o,b∉X.ex->DA! b=ψ o->∃o',n.get? b=ψ o'
 loc:∃o,Ev_ n.get?=ψ o
 cel:∀x c,BG! x=ψ c->∃o,n.get? c=ψ o
 pin:∀p∈X.pn++hb,∃o,n.get? p.1=ψ o
 frm:∀b∈frA X.stack,∃o,n.get? b=ψ o
def Eb.there(x:l2!):∃u,h.get? a=ψ u:=by
 cases o with
 |lst xs=>let#[_,_,_,_,e]:=x;exact bv!
 |tup xs=>let#[_,_,_,_,e,_]:=x;exact bv!
 |dK h1=>let#[_,_,_,_,o,_,_,e,_]:=x;exact bv!
 |dT h1=>let#[_,_,_,_,o,_,_,e,_]:=x;exact bv!
 |set S n=>let#[o,_,_,_,e,_]:=x;exact bv!
 |ins C dx fs=>let#[_,_,_,e,_]:=x;exact bv!
 |own y=>let#[_,e]:=x;exact bv!
 |xd fs=>let#[_,#[_,_,_,e,_],_]:=x;exact bv!
 |rng lo hi=>let#[_,_,_,e]:=x;exact bv!
 |frz ob u=>let#[e,_]:=x;exact bv!
 |tbl ps=>exact#[_,in_]
 |met f y=>exact#[_,in_]
 |ext φ=>let#[_,#[_,e],_]:=x;exact bv!
def Ko.none(x:a8!)(e:h.get? a=υ):H a=none:=by
 cases q:H a with
 |none=>rfl
 |some u=>
  let#[o,ho]:=Eb.there (x a u q);rw[e]at ho;rcases ho
section
variable{X:Cx}{hb:List (Addr×Obj)}{Z:L2.St}{H H':Hp}{s:yU!}{h':Heap}{a7:List Addr}{n:Heap}
def Nw.here(I:e!):Nw X hb s.heap where
 s0:=λb o hx e=>I.base.there b o e hx
 loc:=by let#[m,#[o,_,_,ho,_],_]:=I.loc;exact md_
 cel:=λx c h=>by
  let#[v,o,ho,_]:=FE! x h;exact md_
 pin:=λp hp=>#[_,(mz!).1]
 frm:=λb J=>by
  let#[_,o,ho,_]:=I.stack.mem J;exact md_
def c8g(I:e!):∀b∈frA X.stack,H b=none:=I.stkFree
def c4e(I:e!)(N:Nw X hb n)(u:FL_ a7 H' h')(hok:is_)(hg:ma_)(J:∀b∈a7,n.get? b=υ):
  Inv X hb Z H' {s with heap:=h',gens:=g',drawn:=d',toks:=t'}:=by
 let nb:∀b∈a7,∀o,n.get? b≠ψ o:=λb h o z=>by rw[J b h]at z;rcases z
 let n0:∀b∈a7,b∈X.ex\/DA! b=n5_:=λb h=>by
  by_cases hx:b∈X.ex
  .exact .inl hx
  .exact .inr ?_;cases q:DA! b with
   |none=>rfl
   |some o=>let#[o',e]:=N.s0 b o hx q;exact H3_ (nb b h o')
 let nl:∀b∈a7,b≠X.env.locals:=λb h z=>by subst z;let#[o,e]:=N.loc;exact nb _ h o e
 let nc:∀b∈a7,∀x c,BG! x=ψ c->c≠b:=λb h x c hc z=>by subst z;let#[o,e]:=N.cel x c hc;exact nb _ h o e
 let np:∀b∈a7,∀p∈X.pn++hb,p.1≠b:=λb h p hp z=>by subst z;let#[o,e]:=N.pin p hp;exact nb _ h o e
 let nf:∀b∈a7,b∉HS! frs:=λb h z=>by let#[o,e]:=N.frm b z;exact nb _ h o e
 let nfs:∀b∈a7,b∉X.fs:=λb h z=>by
  exact nf b h ?_;obtain e|⟨e,ef⟩:=I.ok.stk
  .rw[e];exact z
  .rw[e];simp![frs,TU,ef];exact MF _ z
 let ok:=I.ok
 let -nondep X':Cx:={X with ex:=X.ex++a7}
 let k1:∀b∈X.ex++a7,b≠X.env.locals/\∀x c,BG! x=ψ c->c≠b:=λb g7=>by
  obtain q|q:=ND.mp g7
  .exact ok.exf b q
  .exact#[nl b q,nc b q]
 let k2:∀b o,E5_ b=ψ o->b∉X.ex++a7:=λb o e z=>by
  obtain q|q:=ND.mp z
  .exact ok.noex b o e q
  .obtain r|r:=n0 b q
   .exact ok.noex b o e r
   .rw[(ok.bs b o e).1]at r;rcases r
 let k3:∀b∈X.ex++a7,b∉X.fs:=λb g7=>by
  obtain q|q:=ND.mp g7
  .exact ok.exfs b q
  .exact nfs b q
 let ok':X'.Ok:=#[ok.mod,ok.kind,ok.glob,ok.blt,iD_,ok.inj,ok.has,ok.cab,ok.hd,iE!,ok.stk,k1,ok.bs,ok.bsz,k2,k3,ok.funs,ok.frf];let I':EO! X' hb:=#[ok',I.os,I.bare,I.base.mono (λ_ z=>z) (λ_ z=>NM _ z),I.loc,I.cell,I.free,I.freeC,I.pin,I.hok,I.len];let J':=I'.call (t':=t') (d':=d') u hok hg λb h=>#[.inl (MY _ h),nl b h,nc b h,np b h];let out:∀b o,DA! b=ψ o->b∉X.ex->b∉X.ex++a7:=λb o e hx z=>by
  obtain q|q:=ND.mp z
  .exact hx q
  .obtain r|r:=n0 b q
   .exact hx r
   .rw[e]at r;rcases r
 let B:=J'.base;exact⟨ok,J'.os,J'.bare,#[λb o e m hf hx=>B.keep b o e m hf ix!,λb o e m hf hx=>B.slot b o e m hf ix!,λb o e m hx=>B.free b o e m ix!,λb o e hx=>B.there b o e ix!,B.tups,B.frzs,B.tbls],
  J'.loc,J'.cell,J'.free,J'.freeC,J'.pin,J'.hok,J'.len⟩
def d5l(kp:mf_):FL_ a7 H h' where
 keep:=λb o e _ hf J=>kp.old b o J hf e
 slot:=λb o e _ hf _=>kp.frm b o hf e
 free:=λ_ _ _ n _=>n
 there:=λb o e _=>kp.thr b o e
 tups:=λ_ _ e=>e
 frzs:=λ_ _ _ e=>e
 tbls:=λb ps e=>me!
def d3r(I:e!)(kp:mf_)(J:∀b∈a7,H b=υ):Dw_ Ko H h':=λb u e=>
 (me_).stay (λd o hd eo=>by
  let iu:∃u,H d=ψ u:=by
   obtain rfl|hd:=hd
   .exact#[u,e]
   .exact#[_,hd]
  let#[v,hv]:=iu;exact kp.old d o (λz=>by rw[J d z]at hv;rcases hv) (λz=>by rw[c8g I d z]at hv;rcases hv) eo) gc_ λ_ _ q=>q
def a2n(I:e!)(N:Nw X hb n)(kp:mf_)(J:∀b∈a7,H b=υ/\n.get? b=υ):oX! H {s with heap:=h'}:=
 c4e I N (d5l kp) (d3r I kp λb h=>(J b h).1) I.bare λb h=>(J b h).2
end
def c8l{h base:Heap}{outer:aq_}(x:h.FunFrames base bI_):h.FunFrames base outer:=x.2.2
section
variable{P:yM!}{w:yK!}{KF:zA!}{mg:Str->Option Value}{base:Heap}{N:List Str}{qual:Str}{scope:Scope}{f:sw!}{cd:v5!}{A:uB!}{outer:List Env}{s s1:yU!}{H H1:Hp}{E E':XK}{hb:List (Addr×Obj)}{Z:L2.St}{n:Heap}{e:sw!}{cls:v5!}{a7:List Addr}
def c1j(I:Inv iy! hb Z H1 s1)(Nn:Nw iy! hb n)(c7:In n s1.heap)
  (x:FG_ s1.heap s.heap.objs.size a7)(J:∀b∈a7,H1 b=υ)(q:E cls υ H1):
  (iy!).xe aB! s1:=by
 exact d6w I.ok.frames I.stack χ Nn.frm c7 x λh' T hT xf kp ff=>?_;let af:=a2n I Nn kp λb h=>rP_;exact#[e,T,cls,H1,χ,af.os,af.bare,af.base,af.hok,xf.low (λb z=>?_),?_,?_,c8l ff,q]
 .cases y:yK_ b with
  |none=>rfl
  |some o=>
   let#[o',e']:=Nn.s0 b o (λz=>by exact(MN z).elim) y;rw[z]at e';rcases e'
 .cases x with
  |new _=>exact J e b!
  |on _=>exact J e b!
 .obtain h|h:=hT
  .exact J T h
  .exact EE! h
end
def KY:μ Value:=[rS_,rT!,rS!,rT_]
structure IG(KF:zA!)(N:sw!):Prop where
 mk::
 at_:∃c d es ep sl,Ec_ N=ψ #[c,d,.dict es ep,sl]/\(DG_ es.all)=τ
 no:FK! N=ψ υ
def ES(KF:zA!)(C:sw!):Prop:=∃B N nm q bs hdct sn sub ab col dd k0 k1 k2 k3 k5 c0 d1 cd sl,Ec_ C=C8_ (.ref B::KY)/\Ec_ B=ψ #[c0,d1,.cls cd,sl]/\IG KF N/\IG KF cd.ns
def c2u{KF:zA!}{sub:o_}{k0 k1 k2 k3 k5:Da_ Value}
  (la:Ec_ C=C8_ [.ref B,rS_,rT!,rS!,rT_])(lb:Ec_ B=ψ #[c0,d1,.cls {name:=nm1,bases:=bs1,mro:=mro1,ns:=N1,qualname:=q1,hasDict:=hdct1,slotNames:=sn1,subclasses:=sub1,abstract:=ab1,collection:=col1,hasDel:=del1},sl])
  (lc:Ec_ N=ψ #[c2,d2,.dict es ep,s2])(ld:(DG_ es.toList.all)=τ)(le:FK! N=ψ υ)(lf:Ec_ N1=ψ #[c3,d3,.dict es1 ul,s3])(lg:(DG_ es1.toList.all)=τ)(lh:FK! N1=ψ υ):ES KF C:=
 #[B,N,nm,q,bs,hdct,sn,sub,ab,col,dd,k0,k1,k2,k3,k5,c0,d1,_,sl,la,lb,#[Fj! lc ld,le],#[Fj! lf lg,lh]]
def IG.ok{KF:zA!}(n:IG KF N):W.nsOkIn KF N=true:=by let#[#[c,d,es,ep,sl,e1,e2],_]:=n;delta W.nsOkIn;rw[e1];exact e2
def d3u{KF:zA!}(X:fJ_)(q:ES KF C):∃bm N nm q bs hdct sn sub ab col dd k0 k1 k2 k3 k5 mN,h.get? C=C8_ bm/\h.Ns N mN/\mN "__init__"=υ/\OwnTail h KY bm:=by let#[B,N,nm,q,bs,hdct,sn,sub,ab,col,dd,k0,k1,k2,k3,k5,c0,d1,cd,sl,l1,l2,n1,n2]:=q;exact#[_,N,nm,q,bs,hdct,sn,sub,ab,col,dd,k0,k1,k2,k3,k5,_,X _ _ l1,.of_isNs (W.isNs_of_in X n1.ok),W.nsMap_none_of_in X n1.ok n1.no,.own (X _ _ l2) (.of_isNs (W.isNs_of_in X n2.ok)) (W.nsMap_none_of_in X n2.ok n2.no) .base]
section
variable{X:Cx}{hb:List (Addr×Obj)}{Z:L2.St}{H:Hp}{s:yU!}{h':Heap}{e C:sw!}{cls:v5!}{args:List Value}
def made(I:e!)(m:DY! Heap.MadeExcOf h' e cls args):oX! H {s with heap:=h'}/\DY! XN h' e cls/\H e=none:=by exact#[I.un (Un.kept m.keeps) (I.hok.kept m.keeps),#[m.new,?_],Ko.none I.hok m.new];let#[t,ht,_]:=m.there;exact#[_,_,ht,pL_,χ,χ]
def b8y{R:rX_}(hC:ES X.K C)(hh:eF!=υ)(hg:J!)(hm:gC!)(he:PE X ex te)
  (hR:∀(hb:w_) (Z:L2.St) (H:Hp) (s:yU!) (h':Heap) (e:sw!) (n:Heap),oX! H {s with heap:=h'}->Nw X hb n->In n h'->XN n h' e aa_->H e=υ->R aa_ H->X.xe aB! {s with heap:=h'})
  (a8:y!:=by decide)(hst:rY_:=by rfl):
  PS X rZ! rZ_:=by
 intro hb s Z H D I h;let#[bm,N,nm,q,bs,hdct,sn,sub,ab,col,dd,k0,k1,k2,k3,k5,mN,c1,c2,hni,c3]:=d3u I.ok.mod.kin hC;exact wpAny_Raise_call_subU (nm:=nm) (q:=q) (N:=N) (bs:=bs) (hdct:=hdct) (sn:=sn) (sub:=sub) (ab:=ab) (col:=col) (dd:=dd) (k0:=k0) (k1:=k1) (k2:=k2) (k3:=k3) (k5:=k5) PySem.F.excBase_ValueError a_ PySem.F.excBase_ValueError (c3.hasType a_) hh (EX_ hst) hni (iS I hg hm j_ a8);rw[hst];exact SH (QI c4_);rintro u s1 ⟨v,H1,I1,r1,q1⟩;exact SK ?_;exact#[χ,by simp[sizeLine],I1.bk _ _ c1,c2.keeps I1.bk,c3.keeps I1.bk,λh' e m=>?_];let#[af,xn,hn]:=made I1 m;exact hR hb Z H1 s1 h' e s1.heap af (Nw.here I1) (Lo.of λb o y=>#[o,m.keeps b o y]).in xn hn q1
end
def Xq.at(x:md!):FG_ h L' a7:=by
 cases x with
 |new x=>exact .new x
 |on x=>exact .on x
def Xq.mem(x:md!):e∈a7:=by cases x<;>simp
section
variable{M:Model}{A:uB!}{E:Value->Shared->Prop}{s:yU!}{base:Heap}{env:Env}{outer:List Env}{L e:sw!}{n:Heap}{cls fl:v5!}{Q:Unit->Shared->Prop}{a7:List Addr}
def d8c(fh:ge!)(hl:eD_)(hf:ge_)(hn:eE!)(c7:gf!)(x:FG_ s.heap L0 a7)
  (k:∀h' T fl,rH!->ES_ h' fl->E9! a7 h'->Eq_ bI_->Q () {s with heap:=h'}):oY! M l8_:=by
 cases x with
 |new x=>exact Hz! a5g x λY T a0 a1 a2 a3=>k Y T _ iu_ a1 a2 a3
 |on x=>exact Hz! yP x rJ_ λY T a0 a1 a2 a3=>k Y T _ iu_ a1 a2 a3
end
def Lv(X:Cx)(R:rX_):Prop:=∀(hb:w_) (Z:L2.St) (H:Hp) (s:yU!) (n:Heap) (a:sw!) (cls:v5!) (a7:aQ_),oX! H s->Nw X hb n->In n s.heap->Xq n s.heap a cls 0 a7->(∀b∈a7,H b=υ)->R cls H->X.xe M_ s
def d6s{KF:zA!}:
  Lv iy! λcls H'=>Hh! E:=λhb Z H1 s1 n a cls a7 I Nn i x J q=>c1j I Nn i x.at J q
def c6l(hX:Lv X R)(hE:∀cls H',Hh! E'->R cls H'):Jl (CP X.base X.prog X.w) X E':=by
 intro hb Z H s e s' I h;let#[a,T,cls,H',rfl,os,bare,un,hok,xf,ha,hT,ff,q]:=h;let#[hh,g,d,t,jf]:=s';obtain rfl:jf=s.os:=os;let af:=I.call (d':=d) (t':=t) un hok bare tO!;exact hX hb Z H' _ s.heap a cls _ af (Nw.here I) (Lo.of λb o y=>un.there b o y b!).in (.on xf) iv_ (hE _ _ q);simp at J;obtain rfl|rfl:=J
 .exact ha
 .exact hT
def b4n(hX:Lv X R)(hC:ES X.K C)(hh:eF!=υ)(hg:J!)(hm:gC!)(he:PE X ex te)
  (a8:y!:=by decide)(hst:rY_:=by rfl):
  PS X rZ! rZ_:=
 b8y hC hh hg hm he (λhb Z H s h' e n I N i x hn q=>hX hb Z H _ n e _ _ I N i (.new x) (λb J=>by simp at J;subst J;exact hn) q) a8 hst
open PySem.W
abbrev CQ(X:Cx)(pn:w_)(f:G_):Cx:={X with pn:=pn,xe:=f}
abbrev Yb(X:Cx)(e:sw!)(pn:w_):Cx:={X with A:=X.A.mark (ψ aB!),calm:=θ,pn:=pn,xe:=λ_ _=>False}
section
variable{X:Cx}{hb sf pn:List (Addr×Obj)}{Z ae:L2.St}{H:Hp}{s:yU!}{f:Value->Shared->Prop}{e a:sw!}{oe:Obj}
def wC(I:e!)(ok:ja.Ok)(hY:ja={X with A:=ja.A,calm:=ja.calm,pn:=ja.pn,xe:=ja.xe})(hp:∀p∈ja.pn++sf,s.heap.get? p.1=ψ p.2/\H p.1=υ/\p.1≠X.env.locals/\p.1∉X.fs/\∀v,p.2.data≠.cell v)
  (hl:ae.length=eF_)(hs:∀(i:δ) (v:V),ae[i]?=ψ aD!->Z[i]?=ψ aD!):Inv ja sf ae H s:=by
 let#[m,hn,h]:=I.loc;let:=I.len;rw[hY];exact#[hY▸ok,I.os,I.bare,I.base,#[m,hn,λi x v e1 e2 e3=>h i x v e1 (hs i v e2) e3],I.cell,I.free,I.freeC,hp,I.hok,hl.trans I.len]
def d7y(ok:X.Ok):(eI_).Ok:=iE_
def d2m(ok:(eI_).Ok):X.Ok:=iE_
def d6f(ok:X.Ok):(Yb X e pn).Ok:=#[ok.mod,ok.kind,ok.glob,ok.blt,iD_,ok.inj,ok.has,ok.cab,λz=>Bool.noConfusion z,iE!,ok.stk,ok.exf,ok.bs,ok.bsz,ok.noex,ok.exfs,ok.funs,ok.frf]
def d7z(ok:(Yb X e pn).Ok)(hd:X.calm=τ->eF!=υ):X.Ok:=#[ok.mod,ok.kind,ok.glob,ok.blt,iD_,ok.inj,ok.has,ok.cab,hd,iE!,ok.stk,ok.exf,ok.bs,ok.bsz,ok.noex,ok.exfs,ok.funs,ok.frf]
def b6g(I:e!)(qc:Ev_ h'.Ns m')(hs:Dh! X.env.locals)
  (hl:∀(j:δ) (y:Str) (v:V),X.N[j]?=ψ y->ae[j]?=ψ aD!->Yj X.env.scope y->∃u,Bj v u/\GZ X.env h' m' y u)(len:ae.length=X.N.length):J2_ ae H {s with heap:=h',toks:=t}:=by
 let ne:∀b o,DA! b=ψ o->b≠X.env.locals:=λb o e=>NZ l9_;exact#[I.ok,I.os,I.bare,#[λb o e n J hx=>(mm_).trans iu!,gg_,I.base.free,mb_,I.base.tups,I.base.frzs,I.base.tbls],#[_,qc,hl],λy c e=>?_,I.free,I.freeC,c1_,λb ob e=>?_,len]
 .show"!F";exact EK_ sl mm_
 .show"!@";exact EK_ o' mm_
 .let#[w',z]:=FE! y e;exact#[w',z.sameBut hs (I.cne y c e)]
 .show"!R";exact rW_
 .exact(rQ!).stay rQ_ gc_ λ_ _ q=>q;rintro rfl;obtain rfl|hc:=hc
  .rw[I.free]at e;rcases e
  .rw[I.free]at hc;rcases hc
end
structure BR(KF:zA!)(C0:sw!):Prop where
 tup:W.instIn KF aK_ aZ!=ψ θ
 cls:∃cd,W.clsIn KF C0=ψ cd
 exc:W.subIn KF aK_ r5_=ψ τ
def d4r{KF:zA!}(ta:W.instIn KF aK_ aZ!=ψ θ)(tb:W.clsIn KF C0=ψ cd)(tc:W.subIn KF aK_ r5_=ψ τ):BR KF C0:=#[ta,#[_,tb],tc]
def a9k{KF:zA!}(X:DY! KF.In)(C:BR KF C0)(he:yK_ a=ψ oe)(hc:oe.cls=.ref c)(hs:FA! KF=ψ τ)
  (h:Q τ s):oY! M (excMatches M_ aK_):=by
 let#[hh,g,d,tk,os]:=s;let#[Y,h2,h3]:=C;let L1:=W.looks_instIn (M:=M) X Y;let L2:=W.looks_subIn (M:=M) X h3;let L3:=W.looks_subIn (M:=M) X hs;let Lt:IE! isType:=by
  let#[cd,h2]:=h2;delta W.clsIn at h2;split at h2
  .rename_i ho;intro A' Q' E' s' k q;delta isType loadHead;exact MC (XG (k _ _ (X _ _ ho)) (MH q))
  .rcases h2
 let Le:IE! isExcClass:=Lt.andThen L2;let Ly:Looks M hh (typeOf M_) a7_:=λA' Q' E' s' k q=>MC r7!;delta excMatches;exact EA! L1.at;rw[d1_];exact MC ab_;show"#8";rw[SD];exact Jr! (EA! Le.at);simp![SG,OC,PC];exact MH ?_;show"#8";rw[WH];exact MH (EA! Ly.at);rw[SD];exact Jr! (EA! L3.at);dsimp only[if_true];exact MH kX!
structure EO(X:Cx)(xC en xn:Str)(C0 L:sw!)(ie ix:Nat):Prop where
 hst:X.stack=X.env::X.outer
 hf:X.env.frame=ψ L
 hcalm:X.calm=τ->eF!=υ
 hN:br!
 hie:X.N[ie]?=ψ en
 hix:X.N[ix]?=ψ xn
 hne:en≠xn
 hke:AN_ en=DM! ψ
 hkx:AN_ xn=DM! ψ
 hg:Gl X xC
 hm:X.mg xC=ψ aK_
 C:BR X.K C0
def Pz(n ix:δ)(v:V):L2.St:=(sa!).set ix aD!
section
variable{X:Cx}{hb:List (Addr×Obj)}{D:Uu}{xC en xn:Str}{cp xp ap hp:Pos}{he:Expr}{C0 L:sw!}{ie ix:Nat}{hv:Addr->Option V}
nonrec def xT(X:Cx)(hb:w_)(D:Uu)(h0:ExceptHandler):Value->Shared->Prop:=λe ao=>Be_ (noteFrame e X.env) (λ_ av=>wpAny h_ X.A (setFlight e υ) (λ_ fz=>wpAny h_ X.A (handleBy e X.env [h0]) mk_ X.xe fz) X.xe av) X.xe ao
def d3c(tc:mo!)
  (um:sa_)
  (gj:mo_)(a8:gi!):
  Lv sd! λcls H'=>∃c v,cls=.ref c/\subIn X.K a7_ aK_=ψ τ/\hv c=ψ v/\D.nx mq! H':=by
 let#[hst,hf,hcalm,hN,hie,hix,hne,hke,hkx,hg,hm,C]:=tc;intro sf ae H' s' n a cls a7 I Nn i x J q;let#[c,v,rfl,ow,hvc,hD]:=q;let fh:X.A.frames=ψ iB_:=by rw[<-hst];exact I.ok.frames
 let c7:∀b∈frA iB_,∃o,n.get? b=ψ o:=by rw[<-hst];exact Nn.frm
 let hl:s'.heap.FunFrames X.base iB_:=by rw[<-hst];exact I.stack
 exact d8c fh hl hf c7 i x λY T fl a0 a1 a2 a3=>?_;let hTn:H' T=none:=by
  obtain z|z:=a0
  .exact J T z
  .exact EE! z
 let hTg:=let⟨_,_,_,_,_,_,_,_,_,z,_⟩:=a1;z;rw[<-hst]at a2;let J1:=a2n I Nn a2 λb h=>rP_;let tk:∀b∈[T],H' b=υ/\n.get? b=none:=λb h=>by simp at h;subst h;exact#[hTn,hTg]
 exact a2v a3 c7 a1 λh2 b1 b2 b3 b4=>?_;rw[<-hst]at b2;let J2:=a2n J1 Nn b2 tk;exact wpAny_handleBy_cons (codeAny_handlers_test ?_) (by intro q;cases q);let I2:Hh_ cG_ ae H' {s' with heap:=h2}:=wC (ok:=d6f (d2m J2.ok)) J2 χ (HL_ J2.pin (NM _ mr!)) χ λ_ _ z=>z;exact iS I2 hg hm ?_ a8;let#[g9,oe2,ZD,oT2,ts2,e2,c2,d2,r2]:=id b1;exact a9k I2.kIn C e2 c2.1 ow ?_;dsimp only;exact codeAny_handlers_suite_as ?_;exact a2v b3 c7 b1 λh3 c1' Z5 c3 c4=>?_;rw[<-hst]at Z5;let J3:=a2n J2 Nn Z5 tk;let#[_,oe,vs3,oT3,ts3,e3,cc3,d3,r3]:=c1';let ym:=J _ x.mem;let oz:a≠X.env.locals:=λz=>by subst z;let#[o,w]:=Nn.loc;rw[show Ev_ n.get?=ψ o from w]at g9;rcases g9
 let haf:a∉X.fs:=λz=>by
  let#[o,w]:=c7 a (by
   show a∈List.filterMap _ iB_;rw[TU,hf];exact MF _ z)
  rw[g9]at w;rcases w
 let I3:Hh_ gj! ae H' {s' with heap:=h3}:=wC (ok:=d6f (d2m J3.ok)) J3 χ (λp hp=>by
  rw[OA]at hp;obtain hp|hp:=ND.mp hp
  .exact J3.pin p iP_
  .simp at hp;subst hp;exact#[e3,ym,oz,haf,λv z=>by rw[d3]at z;cases z]) χ λ_ _ z=>z
 exact uC (X:=Yb X a gj!) (v:=bL!) I3 hN hie (.inl hke) χ (λs4 I4=>?_) (.inr hke);let he4:ms![ie]?=ψ kf_:=H5_ I3.len hie;let P:=jK (uU (X:=Yb X a gj!) hN hix (.inl hkx) (um a gj! oe c b! cc3) gj (.inr hkx));exact PF (P [] s4 _ H' {nx:=λσ5 H5=>σ5=(ms!).set ix aD!/\H5=H',rt:=λ_ _=>False} I4 #[he4,v,hvc,χ,χ]) (λf s5 z=>?_) λ_ _ z=>z.elim;cases f<;>first|(let#[_,_,_,z]:=z;exact z.elim)|(let#[_,_,_,_,_,z]:=z;exact z.elim)|skip
 let#[_,_,I5,rfl,rfl]:=z;dsimp only;let#[m,hn,hlk]:=id I5.loc;let hix5:ix<((ms!).set ix aD!).length:=by rw[I5.len];exact(NE.mp hix).1
 exact wpAny_nameGoes_keeps hke hn (by rw[show X.env.scope.kind=.function from I5.ok.kind];rfl) λh6 w hn6 Z6=>?_;let I6:Hh_ gj! mq! _ {s5 with heap:=h6,toks:=s5.toks+1}:=b6g I5 hn6 Z6 (λj y u e1 e2 e3=>by
  let hj:j=ix:=by
   by_cases z:j=ix
   .exact z
   .delta Pz at e2;rw[NX (NY z),QY]at e2;split at e2<;>cases e2
  subst hj;rw[show X.N[j]?=ψ xn from hix]at e1;rcases e1;delta Pz at e2;rw[H5_ RQ hix]at e2;cases e2;let#[u',r',lk]:=hlk j _ _ hix (OI (Db! hix5)) e3;exact mh_;obtain⟨k,e⟩|⟨k,c,e,z⟩:=lk
  .exact .inl #[k,by simp[NY hne,e]]
  .exact .inr #[k,c,e,z.sameBut Z6 (I5.cne _ c e)]) (by delta Pz;simp)
 exact#[_,_,wC (ok:=d7z I6.ok hcalm) I6 χ (HL_ I6.pin (by simp![OA];exact NM _ hp)) χ λ_ _ z=>z,hD]
def d1t{body:eI!}{t:(Value->Hp->ν)->TS}(tc:mo!)
  (um:sa_)
  (J:∀pn f R,Lv eI_ R->G4_ eI_ (t R))
  (gj:mo_:=by rfl)(a8:gi!:=by decide):
  PS X sg_ λD Z H=>t (λcls H'=>∃c v,cls=.ref c/\subIn X.K a7_ aK_=ψ τ/\hv c=ψ v/\D.nx mq! H') D Z H:=by
 intro hb s Z H D I h;let lv:=d3c (cp:=cp) (hp:=hp) (hb:=hb) (D:=D) tc um gj a8;exact wpAny_Try_except (PF (J _ _ _ lv [] s Z H D (wC (ok:=d7y I.ok) I χ (HL_ I.pin mr!) χ λ_ _ z=>z) h) (λf s1 z=>?_) λe s1 z=>z);let v3:∀{bx H1},Inv sd! [] bx H1 s1->J2_ bx H1 s1:=λaf=>wC (ok:=d2m af.ok) af χ (HL_ af.pin mr!) χ λ_ _ z=>z;cases f with
 |next=>let#[bx,H1,af,q]:=z;exact UN mt_
 |brk=>let#[bx,H1,af,q]:=z;exact mt_
 |cont=>let#[bx,H1,af,q]:=z;exact mt_
 |ret u=>let#[v,bx,H1,af,r,q]:=z;exact#[v,bx,H1,v3 af,r,q]
end
end XS
namespace DL
open PySem PySem.Spec PyProof.Rows L2 XS
abbrev EK:=Addr->Mh->ν
abbrev EN:=μ D->Mh->p4_->EK->ν
def XR(P:yM!)(w:yK!)(KF:zA!)(M0:Mh)(G0 F0:Hp)(E:EK):Value->Hp->Prop:=λcls H'=>∃c M' G',cls=.ref c/\E c M'/\E0! M'/\I5! M'
def LN(P:yM!)(w:yK!)(KF:zA!)(n:δ)(g:EN):Sp:=λvs H Q E=>ba!=n/\∃G ds M R EM,Ba G H/\Jb_ M/\C1_ G/\g ds M R EM/\(∀d M' v G' H',R d M'->XM M G H M' G' H'->MR P w KF M' G' H'->Ap KF G' d v->Q v H')/\∀cls H',BH_ XR M G H EM cls H'->Hh! E
def GV(P:yM!)(w:yK!)(KF:zA!)(mg:Q!)(base:Heap)(k:δ)(x:Str)(ps:D!)(g:EN):Prop:=
 ∃ag fd,BH_ Ez mg base mg! k ag fd ps (LN P w KF ps.length g)/\DC_ KF/\mg x=ψ bi_/\J4! KF=τ
section
variable{P:yM!}{w:yK!}{KF:zA!}{mg:Str->Option Value}{base:Heap}{k:Nat}{x:Str}{N ps:List Str}{st:Stmt}
def a9e{q:iG!}(d:pD!)(S:dk_)
  (J:∀{ag:sw!} {aj:v5!} {A:uB!} {outer:aq_} {s:yU!} {H:Hp} {E:XK} {M0:Mh} {G0 F0:Hp} {EM:EK},Ah k kO!->Lv sh_ (XR P w KF M0 G0 F0 EM)->N.Nodup->
   Nz sh_ bx_ (BH_ EY M0 G0 F0 [] [] (q EM))):
  GV P w KF mg base R! x ps λds M R E=>Bk N ps.length (q E) ds M R:=by
 let#[ag,fd,F,B,m]:=d;exact#[ag,fd,?_,B,m,F.kp];show"!K";exact d0r lk bw S yf! λA outer s H vs Q E hr h=>?_;let#[hl,G,ds,M,R,EM,sub,m,r,e,kk,ke]:=h;exact#[_,J hr (λhb Z H1 s1 n a cls a7 I Nn i y z q=>d6s hb Z H1 s1 n a cls a7 I Nn i y z (ke cls H1 q)) S.nd,?_];let er:=uD (N:=N) sub r;exact BE_
end
section
variable{X:Cx}{own bd ik:List Nat}{st:Stmt}{rest body b1 b2:List Stmt}{e c:Expr}{es:List Expr}{pos p2:Pos}{f:WE}{fs:WA}{ft:WT}{q1 q2:WS}{M0:Mh}{G0 F0:Hp}{E:EK}
abbrev TX(X:Cx)(M0:Mh)(G0 F0:Hp)(own cr:g_)(q:WS):TS:=rJ! EY M0 G0 F0 own cr q
def b5o(h:qr!):PS X st iG_:=h.ok M0 G0 F0
def b5p(h:Vd X.nox own bd rest q1):Nz X rest iG_:=Nz.nox (h.ok M0 G0 F0)
def iQ(Y:PS X st iG_)(h2:Nz X rest (TX X M0 G0 F0 bd ik q2)):Nz X iF_ (Ff_ ik (Ag q1 q2)):=λhb s Z H D I ⟨G,ρ,M,R,sr,e,k1,k2⟩=>
 uT Y h2 hb s Z H D I Bg!
def c0q(hc:hY_)(Y:Nz X b1 iG_)(h2:Nz X b2 (Ff_ bd q2)):PS X o1! (Ff_ bd qs_):=by
 rintro hb s Z H D I ⟨G,ρ,M,R,sr,e,k1,k2⟩;exact GE_ Y h2 D I Bi!;cases b with
 |true=>exact kL lr!
 |false=>exact lK lr!
def Nb(C:sw!)(E:EK)(f:WE):WS:=λρ M _=>f ρ M λ_ M1=>E C M1
def vI(hX:Lv X mv!)(hC:ES X.K C)(hh:eF!=υ)(hg:J!)(hm:gC!)(he:b1!)
  (a8:y!:=by decide)(hst:C7_ [e]=[dW!]:=by rfl):
  PS X (.Raise (Gd_ e) υ pos) (Ff_ bd (Nb C E f)):=λhb s Z H D I ⟨G,ρ,M,R,sr,e',k1,k2⟩=>
 b4n hX hC hh hg hm he.ok a8 hst hb s Z H D I #[G,ρ,M,_,sr.st,e',λd M' v G' H' r x m q=>#[C,M',G',χ,r,sr.x.trans x sr.st.mr,m]]
def Yp(P:yM!)(w:yK!)(KF:zA!)(M0:Mh)(G0 F0:Hp)(own:g_)(f:WE):TE:=λZ H Q=>∃G ρ M R,JE! M/\f ρ M R/\∀d M' v G' H',R d M'->Jc! M'->I5! M'->DM_ G'->Q v H'
def Jz(n:δ)(g:EN)(E:EK)(fs:WA):WE:=λρ M R=>fs ρ M λds M1=>h!=n/\g ds M1 R E
def a1a(hX:Lv X mv!)(F:JX! GV)(hr:bc_)(hg:J!)(ha:fX!)
  (a8:y!:=by decide)(he:ai!:=by rfl)(az:aF!:=by rfl):
  PE X aU_ (rJ! Yp M0 G0 F0 own (Jz ps.length g E fs)):=by
 show"#,";rintro hb s Z H Q I ⟨G,ρ,M,R,sr,e',k⟩;exact Fn_ (c6l (E':=λcls _ H'=>XR X.prog X.w X.K M0 G0 F0 E cls H') hX λ_ _ z=>z) hb s Z H Q I #[G,ρ,M,_,sr.st,e',BB!];rw[OA];exact#[BB_,G1,ds,M1,R,E,x1.sub,m1,q1,r1.2,k8_,?_];rintro cls H' ⟨c,M',G',h5,h6,h7,h8⟩;exact#[c,M',G',h5,h6,(sr.x.trans x1 sr.st.mr).trans h7 m1,h8]
def c0p(hN:br!)(hi:al!)(hx:bJ!)(h:Kj_ e f)(b6:a0_:=by decide)(hs:o0_:=by rfl)
  (hf:X.fn x=τ\/AN_ x=DM! some:=by first|exact .inl rfl|exact .inr rfl|assumption):PS X (.Assign [.Name x p2] e pos) (TX X M0 G0 F0 own own (Am i f)):=λhb s Z H D I ⟨G,ρ,M,R,sr,e',k1,k2⟩=>
 uU hN hi hx h hs hf hb s Z H D I #[G,ρ,M,_,sr,e',Bh_]
def AD(n ix:δ)(hv:mw!)(q:iG!):WS:=λρ M R=>q (λc M1=>Dm (hv c) λd=>R (.nx sl_) M1) ρ M R
def c0u{xC en xn:Str}{ap:Pos}{ie ix:δ}{hv:mw!}{hw:Addr->ι V}{q:iG!}(tc:mo!)
  (um:∀a pn oe c,eJ_∈pn->EC oe a7_->PE iB! he λZ H Q=>Z[ie]?=ψ hL!/\∃v,hw c=ψ v/\Q v H)
  (hvw:∀c d,hv c=ψ d->FA! X.K=ψ τ/\∃v,hw c=ψ v/\∀G,DP_ G)
  (J:∀pn f M0 G0 F0 E,Lv eI_ mv!->G4_ eI_ (H6! X))
  (gj:mo_:=by rfl)(a8:gi!:=by decide):
  MS X [] [] sg_ (AD X.N.length ix hv q):=⟨by
 rintro M0 G0 F0 hb s Z H D I ⟨G,ρ,M,R,sr,e,k1,k2⟩;exact d1t (t:=λRR D Z H=>∃E,(∀cls H',XR X.prog X.w X.K M0 G0 F0 E cls H'->RR cls H')/\H6! X D Z H) tc um
  (by rintro pn f RR lv hb s Z H D I ⟨E,hE,h⟩;exact J pn f M0 G0 F0 E (λp1 p2 p3 p4 p5 p6 p7 p8 p9 p10 p11 p12 p13 z=>lv p1 p2 p3 p4 p5 p6 p7 p8 p9 p10 p11 p12 p13 (hE _ _ z)) hb s Z H D I h) gj a8 hb s Z H D I #[_,?_,G,ρ,M,R,sr,e,k1,k2]
 rintro cls H' ⟨c,M',G',rfl,e',x,m⟩;let#[d,hd,hR]:=dF e';let#[hs,v,w6,rep]:=hvw c d hd;exact#[c,v,χ,hs,w6,k1 _ M' G' _ H' hR #[#[#[x.sub,by delta Pz;simp,λj d' q _=>?_,iI_,iI_],m,iI_],x,iI_]];let hl:=(NE.mp tc.hix).1;by_cases hj:j=ix
 .subst hj;rw[OI mx_]at q;cases q;exact#[v,OI mx_,rep G']
 .rw[mh!,QY]at q;split at q<;>cases q⟩
end
section
variable{X:Cx}{own:List Nat}{pos p1 p2 p3:Pos}
def b6x:Fm X j7_ λxs H Q=>∃a C1 oe,xs=[bL!,.ref C1]/\eJ_∈X.pn/\oe.cls=.ref C1/\Q v_ H:=by intro hb s Z H xs us Q I r h;let#[a,C1,oe,rfl,hp,hc,q]:=h;let#[u,w',rfl,r1,r2]:=tY r;cases (show u=Value.ref a from r1);cases (show w'=Value.ref C1 from r2);let he:=(I.pin _ iP_).1;exact W.isi_call I.kIn (λM A' Q' E' s' k q=>MC r7!) (DS! W.isIn) ed_ #[iC!,H,I,χ,q]
def KO(C1:sw!)(c:sw!):ι D:=if c=C1 then ψ v_ else υ
def HV(C1:sw!)(c:sw!):ι V:=if c=C1 then ψ v_ else υ
def c6j{en xC:Str}{ie:δ}(hN:sp_)(hk:AN_ en=DM! ψ)(hg:oK!)(hm:oL!)(hv:oK_)(nv:Gl X xC)(ny:sq!)
  (hd:gi!:=by decide)(yw:sq_:=by decide)(yx:sr!:=by decide)
  (he:ss_:=by rfl)(jj:st_:=by rfl)
  (az:EP_ pos su!=false:=by rfl):
  ∀a pn oe c,eJ_∈pn->EC oe a7_->PE iB! (.Call su_ my_ [] pos) λZ H Q=>Z[ie]?=ψ hL!/\∃v,HV C1 c=ψ v/\Q v H:=by
 show"#5";delta HV at e2;split at e2
 .rename_i h;subst h;rcases e2;exact pE (X:=Yb X a pn) b6x hg hm hv (cU (kW hN mi_ yw yx) (cU (a0m (v:=V.ref c) nv ny χ hd) eO jj) he) a_ a_ he az hb s Z H Q I #[bL!,e1,a,c,oe,χ,hp,hc.1,q]
 .rcases e2
def hvw(h:sv_):∀c d,KO C1 c=ψ d->FA! X.K=ψ τ/\∃v,HV C1 c=ψ v/\∀G,DP_ G:=λc d e=>by
 delta KO at e;delta HV;show"!9"
 .rename_i h';subst h';rcases e;exact#[h,_,y_,λG=>Ap.bl]
 .rcases e
end
def DM:D->ν
 |.int i=>aS_<10 ^ 60
 |.str x=>b8_<=1000
 |.tup [.int i,.int j]=>aS_<10 ^ 60/\j.natAbs<10 ^ 60
 |_=>False
def c1f{v:Int}(h:v.natAbs<10 ^ 60):v.natAbs.log2<1920:=by
 by_cases z:v.natAbs=0
 .rw[z];decide
 .exact(Nat.log2_lt z).mpr (XJ h c_)
def c1i{i:Int}(h:aS_<10 ^ 60):(sx!).length<=61:=by rw[PySem.ofString_length];exact int_text_length_le10 a_ h
section
variable{X:Cx}{own:List Nat}{pos p1 p2 p3:Pos}{g:Ae->Prop}{es:List Expr}{n:Nat}
def c8i(hr:bc_)(I:e!)(sub:K!)(r:DP_ G)(rv:a8_)(hd:DM d)
  (hQ:∀x t s',b8_<=1000->oX! H s'->Q ga! s'):I6! (formatField u Str.empty) Q:=by
 let big:100000<=sizeLine:=by decide
 delta DM at hd;split at hd
 .rename_i i;obtain rfl:=bC r;let#[t,rfl]:=rv;let:=c1i hd;exact ID_ (c1f hd) (hQ _ _ _ a! ((dV!).tok _))
 .rename_i x;obtain rfl:=bO r;let#[t,rfl]:=rv;exact formatField_str (λt' tk=>hQ _ _ _ hd (I.tok tk)) a!
 .rename_i i j;let#[a,vs,rfl,qa,rr]:=bW r;let#[v1,t1,rfl,r1,rr]:=bS rr;let#[v2,t2,rfl,r2,rr]:=bS rr;obtain rfl:=cQ rr;obtain rfl:=bC r1;obtain rfl:=bC r2;cases (show u=Value.ref a from rv);let#[its,vr,#[o,Y,h2,n,h3],_]:=Dq_ (bV sub qa);let#[u1,u2,rfl,w1,w2]:=tY vr;let#[k1,rfl]:=w1;let#[k2,rfl]:=w2;let l1:=c1i hd.1;let l2:=c1i hd.2;let ls:(sz!).shown.length<=1000:=by
   show((BH! "(")++(Str.ofString c8!++Str.ofString ", "++Str.ofString (toString j))++Str.ofString ")").length<=1000;let e1:(BH! "(").length=1:=by decide+kernel
   let e2:(BH! ", ").length=2:=by decide+kernel
   let e3:(BH! ")").length=1:=by decide+kernel
   simp![Str.length_append];omega
  let un:=hr.un;let dp:(sz!).depth<=5:=by simp[PyData.depth,PyData.depthAll]
  exact formatField_of_reads (.tuple Y h2 h3 (.cons (.int i k1) (EZ! (.int j k2)))) (by simp[PyData.showable,PyData.showableAll,c1f hd.1,c1f hd.2]) (λz=>by simp[PyData.hasDict,PyData.hasDictAll]at z) hr.gd a! (λb o e=>e) (λh' u tk hk=>?_) a!;exact hQ _ _ _ ls ((I.un (t':=s.toks) (Un.kept hk) (I.hok.kept hk)).tok tk)
 .exact hd.elim
nonrec def g0:Ae->Prop:=λ_=>True
nonrec def gN(i:δ)(g:mA!):Ae->Prop:=λρ=>(∃d,ρ[i]?=ψ ce_/\DM d)/\g ρ
structure FJ(X:Cx)(own:g_)(n:Nat)(es:c2_)(g:mA!):Prop where
 ok:∀(hb:w_) (s:yU!) (Z:St) (G H:Hp) (ρ:Ae) (out:Str) (Q:G_),oX! H s->DV! X.K->g ρ->out.length+n<=100000->(∀x t s',Inv X hb Z H s'->Q ga! s')->I6! (joinParts out (evalEach es X.env)) Q
def d3t:FJ X own 0 [] g0:=⟨λhb s Z G H ρ out Q I er _ hl hQ=>by
 let big:100000<=sizeLine:=by decide
 exact joinParts_nilE (joinParts_nil (hQ _ _ _ dV!) a!)⟩
def d7d(h:sB_):FJ X own (s2.length+n) (.Constant (.str s2) j p1::es) g:=⟨λhb s Z G H ρ out Q I er hg hl hQ=>by
 let big:100000<=sizeLine:=by decide
 exact KY! (YD #[sC!,h.ok hb _ Z G H ρ _ Q dV! er hg sC_ hQ])⟩
def d8l(hr:bc_)(hN:al!)(hv:cw!)(hi:a0_)(h:sB_)(hd:y!:=by decide)(bw:cw_:=by decide):
  FJ X own (1000+n) (.FormattedValue (J7! p1) (-1) υ p2::es) (gN i g):=⟨by
 rintro hb s Z G H ρ out Q I er ⟨⟨d,e1,hs⟩,hg⟩ hl hQ;let big:100000<=sizeLine:=by decide
 let#[v,f1,f2]:=er.at_ i _ e1 hi;exact KY! (JE_ (kW hN hv hd bw hb s Z H (λw H'=>w=v/\H'=H) I (KL! f1)));rintro u s' ⟨y,H',I',r,rfl,rfl⟩;exact c8i hr I' er.sub f2 r hs λy t s2 hy I2=>#[sC!,h.ok hb _ Z G _ ρ _ Q I2 er hg sC_ hQ]⟩
def DB(g:mA!):WE:=λρ M R=>g ρ/\∀x,R bJ_ M
def d3a(h:FJ X own n (v1::v2::es) g)(hn:n<=100000:=by decide):C9_ (.JoinedStr (v1::v2::es) pos) (DB g):=⟨λhb s Z H Q I ⟨G,ρ,M,R,st,⟨e1,e2⟩,k⟩=>
 JoinedStr_many (h.ok hb s Z G H ρ Str.empty _ I st.or e1 (by show 0+n<=_;omega) λx t s' I'=>#[.str x,H,I',D_,k _ M _ G H (e2 x) k6_ st.mr Ap.str])⟩
end
section
variable{X:Cx}{own:List Nat}{e a b o:Expr}{es:List Expr}{pos p1 p2 p3 p4 p5 p6:Pos}{f fa fb fo:WE}{fs:WA}{M0:Mh}{G0 F0:Hp}
def FB(C1:sw!)(x:Str)(c:sw!):ι D:=if c=C1 then ψ bJ_ else υ
def HU(C1:sw!)(x:Str)(c:sw!):ι V:=if c=C1 then ψ bJ_ else υ
def b1z{en xC x y:Str}{ie j1 j2:δ}(hN:sp_)(hk:AN_ en=DM! ψ)(hg:oK!)(hm:oL!)(hv:oK_)(nv:Gl X xC)(ny:sq!)
  (hd:gi!:=by decide)(yw:sq_:=by decide)(yx:sr!:=by decide)
  (he:ss_:=by rfl)(jj:st_:=by rfl)
  (az:EP_ p4 su!=false:=by rfl):
  ∀a pn oe c,eJ_∈pn->EC oe a7_->PE iB! (.IfExp (.Call su_ my_ [] p4) (.Constant bJ_ j1 p5) (.Constant (.str y) j2 p6) pos) λZ H Q=>Z[ie]?=ψ hL!/\∃v,HU C1 x c=ψ v/\Q v H:=by
 show"#5";delta HU at e2;split at e2
 .rename_i h;rcases e2;exact pC (a8p (c6j hN hk hg hm hv nv ny hd yw yx he jj az a pn oe c hp hc)) a0l a0l hb s Z H Q I #[e1,iC!,MO h,τ,χ,kL q]
 .rcases e2
def d7b(h:sv_):∀c d,FB C1 x c=ψ d->FA! X.K=ψ τ/\∃v,HU C1 x c=ψ v/\∀G,DP_ G:=λc d e=>by
 delta FB at e;delta HU;show"!9"
 .rename_i h';subst h';rcases e;exact#[h,_,y_,λG=>Ap.str]
 .rcases e
end
open PySem.Calls
def KG:Da_ mC_->Array Value
 |none=>#[]
 |some (b,t)=>[.int b t,.int b t].toArray
def Yh(k:Int):Da_ mC_->μ Int->Int
 |some (b,_),xs=>Ey! b
 |none,x::xs=>Ey! x
 |none,[]=>k
section
variable{P:yM!}{w:yK!}{A:uB!}{R:Result->Shared->Prop}{s:yU!}{l I S:sw!}{kw:List (Str×Value)}{full:List Value}{k:Int}
def tZ{h h':Heap}(k:∀b o,b∉[I]->h.get? b=ψ o->Df! b=ψ o):∀b o,b≠I->b≠S->h.get? b=ψ o->(h'.update S f).get? b=ψ o:=λb o b1 b2 e=>D8_ (NY b2) (k b o mD! e)
def b7t:(KG (ψ (b,t))).size<=sizeLine:=by show 2<=sizeLine;rw[PB];decide
def b2k(hh:bM!)(yz:l≠I)(uo:S≠I)(zc:S≠l):∀(xs:r_) (us:o_) (j:δ) (σ:Da_ mC_) (h:Heap) (tk c:δ),full.drop j=us->j<=mF!->EV! us xs->(σ=υ->xs=[]->∃t,kw=[(Str.ofString "default",.int k t)])->
  h.IsListIter I l j->h.IsList l iL!->h.get? S=ψ (GH! (KG σ) c)->
  (∀t h' gb,sH!->R (EZ_ (.int (Yh k σ xs) t)) {s with heap:=h',toks:=gb})->
  codeAny E! A sI! R {s with heap:=h,toks:=tk}
 |[],us,j,σ,h,tk,c,hd,hj,hi,ha,it,il,hS,hR=>by
  let W:=Walks.list (prog:=P) (w:=w) (A:=A.in1) hh I l yz iL!;cases hi;let e1:=List.drop_eq_nil_iff.mp hd;let ej:j=full.toArray.size:=by rw[MX];omega
  exact Hz_ VG;rw[sI_];exact MC sJ!;exact MC (XE (W.done _ _ _ #[by rw[<-ej];exact it,il] λh' gb k=>?_))
  match σ,ha with
  |none,ha=>
   let#[t,rfl]:=FA_ ha;exact Fy! (MH (hR t _ _ λb o b1 b2 e=>k b o mD! e))
  |some (b,t),_=>
   exact MC (wpAny_updateSeq (hz:=b7t) (k S _ sJ_ hS) χ (MC (TK (MH (hR t _ _ (tZ k))))))
 |x::xs,us,j,σ,h,tk,c,hd,hj,hi,ha,it,il,hS,hR=>by
  let W:=Walks.list (prog:=P) (w:=w) (A:=A.in1) hh I l yz iL!;let nm:sK_="max.loop":=by decide
  cases hi with
  |@cons _ t us _ hi=>
   let au:j<mF!:=by
    obtain z|z:=RB j mF!
    .exact z
    .rw[List.drop_eq_nil_iff.mpr z]at hd;rcases hd
   let hv:full[j]?=ψ (.int x t):=by
    let:=congrArg (·[0]?) hd;simpa[List.getElem?_drop]using this
   let iu:full.drop b7!=us:=by
    rw[<-List.tail_drop,hd];rfl
   exact Hz_ VG;rw[sI_];exact MC sJ!;let go:∀(y:Int) (ty:Tok),y=max (Yh k σ [x]) y->∀(h':Heap) (gb c':δ),sH!->EJ! I b7!->h'.IsList l iL!->Df! S=ψ (seqObj "list" [.int y ty,.int y ty].toArray c')->Yh k σ cz_=Ey! y->
     codeAny E! A sI! R {s with heap:=h',toks:=gb}:=λy ty _ h' gb c' k it' il' kj e=>
    b2k hh yz uo zc xs us b7! (ψ (y,ty)) h' gb c' iu au hi (λz=>by rcases z) it' il' kj λt' h2 tk2 k2=>by
     let:=hR t' h2 tk2 λb o b1 b2 e=>k2 b o b1 b2 (k b o b1 b2 e);rw[e]at this;exact this
   exact MC (XE (W.item j _ _ _ (BG_ MX au) #[it,il] λv h' gb hP st k=>?_));let ev:v=.int x t:=by
    let:full[j]?=ψ v:=by simpa using hP
    rw[hv]at this;exact(OK this).symm
   subst ev;let kj:=k S _ sJ_ hS;let kk:∀b o,b≠I->b≠S->h.get? b=ψ o->Df! b=ψ o:=λb o b1 _ e=>k b o mD! e
   match σ,hR,kj,go with
   |none,hR,kj,go=>
    show FY_ (updateSeq S (λ_=>[.int x t,.int x t].toArray)>>=_);exact Fn! wpAny_updateSeq kj;rw[nm];exact MH #[VC RJ _,go x t (DS! Yh) _ _ _ (tZ k) ?_ ?_ sN! χ]
    .let#[o,e1,e2]:=st.1;exact sN_
    .let#[o,e1,e2]:=st.2;exact sO!
   |some (b,tb),hR,kj,go=>
    show FY_ (tryCatch (holding [.int x t,.int x t] (richCompare .Gt (.int x t) (.int b tb)>>=_)) _>>=_);exact MC (XE (J8_ (CmpOf.ints_gt (prog:=P) (w:=w) (A:=A.in1) (P:=λi v=>∃t,v=.int (if i=0 then x else b) t) (λi=>if i=0 then x else b) (λi v h=>h) 0 1 _ _ _ _ _ cc_ #[tb,χ] ?_)));exact J3! (OX ?_);exact MC (TK ab_);show FY_ (JF! (x>b));by_cases g:x>b
    .rw[NG g,y_];exact MC (wpAny_updateSeq (hz:=b7t) kj χ (EA! TK));rw[nm];exact MH #[VC RJ _,go x t sS_ _ _ _ (tZ k) ?_ ?_ sN! (EA_ x)]
     .let#[o,e1,e2]:=st.1;exact sN_
     .let#[o,e1,e2]:=st.2;exact sO!
    .rw[NA g,bY_];exact EA! TK;rw[nm];exact MH #[VC RJ _,go b tb sS_ _ _ _ kk st.1 st.2 kj (EA_ b)]
end
def b7b:∀(a:v5!) (k:Da_ Value),argsOk "max" #[[a],(k.map λv=>sT!).toList]
 |_,none=>by delta argsOk;kernel_rfl
 |_,some _=>by delta argsOk;kernel_rfl
def c4k:Dg! "max"=ψ mJ_:=by decide+kernel
section
variable{P:yM!}{w:yK!}{A:uB!}{E:Value->Shared->Prop}{Q:Value->Shared->Prop}{s:yU!}{l:sw!}{dv:Option Value}{k:Int}
def a5s(hh:bM!)(hl:C0_)(hi:EV! us xs)(hne:xs=[]->∃t,dv=ψ (.int k t))
  (hQ:∀t h' gb,mK!->Q (.int (Yh k υ xs) t) {s with heap:=h',toks:=gb}):
  wpAny E! A (call mJ_ [cs!] (sU!).toList) Q E s:=by
 let nm:sK_="max.loop":=by decide
 let#[ol,hol,_]:=id hl;let uq:=NP hol;exact kmb_tree PySem.F.kind_max PySem.F.plain_max PySem.F.entry_max (b7b _ _) ?_;exact MC (wpAny_of_eq (show Builtin.Builtins.bindParams "max" ["key","default"] 0 #[[],(sU!).toList]=pure [none,dv]by cases dv<;>rfl) ?_);exact MC (MH (MC (TN hl (MC CW_))));rw[nm];generalize hG:s.heap.push {cls:=.type "list_iterator",data:=.fields [.ref l,.int 0 0].toArray}=G;let hS:G.objs.size=j!+1:=by rw[<-hG];exact size_push' ..
 let gI:G.get? j!=ψ {cls:=.type "list_iterator",data:=DF_ l}:=by rw[<-hG];exact NJ _ χ
 let gk:∀b o,yK_ b=ψ o->G.get? b=ψ o:=λb o e=>by rw[<-hG];exact MJ _ e
 exact MH ⟨VC RJ _,b2k hh (NZ uq) (HM! RA (UR _)) (HM! RA (UL uq)) xs us 0 υ _ _ 0 χ cl! hi (λ_ z=>by let#[t,rfl]:=hne z;exact cc_)
  #[_,MJ _ gI,χ,χ] ?_ hF_ λt h' gb k=>hQ t h' gb λb o e=>?_⟩
 .let#[o,e1,e2]:=hl;exact#[o,MJ _ (gk _ _ e1),e2]
 .let J:=NP e;exact k b o (NZ J) (HM! NZ (UL J)) (MJ _ (gk b o e))
end
section
variable{X:Cx}{own:List Nat}{e:Expr}{fa:WE}{p p2 kp pos:Pos}{k:Int}{j:Nat}
def wD:∀{xs:r_} {us:o_},Ax (xs.map V.int) us->EV! us xs
 |[],_,.nil=>.nil
 |x::xs,_,.cons r t=>by let#[tk,rfl]:=r;exact .cons x tk (wD t)
def Vw(k:aW_):μ D->ι D
 |[.lst ds]=>(Ll ds).bind λxs=>if xs=[]then k.map .int else ψ sY_
 |_=>υ
def BI:=Vw υ
def d6n{k:aW_}(h:(GY! xs sY_)=ψ d):∃i,d=.int (Yh i υ xs)/\(xs=[]->k=ψ i):=by
 match xs with
 |[]=>let#[i,e,rfl]:=MQ.mp h;exact#[i,χ,λ_=>e]
 |x::xs=>cases h;exact#[0,χ,λz=>by rcases z]
def c7e(hgm:Gl X "max")(yr:X.mg "max"=υ)(hc:ax_)(ha:C9_ e fa)(he:hr_:=by rfl):
  ME X own (Hg_ "max" [e] [#[ψ "default",.Constant dR_ j p2,kp]] pos) (FZ! (λ_=>Vw (ψ k)) fa):=⟨by
 rintro hb s Z H Q I ⟨G,ρ,M,R,st,e1,kq⟩;exact QH (iJ I hgm yr c4k ?_ a_ a_);exact FY! ((aE ha aN he).ok pos hb s Z H _ I #[G,ρ,M,_,st,e1,λds M1 vs G1 H1 r1 x1 m1 q1=>(#[ds,M1,G1,r1,x1,m1,q1]:∃ds M1 G1,Dm (Vw (ψ k) ds) (λd=>R d M1)/\XM M G H M1 G1 H1/\MR X.prog X.w X.K M1 G1 H1/\Al X.K G1 ds vs)]);rintro us s1 ⟨vs,H1,I1,r,ds,M1,G1,r1,x1,m1,q1⟩;exact kws_cons (XX lZ_);let#[d,Y,h2]:=dF r1;delta Vw at Y;split at Y
 .rename_i qm;let#[xs,e2,Y]:=MD.mp Y;let#[v,t,rfl,rv,rr]:=bS q1;show"!p";let#[its,hv,pl,hz]:=I1.list re!;let#[u,rfl,ru]:=gV r;subst ru;let#[i,rfl,hi]:=d6n Y;exact a5s (dv:=ψ _) (I1.ok.hd hc) pl.isList (wD hv) (λz=>#[_,by obtain rfl:=OK (hi z);rfl]) λt h' gb kp=>#[.int _,H1,I1.kept kp,cc_,kq _ M1 _ G1 H1 h2 x1 m1 Ap.int]
 .rcases Y⟩
def CF(KF:zA!):μ V->Hp->VK->Prop:=λxs H Q=>∃l ys,ys≠[]/\xs=[cs!]/\Fw_ l (ys.map V.int)/\Q (.int (Yh 0 υ ys)) H
def b6w(hc:ax_):Fm X mJ_ (CF X.K):=by rintro hb s Z H xs us Q I r ⟨l,ys,ne,e1,sq,q⟩;subst e1;let#[u,rfl,ru]:=gV r;subst ru;let#[its,hv,pl,hz]:=Ej_ sq;exact a5s (dv:=υ) aR_ pl.isList (wD hv) (λz=>(ne z).elim) λt h' gb kp=>#[.int _,H,I.kept kp,cc_,q]
def c9i{KF:zA!}:Kq KF (CF KF) BI:=by
 intro vs ds d G H Q sub r Y kq;delta BI Vw at Y;split at Y
 .let#[xs,e2,Y]:=MD.mp Y;let#[v,t,rfl,rv,rr]:=bS r;show"!p";split at Y
  .rcases Y
  .rename_i z;rcases Y;exact#[l,_,z,χ,sub.seq sq,kq _ G H aA_ Ap.int]
 .rcases Y
end
abbrev En(h:Heap)(e it:sw!)(f:v5!)(b:Bool)(i:Int)(old:v5!):Prop:=
 h.get? e=ψ {cls:=.type "enumerate",dict:=υ,data:=.fields [f,.bool b,.ref it,rawInt i,.none,old].toArray,slots:=#[]}
section
variable{prog:yM!}{w:yK!}{A:uB!}{E:Value->Shared->Prop}{s:yU!}
def a3p(h:Q (yK_ a) s):Jk! (loadIfAlive a):=λΓ p hG=>h
def a6s{i T:δ}{Q:G_}
  (he:DY! En e it eS_ b i old)(hT:yK_ T=ψ oT)(hTi:T≠it)(q9:T≠e)(ay:mU!)(hl:iS_)(hx:ak[i]?=ψ x)(hne:f1!)
  (hQ:∀h',ET! h' τ->EJ! it x!->
   h'.get? j!=ψ {cls:=.type "tuple",data:=E9_ s.toks}->js!=j!+1->
   s4!->Q br_ {s with heap:=h',toks:=s.toks+1}):
  wpAny n! A (Builtin.«enumerate.__next__» #[[.ref e],[]]) yT! E s:=by
 show"!t";show Di! s5_ _;exact MC s6!;exact MC (wpAny_nextOf_list_item ay hl hx λh₁ Z7 rf=>?_)
 replace rf:Fs_ it hp h₁:=rf
 let v4:=(rf.2 e hne).trans he;exact MC s6_;exact MC s6_;exact EA! wpAny_mkInt;exact MC (QG v4 b! λj5 v5 rg=>?_)
 replace rg:Fs_ e h₁ j5:=rg
 replace v5:ET! j5 b:=v5
 exact MC (QG v5 b! λi' v6 rh=>?_)
 replace rh:Fs_ e j5 i':=rh
 replace v6:ET! i' b:=v6
 show wpAny _ _ (newTuple [.int i tk,x]>>=_) _ _ #[i',g,d,tk+1,os];exact MC y0_;let ur:En (i'.push {cls:=.type "tuple",data:=.seq [.int i tk,x].toArray}) e it eS_ b ev! old:=MJ _ v6;generalize ut:i'.push {cls:=.type "tuple",data:=.seq [.int i tk,x].toArray}=j7 at ur;let bi:i'.objs.size=gs!:=by rw[rh.1,rg.1,rf.1]
 let v7:e<gs!:=NP he;let ht₄:j7.get? gs!=ψ {cls:=.type "tuple",data:=E9_ tk}:=by rw[<-ut,<-bi];exact NJ _ χ
 let hz₄:j7.objs.size=gs!+1:=by rw[<-ut,RK,bi]
 let Z8:∀b o,b≠e->b≠it->hp.get? b=ψ o->j7.get? b=ψ o:=λb o fq v8 J=>by
  rw[<-ut];exact MJ _ (rh.extBut b o fq (rg.extBut b o fq (rf.extBut b o v8 J)))
 let hit₄:j7.IsListIter it l x!:=by
  rw[<-ut];let#[o,ho,r]:=(Z7.extBut rg.extBut (NY hne)).extBut rh.extBut (NY hne);exact#[o,MJ _ ho,r]
 let hT₄:=Z8 T oT q9 hTi hT;show Di! (Builtin.SmallTypes.ownedTupleIsFree aB!>>=_) #[j7,g,d,tk+1,os];rw[bi];clear ut v6 rh v5 rg v4 rf Z7 bi i' j5 h₁;exact MC ?_;delta Builtin.SmallTypes.ownedTupleIsFree;exact MC (OY ur χ (x:=rawInt T) χ ?_);show Di! (loadIfAlive (((T:δ):Int).toNat)>>=_) _;rw[SX];exact EA! a3p;show Di! (if(j7.get? T).isNone=τ then _ else _) _;rw[hT₄];show Di! (field aB! 1>>=_) _;exact MC (OY ur χ (x:=.bool b) χ ?_);let fin:∀kz,ET! kz τ->Fs_ e j7 kz->Q (.ref gs!) #[kz,g,d,tk+1,os]:=λkz zd rj=>
  hQ kz zd (hit₄.extBut rj.extBut (NY hne)) (rj.extBut _ _ (RA v7) ht₄) (by rw[rj.1,hz₄]) λb o fq v8 J=>rj.extBut b o fq (Z8 b o fq v8 J)
 cases b with
 |true=>exact H3! #[_,χ,fin j7 ur #[χ,gt!]]
 |false=>
  show Di! (setField aB! 1 ff!>>=_) _;exact MC (QG ur b! λkz zd rj=>MH (MH #[_,χ,fin kz zd rj]))
def c8n(a:sw!)(xs:bp_)(name:Str)(u:Tok)(Z9:Gp_ gt_ name=pure υ)(hname:(["__module__","__name__","__qualname__","__doc__","__annotations__"]:μ Str).contains name=θ)(bi:name.length+100<=sizeLine):
  Meets (Builtin.«object.__getattribute__» #[[bL!,.str name u],[]]) (λA R s=>yK_ a=ψ {cls:=.type "enumerate",dict:=υ,data:=Fs! xs,slots:=#[]}/\raisesAttr M_ name A R s):=
 Meets.of_wp λprog w A R s hs=>by
  show"!t";let#[hx,hs]:=hs;delta Builtin.«object.__getattribute__»
  repeat (any_goals (first|assumption|wp_step))
  simp![hname,OC,PC]
  repeat (any_goals (first|assumption|wp_step))
  exact wpAny_raiseAttrError hs.1 hs.2 (attrMsg_fits c_ bi)
def c3c:entryFor table "enumerate.__getattribute__"=ψ Builtin.«object.__getattribute__»:=
 entryFor_alias (id':="object.__getattribute__") aE! c_ c_ aE!
def b0d(hx:yK_ a=ψ {cls:=.type "enumerate",dict:=υ,data:=Fs! xs,slots:=#[]})(hA:bM!)
  (h:∀h' tk,mK!->Q υ {s with heap:=h',toks:=tk}):Jk! (getAttr? M_ "keys"):=by
 show"!t";let hT:∀gb,(#[hp,g,d,gb,os]:yU!).TypeIs M_ "enumerate":=λ_=>Hu_ hx;let Z9:Gp_ gt_ "keys"=pure none:=am_miss_of_fast c_;let f1:=sub_AttributeError;let f3:=UY.lookup;let f4:=UY.bind M_;let f5:Gp_ gt_ "__getattr__"=pure none:=F.plainAttrs_enumerate.noGetattr;delta getAttr? getAttrBy? getAttrBy
 repeat (any_goals (first|assumption|exact hT _|((with_reducible show wpAny _ _ (call (Value.builtin "enumerate.__getattribute__") _ _) _ _ _);exact SU UY (hT _) c3c (F.args_enumerate_getattribute_2 _ _) (c8n a xs _ _ Z9 c_ hC_) #[hx,hA,λh' gb e jo=>?_])|wp_step))
 let#[t',u',he]:=jo.there;show Di! (getattributeRaised _ _ _ _ _ _ _) _;delta getattributeRaised
 repeat (any_goals (first|assumption|wp_step))
 exact h _ _ jo.keeps
end
def zL:entryFor table "dict.update.loop"=ψ Builtin.«dict.update.loop»:=entryFor_of_tree aE!
def zK:plainId "dict.update.loop"=true:=by decide+kernel
section
variable{X:Cx}{hb:List (Addr×Obj)}{Z:St}{G H:Hp}{M:Mh}{s:yU!}{A:uB!}{R:Result->Shared->Prop}{e it c l:sw!}{vs:List V}{xs:List D}
def FE(X:Cx)(hb:w_)(H:Hp)(h:Heap)(e it:sw!)(i:δ):Prop:=
 BP_\/∃T b old o,En h e it (rawInt (T:δ)) b i old/\h.get? T=ψ o/\(∀v,o.data≠.cell v)/\T≠it/\T≠e/\D5_ H T
def c3a(I:e!)(st:tf_)(ay:mU!)(hl:iS_)(hx:ak[i]?=ψ x)(hne:f1!)
  (hQ:∀h',Hi! H h' x!->EJ! it x!->Df! j!=ψ {cls:=.type "tuple",data:=E9_ s.toks}->
   (∀b o,b∉cV_->yK_ b=ψ o->Df! b=ψ o)->HV! br_ {s with heap:=h',toks:=s.toks+1}):
  wpAny h_ A (pyNext aB!) Q E s:=by
 let kp:∀{h':Heap},s4!->∀b o,b∉cV_->yK_ b=ψ o->Df! b=ψ o:=λk b o J eo=>k b o gg! gg! eo;obtain⟨old,he⟩|⟨T,b,old,o,he,hT,hd,Y,h2,hf⟩:=st
 .let ne1:j!≠e:=λz=>Ge! he;let xo:j!≠it:=λz=>by
   let#[o,q,_]:=ay;exact Ge! q
  exact wpAny_pyNext_enum_item he ay hl hx hne λh' a b c d k=>H6_ #[_,_,_,_,tg_,c,λv z=>(by cases z),xo,ne1,I.fpOk u! e0!]
 .let Z':F8! aB! "enumerate":=m3!;exact MC (TQ (OV Z' UX
   (GY_ Z'
    (a6s he hT Y h2 ay hl hx hne λh' a b c d k=>MH (H6_ #[T,_,_,o,tg_,k T o h2 Y hT,hd,Y,h2,hf])) ti!)))
def c8m(hh:bM!)(st:tf_)(ay:mU!)(hl:iS_)(hx:ak[i]?=υ)
  (hQ:BM!):Jp_ (pyNext aB!):=by
 let hg:∃f b old,DY! En e it f b i old:=by
  obtain⟨old,he⟩|⟨T,b,old,o,he,_⟩:=st
  .exact ti_
  .exact ti_
 let#[f,b,old,he]:=hg;let hT:F8! aB! "enumerate":=m3!;exact MC (TQ (OV hT UX
  (GY_ hT ?_ ti!)))
 show Di! s5_ _;exact MC s6!;exact MC (wpAny_nextOf_list_end hh ay hl hx λh' x jn jo=>?_);let#[o,ho,hc]:=jo;exact Fz_ #[o,ho,hc];exact MH (hQ _ jn)
def c3b(st:Hi! H h i)(ay:h.IsListIter it l i)(hf:tk!):
  ∃fp:List Addr,(∀b∈cV_,b∈fp)/\mz_/\(∀b∈fp,∃o,h.get? b=ψ o/\∀v,o.data≠.cell v)/\∀(h2:Heap) (H2:Hp),(Fl_ h2.get?)->(∀b∈fp,Fv X hb H2 b)->Hi! H2 h2 i:=by
 let#[oi,q1,_,q2]:=ay;let hi:∃o,h.get? it=ψ o/\∀v,o.data≠.cell v:=#[oi,q1,λv z=>by rw[q2]at z;cases z];obtain⟨old,he⟩|⟨T,b,old,o,he,hT,hd,Y,h2,hfT⟩:=st
 .exact#[cV_,λb J=>J,hf,bK!,λh2 H2 k _=>.inl #[old,k e b! _ he]];simp![MM,MN,RI]at J;obtain rfl|rfl:=J
  .exact tl!
  .exact hi
 .exact#[[T,e,it],λb J=>MF _ J,bK!,bK!,λm8 H2 k k2=>.inr #[T,b,old,o,k e b! _ he,k T b! _ hT,hd,Y,h2,k2 T b!]]
  .obtain rfl|J:=MM.mp J
   .exact hfT
   .exact hf b J
  .simp only[MM,MN,RI]at J;obtain rfl|rfl|rfl:=J
   .exact#[o,hT,hd]
   .exact tl!
   .exact hi
def b7f(hi:i<i!):tm_=iX_++[(D.int (i:δ),xs[i])]:=by rw[RZ hi,List.zipIdx_append,NV,RN,tn_];simp
def b0y:D.int (i:δ)∉Dc_ iX_:=λz=>by
 rw[OD]at z;show"#J";let:=List.snd_lt_of_mem_zipIdx hq;let h2:=D.int.inj e;rw[RN]at this;omega
def c3e(hc:ax_)(hA:bM!)(hu:A.in1.units<cLine)(hne:f1!)(hq:∀{H:Hp},Ba G H->F7! l vs)(rl:to_)(hl:i!<=1000):∀(n i:δ) (j:Int) (s:yU!) (H:Hp) (M:Mh),i! - i=n->i<=i!->oX! H s->KO! M H->Ba G H->M c=C3_ iX_ i->
  (∀b∈cV_,D5_ H b)->Hi! H s.heap i->Fj_ i->
  (∀H' s',Jg_ H'->Du! (JM_ M) G H'->KO! (JM_ M) H'->R (.ok q7!) s')->
  codeAny h_ A (.builtin "dict.update.loop" #[[.ref c,.ref e,rawInt j,dg_],[]]) R s:=by
 intro n
 induction n with
 |zero=>
  intro i j s H M hn hi I m sub hM hf st ay hR;let#[its,rv,pl,hz]:=Ej_ (hq sub);let Y:=aK rl;let h2:=c5!;exact VG zL ?_;exact MC (c8m hA st ay pl.isList aS! λh' eb=>?_);let I':oX! H {s with heap:=h',toks:=s.toks}:=iO I hf λc o hc eo=>eb c o iw_ eo;let hx:JM_ M=M:=by
   let ei:i=i!:=by omega
   subst ei;rw[List.take_length]at hM;show"#2";split
   .rename_i z;rw[z,hM]
   .rfl
  let:=hR H _ I';rw[hx]at this;exact G6! (MH (this (.refl sub) m))
 |succ n ih=>
  intro i j s H M hn hi I m sub hM hf st ay hR;let#[its,rv,pl,hz]:=Ej_ (hq sub);let f8:i<i!:=by omega
  let#[v,gv,rvx]:=fP rl (NK f8);let#[u,pb,ru]:=rv.get gv;exact VG zL ?_;exact MC (c3a I st ay pl.isList (Db! pb) hne λh' ac jp hT kp=>?_);let I':oX! H {s with heap:=h',toks:=s.toks+1}:=iO I hf kp;let#[fp,f1,f2,f3,f4]:=c3b ac jp hf;let I2:=I'.pinned f2 f3;let hT':({s with heap:=h',toks:=s.toks+1}:yU!).TypeIs br_ "tuple":=Hu_ hT;exact EA! OM;exact EA! XE;exact EO_ WO hT';exact MC (QV hT χ ab_);exact OM (b0m hu I2 m sub hM #[_,Ap.int,D_] χ #[v,rvx,ru] (by rw[MV,VA,RN];exact NN (show min i i!<1001 by omega) a_) λbf s' I3 c'=>?_);let qr:Ia iX_ eV! i=i+1:=by delta Ia;rw[vX b0y];rfl
  rw[qr]at I3 c';rw[mU b0y,<-b7f f8]at c';let m':=m.write hM c';let x':Du! tt! G tt_:=XM.write m sub hM;let hcn:∀b∈fp,b≠c:=λb J z=>m.has (by rw[hM];simp:M c≠υ) (z▸(dQ!).1);let fk:∀b∈fp,D5_ tt_ b:=λb J=>#[by rw[bD (hcn b J)];exact(dQ!).1,(dQ!).2];let pk:∀b∈fp,∀o,Df! b=ψ o->Fw! b=ψ o:=λb J o eo=>(I3.pin (b,o) (MY _ (MY _ (jC J eo)))).1;let hit3:s'.heap.IsListIter it l x!:=by
   let#[o,q1,q2]:=jp;exact#[o,pk it (f1 it b!) o q1,q2]
  exact MH #[VC zK _,ih x! b7! s' _ _ a! f8 I3.unpinned m' x'.sub mup_same (λb J=>fk b (f1 b J)) (f4 _ _ pk fk) hit3 λH4 s4 I4 x4 m4=>?_];let ig:JM_ tt!=JM_ M:=by
   show"#2";split<;>rfl
  rw[ig]at x4 m4;exact hR H4 s4 I4 (x'.trans x4 m') m4
end
def c9l:Dg! "dict"=ψ tu_:=by decide+kernel
section
variable{X:Cx}{hb:List (Addr×Obj)}{Z:St}{G H:Hp}{M:Mh}{s:yU!}{e it l:sw!}{vs:List V}{xs:List D}{E:Value->Shared->Prop}{Q:Value->Shared->Prop}
def a7m(hc:ax_)(hu:ao!)(I:e!)(m:bG_)(sub:K!)(q:Ek X.K G l vs)(rl:to_)(hl:i!<=1000)(he:DY! IsEnum e it 0 .none)(ay:Fj_ 0)(hf:tk!)(hne:f1!)
  (k:∀p H' s',M p=υ->Jg_ H'->Du! (Ji_ b9!) G H'->KO! (Ji_ b9!) H'->Q bc! s'):Jo! (call tu_ [.ref e]):=by
 let fh:=I.fresh;exact callType_codes (Q₁:=λobj ao=>obj=.ref j!/\ao={s with heap:=s.heap.push {cls:=.type "dict",data:=.dict #[]}}) F.kt_called_dict (F.kt_typeCall_dict_1 _) F.entry_dict_init (kt_code_dict_new _ ae!) ?_;rintro obj ao ⟨rfl,rfl⟩;let D0:J9! 0:=qk!;let I1:oX! dD! {s with heap:=s.heap.push {cls:=.type "dict",data:=.dict #[]}}:=by
  exact qk_;show"!]"
 let x0:Du! h3_ G dD!:=.laid sub fh;let m0:rJ! MR h3_ G dD!:=m.laid fh sub ql!;let vi:({s with heap:=s.heap.push {cls:=.type "dict",data:=.dict #[]}}:yU!).TypeIs br_ "dict":=kz!;let ze:IsEnum lm! e it 0 .none:=MJ _ he;exact#[vi,F.args_dict_init_2 _ _,?_];exact MC ?_;exact EO_ TJ vi;exact MH ?_;exact EO_ WO #[_,ze,χ];exact MC (b0d ze aR_ λh' tk kp=>?_);exact MC fD_;let I2:oX! dD! {s with heap:=h',toks:=tk}:=I1.kept kp;let jj:=kp _ _ ze;exact MC (UT jj (MH #[VC zK _,?_]));let fk:∀b∈cV_,D5_ dD! b:=λb J=>by
  exact#[?_,(eQ!).2];let:b≠j!:=λz=>by
   subst z;simp![MM,MN,RI]at J;obtain z|z:=J
   .exact Ge! he
   .let#[o,q1,_]:=ay;exact Ge! q1
  rw[bD this];exact(eQ!).1
 let hit2:EJ! it 0:=by
  let#[o,q1,q2]:=ay;exact#[o,kp _ _ (MJ _ q1),q2]
 exact c3e (A:=X.A.in1) hc aR_ (by let:=iT X.A;let:=iT X.A.in1;omega) hne (λsb=>sb.seq q) rl hl xs.length 0 0 _ _ _ a! cl! I2 m0 x0.sub mup_same fk (.inl #[_,jj]) hit2 λH4 s4 I4 x4 m4=>?_;let ig:Dp! mup h3_ b9!=Dp! mup M b9!:=by
  show"#2";split<;>rfl
 rw[ig]at x4 m4;exact#[χ,k _ H4 s4 (m.nocell fh) I4 (x0.trans x4 m0) m4]
variable{own:List Nat}{a:Expr}{pos uv p p2:Pos}{fa:WE}
def Wm(f:WE):WE:=λρ M R=>f ρ M λd M1=>match d with
 |.lst xs=>i!<=1000/\∀p,M1 p=υ->R A_ tx!
 |_=>False
def b5z(hu:ao!)(hg:Gl X "dict")(hm:X.mg "dict"=υ)(nv:qG!)(ny:qG_)(hc:ax_)(h:aj_)(hs:qH!:=by rfl)(az:EP_ uv ni!=false:=by rfl)
  (bp:C7_ ty_=(θ,eval (Ha_ ty! uv) X.env)::starEach [] X.env:=by rfl)(hpl2:BV_:=by rfl):
  ME X own (Hg_ "dict" ty_ [] pos) (Wm fa):=⟨by
 rintro hb s Z H Q I ⟨G,ρ,M,R,st,e,k⟩;exact GA_ c9l (PQ ?_ bp hpl2);exact QI ?_;exact Call_ (iJ I nv ny boot_enumerate (PQ (Eu_ (cU h.ok eO hs uv hb s Z H (λvs H1=>∃v xs M1 G1,vs=[v]/\(i!<=1000/\∀p,M1 p=υ->R A_ tx!)/\XM M G H M1 G1 H1/\MR X.prog X.w X.K M1 G1 H1/\Ap X.K G1 N_ v) I tz!)) hs az))
 .cases d<;>first|exact r1.elim|skip
  exact tz_
 subst q1;let#[l,ys,rfl,q,rl]:=bU rr;let#[u,rfl,ru]:=gV r1;subst ru;let#[its,rv,pl,hz]:=I1.list tA!;exact Fu! call_enumerate_list λh' he ay bi hk=>?_;let io:∀b∈qH_,x_<=b:=λb J=>by
  simp![MM,MN,RI]at J;obtain rfl|rfl:=J<;>omega
 exact SK ?_;exact a7m hc hu (I1.kept hk) m1 x1.sub q rl t1.1 he ay (λb J=>I1.fpOk (io b J) BY_) (XO _) λp H' s' hp I2 x2 m2=>#[.ref p,H',I2,χ,k _ _ _ G1 H' (t1.2 p hp) cn_ m2 Ap.fn]⟩
end
def KH:μ D->ι D
 |[.int i,.int j]=>C2_ (if j>i then j else i)
 |_=>υ
section
variable{X:Cx}{own:List Nat}{b:Expr}{es:List Expr}{pos p2:Pos}{fs:WA}{fb:WE}
def Te(fs:WA)(fb:WE):WE:=λρ M R=>fs ρ M λds M1=>h!<=1000/\fb ρ M1 λy M2=>match y with
 |.int k=>Cc_/\R Cd! M2
 |_=>False
def c7c(ha:fT!)(J:co!):C9_ Ce! (Te fs fb):=
 fD Ce_ λZ G H Q ρ M R st e k=>⟨G,ρ,M,_,st,e,λds M1 vs G1 H1 r1 x1 m1 q1=>⟨by rw[<-aK q1];exact fF r1.1,λp hp=>by
  let xj:Bo G1 H1 G1 Cf!:=a6r x1.sub hp;let hM:=IA! hp;exact Cf_;cases y<;>first|exact r2.elim|skip
  rename_i n;obtain rfl:=bC q2;let#[#[hn,iz,hl],r2]:=r2;let yj:=x2.keep p _ cC hM;exact Cg!;let yk:=DT! Cg_ x2 qO!;let xl:Bo G2 H2 (upd G2 c tB!) (upd H2 c tB!):=KN_ x2.sub hc;exact FU_ k _ r2 (yk.trans (.ext xl) m2) (m2.ext xl) (cW (x2.sub.free hc) (uO b1_ _))⟩⟩
end
end DL
namespace L2
open PySem PySem.Spec PyProof.Rows
def HA(lo c:Int)(n:δ):It:=Fd! (lo+(i:δ)*c)
end L2
namespace DL
open PySem PySem.Spec PyProof.Rows L2
end DL
namespace XS
open PySem PySem.Spec PyProof.Rows PySem.W L2
end XS
namespace DL
open PySem PySem.Spec PyProof.Rows L2 XS
section
variable{X:Cx}{own:List Nat}{o a:Expr}{fo fa:Ae->Option D}{ax ah:Pos}
def AQ:V->μ V->Hp->VK->Prop:=λx vs H Q=>∃(z y:Str),x=.str z/\vs=[.str y]/\Q tC! H
def b5q:GY X "str.startswith" AQ:=by intro hb s Z H x xs v us Q I rx r h;let#[z,y,rfl,rfl,q]:=h;let#[t,rfl]:=rx;let#[u,rfl,t',rfl]:=gV r;exact SC.startswith hx_
def Wo:D->D->ι D
 |.str z,.str y=>ψ tC!
 |_,_=>υ
def Sy(fo fa:m_):Ae->ι D:=λρ=>(kw!).bind λx=>(ch!).bind λy=>Wo x y
def b6q(ho:kw_)(ha:K_)
  (dh:Jt_ "startswith"=Dk_ o:=by rfl)
  (dn:(EY_ hB!&&D3! bw_
   &&decide hB_)=true:=by rfl)
  (dq:cc!:=by rfl) (hs:fu!:=by rfl) (cx:eg!:=by rfl):
  DE X own (I7_ (D1! o "startswith") [a]) (Sy fo fa):=
 eB (pF SL PySem.F.slot_str_startswith PySem.F.type_str_startswith b5q ho.ok kx! dh dn dq hs cx) λZ G H Q ρ d er e k=>by
  show"!8";delta Wo at e;show"!9"
  .show"!L";exact#[_,_,χ,χ,k _ _ _ bS_ Ap.bl]
  .cases e
end
def a6v{fp:aQ_}{n:δ}{P:δ->Value->ν}{St:gl_}(D:Draws prog w A it fp n P St)(k:δ):
  Draws prog w A it fp (n+k) (λi v=>∃j,i=j+k/\P j v) (λi h=>∃j,i=j+k/\St j h) where
 live:=λi h ⟨j,_,st⟩=>D.live j h st
 frame:=λi h h' ⟨j,e,st⟩ hk=>#[j,e,D.frame j h h' st hk]
 item:=λi s Q E hi ⟨j,e,st⟩ hQ=>by
  subst e;exact D.item j s Q E a! st λx h' tk hp ac sb=>hQ x h' tk #[j,χ,hp] #[j+1,p_,ac] sb
 done:=λs Q E ⟨j,e,st⟩ hE=>by
  let:j=n:=by omega
  subst this;exact D.done s Q E st hE
def JQ(K:zA!)(l:sw!)(k:δ):It:=
 #[λi H=>∃xs x,Ek K H l xs/\xs[i]?=ψ x,λi H v H'=>∃T x,v=.ref T/\H T=υ/\(∀xs,Ek K H l xs->xs[i]?=ψ x)/\H'=G6_ T [.int i1_,x],λi H=>∃xs,Ek K H l xs/\i!=i]
def a8c{K:zA!}{n1 k:δ}(jq:f1!)(v7:e≠l)(zf:l≠it):
  Qp P w K dv_ (JQ K l k) cV_ e (λi h=>(∃old,IsEnum h e it i1_ old)/\h.IsListIter it l i) where
 mem:=by simp
 obj:=λi h st b J=>by
  simp![MM,MN,RI]at J;let#[#[old,s1],s2]:=st;obtain rfl|rfl:=J
  .exact BQ!
  .let#[o,e,c,d]:=s2;exact gm!
 keep:=λi h h' st hk=>by
  let#[#[old,s1],s2]:=st;exact#[#[old,hk e b! _ s1],s2.at λo q=>hk it b! o q]
 item:=by
  intro X hP hw hK hc i hb s Z H E I hf st hg;subst hP hw hK;let hh:=I.ok.hd hc;let#[xs,x,hq,hx]:=hg;let#[its,rv,p,hz]:=Ej_ hq;let#[u,hu,ru]:=rv.get hx;let au:=(NE.mp hu).1;let D:=Draws.list (prog:=X.prog) (w:=X.w) (A:=X.A.in1) hh it l zf ak_;let W:=GV_ (a6v D k) tD_;exact Io! (i+k) pY! (H7! i) λT vk h' tk hP hT yh hm kp=>ER_ (i+k);let#[t,y,#[j,hj,hy],rfl]:=hP;obtain rfl:i=j:=by omega
  obtain rfl:u=y:=by
   let:its[i]?=ψ y:=by simpa using hy
   rw[hu]at this;cases this;rfl
  let I1:oX! H {s with heap:=h2,toks:=tk}:=iO I hf λc o hc eo=>na c o hc BR!;let ud:=W.apart (i+k) T _ hm;let eT:h2.IsTuple T [.int i1_ t,u].toArray:=by
   let#[o,eo,r]:=yh;exact BR_
  let I2:=b7v (xs:=[.int i1_,x]) I I1 hT eT (.cons cc_ nM_) BS!;let#[#[old,z1],j',v0,z2,_]:=bu;obtain rfl:j'=i+1:=by omega
  exact#[.ref T,_,I2,χ,#[T,x,χ,BT!,sE_,χ],#[#[old,?_],z2],bK!]
  .rw[show i+1+k=i+k+1 by omega];exact z1
  .rw[BU!];exact(eQ!).1
 done:=by
  intro X hP hw hK hc i hb s Z H E I hf st hg;subst hP hw hK;let hh:=I.ok.hd hc;let#[xs,hq,rfl]:=hg;let#[its,rv,p,hz]:=Ej_ hq;let hl:=c5!;let D:=Draws.list (prog:=X.prog) (w:=X.w) (A:=X.A.in1) hh it l zf ak_;let W:=GV_ (a6v D k) tD_;let ac:(∃old,IsEnum s.heap e it ((be!+k:δ):Int) old)/\∃j,be!+k=j+k/\Fj_ j/\HZ! l ak_:=by
   rw[show its.toArray.size=xs.length by simp[hl]];exact H7! _
  exact W.done s _ _ ac λh' tk kp=>BU_
 self:=λA i s Q E st h=>by
  let#[#[old,s1],_]:=st;exact UT s1 h
end DL
namespace WR
open PySem
open AutoSeq1 (wpAny_loadPart')
def b5m(l:sw!)(ak:bp_)(n:δ)(dct:dk!)(sl:jI_)(k:Int)(t:Tok)(hk:tF!):
  Meets (Builtin.«enumerate.__new__» na_) (λ_ R s=>yK_ l=ψ {cls:=.type "list",dict:=dct,data:=HE_ ak,slots:=sl}/\
   R (Ke_ dV_)
    {s with heap:=(dV_).push {cls:=.type "enumerate",data:=C7! k}}):=
 .of_wp λprog w A R s h=>by
  show"!t";let#[hl,h]:=h;let ow:=sub_enumerate;let hL:Heap.IsList (Shared.heap ia_) l ak:=Ht! hl n
  wp_walk using SI hl
  exact wpAny_stack_any λst=>MH ?_;split
  .rename_i c _ _ _ _ _;cases (c==Value.type "enumerate")
   .wp_walk using SI hl,TN hL
    exact kF!
   .wp_walk using SI hl,TN hL
    exact kF!
  .wp_walk using SI hl,TN hL
   exact kF!
def a3t(l:sw!)(k:Int)(t:Tok):checkTypeCall "enumerate" #[[cs!],eX_]=pure ():=by delta checkTypeCall;kernel_rfl
def a5k(l:sw!)(k:Int)(t:Tok):checkBuiltinCall "enumerate.__new__" na_=pure ():=by delta checkBuiltinCall;kernel_rfl
def a6i(obj:v5!)(l:sw!)(k:Int)(t:Tok):argsOk "object.__init__" #[[obj,cs!],eX_]:=by delta argsOk;kernel_rfl
def a9v(self:v5!)(l:sw!)(k:Int)(t:Tok):Meets (Builtin.«object.__init__» #[[self,cs!],eX_]) (λ_ R s=>s.TypeIs self "enumerate"/\R (.ok q7!) s):=by
 exact Meets.of_wp λprog w A R s hs=>?_;let#[hT,hq]:=hs;let hl:=YA.init.lookup;let hm:=YA.made
 repeat (any_goals (first|assumption|wp_step))
 exact rc_
def call_enumK{E:G_}{s:yU!}{ak:bp_}{k:Int}{Q:G_}(hL:iS_)(hk:tF!)
  (h:∀h',IsEnum h' X! s.heap.objs.size k .none->EJ! s.heap.objs.size 0->mK!->Q fH_ {s with heap:=h'}):
  wpAny n! A (call gt_ [cs!] eX_) Q E s:=by
 let#[#[c,dct,dt,sl],hl,hc,n,hd]:=hL
 replace hc:c=.type "list":=hc
 replace hd:dt=HE_ ak:=hd
 subst hc hd;let ft:=YA;let#[c,tl,hmro]:=ft.mro;let hmade:=ft.made;let ow:=ft.sub;let h2:=ft.canCreate;let hct:=a3t l k t;exact wpAny_call (codeAny_of_tree ?_);show Di! (callAny gt_ _) _;exact MH #[Code.quiet_builtin _ c_,VG F.entry_type_call ?_];rw[Around.under_plain (weight_type_call_type _ _ _) (units_type_call_type _ _ _)]
 repeat (any_goals (first|assumption|wp_step))
 obtain⟨R0,hR0⟩:∃R0:Result->Shared->Prop,R0=λr ao=>r=EZ_ (.ref (s.heap.push {cls:=.type "list_iterator",data:=.fields [.ref l,.int 0 0].toArray}).objs.size)/\ao={s with heap:=(dV_).push {cls:=.type "enumerate",data:=C7! k}}:=D_
 let hN:Gn! "enumerate.__new__" na_ R0 s:=
  codeAny_call_builtin ft.plain F.entry_enumerate_new (wpAny_of_eq (a5k l k t) (b5m l ak n dct sl k t hk prog w A.in1 R0 s #[hl,by rw[hR0];exact ae!]))
 exact UW hN λr ao hr=>?_;rw[hR0]at hr;let#[rfl,rfl]:=hr;let hz:(dV_).objs.size=j!+1:=RK ..;rw[hz];let he:IsEnum ((dV_).push
   {cls:=.type "enumerate",data:=C7! k}) X! s.heap.objs.size k .none:=by
  let:=NJ dV_
   (o:={cls:=.type "enumerate",data:=C7! k}) χ
  rw[hz]at this;exact this
 let hq:=h _ he #[_,MJ _ hF_,rfl,rfl] λb o x=>MJ _ (MJ _ x);generalize hh:(dV_).push {cls:=.type "enumerate",data:=.fields [.none,.bool false,.ref j!,rawInt k,.none,.none].toArray}=h9 at he hq ⊢;let hT:({s with heap:=h9}:yU!).TypeIs fH_ "enumerate":=m3!;let zf:=ft.init.lookup;let v8:=ft.init.bind fH_
 repeat (any_goals (first|assumption|wp_step))
 obtain⟨R1,hR1⟩:∃R1:Result->Shared->Prop,R1=λr av=>r=.ok (.ret .none)/\av={s with heap:=h9}:=D_
 let hI:Gn! "object.__init__" #[[.ref X!,cs!],eX_] R1 {s with heap:=h9}:=
  codeAny_call_builtin ft.init.plain F.entry_object_init (FU_ ft.init.check _ _ _ _ hT (a6i _ l k t) (a9v fH_ l k t prog w A.in1 R1 {s with heap:=h9} #[hT,by rw[hR1];exact ae!]))
 exact UW hI λr₂ av hr₂=>?_;rw[hR1]at hr₂;let#[rfl,rfl]:=hr₂
 repeat (any_goals (first|assumption|wp_step))
open PyProof.Rows
def callWith_typeK{M:Model}{E:G_}{pos:Pos}{T:String}{uw:μ Keyword}{Q:G_}
  (h:DR_ M (spliced nd!) (λvs ao=>DR_ M (evalAll (G4! gx_))
   (λh1 av=>DR_ M (call cB_ vs (((gx_).filterMap e_).zip h1)) Q E av) E ao) E s)
  (he:JV_ tH_=(θ,eval e env)::JV_ (Fa! env))(cx:(nd!).any e_=θ)
  (ji:(gx_).all (·.1.isSome)=τ)(hkw:(gx_).any (·.1.isNone)=θ):
  wpAny M A (callWith pos cB_ [] nd! gx_) Q E s:=by
 delta callWith;exact MC (OM (?_:wpAny M A (evalArgs cB_ τ _ _) _ _ s));rw[he]at h ⊢;exact evalArgs_kwB ji (PF h (λvs s1 Y=>PF Y (λh1 s2 h2=>MC (VB ?_)) λ_ _ x=>x) λ_ _ x=>x);rw[he]at cx;simp![cx,hkw,WY];exact MC ab_;exact MC (PF h2 (λr av hr=>MC (OM (wpAny_point (MH hr)))) λ_ _ x=>x)
end WR
namespace DL
open PySem PySem.Spec PyProof.Rows L2
section
variable{X:Cx}{own:List Nat}{a:Expr}{jc:List Expr}{n1:Nat}{pos p tp p3 kp:Pos}{fa:WE}{cj:Nat}
def Wk(k:δ)(f:WE):WI:=λρ M T=>f ρ M λd M1=>match d with
 |.lst xs=>T tJ_ P! M1
 |_=>False
def d2x(hg:qG!)(hm:qG_)(h:aj_)(k:δ)(hk:Builtin.SmallTypes.fitsIndex (k:Int)=τ)(hs:qH!:=by rfl)(az:EP_ pos yF_=false:=by rfl):
  MI X own dv_ (.Call BW! [a] [#[ψ "start",.Constant (.int (k:Int)) cj p3,kp]] pos) (Wk k fa):=⟨by
 intro hb s Z H R I ⟨G,ρ,M,T,st,e,k'⟩;exact QH (JT_ (WR.callWith_typeK (Eu_ (cU h.ok eO hs pos hb s Z H (λvs H1=>∃v xs M1 G1,vs=[v]/\T tJ_ P! M1/\XM M G H M1 G1 H1/\MR X.prog X.w X.K M1 G1 H1/\Ap X.K G1 N_ v) I tz!)) (EX_ hs) az χ χ))
 .cases d<;>first|exact r1.elim|skip
  exact tz_
 subst q1;let#[l,ys,rfl,q,rl]:=bU rr;let#[u,rfl,ru]:=gV r1;cases ru;exact kws_cons (XX lZ_);let I1':=I1.tok (s1.toks+1);let#[its,rv,pl,hz]:=I1'.list tA!;exact Fu! WR.call_enumK hk λh' he ay cu=>?_;exact UT he ?_;let io:∀b∈qH_,x_<=b:=λb J=>by
  simp![MM,MN,RI]at J;obtain rfl|rfl:=J<;>omega
 let uq:l<x_:=by let#[o,n,z,_]:=pl;exact NP z
 exact#[_,_,_,_,H1,χ,I1'.kept cu,a8c (XO _) (RA (UL uq)) (NZ uq),#[#[_,by rw[TW];exact he],ay],BY!,k' _ _ M1 _ G1 H1 t1 x1 m1 ?_];intro i M' G' H' g1 g2 m' _;let hl:=aK rl;let q':Ek X.K H' l ys:=g2.seq (g1.seq q);exact#[dp!,λhi=>#[ys,q',by rw[MV,VA]at hi;omega]];rw[OE,WB]at hd;let#[q2,oy,rfl]:=MQ.mp hd;let#[c,hc,rfl]:=MQ.mp oy;let#[v,gv,rv']:=fP rl hc;exact#[#[ys,v,q',gv],ft!];let#[T',x',rfl,hT,jo,rfl]:=hy;let:=jo ys q';rw[gv]at this;cases this;exact Jb! (rv'.mono g1);rw[TW];exact Ap.int⟩
end
section
variable{X:Cx}
def b6z:Fm X bj! tM_:=by intro hb s Z H xs us Q I r h;let#[b,rfl,q]:=h;let#[u,rfl,ru]:=gV r;cases (show u=Value.bool b from ru);exact PySem.call_int_1 (PySem.meets_int_new_bool b) (show(PySem.Made.int _).post _ s from#[χ,iY!])
end
def Ui:μ D->ι D
 |[.bl b]=>C2_ jn_
 |_=>υ
def c9k{K:zA!}:Kq K tM_ Ui:=by
 show"!<";delta Ui at e;show"!9"
 .show"!7";cases dA rv;cases e;exact xw_
 .cases e
def CO(s1:Str)(fa:m_):Ae->ι D:=λρ=>(ch!).bind λx=>match x with
 |.int i=>if c8_<1920/\(tN_).length<=big then E7_ tN_ else υ
 |_=>υ
def c8z{X:Cx}{own:g_}{j1:δ}{fa:m_}(ha:K_):C5! (.JoinedStr [.Constant (.str s1) j1 q1,.FormattedValue a (-1) υ q2] pos) (CO s1 fa):=⟨λhb s Z H Q I ⟨G,ρ,d,er,e,k⟩=>by
 let#[x,e1,e]:=MD.mp e;cases x<;>first|(cases e;done)|skip
 rename_i i;simp only at e;show"!9"
 .rename_i h;cases e;let#[Y,h3]:=h;let h4:=NW h3 ki!;simp![UO]at h4;exact JoinedStr_many (FP_ (YD #[by rw[Str.empty_append];omega,?_]));rw[Str.empty_append];exact FP_ (c8h ha dV! er e1 Y λG1 H1 s' t x1 I1=>#[by simp![UO];omega,?_]);exact joinParts_nil ?_ (by simp![UO];omega);exact#[.str _,H1,(I1.tok _),D_,k _ G1 H1 x1 Ap.str]
 .cases e⟩
def c3q{X:Cx}{own:g_}{x i:Str}(hm:∃t,X.mg x=ψ (.str i t))(hg:J!)(hd:y!:=by decide):JQ_ cx! hd!:=by let#[t,ht]:=hm;exact b6t (a0m (v:=V.str i) hg ht cc_ hd) fo! λ_=>Ap.str
def c8b{K:zA!}{h:Heap}{mg:Q!}(X:K.In h)(G:eo_)(a:Ec! K x=EF_ (.str i tk)):∃tk,mg x=ψ (.str i tk):=#[tk,kQ!]
section
variable{X:Cx}{own:List Nat}{a b c:Expr}{pos:Pos}{fa fb:WE}{ft:WT}{M0:Mh}{G0 F0:Hp}
def d2t(hc:hY_)(ha:Kj_ a fa)(J:Kj_ b fb):Kj_ iC_ (BV ft fa fb):=λhb s Z H Q I ⟨G,ρ,M,R,sr,e,k⟩=>
 pC hc.ok ha J hb s Z H Q I ⟨G,ρ,M,_,sr.st,e,λx M1 G1 H1 r1 x1 m1=>by
  cases x with
  |true=>exact kL tO_
  |false=>exact lK tO_⟩
end
def Qi:Ae->ι D:=λ_=>υ
def a6z{X:Cx}{own:g_}:C5! e Qi:=#[λhb s Z H Q I ⟨G,ρ,d,er,e,k⟩=>by cases e]
end DL
namespace K23
open PySem L2 DL
nonrec def top(i:δ):Stmt:=PySem.Challenge.pw_manyhands_k23_own_undoing.main.body.getD i sm!
def Hz(i j:δ):Stmt:=match top i with
 |.ClassDef _ _ _ b _ _ _ _ _ _ _=>b.getD j sm!
 |s=>s
structure Bb where
 mk::
 A0:Addr
 A7:Addr
 A8:Addr
 A9:Addr
 B0:Addr
 B1:Addr
 B2:Addr
 B3:Addr
 B4:Addr
 B5:Addr
 B6:Addr
 B7:Addr
 HandsError:Addr
 NotThere:Addr
 Nothing:Addr
abbrev Ti:Stmt:=top 13
abbrev Tk:Stmt:=top 14
abbrev Ph:Stmt:=top 15
abbrev Vh:Stmt:=top 16
abbrev Od:Stmt:=top 17
abbrev Vi:Stmt:=top 18
abbrev Qx:Stmt:=top 19
abbrev Rw:Stmt:=top 20
abbrev Vf:Stmt:=top 21
abbrev Pg:Stmt:=top 22
abbrev Tj:Stmt:=top 23
abbrev Mc:Stmt:=top 25
abbrev Vj:Stmt:=top 26
abbrev Oe:Stmt:=top 27
abbrev Nf:Stmt:=top 28
abbrev Tl:Stmt:=top 29
abbrev Xk:Stmt:=Hz 31 0
abbrev Ry:Stmt:=Hz 31 1
abbrev Md:Stmt:=Hz 31 2
abbrev Og:Stmt:=Hz 31 3
abbrev Qy:Stmt:=Hz 31 4
abbrev Qz:Stmt:=Hz 32 0
abbrev Pk:Stmt:=Hz 32 1
abbrev Kz:Stmt:=Hz 32 2
abbrev Kd:Stmt:=Hz 32 3
abbrev Pj:Stmt:=Hz 32 4
abbrev La:Stmt:=Hz 32 5
abbrev Oh:Stmt:=Hz 32 6
abbrev Ng:Stmt:=Hz 32 7
abbrev Pl:Stmt:=Hz 32 8
abbrev Jq:Stmt:=Hz 32 9
abbrev Kc:Stmt:=Hz 32 10
abbrev Jf:Stmt:=Hz 32 11
abbrev Gw:Stmt:=Hz 32 12
abbrev Hf:Stmt:=Hz 32 13
abbrev Jr:Stmt:=Hz 32 14
abbrev Lp:Stmt:=top 34
abbrev Qw:Stmt:=top 35
abbrev Xe:Stmt:=top 36
abbrev AK:Stmt:=top 37
abbrev Xf:Stmt:=top 38
abbrev Vl:Stmt:=Hz 41 0
abbrev Sa:Stmt:=Hz 41 1
abbrev Rx:Stmt:=top 42
abbrev Qv:Stmt:=top 43
abbrev Vg:Stmt:=top 45
abbrev Ru:Stmt:=top 46
abbrev Xj:Stmt:=top 50
abbrev Wr:Stmt:=top 54
abbrev Oa:Stmt:=top 56
abbrev Kb:Stmt:=top 57
abbrev Je:Stmt:=top 58
abbrev Yr:Stmt:=top 59
abbrev Xg:Stmt:=top 60
abbrev Tn:Stmt:=top 61
abbrev AJ:Stmt:=top 62
abbrev Xh:Stmt:=top 63
abbrev Nt:Stmt:=top 64
abbrev Rv:Stmt:=top 65
abbrev Mb:Stmt:=top 67
abbrev AL:Stmt:=top 68
abbrev Wp:Stmt:=top 69
abbrev Rq:Stmt:=top 70
abbrev Pe:Stmt:=top 72
abbrev Tg:Stmt:=top 73
abbrev Rr:Stmt:=top 74
abbrev Pf:Stmt:=top 75
abbrev Pi:Stmt:=top 76
abbrev Wq:Stmt:=top 77
abbrev Oc:Stmt:=top 80
abbrev Th:Stmt:=top 81
abbrev Ob:Stmt:=top 82
abbrev Rs:Stmt:=top 84
abbrev Xi:Stmt:=top 85
abbrev Yv:Stmt:=top 87
abbrev AN:Stmt:=top 88
abbrev Rl:Stmt:=top 91
abbrev Xm:Stmt:=top 92
abbrev To:Stmt:=top 93
abbrev Yt:Stmt:=top 94
abbrev Ts:Stmt:=top 95
abbrev Xl:Stmt:=top 96
abbrev Tp:Stmt:=top 97
abbrev Vk:Stmt:=top 98
abbrev Tr:Stmt:=top 99
abbrev Tq:Stmt:=top 100
abbrev Yu:Stmt:=top 101
abbrev Rz:Stmt:=top 102
abbrev Ys:Stmt:=top 103
abbrev Me:Stmt:=top 104
abbrev Ke:Stmt:=top 105
abbrev Ni:Stmt:=top 106
abbrev Pm:Stmt:=top 110
abbrev AM:Stmt:=top 111
abbrev Nh:Stmt:=top 112
abbrev Ws:Stmt:=top 113
abbrev Rt:Stmt:=top 114
def fM:Fc tP_ [bL_] (Aj Rt):=f_
def Vr:Ae->ι Fl:= (Bi (Ii (Lf "int" k!) (Ii (CN (Lf "bool" k!)) (f2 Ww (f1 BO R_) tR_))))
def Gc:μ D->ι D:=EJ_ Vr
def Vt:Ae->ι Fl:= (Kq! (f1 Gc R_) (Gs Rm Ww z_ k! r!))
def Hs:μ D->ι D:=Di nj! 2 (Vt)
def Ra:Ae->ι Fl:= (Kq! (f1 Gc R_) (f2 KR k! u_))
def Ee:μ D->ι D:=EJ_ Ra
def Xt:Ae->ι Fl:= (sSeq (DH! Zx aV_) (Kq! (f1 Hs (C4! aM! ca!)) (EN! Ee gC_)))
def Fh:μ D->ι D:=EJ_ Xt
def Ps:Ae->ι Fl:= (sSeq (DH! Zx ae_) (Kq! tY! (f1 Hs (C4! dY_ ca!))))
def Eo:μ D->ι D:=EJ_ Ps
def Xu:Ae->ι Fl:= (Bi (Ms (f1 Fh R_) (Ms tZ_ t0!)))
def Kv:μ D->ι D:=EJ_ Xu
def Sj:Ae->ι Fl:= (Bi (Ms nk_ (f1 Fh R_)))
def Hb:μ D->ι D:=EJ_ Sj
def Tz:Ae->ι Fl:= (Bi (Ms nk_ (f1 Eo R_)))
def Ie:μ D->ι D:=EJ_ Tz
def Xr:Ae->ι Fl:= (Kq! (IE_ Gs) (f2 Zx (f1 EE R_) (DH_ 37)))
def Fg:μ D->ι D:=Di gG! 1 (Xr)
def Xp:Ae->ι Fl:= (sSeq (Kk! (Qh (Ea nm!) (Ea nm_))) (JX_ Zs (Dj_ (EH k!) gG_)))
def Kt:μ D->ι D:=EJ_ Xp
def Vs:Ae->ι Fl:= (Bi (f1 Hs (C4! k! dZ!)))
def Du:μ D->ι D:=EJ_ Vs
def Ec(t:Bb):μ ck!:=[("put",.tup [dZ_,.fn t.A7]),("move",.tup [dZ_,dZ_,.fn t.A7]),("drop",.tup [dZ_]),("write",.tup [dZ_,.fn t.A8,.fn t.A9]),("cut",.tup [dZ_,.fn t.B0,.fn t.B1]),("set",.tup [dZ_,.fn t.B2,.fn t.B3]),("undo",.tup [.fn t.B4]),("redo",.tup [.fn t.B4])]
def Iz(t:Bb):Addr->ι pn!:=λa=>if a=t.A0 then ψ Kv else if a=t.A7 then ψ Hb else if a=t.A8 then ψ Ie else if a=t.A9 then ψ Kt else if a=t.B0 then ψ Eo else if a=t.B1 then ψ Ee else if a=t.B2 then ψ Du else if a=t.B3 then ψ Gc else if a=t.B4 then ψ Fh else υ
def Ua(t:Bb):Ae->ι Fl:= (sSeq (Kk! (fT (f2 Zx cA! nn_))) (JX_ Zs (Hi_ 2)))
def Fi(t:Bb):μ D->ι D:=Di np! 2 (Ua t)
def Xv(t:Bb):Ae->ι Fl:= (sSeq (DH! At z_) (sSeq (Kk! (Qh t8! t8_)) (FQ! (Kk! (Ea ua!)) (Ms ua_ ub!))))
def Iy(t:Bb):μ D->ι D:=Di B_ 1 (Xv t)
def Pt(t:Bb):Ae->ι Fl:= (sSeq (DH! Zx dZ!) (Kq! tY! (Ii (EN! Ee dY_) (EN! (Iy t) d0_))))
def Cw(t:Bb):μ D->ι D:=Di B_ 1 (Pt t)
def Ol:Ae->ι Fl:= (Bi (Kq_ dY_ aM!))
def Df:μ D->ι D:=Di bd! 1 (Ol)
def Pv:Ae->ι Fl:= (Bi (Wc Df k!))
def Cy:μ D->ι D:=Di cC_ 1 (Pv)
def Zg(t:Bb):WS:= (Ag (Fz t.B7 "following" i_ ud_) (Fz t.B7 "preceding" i_ ud_))
def Fq(t:Bb):WF:=E0_ [J_] Zg
def Kf(t:Bb):WS:= (Aw (Lh (wl jh_) (w2 aX_ p! bM_)))
def Fj(t:Bb):WF:=Dk! ay! Kf
def Nj(t:Bb):WS:= (Ag (Am 3 (BV uf! A! aX!)) (Ag (Am 4 (w2 By bM_ ay_)) (Ag (Bx bM_ ay_ p!) (Ag (Bx e5! p! ay_) (Ag (Bx bM_ p! aM_) (Bx e5! aM_ p!))))))
def Cf(t:Bb):WF:=GH_ [J_,ac!,dh!,"ahead","follower"] Nj
def Pw(t:Bb):WS:= (Ag (Am 2 (Ve e5! p!)) (Ag (Am 3 (Ve bM_ p!)) (Ag (Bx bM_ A! ay_) (Bx e5! ay_ A!))))
def Hu(t:Bb):WF:=Dk! [J_,ac!,"ahead","follower"] Pw
def Mg(t:Bb):WS:= (Ag nu_ (Ag (Am 2 (w2 By bM_ aX!)) (Ag (Jy uh_ ui!) dh_)))
def Hc(t:Bb):WF:=E0_ [J_,jj!,ac!] Mg
def Sk(t:Bb):WS:= (Ag (Fz t.B6 "parents" i_ (HA! aX! aX!)) (Ag (Fz t.B6 "rows" i_ (HA! gI! gI!)) (Ag (Ge_ "texts") (Ag (Ge_ "numbers") (Ag (Ge_ "written") (Ge_ "hidden"))))))
def Hd(t:Bb):WF:=E0_ [J_] Sk
def Lj(t:Bb):WS:= (HA_ di!)
def Cg(t:Bb):WF:=Dk! ay! Lj
def Hg(t:Bb):WS:= (HA_ e5_)
def Bs(t:Bb):WF:=Dk! ay! Hg
def Lc(t:Bb):WS:= (Ag (Jy gI_ gJ!) (Aw (wl jh_)))
def Ey(t:Bb):WF:=GH_ nx! Lc
def Rb(t:Bb):WS:= (Ag (Am 4 (BV (wT ul!) A! jj_)) (Ag ul_ (Ag um! (Ag vj! (Ag uo! uo_)))))
def Io(t:Bb):WF:=Bk [J_,bd_,"parent","sibling","place"] 4 (Rb t)
def Hh(t:Bb):WS:= (Aw (Lh nA! (Lh ul! (Yn (Az t.B6 "is_within" 3 (Ey t) i_ (Ab A! af!))))))
def Dw(t:Bb):WF:=GH_ nA_ Hh
def Px(t:Bb):WS:= (Ag uq! (Ag (Cd (Az t.B7 "take_out" 2 (Hu t) (w2 By di! jk_) af!)) (Ag (Cd (E1! A!)) (Bx nv_ p! A!))))
def Ft(t:Bb):WF:=Bk gK_ 4 (Px t)
def Jn(t:Bb):WS:= (Ag (As (Hw (wT (JY! i_ d1!))) Np Bf) (Ag (Am 5 ay_) (Cn (Gu (Wb S_)) (Qn 6 7) (Ag nD! (Ag ur_ (Ag uu! (Am 5 d2!)))))))
def Gr(t:Bb):WF:=Bk [J_,uv!,bd_,"behind","text","ahead","k","sign",ac!] 5 (Jn t)
def Lk(t:Bb):WS:= (Ag (As (Hw (wT nA!)) Np Bf) (Cn (Gu (So e6! ux!)) (Bw 4) (Ag ux_ uy!)))
def Ip(t:Bb):WF:=Bk [J_,bd_,"first","many","k",ac!] 4 (Lk t)
def Kg(t:Bb):WS:= (As (wT nA!) (Bx uz_ A! ay_) Bf)
def Ep(t:Bb):WF:=Bk nE_ 4 (Kg t)
def Gx(t:Bb):WS:= (Aw jk_)
def Ex(t:Bb):WF:=Dk! ay! Gx
def Ga(t:Bb):WS:= (Aw (GZ! (w2 By di! p!)))
def Eg(t:Bb):WF:=Dk! ay! Ga
def Lq(t:Bb):WS:= (Aw (Bd 1 [0] (Cb (GZ! uy_)) q_ (wT (w2 d4_ i_ (Au t.B6 "hidden" p!))) i_))
def Dv(t:Bb):WF:=Dk! cE! Lq
def Mi(t:Bb):WS:= (Aw (Pd "" (Bd 1 [0] uB_ q_ d5! (w2 By (Au t.B6 "written" p!) i_))))
def Fs(t:Bb):WF:=Dk! cE! Mi
def Gi(t:Bb):WS:= (Aw (FZ! Wx uz_))
def Er(t:Bb):WF:=Dk! cE! Gi
def Mf:Ae->ι Fl:= (Bi (Ms uD! (f2 At gN! (fC gN_))))
def Ao:μ D->ι D:=Di bd! 1 (Mf)
def Si:WS:= (Ag (Am 1 Gv) (JY_ (FZ_ jo_) uE_))
def Fp:WF:=Bk [e4_,e9_,dg!] 1 (Si)
def Yz:WS:= (Ag (Am 1 (Fa_ Fp)) (Ag (Am 2 Gv) (Ag (Cn jr! as_ jt!) fa_)))
def Fo:WF:=Bk [e4_,e9_,jj!,dg!,ac!] 1 (Yz)
def DX(t:Bb):WS:= (As uI! (Cd (Az t.B6 "put" 4 (Io t) i_ (Ab p! (Dm! dj! jv!)))) (As uJ! (E4_ "move" Ft) (As uK_ (Cd (Az t.B6 "move" 4 (Ft t) i_ uL!)) (As uL_ (Cd (Az t.B6 "write" 5 (Gr t) i_ (Ab p! gR_))) (As uM_ (E4_ "cut" Ip) (As uO_ (E4_ "set_number" Ep) Bf))))))
def Lw(t:Bb):WF:=GH_ nL! DX
def Za(t:Bb):WS:= (Ag uR_ (Ag (Am 2 (Fa_ Fo)) (Ag (Cn (FZ_ jo_) as_ (Ag nG_ uT_)) dh_)))
def Kj(t:Bb):WF:=E0_ [e4_,jw_,d8!,dg!,ac!] Za
def Xx(t:Bb):WS:= (Ag (IF! "ours" p!) (Ag (IF! "taken" Gv) (Ag (IF! "waiting" (Ri Ad)) uV_)))
def Kx(t:Bb):WF:=Dk! nN! Xx
def Ue(t:Bb):WS:= (Aw (FZ! Wa uW!))
def Gn(t:Bb):WF:=Dk! nO_ Ue
def Ub(t:Bb):WS:= (Ag nu_ (HM_ (AG 1 nP!)))
def Dg(t:Bb):WF:=E0_ [V!,e4_,dh!] Ub
def Sh(t:Bb):WS:= (Ag (As (wT (w2 (λ_=>Jh) uX! aX!)) (IF! "outline" (Ak 1 (Kj t) jy_)) Bf) (Aw uX!))
def Ct(t:Bb):WF:=E0_ bg! Sh
def Xs(t:Bb):WS:= (Aw (w2 jr_ (wl uY_) (w2 Rh (Fb! nQ_) (wl u_))))
def Ku(t:Bb):WF:=Dk! cF! Xs
def Tx(t:Bb):WS:= (Ag (As (wT (w2 jr_ (Fb! af!) bN!)) (Aw bN!) Bf) (Aw (w2 By (w2 By (w2 By d8_ p!) (wl gW!)) (wl aV_))))
def Gk(t:Bb):WF:=Dk! fd_ Tx
def Zf(t:Bb):WS:= (Ag (Cd (Yo (Rp d8_ (wl nQ!) (Ri Ad)) p!)) uV_)
def Mm(t:Bb):WF:=Dk! cF! Zf
def DZ(t:Bb):WS:= (Ag (Am 2 (Wm p!)) (Aw (Bd 1 [2] (Cb nP_) q_ (wT (w2 nR_ jz! (Fd p! gW_ bN!))) i_)))
def Qg(t:Bb):WF:=Dk! [V!,"have",nS!] DZ
def Pp(t:Bb):WS:= (Fb_ (Az t.B6 "has" 2 gK! A! af!))
def Hq(t:Bb):WF:=Dk! [V!,ac!,jw_] Pp
def Lb(t:Bb):WS:= (Fb_ (JY! A! af!))
def Bz(t:Bb):WF:=Dk! [V!,bd_,jw_] Lb
def Jt(t:Bb):WS:= (Ag u2! (Aw jB!))
def Ef(t:Bb):WF:=GH_ fe_ Jt
def AZ(t:Bb):WS:= (Aw u3_)
def Ks(t:Bb):WF:=Dk! aZ_ AZ
def Zb(t:Bb):WS:= (H8! "parent_of" Ex)
def Mj(t:Bb):WF:=Dk! aZ_ Zb
def Vu(t:Bb):WS:= (Aw (Az t.B6 "children_of" 2 (Eg t) (EM! Hq jA_) af!))
def Ht(t:Bb):WF:=Dk! aZ_ Vu
def DU(t:Bb):WS:= (H8! "text_of" Fs)
def Su(t:Bb):WF:=Dk! aZ_ DU
def Zc(t:Bb):WS:= (Aw (H7_ (Az t.B6 "numbers_of" 2 (Er t) (Ak 3 (Ef t) (Ab i_ (Ab p! d1!))) af!)))
def Kk(t:Bb):WF:=GH_ fe_ Zc
def Vp(t:Bb):WS:= (Aw u7_)
def Ho(t:Bb):WF:=Dk! fd_ Vp
def Sg(t:Bb)(E:EK):WS:= (Ag (As u8_ (Nb t.NotThere E (DB (gN 1 g0))) Bf) (HA_ (Ak 1 Fo jy_)))
def Ji(t:Bb):EN:=λds M R E=>Bk gY_ 2 (Sg t E) ds M R
def Tv(t:Bb):WS:= (Aw (w2 Rh (wl u_) (FZ! (λ_=>Vw (ψ 0)) u9!)))
def Ib(t:Bb):WF:=E0_ bg! Tv
def DY(t:Bb):WS:= (Ag (Am 2 (Qu (Ab nY_ (Ab (w2 Rh (Fb! (Ab nY_ Ad)) (wl u_)) Ad)))) (Ag (Cd (Jk_ Mm u9_)) fa_))
def Qf(t:Bb):WF:=Dk! [V!,"deed",ac!] DY
def AX(t:Bb)(E:EK):WS:= (Ag (Am 1 (Ak 1 Fo jy_)) (Ag (Am 2 (Bd 1 [1] (Cb (Jk_ Ho nY_)) q_ (wT (w2 d4_ i_ p!)) i_)) (Ag (Jn! (f2 At (f1 Bv aY_) z_) (Er! "there is nothing to undo")) (Jl! (C4! e7_ (KM! C!))))))
def Sr(t:Bb):EN:=λds M R E=>Bk [V!,d8!,jj!] 1 (AX t E) ds M R
def AY(t:Bb)(E:EK):WS:= (Ag (Am 1 nP_) (Ag (Am 2 (Ak 1 Fo af!)) (Ag (Am 3 (Bd 1 [] (FZ_ r!) q_ (Ee_ uD!) (wl (Ev! d0_)))) (Ag (Am 4 (Bd 1 [0,2] (FZ_ S!) q_ (Dt va! (Fo_ i_ A!)) i_)) (Ag (Jn! (f2 At fg! z_) (Er! "there is nothing to redo")) (Jl! (C4! (fC gN_) (KM! S_))))))))
def Ss(t:Bb):EN:=λds M R E=>Bk [V!,e4_,d8!,"named",jj!] 1 (AY t E) ds M R
def Xn:Ae->ι Fl:= (sSeq (Kk_ (fT nk_) ve!) (FQ! (Kk_ tV! (Nv jJ_ ve_)) n4!))
def Ff:μ D->ι D:=Di g0! 1 (Xn)
def Ox:Ae->ι Fl:= (Bi (Nv jb! (Dj_ (Rg n5!) (f1 Ff R_))))
def Da:μ D->ι D:=Di bd! 1 (Ox)
def Tu:Ae->ι Fl:= (FQ! (Dk 1 (f1 Wy R_)) r!)
def Dp:μ D->ι D:=Di ["word",jn!] 1 (Tu)
def Xo:Ae->ι Fl:= (sSeq (Kk_ (fT (f2 At k! ve!)) bi!) (sSeq (Kk_ (Qh (fT tZ_) (fT t0!)) k!) (sSeq (Hx (fT (f2 HS jJ_ k!)) (JX_ Ln (Dj_ (Cs n6!) g0_)) El) (Bi g0_))))
def Ed:μ D->ι D:=Di dl! 1 (Xo)
def Gb:Ae->ι Fl:= (sSeq (Dk 1 n8!) (Bi (f1 Ln (Ac (f2 An (f2 An n7! (Dj_ (Cs g1!) jK_)) (Dq k! (Aq r!) Av)) Af))))
def Ev:μ D->ι D:=Di [e9_,"end"] 1 (Gb)
def DV(t:Bb):Ae->ι Fl:= (sSeq (Dk 1 (Xa k! jb! (DH_ 6))) (sSeq (Dk 2 (f1 Ln (Kr! (Dj_ (Cs n9_) g0_) (Fe vo!)))) (FQ! (Hx (Qh vp! vq!) gx! El) C!)))
def Im(t:Bb):μ D->ι D:=Di [ea!,e9_,dg!] 1 (DV t)
def Pr:Ae->ι Fl:= (Bi (CO "hand " k!))
def Cv:μ D->ι D:=Di [gT_] 1 (Pr)
def Vq(t:Bb):WS:= (GZ_ vt_
 He)
def Qe(t:Bb):WF:=E0_ [fj!,gT_] Vq
def Pq(t:Bb):WS:= (Ag (As (Ym (wT (w2 nR_ (FZ! Wa (Au t.B5 "waiting" i_)) bN!)) vu!) He Bf) (Aw (w2 nR_ (wl ob!) (EM! Gk (Ab i_ nQ_)))))
def Hr(t:Bb):WF:=Dk! cF! Pq
def Tw(t:Bb):WS:= (Ag (Am 3 (wl (Sy r! vu_))) (Ag vw! (As (Ca (Fy (fT S!) (fT Qi))) He (As (Kr_ (Ca (Ea (fT S!))) (EM! Hr vx!)) (Cd (EM! Mm vx!)) He))))
def Ic(t:Bb):WF:=GH_ [V!,ea!,"k","waits",dg!] Tw
def Zd(t:Bb):WS:= (Ag (Am 1 (Fa_ (Qe t))) (Ag (Cn vy! (Qn 2 3) (Cd vy_)) dh_))
def Ml(t:Bb):WF:=E0_ [fj!,V!,"k",ea!] Zd
def BG:Ae->ι Fl:= (FQ! (Hx (Ks! k!) vz! El) z_)
def Sx:μ D->ι D:=Di g4! 2 (BG)
def EB:Ae->ι Fl:= (sSeq (Dk 2 (f2 Dy (f2 An (f1 Sx (Ac k! cB!)) (f2 Nm (DH_ 104729) vz_)) (DH_ 4294967291))) (sSeq (Dk 2 (f2 Dy (f2 Nm C! (DH_ 48271)) (DH_ 4294967279))) (Bi (f2 Dy (f2 An (f2 Nm (f2 Ja C! (DH_ 64)) (DH_ 69621)) C!) (DH_ 4294967231)))))
def Bn:μ D->ι D:=Di [bL_,aL_,cH!] 2 (EB)
def Zj:Ae->ι Fl:= (Bi (f2 An (f2 An (FB! [gD_]) (GI! 1)) (FB! [gE_,vC_])))
def Kl:μ D->ι D:=Di bP_ 1 (Zj)
def Zi:Ae->ι Fl:= (sSeq (Sb 1 (C4! bi! (fC (.tup [g5_,g5_,aW!])))) (FQ! (Vn fa! cb_ (Hx vE_ vG! El)) r!))
def Mo:μ D->ι D:=Di [aE_,g6!,bt_,aL_] 1 (Zi)
def BA:Ae->ι Fl:= (sSeq (Dk 2 (fC (.str " abcXYZ.,;!019~[]\\\"'|{}<>@#$&*()-+/=_^:?`"))) (Bi (Nv (fC g6_) (Hj_ 1))))
def Oz:μ D->ι D:=Di [cH!,g7_,og_] 2 (BA)
def BB:Ae->ι Fl:= vz!
def Dj:μ D->ι D:=Di oh_ 2 (BB)
def Oy:Ae->ι Fl:= (sSeq vI_ (sSeq vJ! (sSeq vK! (sSeq vL_ (sSeq vM! (sSeq vM_ (sSeq vO! (sSeq vP_ (sSeq vR! (sSeq vS_ (sSeq vT_ (sSeq vW! (sSeq vZ! (sSeq v3! (sSeq v6! v7!)))))))))))))))
def Jj:μ D->ι D:=Di [bL_,jS!,aE_,g7_,cH!,"_law_items_here",a0!,on_,"_law_kinds","_law_kind","_law_sign","_law_names"] 4 (Oy)
def Zh:Ae->ι Fl:= (sSeq (Sb 3 Af) (sSeq (Sb 4 wa_) (sSeq (Sb 5 wa_) (sSeq (Vn (Eu C!) fl! (sSeq wb_ (sSeq wc! (sSeq wc_ (sSeq wd! (sSeq we! wg!)))))) (Bi S!)))))
def Mn:μ D->ι D:=Di [bL_,jS!,"_law_many",aE_,"_law_counts","_law_times",aL_,cH!,jV!,dn!] 3 (Zh)
def Vv:WS:= (Ag nu_ (JY_ jr! (GP! (Fy wi! wi_))))
def Co:WF:=Bk [aE_,g6!,bt_,jV!] 1 (Vv)
def Xw:WS:= (Ag (Am 1 Gv) (JY_ he_ (As wk_ wl! Bf)))
def Fk:WF:=Bk [aE_,"_law_last",bt_] 1 (Xw)
def BF:WS:= (Ag (Am 4 (JZ! (Ee_ wl_) i_)) (Ag (Am 5 bN!) (Ag (Jy (Ca (Fy wm! wn!)) wn_) (Ag (Cn (Gu (Eu fg!)) fl! (As wr! ws_ Bf)) (Bx i_ hf_ (EN_ wu! wu_))))))
def Ih:WF:=Bk [cg!,a0!,wv_,ww!,oh!,jV!,aL_] 4 (BF)
def BE:WS:= (Ag (Jy (Ca jk!) (Ag wx_ (Ag wy! wz_))) (Aw jm_))
def Kw:WF:=Bk [cg!,a0!,on_,"_law_above"] 3 (BE)
def BD:WS:= (As (Dt (Fo_ p! bz!) (Ym (Fo_ A! bz!) (Fo_ A! wC_))) (As wE! s9! Bf) Bf)
def Ig:WF:=Bk hi_ 4 (BD)
def Zl:WS:= (Ag ox_ (Ag oy! (As uI! (Ag wG_ (Ag wI_ (Ag wJ_ wL_))) (As uJ! oA! (As uK_ oA_ (As (Kr_ uO_ hk!) wM_ (As (Kr_ uL_ hk!) (Ag j0! (Ag (Am 6 bN!) (Ag (Cn wO! cJ_ wQ_) (Ag (Am 8 oC_) wV!)))) (As (Kr_ uM_ hk!) (Ag (Am 9 oD_) (Ag j0! wY_)) Bf))))))))
def Wz:WF:=Bk [cg!,bt_,dn!,dc_,"_law_good",oh!,jV!,aL_,"_law_new",oE!] 2 (Zl)
def Wu:WS:= (Ag w2! (Ag (Am 2 j4_) (Ag (Cn he_ as_ (As (Dt w3! w4_) w5! Bf)) dh_)))
def Pa:WF:=Bk [aE_,cg!,ng!,bt_] 1 (Wu)
def Ud:WS:= (Aw (JZ! (Ee_ (f2 At gC_ r!)) gW_))
def Gm:WF:=Bk fp_ 2 (Ud)
def Rc:WS:= (Aw (Pd "" (Bd 1 [] w6_ q_ (Ee_ dY_) jz!)))
def Gg:WF:=Bk fp_ 2 (Rc)
def Uc(t:Bb):WS:= (Ag w7! (Ag (Cn w7_ as_ (As w9! cg_ Bf)) (Ag (Cn (Jx oF_) as_ (Ag w9_ (Ag xb! xd!))) xe_)))
def Mp(t:Bb):WF:=Dk! [bt!,aE_,cg!,a0!] Uc
def BC:WS:= (Ag (Am 3 xf_) (Aw (wl (Bg (Ac r! (Ac (H8_ xg!) (Ac (H8_ xh_) aY_)))))))
def Pb:WF:=Bk [aE_,dc!,dn!,"_law_times"] 3 (BC)
def EA(t:Bb):WS:= (Kf! (AD 4 2 (FB t.Nothing "refused") λE=>(Am 2 (BV (Ee_ r!) (Jz 1 (Ss t) E aG!) (Jz 1 (Sr t) E aG!)))))
def Sv(t:Bb):WF:=Dk! [bt!,eZ!,g6!,"e"] EA
def Om(t:Bb):WS:= (Kf! (AD 4 2 (FB t.NotThere "refused") λE=>(Am 2 (Jz 2 (Ji t) E jA_))))
def Dz(t:Bb):WF:=Dk! [bt!,dc_,g6!,"e"] Om
def Zk:WS:= (Ag (Am 3 j4_) (Ag xj_ (Ag (Am 5 aX!) (Ag (KD_ xl_) (Ag (Cn (FZ_ S_) fl! xo!) j7!)))))
def Sw:WF:=Bk [aE_,dc!,eZ!,ng!,"_law_own_here",g6!,dc_,bt_] 3 (Zk)
def Ze(t:Bb):WS:= (Ag xp! (Ag xp_ (Ag xr! (Ag xs! (Ag (Cn xt_ (Bw 5) (Ag xv_ (Ag xw! (Ag oN! (Ag (Jn! oN_ (Ag xx_ (Ag xy! xz!))) xB!))))) (Ag xC_ (Ag (Cn (FZ_ oP!) cJ_ (Ag xE! (Ag xF! xH_))) xI_)))))))
def CM(t:Bb):WF:=E0_ tP_ Ze
structure Txt(P:yM!)(w:yK!)(K:zA!)(mg:Q!)(t:Bb):Prop where
 D3:AN! "is_whole" Ti B_
 D4:AN! "is_below" Tk nj!
 D5:AN! "is_from_one" Ph B_
 D6:AN! "is_name" Vh B_
 D7:AN! "is_sign_name" Od B_
 D8:AN! "is_item" Vi B_
 D9:AN! "is_sibling" Qx B_
 E1:AN! "is_behind" Rw B_
 E2:AN! "is_sign" Vf gG!
 E3:AN! "is_text" Pg B_
 E4:AN! "is_place" Tj B_
 E5:AN! "are_parts" Mc np!
 E6:AN! "is_deed" Vj B_
 E7:AN! "is_operation" Oe B_
 E8:AN! "time_and_hand" Nf bd!
 E9:AN! "in_order" Tl cC_
 F6:Uv K mg "Row" t.B7 "Row.__init__" Xk [J_]
 F7:IF_ Ci "holds" "Row.holds" Ry ay!
 F8:IF_ Ci "put_behind" "Row.put_behind" Md [J_,ac!,dh!]
 F9:IF_ Ci "take_out" "Row.take_out" Og ay!
 G6:IF_ Ci "listed" "Row.listed" Qy [J_]
 G7:Uv K mg "Outline" t.B6 "Outline.__init__" Qz [J_]
 G8:DN_ "has" "Outline.has" Pk ay!
 G9:DN_ "has_item" "Outline.has_item" Kz ay!
 H9:DN_ "is_within" "Outline.is_within" Kd nx!
 J0:DN_ "put" "Outline.put" Pj gK_
 J4:DN_ "can_move" "Outline.can_move" La nA_
 J5:DN_ "move" "Outline.move" Oh gK_
 J6:DN_ "write" "Outline.write" Ng xJ_
 J7:DN_ "cut" "Outline.cut" Pl xK!
 J8:DN_ "set_number" "Outline.set_number" Jq nE_
 J9:DN_ "parent_of" "Outline.parent_of" Kc ay!
 K0:DN_ "children_of" "Outline.children_of" Jf ay!
 K3:DN_ "signs_of" "Outline.signs_of" Gw cE!
 K4:DN_ "text_of" "Outline.text_of" Hf cE!
 K5:DN_ "numbers_of" "Outline.numbers_of" Jr cE!
 K6:AN! "is_undo_or_redo" Lp bd!
 K7:AN! "last_words" Qw cC_
 K8:AN! "undone" Xe cC_
 K9:AN! "play" AK nL!
 L4:AN! "played" Xf cC_
 L5:Uv K mg "Hand" t.B5 "Hand.__init__" Vl nN!
 L6:Ci K t.B5 "have" "Hand.have" Sa nO_
 L7:AN! "all_taken" Rx bg!
 L8:AN! "outline_of" Qv bg!
 L9:AN! "is_next" Vg cF!
 M9:AN! "last_time" Ru fd_
 N0:AN! "accept" Xj cF!
 N3:AN! "give" Wr [V!,"have"]
 N4:AN! "outline_with" Oa gY_
 N5:AN! "outline_with_item" Kb aZ_
 N6:AN! "outline_with_number" Je fe_
 N7:AN! "there" Yr aZ_
 N8:AN! "parent" Xg aZ_
 N9:AN! "children" Tn aZ_
 O0:AN! "text" AJ aZ_
 O3:AN! "number" Xh fe_
 O4:AN! "undoable" Nt fd_
 O5:AN! "is_undone" Rv gY_
 O6:AN! "next_time" Mb bg!
 O7:AN! "make" AL [V!,"deed"]
 O8:AN! "undo" Wp bg!
 O9:AN! "redo" Rq bg!
 P0:AN! "word_of" Pe g0!
 P1:AN! "shown" Tg bd!
 P2:AN! "number_of" Rr dl!
 P3:AN! "part_of" Pf dl!
 P4:AN! "deed_of" Pi [e9_]
 P5:AN! "read" Wq [ea!]
 P6:AN! "line_of_hand" Oc [gT_]
 P7:AN! "new_hand" Th [fj!]
 P8:AN! "may_be_taken" Ob cF!
 P9:AN! "load_line" Rs [V!,ea!,"k"]
 Q0:AN! "loaded" Xi [fj!]
 Q1:AN! "_law_cell" Yv g4!
 Q2:AN! "_law_mix" AN g4!
 Q3:AN! "_law_items" Rl bP_
 Q4:AN! "_law_signs" Xm bP_
 Q5:AN! "_law_text" To [cH!,g7_]
 Q6:AN! "_law_pick" Yt oh_
 Q7:AN! "_law_deed" Ts xL!
 Q8:AN! "_law_world" Xl xK_
 Q9:AN! "_law_ordered" Tp bP_
 R3:AN! "_law_undone" Vk bP_
 R4:AN! "_law_hang" Tr hi_
 R5:AN! "_law_lies" Tq xL_
 R6:AN! "_law_move" Yu hi_
 R7:AN! "_law_do" Rz [cg!,bt_]
 R8:AN! "_law_play" Ys bP_
 R9:AN! "_law_children" Me fp_
 S1:AN! "_law_shown_text" Ke fp_
 S2:AN! "_law_shows" Ni [bt!,aE_]
 S3:AN! "_law_next" Pm xM!
 S4:AN! "_law_try" AM [bt!,eZ!]
 S5:AN! "_law_undone_there" Nh [bt!,dc_]
 S6:AN! "_law_due" Ws xM_
 S7:AN! "law" Rt [bL_]
 S8:mg "abs"=υ
 S9:mg "all"=υ
 T0:mg "bool"=υ
 T1:mg "dict"=υ
 T2:mg "enumerate"=υ
 T3:mg "int"=υ
 T4:mg "isinstance"=υ
 T5:mg "len"=υ
 T6:mg "list"=υ
 T7:mg "max"=υ
 T8:mg "ord"=υ
 T9:mg "range"=υ
 U0:mg "sorted"=υ
 U1:mg "str"=υ
 U2:mg "tuple"=υ
 U3:mg "zip"=υ
 U4:∃tk,mg "HANDS"=D3_ 16
 U5:∃tk,mg "SIGNS"=D3_ 16
 U6:∃tk,mg "PLACES"=D3_ 4
 U7:∃tk,mg "LEFT_OUT"=D3_ 37
 U8:∃tk,mg "MOST_WAITING"=D3_ 8
 U9:∃tk,mg "WAITS"=ψ (.str "waits " tk)
 V0:mg "is_item"=DD_ t.A0
 V1:mg "is_sibling"=DD_ t.A7
 V2:mg "is_behind"=DD_ t.A8
 V3:mg "is_text"=DD_ t.A9
 V4:mg "is_sign_name"=DD_ t.B0
 V5:mg "is_from_one"=DD_ t.B1
 V6:mg "is_place"=DD_ t.B2
 V7:mg "is_whole"=DD_ t.B3
 V8:mg "is_name"=DD_ t.B4
 V9:Uw K t.B5
 W3:Uw K t.B6
 W4:IF_ Uw
 W5:mg "HandsError"=ψ oR_
 W6:mg "NotThere"=ψ xN_
 W7:mg "Nothing"=ψ xO_
 W8:XS.ES K t.NotThere
 W9:XS.ES K t.Nothing
 X0:XS.BR K t.HandsError
 X1:W.subIn K xN_ oR_=ψ τ
 X2:W.subIn K xO_ oR_=ψ τ
 X3:IF_ Dl "following"
 X4:IF_ Dl "preceding"
 X5:Gf! "parents"
 X6:Gf! "rows"
 X7:Gf! "texts"
 X8:Gf! "numbers"
 X9:Gf! "written"
 Y0:Gf! "hidden"
 Y1:IG! "ours"
 Y2:IG! "taken"
 Y3:IG! "waiting"
 Y4:IG! "outline"
 Y5:∀X:Cx,X.prog=P->X.w=w->X.K=K->X.mg=mg->Ut X "PARTS" e3_
open Classical
def jO:∀(l:q!) (d v:D),Iz! hm_=ψ v
 |[],d,v=>by simp[Bp,kget]
 |(k,x)::r,d,v=>by
  delta Bp;by_cases h:k=d
  .rw[MO h];simp[kget,h]
  .rw[MZ h];simp[kget,h,jO r d v]
def nX(h:d≠e):∀(l:q!) (v:D),kget hm_ e=kget l e
 |[],v=>by simp[Bp,kget,h]
 |(k,x)::r,v=>by
  delta Bp;show"#'"
  .rw[bb!];subst hk;simp[kget,h]
  .rw[bb_];dsimp only[kget];rw[nX h r v]
def c1s(h:d≠e):∀(l:q!),kget hn! e=kget l e
 |[]=>rfl
 |(k,x)::r=>by
  delta Hl;show"#'"
  .rw[bb!];subst hk;simp[kget,h]
  .rw[bb_];dsimp only[kget];rw[c1s h r]
def a9p:∀{l:q!} {d:D},kget l d≠υ↔d∈l.map e_
 |[],d=>by simp[kget]
 |(k,x)::r,d=>by
  delta kget;show"#'"
  .subst hk;simp
  .rw[bb_,a9p];simp[NY hk]
def a5z:∀{l:q!} {d:D},(eq_).Nodup->Iz! hn!=υ
 |[],d,_=>rfl
 |(k,x)::r,d,h=>by
  rw[MU,NO]at h;delta Hl;show"#'"
  .rw[bb!];subst hk;cases e:kget r k with
   |none=>rfl
   |some v=>exact C6_ (a9p.mp k4_) h.1
  .rw[bb_];delta kget;rw[bb_];exact a5z h.2
def b2v:∀{l:q!} {d v:D} {e:D},e∈Dc_ hm_↔e=d\/e∈l.map e_
 |[],d,v,e=>by simp[Bp]
 |(k,x)::r,d,v,e=>by
  delta Bp;show"#'"
  .rw[bb!];subst hk;simp
  .rw[bb_];simp![MU,MM];rw[b2v];constructor<;>(rintro(h|h|h)<;>simp[h])
def lI:∀{l:q!} {d v:D},(eq_).Nodup->(Dc_ hm_).Nodup
 |[],d,v,_=>by simp[Bp]
 |(k,x)::r,d,v,h=>by
  rw[MU,NO]at h;delta Bp;show"#'"
  .rw[bb!];simp![MU,NO];exact h
  .rw[bb_];simp![MU,NO];exact#[bZ_,lI h.2];obtain z|z:=b2v.mp z
   .exact hk z
   .exact h.1 z
def c1u:∀{l:q!} {d e:D},e∈Dc_ hn!->e∈l.map e_
 |[],d,e,h=>by simp[Hl]at h
 |(k,x)::r,d,e,h=>by
  delta Hl at h;show"#'"
  .rw[bb!]at h;simp![MU,MM];exact .inr h
  .rw[bb_]at h;simp![MU,MM]at h ⊢;obtain h|h:=h
   .exact .inl h
   .exact .inr (c1u h)
def c1v:∀{l:q!} {d:D},(eq_).Nodup->(Dc_ hn!).Nodup
 |[],d,_=>by simp[Hl]
 |(k,x)::r,d,h=>by
  rw[MU,NO]at h;delta Hl;show"#'"
  .rw[bb!];exact h.2
  .rw[bb_];simp![MU,NO];exact#[λz=>h.1 (c1u z),c1v h.2]
def jX:kget hm_ z=if z=d then ψ v else kget l z:=by
 by_cases h:z=d
 .rw[MO h,h,jO]
 .rw[MZ h,nX (NY h)]
def c1t(nd:oT!):kget hn! z=if z=d then υ else kget l z:=by
 by_cases h:z=d
 .rw[MO h,h,a5z nd]
 .rw[MZ h,c1s (NY h)]
def Sl:D->μ D->D->ι D
 |a,[],z=>if z=a then ψ .non else υ
 |a,x::r,z=>if z=a then ψ x else Sl x r z
nonrec def lst:D->μ D->D
 |a,[]=>a
 |_,x::u=>lst x u
def tL:∀{u:d_} {a:D},lst a u∈a::u
 |[],_=>ML
 |_::_,_=>MF _ tL
def a1m:∀{u:d_} {a:D},lst a (u++[x])=x
 |[],_=>rfl
 |_::u,_=>a1m (u:=u)
def pN:∀{u:d_} {a:D},u.reverse.headD a=lst a u
 |[],_=>rfl
 |x::u,a=>by
  rw[List.reverse_cons];exact Eq.trans ?_ (pN (a:=x));cases u.reverse<;>rfl
def c1g:∀{l:d_},Sl a l a=ψ (l.headD .non)
 |[]=>MO χ
 |_::_=>MO χ
def d3e(h:z≠a)(g:z≠b):∀{l:d_},Sl a l z=Sl b l z
 |[]=>(MZ h).trans (MZ g).symm
 |_::_=>(MZ h).trans (MZ g).symm
def a1o:∀{l:d_} {a z:D},Sl a l z≠υ↔z∈a::l
 |[],a,z=>by delta Sl;by_cases h:z=a<;>simp[h]
 |x::r,a,z=>by
  delta Sl;by_cases h:z=a
  .simp[h]
  .rw[MZ h,a1o,MM];simp[h]
def d3d(h:z∉a::l):Sl a l z=none:=TL λe=>h (a1o.mp e)
def tM:∀{l:d_} {a z v:D},Sl a l z=ψ v->v=.non\/v∈l
 |[],a,z,v,h=>by
  delta Sl at h;split at h
  .rcases h;exact .inl χ
  .rcases h
 |x::r,a,z,v,h=>by
  delta Sl at h;split at h
  .rcases h;exact .inr ML
  .exact(tM h).imp_right (MF _)
def a1p:∀{u:d_} {a:D},(a::u).Nodup->Sl a ac_ (lst a u)=ψ fv!
 |[],_,_=>c1g
 |x::u,a,nd=>by
  rw[NO]at nd;exact(MZ λe:lst x u=a=>nd.1 (Di_ e tL)).trans (a1p nd.2)
def tN:∀{u:d_} {a:D},n∉a::u->(a::u).Nodup->∀z,Sl a cL! z=if z=n then ψ fv! else if z=lst a u then ψ n else Sl a ac_ z
 |[],a,hn,_,z=>by
  show(if z=a then ψ n else Sl n v z)=if z=n then _ else if z=a then _ else Sl a v z
  by_cases c:z=n
  .subst c;rw[MZ λe:z=a=>hn fv_,y_,c1g]
  .rw[MZ c];by_cases d:z=a
   .rw[MO d,MO d]
   .rw[MZ d,MZ d];exact d3e c d
 |x::u,a,hn,nd,z=>by
  rw[MM,UV]at hn;rw[NO]at nd;show(GI_ cL!)=if z=n then _ else if z=lst x u then _ else(GI_ ac_)
  rw[tN hn.2 nd.2];by_cases c:z=a
  .rw[MO c,MO c,MZ λe:z=n=>hn.1 (e.symm.trans c),MZ λe:z=lst x u=>nd.1 (by rw[<-c,e];exact tL)]
  .rw[MZ c,MZ c]
structure Ge(xs:d_)(k:q!):Prop where
 f:∀z,kget k z=Sl .non xs z
 kn:(k.map e_).Nodup
 nd:(D.non::xs).Nodup
 hk:∀x∈xs,∃k,Ck x=ψ k
def c0n:∀{l m:W!},l.Nodup->(∀a∈l,a∈m)->ah!<=m.length
 |[],_,_,_=>OG _
 |a::l,m,h,hs=>by
  rw[NO]at h;let ha:=hs a ML;let:=c0n h.2 λb J=>(List.mem_erase_of_ne λz:b=a=>h.1 (z▸J)).mpr (hs b (MF _ J));rw[List.length_erase_of_mem ha]at this;let:=List.length_pos_of_mem ha;rw[NH];omega
section
variable{xs u v:List D}{k k':List (D×D)}{n z:D}
def Ge.has(h:Ge xs k):kget k z≠υ↔z∈D.non::xs:=by rw[h.f];exact a1o
def Ge.len(h:Ge xs k):ef_<=i!+1:=by let:=c0n h.kn λa ha=>h.has.mp (a9p.mpr ha);simpa using this
def Ge.key(h:Ge xs k)(hz:z∈D.non::xs):∃k,Ck z=ψ k:=by
 obtain rfl|hz:=MM.mp hz
 .exact D_
 .exact h.hk z hz
def Ge.ins(h:Ge ac_ k)(hn:n∉D.non::ac_)(hm:∃k,Ck n=ψ k)(kn:xV_)(e:∀z,kget k' z=if z=n then ψ fv! else if z=H9! u then ψ n else kget k z):Ge cL! k':=by
 let nd:=h.nd;show"!q";exact#[bZ_,kn,p.nodup_iff.mpr (NO.mpr #[hn,nd]),aA!]
 .rw[<-QX,ND,UV]at hn;rw[e,h.f,tN hn.1 (oY_).1]
 .obtain z|z:=ND.mp hx
  .exact h.hk x ix_
  .obtain rfl|z:=MM.mp z
   .exact hm
   .exact h.hk x iP!
def Ge.out(h:Ge cL! k)(kn:xV_)(e:∀z,kget k' z=if z=H9! u then ψ fv! else if z=n then υ else kget k z):Ge ac_ k':=by
 show"!q";let nd:=Fk! h.nd;show"#?";rw[<-QX]at n2;let nu:=(OL.mp n2).1;exact#[bZ_,kn,nd.2,λx hx=>h.hk x (ND.mpr ((oZ_).imp_right (MF _)))];rw[e,h.f,tN n1.1 nu];by_cases c:z=H9! u
 .rw[MO c,c,a1p nu]
 .rw[MZ c];by_cases d:z=n
  .rw[MO d,d,d3d nd.1]
  .rw[MZ d,MZ d,MZ c]
end
def a4g:Ge [] o0!:=#[λz=>by show(FE_ D.non z)=if z=D.non then _ else _;simp![eq_comm];rfl,Q_,Q_,λ_ h=>by exact(em_).elim]
def jD:∀{l:HE! α β} {a:α} {b c:β},(eq_).Nodup->(a,b)∈l->(a,c)∈l->b=c
 |[],_,_,_,_,h,_=>by exact(em_).elim
 |(x,y)::r,a,b,c,nd,Y,h2=>by
  rw[MU,NO]at nd;obtain z|z:=MM.mp Y<;>obtain w|w:=MM.mp h2
  .cases z;cases w;rfl
  .cases z;exact C6_ (NQ w) nd.1
  .cases w;exact C6_ (NQ z) nd.1
  .exact jD nd.2 z w
def Zn(n a:D):μ D->μ D
 |[]=>[]
 |x::r=>if x=a then x::n::r else x::Zn n a r
def Lr(n a:D)(xs:d_):μ D:=if a∈xs then Zn n a xs else n::xs
def lL:∀{u v:d_},a∉u->Zn n a (u++a::v)=u++a::n::v
 |[],v,_=>by simp[Zn]
 |x::u,v,h=>by
  rw[MM,UV]at h;dsimp only[List.cons_append,Zn];rw[ln!,lL h.2]
def kC:∀{l:W!},a∈l->∃u v,l=u++a::v/\a∉u
 |x::r,h=>by
  by_cases e:a=x
  .exact#[[],r,mI_,Q_]
  .let#[u,v,rfl,hu]:=kC (Ik! e);exact#[x::u,v,χ,by simp[e,hu]]
def oB(n o:D)(xs:d_):∃u v,xs=u++v/\Lr n o xs=u++n::v/\H9! u=if o∈xs then o else .non:=by
 delta Lr;by_cases h:o∈xs
 .let#[u,v,rfl,hu]:=kC h;exact#[u++[o],v,Q_,by rw[MO h,lL hu];simp,by rw[MO h,a1m]]
 .exact#[[],xs,χ,x0!,x0!]
def b3e:(BI! "following" "following")=true:=by decide+kernel
def lkP:I2! "preceding" [(Str.ofString "following",a),(Str.ofString "preceding",b)]=ψ b:=by rfl
structure Gz(t:Bb)(M:Mh)(r f p:sw!)(xs:d_):Prop where
 ob:M r=ψ o2_
 dc:∃kf ef kp ep,M f=C3_ kf ef/\M p=JZ_ kp/\Ge xs kf/\H9_ Ge
 ne:f≠p
def zA:Iw d=τ↔d=.non:=by cases d<;>simp[Iw]
def kN(hd:d≠.non):Iw d=false:=by cases q:Iw d with|false=>rfl|true=>exact C6_ (zA.mp q) hd
section
variable{t:Bb}{M:Mh}{r f p:sw!}{xs:List D}{R:D->Mh->Prop}
def a6j(h:kf!)(hk:bo!)(hR:Dn! R (d∈xs) M):Fj t [.fn r,d] M R:=by
 let#[kf,ef,kp,ep,hf,hp,K,_]:=h.dc;exact j_;by_cases hd:d=.non
 .subst hd;rw[NA (NO.mp K.nd).1]at hR;simpa[Kf,Aw,Lh,wT,wl,f2,Aa,fC,Bh,Iw]using hR
 .let e3:(Iz! kf).isSome=decide (d∈xs):=by
   let:=K.has (z:=d);cases q:Iz! kf with
   |none=>rw[q]at this;simp[hd]at this;simp[this]
   |some v=>rw[q]at this;simp[hd]at this;simp[this]
  rw[<-e3]at hR;simpa[Kf,Aw,Lh,wT,wl,f2,Aa,fC,Bh,kN hd,w2,Au,Fx,h.ob,Dm,Gq,hf,hk,b3e]using hR
structure RW(t:Bb)(M0 M:Mh)(r f p:sw!)(kf kp:q!):Prop where
 ob:M r=ψ o2_
 hf:∃e,M f=C3_ kf e
 hp:∃e,M p=C3_ kp e
 ne:f≠p/\r≠f/\r≠p
 fr:∀b,b≠f->b≠p->M b=M0 b
section
variable{M0:Mh}{kf kp:List (D×D)}{ρ:Ae}{fi fv:Ae->Option D}{y v:D}{k:MK}{Q:Fl->Mh->Prop}{i:Nat}
def RW.upF(h:cM_):ED! (mup M f (.dct c e)) c kp:=by let#[n1,n2,n3]:=h.ne;let#[ep,hp]:=h.hp;exact#[(Ds_ n2).trans h.ob,x1_,#[ep,(Ds_ (NY n1)).trans hp],h.ne,λb b1 b2=>(Ds_ b1).trans x2_]
def RW.upP(h:cM_):ED! (Ji_ (.dct c e)) kf c:=by let#[n1,n2,n3]:=h.ne;let#[ef,hf]:=h.hf;exact#[(Ds_ n3).trans h.ob,#[ef,(Ds_ n1).trans hf],x1_,h.ne,λb b1 b2=>(Ds_ b2).trans x2_]
def RW.fol(h:cM_)(h0:fx!)(K:L_):Au t.B7 "following" i_ ρ M K=K (.fn f) M:=by simp[Au,wl,h0,Fx,h.ob,b3e,Dm]
def RW.pre(h:cM_)(h0:fx!)(K:L_):Au t.B7 "preceding" i_ ρ M K=K A_ M:=by simp[Au,wl,h0,Fx,h.ob,lkP,Dm]
def RW.pf(h:cM_)(h0:fx!)(hi:hr!)(hv:fv ρ=ψ v)(hk:bn!)(hl:kf.length<big)(q:∀M',ED! M' (Bp kf y v) kp->Q ad! M'):IG_ bM_:=by let#[e,hf]:=h.hf;simpa[Bx,wl,hv,hi,h.fol h0,Ju,hf,hk,hl,Dm]using q _ h.upF
def RW.pp(h:cM_)(h0:fx!)(hi:hr!)(hv:fv ρ=ψ v)(hk:bn!)(hl:kp.length<big)(q:∀M',ED! M' kf (Bp kp y v)->Q ad! M'):IG_ e5!:=by let#[e,hp]:=h.hp;simpa[Bx,wl,hv,hi,h.pre h0,Ju,hp,hk,hl,Dm]using q _ h.upP
def RW.popF(h:cM_)(h0:fx!)(hi:hr!)(hk:bn!)(hv:kget kf y=ψ v)(q:∀M',ED! M' (Hl kf y) kp->K v M'):Ve bM_ kg_ ρ M K:=by let#[e,hf]:=h.hf;simpa[Ve,wl,hi,h.fol h0,Dr,hf,hk,hv,Dm]using q _ h.upF
def RW.popP(h:cM_)(h0:fx!)(hi:hr!)(hk:bn!)(hv:kget kp y=ψ v)(q:∀M',ED! M' kf (Hl kp y)->K v M'):Ve e5! kg_ ρ M K:=by let#[e,hp]:=h.hp;simpa[Ve,wl,hi,h.pre h0,Dr,hp,hk,hv,Dm]using q _ h.upP
def RW.of(h:kf!):∃kf kp,RW t M M r f p kf kp/\Ge xs kf/\H9_ Ge:=by let#[kf,ef,kp,ep,hf,hp,K,Kp]:=h.dc;exact#[kf,kp,#[h.ob,#[ef,hf],#[ep,hp],#[h.ne,(λz=>by let:=h.ob;rw[z,hf]at this;rcases this),λz=>by let:=h.ob;rw[z,hp]at this;rcases this],x4_],K,Kp]
def RW.at(h:cM_)(K:Ge xs kf)(Kp:H9_ Ge):FH! M xs:=by let#[ef,hf]:=h.hf;let#[ep,hp]:=h.hp;exact#[h.ob,#[kf,ef,kp,ep,hf,hp,K,Kp],h.ne.1]
def sq(h:q1 ρ M λr M1=>match r with|.nx bn=>q2 bn M1 Q|.rt d=>Q af_ M1):Ag q1 q2 ρ M Q:=h
end
def jS(h:kf!)(hn:Ck n=ψ kn)(ho:Ck o=ψ ko)(nx:n∉D.non::xs)(hl:i!<5000)
  (hR:∀M',FH! M' (Lr n o xs)->x6!->Ed_ M'):Cf t [.fn r,n,o] M R:=by
 let#[kf,kp,w,K,Kp]:=RW.of h;let#[u,v,rfl,c2,ea]:=oB n o xs;let nd:=K.nd;let km:=(K.f _).trans (a1p (oY_).1);let ma:lst D.non u∈D.non::ac_:=by rw[<-QX];exact NM _ tL
 let mb:v.headD D.non∈D.non::ac_:=by
  obtain z|z:=tM x7!
  .rw[z];exact ML
  .exact MF _ z
 let#[ka,v9]:=K.key ma;let#[kb,lp]:=K.key mb;let nb:v.headD D.non≠n:=λz=>nx (z▸mb);let ev:v.headD D.non=lst .non o3_:=by rw[<-pN,List.reverse_reverse]
 let eu:lst D.non u=u.reverse.headD .non:=pN.symm;let L:=K.len;let L':=Kp.len;rw[List.length_reverse]at L';rw[List.reverse_append]at Kp;generalize q8:lst D.non u=a0 at *;generalize wc:v.headD D.non=b0 at *;let K1:=K.ins nx #[kn,hn] (lI (lI K.kn)) λz=>by rw[jX,jX,wc,q8]
 let K2:=Kp.ins (k':=Bp (Bp kp n a0) b0 n) (λz=>nx (by simpa[or_comm]using z)) #[kn,hn] (lI (lI Kp.kn)) λz=>by
  rw[jX,jX,<-ev,<-eu];by_cases c:z=b0
  .rw[MO c,MZ (c▸nb),MO c]
  .rw[MZ c,MZ c]
 let l1:kf.length<big:=by delta big;omega
 let l2:kp.length<big:=by delta big;omega
 let l3:(Bp kf a0 n).length<big:=OZ hs! bl!;let l4:(Bp kp n a0).length<big:=OZ hs! bl!;exact j_;let#[ef,hf]:=w.hf;let hm:Dd t.B7 "holds" M kg!:=by simp[Dd,h.ob];exact#[gA_,gA_]
 let e1:∀K:D->Mh->Prop,K a0 M->BV uf! A! aX! [fy_,bB!,ψ o,υ,υ] M K:=λK hK=>by
  exact#[hm,χ,a6j h ho ?_];rw[ea]at hK;by_cases c:o∈u++v
  .rw[MO c]at hK;rw[NG c];exact hK
  .rw[MZ c]at hK;rw[NA c];exact hK
 exact e1 _ ?_;let e2:By M (.fn f) a0=ψ b0:=by simp[By,hf,v9,km]
 let e3:∀K:D->Mh->Prop,K b0 M->w2 By bM_ ay_ [fy_,bB!,ψ o,ψ a0,υ] M K:=λK hK=>by
  delta w2;rw[w.fol χ];simpa[wl,Aa,e2]using hK
 exact e3 _ ?_;exact sq (w.pf (ρ:=[fy_,bB!,ψ o,ψ a0,ψ b0]) χ χ χ v9 l1 λM1 w=>?_);exact sq (w.pp χ χ χ hn l2 λM2 w=>?_);exact sq (w.pf χ χ χ hn l3 λM3 w=>?_);exact FA_ w.pp χ lp l4 λM4 w=>hR M4 (by rw[c2];exact w.at K1 ya!) w.fr
def a3u(h:FH! M cL!)(hn:Ck n=ψ kn)(hl:(cL!).length<5000)
  (hR:∀M',FH! M' ac_->x6!->Ed_ M'):Hu t [.fn r,n] M R:=by
 let#[kf,kp,w,K,Kp]:=RW.of h;let e1:(cL!).reverse=o3_++n::u.reverse:=by simp
 let at_:∀{u v:d_} {k:q!},Ge cL! k->kget k n=ψ fv!/\n∉D.non::ac_:=λ{u v k} K=>by
  show"!q";let nd:=Fk! K.nd;exact#[?_,nd.1];show"#?";rw[K.f,tN n1.1 (OL.mp n2).1,y_]
 let L:=K.len;let L':=Kp.len;rw[List.length_reverse]at L';rw[e1]at Kp;let ev:v.headD D.non=lst .non o3_:=by rw[<-pN,List.reverse_reverse]
 let km:=(at_ K).1;let zg:=(at_ Kp).1;let#[kb,lp]:=K.key (z:=v.headD .non) (E1_ x7!);let#[ka,v9]:=Kp.key (z:=u.reverse.headD .non) (E1_ ((Kp.f _).symm.trans zg));let eu:lst D.non u=u.reverse.headD .non:=pN.symm;let K1:=K.out (lI (c1v K.kn)) λz=>by rw[jX,c1t K.kn]
 let K2:=Kp.out (lI (c1v Kp.kn)) λz=>by rw[jX,c1t Kp.kn]
 rw[<-ev]at K2;rw[eu]at K1;generalize u.reverse.headD D.non=a0 at *;generalize v.headD D.non=b0 at *;let dl:∀{l:q!},(Hl l n).length<=ah!:=λ{l}=>by
  induction l with
  |nil=>exact NC _
  |cons q l ih=>delta Hl;split;exact QW _;exact VP ih
 let l1:(Hl kf n).length<big:=OZ dl bl!;let l2:(Hl kp n).length<big:=OZ dl bl!;exact j_;exact sq ?_;delta Am;exact Dd_ w.popP hn zg λM1 w=>sq ?_;exact Dd_ w.popF hn km λM2 w=>sq ?_;exact w.pf (ρ:=[fy_,bB!,ψ a0,ψ b0]) χ χ χ v9 l1 λM3 w=>?_;exact FA_ w.pp χ lp l2 λM4 w=>hR M4 (w.at K1 ya!) w.fr
end
abbrev root:D:=.str "root"
abbrev binn:D:=.str "bin"
def b8l:root≠binn:=by intro z;simp![D.str.injEq]at z;exact Ga_ c_
def Go(x:D):Prop:=∃a b,x=.tup o6!
def Oq(x:D):Prop:=∃a b c,x=.tup o6_
def Go.key(h:Go x):∃k,Ck x=ψ k:=by let#[a,b,rfl]:=h;exact D_
def Oq.key(h:Oq x):∃k,Ck x=ψ k:=by let#[a,b,c,rfl]:=h;exact D_
def Go.nn(h:Go x):x≠.non/\x≠root/\x≠binn:=by let#[a,b,rfl]:=h;exact#[?_,?_,?_]<;>(intro z;cases z)
def Oq.nn(h:Oq x):x≠.non:=by let#[a,b,c,rfl]:=h;intro z;cases z
structure OW where
 rows:μ aj!
 its:μ D
 txt:D->μ dr!
 num:D->μ D
open Classical in
nonrec def chl(rows:q!)(x:D):μ D:=(rows.filter λq=>q.2=x).map e_
open Classical in
nonrec def wo(rows:q!)(i:D):μ aj!:=rows.filter λq=>q.1≠i
inductive Wn(rows:q!)(i:D):D->Prop
 |here:GJ! Wn i
 |up {x p:D}:a2_∈rows->GJ! Wn p->GJ! Wn x
def Qt(rows:q!)(i p s:D)(am:q!):Prop:=∃u v,GJ! wo=u++v/\am=u++bV_::v/\((s∉chl eg_ p/\chl u p=[])\/∃u',u=u'++[ds!])
def Gy(W:OW)(x:D):Prop:=x∈W.its\/x=root\/x=binn
structure Bt(W:OW):Prop where
 nd:W.its.Nodup
 nm:∀x∈W.its,Go x
 rnd:(W.rows.map e_).Nodup
 ri:∀x,x∈W.rows.map e_↔x∈W.its
 rp:∀i p,bV_∈W.rows->Gy W p
 rk:∃rk:D->Nat,∀i p,bV_∈W.rows->rk p<rk i
 snd:∀x∈W.its,(o7!).Nodup
 sg:∀x∈W.its,∀q∈W.txt x,Oq q.1
 su:∀x∈W.its,∀y∈W.its,∀q∈W.txt x,∀q'∈W.txt y,q.1=q'.1->x=y
 nl:∀x∈W.its,(bW!).length=4
section
def jV:q∈GJ! wo↔q∈rows/\q.1≠i:=by delta wo;rw[PD];simp
def lG:c∈chl rows x↔(c,x)∈rows:=by
 delta chl;rw[NB];show"!r"
 .rintro⟨⟨a,b⟩,h,rfl⟩;rw[PD]at h;let:=h.2;simp at this;rw[<-this];exact h.1
 .intro h;exact#[(c,x),PD.mpr #[h,Q_],χ]
def eR:chl ac_ x=chl u x++chl v x:=by delta chl;rw[WW,NV]
def kA:chl (bV_::v) p=i::chl v p:=by delta chl;rw[OO b!];rfl
def sN(h:p≠x):chl (bV_::v) x=chl v x:=by delta chl;rw[OP kl!]
def tV:(Dc_ eg_).Sublist pK!:=by delta wo;exact(WM).map _
def Qt.chl_same(h:ht_)(nd:fK_):chl am p=Lr i s (chl eg_ p):=by
 let#[u,v,e,rfl,hc]:=h;rw[eR,kA];let lu:(Dc_ ac_).Nodup:=by rw[<-e];exact nd.sublist tV
 obtain⟨Y,h2⟩|⟨u',rfl⟩:=hc
 .delta Lr;rw[MZ Y,e,eR,h2];rfl
 .rw[e];let hs:s∈chl ye! p:=lG.mpr b!;delta Lr;let h2:chl (u'++[ds!]) p=chl u' p++[s]:=by rw[eR,kA];rfl
  let h3:chl ye! p=chl u' p++s::chl v p:=by rw[eR,h2];simp
  rw[MO hs,h2,h3];let hu:s∉chl u' p:=λz=>by
   let:=lG.mp z;simp![NV,MU,RP,PN]at lu;rw[OL]at lu;exact lu.2.2 _ (NQ this) s b! χ
  rw[lL hu];simp
def Qt.chl_ne(h:ht_)(hx:p≠x):chl am x=chl eg_ x:=by let#[u,v,e,rfl,hc]:=h;rw[eR,sN hx,e,eR]
def Qt.mem(h:ht_):q∈am↔q=bV_\/q∈GJ! wo:=by
 let#[u,v,e,rfl,hc]:=h;rw[e];simp![ND,MM];show"!r"
 .rintro(z|z|z)<;>simp[z]
 .rintro(z|z|z)<;>simp[z]
def Qt.nd(h:ht_)(nd:fK_):(am.map e_).Nodup:=by
 let#[u,v,e,rfl,hc]:=h;let lu:(Dc_ ac_).Nodup:=by rw[<-e];exact nd.sublist tV
 let ni:i∉Dc_ ac_:=λz=>by
  let#[q,hq,hi]:=NB.mp z;rw[<-e]at hq;exact(o7_).2 hi
 simp![NV,MU]at lu ni ⊢;rw[OL]at lu ⊢;rw[ND,UV]at ni;exact#[lu.1,NO.mpr #[ni.2,lu.2.1],λa ha b J=>?_];obtain rfl|J:=MM.mp J
 .exact λz=>ni.1 (z▸ha)
 .exact lu.2.2 a ha b J
def zQ(h:(i,x)∉rows):chl eg_ x=chl rows x:=by delta chl wo;rw[UH];congr 1;apply RC;intro q hq;simp![ne_eq,decide_not,Bool.and_eq_left_iff_imp,NT,VW,SG,SF];rintro rfl z;exact h o9!
def b0q(nd:fK_)(h:(i,x)∈rows):∃u v,chl rows x=u++i::v/\chl eg_ x=u++v:=by
 let#[a,b,e,_]:=kC h;let n1:i∉(a++b).map e_:=by
  rw[e]at nd;simp![NV,MU]at nd ⊢;rw[OL,NO]at nd;rw[ND,UV];exact#[λz=>nd.2.2 _ z i b! χ,nd.2.1.1]
 let e2:GJ! wo=a++b:=by
  delta wo;rw[e,WW,OP b!];let keep:∀l:List aj!,i∉l.map e_->l.filter (λq=>decide (q.1≠i))=l:=λl hl=>PJ.mpr λq hq=>by
   simp![ne_eq,decide_not,VW,SG,SF];exact λz=>hl pb!
  rw[NV,ND,UV]at n1;rw[keep a n1.1,keep b n1.2]
 exact#[chl a x,chl b x,?_,?_]
 .rw[e,eR,kA]
 .rw[e2,eR]
def a7x(nd:fK_)(h:a2_∈rows)(hx:x≠i):GJ! Wn x↔GJ! Wn p:=by
 show"!r"
 .intro z;cases z with
  |here=>exact Dd! hx
  |up h2 z=>rw[jD nd h h2];exact z
 .exact λz=>.up h z
def b7j(h:∀p,a2_∉rows)(hx:x≠i):¬GJ! Wn x:=λz=>by
 cases z with
 |here=>exact hx χ
 |up h2 _=>exact h _ h2
def Qt.winv(h:Ka! i)(w:Bt W)(hi:dt!)(hp:Gy W p)(hw:¬En! Wn i p):Bt {W with rows:=am}:=by
 exact#[w.nd,w.nm,h.nd w.rnd,kk!,kk_,?_,w.snd,w.sg,w.su,w.nl]
 .show x∈am.map e_↔x∈W.its;rw[<-w.ri x];show"!r"
  .intro z;let#[q,hq,rfl]:=NB.mp z;obtain rfl|hq:=G0! hq
   .exact(w.ri i).mpr hi
   .exact NQ (o7_).1
  .intro z;by_cases hx:x=i
   .subst hx;exact NB.mpr yi!
   .let#[q,hq,rfl]:=NB.mp z;exact Kl! (jV.mpr #[hq,hx])
 .show Gy W b;obtain z|z:=G0! hm
  .cases z;exact hp
  .exact w.rp _ _ (jV.mp z).1
 .let#[rk,ip]:=w.rk;exact#[λx=>if Wn W.rows i x then rk x+rk p+1 else rk x,kk_];obtain z|z:=G0! hm
  .cases z;show"#8";rw[MZ hw,MO .here];omega
  .let#[z1,z2]:=jV.mp z;let:=ip _ _ z1;let q:=a7x w.rnd z1 z2;show"#8";by_cases c:En! Wn i a
   .rw[MO c,MO (q.mp c)];omega
   .rw[MZ c,MZ (λz=>c (q.mpr z))];exact this
def Iu(W:OW)(n:D)(am:q!):OW:=#[am,W.its++[n],λx=>if x=n then[]else W.txt x,λx=>if x=n then[.int 0,.int 0,.int 0,.int 0]else W.num x]
def Qt.winv_put(h:Ka! n)(w:Bt W)(hn:n∉W.its)(ht:Go n)(hp:Gy W p):Bt fA_:=by
 let nn:n∉W.rows.map e_:=λz=>hn ((w.ri n).mp z);let we:En! wo n=W.rows:=by
  exact PJ.mpr λq hq=>?_;simp![ne_eq,decide_not,VW,SG,SF];exact λz=>nn pb!
 let pn:p≠n:=λz=>by
  obtain q|q|q:=hp
  .exact hn (z▸q)
  .exact ht.nn.2.1 (z▸q)
  .exact ht.nn.2.2 (z▸q)
 let im:∀x,x∈(fA_).its↔x∈W.its\/x=n:=λx=>by simp[Iu]
 exact#[?_,aA!,h.nd w.rnd,kk!,kk_,?_,aA!,aA!,km!,aA!]
 .show(W.its++[n]).Nodup;rw[OL];exact#[w.nd,Q_,λa ha b J=>by simp at J;subst J;exact λz=>hn (z▸ha)]
 .obtain z|rfl:=(im x).mp hx
  .exact w.nm x z
  .exact ht
 .rw[im,<-w.ri x];show"!r"
  .intro z;let#[q,hq,rfl]:=NB.mp z;obtain rfl|hq:=G0! hq
   .exact .inr χ
   .rw[we]at hq;exact .inl (NQ hq)
  .rintro(z|rfl)
   .let#[q,hq,rfl]:=NB.mp z;exact Kl! (BG_ we hq)
   .exact NB.mpr yi!
 .let up:∀y,Gy W y->Gy fA_ y:=λy hy=>by
   obtain q|q:=hy
   .exact .inl ((im y).mpr (.inl q))
   .exact .inr q
  obtain z|z:=G0! hm
  .cases z;exact up _ hp
  .rw[we]at z;exact up _ (Ia! z)
 .let#[rk,ip]:=w.rk;exact#[λx=>if x=n then rk p+1 else rk x,kk_];obtain z|z:=G0! hm
  .cases z;show"#8";rw[MZ pn,y_];omega
  .rw[we]at z;let ha:a≠n:=λq=>nn (q▸NQ z);let J:b≠n:=λq=>by
    obtain y|y|y:=Ia! z
    .exact hn (q▸y)
    .exact ht.nn.2.1 (q▸y)
    .exact ht.nn.2.2 (q▸y)
   show"#8";rw[MZ ha,MZ J];exact ip _ _ z
 .show(Dc_ kp!).Nodup;split
  .decide
  .rename_i q;exact w.snd x pf!
 .show∀q∈kp!,Oq q.1;split
  .intro q hq;exact(hx!).elim
  .rename_i q;exact w.sg x pf!
 .show∀q∈kp!,∀q'∈ym_,q.1=q'.1->x=y;split
  .intro q hq;exact(hx!).elim
  .rename_i q1;split
   .intro q hq q' bh;exact(MN bh).elim
   .rename_i q2;exact w.su x ((pg!).resolve_right q1) y (((im y).mp hy).resolve_right q2)
 .show(yn_).length=4;split
  .rfl
  .rename_i q;exact w.nl x pf!
def Zm(b:D)(nw:a3_):μ dr!->μ dr!
 |[]=>[]
 |x::r=>if x.1=b then x::(nw++r)else x::Zm b nw r
nonrec def wrT(b:D)(nw l:a3_):μ dr!:=if b∈l.map e_ then Zm b nw l else nw++l
def wG(hq:q.1=b):b∉u.map e_->Zm b nw (u++q::v)=u++q::(nw++v):=by
 induction u with
 |nil=>intro _;simp[Zm,hq]
 |cons x u ih=>
  intro h;rw[MU,MM,UV]at h;dsimp only[List.cons_append,Zm];rw[ln!,ih h.2]
def qD(b:D)(nw l:a3_):∃u v,l=u++v/\wrT b nw l=u++nw++v/\((u=[]/\b∉l.map e_)\/∃u' q,u=u'++[q]/\q.1=b/\b∉u'.map e_):=by
 by_cases h:b∈l.map e_
 .let#[u,v,e,hu]:=kC h;let#[u',r,e1,e2,e3]:=List.map_eq_append_iff.mp e;let#[q,v',e4,e5,e6]:=List.map_eq_cons_iff.mp e3;subst e4;exact#[u'++[q],v',by simp[e1],?_,.inr #[u',q,χ,e5,by rw[e2];exact hu]];delta wrT;rw[MO h,e1,wG e5 (BG_ e2 hu)];simp
 .exact#[[],l,χ,by delta wrT;rw[MZ h];rfl,.inl cO!]
nonrec def setT(W:OW)(a:D)(l:a3_):OW:={W with txt:=λx=>if x=a then l else W.txt x}
def qJ(w:Bt W)(ha:fB_)(Y:oT!)(h2:∀q∈l,Oq q.1)(h3:∀q∈l,∀y∈W.its,∀q'∈W.txt y,q.1=q'.1->y=a):Bt pg_:=by
 exact#[w.nd,w.nm,w.rnd,w.ri,w.rp,w.rk,aA!,aA!,km!,w.nl]
 .show(Dc_ ph!).Nodup;split
  .exact Y
  .exact w.snd x hx
 .show∀q∈ph!,Oq q.1;split
  .exact h2
  .exact w.sg x hx
 .show∀q∈ph!,∀q'∈(if y=a then l else W.txt y),q.1=q'.1->x=y;split
  .rename_i e1;subst e1;split
   .rename_i e2;intro _ _ _ _ _;exact e2.symm
   .intro q hq q' bh e;exact(h3 q hq y hy q' bh e).symm
  .split
   .rename_i e2;subst e2;intro q hq q' bh e;exact h3 q' bh x hx q hq e.symm
   .exact w.su x hx y hy
def AO(W:OW)(a:D)(l:d_):OW:={W with num:=λx=>if x=a then l else W.num x}
def b4h(w:Bt W)(hl:ah!=4):Bt (AO W a l):=by
 exact#[w.nd,w.nm,w.rnd,w.ri,w.rp,w.rk,w.snd,w.sg,w.su,aA!];show(if x=a then l else W.num x).length=4;split
 .exact hl
 .exact w.nl x hx
end
nonrec def oF(a1 a2 a3 a4 a5 a6:sw!):μ ck!:=[du!,fC!,ph_,yr_,("written",.fn a5),("hidden",.fn a6)]
section
variable{a1 a2 a3 a4 a5 a6:sw!}
def oF1:I2! "parents" bW_=Er_ a1:=by kernel_rfl
def oF2:Eo! pi! bW_=Er_ a2:=by kernel_rfl
def oF3:Eo! pi_ bW_=Er_ a3:=by kernel_rfl
def oF4:Eo! pj! bW_=Er_ a4:=by kernel_rfl
def oF5:I2! "written" bW_=Er_ a5:=by kernel_rfl
def oF6:I2! "hidden" bW_=Er_ a6:=by kernel_rfl
def oM1:I2! "has" bW_=none:=by kernel_rfl
def oM2:I2! "has_item" bW_=none:=by kernel_rfl
end
def rM:I2! "put_behind" kq_=υ/\I2! "take_out" kq_=υ/\I2! "listed" kq_=υ/\I2! "holds" kq_=none:=#[kr_,kr_,kr_,kr_]
inductive Td
 |ob|par|dir (b:Bool)|nums|wri|hid|row (x:D) (b:Bool)|fol (x:D) (b:Bool)|pre (x:D) (b:Bool)|nm (x:D)
structure Ix where
 pr:D->D->ν
 dm:Bool->D->ν
 nd:D->ν
 ls:D->Bool->μ D
 wr:D->D->ν
 hi:D->ν
 nu:D->μ D
def Jd(V:Ix):Td->ν
 |.row x b=>V.dm b x
 |.fol x b=>V.dm b x
 |.pre x b=>V.dm b x
 |.nm x=>V.nd x
 |_=>True
def Dc(B:δ)(c:Dh)(P:μ aj!->ν):Prop:=∃k e,c=.dct k e/\ef_<=B/\P k
def TF(B:δ)(c:Dh)(l:d_):Prop:=ah!<=B/\∃k e,c=.dct k e/\Ge l k
def Ty(t:Bb)(ad:pk_)(V:Ix)(B:δ)(c:Dh):Td->ν
 |.ob=>c=IH! yu!
 |.par=>Dc B c λk=>kget k root=ψ .non/\kget k binn=ψ .non/\∀i p,V.pr i p->kget k i=ψ p
 |.dir b=>Dc B c λk=>∀x,pl_/\pm!
 |.nums=>Dc B c λk=>∀x,V.nd x->kget k x=ψ (.fn ks_)
 |.wri=>Dc B c λk=>∀s v,V.wr s v->kget k s=ψ v
 |.hid=>Dc B c λk=>∀s,(kget k s).isSome=τ↔V.hi s
 |.row x b=>c=.obj t.B7 (Eh_ (ad cO_) (ad cP!))
 |.fol x b=>TF B c kt_
 |.pre x b=>TF B c (kt_).reverse
 |.nm x=>c=.lst (V.nu x)
structure Eh(t:Bb)(M:Mh)(ad:pk_)(V:Ix)(B:Nat):Prop where
 ty:∀r,Jd V r->∃c,M hz!=ψ c/\Ty t ad V B c r
 inj:∀r r',Jd V r->Jd V r'->ad r=ad r'->r=r'
def Yd(ad:pk_)(V:Ix)(b:sw!):Prop:=∃r,Jd V r/\ad r=b
def Sm(V V':Ix):Td->ν
 |.par=>V'.pr=V.pr
 |.dir b=>V'.dm b=V.dm b
 |.nums=>V'.nd=V.nd
 |.wri=>V'.wr=V.wr
 |.hid=>V'.hi=V.hi
 |.fol y b=>V'.ls y b=V.ls y b
 |.pre y b=>V'.ls y b=V.ls y b
 |.nm x=>V'.nu x=V.nu x
 |_=>0=0
def Sm.rfl{V:Ix}:Sm V V r:=by cases r<;>exact Eq.refl _
section
variable{t:Bb}{M M':Mh}{o:sw!}{ad bg:Td->Addr}{V V':Ix}{W:OW}{B B':Nat}{R:D->Mh->Prop}{c:Dh}{r:Td}{x:D}{b:Bool}
def Dc.mono(h:Dc B c P)(hB:cP_)(q:∀k,P k->Q k):Dc B' c Q:=by let#[k,e,Y,h2,h3]:=h;exact#[k,e,Y,NW h2 hB,q k h3]
def Ty.tr(hB:cP_)(old:ku!)(l:Jd V r)(s:Sm V V' r)(ty:Ty t ad V B c r):GJ_ bg r:=by
 cases r with
 |ob=>exact ty.trans (by rw[old .par ο,old (.dir τ) ο,old (.dir θ) ο,old .nums ο,old .wri ο,old .hid ο])
 |par=>let s:=s;exact Gt! ty λk h=>by rw[s];exact h
 |dir b=>let s:=s;exact Gt! ty λk h x=>by rw[s];exact#[λz=>by rw[old fC_ z];exact(h x).1 z,(h x).2]
 |nums=>let s:=s;exact Gt! ty λk h x z=>by rw[s]at z;rw[old kt! z];exact h x z
 |wri=>let s:=s;exact Gt! ty λk h=>by rw[s];exact h
 |hid=>let s:=s;exact Gt! ty λk h=>by rw[s];exact h
 |row x b=>exact ty.trans (by rw[old cO_ l,old cP! l])
 |fol x b=>let s:=s;exact yz_
 |pre x b=>let s:=s;exact yz_
 |nm x=>let s:=s;exact ty.trans (by rw[s])
def Eh.go(h:a4!)(hB:cP_)(old:ku!)(inj:∀r r',Jd V' r->Jd V' r'->bg r=bg r'->r=r')
  (k:∀r,Jd V' r->(∃c,M' (bg r)=ψ c/\Ty t bg V' B' c r)\/(Jd V r/\M' hz!=M hz!/\Sm V V' r)):HN! V' B':=⟨λr hr=>by
 obtain z|⟨l,e,s⟩:=k r hr
 .exact z
 .let#[c,e1,e2]:=h.ty r l;exact#[c,by rw[old r l,e];exact e1,e2.tr hB old l s],inj⟩
def Eh.cv(h:a4!)(hB:cP_)(hL:∀r,Jd V' r->Jd V r/\Sm V V' r):IH_ V' B':=
 h.go hB o! (λr r' a b=>h.inj r r' (hL r a).1 (hL r' b).1) λr l=>.inr #[(hL r l).1,χ,(hL r l).2]
def Eh.up(h:a4!)(hB:cP_)(l0:Jd V r0)(hc:GJ_ ad r0)(s:∀r,r≠r0->Jd V' r->Jd V r/\Sm V V' r):Eh t (Gr! (ad r0)) ad V' B':=by
 let hL:∀r,Jd V' r->Jd V r:=λr l=>by
  by_cases e:r=r0
  .rw[e];exact l0
  .exact(s r e l).1
 exact h.go hB o! (λr r' a b=>h.inj r r' (hL r a) (hL r' b)) λr l=>?_;by_cases e:r=r0
 .subst e;exact .inl #[c,mup_same,hc]
 .exact .inr #[hL r l,mup_ne λz=>e (h.inj r r0 (hL r l) l0 z),(s r e l).2]
def uA(l0:Jd V r0)(ha:¬Yd ad V a):Gr! (ad r0) a=M a:=mup_ne λz=>ha #[r0,l0,z.symm]
def Eh.ob(h:a4!):M (ad .ob)=ψ (IH! yu!):=by let#[_,e,rfl]:=h.ty .ob ο;exact e
def Eh.row(h:a4!)(hd:V.dm b x):Gt_ M kt_/\(kt_).length<=B:=by let#[_,e,rfl]:=h.ty fC_ hd;let#[_,e1,l1,kf,ef,rfl,K]:=h.ty cO_ hd;let#[_,e2,l2,kp,ep,rfl,K2]:=h.ty cP! hd;exact#[#[e,#[kf,ef,kp,ep,e1,e2,K,K2],λz=>by let:=h.inj cO_ cP! hd hd z;cases this],l1]
nonrec def Ix.sl(V:Ix)(x:D)(b:Bool)(l:d_):Ix:={V with ls:=λy c=>if y=x/\c=b then l else V.ls y c}
def yB:(V.sl x b l).ls x b=l:=MO ae!
def Eh.sl(h:a4!)(hB:cP_)(hd:V.dm b x)(hr:Gt_ M' xs)(fr:∀a,a≠ad cO_->a≠ad cP!->M' a=M a)(hl:i!<=B'):Eh t M' ad (V.sl x b xs) B'/\∀a,¬Yd ad V a->M' a=M a:=by
 let#[kf,ef,kp,ep,hf,hp,K,Kp]:=hr.dc;exact#[h.go hB o! h.inj λr l=>?_,λa ha=>fr a (λz=>ha #[.fol x b,hd,z.symm]) λz=>ha #[.pre x b,hd,z.symm]];let l':Jd V r:=l;by_cases e1:r=.fol x b
 .subst e1;exact .inl #[_,hf,by rw[yB];exact hl,kf,ef,χ,by rw[yB];exact K]
 by_cases e2:r=.pre x b
 .subst e2;exact .inl #[_,hp,by rw[yB];simpa using hl,kp,ep,χ,by rw[yB];exact Kp]
 exact .inr #[l',fr _ (λz=>e1 yG!) (λz=>e2 yG!),?_];cases r with
 |fol y c=>exact MZ λz=>e1 ek!
 |pre y c=>exact MZ λz=>e2 ek!
 |_=>rfl
def Ky(W:OW):Ix where
 pr:=λi p=>bV_∈W.rows
 dm:=λb x=>match b with|true=>Gy W x|false=>x∈W.its
 nd:=λx=>x∈W.its
 ls:=λx b=>match b with|true=>En! chl x|false=>Dc_ bB_
 wr:=λs v=>∃x∈W.its,∃q∈W.txt x,q.1=s/\q.2.1=v
 hi:=λs=>∃x∈W.its,∃q∈W.txt x,q.1=s/\q.2.2=θ
 nu:=W.num
def Bl(t:Bb)(M:Mh)(o:sw!)(O:bD_)(W:OW)(B:δ):Prop:=∃ad,ad .ob=o/\(∀b,O b↔Yd ad bm! b)/\IH_ bm! B
def Fr(M:Mh)(O:bD_)(M':Mh)(O':bD_):Prop:=∀b,M b≠υ->¬O b->M' b=M b/\¬O' b
def Fr.refl:Fr M O M O:=λb _ h=>cO!
def Fr.trans{M2:Mh}(Y:Dp_ O1)(h2:Fr M' O1 M2 O2):Fr M O M2 O2:=λb J hr=>by
 let#[e1,e2]:=Y b J hr;let#[e3,e4]:=h2 b yH! e2;exact#[e3.trans e1,e4]
variable{O:Addr->Prop}
def Bl.mono(h:ao_)(hB:cP_):DX_ M W B':=by let#[ad,e,hO,hI]:=h;exact#[ad,e,hO,hI.cv hB λr l=>#[l,Sm.rfl]]
def Bl.live(h:ao_){b:sw!}(J:O b):M b≠none:=by let#[ad,e,hO,hI]:=h;let#[r,l,rfl]:=(hO b).mp J;let#[c,e,_]:=hI.ty r l;rw[e];simp
def Bl.keep(h:ao_)(k:yJ!):DX_ M' W B:=by let#[ad,e,hO,hI]:=h;exact#[ad,e,hO,hI.go u! o! hI.inj λr l=>.inr #[l,k _ ((hO _).mpr #[r,l,χ]),Sm.rfl]]
def pS(w:Bt W)(h:cQ!):∃k,Ck x=ψ k:=by
 obtain h|rfl|rfl:=h
 .exact(w.nm x h).key
 .exact D_
 .exact D_
def Eh.noOb(h:a4!)(hm:pp_):Dd t.B6 m M ky!:=by simp[Dd,h.ob,hm]
def Bl.noOb(h:ao_)(hm:pp_):Dd t.B6 m M ag_:=by let#[ad,rfl,hO,hI]:=h;exact hI.noOb hm
def Eh.dirV(h:a4!):∃k e,M (ad hC!)=C3_ k e/\ef_<=B/\∀x,pl_/\pm!:=by let#[_,e,k,ep,rfl,q]:=h.ty hC! ο;exact#[k,ep,e,q]
def a6w(h:∀x,pl_/\pm!):(kget k x).isSome=decide (V.dm b x):=by
 by_cases z:V.dm b x
 .rw[(h x).1 z,NG z];rfl
 .rw[(h x).2 z,NA z];rfl
def a2t(h:ao_)(hk:aB_)(hR:R yN! M):FB_ Cg:=by let#[ad,rfl,hO,hI]:=h;let#[k2,e2,h2,_,q]:=hI.dirV (b:=τ);let e3:=a6w (x:=x) q;exact j_;rw[show decide (Gy W x)=(Fy_ k2).isSome from e3.symm]at hR;simpa[Lj,Aw,w2,wl,Au,Fx,Dm,Aa,hI.ob,oF2,Gq,h2,hk]using hR
def iC(h:ao_)(hk:aB_)(hR:R yP! M):FB_ Bs:=by let#[ad,rfl,hO,hI]:=h;let#[k2,e2,h2,_,q]:=hI.dirV (b:=θ);let e3:=a6w (x:=x) q;exact j_;rw[show decide ky_=(Fy_ k2).isSome from by rw[e3];congr]at hR;simpa[Hg,Aw,w2,wl,Au,Fx,Dm,Aa,hI.ob,oF3,Gq,h2,hk]using hR
def Eh.numV(h:a4!)(hx:V.nd x):∃k e,M (ad .nums)=C3_ k e/\kget k x=ψ (.fn ks_)/\M ks_=yJ_ (V.nu x):=by let#[_,e,k,ep,rfl,_,q]:=h.ty .nums ο;let#[_,e2,rfl]:=h.ty kt! hx;exact#[k,ep,e,q x hx,e2]
end
def zH:∀(xs ys:r_),Iq (xs.map D.int) (ys.map D.int)=(xs==ys)
 |[],[]=>by rfl
 |[],y::ys=>by rfl
 |x::xs,[]=>by rfl
 |x::xs,y::ys=>by simp[Iq,Ej,zH xs ys]
def Sd(d:D):Prop:=d=.non\/(∃x,d=.str x)\/(∃i,d=.int i)\/∃ns:List Int,d=.tup jC_
def a6g:∀{xs ys:r_},xs.map D.int=ys.map D.int->xs=ys
 |[],[],_=>rfl
 |[],_::_,h=>by simp at h
 |_::_,[],h=>by simp at h
 |x::xs,y::ys,h=>by
  simp![MU,PR,D.int.injEq]at h;rw[h.1,a6g h.2]
def mX(hx:Sd x)(hy:Sd y):Ej x y=(open Classical in decide (x=y)):=by
 obtain rfl|⟨a,rfl⟩|⟨i,rfl⟩|⟨ns,rfl⟩:=hx<;>obtain rfl|⟨b,rfl⟩|⟨j,rfl⟩|⟨ms,rfl⟩:=hy<;>simp[Ej,zH]
 all_goals
  rw[PU]
  first
   |(simp![QK,NT,D.tup.injEq];exact#[yQ_,a6g])
   |(simp![QK,NT])
   |simp
def yQ:∀(ns:r_),Br pH!=τ
 |[]=>by rfl
 |n::ns=>by simp[Br,Bc,yQ ns]
def eC(h:Sd x):Bc x=true:=by obtain rfl|⟨a,rfl⟩|⟨i,rfl⟩|⟨ns,rfl⟩:=h<;>simp[Bc,yQ]
def a6y:∀(ns:r_),Cz pH!<=1
 |[]=>by simp[Cz]
 |n::ns=>by let:=a6y ns;simp[Cz,Ir];omega
def jY(h:Sd x):Ir x<=5:=by
 obtain rfl|⟨a,rfl⟩|⟨i,rfl⟩|⟨ns,rfl⟩:=h<;>simp[Ir]
 let:=a6y ns;omega
def Go.sd(h:Go x):Sd x:=by let#[a,b,rfl]:=h;exact .inr pq_
def Oq.sd(h:Oq x):Sd x:=by let#[a,b,c,rfl]:=h;exact .inr yR!
def iU(x:Str):Sd bJ_:=EG_ #[x,χ]
def a2m(w:Bt W)(h:cQ!):Sd x:=by
 obtain h|rfl|rfl:=h
 .exact(w.nm x h).sd
 .exact iU _
 .exact iU _
def a0z(hx:Sd x)(hy:Sd y):Em x y=C4_ (!(open Classical in decide (x=y))):=by delta Em;let:=jY hx;rw[eC hx,eC hy,mX hx hy];rw[MO aS!]
def nN(hx:Sd x)(hy:Sd y):At x y=ψ (.bl (open Classical in decide (x=y))):=by delta At;let:=jY hx;rw[eC hx,eC hy,mX hx hy];rw[MO aS!]
section
variable{t:Bb}{M:Mh}{R:D->Mh->Prop}
def vL(hR:∀r f p M',M r=υ->M f=υ->M p=υ->r≠f->r≠p->FH! M' []->f≠p->(∀b,b≠r->b≠f->b≠p->M' b=M b)->R kg! M'):Gh t.B7 1 (Fq t) Ad ρ M R:=by
 exact#[χ,λr hr=>j_];let nf:∀{f:sw!},mup M r (.obj t.B7 []) f=υ->f≠r/\M f=none:=λ{f} z=>by
  by_cases e:f=r
  .rw[e,mup_same]at z;rcases z
  .rw[mup_ne e]at z;exact#[e,z]
 intro f hf;let#[f1,f2]:=nf hf;exact#[mup_same,F!,by simp[Ck],Q_,?_];simp[wl,Aa,mup_ne,mup_same,NY f1,Hi];intro p hp;let p1:p≠r:=λe=>by rw[e,mup_same]at hp;rcases hp
 rw[pr!]at hp;let p2:p≠f:=λe=>by rw[e,mup_same]at hp;rcases hp
 rw[Ds_ p2,Ds_ p2,pr!]at hp;simp[Ds,Lz,wl,fC,Aa,mup_ne,mup_same,NY f1,NY p1,Hi,Ck];exact hR r f p _ hr f2 hp (NY f1) (NY p1) #[mup_same,#[o0!,1,o0!,1,?_,?_,a4g,a4g],NY p2] (NY p2) λb Y h2 h3=>?_
 .rw[Ds_ f1,yY_,yY_,Ds_ f1,mup_same]
 .rw[pr!,mup_same]
 .rw[fE_,Ds_ h3,Ds_ h3,fE_,kD_,kD_,fE_]
end
section
variable{t:Bb}{M:Mh}{o:sw!}{O:Addr->Prop}{W:OW}{B:Nat}{R:D->Mh->Prop}
def a8j(w:Bt W)(h:a5!):∃p,a2_∈W.rows:=by let#[#[a,p],hq,rfl]:=NB.mp ((w.ri x).mpr h);exact#[p,hq]
def mM(w:Bt W)(h:x∉W.its):∀p,a2_∉W.rows:=λp z=>h ((w.ri x).mp (NQ z))
def b1o(w:Bt W):root∉W.its:=λz=>(w.nm _ z).nn.2.1 χ
def c4m(w:Bt W):binn∉W.its:=λz=>(w.nm _ z).nn.2.2 χ
def d5r(h:Go x\/x=root\/x=binn):x≠.non:=by
 obtain h|rfl|rfl:=h
 .exact h.nn.1
 .intro z;cases z
 .intro z;cases z
def d3n(w:Bt W)(h:cQ!):x≠.non:=d5r (h.imp_left (w.nm x))
def rV(h:IH_ bm! B)(w:Bt W)(hi:Go i){rk:D->δ}(ip:y1_):
  ∀(n:δ) (x:D),rk x<n->Gy W x->∀(R':l_),(Wn W.rows i x->R' (.nx [du_,N!,N!]) M)->(II! (.nx [du_,ψ .non,N!]))->
   ∃m,Gu! pr_
 |0,x,hn,_,_,_,_=>by omega
 |n+1,x,hn,hx,R',r1,r2=>by
  let#[_,Y,k1,e1,rfl,_,p0,p1,pr]:=h.ty .par ο;let x0:=d3n w hx;let ne:=a0z (a2m w hx) hi.sd;by_cases e:x=i
  .subst e;let:=r1 .here;exact hF!;simpa[Cm,Ca,Fy,fT,f2,Aa,fC,Bh,kN x0,ne]using this
  .let st:∀(p:D) (m:δ),Fy_ k1=ψ p->Gu! [du_,cQ_,N!]->
     Cm gI_ gJ! cX! pr_ M R':=λp m hp hw=>by
    let#[k,hk]:=pS w hx;rw[Cm];simpa[Ca,Fy,fT,f2,Aa,fC,Bh,kN x0,ne,e,Am,w2,wl,Au,Fx,Dm,h.ob,oF1,By,Y,hk,hp]using hw
   let top:Fy_ k1=ψ .non->y3!->∃m,Gu! pr_:=λhp hr=>by
    let:=r2 (b7j hr e);exact#[1+1,st .non 1 hp ?_];simpa[Cm,Ca,Fy,fT,f2,Aa,fC,Bh,Iw]using this
   obtain hx|rfl|rfl:=hx
   .let#[p,hp]:=a8j w hx;let q:=a7x w.rnd hp e;let:=ip _ _ hp;let#[m,hm]:=rV h w hi ip n p a! (Ia! hp) R' y4! (λz=>r2 λy=>z (q.mp y));exact#[m+1,st p m (pr _ _ hp) hm]
   .exact top p0 (mM w (b1o w))
   .exact top p1 (mM w (c4m w))
def a2l(h:ao_)(w:Bt W)(hx:cQ!)(hi:Go i)(hR:Dn! R (Wn W.rows i x) M):Ey t [bm_,x,i] M R:=by
 let#[ad,rfl,hO,h]:=h;let#[rk,ip]:=w.rk;let#[m,hm]:=rV h w hi ip (rk x+1) x a! hx (EB! (wl jh_))
  (λz=>by simp![z,VL]at hR;simpa[Aw,wl,f2,Aa,fC,Bh,kN hi.nn.1]using hR)
  (λz=>by simp![z,XI]at hR;simpa[Aw,wl,f2,Aa,fC,Bh,Iw]using hR)
 exact j_;exact#[m,hm]
def a7l(h:ao_)(w:Bt W)(de:fF!)(hkx:ps!)(hR:∀b:Bool,(b=τ↔el_)->R al_ M):Dw t [bm_,i,x] M R:=by
 exact j_;dsimp only[Hh,Aw,Lh,wT,Az,wl,Ab,Ad,Aa];simp[ps_];exact iC h de ?_;show"!~"
 .simp only[c1,VL,PP];exact#[h.noOb oM1,?_];exact a2t h hkx ?_;by_cases c2:Gy W x
  .simp only[c2,VL,PP,Yn,wT,Az,wl,Ab,Ad,Aa];exact#[h.noOb ck_,χ,?_];exact a2l h w c2 (w.nm i c1) ?_;exact hR _ (by simp[c1,c2])
  .simp only[c2,XI];exact hR _ (DS! c2)
 .simp only[c1,XI];exact hR _ (DS! c1)
def xB(h:ao_)(w:Bt W)(de:fF!)(p0:0<=p)(p3:p<=3)
  (hR:∀M',DX_ M' (HN_ AO y8!) B->Dp_ O->Ed_ M'):Ep t [bm_,i,.int p,ap_] M R:=by
 exact j_;exact#[ps_,χ,iC h de ?_];show"!~"
 .simp only[c1,PP]at hR;let#[ad,rfl,hO,hI]:=h;let#[k4,e4,h4,e,hq]:=hI.numV c1;let hq:M (ad (.nm i))=yJ_ fG!:=hq;let hx:Hv (fG!).length p=ψ p.toNat:=by
   rw[w.nl i c1];delta Hv;rw[MO p0,aJ!]
  let fin:Ed_ (mup M (ad (.nm i)) (.lst y8!)):=by
   exact hR _ #[ad,χ,hO,hI.up u! c1 (by show _=Dh.lst fH!;rw[y_]) λr hn l=>pt_] λb _ hr=>#[uA (V:=Ky W) c1 λz=>hr kF_,hr];cases r with
   |nm y=>exact MZ λz=>hn (by rw[z])
   |_=>rfl
  simpa[c1,Bx,w2,wl,Au,Fx,Dm,Aa,hI.ob,oF4,By,h4,de,e,Ju,hq,hx]using fin
 .simp only[c1,PC]at hR;let:=hR M h .refl;simpa[c1,Bf]using this
def nB(i:D):setT W i cR!=W:=by
 delta setT;cases W with
 |mk a b c d=>
  congr 1;funext x;split
  .rename_i e;rw[e]
  .rfl
nonrec def cutT(ux:d_)(l:a3_):μ dr!:=l.map λq=>(q.1,q.2.1,q.2.2&&!decide (q.1∈ux))
def c3x(l:a3_):cutT [] l=l:=by delta cutT;simp
def lT(g:d_)(l:a3_):(cutT g l).map e_=l.map e_:=by delta cutT;simp
def c3y(g:d_)(s:D)(l:a3_):cutT [s] (cutT g l)=cutT (g++[s]) l:=by delta cutT;rw[OD];apply OT;intro q _;dsimp only[Function.comp,List.mem_append];congr 2;rw[Bool.and_assoc];congr 1;by_cases Y:q.1∈g<;>by_cases h2:q.1∈[s]<;>simp[Y,h2]
def c9f(h:s∉l.map e_):cutT [s] l=l:=by
 conv=>rhs;rw[<-VN l]
 apply OT;intro q hq;let:q.1≠s:=λz=>h pb!;simp[this]
def b6u(w:Bt W)(hi:dt!)(g:d_):Bt kG_:=by
 exact qJ w hi (by rw[lT];exact w.snd i hi) em! pv!
 .show"!_";exact w.sg i hi q0 h0
 .show"!_";exact(w.su i hi y hy q0 h0 q' bh e).symm
def yD(i:D)(l l':a3_):setT hH! i l'=setT W i l':=by delta setT;congr 1;funext x;dsimp only;split<;>rfl
def sX(i:D)(l:a3_):(hH!).txt i=l:=by simp[setT]
def rK{P:fI!}(hi:dt!):(∃x∈W.its,∃q∈(hH!).txt x,P q)↔(∃q∈l,P q)\/∃x∈W.its,x≠i/\∃q∈W.txt x,P q:=by
 show"!r"
 .rintro⟨x,hx,q,hq,h⟩;let hq:q∈zb!:=hq;split at hq
  .exact .inl #[q,hq,h]
  .rename_i c;exact .inr #[x,hx,c,q,hq,h]
 .rintro(⟨q,hq,h⟩|⟨x,hx,c,q,hq,h⟩)
  .exact#[i,hi,q,by rw[sX];exact hq,h]
  .exact#[x,hx,q,by show q∈zb!;rw[MZ c];exact hq,h]
def a2w{P:fI!}:(∃q∈cutT g l,P q)↔∃q∈l,P (q.1,q.2.1,q.2.2&&!decide (q.1∈g)):=
 #[by rintro⟨q,hq,h⟩;let#[q0,h0,rfl]:=NB.mp hq;exact#[q0,h0,h],by rintro⟨q,hq,h⟩;exact#[_,NQ hq,h]]
def d1h(hi:dt!)(hn:l'.map e_=l.map e_)(hw:∀s v,(∃q∈l',q.1=s/\q.2.1=v)↔∃q∈l,q.1=s/\q.2.1=v)(h:r≠.hid):Sm (Ky hH!) zc_ r:=by
 let ls:∀(y:D) (b:Bool),(zc_).ls y b=(Ky hH!).ls y b:=λy b=>by
  cases b with
  |true=>rfl
  |false=>
   show Ef! l'=Ef! l;split
   .exact hn
   .rfl
 cases r with
 |hid=>exact Dd! h
 |wri=>exact funext λs=>funext λv=>propext (DT! kI! (Iff.trans (by rw[hw]) (kI!).symm))
 |fol y b=>exact ls y b
 |pre y b=>exact ls y b
 |_=>rfl
abbrev GQ(t:Bb):WS:=(Ag ux_
 uy!)
def a7c{x y z m:Int}(hi:dt!)(w:Bt W):∀(js:r_) (M:Mh) (g:d_) (B:δ) (ua zh:Z_) (R:l_),B+js.length<4000->DX_ M kG_ B->
  (∀M' ρ,DX_ M' (setT W i (cutT (g++js.map λj=>.tup hI_) cR!)) (B+js.length)->Dp_ O->R ad! M')->
  Fw (Bw 4) P! (GQ t) (js.map .int) [ap!,N!,ψ fI_,ψ dw!,ua,zh] M R
 |[],M,g,B,ua,zh,R,hB,h,hR=>#[ο,hR M _ kl! .refl]
 |j::js,M,g,B,ua,zh,R,hB,h,hR=>by
  exact av_;let#[ki,de]:=(kJ!).key;let#[ad,eo,hO,hI]:=h;let ob:=hI.ob;rw[eo]at ob;let#[k3,e3,h3,_,g1]:=hI.dirV (b:=θ);let g1:=(g1 i).1 hi;let g2:Gz t M _ _ _ (GK! kG_ e_):=(py_).1;let#[_,h6,k6,e6,rfl,l6',hk6]:=hI.ty .hid ο;let l6:k6.length<big:=by delta big;simp at hB;omega
  dsimp only[List.length_cons]at hB hR;let hadd:An zf! (.tup [dO_])=ψ hJ!:=by rfl
  let hsl:Ia_ fI_ (ψ 2)=ψ zf!:=by rfl
  simp[Dm,Bw,Ag,Am,wl,f2,Dq,Aa,Av,Aq,fC,Bg,Ac,Af,hsl,hadd,As,wT,Az,DL.w2,Au,Fx,ob,oF3,By,h3,de,g1,Dd,g2.ob,Ab,Ad,rM,-List.lookup_eq_none_iff];exact a6j g2 g2! ?_;let rc:=λM1 h h2 h3=>a7c (x:=x) (y:=y) (z:=z) (m:=m) hi w js M1 zf_ (B+1) (ψ a5_) (ψ hJ!) R h h2 h3;by_cases c:D.tup hI_∈GK! kG_ e_
  .simp only[c,VL,PP];let q1:DX_ zi! zi_ (B+1):=by
    rw[sX,lT]at c;exact#[ad,eo,hO,hI.up fJ! ο #[_,_,χ,kJ_,λa=>?_] λr hn l=>#[l,d1h hi (by rw[lT,lT]) (λs v=>by rw[a2w,a2w]) hn]];let h0:=(hk6 a).trans kI!;exact Iff.trans ?_ (kI!).symm;rw[jX];by_cases e:a=.tup hI_
    .let#[q,hq,e2]:=NB.mp c;rw[MO e];exact#[λ_=>.inl #[_,NQ hq,e2.trans e.symm,by simp[e2]],cz!]
    .rw[MZ e,h0];exact or_congr ?_ Iff.rfl;rw[a2w,a2w];exact exists_congr λq=>and_congr_right λ_=>and_congr_right λe2=>?_;let e2:q.1=a:=e2;simp[e2,e]
   let q2:Fr M O zi! O:=λb _ hr=>#[uA ο λz=>hr kF_,hr];let:=Fp! (q2.trans f');simpa[Bx,wl,Au,Fx,Dm,Aa,fC,ob,oF6,Ju,h6,show Ck hJ!=ψ _ from χ,l6]using this
  .simp only[c,XI];let q1:DX_ M zi_ (B+1):=by
    rw[<-c3y,c9f (by rw[sX]at c;exact c)];exact Bl.mono #[ad,eo,hO,hI] fJ!
   let:=Fp! f';simpa[Bf]using this
def d4n(h:ao_)(w:Bt W)(de:fF!)(hB:hK!)(z0:0<=z)(m1:1<=m)(m16:z+m<=16)
  (hR:∀M',DX_ M' (HN_ setT (cutT pB! cR!)) bE_->Dp_ O->Ed_ M'):
  Ip t [bm_,i,.tup kI_,en!] M R:=by
 exact j_;dsimp only[Lk,Ag,As,Hw,wT,Az,wl,Ab,Ad,Aa];simp[ps_];exact iC h de ?_;show"!~"
 .simp only[c1,PP]at hR;let hr:So e6! ux! [ap!,N!,ψ fI_,ψ dw!,υ,υ]=ψ (Hk! zm_):=by
   let e1:Ai fI_ cA_=C2_ z:=χ;let e2:(z+m - z).toNat=m.toNat:=by congr 1;omega
   let b:-1000<=z/\z<=100000/\-1000<=z+m/\z+m<=100000:=by omega
   simp[So,f2,Aa,fC,e1,An,b,e2,Sc,Function.comp]
  let:=a7c (z:=z) (m:=m) c1 w zm_ M [] B υ υ hG! aS! (by rw[c3x,nB];exact h) (λM' ρ h2 f2=>hR M' (by
   simp![QC,OD,MV,QM]at h2;exact H5! a!) f2)
  simp![c1,VL,SG,OC,PC,Bf,Cn,Gu,Dm,hr];exact this
 .simp only[c1,PC]at hR;let:=hR M (h.mono a!) .refl;simpa[c1,Np]using this
def JS(eh:D)(U l:a3_):Prop:=(U=[]/\eh∉l.map e_)\/∃u' q,U=u'++[q]/\q.1=eh/\eh∉u'.map e_
def JS.names(h:JS eh U (U++v)):Lr s eh ((U++v).map e_)=Dc_ kK_:=by
 obtain⟨rfl,h⟩|⟨u',q,rfl,e,h⟩:=h
 .delta Lr;rw[MZ h];rfl
 .delta Lr;rw[MO fv_];simp![NV,MU,RP,PN,QX,QC];rw[e,lL h]
def a7v(w:Bt W)(hi:dt!)(hl:W.txt i=U++v)(hs:Oq s)(hf:zr!):Bt kL!:=by
 let fi:=hf i hi;rw[hl]at fi;let p:(kK_).Perm (hK_::(U++v)):=TM;exact qJ w hi ?_ em! pv!
 .rw[(p.map _).nodup_iff,MU,NO];exact#[fi,by rw[<-hl];exact w.snd i hi]
 .obtain rfl|z:=MM.mp zr_
  .exact hs
  .exact w.sg i hi q zs!
 .obtain rfl|z:=MM.mp zr_
  .exact C6_ (NB.mpr #[q',bh,e.symm]) (hf y hy)
  .exact(w.su i hi y hy q zs! q' bh e).symm
def b7g(hI:IH_ zs_ B)(hk:∀a v,(bm!).wr a v->kget k5 a=ψ v)(h5:k5.length<B)(hi:dt!)(hl:W.txt i=U++v)(J:l=Dc_ kK_)(hf:zr!):
  Eh t (mup M pl! (.dct (Bp k5 s c) e5)) ad (Ky kL!) B:=by
 let hm:∀{P:fI!},(∃q∈U++hK_::v,P q)↔P hK_\/∃q∈W.txt i,P q:=λ{P}=>by
  rw[hl];simp![ND,MM];show"!r"
  .rintro⟨q,z|z|z,h⟩
   .exact .inr zt!
   .exact .inl (z▸h)
   .exact .inr #[q,.inr z,h]
  .rintro(h|⟨q,z|z,h⟩)
   .exact#[_,kM!,h]
   .exact zt!
   .exact#[q,.inr g4_,h]
 let hx:∀{P:fI!},(∃x∈W.its,∃q∈(kL!).txt x,P q)↔P hK_\/∃x∈W.its,∃q∈W.txt x,P q:=λ{P}=>by
  let h0:=rK (l:=W.txt i) (P:=P) hi;rw[nB]at h0;rw[rK hi,hm,h0,or_assoc]
 exact hI.up u! ο #[_,_,χ,NW hs! h5,λa w hw=>?_] λr hn l'=>#[l',?_]
 .rw[jX];obtain⟨rfl,rfl⟩|z:=hx.mp hw
  .rw[y_]
  .let#[x,hx,q,hq,e,_]:=id z;rw[MZ λy=>hf x hx (by rw[<-y,<-e];exact NQ hq)];exact hk a w z
 .let ls:∀(y:D) (b:Bool),(Ky kL!).ls y b=(zs_).ls y b:=λy b=>by
   cases b with
   |true=>exact(MZ λz=>by exact Bool.noConfusion (z.2)).symm
   |false=>
    show Ef! _=if y=i/\θ=θ then l else(W.txt y).map e_
    by_cases z:y=i
    .rw[MO z,MO #[z,χ],J]
    .rw[MZ z,MZ λy=>z y.1]
  cases r with
  |wri=>exact Dd! hn
  |hid=>exact funext λa=>Gu_ (Iff.trans (hx) #[λz=>z.resolve_left λy=>Bool.noConfusion y.2,λz=>.inr z])
  |fol y b=>exact ls y b
  |pre y b=>exact ls y b
  |_=>rfl
def JU(t:Bb):WS:=(Ag nD!
 (Ag ur_
 (Ag uu!
 (Am 5 d2!))))
nonrec def sgn(h n:Int)(q:δ×δ):D×D×Bool:=(.tup [aI!,ap_,.int qF_],.str #[[q.1].toArray],τ)
nonrec def eN(q:δ×δ):D:=.tup BV!
def tS:∀(cs:g_) (k0:δ) (M:Mh) (W:OW) (B:δ) (U v:a3_) (eh:D) (ka:MK) (zi zj rm:Z_) (R:l_),B+aQ!<4000->DX_ M W B->Bt W->i∈W.its->W.txt i=U++v->JS eh U (U++v)->Ck eh=ψ ka->
  (∀x∈W.its,∀k':Nat,k0<=k'->D.tup zv!∉Dc_ bB_)->
  (∀M' ρ,DX_ M' zv_ (B+aQ!)->Bt zv_->Dp_ O->R ad! M')->
  Fw (Qn 6 7) P! (JU t) ((pB_).map eN) [ap!,bX!,N!,dw_,ψ tx,ψ eh,zi,zj,rm] M R
 |[],k0,M,W,B,U,v,eh,ka,zi,zj,rm,R,hB,hO,w,hi,hl,J,hk,hf,hR=>by
  exact#[ο,hR M _ ?_ ?_ .refl]
  .simp only[List.zipIdx_nil,RP,OA,QS,Nat.add_zero];rw[<-hl,nB];exact hO
  .simp only[List.zipIdx_nil,RP,OA];rw[<-hl,nB];exact w
 |c::cs,k0,M,W,B,U,v,eh,ka,zi,zj,rm,R,hB,hO,w,hi,hl,J,hk,hf,hR=>by
  exact av_;let#[ki,de]:=(kJ!).key;let#[ad,eo,hO,hI]:=hO;let ob:=hI.ob;rw[eo]at ob;let#[k3,e3,h3,_,g1]:=hI.dirV (b:=θ);let g1:=(g1 i).1 hi;let g2:Gz t M _ _ _ pC!:=(py_).1;let lt:(pC!).length<=B:=(py_).2;simp![NH]at hB hR;let hs:Oq bX_:=zw_;let wf:∀x∈W.its,D.tup kN_∉Dc_ bB_:=λx hx=>hf x hx k0 u!;let hadd:An V_ (.tup [.int (k0:δ)])=ψ bX_:=by rfl
  let hm:Dd t.B7 "put_behind" M zx_:=by simp![Dd,g2.ob,rM.1,and_self]
  let hx:∀R',H7_ e5_ pD_ M R'=R' zx_ M:=by
   intro R';simp[w2,wl,Au,Fx,ob,oF3,By,h3,de,g1,Dm,Aa]
  show JU t pE! M _;show F0! nD! pE!;let e8:f2 An r! (Bg nC!) pE!=ψ bX_:=by
   rfl
  simp![Ag,Am,wl,e8,List.set_cons_succ,List.set_cons_zero,Cd,Az,hx];exact#[hm,χ,?_];exact jS g2 g2! hk (by rw[MM,UV];exact#[hs.nn,wf i hi]) a! λM1 hr fr=>?_;let#[hJ,fj]:=hI.sl fJ! (b:=θ) hi hr fr (by let#[u,v,e1,e2,_]:=oB bX_ eh pC!;rw[e2];rw[e1]at lt;simp at lt ⊢;omega);let#[_,h5,k5,e5,rfl,l5',hk5]:=hI.ty .wri ο;let ne:∀{r:Td},Jd bm! r->r≠.fol i θ->r≠.pre i θ->M1 hz!=M hz!:=λl Y h2=>fr _ (λz=>Y zz!) λz=>h2 zz!;let h5':=(ne (r:=.wri) ο nofun nofun).trans h5;let ob':=(ne (r:=.ob) ο nofun nofun).trans hI.ob;rw[eo]at ob';let l5:k5.length<big:=by delta big;omega
  let q1:=b7g (c:=d3!) (e5:=Ia k5 bX_ e5) hJ hk5 a! hi hl (BG_ hl J.names) wf;let q2:Fr M O zz_ O:=λb _ hr=>#[(uA (r0:=.wri) ο λz=>hr kF_).trans (fj b λz=>hr kF_),hr];let q3:=a7v (c:=d3!) w hi hl hs wf;let hU:U++zB!::v=(U++[zB!])++v:=by simp
  let rc:=λka M2 Y h2 h3 h4 h5 h6 h7 h8 h9=>tS (i:=i) (b:=b) (tx:=tx) (h:=h) (n:=n) cs (k0+1) M2 zC_ (B+1) (U++[pG!]) v bX_ ka (ψ zy!) (ψ cD_) (ψ bX_) R Y h2 h3 h4 h5 h6 h7 h8 h9;let:=rc _ _
   (a!) #[ad,eo,hO,q1] q3 hi (by rw[sX,hU]) (.inr #[U,_,χ,χ,λz=>wf i hi zE_]) g2!
   (λx hx k' cu z=>by
    let tx:(zC_).txt x=if x=i then U++pG!::v else W.txt x:=χ
    rw[tx]at z;by_cases y:x=i
    .subst y;rw[y_]at z;simp![NV,MU,ND,MM]at z;obtain z|z|z:=z
     .exact hf x hi k' a! zE_
     .simp at z;omega
     .exact hf x hi k' a! (by rw[hl,NV];exact MY _ z)
    .rw[MZ y]at z;exact hf x hx k' a! z)
   (λM' ρ Y h2 f'=>hR M' ρ (by
    rw[yD]at Y;rw[show B+(cs.length+1)=B+1+cs.length by omega,List.zipIdx_cons];simpa[sgn]using Y) (by
    rw[yD]at h2;simpa[sgn]using h2) (q2.trans f'))
  let hp:∀R',Bx us! d2! (wl bu!) pD_ M1 R'=R' (.nx pD_) zz_:=by
   intro R';simp[Bx,wl,Au,Fx,Dm,Aa,fC,ob',oF5,Ju,h5',show Ck bX_=ψ _ from χ,l5]
  simp![hp];exact this
def b7i(hO:ao_)(w:Bt W)(de:fF!)(zk:Ck b=ψ kb)(hB:hK!)(hs:hL_)
  (hf:∀x∈W.its,∀k':Nat,D.tup zv!∉Dc_ bB_)
  (hR:∀M',DX_ M' zF! bE_->Bt zF!->Dp_ O->Ed_ M'):
  Gr t [bm_,kQ_,i,b,bF_] M R:=by
 exact j_;simp![Jn,Ag,As,Hw,wT,Az,wl,Ab,Ad,Aa];simp[hO.noOb oM2];exact iC hO de ?_;show"!~"
 .simp only[c1,PP]at hR;let#[U,v,e1,e2,e3]:=qD b hM! cR!;let hl:cl_<=16:=by simpa[Str.length]using hs
  let hi:Wb S_ [ap!,bX!,N!,dw_,ψ aI_,dw_,υ,υ,υ]=ψ (Ef_ eN):=by
   rfl
  let:=tS (b:=b) (tx:=bF_) s.cps.toList 0 M W B U v b kb υ υ υ hG! a! hO w c1 e1 (Di_ e1 e3) zk (λx hx k' _=>hf x hx k')
   (λM' ρ Y h2 f'=>hR M' (by rw[<-e2]at Y;exact Y.mono a!) (by rw[<-e2]at h2;exact h2) f')
  simp![c1,VL,SG,OC,PC,Bf,Am,wl,Cn,Gu,Dm];exact this
 .simp only[c1,PC]at hR;let:=hR M pJ! w .refl;simpa[c1,Np]using this
end
def eS{N:Mh}(J:N b≠υ)(hq:N q=υ):b≠q:=λz=>J (BG_ z hq)
section
variable{t:Bb}{M:Mh}{ρ:Ae}{R:Fl->Mh->Prop}
def c5n(h:f ρ M λv M1=>fo ρ M1 λd M2=>fi ρ M2 λy M3=>Dm qu! λM4=>q ρ M4 R):DK! (Bx fo fi f) q:=by exact h
def a4e(h:f ρ M λ_ M1=>E8_ q):DK! (Cd f) q:=h
def uR{Q:cq_}(h0:zH_)(Y:hr!)(hM:M o=ψ pJ_)(hx:DU! x=ψ A_)(hp:cm!)(hk:bn!)(hl:es!)
  (hQ:Q h5!):Au C x ep! ρ M (λd M2=>wl fi ρ M2 λy M3=>Dm qu! λM4=>Q M4):=by
 let e:Ju M A_ y v=ψ h5!:=by simp[Ju,hp,hk,hl]
 simp![Au,wl,h0,Fx,hM,PP,hx,Dm,Y,e];exact hQ
def d6q{f1 f2:m_}(h0:∀K,II_ fo=K d M)(ho:lv_)(Y:fK!)(h2:hN!)(k:g [d,a,b] M K):Az C m 3 g fo pK_ ρ M K:=by delta Az Ab Ad;rw[h0];simp![wl,Y,h2];exact pL!
def GF(t:Bb):WS:=Ag ul_
 (Ag um!
 (Ag vj!
 (Ag uo!
 uo_)))
end
section
variable{t:Bb}{M M' M1:Mh}{ad bg:Td->Addr}{V V':Ix}{B B':Nat}{x:D}{b:Bool}{ρ:Ae}{R:Fl->Mh->Prop}
def Eh.lv(h:a4!)(l:Jd V q):M (ad q)≠none:=by let#[c,e,_]:=h.ty q l;rw[e];simp
def Eh.alloc{N:Td->ν}(h:a4!)(hB:cP_)(old:ku!)(cs:zI_)(nw:zJ!)(ni:∀q q',N q->N q'->bg q=bg q'->q=q')
  (hd:∃c,M' (ad rd)=ψ c/\GJ_ bg rd)(nt:∀q,N q->∃c,M' (bg q)=ψ c/\GJ_ bg q)(k:∀q,Jd V q->q≠rd->M' (ad q)=M (ad q)/\Sm V V' q)(lr:Jd V rd):HN! V' B':=by
 exact h.go hB old (λq q' l l' e=>?_) λq l=>?_
 .obtain l|l:=cs q l<;>obtain l'|l':=cs q' l'
  .rw[old q l,old q' l']at e;exact h.inj q q' l l' e
  .rw[old q l]at e;exact C6_ (e▸nw q' l') (h.lv l)
  .rw[old q' l']at e;exact C6_ (e▸nw q l) (h.lv l')
  .exact ni q q' l l' e
 .obtain l|l:=cs q l
  .by_cases e:q=rd
   .subst e;rw[old q l];exact .inl hd
   .exact .inr #[l,k q l e]
  .exact .inl (nt q l)
def b2c{N:Td->ν}(lr:Jd V rd)(old:ku!)(cs:zI_)(nw:zJ!)(k:∀a,M a≠υ->a≠ad rd->M' a=M a):F0_ V':=λa ha hn=>by
 exact#[k a ha λz=>hn #[rd,lr,z.symm],?_];rintro⟨q,l,e⟩;obtain l|l:=cs q l
 .exact hn #[q,l,by rw[<-old q l];exact e]
 .exact ha (e▸nw q l)
nonrec def Ix.nw(V:Ix)(x:D)(b:Bool):Ix:={V.sl x b []with dm:=λc y=>V.dm c y\/(c=b/\y=x)}
def yR(h:a4!)(hx:¬V.dm b x)(hk:aB_)(hB:B<3990)(hf:∀{a1 a2 a3 a4 a5 a6:sw!},GB! bW_ f=ψ (.fn (match b with|true=>a2|false=>a3)))(e0:zM!)(e1:zM_)
  (hR:∀M' bg,bg .ob=ad .ob->F0_ pM_->HN! pM_ (B+1)->q ρ M' R):DK! (Bx (Au t.B6 f i_) p! gI!) q:=by
 exact c5n (vL λr f p M1 z1 z2 z3 n1 n2 hr n3 fr=>?_);let#[kd,ed,hd,ld,kv]:=h.dirV;let m1:∀a,M a≠υ->M1 a=M a:=λa ha=>fr a (eS ha z1) (eS ha z2) (eS ha z3);let ob:=DT! zN! h.ob;let hd1:=(m1 _ kS!).trans hd;exact uR (p:=ad hC!) e0 e1 ob (hf.trans zN_) hd1 hk bl! ?_
 let -nondep bg:Td->Addr:=λq=>if q=.row x b then r else if q=.fol x b then f else if q=.pre x b then p else ad q
 let a1:bg fC_=r:=MO χ;let a2:bg cO_=f:=HB! b!;let a3:bg cP!=p:=(MZ b!).trans (HB! b!);let old:∀q,Jd V q->bg q=ad q:=λq l=>DT! pN_ ((pN_).trans pN_);let cs:∀q,Jd pM_ q->Jd V q\/zP_:=λq l=>by
  cases q with
  |row y c=>exact l.imp_right λz=>.inl ek!
  |fol y c=>exact l.imp_right λz=>EG_ ek!
  |pre y c=>exact l.imp_right λz=>De_ ek!
  |_=>exact .inl l
 let nw:∀q,zP_->M (bg q)=none:=by
  rintro q (rfl|rfl|rfl)
  .rw[a1];exact z1
  .rw[a2];exact z2
  .rw[a3];exact z3
 let#[kf,ef,kp,ep,hf,hp,K,Kp]:=hr.dc;let md:∀{c:Dh} {a:sw!},M a=υ->mup M1 (ad hC!) c a=M1 a:=λha=>Ds_ (NY (eS kS! ha));exact hR _ bg zQ_ (b2c (rd:=.dir b) ο old cs nw λa ha hn=>(pO!).trans (m1 a ha)) ?_;exact h.alloc fJ! old cs nw ?_ #[_,mup_same,_,_,χ,kJ_,λy=>?_] ?_ (λq l hn=>Gn_ (h.inj q hC! l ο z)) ο
 .rintro q q' (rfl|rfl|rfl) (rfl|rfl|rfl) e
  .rfl
  .rw[a1,a2]at e;exact H3_ n1
  .rw[a1,a3]at e;exact H3_ n2
  .rw[a1,a2]at e;exact J0! n1
  .rfl
  .rw[a2,a3]at e;exact H3_ n3
  .rw[a1,a3]at e;exact J0! n2
  .rw[a2,a3]at e;exact J0! n3
  .rfl
 .rw[jX];by_cases c:y=x
  .rw[MO c,c,a1];exact#[cz!,λz=>ξ (.inr ae!) z]
  .rw[MZ c];exact#[λz=>by let z:=z.resolve_right λw=>c w.2;rw[old (.row y b) z];exact(kv y).1 z,λz=>(kv y).2 λw=>z (.inl w)]
 .rintro q (rfl|rfl|rfl)
  .rw[a1];exact#[_,(md z1).trans hr.ob,by show Dh.obj _ _=Dh.obj _ (Ik_ (bg cO_) (bg cP!));rw[a2,a3]]
  .rw[a2];exact#[_,(md z2).trans hf,by show TF _ _ zT_;rw[yB];exact#[OG _,_,_,χ,K]]
  .rw[a3];exact#[_,(md z3).trans hp,by show TF _ _ (zT_).reverse;rw[yB];exact#[OG _,_,_,χ,Kp]]
 .cases q with
  |dir c=>exact funext λy=>Gu_ #[λz=>z.resolve_right λw=>hn (by rw[w.1]),.inl]
  |fol y c=>exact MZ λz=>hx zV!
  |pre y c=>exact MZ λz=>hx zV!
  |_=>rfl
nonrec def Ix.nn(V:Ix)(x:D)(l:d_):Ix:={V with nd:=λy=>V.nd y\/y=x,nu:=λy=>if y=x then l else V.nu y}
def b5n(h:a4!)(hx:¬V.nd x)(hk:aB_)(hB:B<3990)(e0:zM!)(e1:zM_)
  (hR:∀M' bg,bg .ob=ad .ob->F0_ pP!->HN! pP! (B+1)->R ad! M'):Bx ny_ p! um_ ρ M R:=by
 exact#[F!,zW!,λq z=>?_];let#[_,hd,kd,ed,rfl,ld,kv]:=h.ty .nums ο;let m1:∀{c:Dh} a,M a≠υ->Gr! q a=M a:=λa ha=>Ks_ ha z;exact uR e0 e1 (DT! zN! h.ob) oF4 ((m1 _ kS!).trans hd) hk bl! ?_
 let -nondep bg:Td->Addr:=λr=>if r=.nm x then q else ad r
 let a1:bg kt!=q:=MO χ;let old:∀r,Jd V r->bg r=ad r:=λr l=>MZ λz=>hx zO_;let cs:∀r,Jd pP! r->Jd V r\/r=.nm x:=λr l=>by
  cases r with
  |nm y=>exact l.imp_right λz=>by rw[z]
  |_=>exact .inl l
 let nw:∀r,r=.nm x->M (bg r)=none:=λr e=>by rw[e,a1];exact z
 exact hR _ bg zQ_ (b2c (rd:=.nums) ο old cs nw λa ha hn=>(pO!).trans (m1 a ha)) ?_;exact h.alloc fJ! old cs nw (λr r' e e' _=>e.trans e'.symm) #[_,mup_same,_,_,χ,kJ_,λy hy=>?_] (λr e=>?_) (λr l hn=>Gn_ (h.inj r .nums l ο z)) ο
 .rw[jX];by_cases c:y=x
  .rw[MO c,c,a1]
  .rw[MZ c,old (.nm y) zX_];exact kv y zX_
 .subst e;rw[a1];exact#[_,(Ds_ (NY (eS kS! z))).trans mup_same,by show Dh.lst _=Dh.lst (FE_ x x);rw[y_];rfl]
 .cases r with
  |nums=>exact Dd! hn
  |nm y=>exact MZ λz=>hx (Di_ z l)
  |_=>rfl
end
section
variable{t:Bb}{M:Mh}{o:sw!}{O:Addr->Prop}{W:OW}{B:Nat}{R:D->Mh->Prop}
def b9s{V:Ix}(h:a4!)(hi:Go i)(hl:ef_<=B)(h0:kget k root=ψ .non)(Y:kget k binn=ψ .non)(hp:∀i p,V.pr i p->kget k i=ψ p):
  Eh t (mup M hy_ (.dct (Bp k i x) e)) ad {V with pr:=λa p=>(V.pr a p/\a≠i)\/(a=i/\p=x)} (B+1):=by
 exact h.up fJ! ο #[_,_,χ,kJ_,?_,?_,?_] λr hn l=>pt_
 .rw[nX hi.nn.2.1];exact h0
 .rw[nX hi.nn.2.2];exact Y
 .rintro a p (⟨z,y⟩|⟨rfl,rfl⟩)
  .rw[nX (NY y)];exact hp a p z
  .rw[jO]
 .cases r with
  |par=>exact Dd! hn
  |_=>rfl
def a4p{o:D}:(Lr n o xs).length=i!+1:=by let#[u,v,e1,e2,_]:=oB n o xs;rw[e1,e1.symm,e2,e1];simp;omega
def c2o(h:∀a,¬P a->M' a=M a):Fr M P M' P:=λa _ hn=>#[h a hn,hn]
def d1r(hO:ao_)(w:Bt W)(hn:n∉W.its)(ht:Go n)(ll:dx_)(zk:Ck b=ψ kb)(hB:hK!)(hg:JN! n)
  (hR:∀M' O',GK_ fA_ bE_->Dp_ O'->Ed_ M'):Io t [bm_,n,a,b] M R:=by
 let#[kn,gr]:=ht.key;let hp:Gy W fN!:=by split;assumption;exact .inr cE_
 let nP:¬Gy W n:=λz=>z.elim hn λz=>z.elim ht.nn.2.1 ht.nn.2.2;exact j_;generalize hK:zZ!=KK;let ic:∀ρ' M',R .non M'->KK cV! M':=λρ' M' z=>by rw[<-hK];exact z
 let key:∀pl,pl=fN!->GF t [ap!,bB!,ψ a,dw_,ψ pl] M KK:=by
  intro pl epl;rw[<-epl]at hg hp;let#[kpl,hkpl]:=pS w hp;let#[ad,eo,hO,hI]:=hO;let pn:n∉D.non::En! chl pl:=by
   rw[MM,UV];exact#[ht.nn.1,λz=>mM w hn pl pQ_]
  subst eo;let#[_,Y,k1,e1,rfl,l1,p0,p1,pr]:=hI.ty .par ο;let wg:Aa 1 zZ_=ψ n:=χ;let f0:Aa 0 zZ_=ψ ky!:=χ;exact uR f0 wg hI.ob oF1 Y gr bl! ?_;let I1:=b9s (e:=Ia k1 n e1) (x:=pl) hI ht l1 p0 p1 pr;let F1:Fr M (Yd ad bm!) (mup M hy_ (.dct (Bp k1 n pl) (Ia k1 n e1))) (Yd ad bm!):=c2o λa ha=>uA ο ha;let#[k2,e2,h2,_,kv]:=I1.dirV (b:=τ);let r1:=I1.row (b:=τ) hp;exact a4e (d6q (λR'=>?_) (by simp![Dd,r1.1.ob,rM.1,and_self]) χ χ (jS r1.1 gr zk pn (by let:=r1.2;omega) λM2 R2 K2=>?_))
  .simp[w2,wl,Au,Fx,I1.ob,oF2,By,h2,hkpl,(kv pl).1 hp,Dm,Aa]
  let#[I2,f2]:=I1.sl (b:=τ) (B':=B+2) a! hp R2 K2 z0_;exact yR (b:=τ) I2 nP gr a! oF2 χ χ λM3 a3 o3 F3 I3=>?_;exact yR (b:=θ) I3 (λz=>z.elim hn λy=>by exact C6! (y.1)) gr a! oF3 (EX_ o3) χ λM4 a4 o4 F4 I4=>?_;exact b5n I4 hn gr a! (by rw[o4,o3];rfl) χ λM5 a5 o5 F5 I5=>ic _ _ ?_;let F:=((F1.trans (c2o f2)).trans F3).trans (F4.trans F5);let hm:∀q,q∈am↔q=(n,pl)\/q∈W.rows:=λq=>by
   rw[hg.mem,jV];exact UM #[λz=>z.1,λz=>#[z,λe=>mM w hn q.2 (Di_ e z)]]
  let wn:En! wo n=W.rows:=PJ.mpr λq hq=>by simpa using λz=>mM w hn q.2 o9!
  let cn:=List.eq_nil_iff_forall_not_mem.mpr λc hc=>nP (Ia! (lG.mp hc));let np:pl≠n:=λz=>nP (z▸hp);let et:∀{P:fI!},(∃x∈W.its++[n],∃q∈kp!,P q)↔∃x∈W.its,∃q∈W.txt x,P q:=λ{P}=>by
   show"!r"
   .rintro⟨x,hx,q,hq,h⟩;by_cases c:x=n
    .rw[MO c]at hq;exact(hx!).elim
    .rw[MZ c]at hq;exact#[x,(oZ_).resolve_right λz=>c kT_,q,hq,h]
   .rintro⟨x,hx,q,hq,h⟩;exact#[x,NM _ hx,q,by rw[MZ λz:x=n=>hn (z▸hx)];exact hq,h]
  let hL:∀r,Jd kU_ r↔Jd (z3!) r:=λr=>by
   let d:∀(c:Bool) (y:D),(kU_).dm c y↔((bm!).dm c y\/(c=τ/\y=n))\/(c=θ/\y=n):=λc y=>by
    cases c with
    |true=>
     show"!r"
     .rintro(z|z)
      .exact .inl ((ND.mp z).imp .inl λz=>#[χ,cY!])
      .exact .inl fO!
     .rintro((z|z)|z)
      .exact Or.imp_left (NM _) z
      .exact .inl (by rw[z.2];exact MY _ kW!)
      .exact C6! (z.1)
    |false=>show y∈W.its++[n]↔(y∈W.its\/_)\/_;simp
   cases r with
   |row y c=>exact d c y
   |fol y c=>exact d c y
   |pre y c=>exact d c y
   |nm y=>show y∈W.its++[n]↔y∈W.its\/y=n;simp
   |_=>exact Iff.rfl
  exact hR M5 (Yd a5 kU_) #[a5,o5.trans (o4.trans o3),z5!,I5.cv a! λr l=>#[(hL r).mp l,?_]] λc hc hr=>?_
  .let ls:∀(y:D) (c:Bool),(kU_).ls y c=(z3!).ls y c:=λy c=>by
    show _=if y=n/\c=θ then[]else if y=n/\c=τ then[]else if y=pl/\c=τ then Lr n b z2_ else(bm!).ls y c
    cases c with
    |true=>
     rw[bY_];show chl am y=_;by_cases c1:y=n
     .rw[MO pR!,c1,hg.chl_ne np,wn,cn]
     .rw[z7!];by_cases c2:y=pl
      .rw[MO #[c2,χ],c2,z7_,wn]
      .rw[MZ λz=>c2 z.1,hg.chl_ne (NY c2),wn];rfl
    |false=>
     show Dc_ ym_=_;by_cases c1:y=n
     .rw[MO c1,MO pR!];rfl
     .rw[MZ c1,z7!,bY_,bY_];rfl
   cases r with
   |par=>exact funext λi=>funext λp=>Gu_ ((hm bV_).trans #[λz=>z.elim z8! λz=>.inl #[z,λe=>mM w hn p (e▸z)],λz=>z.elim (λz=>.inr z.1) λz=>.inl ek!])
   |dir c=>exact funext λy=>Gu_ (hL (.row y c))
   |nums=>exact funext λy=>Gu_ (hL (.nm y))
   |wri=>exact funext λs=>funext λv=>Gu_ et
   |hid=>exact funext λs=>Gu_ et
   |fol y c=>exact ls y c
   |pre y c=>exact ls y c
   |nm y=>rfl
   |_=>rfl
  .let#[f1,f2]:=F c hc λz=>hr kX_
   exact#[f1,by rintro⟨r,l,e⟩;exact f2 #[r,(hL r).mp l,e]]
 let hh:∀K:D->Mh->Prop,Cg t [bm_,a] M K->Az t.B6 "has" 2 gK! i_ d1! [ap!,bB!,ψ a,dw_,υ] M K:=λK uy=>#[hO.noOb ck_,χ,uy];exact hh _ (a2t hO ll ?_);by_cases c:Gy W a
 .rw[NG c];exact key a (by rw[MO c])
 .rw[NA c];exact key binn (by rw[MZ c])
def tI(hO:ao_)(w:Bt W)(de:fF!)(hkx:ps!)(ox:Ck s=ψ ks)(hB:hK!)
  (hR:∀M',(el_->∀am,Qt W.rows i x s am->Bl t M' o O {W with rows:=am} bE_)->(¬el_->Bl t M' o O W bE_)->Dp_ O->Ed_ M'):
  Ft t [bm_,i,x,s] M R:=by
 exact j_;show Ag uq! (Ag _ (Ag _ _)) [ap!,N!,bE!,cS!] M _;dsimp only[Ag,As,Hw,wT,Az,wl,Ab,Ad,Aa,List.getElem?_cons_zero,List.getElem?_cons_succ,Option.join_some];exact#[hO.noOb ck_,χ,?_];exact a7l hO w de hkx λb J=>?_;cases b with
 |false=>
  let hc:¬el_:=λz=>by let:=J.mpr z;exact C6! this
  let:=hR M (HO! z hc) (λ_=>hO.mono a!) .refl;simpa[Np]using this
 |true=>
  let#[hi,hx,hw]:=J.mp χ;let#[p0,g8]:=a8j w hi;let wj:=Ia! g8;let#[zg,hkp0]:=pS w wj;let#[uu,vv,c1,c2]:=b0q w.rnd g8;let#[ad,rfl,hO,hI]:=hO;let#[_,Y,k1,e1,rfl,l1,q0,q1,pr]:=hI.ty .par ο;let#[k2,e2,h2,_,kv]:=hI.dirV (b:=τ);let r0:Gz t M Ab_ (ad (.fol p0 τ)) (ad (.pre p0 τ)) (uu++i::vv)/\(uu++i::vv).length<=B:=by rw[<-c1];exact hI.row wj
  let hx0:∀R',w2 By di! jk_ Ac_ M R'=R' (.fn Ab_) M:=by
   intro R';simp[w2,wl,Au,Fx,hI.ob,oF1,oF2,By,Y,h2,de,pr i p0 g8,hkp0,(kv p0).1 wj,Dm,Aa]
  simp![Bool.not_true,Bool.false_eq_true,if_false,Bf,Cd,Az,hx0];exact#[by simp![Dd,r0.1.ob,rM.2.1,and_self],χ,?_];exact a3u r0.1 de (by let:=r0.2;omega) λM1 R1 K1=>?_;rw[<-c2]at R1;let#[I1,f1]:=hI.sl (b:=τ) (Nat.le_refl B) wj R1 K1 (by let:=r0.2;rw[c2];simp at this ⊢;omega);let#[k2,e2,h2,_,kv]:=I1.dirV (b:=τ);let#[_,Y,k1,e1,rfl,l1,q0,q1,pr]:=I1.ty .par ο;let e1x:(Ad_).ls x τ=chl hQ_ x:=by
   show(if x=p0/\τ=τ then _ else chl W.rows x)=_;by_cases e:x=p0
   .rw[if_pos #[e,χ],e]
   .rw[if_neg λz=>e z.1,zQ λz=>e Ae!]
  let r1:=I1.row (b:=τ) hx;rw[e1x]at r1;let zl:∀R',H7_ di! Ac_ M1 R'=R' (.fn (HB_ x)) M1:=by
   intro R';simp[w2,wl,Au,Fx,I1.ob,oF2,By,h2,hkx,(kv x).1 hx,Dm,Aa]
  simp![zl];exact#[by simp![Dd,r1.1.ob,rM.1,and_self],χ,?_];exact jS r1.1 de ox (by rw[List.mem_cons,not_or];exact#[(kJ!).nn.1,λz=>(jV.mp pQ_).2 χ]) (by let:=r1.2;omega) λM2 R2 K2=>?_;let#[I2,f2]:=I1.sl (b:=τ) (Nat.le_succ B) hx R2 K2 z0_;let jm:=(K2 hy_ (λz=>by let:=I1.inj .par (.fol x τ) ο hx z;cases this) λz=>by let:=I1.inj .par (.pre x τ) ο hx z;cases this).trans Y;let fin:Ed_ (mup M2 hy_ (.dct (Bp k1 i x) (Ia k1 i e1))):=by
   let I3:=b9s (e:=Ia k1 i e1) (x:=x) I2 kJ! (Nat.le_succ_of_le l1) q0 q1 pr;exact hR _ (λ_ am hg=>#[ad,χ,hO,I3.cv a! λr l=>pt_]) (HO! #[hi,hx,hw] z) λc hc hr=>#[(uA (r0:=.par) ο λz=>hr kX_).trans ((f2 c λz=>hr kX_).trans (f1 c λz=>hr kX_)),hr];let ls:∀(y:D) (c:Bool),(Ky {W with rows:=am}).ls y c=((Ad_).sl x τ (Lr i s (chl hQ_ x))).ls y c:=λy c=>by
    show _=if y=x/\c=τ then _ else if y=p0/\c=τ then _ else(bm!).ls y c
    cases c with
    |false=>rw[if_neg nofun,if_neg nofun];rfl
    |true=>
     show chl am y=_;by_cases c1:y=x
     .rw[if_pos pR!,c1,z7_]
     .rw[if_neg λz=>c1 z.1,hg.chl_ne (Ne.symm c1)];by_cases c2:y=p0
      .rw[if_pos #[c2,χ],c2]
      .rw[if_neg λz=>c2 z.1,zQ λz=>c2 Ae!];rfl
   cases r with
   |par=>exact funext λa=>funext λp=>Gu_ (hg.mem.trans #[λz=>z.elim z8! λz=>.inl (jV.mp z),λz=>z.elim (λz=>.inr (jV.mpr z)) λz=>.inl ek!])
   |fol y c=>exact ls y c
   |pre y c=>exact ls y c
   |dir c=>cases c<;>rfl
   |_=>rfl
  simpa[Bx,wl,Au,Fx,Dm,Aa,I2.ob,oF1,Ju,jm,de,show k1.length<big by delta big;omega]using fin
end
nonrec def Bb.nd(t:Bb):Prop:=(pU!).Nodup
def Kh(c:δ):Bool:=decide kZ_&&decide kZ!&&!(c==37)
def Ug(s:Str):Bool:=decide (F_<=1000)&&s.cps.toList.all Kh
def c1k(a c:δ):Rk (FN_ a) H_=decide (a<=c):=by
 delta Rk;simp![List.cons_lt_cons_iff,List.not_lt_nil,and_false,RI];by_cases h:c<a
 .simp[h]
 .simp[h];omega
def b5i:(" ":Str)=(FN_ 32):=by decide+kernel
def b5h:("~":Str)=(FN_ 126):=by decide+kernel
def gE(hn:h!=n)(h:q cN!=ψ af_):Di N n q ds=ψ d:=by delta Di;rw[MO hn,h]
def jJ(h:bS!):Bi f ρ=ψ af_:=by delta Bi;rw[h];rfl
def fA(hn:h!=n)(h:f cN!=ψ d):Di N n (Bi f) ds=ψ d:=gE hn (jJ h)
def sk(hc:pV!)(h:q2 ρ=r):HO_ (Hx c q El)=r:=by delta sSeq Hx;rw[hc];exact h
def uJ(hn:h!=n)(hc:c cN!=ψ θ)(h:f cN!=ψ d):Di N n (FQ! (Hx c q El) f) ds=ψ d:=gE hn (sk hc (jJ h))
def wI(hc:pW!)(h:bS!):HO_ (Hx c (Bi f) q)=ψ af_:=by delta sSeq Hx;rw[hc];show(Bi f ρ).bind _=_;rw[jJ h];rfl
def bH(h:q1 ρ=ψ cV!):HO_ q1=q2 ρ':=by delta sSeq;rw[h];rfl
def nZ(h:q1 ρ=ψ af_):HO_ q1=ψ af_:=by delta sSeq;rw[h];rfl
def eW(h:bS!):Dk i f ρ=DQ! bR_:=by delta Dk;rw[h];rfl
def cB(h:bS!)(g:hR_):Ac f fs ρ=ψ eb!:=by delta Ac;rw[h,g];rfl
def lY(h:hR_)(e:g ds=ψ d):f1 g fs ρ=ψ d:=by delta f1;rw[h];exact e
def aS{f1 f3:m_}(h:pW_)(k:f3 ρ=ψ y)(e:g x y=ψ d):f2 g f1 f3 ρ=ψ d:=by delta f2;rw[h,k];exact e
def jU(h:0<j):Dy U! a5_=ψ pX!:=by show(JF! (0<j))=_;rw[MO (NG h)]
def fV(h:f ρ=ψ al_):fT f ρ=ψ b:=by delta fT;rw[h];rfl
def a3l(h:fa ρ=ψ v_)(k:fb ρ=ψ d):Ii fa fb ρ=ψ d:=by delta Ii;rw[fV h];exact k
def d8o(h:fa ρ=ψ B!):Ii fa fb ρ=ψ B!:=by delta Ii;rw[fV h];rfl
def b9v(h:fa ρ=ψ v_):Ms fa fb ρ=ψ v_:=by delta Ms;rw[fV h];rfl
def b4t(h:fa ρ=ψ B!)(k:fb ρ=ψ d):Ms fa fb ρ=ψ d:=by delta Ms;rw[fV h];exact k
def fO(e:g [x]=ψ d)(h:f ρ=ψ x):EN! g f ρ=ψ d:=lY (cB h χ) e
def wZ(e:g [x,y]=ψ d)(h:f ρ=ψ x)(k:f' ρ=ψ y):f1 g (C4! f f') ρ=ψ d:=lY (J0_ h k) e
def bT [Decidable p](h:p):Jo_ p=ψ v_:=by rw[NG h]
def chn(Y:fa ρ=ψ x)(h2:fb ρ=ψ y)(e:g x y=ψ al_)(h3:b=τ->fc ρ=ψ z)(e2:b=τ->g' y z=ψ d)(e3:b=θ->d=.bl θ):Gs g g' fa fb fc ρ=ψ d:=by
 delta Gs;rw[Y,h2,PK,PK,e];cases b with
 |true=>show(fc ρ).bind _=_;rw[h3 χ];exact e2 χ
 |false=>rw[e3 χ];rfl
def d7j(Y:fa ρ=ψ U!)(h2:fb ρ=ψ a5_)(h3:fc ρ=ψ dR_)(e1:i<=j)(e2:g a5_ dR_=ψ d):Gs Rm g fa fb fc ρ=ψ d:=chn Y h2 (bT e1) (λ_=>h3) (λ_=>e2) λz=>by exact C6! z
def at0(x:D)(r:d_):Et (x::r) 0=ψ x:=by delta Et Hv;rw[pY_,fO_];rfl
def d3y(c:δ):Fg [d3!]=C4_ (Kh c):=by
 let e1:Rm ja_ cD_=Dn! ψ kZ_:=by rw[b5i,<-c1k];rfl
 let e2:Rm cD_ nl!=Dn! ψ kZ!:=by rw[b5h,<-c1k];rfl
 let e3:((c:Int)==37)=(c==37):=by rw[PU,QK,QK];omega
 let e4:IE_ Gs [ψ cD_]=ψ (.bl (decide kZ_&&decide kZ!)):=Dd_ chn e1 pZ! (λz=>by rw[e2,z];rfl) λz=>by rw[z];rfl
 exact FP! fA;delta Kh;cases h:decide kZ_&&decide kZ! with
 |false=>rw[h]at e4;exact d8o e4
 |true=>
  rw[h]at e4;exact a3l e4 ?_;show Fc! (!((c:Int)==37))=_;rw[e3,Bool.true_and]
def b0p(cs:g_)(h:cs.all Kh=τ):EC_ gG_ Ak_=ψ k0_:=by
 induction cs with
 |nil=>rfl
 |cons c cs ih=>
  rw[SW,NU]at h;let e:=d3y c;rw[h.1]at e;show((Fg [d3!]).bind λy=>(EC_ gG_ Ak_).map kb_)=_;rw[ih h.2,e];rfl
def a2x(a b:Str):Ej (.str a) (.str b)=(a==b):=by delta Ej;rfl
def a7r(s:Str):∀xs:List Str,Al_=xs.any (·==s)
 |[]=>rfl
 |x::xs=>by rw[MU,RT,RT,a7r s xs,a2x]
def c7x(s:Str)(xs:D!):Uk θ aI_ (.tup k1!)=ψ (.bl (xs.any (·==s))):=by
 let h:(k1!).all Jo=true:=by simp[SJ,Jo]
 show(if Jo aI_&&(k1!).all Jo then ψ (D.bl Al_)else υ)=_;rw[h,a7r];rfl
def dG(a b:Str):At (.str a) (.str b)=ψ pZ_:=by rfl
def in2(k a b:Str):Uk θ G! p0!=C4_ p0_:=by let:=c7x k O!;simpa only[MU,RP,RT,List.any_nil,WY]using this
def lN(a b:Int):At (.int a) (.int b)=ψ pZ_:=by rfl
abbrev scr(ns:r_):D:=.lst jC_
def a3i(h0:0<=i)(Y:i<i!):∃x,Et xs i=ψ x/\x∈xs:=by exact#[xs[i.toNat]' a!,?_,QF _];delta Et Hv;rw[MO h0,MO Y];simp
def c9h(ns:r_)(k:Int):∃c,Sx p1!=C2_ c:=by
 cases ns with
 |nil=>exact#[0,χ]
 |cons n r=>
  let hp:(0:Int)<Am!:=by simp![MV,NH];omega
  let#[x,e,hx]:=a3i (i:=k%Am!) (SQ _ a!) (RU k hp);let#[c,_,rfl]:=NB.mp hx;exact#[c,gE χ (wI χ Am_)]
def d0h(h:-gq_<j)(h2:j<2 ^ 64):Nm U! a5_=C2_ (i*j):=MO (by delta Wv;rw[NG h,NG h2,Bool.and_self,Bool.or_true])
def iI(ns:r_):∃m,Bn p1!=ψ dw!/\0<=m/\m<4294967231:=by let#[c,hc]:=c9h ns k;exact#[_,gE χ ((KA! (KU_ (aS (Fp_ wZ hc) An! χ))).trans ((KA! (KU_ (Jc_ (d0h a_ a_)))).trans (jJ (KU_ (Fp_ aS (aS fR! χ (d0h a_ a_))))))),SQ _ a_,RU _ a_]
def nF(h:xs≠[]):∃x,Dj [.lst xs,ap_]=ψ x/\x∈xs:=by
 let hp:(0:Int)<(i!:δ):=by let:=Ib! h;omega
 let#[x,e,hx]:=a3i (i:=n%(i!:δ)) (SQ _ a!) (RU n hp);exact#[x,fA χ Am_,hx]
def c4o(hf:bS!)(hl:p1_)(J:h!<big):Po i f ρ=ψ x5!:=by delta Po;rw[hf,hl];show(if h!<big then _ else _)=_;rw[MO J]
def vP(P:δ->Ae->ν)(ds:d_):∀(i:δ) (ρ:Ae),P i ρ->
  (∀(j:δ) (d:D) (ρ:Ae),ds[j]?=ψ d->P (i+j) ρ->∃al bn,bnd d ρ=ψ al/\q al=DQ! bn/\P (i+j+1) bn)->
  ∃ρ',Nu bnd q ds ρ=ψ cV!/\P (i+h!) ρ':=by
 induction ds with
 |nil=>exact λi ρ h _=>#[ρ,χ,h]
 |cons d ds ih=>
  intro i ρ h hs;let#[al,bn,e1,e2,h2]:=hs 0 d ρ χ h;let#[ρ',e3,h3]:=ih x! bn h2 λj d ρ hd hp=>by
   let:=hs b7! d ρ hd;rw[<-Nat.add_assoc,Nat.add_right_comm]at this;exact this hp
  exact#[ρ',?_,by rw[NH,<-Nat.add_assoc,Nat.add_right_comm];exact h3];delta Nu;rw[e1,PK,e2];exact e3
def wO(R:er!)(ds:d_)(h:∀d∈ds,∃al b,bnd d ρ=ψ al/\ft al=ψ b/\(b=τ->∃y,fe al=ψ y/\R y)):
  ∃ys,EH! ρ=ψ ys/\X_<=h!/\∀y∈ys,R y:=by
 induction ds with
 |nil=>exact#[[],χ,NC _,λy hy=>by exact(MN hy).elim]
 |cons d ds ih=>
  let#[al,b,e1,e2,hy]:=h d ML;let#[ys,e3,hl,hr]:=ih λx hx=>h x b0!
  delta Cc;rw[e1,PK,e2,PK];cases b with
  |false=>exact#[ys,e3,Nat.le_succ_of_le hl,hr]
  |true=>
   let#[y,e4,r4]:=hy χ;exact#[y::ys,by rw[y_,e4,PK,e3];rfl,VP hl,q0_];obtain rfl|hz:=MM.mp hz
   .exact r4
   .exact hr z hz
def sL:∀{ds ys:d_},Cc bnd H! fe ρ ds=ψ ys->X_=h!
 |[],ys,e=>by rcases e;rfl
 |d::ds,ys,e=>by
  delta Cc at e;let#[al,e1,e]:=MD.mp e;dsimp only[Option.bind_some,if_true]at e;let#[y,e3,e]:=MD.mp e;let#[zs,e4,rfl]:=MQ.mp e;simp[sL e4]
def NameG(x:D):Prop:=∃a b,x=.tup o6!/\0<=a/\a<16/\1<=b/\b<=2000
def Bu(x:D):Prop:=x=.str "root"\/x=.str "bin"\/NameG x
def Kn(x:D):Prop:=x=.non\/NameG x
def Xb(x:D):Prop:=∃a b c,x=.tup o6_/\0<=a/\a<16/\1<=b/\b<=2000/\0<=c/\c<=15
def Jb(x:D):Prop:=x=.non\/Xb x
inductive DG:D->Prop
 |put {a b:D}:Bu a->Kn b->DG hS!
 |move {a b c:D}:Bu a->Bu b->Kn c->DG hS_
 |drop {a:D}:Bu a->DG hT!
 |write {a b:D} {s:Str}:Bu a->Jb b->Ug s=τ->1<=F_->F_<=16->DG dA_
 |cut {a:D} {x y z m:Int}:Bu a->Xb fI_->1<=m->z+m<=16->DG fS!
 |set {a:D} {p n:Int}:Bu a->0<=p->p<=3->n.natAbs<10 ^ 60->DG (.tup [k3_,a,.int p,ap_])
 |undo {a:D}:NameG a->DG (.tup [hT_,a])
 |redo {a:D}:NameG a->DG (.tup [k4!,a])
def Wh(o:D):Prop:=∃h n tm d,o=.tup hU!/\0<=h/\h<16/\1<=n/\n<=2000/\DG d
def a6x(h:DG d):∃k r,d=.tup bG!/\(k="write"->∃a b s,r=hU_/\F_<=16):=by
 cases h with
 |write _ _ _ _ h5=>exact#[_,_,χ,λ_=>#[_,_,_,χ,h5]]
 |_=>exact#[_,_,χ,λz=>ξ z c_]
def a2e(h:f ρ=Ds! [.int h',ap_,er_,k5!]):fT (f2 At (Eg! (f2 Ai f ae_)) k5_) ρ=ψ (k==s):=fV (aS (aS (Fp_ aS h) χ (at0 _ _)) χ (dG k s))
def c2c(h:hV_)(hl:hW!):∃ys,Kl [k6!]=yJ_ (.str "root"::As_)/\X_<=100/\∀x∈ys,NameG x:=by
 let#[ys,e,l,hr]:=wO (ρ:=bn_) (bnd:=Ar 0) (ft:=fT oe_) (fe:=Bg g5!)
  NameG ops (by
   intro o ho;let#[h',n,tm,d,rfl,b1,b2,b3,b4,hd]:=h o ho;let#[k,r,rfl,_]:=a6x hd;exact#[_,_,χ,a2e χ,λ_=>Hp! Au!])
 let hc:GI! 1 [b0_]=ψ bu_:=by
  show Av_;rw[cn!,e];rfl
 exact#[ys,fA χ (aS (aS χ hc (MO (by show 1+X_<=big;delta big;omega))) χ (MO (by show X_+1+2<=big;delta big;omega))),p_,hr]
def c7r(hr:∀x∈ys,NameG x):∀x∈D.str "root"::As_,Bu x:=λx hx=>by
 simp at hx;obtain rfl|hx|rfl|rfl:=hx
 .exact cv!
 .exact De_ p7!
 .exact kM!
 .exact De_ #[9,9,χ,F!,F!,F!,F!]
def c2b(h:hV_)(hl:hW!):∃its,Kl [k6!]=ψ p7_/\3<=gT!/\gT!<=200/\∀x∈its,Bu x:=by let#[ys,e,l,hr]:=c2c h hl;exact#[_,e,Q_,by simp;omega,c7r hr]
def d0n(h:pW!):IJ_ b=a ρ:=by delta Hx;rw[h];rfl
def d0o(h:pV!):IJ_ b=b ρ:=by delta Hx;rw[h];rfl
def b0b(h:ou!)(e:Nu b q ds ρ=r):Vn f b q ρ=r:=by delta Vn;rw[h];exact e
def a8k(h:f ρ=ψ (.int (m:δ)))(hm:m<=100000):Eu f ρ=ψ (Db m):=by delta Eu;rw[h];show(if -1000<=p8!/\p8!<=100000 then ψ (Db (p8!).toNat)else υ)=_;rw[aJ!];rfl
def b2p(h:(Db m)[j]?=ψ d):j<m/\d=.int (j:δ):=by delta Db at h;rw[OE]at h;let#[i,hi,rfl]:=MQ.mp h;let#[au,he]:=NE.mp hi;rw[QM]at au;rw[WV]at he;subst he;exact#[au,χ]
def FD(c:δ)(l:d_):Prop:=l≠[]/\ah!<=c/\∀z∈l,Jb z
def FD.add(h:FD c l)(hx:Jb x):FD (c+1) (l++[x]):=#[Q_,by rw[NR];exact VP h.2.1,λz hz=>(ND.mp hz).elim (h.2.2 z) λy=>by rw[NI.mp y];exact hx]
def b7z(h:hV_)(hl:hW!):∃ss,Mo [k6!]=yJ_ ss/\ss≠[]/\∀x∈ss,Jb x:=by
 let#[ρ',e,bo,x,y,rfl,f0,_,hf]:=vP (bnd:=Bw 2) (q:=Hx vE_ vG! El)
  (λi ρ=>∃bo x y,ρ=[b0_,Ax_,x,y]/\FD (2+16*i) bo) ops 0 [b0_,yJ_ [.non,.tup [.int 9,.int 9,.int 3]],υ,υ] #[_,_,_,χ,FD.add (l:=[.non]) #[Q_,NC _,λz hz=>by rw[NI.mp hz];exact .inl χ] (.inr #[9,9,3,χ,F!,F!,F!,F!,F!,F!])] (by
  rintro j d ρ hd ⟨bo,x,y,rfl,hf⟩;let hj:=(NE.mp hd).1;let#[h',n,tm,d',rfl,b1,b2,b3,b4,hdg]:=h d (TD hd);let#[k,r,rfl,hw]:=a6x hdg;cases hk:k==("write":Str)with
  |true=>
   let cu:=QK.mp hk;let#[a,b,s,rfl,s16]:=hw cu;let#[bn,e2,found2,y2,rfl,s9]:=vP (bnd:=Bw 3) (q:=Po 1 vF_) (λi ρ=>∃bo y,ρ=p9_/\FD (2+16*(0+j)+i) bo) (Db F_) 0
    (p9_) #[bo,y,χ,hf] (by
     rintro i d ρ hd ⟨bo,y,rfl,hf⟩;let#[au,rfl]:=b2p hd;let J:=hf.2.1;exact#[_,_,χ,c4o χ χ bl!,_,_,χ,hf.add (.inr #[_,_,_,χ,b1,b2,b3,b4,p_,p_])])
   let hr:f1 Bv vF! p9_=ψ AB!:=fO (x:=bF_) (show AB_=_ from MO bl!) χ;exact#[_,_,χ,(d0n AC!).trans (b0b (a8k hr a!) e2),found2,_,_,χ,s9.1,?_,s9.2.2];let:=s9.2.1;rw[show(Db s.length).length=s.length from(MV _).trans QM]at this;omega
  |false=>exact#[_,_,χ,d0o AC!,bo,_,_,χ,hf.1,NW hf.2.1 a!,hf.2.2])
 exact#[bo,gE χ (DT! k9_ (Jl_ (b0b χ e) la!)),f0,hf]
abbrev letters:Str:=" abcXYZ.,;!019~[]\\\"'|{}<>@#$&*()-+/=_^:?`"
def sE:qa!=41:=by decide+kernel
def a9o:letters.cps.toList.all Kh=true:=by decide+kernel
def b6m:(dB_).cps=#[]:=by decide+kernel
def zI:(dB_).length=0:=by decide+kernel
def Nk(c:δ):D:=.str H_
def a3w:∀(xs:d_),(∀x∈xs,∃c,x=Nk c/\Kh c=τ)->∃cs:List Nat,xs=cs.map Nk/\cs.all Kh=τ
 |[],_=>AD!
 |x::xs,h=>by
  let#[c,rfl,hc]:=h x ML;let#[cs,rfl,qf]:=a3w xs λy hy=>h y cG!
  exact#[c::cs,χ,by simp![SW,hc,qf,Bool.and_self]]
def qG:∀(cs:g_),Li la_=ψ hZ_
 |[]=>rfl
 |c::cs=>by simp![MU,Nk,Li];rw[show List.map Nk cs=List.map Nk cs from χ,qG cs];rfl
def a6m:∀(cs:g_) (σ:qa_),F5! hZ_ dB_=σ++cs.toArray
 |[],σ=>by rfl
 |c::cs,σ=>by
  rw[MU,SO,a6m cs,b6m];simp
def c1x(cs:g_):Txt.join dB_ hZ_=qb!:=by
 delta Txt.join Builtin.Str.glued;cases cs with
 |nil=>rfl
 |cons c cs=>
  show"#D";rw[a6m];simp
def a0b:∀(cs:g_),((hZ_).map (·.length)).sum=aQ!
 |[]=>rfl
 |c::cs=>by
  let ih:=a0b cs;simp![MU,WU,NH];rw[ih];show 1+aQ!=_;omega
def c5e(Y:1<=most)(h16:most<=40):∃s,Oz [ap_,.int most]=ψ aI_/\Ug s=τ/\1<=F_/\(F_:Int)<=most:=by
 let hm0:0<=n%most:=SQ _ a!;let hm1:n%most<most:=RU _ a!;obtain⟨N,hN⟩:∃N:Nat,(N:Int)=1+n%most:=#[(1+n%most).toNat,p_];let hN1:1<=N:=by omega
 let hN2:N<=40:=by omega
 let#[ys,e,l,hr]:=wO (ρ:=AE_) (bnd:=Ar 0) (ft:=AG_) (fe:=f2 Ai C! vG_)
  (λy=>∃c,y=Nk c/\Kh c=τ) fT_ (by
   intro d hd;delta Db at hd;let#[i,hi,rfl]:=NB.mp hd;let f8:=RY.mp hi;let z1:(0:Int)<1+3*(i:Int):=by omega
   let z2:1+3*(i:Int)<1073741824:=by omega
   let ar:qa!<=big:=by rw[sE];decide
   let bi:((AG!:δ):Int)=41:=by
    let:AG!=41:=by rw[<-sE];rfl
    omega
   let#[c,ec,hc]:=a3i (xs:=letters.cps.toList) (i:=n / (1+3*(i:Int))%41) (SQ _ a_) (by rw[bi];exact RU _ a_);let hix:Ai qc! (.int (n / (1+3*(i:Int))%41))=ψ (Nk c):=by
    show(if qa!<=big then(Et letters.cps.toList _).map _ else υ)=_;rw[MO ar,ec];rfl
   exact Il! #[Nk c,?_,c,χ,SJ.mp a9o c hc];exact aS χ (Fp_ aS (aS χ An! (MO (Bool.and_eq_true_iff.mpr #[NG z1,NG z2])))) hix)
 let l2:=sL e;let#[cs,rfl,qf]:=a3w ys hr;let cg:aQ!=N:=by simpa[Db]using l2
 let hc:Hj_ 1 qc_=yJ_ la_:=by
  let hi:Eu of_ qc_=ψ fT_:=by
   exact a8k ((KV! (Jc_ (jU a!))).trans (by rw[hN])) a!
  delta Ce;rw[hi];show(Bf! fT_ (Cc _ _ _ AE_ fT_))=_;rw[MO (by simp[Db,big];omega),e];rfl
 let hj:Hm g6_ (.lst la_)=E7_ qb!:=by
  delta Hm;simp![qG,PK,a0b,MV,zI,Nat.mul_zero,Nat.add_zero,c1x];rw[cn!]
 exact#[qb!,?_,?_,?_,?_]
 .exact IK! (Jl_ (eW χ) (jJ ?_));delta Nv;show((Ce 1 [0,2] _ _ _ _ qc_).bind λy=>Hm g6_ y)=_;rw[hc];exact hj
 .simp only[Ug,Str.length,MX,qf,WZ,NT];omega
 .simp only[Str.length,MX];omega
 .simp only[Str.length,MX];omega
def LY:Ae->ι Fl:=vI_
def LX:Ae->ι Fl:=vJ!
def LW:Ae->ι Fl:=vK!
def LV:Ae->ι Fl:=vL_
def KW:Ae->ι Fl:=vM!
def LU:Ae->ι Fl:=vM_
def LS:Ae->ι Fl:=vO!
def LR:Ae->ι Fl:=vP_
def LQ:Ae->ι Fl:=vR!
def LP:Ae->ι Fl:=vS_
def GP:Ae->ι Fl:=vT_
def GO:Ae->ι Fl:=vW!
def EL:Ae->ι Fl:=vZ!
def BL:Ae->ι Fl:=v3!
nonrec def dq14:Ae->ι Fl:=v6!
nonrec def dq15:Ae->ι Fl:=v7!
def HY:Ae->ι Fl:=(sSeq LR (sSeq LQ (sSeq LP (sSeq GP AJ!))))
def b4m:Oy=(sSeq LY (sSeq LX (sSeq LW (sSeq LV (sSeq KW (sSeq LU (sSeq LS HY))))))):=χ
abbrev kinds:μ D:=[k1_,k1_,k1_,p2_,p2_,dA!,dA!,.str "cut",k3_,hT_,k4!,.str "drop"]
def KindOk(k:Str):Prop:=k="put"\/k="move"\/k="write"\/k="cut"\/k="set"\/k="undo"\/k="redo"\/k="drop"
def a7g(h:x∈Es xs lo hi):x∈xs:=List.mem_of_mem_drop (List.mem_of_mem_take h)
def Uf:D->D
 |.str _=>.non
 |d=>d
def a6b(h:Bu d\/d=.non):(Xz "str" d=ψ τ/\Uf d=.non)\/(Xz "str" d=ψ θ/\Uf d=d/\Kn d):=by
 rcases h with(rfl|rfl|⟨a,b,rfl,h⟩)|rfl
 .exact .inl ae!
 .exact .inl ae!
 .exact .inr #[χ,χ,.inr #[a,b,χ,h]]
 .exact .inr (H4! cv!)
def d4h(ns:r_)(h:hV_)(hl:hW!):∃m0 its item jw k,0<=m0/\its≠[]/\(∀x∈its,Bu x)/\Bu item/\Kn jw/\KindOk k/\
  Oy AK_=HY qd_:=by
 let#[m0,e0,p0,_]:=iI ns (k:=base);let#[m1,e1,_,_]:=iI ns (k:=base+1);let#[m2,e2,_,_]:=iI ns (k:=base+2);let#[its,ei,i3,i200,pe]:=c2b h hl;let wk:its≠[]:=by intro z;subst z;simp at i3
 let rl:AL_≠[]:=by
  intro z;let z2:=JI! z;simp[Es,HT.sIx]at z2;omega
 let cg:(AM!).length+(AM_).length<=big:=by
  simp[Es,HT.sIx,big];omega
 let#[item,ep,mp]:=nF (n:=m1) rl;let ph:Bu item:=by
  obtain z|z:=ND.mp mp
  .exact pe _ (a7g z)
  .exact pe _ (a7g z)
 let a1:An (.lst AM!) (.lst AM_)=yJ_ AL_:=by
  show h1!;rw[MO cg]
 let a2:An p7_ (.lst jO_)=yJ_ (its++jO_):=by
  show(IK_ gT! 2)=_;rw[cn!]
 let#[b9,eo,mo]:=nF (n:=m2) (xs:=its++jO_) b!;let uz:Bu b9\/b9=.non:=by
  obtain z|z:=ND.mp mo
  .exact .inl (pe _ z)
  .simp at z;exact .inr z
 let jh:Kn (Uf b9):=by
  obtain⟨_,z⟩|⟨_,z,y⟩:=a6b uz
  .rw[z];exact .inl χ
  .rw[z];exact y
 let#[kd,ek,mk]:=a3i (xs:=kinds) (i:=m0%12) (SQ _ a_) (by show _<(12:Int);exact RU _ a_);obtain⟨k,rfl,hk⟩:∃k,kd=.str k/\KindOk k:=by
  simp[kinds]at mk;delta KindOk;obtain rfl|rfl|rfl|rfl|rfl|rfl|rfl|rfl:=mk<;>exact Hp! Q_
 let ek':Ai (.lst kinds) (.int (m0%12))=ψ G!:=ek;exact#[m0,its,item,Uf b9,k,p0,wk,pe,ph,jh,hk,?_];let e4:KW (Je_ b9)=DQ! (Je_ (Uf b9)):=by
  obtain⟨z1,z2⟩|⟨z1,z2,_⟩:=a6b uz
  .rw[z2];exact d0n AO!
  .rw[z2];exact d0o AO!
 rw[b4m];exact(KA! (Fp_ wZ e0)).trans ((KA! (Fg! ei)).trans ((KA! (wZ ep (Jc_ a1) (wZ e1 χ fR!))).trans ((KA! (wZ eo (Jc_ a2) (wZ e2 χ fR!))).trans ((bH e4).trans ((bH (eW χ)).trans (KA! (aS χ (Jc_ fR_) ek')))))))
section
variable{ρ:Ae}
def b6h(h:pW!):IJ_ b=a ρ:=by delta Hx;rw[h];rfl
def iL(h:pV!):IJ_ El=ψ ad!:=by delta Hx;rw[h];rfl
def pZ(h:Aa i ρ=ψ G!)(e:(k==s)=b):fT (f2 At eP_ k5_) ρ=ψ b:=by delta fT f2 fC;rw[h];show(At G! aI_).bind _=_;rw[dG,e];rfl
def oA(h:hR_)(hl:AP!):Bi (Bg fs) ρ=E2! bQ_:=by delta Bi Bg;rw[h];show J1! _ AP_=_;rw[AQ!];rfl
def a5l(h:Aa 0 ρ=ψ (scr ns))(g:Aa 1 ρ=C2_ base)(e:Bn [fQ!,.int (base+j)]=ψ dw!):I3_ (f2 An r! (fC a5_)) ρ=ψ dw!:=
 lY (J0_ h (Fp_ aS g)) e
def b9e(a:f ρ=ψ N_)(b:h ρ=ψ dw!)(e:Dj [.lst xs,en!]=ψ p):f1 Dj (C4! f h) ρ=ψ p:=
 lY (J0_ a b) e
end
def CS(d:D):Prop:=(∀a b s,d=.tup Ap!->F_<=5)/\∀b,d≠.tup [hT_,.tup lh_]/\d≠.tup [k4!,.tup lh_]
def a3v{k:Str}(Y:li!)(h2:k≠"undo")(h3:k≠"redo"):CS cT_:=by
 exact AR!<;>(simp![D.tup.injEq,PR,D.str.injEq]at e)
 .exact FH_ Y
 .exact FH_ h2
 .exact FH_ h3
def c9v{k:Str}(Y:li!)(h:∀b,d≠.tup lh_):CS (.tup [b2!,d]):=by
 exact AR!<;>(simp![D.tup.injEq,PR,D.str.injEq,and_true]at e)
 .exact FH_ Y
 .exact h b e.2
 .exact h b e.2
def d5o(h:F_<=5):CS dA_:=by
 exact#[λa' b' s' e=>?_,λc=>AQ_]<;>(simp![D.tup.injEq,PR,D.str.injEq,and_true]at e)
 .rw[<-e.2.2.2];exact h
 .exact FH_ c_
 .exact FH_ c_
def c8v(ns:r_)(h:hV_)(h6:∀o∈ops,∀n tm d,o≠.tup [.int 6,n,tm,d])(hl:hW!)(hm1:1<=most)(hm5:most<=5):∃d,Jj AR_=ψ d/\DG d/\CS d:=by
 let#[m0,its,item,jw,k,p0,wk,pe,ph,uz,hk,hA]:=d4h ns (base:=base) (most:=most) h hl;let fin:∀d,HY qd_=ψ af_->Jj AR_=ψ d:=λd e=>by
  delta Jj Di;rw[fi_];show(match Oy AK_ with|some (.rt d)=>ψ d|some (.nx _)=>ψ .non|none=>υ)=_;rw[hA,e]
 clear hA;let#[m1,e1,_,_]:=iI ns (k:=base+1);let#[m3,e3,_,_]:=iI ns (k:=base+3);let#[m4,e4,_,_]:=iI ns (k:=base+4);let#[m5,e5,_,_]:=iI ns (k:=base+5);let#[p1,ul,mp1]:=nF (n:=m1) wk;let#[p3,ep3,mp3]:=nF (n:=m3) wk;let#[ss,es,zm,hss]:=b7z h hl;let#[sg,eg,mg]:=nF (n:=m4) zm;let hsg:=hss _ mg;let#[tx,et,ht1,ht0,zn]:=c5e (n:=m5) hm1 a!;let u0:∀{k:Str},GP qd_=DQ! qf_:=
  eW (lY (J0_ (lY et! es) (Dd_ a5l e4)) eg)
 let hset:∀{k:Str},AS!=τ->BL qf_=E2! qg_:=λ{k} e=>
  (b6h (Ib_ e)).trans (FA_ oA)
 let uset:DG qg_/\CS qg_:=#[.set ph a! a! a!,h1_];obtain⟨nm,nn,n6,hun⟩:∃nm,NameG nm/\(∀b,nm≠.tup [.int 6,b])/\∀{k:Str},("put"==k)=θ->sSeq dq14 dq15 [ψ (scr ns),ψ (.int base),ψ (.lst ops),ψ (.int most),ψ (.int m0),ψ (.lst its),ψ item,ψ jw,ψ (.lst kinds),ψ (.str k),ψ sg,υ]=E2! (.tup [.str k,nm]):=by
  let#[ys,e,l,hr]:=wO (ρ:=bn_) (bnd:=Ar 0) (ft:=AG_) (fe:=Bg g5!)
   (λy=>NameG y/\∀b,y≠.tup lh_) ops (by
    intro o ho;let#[h',n,tm,d,rfl,b1,b2,b3,b4,_]:=h o ho;exact Il! #[_,χ,Au!,λb e=>by simp![D.tup.injEq,PR,D.int.injEq]at e;exact h6 _ ho dT_ (.int tm) d (by rw[e.1])])
  let a1:An bu_ (.lst qh!)=yJ_ (ys++qh!):=by
   show(IK_ X_ 1)=_;rw[cn!]
  let#[nm,en,mn]:=nF (n:=m1) (xs:=ys++qh!) b!;exact#[nm,?_,?_,λ{k} _=>(KA! (aS ?_ χ a1)).trans (oA (Hk_ (b9e χ AV! en)) χ)]
  .obtain z|z:=ND.mp mn
   .exact(hr _ z).1
   .simp at z;subst z;exact#[_,_,χ,F!,F!,p_,p_]
  .obtain z|z:=ND.mp mn
   .exact(hr _ z).2
   .simp at z;subst z;intro b e;simp at e
  .show Av_;rw[cn!,e];rfl
 let wm:∀{k:Str},("put"==k)=θ->(k=="write")=θ->(k=="cut")=θ->AS!=θ->(AJ!) qf_=E2! (.tup [b2!,nm]):=λ{k} e0 w c s=>
  (bH (iL (pZ χ w))).trans ((bH (iL (by delta Fy;rw[pZ χ c];rfl))).trans (Jl_ (iL (Ib_ s)) (hun e0)))
 delta KindOk at hk;obtain rfl|rfl|rfl|rfl|rfl|rfl|rfl|rfl:=hk
 .exact#[_,fin _ (nZ (DT! lk! (oA (KF_ (b9e χ AV! ul)) χ))),.put (pe _ mp1) uz,h1_]
 .exact#[_,fin _ ((aC!).trans (Jj! (cB (b9e χ (Dd_ a5l e3) ep3) χ))),.move ph (pe _ mp3) uz,h1_]
 all_goals first|(exact#[_,fin _ ((aC!).trans ((aC!).trans (nZ (DT! lk! (oA χ χ))))),.drop ph,h1_];done)|skip
 .exact⟨_,fin _ ((aC!).trans ((aC!).trans ((aC!).trans ((ll_).trans
   (Jj! (KF_ (lY (cB (Dd_ a5l e5) χ) et))))))),.write ph hsg ht1 ht0 a!,d5o a!⟩
 .let go:HY [bH!,cp!,b0_,dC_,fU_,fV!,fV_,le!,le_,ψ df!,υ,υ]=sSeq EL AI_ [bH!,cp!,b0_,dC_,fU_,fV!,fV_,le!,le_,ψ df!,ψ sg,υ]:=Du_ aC!;obtain rfl|⟨a,b,c,rfl,Y,h2,h3,h4,c0,c15⟩:=hsg
  .exact#[_,fin _ (go.trans (Jl_ (iL A0!) (nZ (hset χ)))),uset]
  .let hc:0<16 - c:=by omega
   let q1:0<=m0 / 12%(16 - c):=SQ _ a!;let q2:m0 / 12%(16 - c)<16 - c:=RU _ hc;exact#[_,fin _ (go.trans (nZ ((b6h A0!).trans (oA (cB χ (cB χ (KF_ (KV! (Jc_ (jU hc)))))) χ)))),.cut ph #[a,b,c,χ,Y,h2,h3,h4,c0,c15] a! a!,h1_]
 .exact#[_,fin _ (Du_ ((aC!).trans (Jl_ (iL (by delta Fy;rw[pZ (b:=θ) χ c_];rfl)) (nZ (hset c_))))),uset]
 .exact#[_,A1_,.undo nn,c9v c_ n6]
 .exact#[_,A1_,.redo nn,c9v c_ n6]
def gD(h:Bu d):Do d=true:=by obtain rfl|rfl|⟨a,b,rfl,_⟩:=h<;>simp[Do,Ew]
def yC(h:Kn d):Do d=true:=by obtain rfl|⟨a,b,rfl,_⟩:=h<;>simp[Do,Ew]
def vH(h:NameG d):Do d=true:=by let#[a,b,rfl,_]:=h;simp[Do,Ew]
def a8f(h:Jb d):Do d=true:=by obtain rfl|⟨a,b,c,rfl,_⟩:=h<;>simp[Do,Ew]
def b0i(h:DG d):Do d=true:=by
 cases h with
 |put Y h2=>simp[Do,Ew,gD Y,yC h2]
 |move Y h2 h3=>simp[Do,Ew,gD Y,gD h2,yC h3]
 |drop Y=>simp[Do,Ew,gD Y]
 |write Y h2=>simp[Do,Ew,gD Y,a8f h2]
 |cut Y=>simp[Do,Ew,gD Y]
 |set Y=>simp[Do,Ew,gD Y]
 |undo Y=>simp[Do,Ew,vH Y]
 |redo Y=>simp[Do,Ew,vH Y]
abbrev Tf:Ae->ι Fl:=(sSeq wb_
 (sSeq wc!
 (sSeq wc_
 (sSeq wd!
 (sSeq we!
 wg!)))))
inductive Tc(W:OW)(n:D):D->OW->Prop
 |put {a b:D} {am:q!}:Bu a->Kn b->JN! n->IL! hS! fA_
 |mvY {a b c:D} {am:q!}:Bu a->Bu b->Kn c->A2_->En! Qt a b c am->IL! hS_ {W with rows:=am}
 |mvN {a b c:D}:Bu a->Bu b->Kn c->¬A2_->IL! hS_ W
 |drY {a:D} {am:q!}:Bu a->A3!->En! Qt a binn .non am->IL! hT! {W with rows:=am}
 |drN {a:D}:Bu a->¬A3!->IL! hT! W
 |wrt {a b:D} {s:Str} {h m:Int}:Bu a->Jb b->F_<=16->n=.tup cp_->IL! dA_ (HC! setT A3_)
 |cut {a:D} {x y z m:Int}:Bu a->0<=z->1<=m->z+m<=16->Tc W n (.tup [.str "cut",a,.tup [.int x,.int y,.int z],.int m]) (if a∈W.its then setT W a (cutT ((List.range m.toNat).map λk=>.tup kK!) a6!)else W)
 |set {a:D} {p v:Int}:Bu a->0<=p->p<=3->IL! ln_ (HC! AO qm!)
def cX(h:Bu x):∃k,Ck x=ψ k:=by
 obtain rfl|rfl|⟨a,b,rfl,_⟩:=h
 .exact D_
 .exact D_
 .exact D_
def uH(h:Kn x):∃k,Ck x=ψ k:=by
 obtain rfl|⟨a,b,rfl,_⟩:=h
 .exact D_
 .exact D_
def b4f(h:Jb x):∃k,Ck x=ψ k:=by
 obtain rfl|⟨a,b,c,rfl,_⟩:=h
 .exact D_
 .exact D_
structure Vc(W:OW)(pre:d_):Prop where
 inv:Bt W
 its:∀x∈W.its,x∈pre
 sgs:∀x∈W.its,∀q∈W.txt x,∃h n k,q.1=.tup A4!/\D.tup bF!∈pre
 chr:∀x∈W.its,∀q∈W.txt x,∃c:Nat,q.2.1=.str H_
section
variable{t:Bb}{M:Mh}{o:sw!}{O:Addr->Prop}{W W':OW}{B:Nat}{R:D->Mh->Prop}{pre:List D}
def oY{s:Str}(hq:q∈Ef_ en_):∃c k:Nat,q=(.tup qm_,.str H_,τ):=by let#[#[c,k],_,rfl]:=NB.mp hq;exact#[c,k,χ]
def b1h(h n:Int):∀(cs:g_) (k0:δ),((Dc_ A5!)).Nodup/\∀k:Nat,k<k0->D.tup qm_∉Dc_ A5!
 |[],k0=>by simp
 |c::cs,k0=>by
  let#[Y,h2]:=b1h h n cs (k0+1);exact#[NO.mpr #[h2 k0 a!,Y],λk hk z=>?_];obtain z|z:=MM.mp z
  .simp[sgn]at z;omega
  .exact h2 k a! z
def b7x{h m:Int}(hs:Hl! lo!)(w:fY_)(hn:A5_):Vc W' A6!:=by
 let keep:∀{V:OW},V.its=W.its->V.txt=W.txt->Bt V->Vc V A6!:=λ{V} e1 e2 wi=>by
  exact#[wi,aA!,lo_,lo_]
  .rw[e1]at hx;exact NM _ (w.its x hx)
  .rw[e1]at hx;rw[e2]at hq;let#[a,b,c,e,hm]:=IL_ w.sgs;exact#[a,b,c,e,NM _ hm]
  .rw[e1]at hx;rw[e2]at hq;exact IL_ w.chr
 cases hs with
 |put y1 y2 hg=>
  rename_i a b am;let ni:D.tup cp_∉W.its:=λz=>hn (w.its _ z);let hp:Gy W fN!:=by split;assumption;exact .inr cE_
  let im:∀x,x∈(Iu W lo! am).its↔x∈W.its\/x=.tup cp_:=λx=>by simp[Iu]
  let tx:∀x,(Iu W lo! am).txt x=if x=.tup cp_ then[]else W.txt x:=λx=>χ
  exact#[hg.winv_put w.inv ni (Hu_ _) hp,aA!,lo_,lo_]
  .obtain z|rfl:=(im x).mp hx
   .exact NM _ (w.its x z)
   .simp
  .rw[tx]at hq;by_cases e:x=.tup cp_
   .rw[MO e]at hq;exact(hx!).elim
   .rw[MZ e]at hq;let#[a,b,c,e',hm]:=w.sgs x A7! q hq;exact#[a,b,c,e',NM _ hm]
  .rw[tx]at hq;by_cases e:x=.tup cp_
   .rw[MO e]at hq;exact(hx!).elim
   .rw[MZ e]at hq;exact w.chr x A7! q hq
 |mvY _ _ _ hc hg=>exact Ka_ A7_
 |mvN _ _ _ hc=>exact Ka_ w.inv
 |drY _ hc hg=>exact Ka_ A7_
 |drN _ hc=>exact Ka_ w.inv
 |wrt y1 y2 y3 e=>
  rename_i a b s h' m';cases e;by_cases c:a∈W.its
  .rw[MO c];let#[U,v,e1,e2,e3]:=IM! qD;let mem:∀q,q∈IM! wrT↔q∈W.txt a\/q∈s.cps.toList.zipIdx.map lm_:=λq=>by
    rw[e2,e1];simp![ND];constructor<;>(intro z;rcases z with(z|z)|z<;>simp[z])
   let fresh:∀x∈W.its,∀q∈W.txt x,∀k:Int,q.1≠.tup [aI!,en!,fM!]:=λx hx q hq k z=>by
    show"!^";rw[e']at z;cases z;exact hn hm
   let tx:∀x,(A8!).txt x=if x=a then IM! wrT else W.txt x:=λx=>χ
   let all:∀(P:fI!),(∀x∈W.its,∀q∈W.txt x,P q)->(∀q∈s.cps.toList.zipIdx.map lm_,P q)->∀x∈W.its,∀q∈(A8!).txt x,P q:=λP Y h2 x hx q hq=>by
    rw[tx]at hq;by_cases e:x=a
    .rw[MO e]at hq;obtain z|z:=(mem q).mp hq
     .exact Y a c q z
     .exact h2 q z
    .rw[MZ e]at hq;exact IL_ Y
   exact#[qJ w.inv c ?_ em! pv!,λx hx=>NM _ (w.its x hx),all _ (λx hx q hq=>?_) em!,all _ w.chr em!]
   .rw[e2];let nd:=w.inv.snd a c;rw[e1]at nd;let#[n1,_]:=b1h h m s.cps.toList 0;let dj:∀q∈W.txt a,∀q'∈s.cps.toList.zipIdx.map lm_,q.1≠q'.1:=λq hq q' bh=>by
     let#[c',k',rfl]:=oY bh;exact fresh a c q hq _
    simp![NV]at nd ⊢;rw[OL]at nd;rw[OL,OL];exact#[#[nd.1,n1,km!],nd.2.1,km!]
    .let#[q,hq,rfl]:=NB.mp hx;let#[q',bh,rfl]:=NB.mp hy;exact Gf_ NM
    .obtain hx|hx:=ND.mp hx
     .exact nd.2.2 x hx y hy
     .let#[q',bh,rfl]:=NB.mp hx;let#[q,hq,rfl]:=NB.mp hy;exact NY (Gf_ MY)
   .obtain z|z:=(mem q).mp hq
    .exact w.inv.sg a c q z
    .let#[c',k',rfl]:=oY z;exact zw_
   .obtain z|z:=(mem q).mp hq
    .exact(w.inv.su a c y hy q z q' bh e).symm
    .let#[c',k',rfl]:=oY z;exact J0! (fresh y hy q' bh _)
   .show"!^";exact qn!
   .let#[c',k',rfl]:=oY hq;exact#[_,_,_,χ,Q_]
   .let#[c',k',rfl]:=oY hq;exact D_
  .show"#$"
 |cut y1 y2 y3 y4=>
  rename_i a x y z m';by_cases c:a∈W.its
  .rw[MO c];let tx:∀v,(setT W a (cutT A8_ a6!)).txt v=if v=a then cutT A8_ a6! else W.txt v:=λx=>χ
   exact#[b6u w.inv c _,λv hv=>NM _ (w.its v hv),A9!,A9!]
   .rw[tx]at hq;split at hq
    .show"!_";let#[a',b',c',e',hm]:=w.sgs a c q0 h0;exact qn!
    .let#[a',b',c',e',hm]:=w.sgs v hv q hq;exact qn!
   .rw[tx]at hq;split at hq
    .show"!_";exact w.chr a c q0 h0
    .exact w.chr v hv q hq
  .show"#$"
 |set y1 y2 y3=>
  rename_i a p v;by_cases c:a∈W.its
  .rw[MO c];exact Ka_ (b4h w.inv (by rw[RF];exact w.inv.nl a c))
  .show"#$"
end
def c1p:(BI! "put" "put")=true:=by decide+kernel
def a2c:(BI! "move" "move")=true:=by decide+kernel
def a2d:(BI! "drop" "drop")=true:=by decide+kernel
def a5w:(BI! "write" "write")=true:=by decide+kernel
def c1r:(BI! "cut" "cut")=true:=by decide+kernel
def c1o:(BI! "set" "set")=true:=by decide+kernel
section
variable{t:Bb}{M:Mh}{o:sw!}{O:Addr->Prop}{W W':OW}{B:Nat}{R:D->Mh->Prop}{pre:List D}
def ifT{R:l_}(h:Ba_)(k:HK! q1):Dw! (Ca ft):=by simp![As,Ca,h];exact k
def jH{R:l_}(h:A9_)(k:fZ!):Dw! (Ca ft):=by simp![As,Ca,h];exact k
def bG:(Jz! qn_) (G0_ cT_)=ψ lp!:=by
 let e:Ai cT_ U_=ψ G!:=by
  show qo!;show"#/";simp
 simp[fT,f2,Aa,fC,e,dG]
def ix1:Ai qo_ aV!=ψ a:=by show Et (D.str k::a::r) 1=_;delta Et Hv;rw[aJ!,fO_];rfl
def ix2:Ai qp! cA_=ψ b:=by show Et (D.str k::a::b::r) 2=_;delta Et Hv;rw[aJ!,fO_];rfl
def ix3:Ai qp_ aW!=ψ c:=by show Et (D.str k::a::b::c::r) 3=_;delta Et Hv;rw[aJ!,fO_];rfl
def ax1:Ev! C! (G0_ qo_)=ψ a:=ix1
def ax2:Gg! C! (G0_ qp!)=ψ b:=ix2
def ax3:IJ! C! (G0_ qp_)=ψ c:=ix3
def av0:Aa 0 Bb_=ψ ag_:=χ
def av1:Aa 1 Bb_=ψ n:=χ
def iN{R:l_}(k:f ρ M λ_ M1=>R ad! M1):Cd f ρ M R:=k
def vN{fo f1 f2 f3:m_}(h0:fo ρ=ψ d)(Y:fK!)(h2:hN!)(h3:qq!)(ho:lv_)(k:g [d,a,b,c] M R):Az C m 4 g ep! Bc_ ρ M R:=by simp![Az,wl,Ab,Ad,h0,Y,h2,h3];exact pL!
def d6p{fo f1 f2 f3 f4:m_}(h0:fo ρ=ψ d)(Y:fK!)(h2:hN!)(h3:qq!)(h4:f4 ρ=ψ e)(ho:lv_)(k:g [d,a,b,c,e] M R):Az C m 5 g ep! Bd_ ρ M R:=by simp![Az,wl,Ab,Ad,h0,Y,h2,h3,h4];exact pL!
def c6e{h m:Int}(hO:ao_)(w:fY_)(hn:A5_)(hs:Hl! lo!)(hB:hK!)
  (hR:∀M' O',GK_ W' bE_->Dp_ O'->Ed_ M'):Lw t [bm_,.tup cp_,d] M R:=by
 let fresh:∀x∈W.its,∀k':Nat,D.tup [aI!,en!,.int (k':δ)]∉Dc_ bB_:=λx hx k' z=>by
  show"#J";show"!^";rw[e']at e;cases e;exact hn hm
 exact j_;cases hs with
 |put ha J hg=>
  show"!6";let#[kb,l8]:=uH J;exact I7! c1p;exact iN (vN av0 av1 ax1 ax2 dD_ (d1r hO w.inv (λz=>hn (w.its _ z)) (Hu_ _) bq l8 hB hg hR))
 |mvY ha J cb hc hg=>
  show"!P";exact DV_ (tI hO w.inv bq l8 zo hB λM' f1 _ fr=>hR M' O (f1 hc _ hg) fr)
 |mvN ha J cb hc=>
  show"!P";exact DV_ (tI hO w.inv bq l8 zo hB λM' _ f1 fr=>hR M' O (f1 hc) fr)
 |drY ha hc hg=>
  show"##";exact Hl_ (tI hO w.inv bq χ χ hB λM' f1 _ fr=>hR M' O (f1 hc _ hg) fr)
 |drN ha hc=>
  show"##";exact Hl_ (tI hO w.inv bq χ χ hB λM' _ f1 fr=>hR M' O (f1 hc) fr)
 |wrt ha J d8 e=>
  cases e;show"!6";let#[kb,l8]:=b4f J;show"!1";exact I7! a5w;exact iN (d6p av0 av1 ax1 ax2 ax3 dD_ (b7i hO w.inv bq l8 hB d8 fresh λM' f1 _ fr=>hR M' O f1 fr))
 |cut ha b5 Y h2=>
  show"!6";show"!1";exact jH I_ ?_;exact I7! c1r;exact DV_ (d4n hO w.inv bq hB b5 Y h2 λM' f1 fr=>hR M' O f1 fr)
 |set ha Y h2=>
  show"!6";show"!1";exact jH I_ ?_;exact jH I_ ?_;exact I7! c1o;exact DV_ (xB hO w.inv bq Y h2 λM' f1 fr=>hR M' O (f1.mono a!) fr)
def c6f{k:Str}(hk:Bg_)(hR:R .non M):Lw t [bm_,n,.tup [b2!,a]] M R:=by
 exact j_;obtain rfl|rfl:=hk
 .show"!1";show"!1";exact hR
 .show"!1";show"!1";exact hR
end
section
variable{t:Bb}{M:Mh}{o:sw!}{rl:Addr->Td}{W W':OW}{B:Nat}{R:D->Mh->Prop}{pre:List D}
def cO(b:D->Bool)(y:D->D)(dw:ck M):∀(ds:d_) (R:p5_),
  (∀d∈ds,∃al,bnd d ρ=ψ al/\(∀K:Bool->Mh->Prop,K (b d) M->ft al M K)/\(b d=τ->∀K:D->Mh->Prop,K (y d) M->fe al M K))->R ((ds.filter b).map y) M->Ee! ρ ds M R
 |[],R,_,hR=>#[dw,hR]
 |d::ds,R,h,hR=>by
  let#[al,e1,e2,e3]:=h d ML;exact qs!;rw[e1];exact e2 _ ?_;cases J:b d with
  |true=>
   exact e3 J _ (cO b y dw ds _ Bh! ?_);rw[OO J]at hR;exact hR
  |false=>
   exact cO b y dw ds _ Bh! ?_;rw[OP (DS! J)]at hR;exact hR
end
structure Op where
 h:Int
 n:Int
 tm:Int
 d:D
nonrec def Op.v(o:Op):D:=.tup lq_
nonrec def Op.nm(o:Op):D:=.tup lr_
nonrec def Op.key(o:Op):Int×Int:=(o.tm,o.h)
def Cu:D->Da_ ck!
 |.tup [.str k,a]=>if qt! then ψ (k,a)else υ
 |_=>υ
def qF(k:Str)(a:D):Cu (.tup [b2!,a])=if qt! then ψ (k,a)else none:=χ
def lQ(h:DG d):(∃k a,d=.tup [b2!,a]/\Bi_/\NameG a/\Cu d=ψ (k,a))\/(∃k r,d=.tup bG!/\dE!=θ/\(k=="redo")=θ/\Cu d=υ):=by
 cases h with
 |put Y h2=>exact .inr h4!
 |move Y h2 h3=>exact .inr h4!
 |drop Y=>
  exact .inr #[_,_,χ,c_,c_,?_];rfl
 |write Y h2 h3 h4 h5=>exact .inr h4!
 |cut Y h2 h3 h4=>exact .inr h4!
 |set Y h2 h3 h4=>exact .inr h4!
 |undo Y=>
  exact .inl #[_,_,χ,cv!,Y,?_];rfl
 |redo Y=>
  exact .inl #[_,_,χ,.inr χ,Y,?_];rfl
def a2f(o:Op):Df dE_=ψ Bk!:=by rfl
def vY:∀ops:List Op,Lu Df h4_=ψ qt_
 |[]=>rfl
 |o::r=>by
  rw[MU];delta Lu;rw[a2f,vY r];rfl
def d6y(o:Op):Iv Df o.v=o.key:=by delta Iv;rw[a2f];rfl
def a6h{k:α->Int×Int}(h:Bl!)(x:α):∀l:List α,Qd k' (f x) ii_=(Qd k x l).map f
 |[]=>rfl
 |y::r=>by
  simp![MU,Qd,h];split
  .rfl
  .rw[a6h h x r];rfl
def a3y{k:α->Int×Int}(h:Bl!):∀l:List α,Oi k' ii_=(Oi k l).map f
 |[]=>rfl
 |x::r=>by rw[MU];delta Oi;rw[a3y h r,a6h h]
abbrev srt(ops:k_):μ Op:=HP! Oi ops
def mW(nd:et_)(hl:eu!):Cy cq!=yJ_ h5_:=by
 let e:DJ Df h4_=ψ h5_:=by
  delta DJ;rw[vY];show(if(qt_).Nodup/\(h4_).length<64 then ψ _ else υ)=_;rw[MO #[nd,by simpa using hl],a3y d6y]
 simp[Cy,Pv,Di,Bi,Wc,Aa,e]
def rX(h:a.Perm b)(nd:Bm!):srt a=srt b:=
 oX (mD nd) (mD ((h.map _).nodup_iff.mp nd)) ((cF a).trans (h.trans (cF b).symm))
def a3x(nd:Bm!):srt (srt a)=srt a:=rX (cF a) (((cF a).map _).nodup_iff.mpr nd)
def b7p{o:Op}(h:h6!):Ao dE_=ψ ls_:=by
 let e3:FQ_ aW!=ψ o.d:=by
  rfl
 let main:∀(k:Str) (r:d_),o.d=.tup bG!->Ao dE_=C4_ qt!:=λk r e=>by
  let e0:Ai cT_ U_=ψ G!:=by
   show qo!;show"#/";simp
  let e1:∀s:Str,f2 At gN! k5_ [T_]=C4_ (k==s):=λs=>by
   show(qu_).bind Bn_=_;rw[e3,e];show((Ai cT_ U_)).bind Bn_=_;rw[e0];exact dG k s
  show(match Bi (Ms _ _) [T_]with|some (.rt d)=>ψ d|some (.nx _)=>ψ .non|none=>υ)=_;delta Bi Ms fT;rw[e1,e1];cases (k==Str.ofString "undo")<;>rfl
 obtain⟨k,a,e,hk,_,hu⟩|⟨k,r,e,Y,h2,hu⟩:=lQ h
 .rw[main k [a] e,hu];obtain rfl|rfl:=hk
  .rw[qv!];rfl
  .rw[Bp!,(show(BI! "redo" "undo")=θ by decide+kernel)];rfl
 .rw[main k r e,hu,Y,h2];rfl
def My(f:Str->D):μ Op->μ aj!->μ aj!
 |[],σ=>σ
 |o::os,σ=>match Cu o.d with
  |some (k,a)=>My f os (Bp σ a (f k))
  |none=>My f os σ
def oW:∀(os:k_) (A B:q!),(∀x,(Fg_ A B)\/∃k:Str,kget A x=ψ G!/\kget B x=ψ f0!)->
  ∀x,(Fg_ Bq! (My h6_ os B))\/∃k:Str,Fy_ Bq!=ψ G!/\Fy_ (My h6_ os B)=ψ f0!
 |[],A,B,h=>h
 |o::os,A,B,h=>by
  delta My;cases e:Cu o.d with
  |none=>exact oW os A B h
  |some q=>
   let#[k,a]:=q;exact oW os _ _ λx=>?_;by_cases c:a=x
   .subst c;rw[jO,jO];exact .inr #[k,χ,χ]
   .rw[nX c,nX c];exact h x
section
variable{t:Bb}{M:Mh}{R:D->Mh->Prop}
def kE(h:cm!)(hk:bn!)(hl:es!):Ju M A_ y v=ψ h5!:=by simp[Ju,h,hk,hl]
def rA(h:lt!):∃k,Ck x=ψ k:=by let#[a,b,rfl,_]:=h;exact D_
def d7l:Aa 1 qv_=ψ A_:=χ
def a1j:∀(os:k_) (x1:D) (y:Z_) (σ:q!) (ep:δ) (M:Mh) (R:l_),qw!->cU_+bp!<1000->M p=ψ qw_->
  (∀M' bv y',M' p=C3_ Bq_ bv->lt_->R Br! M')->
  Fw cb_ P! uE_ ah_ qv_ M R
 |[],x1,y,σ,ep,M,R,_,_,hp,hR=>Br_
 |o::os,x1,y,σ,ep,M,R,hd,hl,hp,hR=>by
  exact av_;show IM_ (Ca _) b3_;let ho:=hd o ML;let et:fT (Hj! Ao) b3_=ψ (Cu o.d).isSome:=by
   let e:Hj! Ao b3_=ψ ls_:=b7p ho;delta fT;rw[e];rfl
  dsimp only[List.length_cons]at hl;let e3:FQ_ aW!=ψ o.d:=by rfl
  obtain⟨k,a,e,hk,g9,hu⟩|⟨k,r,e,Y,h2,hu⟩:=lQ ho
  .rw[hu]at et;exact ifT et ?_;let#[ka,ll]:=rA g9;let i0:Eg! bv_ b3_=ψ G!:=by
    show qu_=_;rw[e3,e];show Et [D.str k,a] 0=_;rfl
   let i1:Ev! bv_ b3_=ψ a:=by
    show Bs!;rw[e3,e];show Et [D.str k,a] 1=_;rfl
   let ez:Ju M A_ a G!=ψ Bs_:=by
    exact kE hp ll bl!
   let:=a1j os x1 b4! (Bp σ a G!) (Ia σ a ep) Bs_ R h7! (by let:=kput_len σ a G!;omega) mup_same (λM' bv y' Y h2=>hR M' bv y' Bt! λb J=>GP_ b);simp![Bx,wl,i0,i1,d7l,ez,Dm];exact this
  .rw[hu]at et;exact jH et ?_;exact Gg_ a1j
def a2r(h:f ρ=ψ bR!):Cs f ρ=ψ ds:=by delta Cs;rw[h];rfl
def xK(nd:et_)(hl:eu!)(hd:h7_)
  (hR:∀p M' ep,M p=υ->M' p=JZ_ h8!->lt_->R A_ M'):Fp cq! M R:=by
 exact j_;intro p hp;let hi:Cs jo_ qx_=ψ h5_:=a2r (mW nd hl);let bz:HP_ a6_:=cF ops;let:=Kl_ a1j (EB! p!);show Ag (Cn (Gu _) _ _) _ qx_ _ _;simp![Ag,Cn,Gu,hi,Dm];exact this
def t2(ha:∀K':D->Mh->Prop,K' d M->fa ρ M K')(J:fb ρ=ψ v)(hg:g d v=ψ al_)(k:K b M):wT (w2 (λ_=>g) fa (wl fb)) ρ M K:=by exact ha _ ?_;simp![wl,J,hg];exact k
def Undn(wd:q!)(o:Op):Prop:=Cu o.d=υ/\Hm! wd=ψ bf_
def yA(o:Op):Ia_ o.v (ψ 2)=ψ o.nm:=by rfl
def a9f(o:Op):∃k,Ck o.nm=ψ k:=D_
def b1b(rn:p≠q):∀(os:k_) (x1:D) (y z:Z_) (σ:q!) (ep:δ) (M:Mh) (R:l_),qw!->cU_+bp!<1000->M p=C3_ wd e0->M q=ψ qw_->(FC! wd)->
  (∀M' bv y' z' fg,M' q=C3_ fg bv->(Ic! (kget σ x≠υ\/∃o∈os,o.nm=x/\Undn wd o))->Bv_->Kf_ bo_)->
  Fw as_ P! jt! ah_ [aJ_,bo_,cr_,y,z] M R
 |[],x1,y,z,σ,ep,M,R,_,_,hp,hq,l9,hR=>#[ο,hR M ep y z σ hq Bw! λb _=>χ]
 |o::os,x1,y,z,σ,ep,M,R,hd,hl,hp,hq,l9,hR=>by
  exact av_;show F0! (Am 4 _) [aJ_,bo_,cr_,T_,z];let ho:=hd o ML;dsimp only[List.length_cons]at hl;let es:=yA o;dsimp only[Ag,Am,wl,es];show IM_ _ dF!;let et:Ea uF_ dF!=ψ (!(Cu o.d).isSome):=by
   let e:f1 Ao jq! dF!=ψ ls_:=b7p ho;delta Ea fT;rw[e];rfl
  let#[kn,gr]:=a9f o;let next:∀(c:ν),(c↔Undn wd o)->∀fg bv M',M' q=C3_ fg bv->(Ic! (kget σ x≠υ\/(x=o.nm/\c)))->fg.length<=cU_+1->Bv_->
    Fw as_ P! jt! ah_ dF! M' R:=λc hc fg bv M' Y h2 h3 h4=>by
   exact b1b rn os x1 _ _ fg bv M' R h7! a! ((h4 p rn).trans hp) Y l9 λM2 m9 y2 z2 acc2 g1 g2 g3=>hR M2 m9 y2 z2 acc2 g1 lv! λb J=>(g3 b J).trans (h4 b J);rw[g2,h2];show"!r"
   .rintro((u|⟨u1,u2⟩)|⟨o',u1,u2,u3⟩)
    .exact .inl u
    .exact .inr #[o,ML,u1.symm,hc.mp u2]
    .exact .inr #[o',MF _ u1,u2,u3]
   .rintro(u|⟨o',u1,u2,u3⟩)
    .exact FS_ u
    .obtain rfl|u1:=MM.mp u1
     .exact JI_ #[u2.symm,hc.mpr u3]
     .exact .inr #[o',u1,u2,u3]
  let no:(¬Undn wd o)->Fw as_ P! jt! ah_ dF! M R:=λh=>next False (DS! h) σ ep M hq Bw! a! λb _=>χ;cases hu:Cu o.d with
  |some u=>
   rw[hu]at et;simp![As,Dt,Ca,et];exact no λz=>by rw[z.1]at hu;rcases hu
  |none=>
   rw[hu]at et;simp![As,Dt,Ca,et];let hg:∀(K:L_),K Bx! M->Nc p! aM_ dF! M K:=λK hK=>by
    let c1:Dr M A_=ψ (p,wd,e0):=by simp[Dr,hp]
    show HK_ M A_ λ_=>HK_ M A_ λq=>Dm (Ck o.nm) λ_=>K ((kget q.2.1 o.nm).getD .non) M;rw[c1,gr];exact hK
   let hsd:Sd Bx!:=by
    cases e:Hm! wd with
    |none=>exact .inl χ
    |some v=>let#[k,rfl]:=l9 _ _ e;exact iU k
   let hdec:JL! qz!=.str "undo"↔Undn wd o:=by
    delta Undn;rw[hu];cases e:Hm! wd with
    |none=>simp
    |some v=>simp
   exact t2 hg χ (nN hsd (iU _)) ?_;by_cases c:JL! qz!=.str "undo"
   .rw[NG c];let ez:=kE (v:=iC!) hq gr bl!;let f2:Aa 2 dF!=ψ cr!:=χ;let f4:Aa 4 dF!=ψ o.nm:=χ;simp![Bx,wl,fC,f2,f4,ez,Dm];exact next True (by simp[<-hdec,c]) _ _ _ mup_same lv! hs! λb J=>mup_ne J;by_cases e:o.nm=x
    .subst e;rw[jO];simp
    .rw[nX e];simp[NY e]
   .rw[NA c];exact no λz=>c (hdec.mpr z)
def zY:∀(os:k_) (σ:q!),(FC! σ)->∀x v,Fy_ Bq_=ψ v->∃k:Str,v=.str k
 |[],σ,h=>h
 |o::os,σ,h=>by
  delta My;cases e:Cu o.d with
  |none=>exact zY os σ h
  |some q=>
   let#[k,a]:=q;exact zY os _ λx v hx=>?_;by_cases c:a=x
   .subst c;rw[jO]at hx;rcases hx;exact#[k,χ]
   .rw[nX c]at hx;exact h x v hx
def xX(nd:et_)(hl:eu!)(hd:h7_)
  (hR:∀q M' ep kq,M q=υ->M' q=JZ_ kq->(∀x,kget kq x≠υ↔∃o∈ops,o.nm=x/\Undn h8! o)->h9_->R cr! M'):Fo cq! M R:=by
 exact j_;let hc:∀(K:L_),Fp cq! M K->Fa_ Fp Bx_ M K:=λK h=>cO!;exact hc _ (xK nd hl hd λp M1 ep hp hM1 fr=>?_);intro q hq;let rn:p≠q:=λz=>by rw[<-z,hM1]at hq;rcases hq
 let pi:M q=none:=by rw[<-fr q (NY rn)];exact hq
 exact b1b rn ops h8_ υ υ [] 0 _ _ hd aS! (Jv_ rn hM1) mup_same (zY _ [] λx v h=>by simp[kget]at h) λM' bv y' z' fg Y h2 h3=>?_;exact hR q M' bv fg pi Y lv! λb J=>?_
 .rw[h2];simp[kget]
 .let b1:b≠q:=λz=>J (BG_ z pi);let b2:b≠p:=λz=>J (BG_ z hp);rw[h3 b b1,Ds_ b1,fr b b2]
end
def W0:OW:=#[[],[],λ_=>[],λ_=>[]]
def d0y:Vc W0 []:=by exact#[#[by simp[W0],dF_,by simp[W0],λx=>by simp[W0],BA_,#[λ_=>0,BA_],dF_,dF_,dF_,dF_],dF_,dF_,dF_]
section
variable{t:Bb}{M:Mh}{R:D->Mh->Prop}
section
variable{ρ:Ae}
def dS(h:bS!)(K:L_):wl f ρ M K=K d M:=by simp![wl,h]
def IA(C:sw!)(x:Str)(fo:m_)(ρ:Ae)(y:D)(M:Mh)(Q:cq_):Prop:=wl fo ρ M λd M2=>match d with
 |.fn p=>(match M2 p with|some (.obj C' fs)=>C'=C/\bq_<100/\Q Bj_|_=>False)
 |_=>False
def oZ{R:l_}(h:f ρ M λy M1=>HC_ M1 λM2=>R ad! M2):Fz C x ep! f ρ M R:=h
def mE{R:l_}(h:f ρ M λy M1=>HC_ M1 λM2=>q ρ M2 R):DK! (Fz C x ep! f) q:=h
def gZ(h0:fo ρ=ψ A_)(hM:M p=ψ pJ_)(hl:bq_<100)(hf:Hi x y fs=fs')(k:Q (Ji_ (.obj C fs'))):HC_ M Q:=by delta IA;rw[dS h0];show(match M p with|some (.obj C' fs)=>C'=C/\bq_<100/\Q (Ji_ Bj!)|_=>False);rw[hM];subst hf;exact#[χ,hl,k]
end
def pc{R:A1!}(h:fa ρ=ψ x)(k:fb ρ M λy M2=>fp ρ M2 λh1 M3=>R ((x,y)::h1) M3):Ds lw! fb fp ρ M R:=by simp![Ds,wl,h];exact k
def a9g{α β:Type}{f:α->β}:∀{l:W!},(ii_).Nodup->∀{x y:α},x∈l->y∈l->f x=f y->x=y
 |[],_,_,_,h,_,_=>by exact(em_).elim
 |a::l,nd,x,y,hx,hy,e=>by
  rw[MU,NO]at nd;obtain Y|Y:=MM.mp hx<;>obtain h2|h2:=MM.mp hy
  .rw[Y,h2]
  .exact C6_ (by rw[<-Y,e];exact NQ h2) nd.1
  .exact C6_ (by rw[<-h2,<-e];exact NQ Y) nd.1
  .exact a9g nd.2 Y h2 e
structure HL(M0 M:Mh)(l:List qA!):Prop where
 cell:∀q∈l,M q.1=ψ q.2
 nd:(eq_).Nodup
 fr:∀q∈l,M0 q.1=υ
 kp:∀b,M0 b≠υ->M b=M0 b
variable{M0:Mh}{l u v:List (Addr×Dh)}{b:sw!}{c c0:Dh}
def HL.new(h:qA_)(J:M b=υ):HL M0 qB! ((b,c)::l):=by
 let h0:=TL λz=>z ((h.kp b z).symm.trans J);exact#[eu_,NO.mpr #[bZ_,h.nd],eu_,λa ha=>(Ks_ ha h0).trans (h.kp a ha)]
 .obtain rfl|hq:=MM.mp hq
  .exact mup_same
  .exact Jv_ (eS (by rw[h.cell q hq];simp) J) (h.cell q hq)
 .show"#J";let:=h.cell q hq;rw[e,J]at this;rcases this
 .obtain rfl|hq:=MM.mp hq
  .exact h0
  .exact h.fr q hq
def HL.put(h:HL M0 M (u++(b,c0)::v)):HL M0 qB! (u++(b,c)::v):=by
 let nd:=h.nd;rw[NV,MU]at nd;let p:(u.map e_++b::v.map e_).Perm (b::(u.map e_++v.map e_)):=TM;let nb:=(Fk! nd).1;let ob:∀q,q∈u++v->Gr! b q.1=M q.1:=λq hq=>mup_ne λz=>nb (by rw[<-z,<-NV];exact NQ hq);let bh:∀{c q},q∈u++(b,c)::v->q=(b,c)\/q∈u++v:=λ{c q} hq=>by simpa[or_left_comm]using hq
 let oy:∀q,q∈u++v->q∈u++(b,c0)::v:=λq hq=>ND.mpr ((ND.mp hq).imp_right (MF _));let wc:=h.fr (b,c0) b!;exact#[eu_,by rw[NV,MU];exact nd,eu_,λa ha=>(Ks_ ha wc).trans (h.kp a ha)]
 .obtain rfl|z:=bh hq
  .exact mup_same
  .exact(ob q z).trans (h.cell q (oy q z))
 .obtain rfl|z:=bh hq
  .exact wc
  .exact h.fr q (oy q z)
def HL.row(h:qA_)(z1:M r=υ)(z2:M f=υ)(z3:M p=υ)(n1:r≠f)(n2:r≠p)(hr:FH! M' [])(fr:∀b,b≠r->b≠f->b≠p->M' b=M b):∃kf ef kp ep,Ge [] kf/\Ge [] kp/\HL M0 M' ((r,.obj t.B7 o2!)::(f,.dct kf ef)::(p,.dct kp ep)::l):=by
 let#[kf,ef,kp,ep,hf,hp,K,Kp]:=hr.dc;let h3:=((h.new (c:=.dct kp ep) z3).new (c:=.dct kf ef) (Jv_ hr.ne z2)).new (c:=.obj t.B7 o2!) (Jv_ n1 ((Ds_ n2).trans z1));exact#[kf,ef,kp,ep,K,Kp,?_];let e:∀a,M' a=mup (mup (Ji_ (.dct kp ep)) f (.dct kf ef)) r o2_ a:=λa=>by
  by_cases c1:a=r
  .rw[c1,mup_same];exact hr.ob
  .rw[Ds_ c1];by_cases c2:a=f
   .rw[c2,mup_same];exact hf
   .rw[Ds_ c2];by_cases c3:a=p
    .rw[c3,mup_same];exact hp
    .rw[Ds_ c3];exact fr a c1 c2 c3
 rw[show M'=_ from funext e];exact h3
def d0f:(qC!).Nodup:=NO.mpr #[by rw[NI];exact b8l,Q_]
def c9z:∀q∈qC_,(Ck q.1).isSome=true:=λq hq=>by
 obtain rfl|hq:=MM.mp hq
 .rfl
 .rw[NI.mp hq];rfl
def a8i{R:l_}(h:q1 ρ M λr M1=>match r with|.nx bn=>q2 bn M1 R|.rt d=>R af_ M1):DK! q1 q2:=h
def b1i{fs':Addr->μ ck!}{R:l_}(L:HL M0 M (u++[(o,.obj C fs)]))(h0:zH_)(hl:bq_<100)(hf:∀a,Hi x by_ fs=fs' a)(k:∀a M',HL M0 M' ((a,.dct [] 0)::u++[(o,.obj C (fs' a))])->R ad! M'):Fz C x ep! Gv ρ M R:=oZ λa ha=>by
 let L1:=L.new (c:=ia!) ha;exact gZ h0 (L1.cell (o,_) b!) hl (hf a) (k a _ (L1.put))
def dB{α:Type}{l:W!}{a:α}(i:δ)(h:l[i]?=ψ a):a∈l:=TD h
def d2s{M':Mh}{f1 p1 f2 p2:sw!}{kf2:q!}{ef1 ul ef2 m9:δ}(L:HL M M' [(a6,.dct [] 0),(a5,.dct [] 0),(a4,.dct [] 0),(a3,.dct [] 0),(r2,.obj t.B7 (Eh_ f2 p2)),(f2,.dct kf2 ef2),(p2,.dct na m9),(r1,.obj t.B7 (Eh_ f1 p1)),(f1,.dct kf1 ef1),(p1,.dct kp1 ul),(a2,.dct BI_ 2),(a1,.dct BK! 2),(o,.obj t.B6 bW_)])(c1:Ge [] kf1)(c2:Ge [] kp1)(c3:Ge [] kf2)(c4:Ge [] na):∃O,DX_ M' W0 2/\∀b,M b≠υ->M' b=M b/\¬O b:=by
 let -nondep ad:Td->Addr
  |.ob=>o
  |.par=>a1
  |.dir true=>a2
  |.dir false=>a3
  |.nums=>a4
  |.wri=>a5
  |.hid=>a6
  |.row x _=>if x=root then r1 else r2
  |.fol x _=>if x=root then f1 else f2
  |.pre x _=>if x=root then p1 else p2
  |.nm _=>o
 let br:=NY b8l;let hl:(BL!).map ad=[a6,a5,a4,a3,r2,f2,p2,r1,f1,p1,a2,a1,o]:=by
  simp![MU,RP,ad,MZ br,PP]
 let d:∀{x:D} {b:Bool},(Ky W0).dm b x->b=τ/\BL_:=λ{x b} l=>by
  cases b with
  |true=>exact#[χ,Or.resolve_left l λz=>by cases z]
  |false=>cases l
 let lm:∀r,Jd (Ky W0) r->r∈BL!:=λr l=>by
  cases r with
  |row x b=>obtain⟨rfl,rfl|rfl⟩:=d l;exact dB 7 χ;exact dB 4 χ
  |fol x b=>obtain⟨rfl,rfl|rfl⟩:=d l;exact dB 8 χ;exact dB 5 χ
  |pre x b=>obtain⟨rfl,rfl|rfl⟩:=d l;exact dB 9 χ;exact dB 6 χ
  |nm x=>cases l
  |dir b=>cases b;exact dB 3 χ;exact dB 10 χ
  |ob=>exact dB 12 χ
  |par=>exact dB 11 χ
  |nums=>exact dB 2 χ
  |wri=>exact dB 1 χ
  |hid=>exact dB 0 χ
 let nd:=L.nd;let fr0:∀{l:μ qA!},HL M M' l->∀a∈l.map e_,M a=none:=λL a ha=>by let#[q,hq,rfl]:=NB.mp ha;exact L.fr q hq
 let A1:HB_ root=r1:=MO χ;let A2:HB_ binn=r2:=MZ br;let A3:ad BM_=f1:=MO χ;let A4:ad BN!=f2:=MZ br;let A5:ad BN_=p1:=MO χ;let A6:ad BO!=p2:=MZ br;let kr:∀{y z:D},kget qC_ root=ψ y:=MO χ;let kb:∀{y z:D},kget qC_ binn=ψ z:=HB! b8l;exact#[Yd ad (Ky W0),#[ad,χ,z5!,λr l=>?_,λr r' l l'=>a9g (BG_ hl nd) (lm r l) (lm r' l')],λb J=>#[L.kp b J,λ⟨r,l,e⟩=>?_]]
 .let hc:=L.cell;cases r with
  |ob=>exact#[_,hc _ (dB 12 χ),χ]
  |par=>exact#[_,hc _ (dB 11 χ),_,_,χ,NC 2,kr,kb,λi p h=>by cases h]
  |dir b=>
   cases b with
   |true=>
    exact#[_,hc _ (dB 10 χ),_,_,χ,NC 2,λx=>#[f0_,f0_]]
    .obtain⟨_,rfl|rfl⟩:=d h
     .rw[A1];exact kr
     .rw[A2];exact kb
    .exact(MZ λz=>h (EG_ z.symm)).trans (MZ λz=>h (De_ z.symm))
   |false=>exact#[_,hc _ (dB 3 χ),_,_,χ,OG 2,λx=>#[λh=>(by cases h),cz!]]
  |nums=>exact#[_,hc _ (dB 2 χ),_,_,χ,OG 2,λx h=>by cases h]
  |wri=>exact#[_,hc _ (dB 1 χ),_,_,χ,OG 2,by rintro s v ⟨x,h,_⟩;cases h]
  |hid=>exact#[_,hc _ (dB 0 χ),_,_,χ,OG 2,λs=>#[λh=>(by exact Bool.noConfusion h),by rintro⟨x,h,_⟩;cases h]]
  |row x b=>
   show"#<"
   .exact#[_,by rw[A1];exact hc _ (dB 7 χ),by show _=Dh.obj _ (Ik_ (ad BM_) (ad BN_));rw[A3,A5]]
   .exact#[_,by rw[A2];exact hc _ (dB 4 χ),by show _=Dh.obj _ (Ik_ (ad BN!) (ad BO!));rw[A4,A6]]
  |fol x b=>
   show"#<"
   .exact#[_,by rw[A3];exact hc _ (dB 8 χ),OG 2,_,_,χ,c1]
   .exact#[_,by rw[A4];exact hc _ (dB 5 χ),OG 2,_,_,χ,c3]
  |pre x b=>
   show"#<"
   .exact#[_,by rw[A5];exact hc _ (dB 9 χ),OG 2,_,_,χ,c2]
   .exact#[_,by rw[A6];exact hc _ (dB 6 χ),OG 2,_,_,χ,c4]
  |nm x=>cases l
 .let:=NQ (f:=ad) (lm r l);rw[hl,e]at this;exact J (fr0 L b this)
def a1e(hR:∀o O M',M o=υ->DX_ M' W0 2->qE_->R ag_ M'):Gh t.B6 1 (Hd t) Ad ρ M R:=by
 exact#[rfl,λo ho=>j_];let L:HL M (mup M o BS_) [(o,.obj t.B6 [])]:=HL.new BT_ ho;generalize mup M o BS_=M1 at L ⊢;exact mE λa1 ha1=>#[mup_same,qF!,c9z,d0f,?_]
 replace L:=(L.new (c:=ia!) ha1).put (u:=[]) (c:=.dct BK! 2)
 generalize mup (mup _ _ _) a1 _=M2 at L ⊢;exact gZ (fs':=[du!]) rfl (L.cell (o,_) (dB 1 rfl)) a_ aE! ?_
 replace L:=L.put (u:=[_]) (c:=IH! [du!])
 generalize mup _ o _=M3 at L ⊢;exact mE λa2 ha2=>?_
 replace L:=L.new (c:=ia!) ha2
 exact pc χ (vL λr1 f1 p1 N1 z1 z2 z3 n1 n2 R1 _ K1=>?_);let#[kf1,ef1,kp1,ul,c1,c2,L]:=IX_ R1 K1;clear z1 z2 z3 n1 n2 R1 K1;exact pc χ (vL λr2 f2 p2 N2 z1 z2 z3 n1 n2 R2 _ K2=>?_);let#[kf2,ef2,na,m9,c3,c4,L]:=IX_ R2 K2;exact#[L.cell (a2,_) (dB 6 χ),qF!,c9z,d0f,?_]
 replace L:=L.put (u:=[_,_,_,_,_,_]) (c:=.dct BI_ 2)
 generalize mup _ a2 _=M4 at L ⊢;exact gZ (fs':=[du!,fC!]) rfl (L.cell (o,_) (dB 8 rfl)) BW_ aE! ?_
 replace L:=L.put (u:=[_,_,_,_,_,_,_,_]) (c:=IH! [du!,fC!])
 generalize mup _ o _=M5 at L ⊢;exact a8i (b1i (fs':=λa=>[du!,fC!,("texts",.fn a)]) L rfl BX! ck_ λa3 M6 L=>?_);exact a8i (b1i (fs':=λa=>[du!,fC!,ph_,("numbers",.fn a)]) L rfl BX_ ck_ λa4 M7 L=>?_);exact a8i (b1i (u:=[_,_,_,_,_,_,_,_,_,_]) (fs':=λa=>[du!,fC!,ph_,yr_,("written",.fn a)]) L rfl ly! ck_ λa5 M8 L=>?_);exact b1i (u:=[_,_,_,_,_,_,_,_,_,_,_]) (fs':=oF a1 a2 a3 a4 a5) L rfl (by show 5<100;decide) ck_ λa6 M' L=>?_;let#[O,Y,h2]:=d2s L c1 c2 c3 c4;exact#[rfl,hR o O M' ho Y h2]
end
inductive Yk:OW->List Op->OW->Prop
 |nil {W:OW}:Yk W [] W
 |cons {W W1 W2:OW} {o:Op} {os:k_}:Tc W o.nm o.d W1->Yk W1 os W2->Yk W ly_ W2
def Qj(wd:q!)(os:k_):μ Op:=os.filter λo=>decide (Cu o.d=υ/\¬Hm! wd=ψ bf_)
section
variable{t:Bb}{M:Mh}{R:D->Mh->Prop}
def JG(t:Bb):WS:=Ag nG_ uT_
def b1w{ops:k_}(hq:∀x∈ops,FC_ kq≠υ↔Undn wd x):∀(os:k_) (x1:D) (y z:Z_) (M:Mh) (O:bD_) (W W':OW) (pre:d_) (B:δ) (R:l_),
  (∀x∈os,x∈ops/\DG x.d)->BZ!->(lz!).Nodup->DX_ M W B->Vc W pre->Yk W qI! W'->B+20*bp!<3900->M q=C3_ kq e0->¬O q->
  (∀M' O' y' z',GK_ W' (B+20*bp!)->B0!->Dp_ O'->Kf_ ap!)->
  Fw as_ P! (JG t) ah_ [aJ_,ap!,cr_,y,z] M R
 |[],x1,y,z,M,O,W,W',pre,B,R,_,_,_,hO,w,hr,_,_,_,hR=>by
  cases hr;exact#[ο,hR M O y z hO #[pre,w] .refl]
 |x::os,x1,y,z,M,O,W,W',pre,B,R,hd,hp,nd,hO,w,hr,hB,pi,wp,hR=>by
  exact av_;let#[hx,kh]:=hd x ML;dsimp only[List.length_cons]at hB hR;rw[MU,NO]at nd;let#[kn,gr]:=a9f x;let me:Gq τ M x.nm cr!=C4_ (!(kget kq x.nm).isSome):=by simp[Gq,pi,gr]
  let f4:Aa 4 ew!=ψ x.nm:=χ;let u4:Aa 2 ew!=ψ cr!:=χ;let f1':Aa 1 ew!=ψ ag_:=χ;let f3':IJ! S! ew!=ψ x.d:=by
   show Ai x.v aW!=_;rfl
  show IM_ uS! ew!;simp![As,wT,w2,wl,f4,u4,me];let hu:=hq x hx;let rest:∀(M1:Mh) (rq:bD_) (W1:OW) (wu:d_),Bl t M1 o rq W1 bE_->Vc W1 wu->(∀y∈os,y.nm∉wu)->Yk W1 qI! W'->Fr M O M1 rq->Fw as_ P! (JG t) ah_ ew! M1 R:=λM1 rq W1 wu Y h2 h3 h4 h5=>
   b1w hq os x1 qJ! (ψ x.nm) M1 rq W1 W' wu bE_ R qJ_ h3 nd.2 Y h2 h4 a! ((B1_).1.trans pi) (B1_).2 (λM' O' y' z' g1 g2 g3=>hR M' O' y' z' (BG_ B2! g1) g2 (h5.trans g3))
  by_cases c:FC_ kq=υ
  .rw[c,fi_];let hc:∀(K:L_),Lw t [bm_,x.nm,x.d] M K->Ak 3 (Lw t) uT! ew! M K:=λK h=>by
    exact cO!
   exact iN (hc _ ?_);obtain⟨k,a,e,hk,_,wv⟩|⟨k,r,e,_,_,wv⟩:=lQ kh
   .let:Qj wd ib!=Qj wd os:=by delta Qj;rw[OP (DS! wv)]
    rw[this]at hr;rw[e];exact c6f hk (Gv! M)
   .let hne:¬FC_ wd=ψ bf_:=λz=>ξ c (hu.mpr #[wv,z]);let:Qj wd ib!=x::Qj wd os:=by delta Qj;rw[OO (by simp[wv,hne])]
    rw[this]at hr;cases hr with
    |cons hs hr=>
     let w1:=b7x hs w lz_;exact c6e hO w lz_ hs a! λM1 rq Y h2=>rest M1 rq _ _ Y w1 B2_ hr h2;obtain z|z:=ND.mp z
     .exact hp y cG! z
     .rw[NI]at z;exact nd.1 B3!
  .let hU:=hu.mp c;let#[v,hv]:=Option.ne_none_iff_exists'.mp c;rw[hv,bY_];let:Qj wd ib!=Qj wd os:=by delta Qj;rw[OP (by simp[hU.1,hU.2])]
   rw[this]at hr;exact Gv! M
def b4p{ops:k_}(nd:et_)(nn:B3_)(hl:eu!)(hd:h7_)(hr:Yk W0 (Qj h8! a6_) W')
  (hR:∀o M' O',M o=υ->GK_ W' 1500->B4!->(∀b,M b≠υ->M' b=M b/\¬O' b)->R ag_ M'):Kj t cq! M R:=by
 exact j_;show F0! uR_ Bx_;dsimp only[Ag,Am];exact a1e λo O M1 ho hO fr=>?_;let hc:∀(K:L_),Fo cq! M1 K->Fa_ Fo [lu!,ap!,υ,υ,υ] M1 K:=λK h=>cO!;exact hc _ (xX nd hl hd λq M2 ep kq hq gq iq u5=>?_);let hi:Cs jo_ B4_=ψ h5_:=a2r (mW nd hl);show Cn (Gu _) _ (JG t) B4_ M2 _;simp![Cn,Gu,hi,Dm];let hp:HP_ a6_:=cF ops;let wp:¬O q:=λz=>hO.live z hq;let hO2:=hO.keep λc hc=>u5 c (hO.live hc);let wm:∀x∈ops,FC_ kq≠υ↔Undn h8! x:=λx hx=>by
  rw[iq];show"!r"
  .rintro⟨y,hy,e,hu⟩;let:y=x:=a9g nn hy hx e;rw[<-this];exact hu
  .exact λh=>#[x,hx,χ,h]
 exact b1w wm a6_ h8_ υ υ M2 O W0 W' [] 2 _ (λx hx=>#[hp.mem_iff.mp hx,hd x B5!]) B5_ B6! hO2 d0y hr lA_ gq wp λM' O' y' z' g1 g2 g3=>?_;exact hR o M' O' ho (g1.mono lA_) g2 λb J=>?_;let#[e1,e2]:=fr b J;let e3:=u5 b yH!;let g4:=g3 b B6_ e2;exact#[by rw[g4.1,e3,e1],g4.2]
end
def Pu(f:WE)(ρ:Ae)(M:Mh)(d:D):Prop:=∀K:D->Mh->Prop,K d M->f ρ M K
def Qq(f:WT)(ρ:Ae)(M:Mh)(b:Bool):Prop:=∀K:Bool->Mh->Prop,K b M->f ρ M K
def Qs(g:WF)(ds:d_)(M:Mh)(d:D):Prop:=∀K:D->Mh->Prop,K d M->g ds M K
section
variable{M:Mh}{ρ:Ae}
def iY(h:R x):Dm lu_ R:=h
def aP(h:bS!):C9! (wl f) d:=λK hK=>by rw[dS h];exact hK
def eX(h:C9! fo by_)(hM:M a=ψ pJ_)(hv:DU! x=ψ v):C9! (Au C x fo) v:=λK hK=>by
 exact h _ ?_;let:Fx C x M by_=ψ v:=by simp![Fx,hM,PP,hv]
 rw[this];exact hK
def eG(ha:C9! fa x)(J:C9! fb y)(hg:B8!):C9! (w2 g fa fb) d:=λK hK=>by
 exact ha _ (J _ ?_);rw[hg];exact hK
def iW(ho:lB!)(ha:C9! fa y)(J:C9! fb z)(hp:cm!)(hk:bn!)(hd:(ib_).getD z=d):C9! (Fd fo fa fb) d:=λK hK=>by
 let c:Dr M A_=ψ lj_:=by simp[Dr,hp]
 exact ho _ ?_;rw[c];exact ha _ (J _ ?_);rw[c,hk];show K ((ib_).getD z) M;rw[hd];exact hK
def a4q(h:C9! f x)(hg:g M [x]=ψ d):C9! (w1 g (Ab f Ad)) d:=λK hK=>by
 exact h _ ?_;show Dm (g M [x]) λd=>K d M;rw[hg];exact hK
def fS{f1:WE}(Y:lB_)(hg:Qs g [a] M d):C9! (Ak 1 g qL!) d:=λK hK=>by
 exact Y _ lC!
def dM{f1 f2:WE}(Y:lB_)(h2:C9! f2 b)(hg:Qs g O! M d):C9! (Ak 2 g B8_) d:=λK hK=>by
 exact FI! lC!
def uS{f1 f2 f3:WE}(Y:lB_)(h2:C9! f2 b)(h3:C9! f3 c)(hg:Qs g eD! M d):C9! (Ak 3 g (Ab f1 (Ab f2 (Ab f3 Ad)))) d:=λK hK=>by
 exact FI! (h3 _ lC!)
def fQ{fo f1:WE}(h0:C9! fo ag_)(ho:Dd C m M ag_)(Y:lB_)(hg:Qs g [bm_,a] M d):C9! (Az C m 2 g fo qL!) d:=λK hK=>by
 exact h0 _ #[ho,Y _ lC!]
def jI(h:C9! f al_):F1! (wT f) b:=λK hK=>by delta wT;exact h _ hK
def fR(h:ou_):F1! (Ca f) b:=λK hK=>by delta Ca;rw[h];exact hK
def a0j(h:F1! f b):F1! (Hw f) (!b):=λK hK=>by delta Hw;exact h _ hK
def gW(h:ic!)(k:q bR_ M R):Km! f:=by exact h _ k
def cZ(h:ic!)(k:R af_ M):Aw f ρ M R:=by delta Aw;exact h _ k
def kS(h:qL_)(k:HK! q1):Dw! ft:=by exact h _ ?_;rw[y_];exact k
def qH(h:lC_)(k:fZ!):Dw! ft:=by exact h _ ?_;rw[bO_];exact k
def fH(h:lC_)(k:fZ!):DK! (As ft q1 Bf) q2:=by exact qH h k
def a0a(h:hR_)(hl:AP!):Bg fs ρ=ψ bQ_:=by delta Bg;rw[h];show AP_=_;rw[AQ!]
def d1s(h:B9_)(h2:b=θ->C9! fb lD!)(e:b=τ->c=τ):C9! (AE fa fb) lD!:=λK hK=>by
 exact h _ ?_;cases b with
 |true=>rw[e χ]at hK;exact hK
 |false=>exact h2 χ _ hK
def b8s(hv:C9! fv v)(ho:lB!)(hi:C9! fi y)(hp:cm!)(hk:bn!)(hl:es!)(q:R ad! h5!):Bx fo fi fv ρ M R:=by exact hv _ Ca!;rw[kE hp hk hl];exact q
def c5y(h:B9_)(h2:b=τ->C9! fb lD!)(e:b=θ->c=θ):C9! (Lh fa fb) lD!:=λK hK=>by
 exact h _ ?_;cases b with
 |true=>exact h2 χ _ hK
 |false=>rw[e χ]at hK;exact hK
def c5w(Y:ic!)(h2:C9! g e)(h3:C9! h k):C9! (Qu (Ab f (Ab g (Ab h Ad)))) (.tup [d,e,k]):=λK hK=>FI! (h3 _ #[Cb!,hK])
def c5v(hv:C9! fv v)(ho:lB!)(hi:C9! fi a5_)(hp:qM!)(hx:Fv! j=ψ i)(q:R ad! Cb_):Bx fo fi fv ρ M R:=by
 exact hv _ Ca!;let:Ju M A_ a5_ v=ψ Cb_:=by simp[Ju,hp,hx]
 rw[this];exact q
end
section
variable{t:Bb}{M:Mh}{R:D->Mh->Prop}
def c2i(o:Op):∀{l:k_},HP! Oo l->∃u v,l=u++v/\HP! Qd o l=u++o::v/\(∀x∈u,Kr o.key x.key=θ)/\∀x∈v,Ic_ x.key=τ
 |[],_=>#[[],[],χ,χ,Q_,Q_]
 |y::l,h=>by
  delta Oo at h;rw[PY]at h;delta Qd;cases e:Ic_ y.key with
  |true=>
   exact#[[],y::l,χ,χ,Q_,aA!];obtain rfl|hx:=MM.mp hx
   .exact e
   .exact kK e (h.1 x hx)
  |false=>
   let#[u,v,e1,e2,e3,e4]:=c2i o h.2;exact#[y::u,v,by rw[e1];rfl,by rw[e2];rfl,aA!,e4];obtain rfl|hx:=MM.mp hx
   .exact e
   .exact e3 x hx
def d8d(a b c d:Int):HT.lexLt O! [c,d]=Kr (a,b) (c,d):=by
 rw[PU,tK,HT.lexLt_cons];by_cases h:a=c
 .rw[MO h,HT.lexLt_cons];by_cases h':b=d
  .rw[MO h'];simp[HT.lexLt_nil_nil];omega
  .rw[MZ h',NT];show"#8";omega
 .rw[MZ h,NT];show"#8";omega
def CI(l:k_)(o:Op):δ->Bool
 |0=>θ
 |j+1=>match l[j]? with|some f=>Ic_ f.key|none=>θ
def GH:Ae->ι Bool:=Fy wi! wi_
def b2d(hk:k<=ah!):GH [ak!,Cc!,T_,lE!]=ψ (CI l o k):=by
 cases k with
 |zero=>simp[GH,Fy,fT,f2,Aa,fC,Ya,Hn,CI]
 |succ j=>
  let hj:j<ah!:=hk;let e1:=NK hj;let e2:Et (l.map Op.v) qM_=ψ (cW_).v:=by
   show"#/";simp[hj]
  let e3:Km 1 jW! qN_=ψ (cW_).v:=by
   let:Cd_ - 1=(j:δ):=by omega
   simp[Km,f2,Aa,fC,Ka,Hn,this,e2]
  let e4:Ai (cW_).v cA_=ψ (.int (cW_).tm):=by rfl
  let e5:Ai (cW_).v U_=ψ (.int (cW_).h):=by rfl
  let e6:FQ_ cA_=C2_ o.tm:=by rfl
  let e7:FQ_ U_=ψ lE_:=by rfl
  let e8:FC (.tup [.int (cW_).tm,.int (cW_).h]) Bk!=C4_ (Kr o.key (cW_).key):=by
   simp[FC,Ll,d8d,Op.key]
  let e9:Ya qN! U_=ψ v_:=by simp[Ya,Hn]
  let f3:Aa 3 qN_=ψ qN!:=χ;let u4:Aa 2 qN_=ψ o.v:=χ;simp![GH,Fy,fT,f2,f3,fC,PK,e9,Bg,Ac,Af,e3,e4,e5,u4,e6,e7,PP,NH,QS,show(0+1+1:δ)<=1000 by omega,e8,CI,e1]
def a4v{o:Op}{u v:k_}(Y:∀x∈u,Ic_ x.key=θ)(h2:∀x∈v,Ic_ x.key=τ)(R:l_)(hR:D0! qQ! M):
  ∀(m:δ),m<=v.length->∃n,Cm (Ca GH) or! n (IY! qR!) M R
 |0,hm=>by
  exact hF!;let et:=b2d (x0:=x0) (o:=o) (l:=u++v) (k:=b4_) b!;let ef:CI ac_ o b4_=false:=by
   cases hu:b4_ with
   |zero=>rfl
   |succ j=>
    let:ac_[j]?=ψ (u[j]' a!):=by rw[QA a!,NK a!]
    simp![CI,this];exact Y _ id!
  rw[ef]at et;simp![Cm,Ca,Nat.add_zero,et];exact hR
 |m+1,hm=>by
  let#[n,hn]:=a4v Y h2 R hR m a!;exact#[n+1,?_];let et:=b2d (x0:=x0) (o:=o) (l:=u++v) (k:=b4_+cX!) aS!;let ef:CI ac_ o (b4_+cX!)=true:=by
   show CI ac_ o (b4_+m+1)=τ;let:ac_[b4_+m]?=ψ (v[m]' a!):=by rw[OU a!,show u.length+m - u.length=m by omega,NK a!]
   simp![CI,this];exact h2 _ id!
  rw[ef]at et;let es:f2 Ka S! u_ (IY! qR_)=C2_ qR!:=by
   let:qR_ - 1=qR!:=by omega
   show Ka (.int qR_) aV!=_;simp![Ka,Hn,this]
  simp![Cm,Ca,et,PP,Am,wl,es];exact hn
def LO:WS:=GP! GH
def b2f:∀(os:k_) (x0:D) (y z:Z_) (σ:k_) (R:l_),HP! Oo σ->((σ++os).map Op.key).Nodup->cU_+bp!<1000->
  (∀fg y' z',HP! Oo fg->fg.Perm (σ++os)->D0! [ak!,ψ (.lst (fg.map Op.v)),y',z'] M)->Fw cb_ P! LO ah_ [ak!,ie!,y,z] M R
 |[],x0,y,z,σ,R,hs,nd,hl,hR=>#[ο,hR σ y z hs b!]
 |o::os,x0,y,z,σ,R,hs,nd,hl,hR=>by
  exact av_;show F0! (Am 3 _) qS!;let#[u,v,e1,e2,e3,e4]:=c2i o hs;dsimp only[List.length_cons]at hl;let el:Mt nn_ qS!=ψ Ci_:=by
   let:f1 Bv cB! qS!=ψ Ci_:=by
    show Bv [.lst (σ.map Op.v)]=_;simp[Bv]
   delta Mt;rw[this];rfl
  simp![Ag,Am,wl,el];let ar:cU_=b4_+v.length:=by rw[e1,NR]
  rw[ar,e1];exact a4v e3 e4 _ ?_ v.length u!;let ei:Yw 1 S! C! qQ!=DQ! [ak!,ψ (.lst ((lF_).map Op.v)),T_,Ch!]:=by
   let:(ac_).length<big:=by delta big;rw[NR];omega
   let e2:Aa 2 qQ!=ψ o.v:=χ;delta Yw;show(if 0<=(qP_:Int)/\(qP_:Int).toNat<=(qO_).length/\(qO_).length<big then _ else υ)=_;rw[MO #[p_,Q_,by rw[MV];exact this]];simp
  simp![Wj,ei,Dm];let hp:(lF_).Perm (σ++[o]):=by rw[e1];simpa using(TM (l₁:=u) (l₂:=v)).trans (List.perm_append_comm (l₁:=[o]) (l₂:=u++v))
  let c8:HP! Oo lF_:=by
   rw[<-e2];exact wH hs λy hy=>?_;rw[NV,OL]at nd;exact λz=>nd.2.2 _ (NQ hy) o.key b! z.symm
  let ui:((u++o::v++os).map Op.key).Nodup:=by
   let:(u++o::v++os).Perm (σ++o::os):=by
    let:=hp.append_right os;simpa using this
   exact(this.map _).nodup_iff.mpr nd
  exact b2f os x0 _ _ lF_ R c8 ui (by let:=hp.length_eq;simp at this;simp;omega) λfg y' z' Y h2=>hR fg y' z' Y (h2.trans (by let:=hp.append_right os;simpa using this))
def kX(nd:et_)(hl:eu!)(hR:R (.lst h5_) M):Co cq! M R:=by exact j_;exact b2f ops _ υ υ [] _ (jE_) (Db! nd) aS! λfg y' z' Y h2=>?_;let:fg=srt ops:=oX Y (mD nd) (by simpa using h2.trans (by simpa using(cF ops).symm));rw[this];exact hR
def pW{neg:Bool}:Gq neg M G! p0!=C4_ (if neg then ! p0_ else p0_):=by show Gq.inS neg M G! p0!=_;simp[Gq.inS,Pn,Bc,Br,Ir,Cz,a2x]
def KJ:WS:=As wk_ wl! Bf
def c9c{o:Op}(ho:h6!):∃k r,o.d=.tup bG!/\(Cu o.d=υ->dE!=θ/\(k=="redo")=θ)/\(∀u,Cu o.d=ψ u->r=[u.2]/\k=u.1/\Bi_/\NameG u.2):=by
 obtain⟨k,a,e,hk,g9,hu⟩|⟨k,r,e,Y,h2,hu⟩:=lQ ho
 .exact#[k,[a],e,(λz=>by rw[z]at hu;rcases hu),(λu pb=>by rw[hu]at pb;rcases pb;exact#[χ,χ,hk,g9])]
 .exact#[k,r,e,(λ_=>#[Y,h2]),(λu pb=>by rw[hu]at pb;rcases pb)]
def c2a{o:Op}(e:o.d=.tup bG!):qu_=ψ G!:=by
 let e3:FQ_ aW!=ψ o.d:=by rfl
 rw[e3,e];show Et (D.str k::r) 0=_;show"#/";simp
def sW{k:Str}(hk:Bg_):if!=true:=by
 obtain rfl|rfl:=hk
 .rw[qv!];rfl
 .rw[Bp!];rfl
def a1k:∀(os:k_) (x1:D) (y:Z_) (σ:q!) (ep:δ) (M:Mh) (R:l_),qw!->cU_+bp!<1000->M p=ψ qw_->
  (∀M' bv y',M' p=C3_ (My h6_ os σ) bv->lt_->R Br! M')->
  Fw cb_ P! KJ ah_ qv_ M R
 |[],x1,y,σ,ep,M,R,_,_,hp,hR=>Br_
 |o::os,x1,y,σ,ep,M,R,hd,hl,hp,hR=>by
  exact av_;show KJ b3_ M _;show IM_ _ b3_;let ho:=hd o ML;dsimp only[List.length_cons]at hl;let#[k,r,e,hn,hs]:=c9c ho;let i0:Eg! bv_ b3_=ψ G!:=c2a e;simp![As,wT,w2,wl,i0,fC,pW];cases hu:Cu o.d with
  |none=>
   let#[Y,h2]:=hn hu;let:if!=false:=by rw[BEq.comm,Cj_,Y,h2];rfl
   rw[this];exact Gg_ a1k
  |some u=>
   let#[g1,g2,hk,g9]:=hs u hu;rw[sW hk];let#[ka,ll]:=rA g9;let i1:Ev! bv_ b3_=ψ u.2:=by
    let e3:FQ_ aW!=ψ o.d:=by rfl
    show Bs!;rw[e3,e,g1];show Et [D.str k,u.2] 1=_;rfl
   let i2:f2 At gO_ e7_ b3_=ψ f0!:=by
    show(f2 Ai bv_ z_ b3_).bind (λx=>At x bf_)=_;rw[i0];exact dG k _
   let ez:=kE (v:=.bl dE!) hp ll bl!;let:=a1k os x1 b4! Ck_ Cl! (Ji_ (.dct Ck_ Cl!)) R h7! (by let:=kput_len σ u.2 f0!;omega) mup_same (λM' bv y' Y h2=>hR M' bv y' (by
    delta My;rw[hu];let#[u1,u2]:=u;dsimp only at g2 Y ⊢;rw[<-g2];exact Y) λb J=>GP_ b)
   simp![Bx,wl,i1,i2,d7l,ez,Dm];exact this
def oK(nd:et_)(hl:eu!)(hd:h7_)
  (hR:∀p M' ep,M p=υ->M' p=JZ_ (My h6_ a6_ [])->lt_->R A_ M'):Fk cq! M R:=by
 exact j_;intro p hp;let bz:HP_ a6_:=cF ops;let hc:∀(K:L_),Co cq! fY! K->Fa_ Co qx_ fY! K:=λK h=>cO!;exact hc _ (kX nd hl ?_);exact Kl_ a1k _
end
def Be(q:D×D):D:=.tup [q.1,q.2]
def Cr(q:D×D×Bool):D:=.tup [q.1,q.2.1,.bl q.2.2]
nonrec def k3(rows wt wn:D):μ aj!:=[(.str "rows",rows),(.str "texts",wt),(.str "numbers",wn)]
section
variable{a b c v:D}
def c9x:¬(D.str pi!=D.str pi_):=λz=>C6_ qT! c_
def c9y:¬(D.str pi!=D.str pj!):=λz=>C6_ qT! c_
def c9u:¬(D.str pi_=D.str pj!):=λz=>C6_ qT! c_
def k3r:kget if_ hf!=ψ a:=by show fH!=_;rw[y_]
def k3t:kget if_ ow!=ψ b:=by show Cm!=_;rw[MZ c9x,y_]
def k3n:kget if_ wJ!=ψ c:=by show(if _ then _ else Cm!)=_;rw[MZ c9y,MZ c9u,y_]
def k3p:Bp if_ hf! v=k3 v b c:=by show fH!=_;rw[y_];rfl
end
def mV{g:D->D}:∀{its:d_} {x:D},Fy_ lH!=if x∈its then ψ (g x)else υ
 |[],x=>by rfl
 |i::its,x=>by
  rw[MU];delta kget;by_cases e:i=x
  .subst e;simp
  .rw[MZ e,mV];simp[NY e]
def a5t{g:D->D}:∀{its:d_},its.Nodup->x∈its->Bp lH! x v=its.map λi=>(i,if i=x then v else g i)
 |[],_,h=>by exact(em_).elim
 |i::its,nd,h=>by
  rw[NO]at nd;rw[MU,MU];delta Bp;by_cases e:i=x
  .subst e;simp![PP];congr 1;apply OT;intro j hj;rw[MZ λz:j=i=>nd.1 (z▸hj)]
  .rw[MZ e];simp![e,PC];rw[a5t nd.2 (Ik! (NY e))]
def yW{g:D->D}{its:d_}(h:x∉its):Bp lH! x v=lH!++[(x,v)]:=mU (by rw[OD];simpa using h)
def HM(W:OW)(w wt wn:sw!)(qa:D->Addr)(e0 e1 e2:δ):μ qA!:=(w,.dct qT_ e0)::(wt,.dct qU! e1)::(wn,.dct Cn_ e2)::W.its.map λi=>(qa i,.lst fG!)
structure Lg(M:Mh)(w:sw!)(O:bD_)(W:OW)(wt wn:sw!)(qa:D->Addr):Prop where
 L:∃e0 e1 e2,HL gx! M (HM W w wt wn qa e0 e1 e2)
 O:∀b,O b↔b=w\/b=wt\/b=wn\/∃i∈W.its,qa i=b
def Bm(M:Mh)(w:sw!)(O:bD_)(W:OW):Prop:=∃wt wn qa,Lg M w O W wt wn qa
section
variable{M:Mh}{R:D->Mh->Prop}{w:sw!}{O:Addr->Prop}{W:OW}{ρ:Ae}
section
variable{O:Addr->Prop}{wt wn:sw!}{qa:D->Addr}
def Lg.mw(h:ex!):∃e,M w=C3_ qT_ e:=by let#[e0,e1,e2,L]:=h.L;exact#[e0,L.cell _ ML]
def Lg.mt(h:ex!):∃e,M wt=C3_ qU! e:=by let#[e0,e1,e2,L]:=h.L;exact#[e1,L.cell _ ig!]
def Lg.mn(h:ex!):∃e,M wn=C3_ Cn_ e:=by let#[e0,e1,e2,L]:=h.L;exact#[e2,L.cell _ qU_]
def Lg.mq(h:ex!)(hi:dt!):M (qa i)=yJ_ fG!/\O (qa i):=by let#[e0,e1,e2,L]:=h.L;exact#[L.cell (qa i,_) (MF _ (MF _ (MF _ (NQ hi)))),(h.O _).mpr (.inr Co!)]
def Bm.live(h:aa!)(J:O b):M b≠none:=by
 let#[wt,wn,qa,hA]:=h;obtain rfl|rfl|rfl|⟨i,hi,rfl⟩:=(hA.O b).mp J
 .let#[e,h]:=hA.mw;rw[h];simp
 .let#[e,h]:=hA.mt;rw[h];simp
 .let#[e,h]:=hA.mn;rw[h];simp
 .rw[(hA.mq hi).1];simp
def Bm.keep(h:aa!)(k:yJ!):Es! O W:=by
 let#[wt,wn,qa,hA]:=h;let#[e0,e1,e2,L]:=hA.L;exact FR! #[e0,e1,e2,eu_,L.nd,gt!,Co_];exact(k _ ((hA.O _).mpr ?_)).trans (L.cell q hq);simp![HM,MM,NB]at hq;obtain rfl|rfl|rfl|⟨i,hi,rfl⟩:=hq
 .exact cv!
 .exact kM!
 .exact .inr b5!
 .exact .inr Co!
def Lg.fr(h:ex!)(J:b=w\/b=wt\/b=wn\/∃i∈W.its,qa i=b):Fr M O qB! O:=c2o λa ha=>mup_ne λz=>ha (by rw[z];exact(h.O b).mpr J)
end
def fK(h:cm!)(hk:bn!):By M A_ y=kget h1 y:=by simp[By,h,hk]
def ixw(h0:Aa 0 ρ=ψ A_)(h:cm!)(hv:Ep_ aI_=ψ v)(K:L_):w2 By i_ (wl k5_) ρ M K=K v M:=by let:By M A_ aI_=ψ v:=Gh! h hv;simp![w2,wl,h0,fC,this]
def tO:Ai f3_ U_=ψ q.1:=by rfl
def a2i:Ai f3_ aV!=ψ q.2:=by rfl
def kU(w:Bt W):∀q∈W.rows,Go q.1/\Sd q.2/\Gy W q.2:=λq hq=>#[w.nm _ ((w.ri q.1).mp (NQ hq)),a2m w (w.rp q.1 q.2 hq),w.rp q.1 q.2 hq]
end
def b6l(ha:Sd a)(J:Sd b)(hc:Sd c)(hd:Sd d):At lJ! (.tup [c,d])=JF_ (a=c/\b=d):=by
 delta At;let d1:=jY ha;let d2:=jY J;let e:Ej lJ! (.tup [c,d])=decide (a=c/\b=d):=by
  simp![Ej,Iq,mX ha hc,mX J hd,WZ];by_cases Y:a=c<;>by_cases h2:b=d<;>simp[Y,h2]
 rw[e];simp![Bc,Br,eC ha,eC J,eC hc,eC hd,Ir,Cz,WZ,Bool.true_and];rw[MO aS!]
def c3t(h:k<=i!):Ia_ N_ lJ_=yJ_ (xs.take k):=by
 let e:J4_ lJ_=k:=by rw[HT.sIx_nat];omega
 dsimp only[Cq];congr 2;delta Es;rw[e,HT.sIx_none];rfl
def a7e(h:k<=i!):Cq N_ lJ_ υ=yJ_ (xs.drop k):=by
 dsimp only[Cq];congr 2;let e:D4_ 0 lJ_=k:=by rw[HT.sIx_nat];omega
 let e2:J4_ υ=i!:=χ;delta Es;rw[e,e2,VT b!]
section
variable{M:Mh}{R:D->Mh->Prop}{w:sw!}{O:Addr->Prop}{W:OW}{ρ:Ae}
def HX:Ae->ι Bool:=Fy wm! wn!
def c7z{rs:q!}(hk:k<=aC_)(hl:aC_<5000)(jx:Cq!)(hp:Sd p):HX b5_=ψ Cq_:=by
 let el:f1 Bv gM! b5_=ψ lK!:=by
  show Cr!;simp[Bv]
 by_cases c:k<aC_
 .let e1:=NK c;let ea:Et ex_ cW!=ψ lK_:=by
   show"#/";simp[c]
  let e3:f2 Ai S_ Y! b5_=ψ lK_:=ea;let e4:Ww ic_ lK!=ψ v_:=by simp[Ww,Hn];exact c
  let e6:Em (f4!).2 p=ψ Cs!:=a0z (jx _ id!).2 hp;let e7:f2 Em wm_ C! b5_=ψ Cs!:=by
   show((f2 Ai S_ Y! b5_).bind λx=>Ai x aV!).bind (λz=>Em z p)=_;rw[e3];show(Ai lK_ aV!).bind _=_;rw[a2i];exact e6
  let e8:f2 Ww Y! fg! b5_=ψ v_:=by
   show Ct!;rw[el];exact e4
  simp![HX,Fy,fT,e8,e7,PK,PP,e1]
 .let e1:rs[k]?=none:=PH a!;let e4:Ww ic_ lK!=ψ B!:=by simp[Ww,Hn];omega
  let e8:f2 Ww Y! fg! b5_=ψ B!:=by
   show Ct!;rw[el];exact e4
  simp![HX,Fy,fT,e8,PK,e1];rfl
def c4b{rs:q!}(hk:k<aC_)(h:chl qW! p=[])(hp:(f4!).2≠p):chl (rs.take R!) p=[]:=by rw[RZ hk,eR,h];rw[sN hp];rfl
def a6k{rs:q!}(hl:aC_<5000)(jx:Cq!)(hp:Sd p)(R:l_)(hR:∀k:Nat,k<=aC_->chl qW! p=[]->D0! b5_ M):
  ∀(m k:δ),aC_ - k=m->k<=aC_->chl qW! p=[]->∃n,Cm (Ca HX) wn_ n b5_ M R
 |m,k,hm,hk,hc=>by
  let et:=c7z (x0:=x0) (i:=i) (s:=s) (y:=y) hk hl jx hp;by_cases c:k<aC_/\(rs[k]?.map ar!)≠ψ p
  .let#[c1,c2]:=c;let e1:=NK c1;rw[e1]at et c2;let c3:(f4!).2≠p:=λz=>c2 (by rw[<-z];rfl);rw[show(match(ψ rs[k]:ι aj!)with|some q=>!decide (q.2=p)|none=>θ)=τ by simp[c3]]at et;cases m with
   |zero=>omega
   |succ m=>
    let#[n,hn]:=a6k hl jx hp R hR m R! a! a! (c4b c1 hc c3);exact#[n+1,?_];let es:G1! Y! b5_=ψ qW_:=by
     show qX!;rfl
    simp![Cm,Ca,et,PP,Am,wl,es];exact hn
  .exact hF!;let ef:Cq_=false:=by
    cases e:rs[k]? with
    |none=>rfl
    |some q=>
     let c1:=(NE.mp e).1;let:q.2=p:=by
      by_cases z:q.2=p
      .exact z
      .exact C6_ #[c1,by rw[e];simp[z]] c
     simp[this]
   rw[ef]at et;simp![Cm,Ca,et];exact hR k hk hc
def KP:WS:=As wr! ws_ Bf
def LD(rs:q!)(s p:D)(k0 k at_:δ):Prop:=(at_=k0/\∀j<k,rs[j]?≠ψ ds!)\/∃j<k,rs[j]?=ψ ds!/\at_=j+1
def a9y(hl:aC_<5000)(jx:∀q∈rs,Sd q.1/\Sd q.2/\q.1≠.non)(hp:Sd p)(hs:Sd s)(R:l_)(hR:∀(a:δ) y,LD rs s p k0 rs.length a->D0! Cu! M):
  ∀(m k a:δ) (y:Z_),aC_ - k=m->k<=aC_->LD rs s p k0 k a->Fw fl! P! KP Cv! Cu! M R
 |0,k,a,y,hm,hk,ha=>(EV_ rs.length)
 |m+1,k,a,y,hm,hk,ha=>by
  let c1:k<aC_:=by omega
  exact av_;show KP ey! M _;let e1:=NK c1;let#[q1,q2,q3]:=jx rs[k] id!;let ea:f2 Ai S_ az! ey!=ψ lK_:=by
   show Et ex_ cW!=_;show"#/";simp[c1]
  let et:f2 At wp! wp_ ey!=JF_ ((f4!).1=s/\(f4!).2=p):=by
   show(f2 Ai S_ az! ey!).bind (λz=>At z (.tup [s,p]))=_;rw[ea];exact b6l q1 q2 hs hp
  let en:IN_ S! ey!=C4_ (!Iw s):=χ;let cond:Fy wo! wq! ey!=J9_ (rs[k]=ds!):=by
   simp![Fy,fT,en,et,PK];by_cases z:s=.non
   .rw[show Iw s=τ from zA.mpr z];let:¬rs[k]=ds!:=λy=>q3 (BG_ y z);simp[this]
   .rw[kN z];simp![Bool.not_false,PP];congr 1;rw[decide_eq_decide];exact#[λy=>Prod.ext y.1 y.2,λy=>by rw[y];exact ae!]
  let es:G1! az! ey!=ψ qW_:=by
   show qX!;rfl
  by_cases z:rs[k]=ds!
  .exact Cv_;exact Gh_ R! (.inr #[k,p_,by rw[e1,z],χ])
  .exact jH Cw! ?_;exact Gh_ a ?_;obtain⟨Y,h2⟩|⟨j,Y,h2,h3⟩:=ha
   .exact .inl #[Y,ke_];by_cases y:j=k
    .rw[y,e1];exact λx=>z (OK x)
    .exact h2 j a!
   .exact Cx!
def a7t(h:aa!)(jx:∀q∈W.rows,Sd q.1/\Sd q.2/\q.1≠.non)(hi:Sd i)(hp:Sd p)(hs:Sd s)(hl:ey_<4000)
  (hR:∀M' am,Ka! i->Es! O {W with rows:=am}->Dp_ O->Ed_ M'):Ih [dG_,i,p,s] M R:=by
 let#[wt,wn,qa,hA]:=h;let#[e,et1,et2,L]:=hA.L;let hw:=L.cell _ ML;exact j_;show F0! (Am 4 qX_) Cx_;simp![Ag,Am,Bd,Cb,ixw (ρ:=Cx_) χ hw k3r];exact qY!;let sub:∀q∈wo W.rows i,q∈W.rows:=λq hq=>(o7_).1;let lw:(hQ_).length<=ey_:=QT _ _;exact cO (λd=>match d with|.tup [a,_]=>!decide (a=i)|_=>θ) id ο _ _ a7! ?_
 .let#[q,hq,rfl]:=NB.mp hd;let#[Y,_,_]:=jx q hq;exact#[qY_,χ,lM_,Cy!];let e1:fT wl_ qY_=ψ Cy_:=by
   let:IO! Em qY_=C4_ Cy_:=by
    show(Ai f3_ U_).bind (λz=>Em z i)=_;rw[tO];exact a0z Y hi
   show"!y"
  simp![Ca,e1];exact hK
 let e2:((lH_).filter λd=>match d with|.tup [a,_]=>!decide (a=i)|_=>θ).map id=(hQ_).map Be:=by
  rw[VN,UG];congr 1;apply RC;intro q _;simp[Be]
 rw[e2];generalize hrs':wo W.rows i=rs at *;let zq:∀q∈rs,Sd q.1/\Sd q.2/\q.1≠.non:=λq hq=>jx q (sub q hq);exact a6k a! (λq hq=>#[(zq q hq).1,(zq q hq).2.1]) hp _ (λk0 hk0 hc0=>?_) rs.length 0 a! a! (by rw[List.take_zero];rfl);let hr:Eu fg! Cz_=some ((List.range' 0 aC_).map λj=>D.int qM_):=by
  let:f1 Bv gM! Cz_=ψ lK!:=by
   show Cr!;simp[Bv]
  delta Eu;rw[this];show(if -1000<=qZ!/\qZ!<=100000 then ψ (Db (qZ!).toNat)else υ)=_;rw[aJ!];simp[Db,List.range_eq_range']
 simp![Cn,Gu,hr,Dm];exact a9y a! zq hp hs _ (λa y ha=>?_) rs.length 0 k0 υ a! a! CA_;let oz:a<=aC_:=by
  obtain⟨Y,_⟩|⟨j,Y,_,h3⟩:=ha<;>omega
 let ev:f2 An wu! wu_ f4_=ψ lN_:=by
  let s1:Dq S_ Av fn_ f4_=ψ qZ_:=c3t lO!;let s2:Dq S_ fn_ Av f4_=ψ CC!:=a7e lO!;let s3:Fe wt_ f4_=ψ q0!:=χ;let a1:An qZ_ q0!=ψ CC_:=by
   show h1!;rw[lO_]
  let a2:An CC_ CC!=ψ lN_:=by
   show h1!;rw[lO_];simp
  show((Dq S_ Av fn_ _).bind λx=>(Fe _ _).bind λz=>An x z).bind (λx=>(Dq S_ fn_ Av _).bind λz=>An x z)=_;rw[s1,s3,s2];show(An qZ_ q0!).bind (λx=>An x _)=_;rw[a1];exact a2
 let ez:Ju M dH! hf! lN_=ψ (mup M w (.dct CD! CD_)):=by
  rw[kE hw χ (by show 3<big;decide),k3p]
 let f0:Aa 0 f4_=ψ dH!:=χ;let fin:=hR _ CB! #[rs.take a,rs.drop a,by rw[hrs',List.take_append_drop],χ,?_] (FR! #[_,et1,et2,L.put (u:=[]) (c:=.dct CD! CD_)]) (hA.fr W_)
 .show Bx i_ hf_ (wl _) f4_ M _;simp![Bx,wl,ev,f0,fC,ez,Dm];exact fin
 .rw[hrs'];obtain⟨Y,h2⟩|⟨j,Y,h2,h3⟩:=ha
  .exact .inl #[bZ_,by rw[Y];exact hc0];let#[j,hj]:=UQ.mp pQ_;exact h2 j (NE.mp hj).1 hj
  .exact .inr #[rs.take j,?_];let hj:=(NE.mp h2).1;rw[h3,RZ hj,(NE.mp h2).2]
def b0a{rows:q!}(nd:fK_):(rows.filter λq=>decide ih_)=match rows.find? CE! with|some q=>[q]|none=>[]:=by
 induction rows with
 |nil=>rfl
 |cons a r ih=>
  rw[MU,NO]at nd;by_cases e:a.1=x
  .rw[OO fv_,List.find?_cons_of_pos fv_];let:r.filter CE!=[]:=by
    rw[List.filter_eq_nil_iff];intro q hq;simp![NT];exact λz=>nd.1 (by rw[e,<-z];exact NQ hq)
   rw[this]
  .rw[OP fv_,List.find?_cons_of_neg fv_,ih nd.2]
def b3u{W:OW}(wi:Bt W)(h:lP!):lP_=[a2_]:=by
 rw[b0a wi.rnd];cases e:W.rows.find? λq=>decide ih_ with
 |none=>let:=List.find?_eq_none.mp e a2_ h;simp at this
 |some q=>
  let Y:=List.find?_some e;let h2:=List.mem_of_find?_eq_some e;simp at Y;let:q.2=p:=jD wi.rnd (Di_ Y h2) h;let#[a,b]:=q;dsimp only at Y this ⊢;rw[Y,this]
def d5b(wi:Bt W)(h:∀p,a2_∉W.rows):lP_=[]:=by rw[List.filter_eq_nil_iff];rintro⟨a,b⟩ hq;simp![NT];exact λz=>h b o9!
def JH:WS:=Ag wx_
 (Ag wy!
 wz_)
def yV(h:aa!)(wi:Bt W)(hl:f5!)(hi:Go i){rk:D->δ}(ip:y1_):∀(n:δ) (x:D) (y:Z_),rk x<n->Gy W x->∀(R':l_),(Wn W.rows i x->∀y',R' (.nx [P_,N!,N!,y']) M)->(II! (.rt B!))->
   ∃m,IO_ f5_
 |0,x,y,hn,_,_,_,_=>by omega
 |n+1,x,y,hn,hx,R',r1,r2=>by
  let#[wt,wn,qa,hA]:=id h;let#[e0,hw]:=hA.mw;let sx:=a2m wi hx;let et:fT uk! f5_=ψ q1!:=by
   let:f2 Em r! C! f5_=C4_ q1!:=a0z sx hi.sd;show"!y"
  by_cases e:x=i
  .subst e;exact hF!;simp![Cm,Ca,et];exact r1 .here y
  .rw[show q1!=τ by simp[e]]at et;let body:∀(K:l_),(y3!->K (.rt B!) M)->(∀p,a2_∈W.rows->K (.nx [P_,cQ_,N!,ψ (.lst [p])]) M)->JH f5_ M K:=λK g1 g2=>by
    show F0! (Am 3 qX_) f5_;simp![Ag,Am,Bd,Cb,ixw (ρ:=f5_) χ hw k3r];exact qY!;exact ED_ a (λd=>match d with|.tup [_,p]=>p|_=>.non) ο _ _ a7! ?_
    .show"!?";let#[Y,_,_]:=G1_ q;exact CF_
     .let e1:fT jY! ct!=ψ lQ!:=by
       let:IO! At ct!=C4_ lQ!:=by
        show CG!;rw[tO];exact nN Y.sd sx
       show"!y"
      simp![Ca,e1];exact hK
     .let e1:Ev! k! ct!=ψ q.2:=a2i;exact hK
    .let e2:((Ei_ a).map λd=>match d with|.tup [_,p]=>p|_=>.non)=G4! lP_:=by
      rw[UG,OD];rfl
     rw[e2];by_cases c:∃p,a2_∈W.rows
     .let#[p,hp]:=c;rw[b3u wi hp];exact FP! jH;exact g2 p hp
     .let c':∀p,a2_∉W.rows:=λp z=>c #[p,z];rw[d5b wi c'];exact FP! ifT;exact g1 c'
   obtain hx|hx:=hx
   .let#[p,hp]:=a8j wi hx;let q:=a7x wi.rnd hp e;let:=ip _ _ hp;let key:∀y',∃m,IO_ [P_,cQ_,N!,y']:=λy'=>yV h wi hl hi ip n p y' a! (wi.rp _ _ hp) R' y4! (λz=>r2 λv=>z (q.mp v));let#[m,hm]:=key (yJ_ [p]);exact#[m+1,?_];simp![Cm,Ca,et,PP];exact body _ (λnt=>ξ hp (nt p)) λp' bz=>by rw[jD wi.rnd bz hp];exact hm
   .let nt:∀p,a2_∉W.rows:=by
     obtain rfl|rfl:=hx
     .exact mM wi (b1o wi)
     .exact mM wi (c4m wi)
    exact hF!;simp![Cm,Ca,et,PP];exact body _ (λ_=>r2 (b7j nt e)) (λp hp=>ξ hp (nt p))
def c4s(h:aa!)(wi:Bt W)(hl:f5!)(hx:cQ!)(hi:Go i)(hR:∀b:Bool,(b=τ↔Wn W.rows i x)->R al_ M):Kw [dG_,x,i] M R:=by let#[rk,ip]:=wi.rk;exact j_;exact yV h wi hl hi ip (rk x+1) x υ a! hx _ (λz y'=>hR τ iw!) (λz=>hR θ iw!)
def tP(h:cm!)(hk:bn!):Gq neg M y A_=C4_ (I9_ ib_ ib_):=by simp[Gq,h,hk]
def c7y(hx:Sd x)(ha:Sd a)(J:Sd b):Gq θ M x lJ!=JF_ (x=a\/x=b):=by
 let d1:=jY ha;let d2:=jY J;let e:((O!).any λd=>Ej d x)=decide (x=a\/x=b):=by
  simp![RT,List.any_nil,WY,mX ha hx,mX J hx];by_cases Y:a=x<;>by_cases h2:b=x<;>simp[Y,h2,NY]<;>first|exact .inl Y.symm|exact .inr h2.symm|exact⟨λz=>Y z.symm,λz=>h2 z.symm⟩|skip
 show(if Bc x&&Br O!&&decide (Cz O!<=40)then ψ (D.bl (if θ=τ then _ else[a,b].any λd=>Ej d x))else υ)=_;rw[MO (by simp[eC hx,Br,eC ha,eC J,Cz];omega),e];rfl
def d7t(hx:fx ρ=ψ x)(K:L_):w2 g lQ_ fb ρ M K=fb ρ M λy M2=>match g M2 x y with|some d=>K d M2|none=>False:=by simp![w2,wl,hx]<;>rfl
def b7w:(Fy_ ct_).isSome=decide ky_:=by rw[mV];by_cases h:x∈W.its<;>simp[h]
def pV(h:aa!)(h0:ez_)(hx:fx ρ=ψ x)(hk:aB_)(K:L_):w2 aX_ lQ_ bz! ρ M K=K yP! M:=by let#[wt,wn,qa,hA]:=h;let#[e0,hw]:=hA.mw;let#[e1,ht]:=hA.mt;let hi:=ixw (ρ:=ρ) h0 hw k3t;let e:=tP (neg:=θ) ht hk;rw[show(if θ=τ then _ else(Fy_ ct_).isSome)=decide ky_ from b7w]at e;rw[d7t hx,hi,e]
def a7s(h:aa!)(wi:Bt W)(hl:ey_<4000)(hi:Sd i)(hx:Sd x)(hs:Sd s)(de:fF!)(hkx:ps!)
  (hR:∀M' W',(el_->∃am,Qt W.rows i x s am/\W'={W with rows:=am})->(¬el_->W'=W)->Es! O W'->Dp_ O->Ed_ M'):Ig [dG_,i,x,s] M R:=by
 exact j_;show As (Dt (wT _) (Ym (wT _) (wT _))) _ Bf dH_ M _;let g1:=pV (ρ:=dH_) (fx:=Aa 1) h χ χ de;let g2:=pV (ρ:=dH_) (fx:=Aa 2) h χ χ hkx;let g3:∀K:D->Mh->Prop,w2 aX_ A! wC_ dH_ M K=Dn! K BL_ M:=λK=>by
  let u4:Aa 2 dH_=ψ x:=χ;let:=c7y (M:=M) hx (iU "root") (iU "bin");simp![w2,wl,u4,fC,this]
 let no:(¬el_)->R .non M:=λc=>hR M W (HO! z c) pZ! h .refl;let inner:i∈W.its->Gy W x->As wE! s9! Bf dH_ M hG!:=λc1 c2=>by
  let hc:∀(K:L_),Kw [dG_,x,i] M K->Ak 3 Kw wD! dH_ M K:=λK h=>cO!;exact hc _ (c4s h wi a! c2 (wi.nm i c1) λb J=>?_);cases b with
  |true=>exact no λz=>z.2.2 (J.mp χ)
  |false=>
   let nw:¬En! Wn i x:=λz=>by let:=J.mpr z;exact C6! this
   let j0:∀(K:L_),Ih [dG_,i,x,s] M K->Ak 4 Ih wD_ dH_ M K:=λK h=>cO!;simp![Bool.not_false,PP];exact iN (j0 _ (a7t h em! hi hx hs hl λM' am hg hL hF=>?_))
   .let#[Y,h2,_]:=G1_ q;exact#[Y.sd,h2,Y.nn.1]
   .exact hR M' _ (λ_=>#[am,hg,χ]) (HO! #[c1,c2,nw] z) hL hF
 simp![As,Dt,Ym,wT,g1];show"!~"
 .rw[NG c1];simp![PP,g2];by_cases c2:x∈W.its
  .rw[NG c2];exact inner c1 (.inl c2)
  .rw[NA c2];simp![OC,PC,g3];by_cases c3:x=root\/x=binn
   .rw[NG c3];exact inner c1 (.inr c3)
   .rw[NA c3];exact no λz=>z.2.1.elim c2 c3
 .rw[NA c1];exact no λz=>c1 z.1
end
def Zq:WS:=(Ag wG_
 (Ag wI_
 (Ag wJ_
 wL_)))
def Zp:WS:=wM_
def HH:WS:=wQ_
def Sz:WS:=(Ag j0!
 (IY_ 6 bN!
 (Ag CI_
 (IY_ 8 oC_
 wV!))))
def Zr:WS:=(IY_ 9 oD_
 (Ag j0!
 wY_))
abbrev Uz(k:Str):Ae->ι Bool:=Jz! G!
abbrev Uj:WT:=wT hk!
def c5u:Zl=Ag ox_ (Ag oy!
 (As CJ! Zq (As CJ_ oA! (As CK! oA_
  (As CK_ Zp CL_))))):=χ
section
variable{M:Mh}{R:D->Mh->Prop}{w:sw!}{O:Addr->Prop}{W:OW}{ρ:Ae}{pre:List D}
def c1n(h:q4!):Uz k' ρ=ψ lp!:=by
 let e:Ai cT_ U_=ψ G!:=by
  show qo!;show"#/";simp
 let:f2 At bO! (fC qn_) ρ=C4_ lp!:=by
  show((lR!).bind λx=>Ai x U_).bind (λx=>At x qn_)=_;rw[h];show(Ai cT_ U_).bind _=_;rw[e];exact dG k k'
 delta Uz fT;rw[this];rfl
def p1(h:CM!):Ev! C! ρ=ψ a:=by show Fk_ aV!=_;rw[h];exact ix1
def p2(h:Aa 2 ρ=ψ qp!):Gg! C! ρ=ψ b:=by show Fk_ cA_=_;rw[h];exact ix2
def p3(h:Aa 2 ρ=ψ qp_):IJ! C! ρ=ψ c:=by show Fk_ aW!=_;rw[h];exact ix3
def anF{R:l_}(h:A9_)(k:fZ!):Dw! CM_:=by simp![As,Dt,Ca,h];exact k
def anT{R:l_}(h:Ba_)(hu:∀K:Bool->Mh->Prop,K b M->II_ fu)(k1:CN!)(k2:CN_):Dw! CM_:=by
 simp![As,Dt,Ca,h,PP];exact hu _ ?_;cases b with
 |true=>rw[y_];exact k1 χ
 |false=>rw[bO_];exact k2 χ
def a2p(h:aa!)(h0:ez_)(h2:CM!)(hk:dx_)(K:fS_)(hK:D2! K (a∈W.its) M):II_ Uj:=by delta Uj wT;rw[pV h h0 (p1 h2) hk];exact hK
def Bu.sd(h:Bu x):Sd x:=by
 obtain rfl|rfl|⟨a,b,rfl,_⟩:=h
 .exact iU _
 .exact iU _
 .exact .inr pq_
def Kn.sd(h:Kn x):Sd x:=by
 obtain rfl|⟨a,b,rfl,_⟩:=h
 .exact cv!
 .exact .inr pq_
def Jb.sd(h:Jb x):Sd x:=by
 obtain rfl|⟨a,b,c,rfl,_⟩:=h
 .exact cv!
 .exact .inr yR!
def Lg.tx(h:ex!)(h0:ez_):C9! bz! f3!:=by let#[e,hw]:=h.mw;exact Kb! k3t
def Lg.nb(h:ex!)(h0:ez_):C9! oz! lI!:=by let#[e,hw]:=h.mw;exact Kb! k3n
def c3j{R:l_}(h:aa!)(wi:Bt W)(ha:fB_)(hk:dx_)(h0:ez_)(h2:Aa 2 ρ=ψ ln_)(p0:0<=p)(p3':p<=3)
  (hR:∀M',Es! O (AO W a qm!)->Dp_ O->R ad! M'):HK! Zp:=by
 let#[wt,wn,qa,hA]:=h;let#[e0,e1,e2,L]:=hA.L;let#[e,hn]:=hA.mn;let hx:Hv (h3!).length p=ψ p.toNat:=by
  rw[wi.nl a ha];delta Hv;rw[MO p0,aJ!]
 exact c5v (aP (p3 h2)) (eG (hA.nb h0) (aP (p1 h2)) (IZ! hn CO!)) (aP (p2 h2)) (hA.mq ha).1 hx ?_;exact hR _ (FR! #[e0,e1,e2,?_]) (hA.fr (.inr (De_ #[a,ha,χ])));let#[u,v',ei,hu]:=kC ha;let nd:=wi.nd;rw[ei,OL,NO]at nd;let e1:∀l:List D,a∉l->(l.map λi=>q5_)=l.map λi=>eA_:=λl hl=>OT λi hi=>by rw[MZ λz:i=a=>hl (z▸hi)]
 delta HM at L ⊢;show HL _ _ (_::_::_::W.its.map λi=>q5_);let ei':(W.its.map λi=>q5_)=CP!++(qa a,.lst qm!)::v'.map λi=>eA_:=by
  rw[ei,NV,MU,e1 u hu,e1 v' nd.2.1.1,y_]
 let ej:CQ_=CP!++(qa a,.lst h3!)::v'.map λi=>eA_:=by rw[ei,NV,MU]
 rw[ej]at L;rw[ei'];exact L.put (u:=_::_::_::u.map λi=>eA_)
def b7s(h:aa!)(h0:ez_)(hx:fx ρ=ψ a)(hk:dx_)(ha:fB_):C9! (w2 By bz! lQ_) q8!:=by let#[wt,wn,qa,hA]:=h;let#[e1,ht]:=hA.mt;exact eG (hA.tx h0) (aP hx) (IZ! ht CO!)
def d1j:Ai (Cr q) U_=ψ q.1:=by rfl
def d7w:Ai (Cr q) aV!=ψ q.2.1:=by rfl
def d7v:Ai (Cr q) cA_=ψ (.bl q.2.2):=by rfl
def a2q(hx:Sd x)(hl:∀d∈l,Sd d):Gq neg M x (.lst l)=C4_ (if neg then !decide (x∈l)else decide (x∈l)):=by
 let e:CT!=decide (x∈l):=by
  rw[PU,List.any_eq_true,NT];show"!r"
  .rintro⟨d,hd,he⟩;rw[mX (hl d hd) hx,NT]at he;rw[<-he];exact hd
  .intro h;exact#[x,h,by rw[mX hx hx];simp]
 let n:∀l:List D,(∀d∈l,Sd d)->Br l=τ/\Cz l<=5:=λl=>by
  induction l with
  |nil=>intro _;simp[Br,Cz]
  |cons a r ih=>
   intro h;let#[i1,i2]:=ih λd hd=>h d (MF _ hd)
   let Y:=eC (h a ML);let h2:=jY (h a ML);exact#[by simp[Br,Y,i1],by dsimp only[Cz];omega]
 let#[n1,n2]:=n l hl;show(if Bc x&&Br l&&decide (Cz l<=40)then ψ (D.bl (if neg=τ then ! CT! else l.any λd=>Ej d x))else υ)=_;rw[MO (by rw[eC hx,n1];simp;omega),e]
def b8q{R:l_}(h:aa!)(nd:W.its.Nodup)(hB:f7_<5000)(h0:ez_)(hx:fx ρ=ψ a)(hk:dx_)(ha:fB_)(hv:C9! fv lT_)
  (hR:∀M',Es! O pg_->Dp_ O->R ad! M'):Bx bz! lQ_ fv ρ M R:=by
 let#[wt,wn,qa,hA]:=h;let#[e0,e1,e2,L]:=hA.L;exact b8s hv (hA.tx h0) (aP hx) CU! hk f8! (hR _ (FR! #[e0,Ia ct_ a e1,e2,?_]) (hA.fr b5!));let:=L.put (u:=[_]) (c:=.dct (Bp ct_ a lT_) (Ia ct_ a e1));rw[a5t nd ha]at this ⊢;let e:(W.its.map λi=>(i,if i=a then D.lst q8_ else D.lst lI_))=W.its.map λi=>(i,D.lst (GK! pg_ Cr)):=OT λi _=>by
  show _=(i,D.lst ((if i=a then l else W.txt i).map Cr));split<;>rfl
 rw[e]at this ⊢;exact this
def nE(h:f ρ=ψ (.int (n:δ)))(hn:n<=100000):Eu f ρ=ψ ((oQ!).map λi=>D.int cX_):=by delta Eu;rw[h];show(if -1000<=ij!/\ij!<=100000 then ψ (Db (ij!).toNat)else υ)=_;rw[aJ!];rfl
def c3l{R:l_}(h:aa!)(wi:Bt W)(hB:f7_<5000)(ht:CV_)(ha:fB_)(hk:dx_)(m1:1<=m)(m16:m<=16)
  (hR:∀M' ρ',Es! O (setT W a (cutT pB! a6!))->Dp_ O->R cV! M'):
  Zr CW! M R:=by
 let hm:((m.toNat:δ):Int)=m:=by omega
 let ix2':Ai fS! cA_=ψ fI_:=ix2;let hc:Pu oD_ CW! M (.lst pB!):=λK hK=>by
  delta Bd Gu;rw[nE (by rw[hm];exact p3 χ) a!];exact iY #[by simp[big];omega,cO eB! (λd=>match d with|.int k=>.tup [hH_,hI!,.int (z+k)]|_=>.non) ο _ _ a7! (by rw[f8_,OD];exact hK)];let#[k,cu,rfl]:=NB.mp hd;exact#[[ψ ra!,ψ fS!],χ,eB_,λ_=>aP (aS (by delta Dq;rw[aS χ χ ix2'];rfl) (a0a (cB (aS (aS (Jc_ ix2') χ χ) χ χ) χ) χ) χ)]
 exact gW hc ?_;generalize hg:(pA_).map (λk=>D.tup kK!)=ux at hR;let yq:∀d∈ux,Sd d:=λd hd=>by
  rw[<-hg]at hd;let#[k,_,rfl]:=NB.mp hd;exact Jx_ #[[x,y,z+(k:δ)],χ]
 exact Il_ h (b8q h wi.nd hB χ f9_ hk ha (λK hK=>?_) λM' g1 g2=>hR M' _ g1 g2);exact#[by simp[big];omega,cO eB! (λd=>match d with|.tup [s,c,.bl b]=>Cr (s,c,b&&!decide (s∈ux))|_=>.non) ο _ _ a7! ?_]
 .show"!?";exact#[[lW!,ψ (.lst ux)],χ,eB_,λ_=>c5w CX_ (aP (Jc_ d7w)) (c5y (aP (Jc_ d7v)) (λe=>?_) λe=>by rw[e];rfl)];rw[e];exact eG CX_ c! (a2q (CY!).sd yq)
 .rw[f8_,OD];delta cutT at hK;rw[OD]at hK;exact hK
def IJ(l:a3_)(b:D)(k a:δ):Prop:=(a=0/\∀j<k,CY_≠ψ b)\/∃j<k,CY_=ψ b/\a=j+1
def a7w{o4:D}(hl:ah!<5000)(hs:∀q∈l,Sd q.1)(J:Sd b)(R:l_)(hR:∀(a:δ) y,IJ l b l.length a->D0! CZ_ M):
  ∀(m k a:δ) (y:Z_),ah! - k=m->k<=ah!->IJ l b k a->Fw cJ_ P! HH Cv! CZ_ M R
 |0,k,a,y,hm,hk,ha=>(EV_ l.length)
 |m+1,k,a,y,hm,hk,ha=>by
  let c1:k<ah!:=by omega
  exact av_;show HH ra_ M _;let e1:=NK c1;let ea:Et q8_ cW!=ψ (Cr l[k]):=by
   show"#/";simp[c1]
  let cond:fT wP_ ra_=J9_ ((l[k]).1=b):=by
   delta fT;rw[aS (aS (Jc_ ea) χ d1j) (p2 χ) (nN (hs _ id!) J)];rfl
  let es:G1! bu! ra_=ψ qW_:=by
   show qX!;rfl
  by_cases z:(l[k]).1=b
  .exact Cv_;exact a7w (o4:=o4) hl hs J R hR m R! R! _ a! a! (.inr #[k,p_,by rw[e1];exact congrArg ψ z,χ])
  .exact jH Cw! ?_;exact a7w (o4:=o4) hl hs J R hR m R! a _ a! a! ?_;obtain⟨Y,h2⟩|⟨j,Y,h2,h3⟩:=ha
   .exact .inl #[Y,ke_];by_cases y:j=k
    .rw[y,e1];exact λx=>z (OK x)
    .exact h2 j a!
   .exact Cx!
def IJ.wr(h:IJ l b l.length a)(nd:oT!):wrT b nw l=l.take a++nw++l.drop a/\a<=ah!:=by
 obtain⟨rfl,h2⟩|⟨j,Y,h2,rfl⟩:=h
 .let nb:b∉l.map e_:=λz=>by
   let#[j,hj]:=UQ.mp z;rw[OE]at hj;let:j<ah!:=by
    cases e:l[j]? with
    |none=>rw[e]at hj;rcases hj
    |some q=>exact(NE.mp e).1
   exact h2 j this hj
  delta wrT;rw[MZ nb];simp
 .let hj:=NK Y;rw[hj]at h2;let J:=OK h2;let e:l=l.take j++l[j]::l.drop b7!:=by rw[<-QQ Y,List.take_append_drop]
  let nb:b∉(l.take j).map e_:=λz=>by
   rw[e]at nd;simp![NV,MU]at nd;rw[OL]at nd;exact nd.2.2 _ z _ b! J.symm
  let me:b∈l.map e_:=by rw[<-J];exact NQ (QF Y)
  exact#[?_,p_];delta wrT;rw[MO me]
  conv=>lhs;rw[e]
  rw[wG J nb,RZ Y];simp![PN,QX,QC]
def b4g(h n:Int)(s:Str):Ef_ en_=(Eo_ F_).map λk=>(D.tup qm_,D.str C1!,τ):=by
 apply XD;intro i;rw[OE,OE,WB];by_cases c:i<cl_
 .let c':i<F_:=by simpa[Str.length]using c
  rw[NK c,List.getElem?_range c'];simp[sgn,List.getD,NK c];simp at c;simp[c]
 .let c':¬i<F_:=by simpa[Str.length]using c
  rw[PH a!,PH aS!];rfl
def b0g{R:l_}(hL:aa!)(wi:Bt W)(hB:f7_<5000)(ht:CV_)(ha:fB_)(hk:dx_)(J:Sd b)(s16:hL_)
  (hR:∀M' ρ',Es! O (setT W a (wrT b hM! a6!))->Dp_ O->R cV! M'):
  Sz [P_,ak!,ik_,bX!,y4,υ,υ,υ,υ,υ] M R:=by
 exact Il_ hL (gW c! ?_);show F0! CI_ rc!;let er:Eu wP! rc!=ψ ((List.range (a6!).length).map λi=>D.int cX_):=nE (by
  show Bv [.lst q6_]=_;simp[Bv]) a!
 delta Ag Cn Gu;rw[er,List.range_eq_range'];exact a7w (o4:=.non) ht (λq hq=>(CY!).sd) J _ (λat_ y zr=>?_) (a6!).length 0 0 υ a! a! CA_;let#[ew,oz]:=zr.wr (nw:=Ef_ en_) (wi.snd a ha);let hnl:(hM!).length=F_:=by simp[Str.length]
 let hc:Pu oC_ [P_,ak!,ik_,bX!,y4,ψ q8!,ψ (.int (at_:δ)),y,υ,υ] M (.lst ((hM!).map Cr)):=λK hK=>by
  delta Bd Gu;rw[nE (n:=s.length) (by show Bv [bF_]=_;simp[Bv,big];omega) a!];exact iY #[by simp[big];omega,cO eB! (λd=>match d with|.int k=>Cr (.tup A4!,.str #[[s.cps.toList.getD k.toNat 0].toArray],τ)|_=>.non) ο _ _ a7! (by rw[b4g,OD]at hK;rw[f8_,OD];exact hK)];let#[k,cu,rfl]:=NB.mp hd;let ww:=RY.mp cu;let hc:k<cl_:=by simpa[Str.length]using ww
  let e3:Ai aI_ ra!=E7_ C1!:=by
   show(if F_<=big then(Et s.cps.toList cW!).map _ else υ)=_;rw[cn!];show"#/";rw[aJ!,aJ!];dsimp only[Option.bind_some,Int.toNat_natCast];rw[NK hc,List.getD_eq_getElem?_getD,NK hc];rfl
  exact#[[ψ ra!,ik_,bX!],χ,eB_,λ_=>aP (a0a (cB χ (cB (aS (Jc_ ix3) χ e3) et!)) χ)]
 exact gW hc ?_;generalize s.cps.toList.zipIdx.map en_=nw at *;exact b8q hL wi.nd hB rfl f9_ hk ha (aP (aS (x:=.lst ((q6_).take at_++nw.map Cr)) (aS (c3t lO!) rfl ?_) (a7e lO!) ?_)) λM' g1 g2=>hR M' _ g1 g2
 .show h1!;rw[lO_]
 .show h1!;rw[lO_,ew];simp
end
def HL.perm{M0 M:Mh}(h:qA_)(p:l.Perm l'):HL M0 M l':=#[λq hq=>h.cell q rg_,(p.map _).nodup_iff.mp h.nd,λq hq=>h.fr q rg_,h.kp]
section
variable{M:Mh}{R:D->Mh->Prop}{w:sw!}{O:Addr->Prop}{W:OW}{ρ:Ae}{pre:List D}
def c4j{f1 f2 f3 f4:m_}(Y:fK!)(h2:hN!)(h3:qq!)(h4:f4 ρ=ψ d)(k:g [a,b,c,d] M K):Fq! 4 Bd_:=by delta Ak Ab Ad;rw[dS Y,dS h2,dS h3,dS h4];exact cZ!
def c3k{R:l_}(hL:aa!)(wi:Bt W)(hB:f7_<4000)(hl:ey_<3900)(hn:rh!)(ha:Sd a)(hk:dx_)(J:Sd b)
  (hR:∀M' ρ' O' am,JN! V_->Es! O' (Iu W V_ am)->Dp_ O'->R cV! M'):
  Zq [P_,ak!,ψ hS!,bX!,υ,υ,υ,υ,υ,υ] M R:=by
 let#[wt,wn,qa,hA]:=id hL;let#[e0,e1,e2,L]:=hA.L;let gr:Ck V_=some (some (.inr [.inl h,.inl n])):=rfl;exact gW (d:=.bl (decide rj_)) (d1s (λK hK=>by rw[pV hL rfl f9_ hk];exact hK) (λe=>aP (aS f9_ rfl ((nN ha (iU _)).trans (by simp[UB e])))) λe=>NG (.inl (PM e))) ?_;generalize hg:decide rj_=g;delta Ag;let kt:=yW (g:=λi=>D.lst lI_) (v:=in!) hn;exact b8s c! (hA.tx rfl) c! CU! gr f8! ?_;let L1:=L.put (u:=[_]) (c:=.dct rl! rm!);exact#[by show 4<=1000;decide,eu_];let L2:=L1.new (c:=.lst fM_) hq;let hw2:=L2.cell (w,_) ig!;let iz:=L2.cell (wn,_) (MF _ qU_);exact eG c! c! ((fK hw2 rfl).trans k3n) _ l2_;rw[kE iz gr f8!];let L3:=L2.put (u:=[_,_,_]) (c:=.dct rm_ ro!);exact iY ?_;generalize hM3:mup (mup (mup M wt (.dct rl! rm!)) q (.lst fM_)) wn (.dct rm_ ro!)=M3 at L3 ⊢;let qM:M q=none:=by
  by_cases z:q=wt
  .rw[z,mup_same]at hq;rcases hq
  .rw[mup_ne z]at hq;exact hq
 let ni:∀i∈W.its,i≠.tup bF!:=λi hi z=>hn (z▸hi)
 let -nondep f9:D->Addr:=λi=>if i=.tup bF! then q else qa i
 let bh:∀i∈W.its,f9 i=qa i:=λi hi=>MZ l3_;let wx:f9 V_=q:=MO χ;let ce:Lg M3 w ro_ l4! wt wn f9:=by
  exact#[#[e0,Ia ct_ V_ e1,Ia io! V_ e2,?_],λb=>?_]
  .rw[kt,yW hn]at L3;exact L3.perm ?_;let m1:(gc!).map (λi=>(i,D.lst (GK! l4! Cr)))=ct_++[(.tup bF!,.lst [])]:=by
    rw[NV];congr 1
    .exact OT λi hi=>by show(i,D.lst ((if i=_ then[]else W.txt i).map Cr))=_;rw[MZ l3_]
    .show[(_,D.lst ((if _=_ then[]else _).map Cr))]=_;rw[y_];rfl
   let m2:IP! (λi=>(i,D.fn (f9 i)))=io!++[(.tup bF!,.fn q)]:=by
    rw[NV];congr 1
    .exact OT λi hi=>by rw[bh i hi]
    .show[(_,D.fn (f9 _))]=_;rw[wx]
   let m3:IP! (λi=>(f9 i,Dh.lst ((l4!).num i)))=CQ_++[(q,.lst fM_)]:=by
    rw[NV];congr 1
    .exact OT λi hi=>by show(f9 i,Dh.lst (if i=_ then _ else W.num i))=_;rw[bh i hi,MZ l3_]
    .show[(f9 _,Dh.lst (FE_ _ _))]=_;rw[wx,y_]
   show List.Perm _ (_::rr_::rr_::IP! _);rw[m1,m2,m3];exact(List.perm_append_singleton (q,Dh.lst fM_) (_::_::_::W.its.map λi=>eA_)).symm
  .show(O b\/b=q)↔_\/_\/_\/∃i∈W.its++[D.tup bF!],f9 i=b;rw[hA.O,or_assoc,or_assoc,or_assoc];exact UM (UM (UM #[bZ_,λ⟨i,hi,e⟩=>?_]))
   .obtain⟨i,hi,e⟩|z:=z
    .exact#[i,NM _ hi,(bh i hi).trans e]
    .exact#[_,MY _ kW!,wx.trans z.symm]
   .obtain z|z:=ND.mp hi
    .exact .inl #[i,z,(bh i z).symm.trans e]
    .rw[cY!,wx]at e;exact .inr e.symm
 let F1:Fr M O M3 ro_:=λc hc hr=>by
  let cq:=eS hc qM;exact#[?_,λz=>z.elim hr cq];rw[<-hM3,mup_ne λz=>Hs! wn (.inr b5!),Ds_ cq,mup_ne λz=>Hs! wt b5!]
 exact iN (c4j χ χ ?_ (p2 χ) (a7t #[wt,wn,f9,ce] em! (.inr (De_ #[[h,n],χ])) (by split;exact ha;exact iU _) J (by show ey_<_;omega) λM' am tu cz hF'=>hR M' _ _ am tu cz (F1.trans hF')))
 .delta Yi;rw[show fT S_ _=ψ g from χ,p1 χ];show(if g=τ then ψ a else ψ binn)=_;rw[<-hg];by_cases c:a∈W.its\/a=root
  .rw[MO (NG c),MO (c.elim .inl λz=>.inr fj_)]
  .rw[MZ λz=>c (PM z)];by_cases c2:Gy W a
   .rw[MO c2,c2.resolve_left (λz=>c fj_) |>.resolve_left λz=>c g4_]
   .rw[MZ c2]
 .let#[z1,z2,_]:=G1_ q;exact#[z1.sd,z2,z1.nn.1]
end
structure Ro(W:OW)(B:Nat):Prop where
 rows:ey_<=B
 its:f7_<=B
 txt:∀x,(bB_).length<=B
def Qt.len(h:ht_):am.length<=rows.length+1:=by
 let#[u,v,e1,e2,_]:=h;let Y:(eg_).length<=rows.length:=by delta wo;exact QT _ _
 rw[e1,NR]at Y;rw[e2,NR,NH];omega
def Ro.stp(l:cu!)(h:Hl! n):Ro W' bE_:=by
 let l1:=l.rows;let l2:=l.its;let l3:=l.txt;let same:Ro W bE_:=#[p_,p_,λx=>by let:=l3 x;omega];cases h with
 |put _ _ hg=>
  let:=hg.len;exact#[by show _<=_;delta Iu;simp only;omega,by delta Iu;simp![NR,QR];omega,kk!];delta Iu;simp only;split
  .simp
  .let:=l3 x;omega
 |mvY _ _ _ _ hg=>
  let:=hg.len;exact rt_
 |mvN=>exact same
 |drY _ _ hg=>
  let:=hg.len;exact rt_
 |drN=>exact same
 |@wrt a b s h m _ _ hs e=>
  split
  .exact ru_;delta setT;simp only;split
   .let#[u,v,e1,e2,_]:=IM! qD;let:=l3 a;rw[e1,NR]at this;rw[e2];let c8:cl_<=16:=hs;simp![NR,MV,VA];omega
   .let:=l3 x;omega
  .exact same
 |cut=>
  split
  .exact ru_;delta setT;simp only;split
   .delta cutT;rw[MV];exact same.txt _
   .exact same.txt x
  .exact same
 |set=>
  split
  .exact#[same.rows,same.its,same.txt]
  .exact same
section
variable{M:Mh}{R:D->Mh->Prop}{w:sw!}{O:Addr->Prop}{W:OW}{ρ:Ae}{pre:List D}
def fX{R:l_}(h:bS!)(k:q bR_ M R):Km! (wl f):=by delta Ag Am;rw[dS h];exact k
def kT(h:q4!)(e:(k==k)=τ):Uz k ρ=ψ true:=by rw[c1n h,e]
def kF(h:q4!)(e:lp!=θ):Uz k' ρ=ψ false:=by rw[c1n h,e]
def LG:WS:=As CK_ Zp CL_
def LH:WS:=As CJ_ oA! (As CK! oA_ LG)
def BX:WS:=As CJ! Zq LH
def c5t:Zl=Ag ox_ (Ag oy! BX):=c5u
def Ta(w:sw!)(x0 d nm:D):Ae:=[P_,ak!,fZ_,lV_,υ,υ,υ,υ,υ,υ]
def dv0:Aa 0 rv_=ψ dH!:=χ
def nY:Aa 2 rv_=ψ d:=χ
def CZ(W:OW)(M:Mh)(w:sw!)(O:bD_)(n d:D)(R:l_):Prop:=∀M' O' W' ρ',Hl! n->Es! O' W'->Dp_ O'->R cV! M'
def d4c{R:l_}(hL:aa!)(wi:Bt W)(ai:cu!)(hB:dL!)(hn:rh!)(ha:Bu a)(J:Kn b)
  (hR:E2_ V_ hS!):D9_ hS! V_:=by
 show"!6";let l1:=ai.rows;let l2:=ai.its;exact HD! c1p;exact Id! c3k a! hn ha.sd bq J.sd λM' ρ' O' am hg cz hF=>hR M' O' _ ρ' (.put ha J hg) cz hF
def c8r{R:l_}(hL:aa!)(wi:Bt W)(ai:cu!)(hB:dL!)(ha:Bu a)(J:Bu b)(hc:Kn c)
  (hR:E2_ nm hS_):D9_ hS_ nm:=by
 show"!6";let#[kb,l8]:=cX J;let l1:=ai.rows;exact jH aq! ?_;exact HD! a2c;exact iN (c4j dv0 (p1 nY) (p2 nY) (p3 nY) ?_);exact Id! a7s ha.sd J.sd hc.sd bq l8 λM' W' Y h2 cz hF=>?_;by_cases g:a∈W.its/\Gy W b/\¬En! Wn a b
 .let#[am,hg,e]:=Y g;rw[e]at cz;exact DI! (.mvY ha J hc g hg)
 .rw[h2 g]at cz;exact DI! (.mvN ha J hc g)
def c8s{R:l_}(hL:aa!)(wi:Bt W)(ai:cu!)(hB:dL!)(ha:Bu a)
  (hR:E2_ nm hT!):D9_ hT! nm:=by
 show"!6";let l1:=ai.rows;show"!;";exact HD! a2d;exact iN (c4j dv0 (p1 nY) χ χ ?_);exact Id! a7s ha.sd (iU _) W_ bq χ λM' W' Y h2 cz hF=>?_;by_cases g:a∈W.its/\Gy W binn/\¬En! Wn a binn
 .let#[am,hg,e]:=Y g;rw[e]at cz;exact DI! (.drY ha g hg)
 .rw[h2 g]at cz;exact DI! (.drN ha g)
def d4b{R:l_}(hL:aa!)(wi:Bt W)(ai:cu!)(hB:dL!)(ha:Bu a)(h0:0<=p)(h3:p<=3)
  (hR:E2_ nm ln_):D9_ ln_ nm:=by
 show"!6";let st:=Tc.set (W:=W) (n:=nm) (v:=v) ha h0 h3;show"!;";exact jH aq! ?_;exact Fc_ c1o
 .show"#A";exact c3j hL wi c' bq dv0 nY h0 h3 λM' cz hF=>DI! st
 .show"#@";show"#-";show"#-";show"#B"
def c3i{R:l_}(hL:aa!)(wi:Bt W)(ai:cu!)(hB:dL!)(ha:Bu a)(J:Jb b)(hs:hL_)
  (hR:E2_ V_ dA_):D9_ dA_ V_:=by
 show"!6";let l2:=ai.its;let l3:=ai.txt a;let st:=Tc.wrt (W:=W) (n:=kQ_) ha J hs χ;show"!;";exact jH aq! ?_;show"#-";exact Fc_ a5w
 .show"#A";exact Id! b0g a! c' bq J.sd hs λM' ρ' cz hF=>DI! st
 .show"#@";show"#-";show"#B"
def d4d{R:l_}(hL:aa!)(wi:Bt W)(ai:cu!)(hB:dL!)(ha:Bu a)(h0:0<=z)(Y:1<=m)(h2:z+m<=16)
  (hR:E2_ nm fS!):D9_ fS! nm:=by
 show"!6";let l2:=ai.its;let l3:=ai.txt a;let st:=Tc.cut (W:=W) (n:=nm) (x:=x) (y:=y) ha h0 Y h2;show"!;";exact jH aq! ?_;show"#-";show"#-";exact Fc_ c1r
 .show"#A";exact Id! c3l a! c' bq Y a! λM' ρ' cz hF=>DI! st
 .show"#@";show"#B"
def uX(o:Op):FQ_ aW!=ψ o.d:=by rfl
def mF(o:Op):FQ_ U_=ψ lE_:=by rfl
def a0p(o:Op):FQ_ aV!=C2_ o.n:=by rfl
def b3f(Y:f ρ=ψ a)(h2:g ρ=ψ b):Kq_ f g ρ=ψ lJ!:=by simp[Bg,Ac,Af,Y,h2]
def d5d{o:Op}(hL:aa!)(hw:fY_)(hn:o.nm∉pre)(hd:h6!)(hu:Cu o.d=υ)(ai:cu!)(hB:dL!)
  (hR:∀M' O' W',Tc W o.nm o.d W'->Es! O' W'->Dp_ O'->Ed_ M'):Wz [dG_,o.v] M R:=by
 exact j_;rw[c5t];let e3:=uX o;exact fX (ρ:=[P_,T_,none,none,none,none,none,none,none,none]) e3 ?_;let e0:Bg wF! rz_=some o.nm:=b3f (mF o) (a0p o);exact fX (ρ:=rz_) e0 ?_;generalize hK:zZ!=K;let ic:CZ W M w O o.nm o.d K:=λM' O' W' ρ' Y h2 h3=>by rw[<-hK];exact hR M' O' W' Y h2 h3
 let qc:o.nm∉W.its:=λz=>hn (hw.its _ z);clear hR hK e3 e0 hn;let#[h,n,tm,d]:=o;generalize Op.v #[h,n,tm,d]=v;change BX (Ta w v d V_) M K;change CZ W M w O V_ d K at ic;change D.tup bF!∉W.its at qc;change DG d at hd;change Cu d=none at hu;cases hd with
 |put ha J=>exact Eg_ d4c qc ha J ic
 |move ha J hc=>exact Eg_ c8r ha J hc ic
 |drop ha=>exact Eg_ c8s ha ic
 |write ha J _ _ hs=>exact Eg_ c3i ha J hs ic
 |cut ha hs Y h2=>
  let#[_,_,_,e,_,_,_,_,z0,_]:=hs;cases e;exact Eg_ d4d ha z0 Y h2 ic
 |set ha Y h2 _=>exact Eg_ d4b ha Y h2 ic
 |undo _=>rw[qF]at hu;exact C6_ hu (Fq_ Bo!)
 |redo _=>rw[qF]at hu;exact C6_ hu (Fq_ Bo_)
end
def Ro.mono(l:cu!)(h:cP_):Ro W B':=#[NW l.rows h,NW l.its h,λx=>NW (l.txt x) h]
section
variable{M:Mh}{R:D->Mh->Prop}{w:sw!}{O:Addr->Prop}{W:OW}{ρ:Ae}{pre:List D}
def d7h(hp:cm!)(h0:fo ρ=ψ A_)(Y:fa ρ=ψ y)(h2:fb ρ=ψ z)(hk:bn!)(K:L_)(hK:K ((ib_).getD z) M):Fd ep! lw! (wl fb) ρ M K:=by
 let c:Dr M A_=ψ lj_:=by simp[Dr,hp]
 simp![Fd,wl,h0,Y,h2,c,Dm,hk];exact hK
def wV{f1 f2:m_}(Y:fK!)(h2:hN!)(k:g O! M K):Fq! 2 pK_:=by delta Ak Ab Ad;rw[dS Y,dS h2];exact cZ!
def sO{g:WF}{f1:m_}{K:L_}(Y:fK!)(k:g [a] M K):Fq! 1 (Ab fL! Ad):=by delta Ak Ab Ad;rw[dS Y];exact cZ!
def KL:WT:=Dt w3! w4_
def KM:WS:=As KL w5! Bf
def d7a{R:l_}(h:rA!)(k1:CN!)(k2:CN_):Dw! ft:=by
 exact h _ ?_;cases b with
 |true=>rw[y_];exact k1 χ
 |false=>rw[bY_];exact k2 χ
def c4y(h:rA!)(h2:b=τ->∀K:Bool->Mh->Prop,K c M->II_ fu)(K:fS_)(hK:K (b&&c) M):Dt ft fu ρ M K:=by
 exact h _ ?_;cases b with
 |true=>rw[y_];exact h2 χ K (Db! hK)
 |false=>rw[bY_];simpa using hK
def c7j{x:Op}(l9:rB!)(hd:DG x.d)(hp:M p=C3_ kb e0)(K:fS_)
  (hK:D2! K rC! M):KL rC_ M K:=by
 let#[k,r,e,hn,hs]:=c9c hd;let i0:=c2a e;let hu:(! if!)=decide ma!:=by
  cases hu:Cu x.d with
  |none=>
   let#[Y,h2]:=hn hu;rw[BEq.comm,Cj_,Y,h2];rfl
  |some u=>
   let#[g1,g2,hk,g9]:=hs u hu;rw[sW hk];rfl
 let#[kn,gr]:=a9f x;let hz:(∃b:Bool,(FC_ kb).getD B!=.bl b/\(b=τ↔kget wd x.nm=ψ bf_)):=by
  obtain⟨Y,h2⟩|⟨k',Y,h2⟩:=l9 x.nm
  .exact#[θ,by rw[h2];rfl,by rw[Y];simp]
  .exact#[k'=="undo",by rw[h2];rfl,?_];rw[Y];show"!r"
   .intro z;rw[eq_of_beq z]
   .intro z;rw[D.str.inj (OK z)];exact ON _
 let#[b,hb1,hb2]:=hz;let e2:Bg w4! rC_=ψ x.nm:=b3f (mF x) (a0p x);exact c4y (b:=decide ma!) (c:=!b) (λK' uy=>?_) (λ_ K' uy=>?_) K ?_
 .delta wT w2;rw[dS i0,cu_,pW];rw[hu];exact uy
 .delta Hw wT;exact d7h hp χ e2 χ gr _ ?_;rw[hb1];exact uy
 .let:(decide ma!&&!b)=decide rC!:=by
   by_cases c1:Cu x.d=υ
   .by_cases c2:FC_ wd=ψ bf_
    .rw[hb2.mpr c2];simp[c2]
    .let:b=false:=by
      cases b with
      |true=>exact C6_ (hb2.mp χ) c2
      |false=>rfl
     rw[this,NG c1,NG (#[c1,c2]:_/\_)];rfl
   .rw[NA c1,NA λz:_/\_=>c1 z.1];rfl
  rw[this];exact hK
def a1n{e0:δ}(l9:rB!):
  ∀(os:k_) (x1:D) (y:Z_) (M:Mh) (O:bD_) (W:OW) (pre:d_) (B:δ) (R:l_),(∀x∈os,DG x.d)->BZ!->(lz!).Nodup->Bm M w O W->Vc W pre->Ro W B->B+20*bp!<3800->M p=C3_ kb e0->¬O p->
   (∀M' O' W' y',Yk W qI! W'->Es! O' W'->B0!->Ro W' (B+20*bp!)->Dp_ O'->D0! [aJ_,P_,bo_,y'] M')->
   Fw as_ P! KM ah_ [aJ_,P_,bo_,y] M R
 |[],x1,y,M,O,W,pre,B,R,_,_,_,hL,hw,ai,_,_,_,hR=>#[ο,hR M O W y .nil hL #[pre,hw] (ai.mono a!) .refl]
 |x::os,x1,y,M,O,W,pre,B,R,hd,hp,nd,hL,hw,ai,hB,wy,hrp,hR=>by
  exact av_;dsimp only[List.length_cons]at hB hR;rw[MU,NO]at nd;let kh:=hd x ML;exact d7a (c7j l9 kh wy) c0_ c0_
  .let c':=PM c;let ee:Qj wd ib!=x::Qj wd os:=by delta Qj;rw[OO rG_]
   exact iN (wV χ χ (d5d hL hw lz_ kh c'.1 ai a! λM1 O1 W1 hs hL1 hF=>?_));let hq:=hF p (EI! wy) hrp;exact a1n l9 os x1 qJ! M1 O1 W1 (pre++[x.nm]) bE_ R qJ_ B2_ nd.2 hL1 (b7x hs hw lz_) (ai.stp hs) a! (hq.1.trans wy) hq.2 (λM' O' W' y' g1 g2 g3 g4 g5=>hR M' O' W' y' (by rw[ee];exact .cons hs g1) g2 g3 rH_ (hF.trans g5));obtain z|z:=ND.mp z
   .exact hp y cG! z
   .rw[NI]at z;exact nd.1 B3!
  .let c':=UB c;let ee:Qj wd ib!=Qj wd os:=by delta Qj;rw[OP rG_]
   exact a1n l9 os x1 qJ! M O W pre bE_ R qJ_ qK! nd.2 hL hw (ai.mono a!) a! wy hrp (λM' O' W' y' g1 g2 g3 g4 g5=>hR M' O' W' y' (BG_ ee g1) g2 g3 rH_ g5)
def d5c:Ro W0 0:=#[NC _,NC _,λ_=>NC _]
def d6z:(Dc_ if_).Nodup:=by
 exact NO.mpr #[?_,NO.mpr #[?_,rK!]]
 .intro z;obtain z|z:=MM.mp z
  .exact c9x z
  .exact c9y kT_
 .intro z;exact c9u kT_
def c7p:∀q∈k3 a b c,(Ck q.1).isSome=true:=λq hq=>by
 obtain rfl|hq:=MM.mp hq
 .rfl
 .obtain rfl|hq:=MM.mp hq
  .rfl
  .rw[NI.mp hq];rfl
def b4l:Wu=Ag w2!
 (IY_ 2 j4_
 (Ag (Cn he_ as_ KM)
 dh_)):=χ
def c8t{f:WE->WS}{ρ:Ae}{K:L_}(hK:∀w M' O,M w=υ->Es! O W0->qE_->K dH! M'):
  Nq w1! ρ M K:=by
 intro w hw;exact FP! pc;rw[cu_];exact FP! pc;intro wt ht;exact FP! pc;intro wn hn;let L:=(((HL.new (l:=[]) BT_ hw).new ht).new (c:=ia!) hn).put (u:=[_,_]) (c:=.dct rK_ 3);let p:List.Perm [(wn,Dh.dct [] 0),(wt,.dct [] 0),(w,.dct rK_ 3)] (HM W0 w wt wn (λ_=>w) 3 0 0):=(List.reverse_perm _).symm;let L:=L.perm p;exact#[?_,Cb!,c7p,d6z,hK w _ (λb=>b=w\/b=wt\/b=wn) hw #[wt,wn,λ_=>w,#[3,0,0,L.cell,L.nd,gt!,Co_],λb=>?_] λb J=>#[L.kp b J,λz=>J ?_]]
 .let e1:=eS (EI! mup_same) ht;rw[Ks_ (by rw[mup_ne e1,mup_same];simp) hn,Ds_ e1,mup_same]
 .exact UM (UM #[.inl,λz=>z.elim id λ⟨i,hi,_⟩=>by exact(MN hi).elim])
 .obtain rfl|rfl|rfl:=z
  .exact hw
  .exact L.fr (_,_) ig!
  .exact L.fr (_,_) qU_
def c4q{ops:k_}(nd:et_)(nn:B3_)(hl:eu!)(hd:h7_)
  (hR:∀w M' O W',M w=υ->Yk W0 (Qj h8! a6_) W'->Es! O W'->B4!->Ro W' 1500->qE_->R dH! M'):Pa cq! M R:=by
 exact j_;rw[b4l];let hp:HP_ a6_:=cF ops;delta Ag Am;exact c8t (f:=λ_=>Bf) λw M1 O hw hL fr=>?_;exact sO χ (oK nd hl hd λp M2 ep g8 gq u5=>?_);let rp:¬O p:=λz=>hL.live z g8;let u6:=hL.keep λc hc=>u5 c λz=>rp mf!;delta Cn Cb;exact sO χ (kX nd hl ?_);exact a1n (oW a6_ [] [] λx=>.inl ae!) a6_ _ υ M2 O W0 [] 0 _ (λx hx=>hd x B5!) B5_ B6! u6 d0y d5c lA_ gq rp λM' O' W' y' g1 g2 g3 g4 g5=>?_;exact hR w M' O' W' hw g1 g2 g3 (g4.mono lA_) λb J=>?_;let#[e1,e2]:=fr b J;let e3:=u5 b λz=>by rw[<-e1,z,g8]at J;exact J χ
 let#[e4,e5]:=g5 b B6_ e2;exact#[e4.trans (e3.trans e1),e5]
end
abbrev AC:Nat:=1000000000000000000000000000000000000000000000000000000000000
def a2y(h:aS_<AC):Gc c7_=ψ v_:=fA χ (a3l aE! (a3l aE! (by
 let e:f2 Ww (f1 BO R_) tR_ [ψ U!]=JF_ (iX!<1000000000000000000000000000000000000000000000000000000000000):=by kernel_rfl
 exact e.trans (bT (by delta AC at h;split<;>omega)))))
def a3a(h:aS_<AC)(h0:0<=i)(Y:i<k):Hs [dN!,fM!]=ψ v_:=fA χ (a3l rO_ (d7j (i:=0) χ χ χ h0 (bT Y)))
def a2z(h:aS_<AC)(Y:1<=i):Ee c7_=ψ v_:=fA χ (a3l rO_ (bT Y))
def rO(h:lt!):Fh [x]=ψ v_:=by let#[a,b,rfl,Y,h2,h3,h4]:=h;exact uJ χ aE! (a3l (JP! Y h2) (Fg! (a2z eG_ h3)))
def sI(h:Xb x):Eo [x]=ψ v_:=by let#[a,b,c,rfl,Y,h2,h3,h4,h5,h6]:=h;exact uJ χ aE! (a3l (Kb_ a b) (JP! h5 a!))
def oP(h:Bu x):Kv [x]=ψ v_:=by
 obtain rfl|rfl|h:=h
 .exact Kg! (b9v aE!)
 .exact Kg! (b4t aE! aE!)
 .exact fA χ (b9v rU_)
def zJ(h:Kn x):Hb [x]=ψ v_:=by
 obtain rfl|h:=h
 .exact rV!
 .let#[a,b,rfl,_]:=id h;exact fA χ (b4t χ rU_)
def c3d(h:Jb x):Ie [x]=ψ v_:=by
 obtain rfl|h:=h
 .exact rV!
 .let#[a,b,c,rfl,_]:=id h;exact fA χ (b4t χ (Fg! (sI h)))
def b3h(h0:0<=i)(Y:i<=3):Du c7_=ψ v_:=fA χ (JP! h0 a!)
def zS{α:Type}(cs:W!):Zs [.lst k0_]=ψ v_:=by
 let e:Rn mi!=ψ rV_:=by
  induction cs with
  |nil=>rfl
  |cons c cs ih=>show(Rn mi!).map (true::·)=_;rw[ih];rfl
 show(Rn mi!).map (λbs=>D.bl oO!)=_;rw[e];show Fc! ((rV_).all id)=_;rw[SJ.mpr λx hx=>by let#[_,_,rfl]:=NB.mp hx;rfl]
def d3w(h:Ug s=τ)(Y:1<=F_)(h2:hL_):Kt [bF_]=ψ v_:=by
 delta Ug at h;rw[NU,NT]at h;let hl:F_<=big:=by delta big;omega
 let hc:=b0p s.cps.toList h.2;let hz:cl_<=big:=by simpa[Str.length]using hl
 let gc:Dj_ (EH k!) gG_ eH!=yJ_ (s.cps.toList.map λ_=>.bl τ):=by
  show(if(s.cps.toList.map λc=>D.str H_).length<=big then Option.map D.lst (EC_ gG_ (s.cps.toList.map λc=>.str H_))else υ)=_;rw[MV,MO hz,hc];rfl
 let hn:f1 Bv R_ eH!=ψ AB!:=by
  show AB_=_;rw[MO hl]
 exact rX!;let hk:Gs Rm Rm u_ cA! ca! eH!=ψ v_:=d7j χ hn χ a! (bT a!);show Qh (Ea nm!) (Ea nm_) eH!=_;let e0:Ea nm! eH!=ψ false:=by kernel_rfl
 delta Qh;rw[e0];show Ea nm_ eH!=_;delta Ea fT;rw[hk];rfl
def d3s(nd:t.nd):Iz t t.A0=ψ Kv/\Iz t t.A7=ψ Hb/\Iz t t.A8=ψ Ie/\Iz t t.A9=ψ Kt/\Iz t t.B0=ψ Eo/\
  Iz t t.B1=ψ Ee/\Iz t t.B2=ψ Du/\Iz t t.B3=ψ Gc/\Iz t t.B4=ψ Fh:=by
 let p:∀(i j:δ) {a b:sw!} {x y:Da_ pn!},i<j->pU![i]?=ψ a->pU![j]?=ψ b->(if b=a then x else y)=y:=λi j a b x y h e1 e2=>by
  let#[Y,rfl]:=NE.mp e1;let#[h2,rfl]:=NE.mp e2;exact MZ (NY (RX.mp (TC.mp nd) i j Y h2 h))
 delta Iz;exact#[y_,(zA_ 0 1).trans bY!,(zA_ 0 2).trans (I8! 1 2),(zA_ 0 3).trans (KB_ 3 (I8! 2 3)),(zA_ 0 4).trans (KB_ 4 (KT! 4 (I8! 3 4))),(zA_ 0 5).trans (KB_ 5 (KT! 5 (K2_ 5 (I8! 4 5)))),(zA_ 0 6).trans (KB_ 6 (KT! 6 (K2_ 6 ((zA_ 4 6).trans (I8! 5 6))))),(zA_ 0 7).trans ((zA_ 1 7).trans (KT! 7 (K2_ 7 ((zA_ 4 7).trans ((zA_ 5 7).trans (I8! 6 7)))))),(zA_ 0 8).trans ((zA_ 1 8).trans ((zA_ 2 8).trans (K2_ 8 ((zA_ 4 8).trans ((zA_ 5 8).trans ((zA_ 6 8).trans (I8! 7 8)))))))]
def a7i(cs:r4_)(h:r4!):
  Cc jc! H! jc_ [υ,υ] iz!=ψ k0_/\(iz!).length=aQ!:=by
 induction cs with
 |nil=>exact ae!
 |cons c cs ih=>
  let#[i1,i2]:=ih λx hx=>h x b0!
  let#[g,Y,h2]:=h c ML;exact#[?_,congrArg (·+1) i2];show(((Iz t c.1).bind λg=>g [c.2]).bind λy=>(r5!).map kb_)=_;rw[Y,i1,PK,h2];rfl
def jQ(cs:r4_)(h:r4!)(hl:aQ!<=1000):
  Fi t [.tup iz_,.tup mm!]=ψ v_:=by
 let hc:=a7i cs h;let hz:aQ!<=big:=by delta big;omega
 let gc:Hi_ 2 [ψ (.tup iz_),ψ (.tup mm!)]=yJ_ k0_:=by
  show(Bf! iz! r5!)=_;rw[hc.2,MO hz,hc.1];rfl
 exact rX!;show ψ (!((((iz_).length:δ):Int)==(((cs.map λc=>D.fn c.1).length:δ):Int)))=_;rw[MV,MV,ON];rfl
def c3u(x:D)(r:d_):Cq (.tup (x::r)) b2_ υ=Ds! r:=by
 let Y:HT.sIx (ax!+1) 0 b2_=1:=by
  rfl
 let h2:HT.sIx (ax!+1) (ax!+1) υ=ax!+1:=by rfl
 simp[Cq,Es,Y,h2]
def b3i(hk:r8_)(hp:r9_)(he:Ms ua_ ub! eJ!=ψ v):Iy t [k5!]=ψ v:=by
 let i0:Eg! k! eJ!=ψ G!:=by
  show Et bG! 0=_;show"#/";rw[pY_,fO_];rfl
 exact IK! (sk ?_ (sk ?_ (sk ?_ (jJ he))))
 .show ψ (((((ax!+1:δ):Int))==0))=_;rw[OJ.mpr a!]
 .show Qh t8! t8_ eJ!=_;delta Qh Ea fT Lf BJ;rw[i0];show ψ (!(GB! e3_ k).isSome)=_;rw[hk];rfl
 .show Ea ua! eJ!=_;let e1:Dq k! de_ Av eJ!=Ds! r:=c3u _ _;let e2:Ul e3_ aM! eJ!=Ds! fs:=by
   delta Ul;rw[i0];exact hk
  delta Ea fT;rw[wZ hp e1 e2];rfl
def jF(hk:r8_)(hp:r9_)(hc:k≠"cut"):Iy t [k5!]=ψ v_:=by exact b3i hk hp (b9v ?_);show((Et bG! 0).bind λx=>Zx x df!)=_;delta Et Hv;rw[pY_,fO_];show Fc! (!(k==("cut":Str)))=_;rw[OJ.mpr hc];rfl
def d3z(nd:t.nd)(h:DG d):Iy t [d]=ψ v_:=by
 let#[i1,i2,i3,i4,i5,i6,i7,i8,i9]:=d3s nd;let two:∀{a b:Addr×D} {P:mq_},P a->P b->∀c∈O!,P c:=λY h2 c hc=>by
  simp![MM,MN,RI]at hc;obtain rfl|rfl:=hc
  .exact Y
  .exact h2
 let three:∀{a b c:Addr×D} {P:mq_},P a->P b->P c->∀x∈eD!,P x:=λY h2 h3 c hc=>by
  simp![MM,MN,RI]at hc;obtain rfl|rfl|rfl:=hc
  .exact Y
  .exact h2
  .exact h3
 let one:∀{a:Addr×D} {P:mq_},P a->∀x∈[a],P x:=λY c hc=>by rw[NI.mp hc];exact Y
 cases h with
 |@put a b Y h2=>exact FD! (jQ [eM_,(t.A7,b)] (two eN_ #[_,i2,zJ h2]) b!)
 |@move a b c Y h2 h3=>exact FD! (jQ [eM_,(t.A0,b),(t.A7,c)] (three eN_ #[_,i1,oP h2] #[_,i2,zJ h3]) b!)
 |@drop a Y=>exact FD! (jQ [eM_] (one eN_) b!)
 |@write a b s Y h2 h3 h4 h5=>exact FD! (jQ [eM_,(t.A8,b),(t.A9,.str s)] (three eN_ #[_,i3,c3d h2] #[_,i4,d3w h3 h4 h5]) b!)
 |@cut a x y z m Y h2 h3 h4=>
  let hz:0<=z:=by let#[_,_,_,e,_,_,_,_,q,_]:=h2;cases e;exact q
  let hp:=jQ (t:=t) [eM_,(t.B0,.tup kI_),(t.B1,.int m)] (three eN_ #[_,i5,sI h2] #[_,i6,a2z eG_ h3]) b!;exact b3i χ hp (b4t aE! (bT (p:=z+m<=16) h4))
 |@set a p n Y h2 h3 h4=>exact FD! (jQ [eM_,(t.B2,.int p),(t.B3,.int n)] (three eN_ #[_,i7,b3h h2 h3] #[_,i8,a2y h4]) b!)
 |@undo a Y=>exact FD! sg!
 |@redo a Y=>exact FD! sg!
def d8n(nd:t.nd)(Y:0<=h)(h2:h<16)(h3:1<=n)(h4:n<=2000)(h5:1<=m)(h6:m<=1000)(hd:DG d):Cw t [.tup [aI!,ap_,en!,d]]=ψ v_:=uJ χ aE! (a3l (Kb_ h n) (a3l (Fg! (a2z eG_ h5)) (Fg! (d3z nd hd))))
def tG(h:lt!):Bc x=τ/\Ir x<=1:=by let#[a,b,rfl,_]:=h;simp[Bc,Br,Ir,Cz]
def lJ(h:Bu x):Bc x=τ/\Ir x<=1:=by
 obtain rfl|rfl|h:=h
 .simp[Bc,Ir]
 .simp[Bc,Ir]
 .exact tG h
def b8a(h:Kn x):Bc x=τ/\Ir x<=1:=by
 obtain rfl|h:=h
 .simp[Bc,Ir]
 .exact tG h
def b1f(h:Jb x):Bc x=τ/\Ir x<=1:=by obtain rfl|⟨a,b,c,rfl,_⟩:=h<;>simp[Bc,Br,Ir,Cz]
def kR(s:Str):Bc aI_=τ/\Ir aI_<=1:=ms_
def a9t(i:Int):Bc U!=τ/\Ir U!<=1:=ms_
def iF(h:Bc d=τ/\Ir d<=1)(k:sh!):Br (d::xs)=τ/\Cz (d::xs)<=1:=by delta Br Cz;rw[h.1,k.1];exact#[χ,Nat.max_le.mpr #[h.2,k.2]]
def pln:Br []=τ/\Cz []<=1:=ms_
def tpl(h:sh!):Bc aK!=τ/\Ir aK!<=2:=#[h.1,VP h.2]
def d7i(h:DG d):Bc d=τ/\Ir d<=2:=by
 cases h with
 |put Y h2=>exact Kt! (b8a h2) pln
 |move Y h2 h3=>exact Kt! (lJ h2) (iF (b8a h3) pln)
 |drop Y=>exact DB! pln
 |write Y h2=>exact Kt! (b1f h2) (iF c3_ pln)
 |cut Y h2=>exact Kt! (b1f (.inr h2)) sj!
 |set Y=>exact Kt! (a9t _) sj!
 |undo Y=>exact tpl sk!
 |redo Y=>exact tpl sk!
nonrec def hs(os:k_)(h:Int):μ Op:=os.filter λo=>decide (o.h=h)
structure EU(l:k_):Prop where
 num:∀(i:δ) (o:Op),l[i]?=ψ o->o.n=cX_+1
 tim:l.Pairwise λa b=>a.tm<b.tm
structure CV(o:Op):Prop where
 hh:o.h=0\/o.h=5\/o.h=15\/o.h=6
 t1:1<=o.tm
 t2:o.tm<=1000
 n1:1<=o.n
 n2:o.n<=2000
 dg:DG o.d
structure Hist(os:k_):Prop where
 ch:∀h,EU gk_
 op:∀o∈os,CV o
def EU.nil:EU []:=#[λi o e=>by simp at e,jE_]
def EU.snoc{o:Op}(h:EU l)(e:o.n=(ah!:δ)+1)(ht:∀x∈l,x.tm<o.tm):EU (l++[o]):=by
 exact#[λi x hx=>?_,?_]
 .obtain c|c:=RB i ah!
  .rw[QA c]at hx;exact h.num i x hx
  .rw[OU c]at hx;obtain z|z:=Nat.eq_zero_or_pos (i - ah!)
   .rw[z]at hx;simp at hx;subst hx;rw[e];omega
   .rw[PH aS!]at hx;rcases hx
 .rw[VY];exact#[h.tim,List.pairwise_singleton _ _,λa ha b J=>by rw[NI.mp J];exact ht a ha]
def fL:hs (a++b) h=hs a h++hs b h:=by delta hs;rw[WW]
def oM:hs [o] h=if o.h=h then[o]else[]:=by
 delta hs;by_cases c:o.h=h
 .rw[MO c,OO sl!];rfl
 .rw[MZ c,OP sl!];rfl
def jW{os:k_}:o∈hs os h↔o∈os/\o.h=h:=by delta hs;rw[PD];simp
def Hist.nil:Hist []:=#[λh=>EU.nil,λo ho=>by exact(MN ho).elim]
def Hist.snoc{os:k_}{o:Op}(h:iI!)(hf:CV o)(e:o.n=((hs os o.h).length:δ)+1)(ht:∀x∈os,x.h=o.h->x.tm<o.tm):Hist (os++[o]):=by
 exact#[λk=>?_,aA!]
 .rw[fL,oM];by_cases c:o.h=k
  .rw[MO c];subst c;exact(h.ch _).snoc e λx hx=>ht x (jW.mp hx).1 (jW.mp hx).2
  .rw[MZ c,OA];exact h.ch k
 .obtain z|z:=ND.mp hx
  .exact h.op x z
  .rw[cY!];exact hf
structure HW(i:Nat)(os:k_)(c t:mU_):Prop where
 hist:Hist os
 len:bp!=i
 q:∀h,c h=((gk_).length:δ)
 u:∀x∈os,x.tm<=t x.h
 b:∀h,0<=t h/\t h<=3*i
 z:∀x∈os,x.h≠6/\CS x.d
def CV.ok(h:CV o):Wh o.v:=#[o.h,o.n,o.tm,o.d,χ,by obtain z|z|z|z:=h.hh<;>omega,by obtain z|z|z|z:=h.hh<;>omega,h.n1,h.n2,h.dg]
def rJ(os:k_)(h:Int):(gk_).length<=bp!:=QT _ _
def HW.step{os:k_}(hw:HW i os c t)(ha:a=0\/a=5\/a=15)(h0:0<=m)(hi:i<100)(hd:DG dd)(hz:CS dd):HW x! sn_ so! so_:=by
 let hc:=hw.q a;let J:=hw.b a;let hl:=rJ os a;rw[hw.len]at hl;exact#[hw.hist.snoc #[by show a=0\/a=5\/a=15\/a=6;omega,by show 1<=t a+1+m / 3%3;omega,by show t a+1+m / 3%3<=1000;omega,by show 1<=c a+1;omega,by show c a+1<=2000;omega,hd] (by show c a+1=((hs os a).length:δ)+1;omega) (λx hx (hh:x.h=a)=>by let:=hw.u x hx;rw[hh]at this;show x.tm<t a+1+m / 3%3;omega),by rw[NR,hw.len];rfl,f0_,aA!,f0_,aA!]
 .show(if h=a then c a+1 else c h)=_;rw[fL,oM,NR];by_cases e:h=a
  .rw[MO e,e,y_,hc];rfl
  .rw[MZ e,MZ (NY e),hw.q h];rfl
 .show _<=if x.h=a then t a+1+m / 3%3 else t x.h
  obtain z|z:=ND.mp hx
  .let:=hw.u x z;split
   .rename_i e;rw[e]at this;omega
   .exact this
  .rw[cY!,y_];exact QD _
 .show 0<=sr_/\sr_<=_;let:=hw.b h;split<;>omega
 .obtain z|z:=ND.mp hx
  .exact hw.z x z
  .rw[cY!];exact#[λe=>by let e:a=6:=e;omega,hz]
def b8r(hv:fv ρ=ψ d)(hx:st!)(hl:p1_)(hk:Hv ds.length j=ψ k):Vm i fx fv ρ=DQ! x8_:=by delta Vm;rw[hv,hx,hl];show(o5_).map _=_;rw[hk];rfl
def a2j(hx:st!)(hl:p1_)(h:Et ds j=ψ d):Km i fx ρ=ψ d:=by delta Km;rw[hx,hl];exact h
def c8e(h:bS!)(n:Do d=τ):Mt f ρ=ψ d:=by delta Mt;rw[h];show(if Do d=τ then _ else _)=_;rw[MO n]
def c0t:Nm (.int 7) a5_=C2_ (7*j):=χ
def b7h{os cs ts:d_}(em:Bn [fQ!,.int (base+7*j)]=ψ dw!)(ed:Jj [fQ!,.int (base+7*j+1),.lst os,.int 5]=ψ dd)(nd:Do dd=τ)(z:m%3=kk)
  (hc:Et cs kk=C2_ c)(ht:Et ts kk=C2_ t)(kc:Hv cs.length kk=ψ k)(kt:Hv ts.length kk=ψ k)(cb:Et sw_ kk=C2_ (c+1))(ht':Et sy! kk=ψ sx_)
  (ha:Et [D.int 0,.int 5,.int 15] kk=C2_ a)(J:bp!<big):
  Tf [bH!,cp!,ψ N,yJ_ os,yJ_ cs,yJ_ ts,ψ a5_,x7,x8,x9]=DQ! [bH!,cp!,ψ N,ψ (.lst (os++[.tup [.int a,.int (c+1),.int (t+1+m / 3%3),dd]])),ψ (.lst sw_),ψ (.lst sy!),ψ a5_,ψ dw!,ψ (.int kk),ψ dd]:=by
 exact Ju! (eW (lY (Hk_ sA_) em));exact(KA! (I9! fR_ z)).trans ?_;exact Ju! (b8r (KO_ hc) χ χ kc);exact Ju! (b8r (aS (KO_ ht) (KU_ fR!) χ) χ χ kt);exact Ju! (eW (c8e (lY (cB χ (cB (Fp_ aS sA_) (cB χ et!))) ed) nd));exact c4o (a0a (cB (Jc_ ha) (cB (Dd_ a2j cb) (cB (Dd_ a2j ht') et!))) χ) χ J
abbrev wE(ns:r_)(base:Int)(N:δ)(os:k_)(c t:mU_)(x6 x7 x8 x9:Z_):Ae:=[bH!,cp!,ψ (.int N),ψ mB_,ψ (FR_ c),ψ (FR_ t),x6,x7,x8,x9]
def d5i{os:k_}(hw:HW j os c t)(hj:j<100):∃jf c' t' y7 y8 y9,Tf mE_=ψ sG_/\HW b7! jf c' t':=by
 let ho:∀o∈os.map Op.v,Wh o:=λo ho=>by let#[x,hx,rfl]:=NB.mp ho;exact(hw.hist.op x hx).ok
 let hl:(ah_).length<=100:=by rw[MV,hw.len];exact SE hj
 let J:(ah_).length<big:=OZ hl a_;let#[m,em,m0,_]:=iI ns;let#[dd,ed,hd,hz]:=c8v ns (most:=5) ho (λo ho n tm d e=>by let#[x,hx,rfl]:=NB.mp ho;simp![Op.v,D.tup.injEq,PR,D.int.injEq]at e;exact(hw.z x hx).1 e.1) hl a_ a_;let nd:=b0i hd;let go:∀{a k},(a=0\/a=5\/a=15)->Tf mE_=DQ! k->(∃y7 y8 y9,k=wE ns base N sn_ so! so_ mE! y7 y8 y9)->∃jf c' t' y7 y8 y9,Tf mE_=ψ sG_/\HW b7! jf c' t':=λha e ⟨y7,y8,y9,ek⟩=>#[_,_,_,y7,y8,y9,ek▸e,hw.step ha m0 hj hd hz];let zr:m%3=0\/m%3=1\/m%3=2:=by omega
 obtain z|z|z:=zr
 .exact go W_ mF_ mG!
 .exact go b5! mF_ mG!
 .exact go (.inr cE_) mF_ mG!
def b3w(ns:r_)(base:Int)(N:δ)(hN:N<=100):∃os:List Op,Mn [fQ!,.int base,.int N]=ψ mB_/\bp!=N/\Hist os/\∀x∈os,x.tm<=3*N/\x.h≠6/\CS x.d:=by
 let#[ρ',e,os,c,t,x6,x7,x8,x9,rfl,hw]:=vP (bnd:=Bw 6) (q:=Tf) (λi ρ=>∃os c t x6 x7 x8 x9,ρ=wE ns base N os c t x6 x7 x8 x9/\HW i os c t) fT_ 0 (wE ns base N [] (λ_=>0) (λ_=>0) υ υ υ υ) #[[],_,_,υ,υ,υ,υ,χ,.nil,χ,cz!,λx h=>lx_,λ_=>by simp,λx h=>lx_] (by
  rintro j d ρ hd ⟨os,c,t,x6,x7,x8,x9,rfl,hw⟩;let#[au,rfl]:=b2p hd;rw[TW]at hw ⊢;let hj:j<100:=by omega
  let#[jf,c',t',y7,y8,y9,e,zt]:=d5i (ns:=ns) (base:=base) (N:=N) (x7:=x7) (x8:=x8) (x9:=x9) hw hj;exact#[_,_,χ,e,jf,c',t',_,_,_,_,χ,zt])
 rw[show 0+(fT_).length=N from(TW _).trans ((MV _).trans QM)]at hw;exact#[os,gE χ ((k9_).trans ((k9_).trans (DT! k9_ (Jl_ (b0b (a8k χ a!) e) la!)))),hw.len,hw.hist,λx hx=>#[by let:=hw.u x hx;let:=(hw.b x.h).2;omega,hw.z x hx]]
def c0o(hf:∀a b,f a=f b->a.h=b.h):∀(os:k_),(∀h,((gk_).map f).Nodup)->(os.map f).Nodup
 |[],_=>QO
 |o::os,H=>by
  let sub:∀h,(gk_).Sublist (hs ly_ h):=λh=>by delta hs;exact(List.sublist_cons_self o os).filter _
  rw[MU,NO];exact#[bZ_,c0o hf os λh=>((sub h).map f).nodup (H h)];let#[x,hx,e]:=NB.mp z;let hh:=hf _ _ e;let H1:=H o.h;let:hs ly_ o.h=o::hs os o.h:=by delta hs;rw[OO b!]
  rw[this,MU,NO]at H1;exact H1.1 (NB.mpr #[x,jW.mpr #[hx,hh],e])
def Hist.names{os:k_}(h:iI!):(lz!).Nodup:=by
 exact c0o sM_ os λk=>?_
 .show"#C";exact e.1
 .let hn:=(h.ch k).num;rw[TC,XC,RX];intro i j hi hj yo e;let e1:=hn i _ (NK hi);let e2:=hn j _ (NK hj);show"#C";omega
def Hist.keys{os:k_}(h:iI!):(HP! os.map).Nodup:=by
 exact c0o sM_ os λk=>?_
 .simp only[Op.key,Prod.mk.injEq]at e;exact e.2
 .rw[TC,XC];exact(h.ch k).tim.imp λ{a b} mj e=>?_;simp![Op.key,Prod.mk.injEq]at e;omega
def jM(h:cN_)(hd:Ir d<=40):Em d d=ψ B!:=by delta Em;rw[h,wL d h,NG hd];rfl
def a8t(o:Op):FQ_ cA_=C2_ o.tm:=by rfl
def gY:∀{ds:d_},(∀d∈ds,Bc d=τ)->Br ds=τ
 |[],_=>by rfl
 |d::ds,h=>by
  delta Br;rw[h d ML,gY λx hx=>h x b0!];rfl
def jE:∀{ds:d_},(∀d∈ds,Ir d<=n)->Cz ds<=n
 |[],_=>by simp[Cz]
 |d::ds,h=>by
  delta Cz;let Y:=h d ML;let h2:=jE λx hx=>h x (MF d hx);omega
def b2g{o:Op}(h:h6!):Bc o.v=τ/\Ir o.v<=5:=by
 let#[Y,h2]:=d7i h;show"!r"
 .show Br lq_=τ;exact gY λd hd=>?_;simp![MM,MN,RI]at hd;obtain rfl|rfl|rfl|rfl:=hd
  .rfl
  .rfl
  .rfl
  .exact Y
 .show Cz lq_+1<=5;let:Cz lq_<=2:=jE λd hd=>by
   simp![MM,MN,RI]at hd;obtain rfl|rfl|rfl|rfl:=hd
   .simp[Ir]
   .simp[Ir]
   .simp[Ir]
   .exact h2
  omega
nonrec def hF(yy:Int)(ta wa:sw!)(out:D):μ ck!:=[("ours",.int yy),("taken",.fn ta),("waiting",.fn wa),("outline",out)]
section
variable{yy:Int}{ta wa:sw!}{out:D}
def hF1:Eo! sQ! c5_=ψ (D.int yy):=by kernel_rfl
def hF2:Eo! sR! c5_=Er_ ta:=by kernel_rfl
def hF3:Eo! sR_ c5_=Er_ wa:=by kernel_rfl
def hF4:Eo! mI! c5_=ψ out:=by kernel_rfl
def hM1:I2! "have" c5_=none:=by kernel_rfl
def hP1:Hi sQ! iN_ []=[eR!]:=by kernel_rfl
def hP2:Hi sR! (.fn ta) [eR!]=iO!:=by kernel_rfl
def hP3:Hi sR_ (.fn wa) iO!=iO_:=by kernel_rfl
def hP4:Hi mI! .non iO_=hF yy ta wa .non:=by kernel_rfl
def hP5:Hi mI! o2 c5_=hF yy ta wa o2:=by kernel_rfl
end
structure Ay(t:Bb)(M:Mh)(yy:Int)(a ta wa:sw!)(out:D)(S:k_)(kl:r_)(ca:b7_):Prop where
 ob:M a=ψ (Gi! c5_)
 tk:∃ep,M ta=JZ_ gp!
 wt:M wa=ψ dK!
 cl:∀h∈kl,M dP_=Jw! c6! Op.v
 nk:kl.Nodup
 mem:∀h,h∈kl↔hs S h≠[]
 cw:∀h∈kl,ca h≠wa
 ci:∀h∈kl,∀h'∈kl,ca h=ca h'->h=h'
 len:iQ!<=c7!
def GU(a ta:sw!)(kl:r_)(ca:b7_)(b:sw!):Prop:=b=a\/b=ta\/∃h∈kl,b=ca h
def LA(a ta:sw!)(M:Mh)(kl:r_)(ca:b7_)(M':Mh)(ba:r_)(bc:b7_):Prop:=∀b,M b≠υ->¬Id_ a->M' b=M b/\¬GU a ta ba bc b
def fJ{g:Int->D}:∀{kl:r_} {x:Int},kget (kl.map λh=>(D.int h,g h)) (.int x)=if x∈kl then ψ (g x)else υ
 |[],x=>by rfl
 |k::kl,x=>by
  rw[MU];delta kget;by_cases e:k=x
  .subst e;simp
  .rw[MZ λz=>e (D.int.inj z),fJ];simp[NY e]
section
variable{t:Bb}{M:Mh}{yy:Int}{a ta wa:sw!}{out:D}{S:List Op}{kl:List Int}{ca:Int->Addr}
def Ay.nob(hA:ar_)(hm:GB! c5_ m=υ):Dd t.B5 m M by_:=by show(match M a with|some (.obj C' fs)=>C'=t.B5/\fs.lookup m=υ|_=>False);rw[hA.ob];exact#[χ,hm]
def Ay.nol(hA:ar_)(hh:h∉kl):hs S h=[]:=TL λz=>hh ((mK_).mpr z)
def Ay.keepO{M':Mh}(hA:ar_)(k:∀b,Id_ a\/b=wa->M' b=M b):Dv_ M' out:=by let#[ep,ht]:=hA.tk;exact{hA with ob:=(k a (.inl W_)).trans hA.ob,tk:=#[ep,(k ta (.inl b5!)).trans ht],wt:=(k wa cE_).trans hA.wt,cl:=λh hh=>(k _ (.inl (De_ #[h,hh,χ]))).trans mL!}
def Ay.live(hA:ar_)(h:Id_ a\/b=wa):M b≠none:=by
 let#[ep,ht]:=hA.tk;rcases h with(h|h|⟨x,hx,h⟩)|h
 .rw[h,hA.ob];exact QL _
 .rw[h,ht];exact QL _
 .rw[h,hA.cl x hx];exact QL _
 .rw[h,hA.wt];exact QL _
def Ay.keep{M':Mh}(hA:ar_)(k:mL_):Dv_ M' out:=hA.keepO λb h=>k b (hA.live h)
def a2s(hA:ar_):Qs gV_ mM_ M mM!:=λK hK=>by
 show"!g";exact j_;by_cases c:h∈kl
 .let hl:Wa M [.fn dP_]=ψ mM!:=by
   show(Gw! dP_)=_;simp![Pn,Gv_ c,Option.map_some,MV]
  exact FS! sZ!
 .let hl:Wa M [in!]=ψ mM!:=by rw[hA.nol c];rfl
  exact FS! sZ_
def a9r{o:Op}(hA:ar_):Ea! Ku mO! (.bl (o.n==gq!+1)):=λK hK=>by
 exact j_;exact cZ (eG (aP (a0p o)) (Hm_ (J1_ c! mP!)) dS!) hK
nonrec def lt(S:k_)(h:Int):Int:=((c6!).getLast?.map Op.tm).getD 0
def b2y(h:xs.getLast?=ψ v):Et xs (-1)=ψ v:=by
 let hl:0<i!:=by cases xs with|nil=>cases h|cons a l=>simp
 show"#/";rw[MZ a!,aJ!];show xs[((-1:Int)+i!).toNat]?=_;rw[show((-1:Int)+xs.length).toNat=xs.length - 1 by omega,<-List.getLast?_eq_getElem?];exact h
def pO(hA:ar_):Ea! Gk mM_ (.int (lt S h)):=λK hK=>by
 show"!g";exact j_;let hv:=jI (eG (g:=λ_=>At) (ρ:=[C_,gr!]) (J1_ iR_ mQ!) (aP (f:=fC U_) χ) dS!);by_cases c:hs S h=[]
 .rw[c]at hv;exact kS hv (cZ c! ?_);delta lt at hK;rw[c]at hK;exact hK
 .let hl:=Ib! c;rw[show((sW_:Int)==0)=θ from by rw[OJ];omega]at hv;exact fH hv ?_;let hk:=(mK_).mpr c;obtain⟨o,ho⟩:∃o,(hs S h).getLast?=ψ o:=by cases e:(c6!).getLast? with|some o=>exact#[o,χ]|none=>exact C6_ mR_ c
  let i1:=Gh! ht (by rw[fJ,bb!]);let i2:By M (.fn dP_) (.int (-1))=ψ o.v:=by
   simp![By,Gv_ hk];exact b2y (by rw[List.getLast?_map,ho];rfl)
  let e:lt S h=o.tm:=by delta lt;rw[ho];rfl
  rw[e]at hK;exact cZ (eG (eG (eG dQ_ c! i1) c! i2) c! (a8t o)) hK
def b5x{ρ:Ae}{fy:m_}{R:L_}(hy:fy ρ=ψ iN_)(hR:∀a ta wa M',yT_ M' [] [] iS!->h9_->(∀b,GU a ta [] iS! b\/b=wa->M b=υ)->R by_ M'):Gh t.B5 2 (Kx t) (Ab (wl fy) Ad) ρ M R:=by
 delta Gh Ab Ad;rw[dS hy];exact#[χ,λa ha=>j_];let L:HL M (mup M a (.obj t.B5 [])) [s4_]:=HL.new #[s5!,QO,s5!,gt!] ha;exact mE ?_;rw[cu_];exact gZ χ (L.cell s4_ b!) a_ hP1 ?_
 replace L:=L.put (u:=[]) (c:=Gi! [eR!])
 exact mE λta hta=>?_
 replace L:=L.new (c:=ia!) hta
 exact Ej! [eR!] BW_ hP2 ?_
 replace L:=L.put (u:=[_]) (c:=Gi! iO!)
 exact mE #[F!,λwa hwa=>?_]
 replace L:=L.new (c:=in!) hwa
 exact Ej! iO! BX! hP3 ?_
 replace L:=L.put (u:=[_,_]) (c:=Gi! iO_)
 exact oZ ?_;rw[cu_];exact Ej! iO_ BX_ hP4 ?_
 replace L:=L.put (c:=Gi! s7!)
 exact#[χ,hR a ta wa _ #[L.cell s8! b!,#[0,L.cell s8_ b!],L.cell (wa,.lst []) b!,mV!,QO,λh=>by simp[hs],mV!,mV!,NC _] L.kp λb J=>?_];rcases J with(h|h|⟨_,h,_⟩)|h
 .rw[h];exact L.fr s8! b!
 .rw[h];exact L.fr s8_ b!
 .cases h
 .rw[h];exact L.fr (wa,.lst []) b!
end
section
variable{t:Bb}{M:Mh}{ρ:Ae}{yy:Int}{a ta wa:sw!}{out:D}{S:List Op}{kl:List Int}{ca:Int->Addr}
def dJ(hp:cm!):Dr M A_=ψ lj_:=by simp[Dr,hp]
def zR(hp:qM!):Mv M A_=ψ (p,xs):=by simp[Mv,hp]
def LF(fa:m_)(ρ:Ae)(d:D)(M:Mh)(R:L_):Prop:=Hd_ M λ_=>wl fa ρ M λv M2=>Hd_ M2 λq=>qi!<big/\Ed_ AV_
def c5o(h:fo ρ M λd M1=>LF fa ρ d M1 λ_ M2=>q ρ M2 R):DK! (Cd (Yo fo lw!)) q:=h
def a7q(hp:qM!)(hf:f ρ=ψ v)(hl:i!<big)(k:Ed_ (Ji_ (.lst (xs++[v])))):LF f ρ A_ M R:=by exact iY ?_;rw[dS hf,zR hp];exact iY #[hl,k]
def c5k(ho:lB!)(Y:fa ρ=ψ y)(hp:cm!)(hk:bn!)(hl:es!)
  (old:∀q v,M q=υ->Ep_ y=ψ v->K v gs_)(new:∀q,M q=υ->Ep_ y=υ->K cr! (mup gs_ p (.dct (Bp h1 y cr!) dz!))):Rp fo lw! (Ri Ad) ρ M K:=by
 exact ho _ ?_;rw[dJ hp];exact iY ?_;rw[dS Y];exact#[F!,eu_];let pq:=eS (EI! hp) hq;show HK_ gs_ A_ _;rw[dJ (Jv_ pq hp)];exact iY ?_;rw[hk];exact iY #[hl,?_];cases e:Ep_ y with
 |some v=>exact old q v hq e
 |none=>exact new q hq e
def zX(hA:ar_)(hS:bs_)(hR:∀M' ba bc,I5_ (S++[o])->Im! a->Ed_ M'):Mm t mO! M R:=by
 let#[ep,ht]:=hA.tk;exact j_;exact c5o ?_;let i0:=mF o;let pj:iQ!<64:=OZ hA.len hS;let hlS:(dR!).length<64:=OZ (rJ S o.h) hS;let at_:a≠ta:=λz=>by let:=hA.ob;rw[z,ht]at this;rcases this
 let aw:a≠wa:=λz=>by let:=hA.ob;rw[z,hA.wt]at this;rcases this
 let tw:ta≠wa:=λz=>by rw[z,hA.wt]at ht;rcases ht
 let cA:∀h∈kl,ca h≠a:=λh hh z=>by let:=Gv_ hh;rw[z,hA.ob]at this;rcases this
 let cT:∀h∈kl,ca h≠ta:=λh hh z=>by let:=Gv_ hh;rw[z,ht]at this;rcases this
 exact c5k dQ_ i0 ht χ f8! (λq v hq e=>?_) (λq hq e=>?_)
 .let aq:=eS iT_ hq;let tq:=eS mZ_ hq;let wq:=eS m0! hq;let cq:∀h∈kl,ca h≠q:=λh hh=>eS m0_ hq;rw[fJ]at e;let c:o.h∈kl:=by
   by_cases c:o.h∈kl
   .exact c
   .rw[MZ c]at e;rcases e
  rw[MO c]at e;rcases e;exact a7q ((mup_ne (cq _ c)).trans (hA.cl _ c)) rfl f8! ?_;generalize e2:mup gs_ (ca o.h) td!=M2;let m2:∀b,b≠q->b≠ca o.h->M2 b=M b:=λb Y h2=>by rw[<-e2,kD_,fE_]
  let m2c:M2 (ca o.h)=ψ td!:=by rw[<-e2];exact mup_same
  exact oZ ?_;rw[cu_];exact Fl! (NY (cA _ c));exact hR _ kl ca #[mup_same,#[ep,?_],?_,m1_,hA.nk,f0_,hA.cw,hA.ci,?_] λb J ho=>#[(td_).trans (Kg_ (De_ #[_,c,z])),ho]
  .rw[tf!,m2 ta tq (NY (cT _ c))];exact ht
  .rw[tg!,m2 wa wq (NY (hA.cw _ c))];exact hA.wt
  .rw[Ds_ (cA h hh),fL,oM];by_cases z:o.h=h
   .rw[MO z,<-z,m2c,NV];rfl
   .rw[MZ z,OA,m2 _ (cq h hh) λy=>z (hA.ci _ hh _ c y).symm];exact Gv_ hh
  .rw[fL,oM];by_cases z:o.h=h
   .rw[MO z];subst z;simp[c]
   .rw[MZ z,OA];exact hA.mem h
  .rw[NR];let:=hA.len;omega
 .let aq:=eS iT_ hq;let tq:=eS mZ_ hq;let wq:=eS m0! hq;let cq:∀h∈kl,ca h≠q:=λh hh=>eS m0_ hq;rw[fJ]at e;let c:o.h∉kl:=by
   by_cases c:o.h∈kl
   .rw[MO c]at e;rcases e
   .exact c
  let qh:Bp gp! lE_ cr!=gp!++th!:=mU (λz=>by
   rw[OD]at z;let#[x,hx,ex]:=NB.mp z;exact c (by rw[<-D.int.inj ex];exact hx))
  rw[qh];exact a7q ((mup_ne (NY tq)).trans mup_same) rfl a_ ?_;generalize e2:mup (mup gs_ ta th_) q (.lst ([]++dE_))=M2;let m2:∀b,b≠q->b≠ta->M2 b=M b:=λb Y h2=>by rw[<-e2,fE_,kD_,fE_]
  let m2q:M2 q=yJ_ dE_:=by rw[<-e2];exact mup_same
  let m2t:M2 ta=ψ th_:=by rw[<-e2,Ds_ tq];exact mup_same
  exact oZ ?_;rw[cu_];exact Fl! at_;let nc:∀h∈kl,h≠o.h:=λh hh z=>c (z▸hh);let zm:=hA.nol c;exact hR _ (kl++[o.h]) (λh=>if h=o.h then q else ca h) #[mup_same,#[ep+1,?_],?_,m1_,?_,f0_,m1_,λh hh h' pv ee=>?_,?_] λb J ho=>#[(td_).trans (Kg_ m4!),bZ_]
  .rw[tf!,m2t,NV];congr 3
   .apply OT;intro h hh;rw[MZ (nc h hh)]
   .show _=[(D.int o.h,D.fn (if o.h=o.h then q else ca o.h))];rw[y_]
  .rw[tg!,m2 wa wq (NY tw)];exact hA.wt
  .show mup M2 a _ iW!=_;by_cases z:h=o.h
   .rw[MO z,Ds_ (NY aq),m2q,z,fL,oM,y_,zm];rfl
   .let pv:h∈kl:=(m4_).resolve_right λy=>z iW_;rw[MZ z,Ds_ (cA h pv),m2 _ (cq h pv) (cT h pv),fL,oM,MZ (NY z),OA];exact Gv_ pv
  .rw[OL];exact#[hA.nk,rK!,λx hx y hy=>by rw[NI.mp hy];exact nc x hx]
  .rw[fL,oM,ND,NI];by_cases z:o.h=h
   .rw[MO z];simp[z]
   .rw[MZ z,OA,<-hA.mem h];simp[NY z]
  .show iW!≠wa;by_cases z:h=o.h
   .rw[MO z];exact NY wq
   .rw[MZ z];exact hA.cw h ((m4_).resolve_right λy=>z iW_)
  .let g:∀x,x∈kl++[o.h]->x≠o.h->x∈kl:=λx hx z=>(oZ_).resolve_right λy=>z iW_;let r9:iW!=(if h'=o.h then q else ca h'):=ee;by_cases z:h=o.h
   .by_cases z':h'=o.h
    .rw[z,z']
    .rw[MO z,MZ z']at r9;exact C6_ r9.symm (cq h' (g h' pv z'))
   .by_cases z':h'=o.h
    .rw[MZ z,MO z']at r9;exact C6_ r9 (cq h (g h hh z))
    .rw[MZ z,MZ z']at r9;exact hA.ci h (g h hh z) h' (g h' pv z') r9
  .rw[NR,NR];let:=hA.len;simp;omega
  .obtain z|z|⟨h,hh,e⟩:=z
   .exact ho fj_
   .exact ho m4!
   .let e:b=iW!:=e;by_cases z:h=o.h
    .rw[MO z]at e;exact eS J hq e
    .rw[MZ z]at e;exact ho (De_ #[h,(m4_).resolve_right λy=>z iW_,e])
def Hist.next{os:k_}(h:Hist (S++o::os)):o.n=gq!+1:=by
 let:=(h.ch o.h).num (dR!).length o;rw[fL]at this;let e:hs ly_ o.h=o::hs os o.h:=by delta hs;rw[OO b!]
 rw[e]at this;exact this (by rw[OU u!];simp)
structure Nx(yy:Int)(S:k_)(o:Op):Prop where
 f:CV o
 y:o.h≠yy
 n:gq!<o.n
 t:lt S o.h<o.tm
def b0x(h:bS!):Ac f Af ρ=ψ [d]:=by delta Ac;rw[h];rfl
def c2t(h:hR_):f1 g fs ρ=g ds:=by delta f1;rw[h];rfl
def Hist.nx(h:Hist (S++ms))(hy:∀o∈ms,o.h≠yy):∀o∈ms,Nx yy S o:=λo ho=>by
 let hc:=h.ch o.h;rw[fL]at hc;let hm:=jW.mpr m5_;exact#[h.op o (MY _ ho),hy o ho,?_,?_]
 .let#[i,hi,e]:=US.mp hm;let:=hc.num ((dR!).length+i) o (by rw[OU a!,Nat.add_sub_cancel_left,NK hi,e]);omega
 .delta lt;cases e:(dR!).getLast? with
  |none=>show(0:Int)<o.tm;let:=(h.op o (MY _ ho)).t1;omega
  |some x=>exact(VY.mp hc.tim).2.2 x (VZ e) o hm
end
def c6o(p q:α->Bool)(l:W!)(h:∀x∈l,¬(p x=τ/\q x=τ)):(l.filter p++l.filter q).Perm tr!:=by
 let Y:=List.filter_append_perm p tr!;rw[UH,UH]at Y;let e1:(l.filter λx=>p x&&(p x||q x))=l.filter p:=RC λx _=>by cases p x<;>simp
 let e2:(l.filter λx=>(!p x)&&(p x||q x))=l.filter q:=RC λx hx=>by
  cases c:p x<;>cases d:q x<;>simp_all
 rw[e1,e2]at Y;exact Y
def zG:∀{kl:r_},kl.Nodup->(ts_).Perm (S.filter λo=>decide (o.h∈kl))
 |[],_=>by simp
 |k::kl,nd=>by
  rw[NO]at nd;exact((zG nd.2).append_left _).trans ?_;exact(c6o (λo:Op=>decide (o.h=k)) (λo=>decide (o.h∈kl)) S λx _ z=>?_).trans (List.Perm.of_eq (RC λx _=>by simp[MM]));simp![NT]at z;exact nd.1 (z.1▸z.2)
section
variable{t:Bb}{M:Mh}{ρ:Ae}{yy:Int}{a ta wa:sw!}{out:D}{S:List Op}{kl:List Int}{ca:Int->Addr}
def Ay.perm(hA:ar_):Ie! ts_:=by exact(zG hA.nk).trans (List.Perm.of_eq (PJ.mpr λo ho=>?_));rw[NT,hA.mem];intro z;let:o∈hs S o.h:=jW.mpr m5_;rw[z]at this;exact(MN this).elim
def JJ(t:Bb):WS:=AG 1 nP!
def b3t(hA:ar_)(dw:ck M)(hS:bs_):∀(ks:r_) (σ:k_) (y:Z_) (R:l_),(∀h∈ks,h∈kl)->cU_+64*kU!<100000->
  (∀y',D0! [C_,ψ (.lst ((σ++ks.flatMap (hs S)).map Op.v)),y'] M)->
  Fw cb_ ck (JJ t) (ks.map D.int) [C_,ie!,y] M R
 |[],σ,y,R,_,_,hR=>#[dw,by let:=hR y;simpa using this]
 |h::ks,σ,y,R,hk,hl,hR=>by
  exact qs!;show"!g";let hh:=hk h ML;show JJ t [C_,ie!,gr!] M _;show AG 1 nP! [C_,ie!,gr!] M _;let i1:=Gh! ht (by rw[fJ,MO hh]);exact eG dQ_ c! i1 _ ?_;rw[zR mL!];exact iY ?_;let hlS:(c6!).length<64:=OZ (rJ S h) hS;dsimp only[List.length_cons]at hl;exact tv_;rw[<-NV];exact b3t hA dw hS ks (σ++hs S h) (ψ gr_) R (Ie_ hk) w5_ λy'=>?_;let:=hR y';rw[List.flatMap_cons,<-PN]at this;exact this
def gU(hA:ar_)(hH:as!)(hS:bs_):Ea! Dg c9_ gv_:=λK hK=>by
 let#[ep,ht]:=hA.tk;exact j_;show HM_ (JJ t) [C_,ψ dK!,υ] M _;delta Ag Cn Jx;exact JN_ hF2 _ ?_;rw[dJ ht];exact iY ?_;let pj:iQ!<64:=OZ hA.len hS;let ek:Dc_ gp!=kl.map D.int:=by rw[OD];rfl
 rw[ek];exact b3t hA ht hS kl [] υ _ (λh hh=>hh) aS! λy'=>?_;let hp:=hA.perm;let nd:=F1_ hH.keys;let he:f1 Cy cB! [C_,ψ (.lst tw!),y']=ψ gv_:=by
  show Cy [.lst tw!]=_;rw[QC,mW nd tw_,rX hp nd]
 exact cZ (aP he) hK
structure OS(t:Bb)(M:Mh)(a o:sw!)(O:bD_)(W:OW):Prop where
 hob:∃yy ta wa,M a=ψ m7_
 out:DX_ M W 1500
def c6n(hA:b9_)(hH:as!)(hS:bs_)(hr:Yk W0 m8! W')
  (hR:∀M' o O',Hn! O' W'->Dv_ M' ag_->(GL! M)->(∀b,M b≠υ->¬O' b)->R ag_ M'):IP_ Ct:=by
 exact j_;exact kS (jI (Hm_ (JN_ hF4))) ?_;exact oZ ?_;let hp:Ie! aT!:=cF S;let hc:∀K:D->Mh->Prop,Kj t [.lst eV_] M K->Ak 1 (Kj t) jy_ [C_] M K:=λK h=>by
  show Fa_ (Dg t) [C_] M _;exact fS c! (gU hA hH hS) _ cO!
 exact hc _ (b4p (F1_ hH.keys) (F1_ hH.names) tw_ (λo ho=>(hH.op o (hp.mem_iff.mp ho)).dg) (by rw[a3x hH.keys];exact hr) λo M1 O' ho hO hw fr=>?_);let fa:=fr a iT_;exact gZ χ (fa.1.trans hA.ob) ly! hP5 ?_;let h2:Bl t (mup M1 a m7_) o O' W' 1500:=hO.keep λc hc=>mup_ne λz=>fa.2 mf!;let k:∀b,M b≠υ->b≠a->mup M1 a m7_ b=M b:=λb J hn=>(pO!).trans (fr b J).1;show"!g";let zu:={hA with ob:=mup_same,tk:=#[ep,(k ta mZ_ λz=>by rw[z,hA.ob]at ht;rcases ht).trans ht],wt:=(k wa m0! λz=>by let:=hA.wt;rw[z,hA.ob]at this;rcases this).trans hA.wt,cl:=λh hh=>(k _ m0_ λz=>by let:=hA.cl h hh;rw[z,hA.ob]at this;rcases this).trans mL!};exact cZ (eX c! mup_same hF4) (hR _ o O' #[#[yy,ta,wa,mup_same],h2] zu k λb J=>(fr b J).2)
variable{o:sw!}{O:Addr->Prop}{W:OW}{x:D}
def sZ(h:aT_):Ea! Ct c9_ ag_:=λK hK=>by
 let#[yy,ta,wa,hob]:=h.hob;exact j_;exact fH (jI (Hm_ tB_)) ?_;exact cZ tB_ hK
def OS.nob(h:aT_)(hm:pp_):Dd t.B6 m M ag_:=by exact h.out.noOb hm
inductive HQ(t:Bb)(M:Mh)(yy:Int)(a ta wa:sw!)(S:k_)(kl:r_)(ca:b7_)(W:OW):Prop
 |new (h:b9_) (hH:as!) (hS:bs_) (hr:Yk W0 m8! W):Kc! M
 |old {o:sw!} {O:bD_} (h:Dv_ M ag_) (hO:aT_):Kc! M
def eF(h:f ρ M λd M1=>q bR_ M1 R):Km! f:=h
def MB(t:Bb)(M:Mh)(yy:Int)(a ta wa:sw!)(S:k_)(kl:r_)(ca:b7_)(W:OW)(M':Mh)(o:sw!)(O:bD_):Prop:=Hn! O W/\Dv_ M' ag_/\∀b,M b≠υ->b≠a->M' b=M b
def d2c(h:m9!)(hR:∀M' o O,Do! MB M W M' o O->R ag_ M'):IP_ Ct:=by
 cases h with
 |new h hH hS hr=>exact c6n h hH hS hr λM' o O Y h2 h3 _=>hR M' o O #[Y,h2,h3]
 |old h hO=>exact sZ hO _ (hR M _ _ #[hO,h,x4_])
def d4s{f1 f2:m_}(Y:f1 ρ=ψ b)(h2:f2 ρ=ψ c)(k:g [b,c] M K E):Jz 2 g E pK_ ρ M K:=by delta Jz Ab Ad;rw[dS Y,dS h2];exact cZ!
def c7i(h:n<=2000):n<10 ^ 60:=OZ h (NN (show 2000<10 ^ 4 by decide) (Nat.pow_le_pow_right a_ a_))
def Of(t:Bb)(M:Mh)(a:sw!)(W:OW)(Q:cq_):Prop:=∀K:D->Mh->Prop,(∀M' o O,OS t M' a o O W->Q M'->K ag_ M')->Ct t c9_ M K
def OS.of(h:aT_):Of t M a W (·=M):=λK hK=>sZ h _ (hK M o O h χ)
def HQ.of(h:m9!):Of t M a W λM'=>Kc! M'/\∀b,M b≠υ->b≠a->M' b=M b:=λK hK=>d2c h λM' o O hA=>hK M' o O hA.1 #[.old hA.2.1 hA.1,hA.2.2]
end
section
variable{t:Bb}{M:Mh}{o r f p:sw!}{O:Addr->Prop}{W:OW}{B:Nat}{R:D->Mh->Prop}{pre xs:List D}{x:D}{k:MK}
def yU(h:kf!)(hl:i!<5000)(hR:R N_ M):Hc t [.fn r] M R:=by
 let#[kf,ef,kp,ep,hf,hp,K,_]:=h.dc;let nx:∀{u v},xs=u++v->kget kf (H9! u)=ψ fv!:=λ{u v} e=>by
  let nd:=K.nd;rw[e]at nd;rw[K.f,e];exact a1p (oY_).1
 let step:∀(rest done:d_),xs=done++rest->∀R':Fl->Mh->Prop,R' (.nx [fy_,ψ N_,ψ .non]) M->
   Cm uh_ ui! (rest.length+1) [fy_,ψ (.lst done),ψ (rest.headD .non)] M R':=by
  intro rest
  induction rest with
  |nil=>
   intro done e1 R' ic;rw[OA]at e1;rw[e1]at ic;simpa[Cm,Ca,fT,f2,Aa,fC,Bh,Iw]using ic
  |cons y rest ih=>
   intro done e1 R' ic;let hy:y∈xs:=by rw[e1];simp
   let y0:y≠.non:=λz=>(NO.mp K.nd).1 (z▸hy);let#[k,ek]:=K.hk y hy;let km:=nx (u:=done++[y]) (v:=rest) (DS! e1);rw[a1m]at km;let J:done.length<big:=by rw[e1]at hl;simp at hl;delta big;omega
   let:=ih (done++[y]) (DS! e1) R' ic;rw[NH,Cm];simpa[Ca,fT,f2,Aa,fC,Bh,kN y0,Ag,Wj,Dm,Po,J,Am,w2,wl,Au,Fx,h.ob,b3e,By,hf,ek,km]using this
 let km:kget kf .non=ψ (xs.headD .non):=nx (u:=[]) χ;exact j_;dsimp only[Mg,Ag,Wj];simp[-List.headD_eq_head?_getD,Dm,Sb,Af,Am,w2,wl,Au,Fx,Aa,fC,h.ob,b3e,By,hf,km,Ck,Jy];exact#[i!+1,step xs [] χ _ ?_];simpa[Aw,wl,Aa]using hR
def a0o{p:D}(h:ao_)(hk:aB_)(hx:lP!)(hR:R p M):FB_ Ex:=by let#[ad,rfl,hO,hI]:=h;let#[_,e,k1,ep,rfl,_,_,_,q]:=hI.ty .par ο;exact j_;simpa[Gx,Aw,w2,wl,Au,Fx,Dm,Aa,hI.ob,oF1,By,e,hk,q x p hx]using hR
def wP(h:ao_)(w:Bt W)(hB:B<4000)(hx:cQ!)(hR:R gw_ M):FB_ Eg:=by let#[ad,rfl,hO,hI]:=h;let#[k2,e2,h2,_,q]:=hI.dirV (b:=τ);let#[k,hk]:=pS w hx;let#[hr,lr]:=hI.row (b:=τ) hx;exact j_;simp[Ga,Aw,w2,wl,Au,Fx,Dm,Aa,hI.ob,oF2,By,h2,hk,(q x).1 hx,Az,Ad,Dd,hr.ob,rM];exact yU hr a! hR
nonrec def shn(W:OW)(x:D):μ dr!:=(bB_).filter (·.2.2)
def a4a(hO:ao_)(w:Bt W)(hx:a5!)(hB:B<4000)(hR:R (.lst (Dc_ eX!)) M):FB_ Dv:=by
 let#[ad,rfl,hO,hI]:=hO;let#[k3,e3,h3,_,q3]:=hI.dirV (b:=θ);let#[_,h6,k6,e6,rfl,_,q6]:=hI.ty .hid ο;let#[k,hk]:=(w.nm x hx).key;let#[hr,lt]:=hI.row (b:=θ) hx;let lt:=lt;let hr:Gz t M _ _ _ o7!:=hr;exact j_;let zl:∀R',w2 By e5_ p! na! M R'=R' (.fn (ad (.row x θ))) M:=by
  intro R';simp[w2,wl,Au,Fx,hI.ob,oF3,By,h3,hk,(q3 x).1 hx,Dm,Aa]
 show Aw (Bd 1 [0] _ _ _ _) na! M _;simp![Aw,Bd,Cb,Az,zl,Ad];exact#[by simp![Dd,hr.ob,rM.2.2.1,and_self],χ,?_];exact yU hr (OZ lt a!) ?_;exact#[by delta big;exact NW lt a!,?_];exact cO (λd=>!(Iz! k6).isSome) id ο _ _ a7! ?_
 .show"!?";let#[kq,iq]:=(IL_ w.sg).key;exact#[tG!,χ,lM_,Cy!];simpa[wT,w2,wl,Au,Fx,Aa,Dm,hI.ob,oF6,Gq,h6,iq]using hK
 .let e:((o7!).filter λd=>!(Iz! k6).isSome).map id=Dc_ eX!:=by
   rw[VN,UG];congr 1;exact RC λq hq=>?_;show(!(kget k6 q.1).isSome)=q.2.2;cases c:q.2.2 with
   |false=>rw[(q6 q.1).mpr #[x,hx,q,hq,χ,c]];rfl
   |true=>
    cases z:(kget k6 q.1).isSome with
    |false=>rfl
    |true=>
     let#[y,hy,q',bh,e1,e2]:=(q6 q.1).mp z;cases w.su y hy x hx q' bh q hq e1;let e2':q'.2.2=false:=e2;rw[jD (b:=q'.2) (w.snd x hx) (Di_ e1 bh) hq,c]at e2';exact C6! e2'
  rw[e];exact hR
def a8d(hO:ao_)(w:Bt W)(hx:a5!)(hB:B<4000)(hl:i2_)(hj:nb_)(hR:R v M):FB_ Fs:=by
 let#[ad,rfl,_,hI]:=id hO;let#[_,h5,k5,e5,rfl,_,q5]:=hI.ty .wri ο;exact j_;show Aw (Pd _ (Bd 1 [0] uB_ _ _ _)) na! M _;dsimp only[Aw,Pd,Bd,Cb];exact fQ c! (hI.noOb ck_) c! (λK hK=>a4a hO w hx hB hK) _ ?_;let ls:(eX!).length<=(bB_).length:=QT _ _;exact da!;let q5:∀q∈shn W x,kget k5 q.1=ψ q.2.1:=λq hq=>q5 _ _ #[x,hx,q,(nc!).1,χ,χ];exact cO eB! (λd=>(Iz! k5).getD .non) ο _ _ a7! ?_
 .show"!?";let#[kq,iq]:=(w.sg x hx q (nc!).1).key;exact#[tG!,χ,eB_,q1_];simpa[w2,wl,Au,Fx,Aa,Dm,hI.ob,oF5,By,h5,iq,q5 q hq]using hK
 .rw[f8_,OD,OT (g:=(·.2.1)) λq hq=>by show(kget k5 q.1).getD .non=_;rw[q5 q hq];rfl,hj];exact hR
def a7j:∀(l:a3_),(∀q∈l,∃c:Nat,q.2.1=.str H_)->∃cs:List Nat,l.map (·.2.1)=cs.map Nk/\aQ!=ah!
 |[],_=>AD!
 |q::l,h=>by
  let#[cs,e1,e2]:=a7j l λx hx=>h x b0!
  let#[c,e]:=h q ML;exact#[c::cs,by rw[MU,MU,e1,e];rfl,by rw[NH,NH,e2]]
def c1z(hw:fY_)(hx:a5!)(hl:i2_):∃s,Hm g6_ nb!=ψ aI_:=by
 let#[cs,e1,e2]:=a7j eX! λq hq=>hw.chr x hx q (nc!).1
 let ls:(eX!).length<=(bB_).length:=QT _ _;rw[e1];exact#[Txt.join dB_ hZ_,?_];show((Li la_).bind λys=>if(hA!).sum+X_*(dB_).length<=big then ψ (D.str (He_ dB_))else υ)=_;rw[qG];show fH!=_;rw[HQ! a0b zI]
end
section
variable{M:Mh}{R:D->Mh->Prop}{w:sw!}{O:Addr->Prop}{W:OW}{x v:D}{k:MK}
def a3m(h:aa!)(wi:Bt W)(hx:Sd x)(hl:f5!):Qs Gm [dG_,x] M gw_:=λK hK=>by
 let#[wt,wn,qa,hA]:=h;let#[e,hw]:=hA.mw;exact j_;show Aw qX_ i3! M _;simp![Aw,Bd,Cb,ixw (ρ:=i3!) χ hw k3r];exact qY!;exact cO (λd=>match d with|.tup [_,p]=>decide (p=x)|_=>θ) (λd=>match d with|.tup [i,_]=>i|_=>.non) ο _ _ a7! ?_
 .show"!?";exact#[ct!,χ,λK hK=>fR (ρ:=ct!) ?_ _ hK,λ_ K hK=>aP (ρ:=ct!) tO _ hK];let:f2 At gC_ r! ct!=JF_ (q.2=x):=aS a2i χ (nN (G1_ q).2.1 hx);show"!y"
 .rw[UG,OD];exact hK
def wX(h:aa!)(hx:a5!)(hk:aB_)(hl:i2_)(hj:nb_):Qs Gg [dG_,x] M v:=λK hK=>by
 exact j_;show Aw (Pd _ (Bd 1 [] w6_ _ _ _)) i3! M _;delta Aw Pd Bd Cb;exact b7s (ρ:=i3!) h χ χ hk hx _ da!;exact cO (λd=>match d with|.tup [_,_,.bl b]=>b|_=>θ) (λd=>match d with|.tup [_,c,_]=>c|_=>.non) ο _ _ a7! ?_
 .show"!?";exact#[[lW!],χ,λK hK=>fR (ρ:=[lW!]) χ _ hK,λ_ K hK=>aP (ρ:=[lW!]) χ _ hK]
 .rw[UG,OD];show Dm (Hm (.str dB_) nb!) _;rw[hj];exact hK
end
structure Wd where
 its:μ D
 txt:D->μ dr!
 num:D->μ D
 ch:D->μ D
nonrec def hC(i p s:D)(ch:D->μ D)(x:D):μ D:=if p=x then Lr i s ((ch x).filter λc=>decide (c≠i))else(ch x).filter λc=>decide (c≠i)
section
variable{t:Bb}{M M':Mh}{yy:Int}{a ta wa:sw!}{S:List Op}{kl:List Int}{ca:Int->Addr}{W V:OW}
def HQ.keep(h:m9!)(k:mL_):Kc! M':=by
 cases h with
 |new Y h2 h3 h4=>exact .new (Y.keep k) h2 h3 h4
 |old h hO=>
  let#[y,p,q,hob]:=hO.hob;exact .old (h.keep k) #[#[y,p,q,(k a (EI! hob)).trans hob],hO.out.keep λc hc=>k c (hO.out.live hc)]
structure HR(t:Bb)(M:Mh)(yy:Int)(a ta wa:sw!)(S:k_)(kl:r_)(ca:b7_):Prop where
 hd:∃out,Dv_ M out
 q:∀W,Yk W0 m8! W->Kc! M
def Ay.hr(h:b9_)(hH:as!)(hS:bs_):Do! HR M:=#[#[_,h],λ_ hr=>.new h hH hS hr]
def HR.keep(h:tK!)(k:mL_):Do! HR M':=by let#[o,hA]:=h.hd;exact#[#[o,hA.keep k],λW hr=>(h.q W hr).keep k]
end
def a2u:∀(xs:r_) (a:Int),a<=Ey! a/\∀x∈xs,x<=Ey! a
 |[],a=>#[QD _,λx h=>by exact(em_).elim]
 |y::xs,a=>by
  let#[Y,h2]:=a2u xs (max a y);rw[SO];exact#[p_,aA!];obtain rfl|hx:=MM.mp hx
  .omega
  .exact h2 x hx
def b3d:∀(xs:r_) (a:Int),Ey! a=a\/Ey! a∈xs
 |[],a=>.inl χ
 |y::xs,a=>by
  rw[SO,MM];obtain z|z:=b3d xs (max a y)
  .rw[z];omega
  .exact .inr g4_
def CJ:μ Int->Int:=Yh 0 υ
def c0s:∀{l:r_},l≠[]->CJ l∈l
 |[],h=>Dd! h
 |x::xs,_=>MM.mpr (b3d xs x)
def a1b:∀{l:r_} {x:Int},x∈l->x<=CJ l
 |y::xs,x,h=>by
  obtain rfl|h:=MM.mp h
  .exact(a2u xs x).1
  .exact(a2u xs y).2 x h
def Uy(S:k_):Int:=CJ tK_
section
variable{t:Bb}{M:Mh}{ρ:Ae}{yy:Int}{a ta wa:sw!}{out:D}{S:List Op}{kl:List Int}{ca:Int->Addr}{W:OW}{x:D}
def c0r(h:o∈S):o.tm<=Uy S:=a1b (NM _ (NQ h))
def a9h(h0:0<=B)(h:∀x∈S,x.tm<=B):Uy S<=B:=by
 obtain z|z:=ND.mp (c0s (l:=S.map Op.tm++[0]) b!)
 .let#[o,ho,e]:=NB.mp z;let:=h o ho;show CJ _<=B;omega
 .let h3:Uy S=0:=NI.mp z;omega
def d6t(hh:hs S h≠[]):∃o∈S,o.tm=lt S h:=by
 delta lt;cases e:(c6!).getLast? with
 |none=>exact C6_ mR_ hh
 |some o=>exact#[o,(jW.mp (VZ e)).1,χ]
def d6u(hH:as!)(ho:o∈S):o.tm<=lt S o.h:=by
 let hm:=jW.mpr m5_;delta lt;cases e:(dR!).getLast? with
 |none=>rw[QP.mp e]at hm;exact(MN hm).elim
 |some x=>
  let#[l,hl]:=List.getLast?_eq_some_iff.mp e;let hp:=(hH.ch o.h).tim;rw[hl]at hm hp;obtain z|z:=ND.mp hm
  .exact IC_ ((VY.mp hp).2.2 o z x b!)
  .rw[cY!];exact QD _
def a6f(f:α->Int):∀l:List α,Ll tN!=ψ ii_
 |[]=>rfl
 |x::l=>by
  show(Ll tN!).map (f x::·)=_;rw[a6f f l];rfl
def b2s(h:l=[]->k=ψ 0):Vw k [.lst (l.map D.int)]=C2_ (CJ l):=by
 show(Ll (l.map λh=>D.int (id h))).bind _=_;rw[a6f,VN];show(GY! l (.int (CJ l)))=_;split
 .rename_i z;rw[h z,z];rfl
 .rfl
def d6o:0<=Uy S:=a1b (MY _ kW!)
def a0x(hA:ar_)(hH:as!)(hl:bs_):Ea! Ib c9_ (.int i5!):=λK hK=>by
 let#[ep,ht]:=hA.tk;let hk:∀x∈S,x.h∈kl:=λx hx=>(hA.mem x.h).mpr λy=>by let hm:x∈hs S x.h:=jW.mpr #[hx,χ];rw[y]at hm;exact(MN hm).elim
 let e:CJ ne_=Uy S:=by
  let z:kl.map (lt S)=[]\/∃o∈S,o.tm=CJ ne_:=(Classical.em _).imp_right λkn=>by
   let#[h,hh,e]:=NB.mp (c0s kn);rw[<-e];exact d6t ((mK_).mp hh)
  exact Int.le_antisymm ?_ ?_
  .obtain z|⟨o,ho,e⟩:=z
   .rw[z];exact d6o
   .rw[<-e];exact c0r ho
  .exact a9h ?_ λo ho=>Int.le_trans (d6u hH ho) (a1b (NQ (hk o ho)));obtain z|⟨o,ho,e⟩:=z
   .rw[z];exact QD _
   .let:=(gA!).t1;omega
 exact j_;let hc:Pu u9! [C_] M (.lst (Hk! ne_)):=λK hK=>by
  delta Bd Jx;exact JN_ hF2 _ ?_;rw[dJ ht];let pj:iQ!<64:=OZ hA.len hl;exact iY tv_;exact cO eB! (λd=>match d with|.int h=>.int (lt S h)|_=>.non) ht _ _ a7! ?_
  .rw[OD]at hd;let#[h,_,rfl]:=NB.mp hd;exact#[[gr!,C_],χ,eB_,λ_ K hK=>dM c! c! (pO hA) _ hK]
  .rw[f8_,OD,OD];rw[OD]at hK;exact hK
 exact cZ (eG c! (a4q hc ((b2s λ_=>χ).trans (by rw[e]))) χ) hK
def d4t{f1 f2:WE}(Y:C9! f1 x)(h2:C9! f2 y)(k:g [x,y] M K):Fq! 2 B8_:=by exact FI! cZ!
def a0i(h:ic!)(h2:C9! g e):C9! (Qu (Ab f (Ab g Ad))) (.tup [d,e]):=λK hK=>by
 exact h _ (h2 _ #[qF!,hK])
def c7h(hA:ar_)(hH:as!)(hl:c7!<63)
  (hR:∀M' ba bc,I5_ (S++[tS!])->Im! a->R tT_ M'):Qf t [a9_,d] M R:=by
 let hT:=a0x hA hH a!;exact j_;exact gW (a0i tS_ (eG (J1_ c! tS_) c! (d:=nh!) (EX_ Int.add_comm))) ?_;let hv:Pu u9_ [C_,fZ_,ψ tT_] M (Op.mk yy (1+dY!) i5! d).v:=eG c! (a0i (fS c! hT) c!) χ;exact a4e (d4t c! hv (zX hA a! λM' ba bc ir hK=>?_));exact cZ c! (hR M' ba bc ir hK)
def a9x(h:R aI_):Dm (FB c s c) R:=by delta FB;rw[y_];exact h
variable{W:OW}
nonrec def acO(S:k_)(yy:Int)(d:D):Op:=tS!
def a5y:∀{xs:d_} {k:δ} {h:Int} {x:D},(k:Int)<=h->xs[(h - k).toNat]?=ψ x->kget ((xs.zipIdx k).map λq=>gu_) gr_=ψ x
 |[],k,h,x,_,e=>by simp at e
 |y::xs,k,h,x,hk,e=>by
  rw[List.zipIdx_cons,MU];delta kget;by_cases c:(k:Int)=h
  .rw[MO (by rw[c])];rw[<-c,Int.sub_self]at e;exact e
  .rw[MZ λz=>c (D.int.inj z)];exact a5y a! ?_;rw[show(h - (k:Int)).toNat=(h - Ct_).toNat+1 by omega,List.getElem?_cons_succ]at e;exact e
def c2l(hA:ar_)(hH:as!)(hS:bs_)
  (hR:∀M',h9_->R gv_ M'):Qg t [a9_,.lst (i7!).flatten] M R:=by
 exact j_;exact eF ?_;exact#[F!,c1_];let fr:∀b,M b≠υ->Ji_ (.dct tW! (i7!).flatten.length) b=M b:=λb J=>Ks_ J hp;let ce:=hA.keep fr;delta Aw Bd Cb;exact fS c! (gU ce hH hS) _ ?_;let pm:Ie! aT!:=cF S;exact GQ! pm.length_eq;exact cO (λd=>τ) id ο _ _ a7! ?_
 .let#[o,ho,rfl]:=NB.mp hd;let hf:=hH.op o (pm.mem_iff.mp ho);let J:=hf.hh;let Y:=hf.n1;exact#[[T_,bo_],χ,lM_,λ_ K hK=>by rw[cu_];exact hK];let hg:(kget tW! lE_).getD U_=.int 0:=by
   rw[a5y (x:=dx!) a! (by obtain z|z|z|z:=J<;>rw[z]<;>rfl)];rfl
  let e:Ya (.int o.n) U_=ψ v_:=by
   show Jo_ (0<o.n)=_;rw[NG a!]
  exact jI (eG (aP (a0p o)) (iW c! mP! c! mup_same χ hg) e) K hK
 .rw[VN,PJ.mpr λ_ _=>χ];exact hR _ fr
def sM(hf:∀o:Op,ft gD!=ψ (p o)):∀(os:k_),Cc q_ ft k! i9! ah_=ψ tX_
 |[]=>rfl
 |o::os=>by
  let ih:=sM hf os;let e1:Ar 0 o.v i9!=ψ gD!:=χ;let e2:Aa 0 gD!=ψ o.v:=χ;rw[MU];delta Cc;rw[e1];show((ft gD!).bind λb=>if b then(Aa 0 gD!).bind λy=>(Cc q_ ft k! i9! ah_).map kb_ else Cc q_ ft k! i9! ah_)=_;rw[hf,e2,ih];show(if p o=τ then ψ (o.v::(os.filter p).map Op.v)else ψ tX_)=_;cases c:p o with
  |true=>rw[y_,OO c];rfl
  |false=>rw[bY_,OP (DS! c)]
def c4r(hH:as!)(hl:bs_):Qs Pb [.lst dd_,gB!,d] M (.tup [gB!,nh!,.int i5!,d]):=λK hK=>by
 exact j_;let hc:Pu xf_ [gF!,de!,fZ_,υ] M t1_:=λK hK=>by
  exact da!;exact cO eB! (λd=>match d with|.tup [_,_,z,_]=>z|_=>.non) ο _ _ a7! ?_
  .let#[o,_,rfl]:=NB.mp hd;exact#[[T_],χ,eB_,λ_ K hK=>aP (ρ:=[T_]) (a8t o) _ hK]
  .rw[f8_,OD];rw[OD]at hK;exact hK
 exact gW hc ?_;let e1:IZ_ 1 jb_=yJ_ t2_:=by
  let e:=sM (ft:=fT jY!) (λo=>by
   let:IO! At [T_,de!]=C4_ nl_:=aS (mF o) χ dS!;delta fT;rw[this];rfl) S
  show(Bf! dd_ (Cc _ _ _ [υ,de!] dd_))=_;rw[e1!,e];rfl
 let e2:H8_ xg! jb_=C2_ (1+dY!):=K3_ e1 (show ψ (D.int ((t2_).length:δ))=_ by rw[MV]);let e3:H8_ xh_ jb_=C2_ i5!:=by
  let Y:f2 An S! xh! jb_=Jw! tK_ D.int:=FA_ aS (by
   show fH!=_;rw[MO (by simp![MV,NH,QS];delta big;omega),NV];rfl)
  exact K3_ Y (b2s b!)
 exact cZ (aP (a0a (cB χ (cB e2 (cB e3 et!))) χ)) hK
end
section
variable{t:Bb}{M:Mh}{o r f p:sw!}{O:Addr->Prop}{W:OW}{B:Nat}{R:D->Mh->Prop}{pre xs:List D}{x:D}{k:MK}
def xJ(h:ao_)(w:Bt W)(hx:a5!)(hR:R e2! M):FB_ Er:=by
 let#[ad,rfl,hO,hI]:=h;let#[k,hk]:=(w.nm x hx).key;let#[k4,e4,h4,e,hq]:=hI.numV hx;let hq:M ks_=ψ e2!:=hq;let hl:(bW!).length<=big:=by rw[w.nl x hx];decide
 exact j_;simpa[Gi,Aw,w1,Ab,Ad,w2,wl,Au,Fx,Dm,Aa,hI.ob,oF4,By,h4,hk,e,Wx,Pn,hq,hl]using hR
end
def Ur(W:OW)(P:er!):Prop:=∀x∈W.its,P x/\∀d∈W.num x,∃i:Int,d=.int i
def c0l{W:OW}{P:er!}(h:Ur W P)(hn:P n)(hs:Hl! n):Ur W' P:=by
 cases hs with
 |put _ _ _=>
  intro x hx;show P x/\∀d∈yn_,_;by_cases c:x=n
  .rw[MO c,c];exact#[hn,λd hd=>#[0,by simpa using hd]]
  .rw[MZ c];let jo:x∈W.its++[n]:=hx;exact h x ((ND.mp jo).resolve_right λz=>c kT_)
 |@set a p v _ _ _=>
  split
  .intro x hx;exact#[(h x hx).1,?_];show∀d∈(if x=a then(h3!).set p.toNat (.int v)else W.num x),_;by_cases c:x=a
   .rw[MO c];exact λd hd=>(List.mem_or_eq_of_mem_set hd).elim ((h a (c▸hx)).2 d) λz=>#[v,z]
   .rw[MZ c];exact(h x hx).2
  .exact h
 |_=>first|exact h|(split<;>exact h)
def c0m{W:OW}{os:k_}{P:er!}(hr:Yk W os W'):Ur W P->(∀o∈os,P o.nm)->Ur W' P:=by
 induction hr with
 |nil=>exact λh _=>h
 |cons hs _ ih=>exact λh g=>ih (c0l h (g _ ML) hs) λo ho=>g o (MF _ ho)
section
variable{t:Bb}{M:Mh}{ρ:Ae}{a w:sw!}{W:OW}{o:sw!}{O Ow:Addr->Prop}{x:D}{k:MK}
def b1c{R:L_}{Q:cq_}(zw:Of t M a W Q)(hk:aB_)(hR:∀M' o O,Hn! O W->Q M'->R yN! M'):Ks t e2_ M R:=by exact j_;show Aw u3_ [C_,bE!] M _;delta Aw Az;exact sO χ (zw _ λM' o O h hQ=>#[h.nob oM1,?_]);exact#[χ,a2t h.out hk (hR M' o O h hQ)]
def tW(h:aT_)(hk:aB_)(hx:a5!):Ea! Bz e2_ ag_:=λK hK=>by
 exact j_;exact gW t6! ?_;exact fH (a0j (FD_ oM2 iC)) ?_;exact cZ c! hK
def c4v(h:aT_)(hk:aB_)(hx:cQ!):Ea! Hq e2_ ag_:=λK hK=>by
 exact j_;exact gW t6! ?_;exact fH (a0j (FD_ oM1 a2t)) ?_;exact cZ c! hK
def b0r(h:aT_)(wi:Bt W)(hk:aB_)(hx:cQ!):Ea! Ht e2_ gw_:=λK hK=>by
 exact j_;exact cZ (fQ (Gi_ (c4v h hk hx)) jd_ c! λK hK=>wP h.out wi a_ hx hK) hK
def b9r{p:D}(h:aT_)(hk:aB_)(hx:a5!)(hp:lP!):Ea! Mj e2_ p:=λK hK=>by
 exact j_;exact cZ (fQ t9! jd_ c! λK hK=>a0o h.out hk hp hK) hK
def d1g(h:aT_)(wi:Bt W)(hk:aB_)(hx:a5!)(hl:i2_)(hj:nb_):Ea! Su e2_ v:=λK hK=>by
 exact j_;exact cZ (fQ t9! jd_ c! λK hK=>a8d h.out wi hx a_ hl hj hK) hK
def c5j{f:bh_}{q2:WS}{R:l_}(h:f ρ=ψ θ)(k:fZ!):DK! (As (Ca f) He Bf) q2:=fH (fR h) k
def b9d{i:δ}(hi:i<4):Du [nq_]=ψ v_:=b3h a! a!
def c0k{i:δ}(h:aT_)(wi:Bt W)(hk:aB_)(hx:a5!)(hi:i<4)(hv:bW![i]?=ψ v):Ea! Kk [a9_,x,nq_] v:=λK hK=>by
 exact j_;let hn:Ea! Ef [a9_,x,nq_] ag_:=λK hK=>by
  exact j_;show Ag u2! (Aw jB!) e4! M _;let hp:Ea u1_ e4!=ψ false:=by
   let:Hj! Du e4!=ψ v_:=(c2t (b0x χ)).trans (b9d hi);delta Ea fT;rw[this];rfl
  let f0:Aa 0 e4!=some by_:=rfl;let wg:Aa 1 e4!=some x:=rfl;generalize e4!=env at hp f0 wg ⊢;exact c5j hp (cZ (dM (aP f0) (aP wg) (tW h hk hx)) hK)
 let jo:By M e2! eV!=ψ v:=by
  show Et bW! cX_=_;show"#/";rw[aJ!,MO (by rw[wi.nl x hx];omega)];simpa using hv
 exact cZ (eG (fQ (uS c! c! c! hn) jd_ c! λK hK=>xJ h.out wi hx hK) c! jo) hK
def b6v(wi:Bt W){x:D}:Bc gw_=τ/\Ir gw_<=40:=by
 let h:∀d∈chl W.rows x,Sd d:=λd hd=>(kU wi dz_ (lG.mp hd)).1.sd;show"!r"
 .show Br m9_=τ;exact gY λd hd=>eC (h d hd)
 .show Cz m9_+1<=40;let:=jE λd hd=>jY (h d hd);omega
def IF(ft:WT)(q1 q2:WS)(ρ:Ae)(R:l_)(d:D)(M:Mh):Prop:=match d with
 |.bl b=>(if b then(if τ then q1 ρ M R else q2 ρ M R)else ft ρ M λb M1=>if b then q1 ρ M1 R else q2 ρ M1 R)
 |_=>False
def b3a{fa:WE}{ft:WT}{q1 q2:WS}{R:l_}(h:fa ρ M (HD_ R)):Dw! (Ym (wT fa) ft):=h
def d6a{ft:WT}{q1 q2:WS}{R:l_}(h:lC_)(k:fZ!):HD_ R B! M:=by exact h _ ?_;rw[bO_];exact k
def HZ(g:hX!)(fb:m_)(ρ:Ae)(K:L_)(x:D)(M:Mh):Prop:=wl fb ρ M λy M2=>match g M2 x y with|some d=>K d M2|none=>False
def d1a{g:hX!}{fo:WE}{fb:m_}{K:L_}(h:fo ρ M (HZ g fb ρ K)):w2 g fo (wl fb) ρ M K:=h
def zZ{g:hX!}{fb:m_}{K:L_}{x:D}(J:fb ρ=ψ y)(hg:B8!)(k:K d M):HZ g fb ρ K x M:=by delta HZ;rw[dS J,hg];exact k
def JA(t:Bb):WS:=As w9! cg_ Bf
def b1m{Q:cq_}{R:l_}(zw:Of t M a W Q)(hQ:∀M',Q M'->Es! Ow W)(wi:Bt W)(hl:f5!)(hk:aB_)(hx:cQ!)
  (hR:∀M' o O,Hn! O W->Q M'->D0! df_ M'):JA t df_ M R:=by
 exact b3a (d1a (Dd_ wV (b1c zw hk λM' o O h q=>?_)));let hL:=hQ M' q;let h2:Qq w8_ df_ M' false:=by
  exact jI (eG (Gi_ (b0r h wi hk hx)) (Gi_ (a3m hL wi (a2m wi hx) hl)) ?_);let#[n1,n2]:=b6v wi;exact jM n1 n2
 exact FP! zZ (d6a h2 (hR M' o O h q));rw[NG hx];rfl
def b1n(h:aT_)(hL:jg_)(wi:Bt W)(hl:f5!):∀(xs:d_) (y:Z_) (R:l_),(∀x∈xs,Gy W x)->ue!->Fw as_ P! (JA t) xs uQ! M R
 |[],y,R,_,hR=>#[ο,hR y]
 |x::xs,y,R,hx,hR=>by
  exact av_;let#[k,hk]:=pS wi ns!;exact b1m h.of (λM' e=>by rw[e];exact hL) wi hl hk ns! λM' o' O' h' e=>?_;let e':M'=M:=e;rw[e'];exact b1n h hL wi hl xs lu_ R ue_ hR
def c5x{f:WE}(h:ic!):C9! (AF (Ab f Ad)) (.lst [d]):=λK hK=>by
 exact h _ #[by show 1<=1000;decide,hK]
def b4k{p:D}(hx:Sd x)(hp:Sd p):Bc ns_=τ/\Ir ns_<=40:=by
 let d1:=jY hx;let d2:=jY hp;show"!r"
 .show Br nt!=τ;exact gY λd hd=>?_;rw[NI.mp hd];exact gY λd hd=>?_;simp![MM,MN,RI]at hd;obtain rfl|rfl:=hd
  .exact eC hx
  .exact eC hp
 .let Y:Cz [x,p]<=5:=jE λd hd=>by
   simp![MM,MN,RI]at hd;obtain rfl|rfl:=hd
   .exact d1
   .exact d2
  let h2:Cz nt!<=6:=jE λd hd=>by
   rw[NI.mp hd];show Cz [x,p]+1<=6;omega
  show Cz nt!+1<=40;omega
def b4j{p:D}(hL:jg_)(wi:Bt W)(hl:f5!)(hx:a5!)(hp:lP!):
  Pu xa! df_ M ns_:=λK hK=>by
 let#[wt,wn,qa,hA]:=hL;let#[e,hw]:=hA.mw;delta Bd Cb;let i1:=DT! q5! k3r;exact eG c! c! i1 _ ?_;exact da!;exact ED_ i id ο _ _ a7! ?_
 .show"!?";let#[Y,h2,_]:=G1_ q;exact CF_
  .let e1:fT jY! ct!=ψ lQ!:=by
    let:IO! At ct!=C4_ lQ!:=by
     show CG!;rw[tO];exact nN Y.sd (wi.nm x hx).sd
    show"!y"
   delta Ca;rw[e1];exact hK
  .rw[cu_];exact hK
 .let e2:((Ei_ i).map id)=[.tup [x,p]]:=by
   rw[VN,UG];show(lP_).map Be=_;rw[b3u wi hp];rfl
  rw[e2];exact hK
def b5k(h:aT_)(wi:Bt W)(hk:aB_)(hx:a5!):
  Pu xc_ df_ M e2!:=λK hK=>by
 let hi:Eu dZ! df_=ψ uf_:=nE χ a_;delta Bd Gu;rw[hi];exact#[by simp[big],?_];let hl:=wi.nl x hx;exact cO eB! (λd=>match d with|.int i=>(bW!).getD i.toNat .non|_=>.non) ο _ _ a7! ?_
 .let#[i,hi,rfl]:=NB.mp hd;let f8:=RY.mp hi;exact#[[ψ eV!,C_,bE!],χ,eB_,q1_];let hv:bW![i]?=ψ ((bW!).getD i .non):=by
   rw[List.getD_eq_getElem?_getD,NK a!];rfl
  exact uS c! c! c! (c0k h wi hk hx f8 hv) _ hK
 .let e2:(((uf_).filter λ_=>τ).map λd=>match d with|.int i=>(bW!).getD i.toNat .non|_=>.non)=W.num x:=by
   match hh:W.num x,hl with
   |[a,b,c,d],_=>rfl
  rw[e2];exact hK
def b5l{P:er!}(hn:Ur W P)(hx:a5!):Bc e2!=τ/\Ir e2!<=40:=by
 let h:=(hn x hx).2;show"!r"
 .show Br bW!=τ;exact gY λd hd=>by let#[i,rfl]:=h d hd;rfl
 .show Cz bW!+1<=40;let:=jE (n:=0) λd hd=>by let#[i,rfl]:=h d hd;exact NC _
  omega
def HK(t:Bb):WS:=(Ag w9_
 (Ag xb!
 xd!))
def c5q{pre:d_}{R:l_}(h:aT_)(hL:jg_)(hw:fY_)(ai:Ro W 1500){P:er!}(hn:Ur W P)(hx:a5!)(hR:D0! df_ M):HK t df_ M R:=by
 let wi:=hw.inv;let#[k,hk]:=(wi.nm x hx).key;let l1:=ai.rows;let l2:=ai.txt x;let#[s,hj]:=c1z hw hx a!;let#[q,hq,e]:=NB.mp ((wi.ri x).mpr hx);let#[q1,p]:=q;let e':q1=x:=e;subst e';let#[_,sp,_]:=G1_ _;exact fH ?_ ?_
 .exact jI (eG (Gi_ (d1g h wi hk hx a! hj)) (Gi_ (wX hL hx hk a! hj)) ?_);exact jM χ (by show 0<=40;decide)
 exact fH ?_ ?_
 .exact jI (eG (c5x (a0i c! (Gi_ (b9r h hk hx hq)))) (b4j hL wi a! hx hq) ?_);let#[n1,n2]:=b4k (wi.nm q1 hx).sd sp;exact jM n1 n2
 exact qH ?_ hR;let#[wt,wn,qa,hA]:=id hL;let#[e0,hw0]:=hA.mw;let#[e1,hn1]:=hA.mn;let#[hq1,_]:=hA.mq hx;let i1:=Gh! hw0 k3n;let i2:=IZ! hn1 (by rw[mV,MO hx]);exact jI (eG (b5k h wi hk hx) (eG ui_ c! i2) ?_);let:Vo M (.fn (qa q1))=.lst (W.num q1):=by simp![Vo,hq1]
 show Em (.lst (W.num q1)) (Vo M (.fn (qa q1)))=_;rw[this];let#[n1,n2]:=b5l hn hx;exact jM n1 n2
def b1l{pre:d_}{ck:cq_}(dw:ck M)(h:aT_)(hL:jg_)(hw:fY_)(ai:Ro W 1500){P:er!}(hn:Ur W P):∀(xs:d_) (y:Z_) (R:l_),(∀x∈xs,x∈W.its)->ue!->Fw as_ ck (HK t) xs uQ! M R
 |[],y,R,_,hR=>#[dw,hR y]
 |x::xs,y,R,hx,hR=>by
  exact qs!;exact c5q h hL hw ai hn ns! ?_;exact b1l dw h hL hw ai hn xs lu_ R ue_ hR
def a8n:Uc t=Ag w7!
 (Ag (Cn w7_ as_ (JA t))
 (Ag (Cn (Jx oF_) as_ (HK t))
 xe_)):=χ
def b7e{yy:Int}{S:k_}{kl:r_}{ca:b7_}{R:L_}(h:tK!)(hS:as!)(hl:bs_)(hR:∀M',R v_ M'):Mp t [a9_,.lst dd_] M R:=by
 let#[_,hA]:=h.hd;exact j_;rw[a8n];exact eF (sO χ (c4q hS.keys hS.names hl (λo ho=>(hS.op o ho).dg) λw M1 Ow W hw0 hr hL hw ai fr=>?_));let#[pre,hw]:=hw;let wi:=hw.inv;let l1:=ai.rows;let l2:=ai.its;let ra:=(fr a iT_).2;let hQ:=(h.keep λb J=>(fr b J).1).q W hr;let hn:Ur W λx=>x≠.tup p5!:=c0m hr (λx hx=>by cases hx) λo ho z=>by
  let:=(hS.op o ((cF S).mem_iff.mp (PD.mp ho).1)).hh;simp![Op.nm,D.tup.injEq,PR,D.int.injEq]at z;omega
 let tx:∀{M:Mh},Bm M w Ow W->∃wt e,By M dH! ow!=ψ f3!/\M wt=C3_ qU! e:=λhL=>by
  let#[wt,wn,qa,hA]:=hL;let#[e0,h0]:=hA.mw;let#[e1,ht]:=hA.mt;exact#[wt,e1,(fK h0 χ).trans k3t,ht]
 let ek:Dc_ ct_=W.its:=by
  rw[OD];show W.its.map (λi=>i)=_;rw[List.map_id']
 let#[wt,e1,i1,ht]:=tx hL;let kd:Qb M1 [.fn wt]=yJ_ W.its:=by
  show((Dr M1 f3!).map λq=>D.lst qD_)=_;rw[dJ ht];show Ey_ _=_;rw[ek]
 let ad:Rh M1 (.lst qC!) (.lst W.its)=yJ_ (qC!++W.its):=by
  show(if[root,binn].length+f7_<=big then _ else υ)=_;rw[MO (by simp![NH,QS];delta big;omega)]
 delta Ag Cn Cb;exact eG c! (a4q ui_ kd) ad _ ?_;exact av_;let cz:∀M',(GL! M1)->Es! Ow W:=λM' f=>hL.keep λc hc=>f c (hL.live hc) λz=>ra mf!;exact b1m hQ.of (λM' q=>cz M' q.2) wi a! χ b5! λM2 o O jh q=>?_;let u6:=cz M2 q.2;exact b1n jh u6 wi a! (binn::W.its) (ψ root) _ (λx hx=>?_) λy'=>?_
 .obtain rfl|hx:=MM.mp hx
  .exact .inr cE_
  .exact .inl hx
 show Cn (Jx _) as_ (HK t) [C_,gF!,P_,y'] M2 _;let#[wt2,e12,i2,zn]:=tx u6;delta Cn Jx;exact eG c! c! i2 _ ?_;rw[dJ zn];exact iY ?_;rw[ek];exact b1l zn jh u6 hw ai hn W.its y' _ (λx hx=>hx) λy2=>?_;let h99:¬Gy W (.tup p5!):=λz=>by
  obtain z|z|z:=z
  .exact(hn _ z).1 χ
  .cases z
  .cases z
 exact cZ (Hm_ (dM c! c! λK hK=>b1c jh.of χ λM' _ _ _ e=>by rw[NA h99,show M'=M2 from e];exact hK)) (hR M2)
end
end K23
namespace TX
open PySem Builtin.Str
def Qk(x:δ):μ cD!->μ cD!
 |w::ws=>(x::w)::ws
 |[]=>[[x]]
def Mu(p:g_):μ cD!->μ cD!
 |w::ws=>(p++w)::ws
 |[]=>[p]
def Gd(c:δ):δ->μ δ->μ cD!
 |_,[]=>[[]]
 |n,x::xs=>if x=c then(match n with|0=>Qk x (Gd c 0 xs)|m+1=>[]::Gd c m xs)else Qk x (Gd c n xs)
def Hy(c:δ):μ δ->δ->δ->μ δ
 |[],_,_=>[]
 |x::xs,i,n=>if x=c then(match n with|0=>If! c 0|m+1=>i::If! c m)else If! c n
def qR(c:δ):∀(xs:g_) (i:δ),Hy c xs i 0=[]
 |[],_=>rfl
 |x::xs,i=>by
  delta Hy;split<;>exact qR c xs _
def b1v{c x m i:δ}{xs:g_}(h:x=c):Hy c cz_ i cX!=i::If! c m:=by
 conv=>lhs;unfold Hy
 rw[MO h]
def b1u{c x n i:δ}{xs:g_}(h:¬x=c):Hy c cz_ i n=If! c n:=by
 conv=>lhs;unfold Hy
 rw[MZ h]
def c3v(c:δ):∀(n:δ) (xs:g_),Gd c n xs≠[]
 |_,[]=>by simp[Gd]
 |n,x::xs=>by
  delta Gd;let h:∀l,Qk x l≠[]:=λl=>by cases l<;>simp[Qk]
  split
  .split
   .exact h _
   .simp
  .exact h _
def zO{l:be_}(h:l≠[]):Mu [] l=l:=by
 cases l with
 |nil=>exact Dd! h
 |cons w ws=>rfl
def b3n(p:g_)(x:δ)(l:be_):Mu (p++[x]) l=Mu p (Qk x l):=by cases l<;>simp[Mu,Qk]
def b4c(s:Str)(c i:δ)(h:i<F_):Gw_ s=decide (bf![i]?=ψ c):=by
 let hs:i<s.cps.size:=h;let e:s.cps.extract i x!=[s.cps[i]].toArray:=by
  apply Array.ext
  .simp;omega
  .intro j Y h2;simp at h2;subst h2;simp
 delta subAt;let hl:(dC!).length=1:=χ;rw[hl,e];let e2:bf![i]?=ψ s.cps[i]:=by simp[hs]
 rw[e2];by_cases hc:s.cps[i]=c
 .simp[hc]
 .simp[hc]
def mL(s:Str)(c ai:δ):∀(n i:δ) (bo:qa_) (free:δ),i+n=F_+1->free<=i->bo.size<=ai->
  (forIn (m:=Id) (List.range' i n) (bo,free) (StrLaws.occBody s H_ s.length ai)).run.fst.toList=bo.toList++Hy c up! i (ai - bo.size)
 |0,i,bo,free,h,hf,hs=>by
  let:E3! i=[]:=by
   apply VU;let:cl_=F_:=by simp[Str.length]
   omega
  rw[this];simp[Hy]
 |n+1,i,bo,free,h,hf,hs=>by
  let hl:cl_=F_:=by simp[Str.length]
  rw[List.range'_succ,SD];by_cases hi:i<F_
  .let hd:E3! i=bf![i]' a!::s.cps.toList.drop x!:=QQ a!;let hg:bf![i]?=ψ (bf![i]' a!):=by simp
   let ow:=b4c s c i hi;rw[hd];by_cases hc:bf![i]' a!=c
   .let hst:Gw_ s=true:=by rw[ow,hg,hc];simp
    by_cases qj:bo.size<ai
    .let cond:up_/\Gw_ s=true:=#[#[#[qj,hf],by show i+1<=_;omega],hst];let ih:=mL s c ai n x! (bo.push i) x! a! u! (D8! YE);delta StrLaws.occBody;rw[MO cond];delta StrLaws.occBody at ih;exact Eq.trans ih ?_;rw[YE,Array.toList_push];obtain⟨m,hm⟩:∃m,ai - bo.size=m+1:=#[ai - bo.size - 1,p_];rw[hm,show ai - (bo.size+1)=m by omega,b1v hc];simp
    .let cond:¬nB!:=λz=>qj z.1.1.1;show"!5";rw[show ai - bo.size=0 by omega,qR,qR]
   .let hst:¬Gw_ s=true:=by
     rw[ow,hg];intro z;exact hc (OK (PM z))
    let cond:¬nB!:=λz=>hst z.2;show"!5";rw[b1u hc]
  .let hd:E3! i=[]:=VU a!;let cond:¬nB!:=λz=>by let:=z.1.2;let e:(dC!).length=1:=χ;omega
   show"!5";let iu:E3! x!=[]:=VU a!;rw[hd,iu];simp[Hy]
def b2j(s:Str)(c ai:δ):EK! ai=Hy c s.cps.toList 0 ai:=by rw[StrLaws.occ_eq];let:=mL s c ai (F_+1) 0 #[] 0 a! u! cl!;simpa using this
def Ls(cs:g_)(start:δ)(u7:g_):μ cD!:=((start::u7.map (·+1)).zip (u7++[aQ!])).map λ(i,j)=>(cs.drop i).take go!
def a8s(cs:g_)(start:δ):If_ Ls []=[(gL!).take (aQ! - start)]:=χ
def a4t(cs:g_)(start i:δ)(u7:g_):If_ Ls (i::u7)=(gL!).take gL_::Ls cs x! u7:=χ
def nG(c:δ)(cs:g_):∀(ys:g_) (i start n:δ),cs.drop i=ys->i<=aQ!->start<=i->If_ Ls (Hy c ys i n)=Mu ((gL!).take gL_) (Gd c n ys)
 |[],i,start,n,h,hi,hs=>by
  let hl:aQ!<=i:=by
   show"#G"
  let e:i=aQ!:=by omega
  subst e;simp[Hy,a8s,Gd,Mu]
 |y::ys,i,start,n,h,hi,hs=>by
  let au:i<aQ!:=by
   show"#G"
  let h':cs.drop x!=ys:=by
   rw[<-List.tail_drop,h];rfl
  let hy:cs[i]?=ψ y:=by
   let:=Dq! (λl=>l[0]?) h;simpa using this
  let step:(gL!).take (i+1 - start)=(gL!).take gL_++[y]:=by
   let e:i+1 - start=gL_+1:=by omega
   rw[e,List.take_add_one];congr 1;rw[List.getElem?_drop,show start+gL_=i by omega,hy];rfl
  delta Hy Gd;by_cases hc:y=c
  .rw[MO hc,MO hc];cases n with
   |zero=>
    let ih:=Go! start 0 a!;show If_ Ls (Hy c ys x! 0)=Mu _ (Qk y (Gd c 0 ys));rw[ih,step,b3n]
   |succ m=>
    let ih:=Go! x! m u!;show If_ Ls (i::Hy c ys x! m)=Mu _ ([]::Gd c m ys);rw[a4t,ih,Nat.sub_self,List.take_zero,zO (c3v c m ys)];simp[Mu]
  .rw[MZ hc,MZ hc];let ih:=Go! start n a!;rw[ih,step,b3n]
nonrec def mk(w:g_):Str:=#[w.toArray]
def b4s(s:Str)(c ai:δ):partsBetween s (EK! ai) 1=(Gd c ai bf!).map mk:=by
 let h:=nG c s.cps.toList s.cps.toList 0 0 ai χ cl! u!;rw[Nat.sub_self,List.take_zero,zO (c3v c ai _)]at h;rw[<-h,b2j];delta partsBetween Ls;simp![OD];let hl:cl_=F_:=by simp[Str.length]
 rw[hl];apply OT;rintro⟨i,j⟩ _;show strSub s i j=mk ((up!).take go!);delta strSub mk;congr 1;apply VR.mp;simp[List.extract_eq_drop_take]
nonrec def joinL(c:δ):μ cD!->μ δ
 |[]=>[]
 |[w]=>w
 |w::ws=>w++c::joinL c ws
def gC{c:δ}{w:g_}{ws:be_}(h:ws≠[]):joinL c (w::ws)=w++c::joinL c ws:=by
 cases ws with
 |nil=>exact Dd! h
 |cons v vs=>rfl
def zF(c:δ):∀(ws:be_) (σ:qa_),F5! nD_ dC!=σ++(uv_).flatten.toArray
 |[],σ=>by simp
 |w::ws,σ=>by
  rw[MU,SO,zF c ws];apply VR.mp;simp[mk]
def wA(c:δ):∀(w:g_) (ws:be_),joinL c (w::ws)=w++(uv_).flatten
 |w,[]=>by simp[joinL]
 |w,v::vs=>by
  rw[d2_,wA c v vs];simp
def c7q(c:δ)(ws:be_):Txt.join H_ nD_=mk jl_:=by
 delta Txt.join glued;cases ws with
 |nil=>rfl
 |cons w ws=>
  show"#D";rw[zF,wA];delta mk;congr 1;apply VR.mp;simp
def a7f{c:δ}:∀{w:g_} (n:δ),c∉w->Gd c n w=[w]
 |[],n,_=>by simp[Gd]
 |x::w,n,h=>by
  simp![MM,UV]at h;delta Gd;rw[uw!,a7f n h.2];rfl
def a7b{c:δ}:∀(w:g_),Gd c 0 w=[w]
 |[]=>by simp[Gd]
 |x::w=>by
  delta Gd;let ih:=a7b (c:=c) w;by_cases hc:x=c
  .rw[MO hc,ih];rfl
  .rw[MZ hc,ih];rfl
def c3w{c n:δ}:∀{w:g_} (ys:g_),c∉w->Gd c bC! (w++c::ys)=w::Gd c n ys
 |[],ys,_=>by
  show Gd c bC! (c::ys)=_
  conv=>lhs;unfold Gd
  rw[y_]
 |x::w,ys,h=>by
  simp![MM,UV]at h;show Gd c bC! (x::(w++c::ys))=_
  conv=>lhs;unfold Gd
  rw[uw!,c3w ys h.2];rfl
def a7d{c:δ}:∀(pre:be_) (last:g_) (n:δ),(∀w∈pre,c∉w)->d3_<=n->(c∉last\/d3_=n)->Gd c n nE!=pre++d4!
 |[],last,n,_,_,hl=>by
  show Gd c n last=d4!;obtain h|h:=hl
  .exact a7f n h
  .let e:n=0:=h.symm;subst e;exact a7b last
 |w::pre,last,n,hp,hn,hl=>by
  obtain⟨m,rfl⟩:∃m,n=m+1:=#[n - 1,by simp at hn;omega];rw[QX,d2_,c3w _ (hp w ML),a7d pre last m (λv hv=>hp v (MF _ hv)) (by simp at hn;omega) (hl.imp id λz=>by simp at z;omega)]
def uF{c ai:δ}{pre:be_}{last:g_}(hp:∀w∈pre,c∉w)(hn:d3_<=ai)(hl:c∉last\/d3_=ai)(hc:c<256):
  DL.Il gM_ H_ ai=(az_).map mk:=by
 let zx:=a7d pre last ai hp hn hl;let zy:=b4s gM_ c ai;let e1:(gM_).cps.toList=joinL c az_:=by simp[mk]
 rw[e1,zx]at zy;let hone:(dC!).length=1:=χ;delta DL.Il;rw[hone];split
 .rename_i h;let hk:strKind dC!=1:=by
   delta Builtin.Str.strKind;simp[hc]
  rw[Bool.or_eq_true,NT,NT,hk]at h;let ww:1<=strKind gM_:=by
   delta Builtin.Str.strKind;split
   .exact NC _
   .split<;>decide
  let h0:(gM_).length<1:=by
   obtain h|h:=h
   .exact h
   .omega
  let hj:joinL c az_=[]:=by
   let:(nE!).length<1:=by simpa[mk,Str.length]using h0
   exact List.eq_nil_of_length_eq_zero a!
  rw[hj]at zx;let:pre++d4!=[[]]:=by rw[<-zx];simp[Gd]
  rw[this];rfl
 .split
  .rename_i h;rw[List.isEmpty_iff]at h;rw[<-zy,h];delta partsBetween;simp[strSub,mk,Str.length]
  .exact zy
def d3q(s:Str)(c:δ):(!(EK! 1).isEmpty)=decide (c∈bf!):=by
 rw[b2j];generalize bf!=xs;let:∀(xs:g_) (i:Nat),(!(Hy c xs i 1).isEmpty)=decide (c∈xs):=by
  intro xs
  induction xs with
  |nil=>intro i;simp[Hy]
  |cons x xs ih=>
   intro i;by_cases hc:x=c
   .rw[b1v hc];simp[hc]
   .rw[b1u hc,ih];simp[show¬c=x from λz=>hc z.symm]
 exact this xs 0
open NumText PyProof.Rows PySem.W
nonrec def intC(i:Int):μ Nat:=(sx!).cps.toList
def c7b(i:Int):mk aF_=Str.ofString c8!:=by delta mk intC;simp
def Nl(m:δ):μ Nat:=(Nat.toDigits 10 m).map Char.toNat
def pU(m:δ):intC (m:Int)=Nl m:=KIN.signs_num m
def pT(m:δ):intC uA_=45::Nl cX!:=by delta intC Nl;rw[signs_ofString];show("-"++Nat.repr cX!).toList.map Char.toNat=_;rw[String.toList_append,NV,Nat.toList_repr];rfl
def iB(m:δ):AllDigits (Nl m):=by intro c hc;let#[ch,iw,e]:=NB.mp hc;let r:=digit_range (Nat.isDigit_of_mem_toDigits a_ a_ iw);rw[<-e];exact r
def tF(m:δ):Nl m≠[]:=by intro e;let h:=toDigits_len_ge 10 m;rw[List.map_eq_nil_iff.mp e]at h;exact ξ h a_
def a5f{m:δ}(h:m<10 ^ 61):(Nl m).length<=61:=by delta Nl;rw[MV];exact toDigits_len_pow a_ a_ h
def a5e(m:δ):digitsVal (Nl m)=m:=KIN.val_back m
def a9u(i:Int):∀c∈intC i,c=45\/(48<=c/\c<=57):=by
 intro c hc;cases i with
 |ofNat m=>
  let hc:c∈Nl m:=by rw[<-pU];exact hc
  exact .inr (iB m c hc)
 |negSucc m=>
  rw[pT]at hc;obtain rfl|hc:=MM.mp hc
  .exact cv!
  .exact .inr (iB _ c hc)
def fU{i:Int}(h:e7!):(aF_).length<=62:=by
 cases i with
 |ofNat m=>
  let:=a5f (m:=m) h;rw[uC!];omega
 |negSucc m=>
  let:=a5f (m:=m+1) h;rw[pT,NH];omega
def c7w(i:Int):intC i≠[]/\intC i≠[45]:=by
 cases i with
 |ofNat m=>
  rw[uC!];exact#[tF m,li_];let:=iB m 45 k4_;omega
 |negSucc m=>
  rw[pT];exact#[Q_,li_];simp![PR,true_and]at e;exact tF _ e
def d3p{i:Int}(h:e7!):FO_ d5_=ψ i:=by
 let hl:=fU h;let ar:(d5_).length<=4300:=by
  let:(d5_).length=(aF_).length:=by simp[mk,Str.length]
  omega
 let e1:(d5_).cps.toList=intC i:=by simp[mk]
 cases i with
 |ofNat m=>
  let e2:intC nF_=Nl m:=pU m;let:=intText_digits (x:=mk (intC nF_)) (I0! iB) (I0! tF) ar;rw[e1,e2,a5e]at this;rw[e2];exact this
 |negSucc m=>
  let e2:=pT m;let:=intText_neg (x:=mk (intC uA_)) (cs:=Nl cX!) (by rw[e1,e2]) (iB _) (tF _) ar;rw[a5e]at this;rw[this];rfl
end TX
namespace K23
open PySem L2 DL
open TX
inductive PG:D->Prop
 |non:PG .non
 |root:PG gD_
 |bin:PG gE_
 |int {i:Int}:aS_<10 ^ 61->PG U!
 |two {a b:Int}:a.natAbs<10 ^ 61->b.natAbs<10 ^ 61->PG (.tup o6!)
 |three {a b c:Int}:a.natAbs<10 ^ 61->b.natAbs<10 ^ 61->c.natAbs<10 ^ 61->PG (.tup o6_)
def tH(h:lt!):PG x:=by let#[a,b,rfl,h]:=h;exact .two a! a!
def jP(h:Bu x):PG x:=by
 obtain rfl|rfl|h:=h
 .exact .root
 .exact .bin
 .exact tH h
def b8b(h:Kn x):PG x:=by
 obtain rfl|h:=h
 .exact .non
 .exact tH h
def a4b(h:Xb x):PG x:=by let#[a,b,c,rfl,h]:=h;exact .three a! a! a!
def b1g(h:Jb x):PG x:=by
 obtain rfl|h:=h
 .exact .non
 .exact a4b h
def CK:μ D->μ cD!
 |.int i::r=>intC i::CK r
 |_=>[]
def Cj:D->μ δ
 |.non=>[45]
 |.str s=>bf!
 |.int i=>intC i
 |.tup ds=>Gj! (CK ds)
 |_=>[]
def rB(s:Str):mk bf!=s:=by delta mk;simp
abbrev wS(w:g_):D:=.str (mk w)
def kO{fe:m_}{F:D->D}:∀(ds:d_),(∀d∈ds,fe [fZ_]=ψ (F d))->EC_ fe ds=ψ (ds.map F)
 |[],_=>rfl
 |d::ds,h=>by
  let ih:=kO ds λx hx=>h x b0!;let Y:=h d ML;simp![Cc,ih,MU];simp[Ar,Y]
def b1d:∀(ws:be_),Li jp_=ψ nD_
 |[]=>rfl
 |w::ws=>by
  rw[MU,MU];show(Li jp_).map _=_;rw[b1d ws];rfl
def mT(w:g_):(mk w).length=w.length:=by simp[mk,Str.length]
def b2w{c:δ}{ws:be_}(h:(ws.map gP!).sum+ca_<=big):Hm cD_ (.lst jp_)=DO! jl_:=by show(Li jp_).bind (λys=>if(hA!).sum+X_*(dC!).length<=big then ψ (D.str (He_ H_))else υ)=_;rw[b1d,PK,OD,MV];let e:(List.map ((λx=>b8_)∘mk) ws)=ws.map gP!:=OT λw _=>mT w;rw[e,MO (by show _+ws.length*1<=big;omega),c7q]
def c1e{i:Int}(h:e7!):c8_<1920:=by
 by_cases h0:aS_=0
 .rw[h0];decide
 .rw[Nat.log2_lt h0];exact NN h c_
def str_int{i:Int}(h:e7!):Nd c7_=DO! aF_:=by show(if c8_<1920 then ψ (D.str (toString i:String))else υ)=_;rw[MO (c1e h),wS,c7b]
def b0f:gP_=(FN_ 46):=by decide+kernel
def a7o:gQ!=(FN_ 32):=by decide+kernel
def pK:(BH! "-")=mk [45]:=by decide+kernel
def c4t(h:PG x\/∃s,x=.str s):Ff [x]=DO! d6_:=by
 let key:∀{is:r_},js_<=3->nH!->Nv jJ_ ve_ uG!=ψ uG_:=by
  intro is hl J;let hc:=kO (fe:=f1 Nd R_) (F:=λd=>match d with|.int i=>wS aF_|d=>d) gQ_ (by
   intro d hd;let#[i,hi,rfl]:=NB.mp hd;simp[f1,Ac,Aa,Af,str_int ju!])
  rw[OD]at hc;let gc:Dj_ (Rg k!) n4! uG!=ψ uH_:=by
   show(Bf! gQ_ (Km_ gQ_))=_;rw[e1!,hc,OD];rfl
  let hs:(uI_).sum+(gR!).length<=big:=by
   let:∀(is:r_),nH!->(uI_).sum<=62*js_:=by
    intro is
    induction is with
    |nil=>intro _;simp
    |cons i is ih=>
     intro J;let Y:=fU (J i ML);let h2:=ih λj hj=>J j kW_;simp![MU,WU,NH];omega
   let Y:=this is J;rw[MV];delta big;omega
  delta Nv;rw[gc];show Hm (.str ".") uH_=_;rw[b0f,b2w hs]
 let tx:∀s:Str,Ff [bF_]=DO! bf!:=λs=>by
  delta wS;rw[rB];exact JB! (FA_ fO)
 let tp:∀(is:r_),js_<=3->nH!->Ff [.tup gQ_]=ψ uG_:=λis Y h2=>IK! (sk χ (wI χ (key Y h2)));obtain h|⟨s,rfl⟩:=h
 .cases h with
  |non=>
   show Ff [.non]=E7_ (mk [45]);rw[<-pK];exact gE χ (FA_ wI)
  |root=>exact tx _
  |bin=>exact tx _
  |int hi=>exact JB! (Fg! (str_int hi))
  |@two a b ha J=>exact tp O! (by decide:2<=3) nI!
  |@three a b c ha J hc=>exact tp eD! (by decide:3<=3) yd_
 .exact tx s
def a7h:(gS_).cps.toList=nJ!:=by decide+kernel
def b3m:(gS!).cps.toList=nJ_:=by decide+kernel
def d2v{a b:g_}(h:mk a=mk b):a=b:=by let:=Dq! (λs=>bf!) h;simpa[mk]using this
def b1p:gS_=mk nJ!:=by decide+kernel
def c4n:gS!=mk nJ_:=by decide+kernel
def wW(a b:g_):(mk a==mk b)=decide (a=b):=by
 by_cases h:a=b
 .simp[h]
 .let:¬mk a=mk b:=λz=>h (d2v z);simp[h,this]
def gR{i:Int}{c:δ}(h:c=32\/c=46\/c=114\/c=98):c∉intC i:=by intro hc;let:=a9u i c hc;omega
def a2h{c:δ}(u8:c≠46):∀(is:r_),(∀i,c∉intC i)->c∉Gj! gR!
 |[],_=>by simp[joinL]
 |[i],h=>by simpa[joinL]using h i
 |i::j::r,h=>by
  rw[MU,d2_];intro z;obtain z|z:=ND.mp z
  .exact h i z
  .obtain z|z:=MM.mp z
   .exact u8 z
   .exact a2h u8 (j::r) h z
def c1y(i j:Int)(r:r_):46∈Gj! ((i::j::r).map intC):=by rw[MU,d2_];simp
def sV(h:PG x):32∉Cj x:=by
 cases h with
 |non=>decide
 |root=>show 32∉(gS_).cps.toList;rw[a7h];decide
 |bin=>show 32∉(gS!).cps.toList;rw[b3m];decide
 |int=>exact gR W_
 |@two a b=>exact a2h a_ O! λi=>gR W_
 |@three a b c=>exact a2h a_ eD! λi=>gR W_
def pQ:∀(ws:be_) (c:δ),(jl_).length<=(ws.map gP!).sum+ca_
 |[],c=>by simp[joinL]
 |[w],c=>by simp[joinL]
 |w::v::r,c=>by
  rw[d2_,NR,NH];let:=pQ (v::r) c;simp![MU,WU,NH]at this ⊢;omega
def a3q(h:PG x):(d6_).length<=200:=by
 cases h with
 |non=>decide
 |root=>show(gS_).cps.toList.length<=200;rw[a7h];decide
 |bin=>show(gS!).cps.toList.length<=200;rw[b3m];decide
 |int hi=>let:=fU hi;show(intC _).length<=200;omega
 |@two a b ha J=>
  let Y:=fU ha;let h2:=fU J;let:=pQ uO! 46;simp at this;show(Gj! uO!).length<=200;omega
 |@three a b c ha J hc=>
  let Y:=fU ha;let h2:=fU J;let h3:=fU hc;let:=pQ uP! 46;simp at this;show(Gj! uP!).length<=200;omega
def vF{i:Int}(h:e7!):Dp [wS aF_]=ψ U!:=by
 let hl:=fU h;let Y:Wy [wS aF_]=ψ U!:=by
  show(if(d5_).length<=640 then(FO_ d5_).map D.int else υ)=_;rw[MO (D8! mT),d3p h];rfl
 exact IK! (Jl_ (eW (fO Y χ)) la!)
def c2j(w:g_):HS nL_ (wS w)=JF_ (46∈w):=by show Fc! (!(Builtin.Str.occurrences (mk w) gP_ 0 (mk w).length 1).isEmpty)=_;rw[b0f,d3q];congr 2
def tU(c:δ):∀(ws:be_),ca_<=(jl_).length+1
 |[]=>by simp
 |[w]=>by simp
 |w::v::vs=>by
  let ih:=tU c (v::vs);rw[d2_,NR];simp![NH]at ih ⊢;omega
def b4d{pre:be_}{last:g_}(hp:∀w∈pre,46∉w)(hlast:46∉last)(hn:d3_<=(fc!).length+1)(hl:(fc!).length<=200):
  Ov (wS fc!) nL_=Jw! az_ wS:=by
 show(if(gP_).length≠0/\(mk fc!).length<=big then ψ (Rj (Il (mk fc!) gP_ ((mk fc!).length+1)))else υ)=_;rw[b0f,MO #[F!,by rw[mT];delta big;omega],uF hp (BG_ mT hn) (.inl hlast) a_];delta Rj;rw[OD];rfl
section
variable{ρ:Ae}{f g:Ae->Option D}{b:Bool}
def b2e(h:f ρ=ψ B!)(k:g ρ=ψ al_):Gx! f=ψ b:=by delta Qh;rw[fV h];exact fV k
def d7x(h:f ρ=ψ B!)(k:g ρ=ψ al_):Gx! f=ψ b:=b2e h k
def b9u(h:f ρ=ψ v_):Gx! f=ψ true:=by delta Qh;rw[fV h];rfl
end
def c6m(h:PG x):Ed [wS d6_]=ψ x:=by
 let ar:=a3q h;let tup:∀{pre:r_} {last:Int} {ds:d_},x=.tup ds->ds=Hk! az_->pre≠[]->(∀i∈pre++d4!,aS_<10 ^ 61)->Cj x=Gj! fc_->Ed [wS d6_]=ψ x:=by
  intro pre last ds hx qg qi J hw;rw[hw]at ar ⊢;let e0:(az_).map intC=pre.map intC++[nO!]:=by simp
  obtain⟨i,j,r,er⟩:∃i j r,pre++[last]=i::j::r:=by
   cases pre with
   |nil=>exact Dd! qi
   |cons i p=>cases p with
    |nil=>exact#[i,last,[],χ]
    |cons j q=>exact#[i,j,q++d4!,χ]
  let u8:46∈joinL 46 fc_:=by rw[er];exact c1y i j r
  let d6:=b4d (pre:=pre.map intC) (last:=nO!) (by
   intro w hw;let#[i,_,rfl]:=NB.mp hw;exact gR b5!) (gR b5!) (by
   let:=tU 46 (pre.map intC++[nO!]);rw[NR]at this;omega) (Di_ e0 ar)
  rw[<-e0]at d6;let hne:∀(w:g_),46∉w->(mk jx_==mk w)=false:=λw hw=>by
   rw[wW];exact NA λz=>hw (z▸u8)
  let n1:=hne [45] a_;let n2:=hne nJ! a_;let n3:=hne nJ_ a_;let me:=c2j jx_;rw[NG u8]at me;let hc:=kO (fe:=f1 Dp R_) (F:=λd=>match d with|.str s=>(match PySem.intText? s with|some i=>.int i|none=>.non)|d=>d) jy! (by
   intro d hd;rw[OD]at hd;let#[i,hi,rfl]:=NB.mp hd;let:=vF ju!;let h2:=d3p ju!;simp[f1,Ac,Aa,Af,this,h2])
  let hmap:((jy!).map λd=>match d with|.str s=>(match PySem.intText? s with|some i=>D.int i|none=>.non)|d=>d)=Hk! az_:=by
   rw[OD,OD];apply OT;intro i hi;let h2:=d3p ju!;simp[h2]
  rw[hmap]at hc;let gc:Dj_ (Cs n6!) g0_ uX_=Jw! az_ D.int:=by
   let hi:Cs n6! uX_=ψ jy!:=by
    delta Cs Mr;show((Ov (wS jx_) nL_).bind _)=_;rw[d6];rfl
   delta Ce;rw[hi];show(Bf! jy! gU!)=_;rw[MO (by
    let:=tU 46 fc_;rw[MV];delta big;omega),hc];rfl
  rw[<-pK]at n1;rw[<-b1p]at n2;rw[<-c4n]at n3;subst hx;rw[<-qg]at gc;generalize joinL 46 fc_=w at *;exact gE rfl (sk uY! (sk uZ! (wI uZ_ (fO rfl gc))))
 cases h with
 |non=>
  exact IK! (wI (fV fd!) χ);rw[pK];show Fc! (mk [45]==mk [45])=_;rw[ON]
 |root=>
  show Hn_ gS_=_;rw[rB];exact GQ_ (b9u fd!)
  .rw[show(BI! "root" "-")=θ by decide+kernel]
  .rw[ON]
 |bin=>
  show Hn_ gS!=_;rw[rB];exact GQ_ (d7x fd! fd!)
  .rw[show(BI! "bin" "-")=θ by decide+kernel]
  .rw[show(BI! "bin" "root")=θ by decide+kernel]
  .rw[ON]
 |@int i hi=>
  let n1:(FK_ "-")=false:=by rw[pK,wW];exact NA (c7w i).2
  let n2:(FK_ "root")=false:=by
   rw[b1p,wW];exact NA λz=>gR (.inr b5!) u0_
  let n3:(FK_ "bin")=false:=by
   rw[c4n,wW];exact NA λz=>gR (De_ cE_) u0_
  let me:=c2j aF_;rw[NA (gR b5!)]at me;let hnum:=vF hi;show Ed [wS aF_]=_;exact gE χ (sk uY! (sk uZ! (sk uZ_ (jJ (Fg! hnum)))))
 |@two a b ha J=>exact tup (pre:=[a]) χ χ b! nI! χ
 |@three a b c ha J hc=>exact tup (pre:=O!) χ χ b! yd_ χ
def WG(x:D):Prop:=PG x\/∃s:Str,x=.str s/\F_<=100
def c4w(h:WG x):Ff [x]=DO! d6_:=c4t (h.imp id λ⟨s,e,_⟩=>#[s,e])
def d0z(h:WG x):(d6_).length<=200:=by
 obtain h|⟨s,rfl,hs⟩:=h
 .exact a3q h
 .show cl_<=200;let:cl_=F_:=by simp[Str.length]
  omega
def a8e:∀(xs:d_),(∀x∈xs,WG x)->((fe!).map gP!).sum<=200*i!
 |[],_=>by simp
 |x::xs,h=>by
  let Y:=d0z (h x ML);let h2:=a8e xs λy hy=>h y cG!;simp![MU,WU,NH];omega
def Hj(xs:d_):μ Nat:=joinL 32 fe!
def b0o{xs:d_}{g:bz_}(hg:∀x∈xs,g [x]=DO! d6_):EC_ (f1 g R_) xs=ψ ((fe!).map wS):=by rw[kO (F:=λd=>wS (Cj d)) xs λd hd=>by simp[f1,Ac,Aa,Af,hg d hd],OD];rfl
def a4c{ds:d_}(hx:∀x∈h::n::tm::ds,WG x)(hl:h!<=10):IQ! [h,n,tm,gX!]=ψ nT!:=by
 let hc:=b0o λx hm=>c4w (hx x hm);let hs:=a8e _ hx;let a1:An u3! bQ_=Ds! gX_:=by
  show(if 3+h!<=big then ψ (D.tup ([h,n,tm]++ds))else υ)=_;rw[cn!];rfl
 let c3:Ia_ u4_ d9!=ψ u3!:=by simp[Cq,Es,HT.sIx]
 let hi:Rg n5! jC!=ψ gX_:=by
  simp[DL.Rg,f2,Dq,Aa,Av,Aq,fC,c3,Ai,Et,Hv,a1]
 let gc:Dj_ (Rg n5!) (f1 Ff R_) jC!=ψ nT_:=by
  delta Ce;rw[hi];show(Bf! gX_ gU!)=_;rw[MO (by simp![NH];delta big;omega),hc];rfl
 let hj:Hm ja_ nT_=ψ nT!:=by
  rw[a7o];exact b2w ?_;simp![NH,MV]at hs ⊢;delta big;omega
 let hq:Ox jC!=E2! nT!:=by
  delta Ox Bi Nv;rw[gc];show((Hm ja_ nT_).map Fl.rt)=_;rw[hj];rfl
 delta Da Di;rw[fi_];show(match Ox jC! with|some (.rt d)=>ψ d|some (.nx _)=>ψ .non|none=>υ)=_;rw[hq]
def c2v(a b:Str):At u5_ u6!=ψ pZ_:=by
 let:Ej u5_ u6!=(a==b):=by
  delta Ej;delta Iq;rw[a2x];delta Iq;simp
 delta At;rw[this];simp[Bc,Br,Ir,Cz]
def wN{xs:d_}(h:u6_):EC_ jK_ ((fe!).map wS)=ψ xs:=by
 induction xs with
 |nil=>rfl
 |cons x xs ih=>
  let Y:=c6m (h x ML);let ih':=ih λy hy=>h y cG!;simp![MU,Cc,ih'];simp[Ar,f1,Ac,Aa,Af,Y]
def b0h{k:Str}{xs:d_}(hk:li!)(hx:u6_)(hl:i!<=3):Ev [.lst (.str k::(fe!).map wS)]=Ds! jD!:=by
 let hp:=wN hx;generalize hws:(fe!).map wS=ws at hp ⊢;let vj:ca_=i!:=by rw[<-hws];simp
 let J:(k==Str.ofString "write")=false:=by simpa using hk
 let c1:Ia_ gY! b2_=yJ_ [b2!]:=by
  simp[Cq,Es,HT.sIx]
 let c2:Cq gY! b2_ jE!=yJ_ ws:=by
  let e:jD_=u8!:=by omega
  show Kn! b2_ jE!=_;delta Es;rw[e,show(1:Int)=nU! from χ,HT.sIx_nat,HT.sIx_nat];simp
 let c3:Cq gY! jE! υ=ψ dK!:=by
  let e:jD_=u8!:=by omega
  show Kn! jE! υ=_;delta Es;rw[e,HT.sIx_nat];simp
 let gc:Dj_ (Cs g1!) jK_ nW_=ψ N_:=by
  let hi:Cs g1! nW_=ψ ws:=by
   simp[Cs,Dq,Aa,Aq,fC,c2]
  delta Ce;rw[hi];show(DL_ ca_)=_;rw[cn!,hp];rfl
 let a1:An (.lst [b2!]) N_=ψ nX!:=by
  show(if 1+i!<=big then ψ (D.lst ([b2!]++xs))else υ)=_;rw[cn!];rfl
 let a2:An nX! dK!=ψ nX!:=by
  show(if i!+1+0<=big then ψ (D.lst (jD!++[]))else υ)=_;rw[cn!,OA]
 let s1:Dk 1 n8! nY!=DQ! nW_:=by
  let hq:=c2v k "write";rw[J]at hq;simp[Dk,Yi,fT,f2,Dq,Aa,Av,Aq,fC,c1,hq,f1,Ac,Af,Bv]
 let hq:Gb nY!=E2! (.tup jD!):=by
  delta Gb;rw[bH s1];simp[Bi,f1,Ac,Af,f2,Dq,Aa,Av,Aq,fC,c1,c3,gc,a1,a2,Ln]
 delta Ev Di;rw[fi_];show(match Gb nY! with|some (.rt d)=>ψ d|some (.nx _)=>ψ .non|none=>υ)=_;rw[hq]
def xR{s:Str}(ha:PG a)(J:PG b):Ev [.lst [dA!,wS (Cj a),wS (Cj b),bF_]]=ψ dA_:=by
 let hp:=wN (xs:=O!) nI!;simp![MU,RP]at hp;generalize wS (Cj a)=wa at hp ⊢;generalize wS (Cj b)=wb at hp ⊢;let hq:=c2v "write" "write";rw[ON]at hq;let c1:Cq gZ! none b2_=some (.lst [dA!]):=by simp[Cq,Es,HT.sIx]
 let c2:Cq gZ! b2_ d9!=yJ_ [wa,wb]:=by simp[Cq,Es,HT.sIx]
 let c3:Cq gZ! d9! υ=yJ_ [bF_]:=by simp[Cq,Es,HT.sIx]
 let gc:Dj_ (Cs g1!) jK_ nZ_=yJ_ O!:=by
  let hi:Cs g1! nZ_=ψ [wa,wb]:=by
   simp[Cs,Dq,Aa,Aq,fC,c2]
  delta Ce;rw[hi];show(DL_ 2)=_;rw[MO a_,hp];rfl
 let s1:Dk 1 n8! n0_=DQ! nZ_:=by
  simp[Dk,Yi,fT,f2,Dq,Aa,Av,Aq,fC,c1,hq]
 let hqq:Gb n0_=E2! dA_:=by
  delta Gb;rw[bH s1];simp[Bi,f1,Ac,Af,f2,Dq,Aa,Av,Aq,fC,c1,c3,gc,An,big,Ln]
 delta Ev Di;rw[fi_];show(match Gb n0_ with|some (.rt d)=>ψ d|some (.nx _)=>ψ .non|none=>υ)=_;rw[hqq]
section
variable{t:Bb}
def iK{i:Int}(h:e7!):WG U!:=.inl gr_
def nM{k:Str}(h:ef_<=100):WG G!:=.inr #[k,χ,h]
def uE{pre:d_}(hp:∀x∈pre,32∉Cj x)(hw:∀x∈pre++d4!,WG x)(hn:d3_<=6)(hl:32∉Cj last\/d3_=6):
  Ou (wS (Hj az_)) (.str gQ!) (.int 6)=yJ_ (((az_).map Cj).map wS):=by
 let ar:(Hj az_).length<=100000:=by
  let Y:=pQ ((az_).map Cj) 32;let h2:=a8e _ hw;delta Hj;simp![NR,MV,NH,QS]at Y h2 ⊢;omega
 show(if(gQ!).length≠0/\(jG_).length<=big/\(0:Int)<=6/\(6:Int)<=1000 then ψ (Rj (Il jG_ gQ! (limitOf jG_ 6)))else υ)=_;rw[a7o,MO #[F!,by rw[mT];exact ar,F!,F!]];let e:limitOf jG_ 6=6:=χ;let e2:Hj az_=joinL 32 (pre.map Cj++[Cj last]):=by delta Hj;simp
 rw[e,e2,uF (by
  intro w zt;let#[x,hx,rfl]:=NB.mp zt;exact hp x hx) (BG_ MV hn) (BG_ MV hl) a_]
 delta Rj;simp[wS]
def uQ(nd:t.nd){h n tm:Int}{rest:d_}{line:g_}(hh:n1!)(hn:n1_)(ht:n2!)
  (hs:Ou d9_ (.str gQ!) (.int 6)=ψ jH!)
  (hd:Ev [.lst rest]=ψ bQ_)(ho:Cw t [.tup jH_]=ψ v_)(hw:IQ! jH_=ψ d9_):
  Im t n2_=ψ n3!:=by
 let c1:Ia_ jH! d9!=yJ_ va_:=by
  show Kn! υ d9!=_;delta Es;rw[vb_,HT.sIx_nat];simp[HT.sIx]
 let c2:Cq jH! d9! υ=yJ_ rest:=by
  show Kn! d9! υ=_;delta Es;rw[vb_,HT.sIx_nat];simp[HT.sIx]
 let gc:∀x,Dj_ (Cs n9_) g0_ [x,jI!,υ]=ψ vd!:=by
  intro x;let hi:Cs n9_ [x,jI!,υ]=ψ va_:=by
   simp[Cs,Dq,Aa,Av,Aq,fC,c1]
  delta Ce;rw[hi];show(DL_ 3)=_;rw[MO a_];simp[Cc,Ar,f1,Ac,Aa,Af,vF hh,vF hn,vF ht]
 let hne:Em vd_ vd_=ψ B!:=(show _=ψ (D.bl (!(mk line==mk line)))from χ).trans (EX_ ON);let ht:∀ρ:Ae,Aa 0 ρ=ψ d9_->Aa 2 ρ=ψ n3!->Qh vp! vq! ρ=ψ false:=λρ h0 h2=>by
  delta Qh Ea;rw[fV (fO ho h2)];show(if(!τ)=τ then ψ τ else fT _ ρ)=_;rw[d1_];exact fV (aS (fO hw h2) h0 hne)
 let ha:An vd! (.lst [gX!])=yJ_ jH_:=χ;exact IK! ((bH (ρ':=n3_) (eW hs)).trans ?_);let e2:f1 Ev vn_ n3_=ψ bQ_:=fO hd c2;let e3:Fe vo! n3_=yJ_ [gX!]:=by
  delta Fe;rw[cB e2 χ];rfl
 exact(bH (ρ':=[ψ d9_,jI!,ψ n3!]) (eW (fO χ (aS (gc _) e3 ha)))).trans ?_;exact sk (Fp_ ht _) la!
def b1e{α:Type}:∀(r:W!),r≠[]->∃p l,r=p++[l]
 |[],h=>Dd! h
 |[a],_=>#[[],a,χ]
 |a::b::r,_=>by
  let#[p,l,e]:=b1e (b::r) b!;exact#[a::p,l,mI_]
abbrev Xy(h n tm:Int)(k:Str)(r:d_):D:=.tup [aI!,ap_,er_,k5!]
abbrev Sn(h n tm:Int)(k:Str)(r:d_):μ Nat:=Hj (.int h::.int n::.int tm::.str k::r)
def c9o(nd:t.nd){h n tm:Int}{k:Str}{r:d_}(hh:n1!)(hn:n1_)(ht:n2!)(hk:li!)(u9:32∉jK!)(pj:ef_<=100)(hr:∀x∈r,PG x)(Y:r≠[])(h3:ax!<=3)
  (ho:Cw t vh!=ψ v_):Da vh!=DO! vi!/\Im t [wS vi!]=ψ (Xy h n tm k r):=by
 let hx:∀x∈(.int h::.int n::.int tm::.str k::r:μ D),WG x:=by
  intro x hx;simp![MM]at hx;obtain rfl|rfl|rfl|rfl|hx:=hx
  .exact iK hh
  .exact iK hn
  .exact iK ht
  .exact nM pj
  .exact .inl p7!
 let hs:=a4c hx aS!;exact#[hs,?_];let#[p,l,rfl]:=b1e r Y;let zz:∀x∈(.int h::.int n::.int tm::.str k::p:μ D),32∉Cj x:=by
  intro x hx;simp![MM]at hx;obtain rfl|rfl|rfl|rfl|hx:=hx
  .exact fh!
  .exact fh!
  .exact fh!
  .exact u9
  .exact sV (hr x (NM _ hx))
 let d6:=uE zz vj_ (by simp at h3 ⊢;omega) (.inl (sV (hr l b!)));exact Ho! uQ ?_ (b0h hk hr h3) ho hs;let e:wS (Cj G!)=.str k:=by show D.str (mk jK!)=_;rw[rB]
 rw[<-e];exact d6
def d4z(nd:t.nd){h n tm:Int}{s:Str}(hh:n1!)(hn:n1_)(ht:n2!)(ha:PG a)(J:PG b)(hsl:hL_)
  (ho:Cw t vk!=ψ v_):Da vk!=DO! vk_/\Im t [wS vk_]=ψ (Xy h n tm "write" hU_):=by
 let u9:32∉(BH! "write").cps.toList:=by decide+kernel
 let hx:∀x∈(.int h::.int n::.int tm::.str "write"::hU_:μ D),WG x:=by
  intro x hx;simp![MM,MN,RI]at hx;obtain rfl|rfl|rfl|rfl|rfl|rfl|rfl:=hx
  .exact iK hh
  .exact iK hn
  .exact iK ht
  .exact nM c_
  .exact .inl ha
  .exact .inl J
  .exact nM a!
 let hs:=a4c hx b!;exact#[hs,?_];let zz:∀x∈([aI!,ap_,er_,dA!,a,b]:μ D),32∉Cj x:=by
  intro x hx;simp![MM,MN,RI]at hx;obtain rfl|rfl|rfl|rfl|rfl|rfl:=hx
  .exact fh!
  .exact fh!
  .exact fh!
  .exact u9
  .exact sV ha
  .exact sV J
 let d6:=uE zz vj_ b! cE_;let e:∀k:Str,wS (Cj G!)=.str k:=λk=>by show D.str (mk jK!)=_;rw[rB]
 exact Ho! uQ ?_ (xR ha J) ho hs;let e1:=e "write";let e2:=e s;simp![QX,QC,MU,RP,e1,e2]at d6;exact d6
def c9n(nd:t.nd){h n tm:Int}(h0:0<=h)(ZT:h<16)(n1:1<=n)(n2:n<=2000)(t1:1<=tm)(t2:tm<=1000)(hd:DG d):
  ∃ds line,d=.tup ds/\vl_/\h!<=4/\line=Hj vm_/\IQ! hU!=ψ d9_/\Im t n2_=Ds! hU!:=by
 let ho:=d8n nd h0 ZT n1 n2 t1 t2 hd;let hh:h.natAbs<10 ^ 61:=by omega
 let hn:n.natAbs<10 ^ 61:=by omega
 let ht:tm.natAbs<10 ^ 61:=by omega
 let nw:∀(k:Str) (r:d_),d=.tup bG!->k≠"write"->32∉jK!->ef_<=100->(∀x∈r,PG x)->r≠[]->ax!<=3->
   ∃ds line,d=.tup ds/\vl_/\h!<=4/\line=Hj vm_/\IQ! hU!=ψ d9_/\Im t n2_=Ds! hU!:=by
  intro k r e hk u9 pj hr Y h3;subst e;let:=Ho! c9o hk u9 pj hr Y h3 ho;exact#[_,_,χ,?_,by simp;omega,χ,this.1,this.2];intro x hx;simp![MM]at hx;obtain rfl|rfl|rfl|rfl|hx:=hx
  .exact iK hh
  .exact iK hn
  .exact iK ht
  .exact nM pj
  .exact .inl p7!
 cases hd with
 |put Y h2=>exact Dv! "put" (by simp[jP Y,b8b h2]) b!
 |move Y h2 h3=>exact Dv! "move" (by simp[jP Y,jP h2,b8b h3]) b!
 |drop Y=>exact Dv! "drop" (by simp[jP Y]) b!
 |@write a b s Y h2 h3 h4 h5=>
  let:=Ho! d4z (jP Y) (b1g h2) h5 ho;exact#[_,_,χ,?_,Q_,χ,this.1,this.2];intro x hx;simp![MM,MN,RI]at hx;obtain rfl|rfl|rfl|rfl|rfl|rfl|rfl:=hx
  .exact iK hh
  .exact iK hn
  .exact iK ht
  .exact nM c_
  .exact .inl (jP Y)
  .exact .inl (b1g h2)
  .exact nM a!
 |@cut a x y z m Y h2 h3 h4=>
  let hm:m.natAbs<10 ^ 61:=by
   let#[x',y',z',e,g]:=h2;simp![D.tup.injEq,PR,D.int.injEq,and_true]at e;omega
  exact Dv! "cut" (by simp[jP Y,a4b h2,PG.int hm]) b!
 |@set a p v Y h2 h3 h4=>
  let hx:∀x∈[a,D.int p,D.int v],PG x:=λx hx=>by
   simp![MM,MN,RI]at hx;obtain rfl|rfl|rfl:=hx
   .exact jP Y
   .exact .int a!
   .exact .int a!
  exact Dv! "set" hx b!
 |undo Y=>exact Dv! "undo" vr! b!
 |redo Y=>exact Dv! "redo" vr! b!
end
open Classical
section
abbrev Na:μ Nat:=[119,97,105,116,115,32]
def b7m:oa!=mk Na:=by decide+kernel
def b7y(l:g_):I0_ (mk l) oa!=decide (l.take 6=Na):=by
 rw[b7m];show(decide (0+6<=(mk l).length)&&(l.toArray.extract 0 (0+6)==Na.toArray))=_;rw[mT];let e:l.toArray.extract 0 (0+6)=(l.take 6).toArray:=by simp[List.extract_eq_drop_take]
 rw[e];by_cases c:l.take 6=Na
 .let hl:0+6<=ah!:=by let:=JI! c;rw[RN]at this;simp at this;omega
  rw[c,NG hl,ep_];simp
 .rw[NA c];let:((l.take 6).toArray==Na.toArray)=false:=by
   rw[OJ];exact λz=>c (by let:=Jj_ z;simpa using this)
  rw[this,VD]
structure CW(t:Bb)(o:Op)(l:g_):Prop where
 sh:Da dE_=DO! l
 rd:Im t [wS l]=ψ o.v
 nw:l.take 6≠Na
variable{t:Bb}{M:Mh}{ρ:Ae}{yy:Int}{a ta wa:sw!}{out:D}{S:List Op}{kl:List Int}{ca:Int->Addr}{o:Op}{l:List Nat}{k:Int}{R:D->Mh->Prop}
def d6v(nd:t.nd)(h:CV o):∃l,CW t o l:=by
 let J:0<=o.h/\o.h<16:=by let:=h.hh;omega
 let#[ds,l,e,_,_,el,Y,h2]:=c9n nd J.1 J.2 h.n1 h.n2 h.t1 h.t2 h.dg;exact#[l,Y,h2,bZ_];let e1:l=intC o.h++32::joinL 32 ((vt!).map Cj):=by
  rw[el];show joinL 32 (intC o.h::(vt!).map Cj)=_;rw[d2_]
 let h0:l.head?=ψ 119:=by
  cases l with
  |nil=>cases z
  |cons c r=>rw[List.take_succ_cons]at z;exact congrArg ψ (List.cons.inj z).1
 rw[e1]at h0;obtain z|z|z|z:=h.hh<;>rw[z]at h0
 .rw[show intC 0=[48]by decide+kernel]at h0;cases h0
 .rw[show intC 5=[53]by decide+kernel]at h0;cases h0
 .rw[show intC 15=[49,53]by decide+kernel]at h0;cases h0
 .rw[show intC 6=[54]by decide+kernel]at h0;cases h0
def d0v{g:WF}{f1 f2 f3:m_}{K:L_}(Y:pW_)(h2:f2 ρ=ψ y)(h3:f3 ρ=ψ z)(k:g [x,y,z] M K):Fq! 3 Bc_:=by delta Ak Ab Ad;rw[dS Y,dS h2,dS h3];exact cZ!
def orF{ft fu:WT}(Y:lC_)(h2:F1! fu θ):F1! (Ym ft fu) false:=λK hK=>FI! hK
def d3b(hA:ar_)(hn:o.n=gq!+1)(ht:lt S o.h<o.tm):Ea! Hr mO! v_:=λK hK=>by
 exact j_;let hl:Wa M [.fn wa]=ψ U_:=by
  show(Gw! wa)=_;simp![Pn,hA.wt,Option.map_some];rfl
 let hx:Qq vu! [C_,T_] M false:=by
  let:=a0j (jI (dM (ρ:=[C_,T_]) iR_ mQ! (a9r hA)));rw[hn,ON]at this;exact this
 exact fH (orF (jI (Hm_ (a4q (JN_ hF3) hl))) hx) ?_;exact cZ (eG (aP (a8t o)) (dM c! mP! (pO hA)) ?_) hK;show Jo_ (lt S o.h<o.tm)=_;rw[NG ht]
def c7k(hA:b9_)(hS:c7!<63)(hl:CW t o l)(hn:o.n=gq!+1)(ht:lt S o.h<o.tm)(hR:∀M' ba bc,I5_ (S++[o])->Ed_ M'):Ic t [a9_,wS l,fM!] M R:=by
 exact j_;let e1:Sy r! vu_ [C_,od!,ψ dR_,υ,υ]=ψ B!:=by
  show Fc! (PySem.Txt.startswith (mk l) oa!)=_;rw[b7y,NA hl.nw]
 exact fX e1 ?_;let e2:Dk 4 vv_ vx_=DQ! [C_,od!,ψ dR_,ψ B!,T_]:=eW (Fg! hl.rd);show F0! vw! vx_;delta Ag Wj;rw[e2];exact iY (qH jN! ?_);exact kS (λK hK=>fR (b:=τ) χ _ (jI (Gi_ (d3b hA hn ht)) _ hK)) ?_;exact iN (wV χ χ (zX hA a! λM' ba bc ir _=>hR M' ba bc ir))
def KN(t:Bb):WS:=Cd vy_
def c7m{f:Op->μ δ}{R:l_}:∀(os:k_) (n:δ) (S:k_) (kl:r_) (ca:b7_) (M:Mh) (y2 y3:Z_),(∀o∈os,CW t o (f o))->Jd! M->Hist (S++os)->(S++os).length<63->
  (∀M' ba bc y2 y3,I5_ (S++os)->D0! [x0,C_,y2,y3] M')->
  Fw (Qn 2 3) P! (KN t) (((g3_).zipIdx n).map λq=>IQ_ (q.2+2:δ)) [x0,C_,y2,y3] M R:=by
 intro os
 induction os with
 |nil=>intro n S kl ca M y2 y3 _ hA _ _ hR;rw[OA]at hR;exact#[ο,hR M kl ca y2 y3 hA]
 |cons o os ih=>
  intro n S kl ca M y2 y3 hf hA hH hl hR;exact av_;exact iY ?_;let hx:=hH.nx (yy:=-1) (λx hx=>by let:=(hH.op x (MY _ hx)).hh;omega) o ML;let vx:c7!<63:=by rw[NR]at hl;omega
  let e:S++o::os=S++[o]++os:=by simp
  rw[e]at hR;exact iN (d0v χ χ χ (c7k hA vx (hf o ML) hH.next hx.t λM' ba bc ir=>?_));exact ih bC! _ ba bc M' _ _ (Ie_ hf) ir (Di_ e hH) (Di_ e hl) hR
abbrev CL:μ Nat:=[104,97,110,100,32]
def b3b:oe!=mk CL:=by decide+kernel
def On(i:Int):μ Nat:=CL++intC i
def c0x(a b:g_):mk a++mk b=mk (a++b):=by show(#[a.toArray++b.toArray]:Str)=#[(a++b).toArray];simp
def d3o(i:Int):BH! c8!=mk aF_:=(rB _).symm
def zD{i:Int}(h0:0<=i)(Y:i<16):Cv c7_=DO! (On i)/\An vQ_ (wS aF_)=DO! (On i):=by
 let hk:aS_<10 ^ 61:=by
  let:(16:δ)<10 ^ 61:=by decide
  omega
 let hl:=fU hk;let e5:(oe!).length=5:=by decide+kernel
 let e6:(vA_).length<=big:=by rw[Str.length_append,e5,mT];delta big;omega
 show"!r"
 .exact IK! (jJ ?_);show(if c8_<1920/\(vB!).length<=big then ψ (D.str vB!)else υ)=_;rw[d3o,MO #[c1e hk,e6],b3b,c0x];rfl
 .show(if(oe!).length+(d5_).length<=big then ψ (D.str vA_)else υ)=_;rw[HQ! e5 mT,b3b,c0x];rfl
def d7c{i j:Int}(hi:0<=i/\i<16)(hj:j=0\/j=5\/j=15)(h:i≠j):On j≠On i:=λz=>by
 let z:=List.append_cancel_left z;let c:i.toNat<16:=by omega
 let e:i=((i.toNat:δ):Int):=by omega
 let key:∀n:Nat,n<16->∀j∈[(0:Int),5,15],ij!≠j->intC j≠intC ij!:=by decide+kernel
 rw[e]at z h;exact key i.toNat c j (by simp;exact hj) h z
def KD(t:Bb):WS:=vt_
def c7a(hy:vC!){R:l_}(hR:∀a ta wa M',yT_ M' [] [] iS!->R (.rt by_) M'):∀(is:g_) (y:Z_),(∀i∈is,i<16)->yy.toNat∈is->
  Fw (Bw 1) P! (KD t) vD! [vE!,y] M R:=by
 intro is
 induction is with
 |nil=>intro y _ h;cases h
 |cons i is ih=>
  intro y J hm;let hi:=J i ML;exact av_;let e1:f1 Cv cB! jN_=DO! (On (i:δ)):=fO (zD a! a!).1 χ;let e2:Fe vs! jN_=yJ_ [wS (On (i:δ))]:=by
   delta Fe;rw[cB e1 χ];rfl
  let e3:Dq k! Av de_ jN_=yJ_ of!:=by
   show Ey_ (Es vD_ υ (ψ nU!))=_;delta Es;rw[HT.sIx_none,HT.sIx_nat];simp
  let ht:fT vs_ jN_=J9_ (On yy=On (i:δ)):=by
   exact fV (aS e3 e2 ?_);rw[c2v,wW]
  by_cases c:cX_=yy
  .rw[NG (by rw[c])]at ht;exact kS jO! ?_;exact b5x (by rw[<-c];rfl) λa ta wa M' hA _ _=>hR a ta wa M' hA
  .rw[NA (d7c #[p_,p_] hy c)]at ht;exact qH jO! (ih _ (λj hj=>J j kW_) ?_);obtain z|z:=MM.mp hm
   .exact C6_ a! c
   .exact z
def b6b{f:Op->μ δ}{os:k_}(hy:vC!)(hf:∀o∈os,CW t o (f o))(hH:iI!)(hl:bp!<63)
  (hR:∀a ta wa M' ba bc,I5_ os->R by_ M'):Ml t [.lst g7!] M R:=by
 exact j_;exact eF (sO χ j_);show GZ_ (KD t) He [og!,υ] M _;let hi:Eu ca! [og!,υ]=ψ ((Eo_ 16).map λi=>D.int cX_):=nE χ a_;delta Ag Cn Gu;rw[hi];exact c7a hy (λa ta wa M1 hA=>?_) _ υ (λi hi=>RY.mp hi) (RY.mpr a!);show Cn vy! (Qn 2 3) (KN t) vI! M1 _;let e3:Dq k! de_ Av vI!=yJ_ g3_:=by
  show Ey_ (Es g7! (ψ nU!) υ)=_;delta Es;rw[HT.sIx_none,HT.sIx_nat];simp![NH,MV];rw[tn_,Nat.add_sub_cancel,WN,List.drop_zero,VT (D8! MV)]
 delta Cn Wk;rw[dS e3];exact c7m os 0 [] [] iS! M1 υ υ hf hA (Db! hH) mx_ λM' ba bc y2 y3 ir=>cZ c! (hR a ta wa M' ba bc ir)
end
def Nr(S:k_)(n:D):Bool:=decide (kget tx_ n=ψ bf_)
nonrec def owL(S:k_)(h:Int):μ Op:=(c6!).filter λo=>decide g8_
def Va(o:Op):Bool:=match Cu o.d with|some (k,_)=>k=="undo"|none=>θ
nonrec def unm(o:Op):D:=match Cu o.d with|some (_,n)=>n|none=>.non
nonrec def uL(S:k_)(h:Int):μ Op:=(bQ!).filter λo=>! Ig! S
nonrec def rL(S:k_)(h:Int):μ Op:=(aT!).filter λo=>Va o&&(decide (unm o∈(bQ!).map Op.nm)&&Nr S cH_)
section
variable{t:Bb}{M M1:Mh}{ρ:Ae}{yy:Int}{a ta wa:sw!}{out:D}{S:List Op}{kl:List Int}{ca:Int->Addr}{o:Op}{x:D}{R:D->Mh->Prop}{E:EK}
def wJ{f:m_}{b:Bool}(h:f ρ=ψ al_):fT f ρ=ψ b:=fV h
def gP{h:Int}:o∈owL S h↔o∈S/\o.h=h/\Cu o.d=none:=by delta owL;rw[PD,jW,NT,and_assoc]
def Hist.ng(h:as!)(ho:o∈S):NameG o.nm:=by let Y:=h.op o ho;let h2:=Y.hh;exact#[_,_,χ,p_,p_,Y.n1,Y.n2]
def kP{ck:cq_}{ft:WT}{fe:WE}{rest:Ae}{α:Type}{v f:α->D}{p:α->Bool}{R:p5_}(dw:ck M)(xs:W!):(∀x∈xs,Qq ft vL! M (p x)/\(p x=τ->Pu fe vL! M (f x)))->
  R ((xs.filter p).map f) M->Ql q_ ck ft fe (none::rest) (xs.map v) M R:=by
 induction xs generalizing R with
 |nil=>intro _ k;exact#[dw,k]
 |cons x xs ih=>
  intro h k;exact#[dw,iY ?_];let#[J,hp]:=h x ML;exact J _ ?_;let i1:=λy hy=>h y (MF x hy);cases c:p x with
  |true=>
   rw[OO c]at k;exact hp c _ (ih i1 k)
  |false=>
   rw[oi_]at k;exact ih i1 k
def d7u(h:h6!):Ea u7! [T_]=D2! ψ g8_:=by let e:f1 Ao R_ [T_]=ψ ls_:=Fg! (b7p h);delta Ea;rw[wJ e];cases Cu o.d<;>rfl
def rW{h:Int}(hA:ar_)(hH:as!)(hl:bs_):Ea! Ho mM_ (.lst (D6_ bQ!)):=λK hK=>by
 show"!g";let hk:=rJ S h;exact j_;show Aw u7_ [C_,gr!] M _;delta Aw Bd Cb;by_cases c:h∈kl
 .exact iW (d:=.fn dP_) dQ_ c! c! ht χ sZ! _ ?_;show(match M dP_ with|some (.lst xs)=>_|_=>False);let hc:=Gv_ c;rw[hc];exact da!;exact kP hc c6! (λo ho=>#[fR (d7u (hH.op o (jW.mp ho).1).dg),vO_]) hK
 .exact iW (d:=in!) dQ_ c! c! ht χ sZ_ _ ?_;exact#[F!,ο,?_];delta owL at hK;rw[hA.nol c]at hK;exact hK
def ER(S:k_)(kq:q!):Prop:=∀x,(Fy_ kq).isSome=decide ((∃o∈S,o.nm=x/\Cu o.d=υ)/\Nr S x=τ)
def a1q(hH:as!)(hl:bs_)(hR:∀q M' ep kq,M' q=JZ_ kq->ER S kq->h9_->R cr! M'):Fo [.lst eV_] M R:=by
 let ez:Ie! aT!:=cF S;exact xX ((ez.map _).nodup_iff.mpr hH.keys) (D8! ez.length_eq) (λo ho=>(vQ!).dg) λq M1 ep kq _ hM1 iq fr=>hR q M1 ep kq hM1 lv! fr;let h:=iq x;rw[a3x hH.keys]at h;rw[PU,NT,Option.isSome_iff_ne_none,h];delta Nr;rw[NT];show"!r"
 .rintro⟨o,ho,rfl,u1,u2⟩;exact#[#[o,ez.mem_iff.mp ho,χ,u1],u2]
 .rintro⟨⟨o,ho,rfl,u1⟩,u2⟩;exact#[o,ez.mem_iff.mpr ho,χ,u1,u2]
def ER.own(h:ER S kq)(ho:o∈S)(hu:Cu o.d=υ):(Hm! kq).isSome=Ig! S:=by
 rw[h];cases c:Ig! S with
 |true=>exact NG #[#[o,ho,χ,hu],χ]
 |false=>exact NA λz=>by cases z.2
def b0t{g:WF}{f1:WE}{x:D}{K:L_}(Y:C9! f1 x)(k:g [x] M K):Fq! 1 qL!:=Y _ cZ!
def d8e{i:δ}(h:vR_):fT vS! ρ=J9_ (l=[]):=by exact wJ ?_;let e:EN! Bv eP_ ρ=ψ (.int (ah!:δ)):=fO χ h;exact(aS e χ dS!).trans ?_;congr 2;rw[PU,QK,NT,<-UF];omega
structure Xc(yy:Int)(S:k_):Prop where
 y:yy=0\/yy=5\/yy=15
 t:∀o∈S,o.tm<=900
 l:c7!<60
 h:Hist S
def d7n(hF:by!)(hd:DG d):CV (Ig_ d)/\Hist vT!:=by let Y:=a9h (S:=S) (B:=900) a_ hF.t;let h2:0<=Uy S:=a1b (MY _ kW!);let h3:=rJ S yy;let h4:=hF.l;let hf:CV (Ig_ d):=#[hF.y.elim .inl λz=>z.elim vA! λz=>.inr m4!,show 1<=1+Uy S by omega,show 1+Uy S<=1000 by omega,show(1:Int)<=1+dY! by omega,show(1:Int)+dY!<=2000 by omega,hd];exact#[hf,hF.h.snoc hf (show(1:Int)+dY!=_ by rw[Int.add_comm];rfl) λx hx _=>?_];let:=c0r hx;show x.tm<1+Uy S;omega
def b7q{i:δ}{l:d_}{R:l_}(hA:ar_)(hF:by!)(h0:Aa 0 ρ=ψ by_)(hi:vR_)
  (hR:∀v M' ba bc,oj_=ψ v->I5_ (Ih! ok!)->R (.rt (Ig_ ok!).nm) M')(hE:l=[]->E t.Nothing M):
  Ag (Jn! vS! (Er! w)) (Aw (Jk_ Qf (wl (Bg vX_)))) ρ M R:=by
 let ht:=d8e hi;let hl:=hF.l;by_cases c:l=[]
 .rw[NG c]at ht;exact kS jO! (hE c)
 .rw[NA c]at ht;obtain⟨v,ev⟩:∃v,oj_=ψ v:=by
   cases e:oj_ with
   |none=>exact C6_ mR_ c
   |some v=>exact#[v,χ]
  let e1:KM! eP_ ρ=ψ v:=aS hi χ (b2y ev);let e2:Bg vX_ ρ=ψ ok!:=b3f χ e1;exact fH jO! ?_;exact wV h0 e2 (c7h hA hF.h a! λM' ba bc ir _=>hR v M' ba bc ev ir)
def d1b(hA:b9_)(hF:by!)(hR:∀v M' ba bc,(D6_ ok_).getLast?=ψ v->I5_ (Ih! v1!)->R (Ig_ v1!).nm M')
  (hE:D6_ ok_=[]->∀M',Jd! M'->E t.Nothing M'):IP_ Sr E:=by
 let hl:=hF.l;let hH:=hF.h;exact j_;exact eF (b0t ol! ol_);let ce:=hA.keep fr;let ho:=rJ S yy;let h2:(hb_).length<=(mQ_).length:=QT _ _;exact eF ?_;delta Bd Cb;exact dM c! v2! (rW ce hH a!) _ ?_;exact da!;exact kP (p:=λo=>! Ig! S) ο hb_ v4! ?_
 .let#[m1,_,m3]:=gP.mp ho;let:=jI (eG (ρ:=[ψ o.nm,cr_]) iR_ mQ! (tP (neg:=τ) hM1 χ));rw[iq.own m1 m3]at this;exact this
 .show"#M"
def c2f{k:Str}(e:v5_):Va o=dE!/\unm o=n:=by delta Va unm;rw[e];exact ae!
def d1o(hA:b9_)(hF:by!)(hR:∀v M' ba bc,((om_).map unm).getLast?=ψ v->I5_ (Ih! v6_)->R (Ig_ v6_).nm M')
  (hE:(om_).map unm=[]->∀M',Jd! M'->E t.Nothing M'):IP_ Ss E:=by
 let hl:=hF.l;let hH:=hF.h;let ez:Ie! aT!:=cF S;exact j_;exact gW ol! ?_;exact eF (b0t c! ol_);let ce:=hA.keep fr;exact eF (GQ! ez.length_eq);exact kP (f:=unm) (p:=Va) ο aT! (λo ho=>?_) ?_
 .let e3:=uX o;let e0:∀k r,o.d=.tup bG!->Eg! d0_ [T_]=ψ G!:=λk r e=>Gx_ jR!;obtain⟨k,n,e,_,hn,hu⟩|⟨k,r,e,e1,_,hu⟩:=lQ (vQ!).dg
  .let#[u1,u2]:=c2f hu;rw[u1,u2];exact#[fR jR_,λ_=>aP (Gx_ jR!)]
  .let u1:Va o=dE!:=by delta Va;rw[hu,e1]
   rw[u1];exact#[fR jR_,v9_]
 .let l2:(oo!).length<=(aT!).length:=QT _ _;rw[ez.length_eq]at l2;exact eF da!;exact kP (p:=λo=>decide on!&&Nr S cH_) ο oo! v4! ?_
  .let#[m1,m2]:=PD.mp ho;obtain⟨n1,n2,e,J⟩:NameG (unm o):=by
    obtain⟨k,n,_,_,hn,hu⟩|⟨k,r,_,_,_,hu⟩:=lQ (hH.op o (ez.mem_iff.mp m1)).dg
    .rw[(c2f hu).2];exact hn
    .delta Va at m2;rw[hu]at m2;cases m2
   let hk:Ck cH_=EF_ (.inr [.inl n1,.inl n2]):=by rw[e];rfl
   let h0:Eg! k! op!=C2_ n1:=Gx_ v9!;let Y:Qq va! op! M1 (n1==yy):=jI (eG (aP h0) v2! dS!);let h2:=jI (eG (ρ:=op!) iR_ (aP (f:=Aa 2) χ) (tP (neg:=θ) hM1 hk));let eq:jS_=((n1==yy)&&(kget kq cH_).isSome):=by
    rw[iq,PU,NU,NU,NT,NT,QK,NB];show"!r"
    .rintro⟨⟨p,hp,ep⟩,u⟩;let#[g1,g2,g3]:=gP.mp hp;exact#[?_,#[p,g1,ep,g3],u];rw[e]at ep;let:p.h=n1:=by simp![Op.nm,D.tup.injEq,PR,D.int.injEq]at ep;exact ep.1
     omega
    .rintro⟨c,⟨p,g1,ep,g3⟩,u⟩;exact#[#[p,gP.mpr #[g1,?_,g3],ep],u];rw[e]at ep;let:p.h=n1:=by simp![Op.nm,D.tup.injEq,PR,D.int.injEq]at ep;exact ep.1
     omega
   rw[eq];cases c:n1==yy with
   |true=>rw[c]at Y;exact λK hK=>FI! hK
   |false=>rw[c]at Y;exact λK hK=>Y _ hK
  .let er:((oo!).filter λo=>decide on!&&Nr S cH_)=rL S yy:=by
    rw[UH];exact RC λo _=>Bool.and_comm _ _
   rw[er];show"#M"
def a8h{ft:WT}{i:δ}{q2:WS}{R:l_}(h:qL_)(hd:ρ[i]?=ψ ce_)(hs:DM d)(hE:E C M):Ag (As ft (Nb C E (DB (gN i g0))) Bf) q2 ρ M R:=by delta Ag;exact kS h #[#[#[d,hd,hs],ο],λ_=>hE]
def a6d{h n:Int}(hA:b9_)(hF:by!)(hk:Ck V_=ψ k)(hs:DM V_)(hR:we_)
  (hE:hd_∉D6_ bQ!->E t.NotThere M):Ji t [a9_,kQ_] M R E:=by
 let hl:=hF.l;let hH:=hF.h;exact j_;let sd:∀d∈(bQ!).map Op.nm,Sd d:=λd hd=>by
  show"!M";exact(Bu.sd wf_)
 let sx:=Go.sd #[h,n,χ];let i0:Eg! r! [C_,bX!]=ψ gr_:=Jc_ fk_;let ht:Qq u8_ [C_,bX!] M (!decide (hd_∈(bQ!).map Op.nm)):=jI (eG c! (dM c! (aP i0) (rW hA hH a!)) (a2q sx sd));by_cases c:hd_∈D6_ bQ!
 .rw[NG c]at ht;exact fH ht ?_;delta Aw w2;rw[cu_];exact b0t ol! ol_;rw[tP hM1 hk];let#[o,ho,eo]:=NB.mp c;let#[m1,_,m3]:=gP.mp ho;let e:=iq.own m1 m3;rw[eo]at e;let:=hR c M1 fr;rw[<-e]at this;exact this
 .rw[NA c]at ht;exact a8h ht χ hs (hE c)
end
abbrev BU(S:k_):μ aj!:=My h6_ aT! []
section
variable{t:Bb}{M M1:Mh}{ρ:Ae}{yy:Int}{a ta wa p:sw!}{S:List Op}{kl:List Int}{ca:Int->Addr}{o:Op}{n:D}{b:Bool}{R:D->Mh->Prop}{E:EK}
def c4x{f:Str->D}:∀(os:k_) (σ:q!),(kget σ n≠υ\/∃o∈os,∃k,Cu o.d=ψ (k,n))->kget (My f os σ) n≠none:=by
 intro os
 induction os with
 |nil=>
  intro σ h;obtain h|⟨o,ho,_⟩:=h
  .exact h
  .cases ho
 |cons o os ih=>
  intro σ h;delta My;cases e:Cu o.d with
  |none=>
   exact ih σ (h.imp id ?_);rintro⟨x,hx,k,hk⟩;obtain rfl|hx:=MM.mp hx
   .rw[e]at hk;cases hk
   .exact#[x,hx,k,hk]
  |some u=>
   let#[k,m]:=u;exact ih _ ?_;by_cases c:m=n
   .subst c;exact .inl (Gd! jO QL)
   .rw[nX c];exact h.imp id ?_;rintro⟨x,hx,k',hk⟩;obtain rfl|hx:=MM.mp hx
    .rw[e]at hk;cases hk;exact Dd! c
    .exact#[x,hx,k',hk]
def b7r(n:D):(kget fm_ n=υ/\Nr S n=θ)\/kget fm_ n=ψ wh_:=by
 delta Nr;obtain⟨Y,h2⟩|⟨k,Y,h2⟩:=oW (srt S) [] [] (λx=>.inl ae!) n
 .rw[Y];exact .inl #[h2,χ]
 .exact .inr (h2.trans ?_);rw[Y];congr 2;rw[PU,QK,NT];exact#[yQ_,λz=>D.str.inj (OK z)]
def b1a(n:D):(kget fm_ n).getD B!=.bl (Nr S n):=by
 obtain⟨Y,h2⟩|h:=b7r n
 .rw[Y,h2];rfl
 .rw[h];rfl
def d1c(ho:o∈S)(hu:v5_):kget fm_ n=ψ wh_:=
 (b7r n).resolve_left λz=>c4x aT! [] (.inr #[o,(cF S).mem_iff.mpr ho,k,hu]) z.1
def Uo(S:k_)(yy:Int)(b:Bool):μ D:=if b then(om_).map unm else(ok_).map Op.nm
def Zo(S:k_)(yy:Int)(b:Bool):D:=((he!).getLast?).getD .non
def d0m{xs:d_}:((cz_).getLast?).getD σ=(xs.getLast?).getD x:=by rw[List.getLast?_cons];rfl
def Zz(S:k_)(yy:Int)(b:Bool)(p:sw!)(ns:d_)(σ:D)(y6 y7:Z_):Ae:=[gF!,de!,ψ al_,bo_,ψ (.lst ns),ψ σ,y6,y7]
def KU:WS:=xl_
def d5y(hH:as!){h:Int}:∀d∈(bQ!).map Op.nm,Sd d:=λd hd=>by
 show"!M";exact Bu.sd wf_
def c4p{ft fu:WT}{c:Bool}(Y:F1! ft b)(h2:b=τ->F1! fu c):F1! (Dt ft fu) (b&&c):=λK hK=>by
 exact Y _ ?_;cases b with
 |true=>exact h2 χ _ hK
 |false=>exact hK
def c8p{ep:δ}(hH:as!)(hp:or_){R:l_}:∀(os:k_) (σ:D) (y7:Z_),(∀o∈os,o∈S)->
  (∀y7',D0! (Zz S yy b p os! ((((os.filter λo=>Va o&&jS_).map unm).getLast?).getD σ) y6 y7') M)->
  Fw cJ_ P! KU ah_ (I1! os!) M R:=by
 intro os
 induction os with
 |nil=>intro σ y7 _ hR;exact#[ο,hR y7]
 |cons o os ih=>
  intro σ y7 hs hR;exact av_;let ho:=hs o ML;let c8:=λx hx=>hs x (MF o hx);let e3:=uX o;let e0:∀k r,o.d=.tup bG!->Eg! fq_ jX!=ψ G!:=λk r e=>Gx_ jR!;let key:Qq xl! jX! M (Va o&&jS_)/\(Va o=τ->f2 Ai fq_ u_ jX!=ψ cH_):=by
   obtain⟨k,n,e,_,hn,hu⟩|⟨k,r,e,e1,_,hu⟩:=lQ (gA!).dg
   .let#[u1,u2]:=c2f hu;let i1:Ev! fq_ jX!=ψ n:=Gx_ jR!;rw[u1,u2];exact#[c4p (fR jR_) λ_=>c4p (jI (eG (aP i1) c! (a2q (Bu.sd (De_ hn)) (d5y hH)))) λ_=>?_,λ_=>i1];let#[k2,ww]:=rA hn;exact jI (eG c! (aP i1) ((fK hp ww).trans (d1c ho hu)))
   .let u1:Va o=dE!:=by delta Va;rw[hu,e1]
    rw[u1];exact#[c4p (fR jR_) (Ih_ e1),v9_]
  let#[k1,k2]:=key;cases c:Va o&&jS_ with
  |true=>
   rw[c]at k1;rw[OO (by exact c),MU,d0m]at hR;rw[NU]at c;exact kS k1 ?_;exact aP (k2 c.1) _ ?_;exact ih cH_ b4! c8 hR
  |false=>
   rw[c]at k1;rw[oi_]at hR;exact qH k1 (ih σ b4! c8 hR)
def KS:WS:=xo!
def c8o{ep:δ}(hp:or_){R:l_}:∀(os:k_) (σ:D) (y6:Z_),os.Pairwise (λa b=>a.n<b.n)->(σ=.non\/∃q:Op,σ=q.nm/\∀o∈os,q.n<o.n)->
  (∀y6',D0! (Zz S yy b p ns ((((os.filter λo=>!Nr S o.nm).map Op.nm).getLast?).getD σ) y6' y7) M)->
  Fw fl! P! KS lz! (I1! ns) M R:=by
 intro os
 induction os with
 |nil=>intro σ y6 _ _ hR;exact#[ο,hR y6]
 |cons o os ih=>
  intro σ y6 pw ha hR;rw[PY]at pw;exact av_;let t1:Qq xm_ wo_ M (!Nr S o.nm):=a0j (jI (Hs_ c!));let t2:Qh xn! xn_ wo_=ψ true:=by
   obtain rfl|⟨q,rfl,hq⟩:=ha
   .exact b9u χ
   .exact b2e fR! (aS (x:=.int o.n) (y:=.int q.n) wr_ wr_ ?_);show Jo_ (q.n<o.n)=_;rw[NG (hq o ML)]
  let t3:=c4p t1 λ_=>fR t2;rw[WZ]at t3;cases c:Ig! S with
  |false=>
   rw[c]at t3;rw[OO (EX_ c),MU,d0m]at hR;exact kS t3 l2_;exact ih o.nm ov! pw.2 (.inr #[o,χ,pw.1]) hR
  |true=>
   rw[c]at t3;rw[oi_]at hR;exact qH t3 (ih σ ov! pw.2 (ha.imp id ?_) hR);rintro⟨q,e,hq⟩;exact#[q,e,λx hx=>hq x b0!]
def a0e{ft:WT}{q1 q2 q3:WS}{R:l_}(h:qL_)(k:q1 ρ M λr M1=>match r with|.nx al=>q3 al M1 R|.rt d=>R af_ M1):DK! qs_ q3:=by delta Ag;exact kS h k
def uI{f:a1!}{b:bA_}{q q2:WS}{R:l_}(h:ou!)(k:wv!):DK! (Cn (Gu f) b q) q2:=by delta Ag Cn Gu;rw[h];exact k
def b8c{f:WE}{b:bA_}{q q2:WS}{R:l_}(h:C9! f bR!)(k:wv!):DK! (Cn (Cb f) b q) q2:=by delta Ag Cn Cb;exact h _ k
def d2b(hH:as!)(h:Int):(bQ!).Pairwise λa b=>a.n<b.n:=by exact List.Pairwise.sublist WM ?_;rw[RX];intro i j hi hj yo;let e1:=(hH.ch h).num i _ (NK hi);let e2:=(hH.ch h).num j _ (NK hj);omega
def b8n:Zk=(IY_ 3 j4_
 (Ag xj_
 (IY_ 5 aX!
 (Ag (KD_ KU)
 (Ag (Cn (FZ_ S_) fl! KS)
 j7!))))):=χ
def c9r(hF:by!)(hR:∀M',wx!->R (Zo S yy b) M'):Sw [.lst dd_,gB!,.bl b] M R:=by
 let hH:=hF.h;let hl:=hF.l;exact j_;rw[b8n];exact eF (sO χ (oK hH.keys a! (λo ho=>(gA!).dg) λp M1 ep g8 hp fr=>?_));let sw:∀c,M c≠υ->M1 c=M c:=λc hc=>fr c λz=>hc wy_;exact eF da!;exact kP (p:=λo=>nl_&&decide g8_) ο S (λo ho=>#[?_,vO_]) ?_
 .exact c4p (fR (wJ (aS (mF o) χ dS!))) λ_=>?_;let#[k,r,e,hn,hs]:=c9c (gA!).dg;let i0:Eg! d0_ [T_,de!]=ψ G!:=aS tk_ χ wA!;let Y:=Gj_ M1 τ;let e2:(if τ=τ then ! if! else if!)=decide g8_:=by
   rw[y_];cases hu:Cu o.d with
   |none=>
    let#[z1,z2]:=hn hu;let z6:wB!=false:=by rw[OJ]at z1 ⊢;exact NY z1
    let F':wB_=false:=by rw[OJ]at z2 ⊢;exact NY z2
    rw[z6,F'];rfl
   |some u=>
    rw[wC!];rfl
  rw[e2]at Y;exact Y
 .let eo:S.filter (λo=>nl_&&decide g8_)=owL S yy:=by
   delta owL hs;rw[UH];exact RC λo _=>?_;rw[Bool.and_comm];congr 1
  rw[eo];exact FP! fX;cases b with
  |true=>
   exact a0e jN! ?_;exact b8c (fS c! λK hK=>kX hH.keys a! hK) ?_;exact c8p hH hp aT! .non υ (λo ho=>(cF S).mem_iff.mp ho) λy7=>cZ c! (hR M1 sw)
  |false=>
   exact fH jN! ?_;exact FP! uI;exact c8o hp hb_ .non υ (d2b hH yy) W_ λy6=>cZ c! (hR M1 sw)
def b1j{n ix:δ}{hv:mw!}{q:iG!}{q2:WS}{R:l_}(h:q (λc M1=>Dm (hv c) λd=>q2 sl_ M1 R) ρ M λr M1=>match r with|.nx al=>q2 al M1 R|.rt d=>R af_ M1):DK! (AD n ix hv q) q2:=h
def d8j{f:bh_}{fa fb:WE}{K:L_}(h:ou_)(k:if b then II_ fa else II_ fb):BV (Ca f) fa fb ρ M K:=by delta BV;exact fR h _ ?_;exact k
nonrec def kw(b:Bool):Str:=if b then "redo" else "undo"
def c4i{g:EN}{f1:m_}{b:D}{K:L_}(Y:f1 ρ=ψ b)(k:g [b] M K E):Jz 1 g E (Ab fL! Ad) ρ M K:=by delta Jz Ab Ad;rw[dS Y];exact cZ!
def c9q(hA:b9_)(hF:by!)(hR:∀v M' ba bc,(he!).getLast?=ψ v->I5_ tA_->R (hi!).nm M')
  (hE:(he!).getLast?=υ->∀M',Jd! M'->R ee_ M'):Sv t [a9_,.bl b] M R:=by
 exact j_;exact fX χ (b1j ?_);exact FP! d8j;cases b with
 |true=>exact FL! d1o
 |false=>exact FL! d1b
def b7d{h n:Int}(hA:b9_)(hF:by!)(hk:Ck V_=ψ k)(hs:DM V_)(hR:we_)
  (hE:hd_∉D6_ bQ!->R ee_ M):Dz t [a9_,kQ_] M R:=by
 exact j_;exact fX χ (b1j ?_);exact FA_ d4s (a6d hA hF hk hs (λc M' fr=>cZ c! (hR c M' fr)) λc=>a9x (cZ c! (hE c)))
end
section
variable{t:Bb}{M M1:Mh}{ρ:Ae}{yy:Int}{a ta wa p:sw!}{S:List Op}{kl:List Int}{ca:Int->Addr}{o:Op}{b:Bool}{ns:List Int}
nonrec def lE(ns:r_)(S:k_)(yy:Int)(x3:D)(a:sw!)(y5 y6 y7 y8 y9 jy fm:Z_):Ae:=[bH!,gF!,de!,ψ x3,C_,y5,y6,y7,y8,y9,jy,fm]
def d5u:C9! xA! (.lst (i7!).flatten):=λK hK=>#[F!,zW!,hK]
def d4u{g:WF}{f1:m_}{f2:WE}{K:L_}(Y:pW_)(h:f2 ρ M λd M1=>[x,d].length=2/\g [x,d] M1 K):Ak 2 g (Dm! fL! f2) ρ M K:=by delta Ak Ab Ad;rw[dS Y];exact h
def b9w(h:as!):Qa M gv_ gv_=ψ B!:=by
 let hp:∀o∈srt S,DG o.d:=λo ho=>(h.op o ((cF S).mem_iff.mp ho)).dg;exact jM (show Br eV_=τ from gY λd hd=>?_) ?_
 .show"!M";exact(wK_).1
 .let:Cz eV_<=5:=jE λd hd=>by
   show"!M";exact(wK_).2
  show Cz eV_+1<=40;omega
def d5z{ft:WT}{q1 q2:WS}{R:l_}(h:wL!):HD_ R B! M:=h
def LZ(K:fS_)(d:D)(M:Mh):Prop:=match d with
 |.bl b=>K b M
 |_=>False
def d5j{f:WE}{K:fS_}(h:f ρ M (LZ K)):wT f ρ M K:=h
def KQ(t:Bb):WS:=xB!
def KI(t:Bb):WS:=(Ag xv_
 (Ag xw!
 (Ag oN!
 (Ag (As (Ee_ oN_) (Ag xx_
 (Ag xy!
 xz!)) Bf)
 (KQ t)))))
structure Dn(yy:Int)(S:k_)(j:Nat):Prop where
 y:yy=0\/yy=5\/yy=15
 l:c7!<=10+j
 t:∀o∈S,o.tm<=30+(j:δ)
 h:Hist S
def Dn.few{j:δ}(h:Dn yy S j)(hj:j<40):Xc yy S:=#[h.y,λo ho=>by let:=h.t o ho;omega,by let:=h.l;omega,h.h]
def Dn.next{j:δ}(h:Dn yy S j)(hj:j<40)(hd:DG d):Dn yy vT! b7!:=by
 let Y:=a9h (S:=S) (B:=30+(j:δ)) a! h.t;exact#[h.y,by rw[NR];let:=h.l;show c7!+1<=_;omega,λo ho=>?_,(d7n (h.few hj) hd).2];obtain z|z:=ND.mp ho
 .let:=h.t o z;omega
 .rw[cY!];show 1+Uy S<=_;omega
def d4a(hH:as!)(h:(he!).getLast?=ψ v):NameG v:=by
 let hm:=VZ h;delta Uo at hm;cases b with
 |true=>
  rw[y_]at hm;let#[o,ho,rfl]:=NB.mp hm;let#[m1,m2]:=PD.mp ho;rw[NU,NU,NT]at m2;let#[q,hq,e]:=NB.mp m2.2.1;rw[<-e];exact hH.ng (gP.mp hq).1
 |false=>
  rw[d1_]at hm;let#[o,ho,rfl]:=NB.mp hm;exact hH.ng (gP.mp (PD.mp ho).1).1
def d6x(h:NameG v):DG fo_:=by
 cases b
 .exact .undo h
 .exact .redo h
def d0p{S0:k_}{R:l_}(hF:Xc yy S0)(hS:by!)(hA:yT_ M S0 kl ca)(hd:Em c6 c6=ψ B!)
  (Y:∀v,(Uo S0 yy b).getLast?=ψ v->S=S0++[acO S0 yy fo_]/\c6=(acO S0 yy fo_).nm)(h2:(Uo S0 yy b).getLast?=υ->S=S0/\c6=.str "refused")
  (hR:∀M' ba bc,I5_ S->D0! j1! M'):KQ t j1! M R:=by
 let hl:=hS.l;let fin:∀M1 va vb,yT_ M1 S va vb->HZ Qa ea_ j1! (IF xA_ cg_ Bf j1! R) c6 M1:=λM1 va vb ce=>by
  exact zZ χ (show Qa M1 c6 c6=ψ B! from ?_) (d5z (d5j ?_))
  .cases c6<;>first|exact hd|(cases hd)
  .exact d4u χ (d5u _ #[χ,c2l ce hS.h a! λM2 fr=>?_]);exact fS c! (λK hK=>kX hS.h.keys a! hK) _ ?_;rw[b9w hS.h];exact hR M2 va vb (ce.keep fr)
 exact b3a (d1a (wV χ χ (c9q hA hF (λv M1 va vb e ce=>?_) λe M1 ce=>?_)))
 .let#[e1,e2]:=Y v e;rw[<-e1]at ce;rw[<-e2];exact fin M1 va vb ce
 .let#[e1,e2]:=h2 e;rw[<-e1]at ce;rw[<-e2];exact fin M1 kl ca ce
end
section
variable{t:Bb}{M M1:Mh}{ρ:Ae}{yy:Int}{a ta wa p:sw!}{S:List Op}{kl:List Int}{ca:Int->Addr}{o:Op}{b:Bool}{ns:List Int}{x3:D}
def d2u{i j:Int}(h:0<j):Dy U! a5_=ψ pX!:=by show(if decide (0<j)=τ then ψ (D.int (i%j))else υ)=_;rw[MO (NG h)]
def b2r{f:m_}{i j:Int}(h:f ρ=ψ U!)(hj:0<j):f2 Dy f (fC a5_) ρ=ψ pX!:=aS h χ (d2u hj)
def d6m(o:Op):Em o.nm o.nm=ψ B!:=jM χ (show 1<=40 by decide)
def b8h:Em ee_ ee_=ψ B!:=jM χ wU!
def c1d:∀(is:g_) (j:δ) (S:k_) (M:Mh) (kl:r_) (ca:b7_) (y5 y6 y7 y8 y9 jy fm:Z_) (R:l_),Jd! M->Dn yy S j->j+js_<40->
  (∀j' S' M' ba bc z5 z8 z9 mf N',I5_ S'->Dn yy S' j'->j'<40->D0! (lE ns S' yy x3 a z5 y6 y7 z8 z9 mf N') M')->
  Fw (Bw 5) P! (KI t) vD! (lE ns S yy x3 a y5 y6 y7 y8 y9 jy fm) M R:=by
 intro is
 induction is with
 |nil=>intro j S M kl ca y5 y6 y7 y8 y9 jy fm R hA hD hj hR;exact#[ο,hR j S M kl ca _ _ _ _ _ hA hD hj]
 |cons i is ih=>
  intro j S M kl ca y5 y6 y7 y8 y9 jy fm R hA hD hj hR;rw[NH]at hj;let hF:=hD.few a!;exact av_;let#[m,em,_,_]:=iI ns;exact fX (aS (b2r (lY (cB rfl et!) em) a_) rfl dS!) ?_;generalize (m%2==0)=b;exact eF (d0v rfl rfl rfl (c9r hF λM1 fr=>?_));let ce:=hA.keep fr;exact fX rfl ?_;cases e:(he!).getLast? with
  |none=>
   let ev:Zo S yy b=.non:=by delta Zo;rw[e];rfl
   rw[ev];exact fH jN! ?_;exact d0p hF hF ce b8h (λv z=>by rw[e]at z;cases z) (λ_=>ae!) λM' ba bc ir=>?_;exact HQ_ j S ir hD a! hR
  |some v=>
   let ev:Zo S yy b=v:=by delta Zo;rw[e];rfl
   let hg:=d4a hF.h e;let hd:=d6x (b:=b) hg;rw[ev];let tn:fT oN_ wW_=ψ true:=by
    let#[h,n,rfl,_]:=hg;rfl
   exact a0e (fR tn) ?_;let ed:Bg xx! wW_=ψ fo_:=b3f (aS χ (FA_ fO) zN_) χ;let hl:=hF.l;exact gW (uS c! c! (aP ed) (c4r hF.h a!)) ?_;show Ag _ _ (ET_ (ψ ee_)) M1 _;exact fX (yA _) ?_;let ea:f2 An r! xy_ (ET_ (ψ (hi!).nm))=Jw! tA_ Op.v:=by
    exact FA_ aS ?_;show(EU! (S.map Op.v++[(hi!).v]))=_;rw[e1!,NV];rfl
   exact aP ea _ ?_;let hD':=hD.next a! hd;exact d0p hF (hD'.few a!) ce (d6m _) (λw z=>?_) (Ih_ e) λM' ba bc ir=>?_
   .rw[e]at z;cases z;exact ae!
   .exact HQ_ b7! _ ir hD' a! hR
def IK(t:Bb):WS:=(Ag xE!
 (Ag xF!
 xH_))
structure JT(S:k_)(o:Op):Prop where
 d:DG o.d
 s:DM o.nm
 i:Cu o.d=υ->o∈S
 n:Cu o.d≠υ->o.nm∉D6_ oE_
def ifw{ft:WT}{q1 q2:WS}{R:l_}(h:wL!):Dw! ft:=h
def c5c{ep:δ}{R:l_}(hA:b9_)(hF:by!)(hp:or_)(ho:JT S o)(hR:∀M' mf,wx!->R (.nx (DK_ b4! mf)) M'):
  IK t (DK_ b4! jy) M R:=by
 exact gW (Hs_ (aP (yA o))) ?_;let#[k,r,e,hn,hs]:=c9c ho.d;let i0:Eg! fq_ (Js_ (C4_ (Nr S o.nm)))=ψ G!:=aS tk_ χ wA!;let Y:=Gj_ M θ;let fin:∀(c6:D),Em c6 c6=ψ B!->((D.tup lr_)∈(oE_).map Op.nm->c6=.bl (Ig! S))->((D.tup lr_)∉(oE_).map Op.nm->c6=.str "refused")->As xG_ cg_ Bf (Js_ (ψ c6)) M R:=λc6 hd u1 u2=>by
  let iu:∀M1:Mh,Qa M1 c6 c6=ψ B!:=λM1=>by cases c6<;>first|exact hd|(cases hd)
  exact ifw (d5j (d1a (wV χ (yA o) (b7d hA hF χ ho.s (λc M1 fr=>?_) λc=>?_))))
  .exact zZ χ (by rw[<-show c6=.bl (Nr S (.tup lr_))from u1 c];exact iu M1) ?_;exact hR M1 _ fr
  .exact zZ χ (by rw[<-u2 c];exact iu M) ?_;exact hR M _ λ_ _=>χ
 cases hu:Cu o.d with
 |none=>
  let#[z1,z2]:=hn hu;let z6:wB!=false:=by rw[OJ]at z1 ⊢;exact NY z1
  let F':wB_=false:=by rw[OJ]at z2 ⊢;exact NY z2
  rw[d1_,z6,F']at Y;exact fH Y (fin _ (jM χ wU!) pZ! λc=>ξ (NB.mpr #[o,gP.mpr #[ho.i hu,χ,hu],χ]) c)
 |some u=>
  rw[d1_,wC!]at Y;exact a0e Y l2_;exact fin _ b8h (λc=>ξ c (ho.n (Gd! hu QL))) λ_=>χ
def c5d{ep:δ}{R:l_}(hF:by!):∀(os:k_) (M:Mh) (y7 jy:Z_),Jd! M->M p=JZ_ fm_->(∀o∈os,JT S o)->
  (∀M' z7 mf,Jd! M'->R (.nx (DK_ z7 mf)) M')->
  Fw cJ_ P! (IK t) ah_ (DK_ y7 jy) M R:=by
 intro os
 induction os with
 |nil=>intro M y7 jy hA _ _ hR;exact#[ο,hR M y7 jy hA]
 |cons o os ih=>
  intro M y7 jy hA hp ho hR;exact av_;exact c5c hA hF hp (ho o ML) λM1 mf fr=>?_;exact ih M1 _ _ (hA.keep fr) ((fr p (Gd! hp QL)).trans hp) (Ie_ ho) hR
nonrec def exO:Op:=#[3,1,1,.tup w8!]
def d7m(hF:by!):∀o∈S++[exO],JT S o:=λo ho=>by
 obtain z|z:=ND.mp ho
 .let hf:=hF.h.op o z;let hh:=hf.hh;let Y:=hf.n1;let h2:=hf.n2;exact#[hf.dg,#[c7i a!,c7i a!],λ_=>z,λhu c=>?_];let#[q,hq,e]:=NB.mp c;let#[m1,_,m3]:=gP.mp hq;let nd:=hF.h.names;let:q=o:=by
   rw[TC,XC]at nd;exact TL λne=>by
    let#[i,hi,ei]:=US.mp m1;let#[j,hj,ej]:=US.mp z;let pw:=RX.mp nd;obtain l|l|l:=Nat.lt_trichotomy i j
    .exact pw i j hi hj l (by rw[ei,ej];exact e)
    .subst l;exact ne (ei.symm.trans ej)
    .exact pw j i hj hi l (by rw[ei,ej];exact e.symm)
  rw[this]at m3;exact hu m3
 .rw[cY!];exact#[.undo #[0,1,χ,F!,F!,F!,F!],#[c7i (show(3:δ)<=2000 by decide),c7i (show(1:δ)<=2000 by decide)],bZ_,λ_ c=>?_]
  .exact Ga_ (show Cu (.tup w8!)≠υ by rw[qF,qv!];exact QL _)
  .let#[q,hq,_]:=NB.mp c;let#[m1,m2,_]:=gP.mp hq;let:=(hF.h.op q m1).hh;let m2:q.h=3:=m2;omega
def b8m:Ze t=(Ag xp!
 (Ag xp_
 (Ag xr!
 (Ag xs!
 (Ag (Cn xt_ (Bw 5) (KI t))
 (Ag xC_
 (Ag (Cn (FZ_ oP!) cJ_ (IK t))
 xI_))))))):=χ
def c1l(nd:t.nd):CM t l5_ M0 (λd _=>d=.bl τ):=by
 let#[m,em,_,_]:=iI ns;obtain⟨N,hN⟩:∃N:Nat,(N:Int)=m%9:=#[(m%9).toNat,p_];let#[m2,em2,_,_]:=iI ns;let#[m3,em3,_,_]:=iI ns;obtain⟨K,hK⟩:∃K:Nat,(K:Int)=m3%7:=#[(m3%7).toNat,p_];let#[os,ew,hl,hH,hB]:=b3w ns 0 N a!;let hy:∃yy:Int,(yy=0\/yy=5\/yy=15)/\Ai (.lst [dx!,.int 5,.int 15]) (.int (m2%3))=ψ iN_:=by
  let c:m2%3=0\/m2%3=1\/m2%3=2:=by omega
  obtain z|z|z:=c<;>rw[z]
  .exact#[0,cv!,χ]
  .exact#[5,kM!,χ]
  .exact#[15,.inr cE_,χ]
 let#[yy,hy,ey]:=hy;let mx:∀{ρ:Ae} {k:Int} {r:Int},Aa 0 ρ=ψ (scr ns)->Bn p1!=C2_ r->I3_ (fC dR_) ρ=C2_ r:=λh e=>lY (cB h et!) e;exact j_;rw[b8m];exact fX (lY (cB χ (Hk_ ((b2r (mx χ em) a_).trans (by rw[hN])))) ew) ?_;exact fX (aS χ (b2r (mx χ em2) a_) ey) ?_;let hf:∃f:Op->List Nat,∀o∈os,CW t o (f o):=⟨λo=>if h:∃l,CW t o l then Classical.choose h else[],λo ho=>by
  let h:=d6v nd gA!;show CW t o (if h:∃l,CW t o l then Classical.choose h else[]);rw[dif_pos h];exact Classical.choose_spec h⟩
 let#[f,hf]:=hf;let e3:f2 An (Fe oL_) xq! oG_=yJ_ g7!:=by
  let J:0<=yy/\yy<16:=by omega
  let hs:Nd [gB!]=DO! (intC yy):=str_int a!;let g1:Fe oL_ oG_=yJ_ of!:=by
   delta Fe;rw[cB (aS χ (Fg! hs) (zD J.1 J.2).2) χ];rfl
  let g2:EC_ oM_ ah_=ψ g3_:=by
   rw[kO (F:=λd=>(Da [d]).getD .non) ah_ λd hd=>?_]
   .rw[OD];exact Jt! (OT λo ho=>?_);show(Da dE_).getD .non=_;rw[(hf o ho).sh];rfl
   .show"!M";exact fO ?_ χ;rw[(hf o ho).sh];rfl
  let g3:Dj_ (Cs r!) oM_ oG_=yJ_ g3_:=by
   show(Bf! ah_ (Km_ ah_))=_;rw[e1!,g2];rfl
  exact aS g1 g3 ?_;show(if 1+(g3_).length<=big then ψ (D.lst (of!++os.map λo=>wS (f o)))else υ)=_;rw[e1!];rfl
 exact fX e3 ?_;generalize hx3:D.lst g7!=x3;exact eF (sO rfl ?_);rw[<-hx3];exact b6b hy hf hH a! λa ta wa M1 kl ca hA=>?_;rw[hx3];let hD:Dn yy os 0:=#[hy,p_,λo ho=>by let:=(hB o ho).1;omega,hH];let em':Eu (DL.f2 Dy (DL.f1 Bn xs_) op_) (lE ns os yy x3 a none none none none none none none)=some ((xi_).map λi=>D.int cX_):=nE (by rw[hK];exact b2r (mx rfl em3) a_) a!;exact uI em' (c1d xi_ 0 os M1 kl ca none none none none none none none _ hA hD (by rw[QM];omega) λj S M2 kl2 ca2 z5 z8 z9 mf N' zu hD2 hj=>?_);let hF:=hD2.few hj;let hl2:=hF.l;exact eF (sO rfl (oK hF.h.keys a! (λo ho=>(hF.h.op o ho).dg) λp M3 ep g8 hp fr=>?_));let hA3:=zu.keep λc hc=>fr c λz=>hc wy_;let ei:Cs oP! (lE ns S yy x3 a z5 ed! none z8 z9 mf N')=some ((S++[exO]).map Op.v):=by
  exact a2r (aS χ χ ?_);show(EU! (S.map Op.v++[exO.v]))=_;rw[e1!,NV];rfl
 exact uI ei (c5d hF (S++[exO]) M3 υ mf hA3 hp (d7m hF) λM4 z7 w10 hA4=>?_);exact Dd_ wV (b7e (hA4.hr hF.h a!) hF.h a! λM'=>χ)
end
def mG(T:g!):oW_ Ok 1 "is_whole" B_ (Gc):=
 dU T.D3 f_ (Df_ (lR (jZ c7v χ T.T4 χ T.T3 cL b0u v!) (lR (d4j (jZ c2e χ T.T4 χ T.T0 cL c9m v!)) (iM (fN b9y c0a (cG c4g d4q χ T.S8 d4x aH!) (bB d2d d2k aB aB) n_)))))
def jA(T:g!):oW_ Ok 2 "is_from_one" B_ (Ee):=
 dU T.D5 f_ (Df_ (lR xm! (iM (fN d6c d6e v! aB n_))))
def mH(T:g!):oW_ Ok 2 "is_below" nj! (Hs):=
 dU T.D4 f_ (Df_ (lR xm! (iM (a7a qU qW b9y c0a aB v! E_))))
def iZ(T:g!):oW_ Ok 3 "is_name" B_ (Fh):=
 dU T.D6 f_ (KX_ (lR (Kw! mH (Do_ aO! (iD T.U4 χ))) (iM xo_)))
def lV(T:g!):Ku! "is_sign_name" Eo:=
 dU T.D7 f_ (KX_ (lR xq_ (iM (Kw! mH (Do_ aO! oM!)))))
def a9a(T:g!):Ku! "is_item" Kv:=
 dU T.D8 f_ (Df_ (zN xr_ (zN xt! (iM xt!))))
def xH(T:g!):Ku! "is_sibling" Hb:=
 dU T.D9 f_ (Df_ (zN xu_ (iM xr_)))
def a0s(T:g!):oW_ Ok 5 "is_behind" B_ (Ie):=
 dU T.E1 f_ (I3! (KJ! (zN xu_ (iM (C2! lV aH!)))))
def a8y(T:g!):oW_ Ok 1 "is_sign" gG! (Fg):=
 dU T.E2 f_ (Df_ (lR (a7a qU qW qU qW aU v! aU) (iM (fN yJ yM (cG c4d d4p χ T.T8 d4w aH!) (iD T.U7 χ) n_))))
def a8x(T:g!):oW_ Ok 2 "is_text" B_ (Kt):=
 dU T.E3 f_ (I3! (aY (KH! (qB (gS (D7! v!)) (lP (gS (c3f qU qW qU qW aB fr! oM!))))) (aV (bK (KR! (fY (NL:=gG!) (NF:=[]) (ix:=[]) χ a_ c_ (yU_ Pg) Bq.nil a_ χ (d4f v!) (Im_ (show(gG!:μ Str).Nodup by decide+kernel)) I! ci! (K1_ a8y)))))))
def sB(T:g!):oW_ Ok 3 "is_place" B_ (Du):=
 dU T.E4 f_ (Df_ (aT (mH T) b_ χ (aD v! (aD (iD T.U6 χ) aI)) au!))
section
variable{P:yM!}{w:yK!}{K:zA!}{mg:Str->Option Value}{base:Heap}{t:Bb}
def iP{g:bz_}{ps:D!}{k:δ}(h:oW_ Ok k x ps g)(hm:mg x=ψ bi_)(hp:ab!=1)(hk:k<=5):∃fd ps,ab!=1/\oW_ Ez Ot 5 ag fd ps (CD K ps.length g)/\DC_ K/\J4! K=true:=by let#[f',fd,Y,h2,h3,h4]:=h;rw[hm]at h3;cases h3;exact#[fd,ps,hp,Y.mono hk,h2,h4]
protected def c8f(T:g!):oW_ CY 5 1 (Iz t):=by
 intro ag g e;delta Iz at e;show"!9"
 .show"!=";exact DR! a9a T.V0
 show"!9"
 .show"!=";exact DR! xH T.V1
 show"!9"
 .show"!=";exact DR! a0s T.V2
 show"!9"
 .show"!=";exact DR! a8x T.V3
 show"!9"
 .show"!=";exact DR! lV T.V4
 show"!9"
 .show"!=";exact DR! jA T.V5
 show"!9"
 .show"!=";exact DR! sB T.V6
 show"!9"
 .show"!=";exact DR! mG T.V7
 show"!9"
 .show"!=";exact DR! iZ T.V8
 cases e
end
def lC(T:g!):oW_ De 1 t.B5 "have" nO_ gV_:=
 cM T.V9 T.L6 f_ (Db_ (KC! xD!))
def a9d(T:g!):oW_ Ye 1 "Hand" t.B5 nN! (Kx t):=
 a0v T.L5 f_ (I3! (aF (IR! T.Y1 s_) (aF (IR! T.Y2 hV) (aF (IR! T.Y3 (a1h aN)) xF_))))
def c0i(T:g!):oW_ Ok 1 "_law_cell" g4! (Sx):=
 dU T.Q1 f_ (I3! (aY (fG (a6t v!) xI! dC) (Eh! aB)))
def a0u(T:g!):oW_ Jc 1 "_law_children" fp_ (Gm):=
 cD T.R9 f_ (Kw_ (gQ (NL:=bT_) (NF:=[a0!]) (ix:=[1]) χ a_ c_ (yU_ Me) ft_ a_ χ (fB bj_) ka! I! oR! ka_))
def fI(T:g!):oW_ Ok 2 "_law_mix" g4! (Bn):=
 dU T.Q2 f_ (I2_ (aY (Dl! (bB eY eZ (bB aO bJ (Kw! c0i (aD v! fu_)) (K4! aB xN!)) aB)) (aY (Dl! (Ky! (K4! am_ aB))) (Eh! (Ky! (bB aO bJ (K4! (bB nH nI am_ aB) aB) am_))))))
def b5g(T:g!):oW_ Ok 1 "_law_items" bP_ (Kl):=
 dU T.Q3 f_ (I3! (KJ! (bB aO bJ (bB aO bJ oS! (fY (NL:=bT_) (NF:=[]) (ix:=[]) χ a_ c_ (yU_ Rl) Bq.nil a_ χ kc! oS_ I! (λ_ _ _ _ _=>d0c xP_) xR!)) (eJ (n:=12) χ))))
def b5e(T:g!):oW_ Ok 1 "_law_signs" bP_ (Mo):=
 dU T.Q4 f_ (I2_ (aY (oR nd χ d! (Do_ cV oT_)) (aY (b0e OB χ kc! nd χ d! (aV (fG (Fr! kd! aU) (aV (b0e OB χ (DO_ kd!) nd χ d! (aV (rQ a_ (K2! a1_ (aD a1_ oU!)))))) dC))) (a6u (Eh! E_)))))
def c0d(T:g!):oW_ Ok 1 "_law_text" [cH!,g7_] (Oz):=
 dU T.Q5 f_ (I2_ (aY (eI nd χ aG_ aU) (aV (bK (a3b aU (fY (NL:=[aL_]) (NF:=[cH!,og_]) (ix:=[0,2]) χ a_ c_ (yU_ To) xU_ a_ χ (fW χ T.T9 (Fr_ aB (bB eY eZ v! E_))) (oX_ [aL_,cH!,og_]) I! ci! (EU_ (aM aH aL am_ (Ky! (bB nH nI E_ (KQ_ aB (K4! aB v!)))) o!))))))))
def kH(T:g!):oW_ Ok 1 "_law_pick" oh_ (Dj):=
 dU T.Q6 f_ (I3! xI!)
def c0h(T:g!):oW_ Ok 3 "_law_deed" xL! (Jj):=
 dU T.Q7 f_ (λhr nd=>(aY (Dl! (Jf_ fu_)) (aY (K3! (KK! b5g)) (aY (Dl! (I4_ (KQ_ (bY av! bA! cP) (bY av! cP bA!)))) (aY (Dl! (I4_ (KQ_ av! kd_))) (aY (fG (D7! cM!) (aV (Dl! cV)) dC) (aY (Dl! xY_) (aY (Dl! (J2! dq! xY!)) (aY (Ja! xZ!) (aY (Ja! (aD aP! xZ!)) (aY (fG hq_ (Kn_ (Do_ bU_ aP!)) dC) (aY (K3! (I4_ (KK! b5e))) (aY (Ja! (KW! (Kw! c0d (aD xW_ oU!)))) (aY (fG (oQ (rP hq_ (nO (EW! fw_)))) (Kn_ (aD bU_ (KW! (bB aO bJ aB (bB eY eZ x3! (bB uW vC aB (DE_ fw_ aB))))))) dC) (aY (fG (bF yK d0e bU_ kd_ χ) (Kn_ (aD aU (aD aP! (Do_ x3_ (bB uW vC x3_ aB))))) dC) (aY (K3! (bB aO bJ (fY (NL:=bT_) (NF:=[]) (ix:=[]) χ a_ c_ (yU_ Ts) Bq.nil a_ χ (dR am_) oS_ I! ci! xR!) (Kz! (dD (Do_ aB (KQ_ aB xY!)))))) (Eh! (K2! bU_ (aD (I4_ (aA 11)) aI)))))))))))))))))))
def a5d(T:g!):oW_ Jc 1 "_law_hang" hi_ (Ih):=
 cD T.R4 f_ (λhr nd=>(aF (jN (NL:=bT_) (NF:=[a0!]) (ix:=[1]) nd χ d! χ a_ c_ (yU_ Tr) ft_ a_ χ (fB bj_) ka! I! (DI_ (eH (bF bV! vD aO! E_ n_))) fy!) (aF x8! (aF (mO OB (KK_ (rP (bF b9y c0a av! o5! n_) (nO (bF bV! vD (J2! (DE_ bk! av!) aB) am_ n_)))) (Jd_ av!)) (aF (eP OB χ (EB_ o5!) aP_ (dI 6) (aG (cK (KK_ (rP (EW! au_) (nO (KV_ (DE_ bk! aP!) (K2! au_ bU!))))) (Jd_ aP!) bP))) (aG (dX w! l! aO_ (aC (bB aO bJ (bB aO bJ (bY bk! cP (cI av!)) (Kz! (K2! E_ bU!))) (bY bk! (cI av!) cP))))))))))
def c0g(T:g!):oW_ Jc 1 "_law_lies" xL_ (Kw):=
 cD T.R5 f_ (I2_ (aF (mO OB (eH yc!) (aF (jN (NL:=bT_) (NF:=[a0!]) (ix:=[1]) nd χ d! χ a_ c_ (yU_ Tq) ft_ a_ χ (fB bj_) ka! I! oR! ka_) (aF (cK (eH (gS (a6t au_))) ds_ bP) (aG (Gk_ (aC ht!)))))) ds_))
def a5c(T:g!):oW_ Jc 2 "_law_move" hi_ (Ig):=
 cD T.R6 f_ (KW_ (cK (oJ (iH (En_ s_ bj_) (gL (oJ (b2l (En_ L! bj_) (a1c (En_ L! eh!))))))) (aG (cK (lF (gB (yL_ c0g (aE l! (aE L! ag!))))) (KC_ a5d (aE l! (aE s_ o8_))) bP)) bP))
def d2n(T:g!):oW_ Jc 3 "_law_do" [cg!,bt_] (Wz):=
 cD T.R7 f_ (λhr nd=>(aF (Gk_ fz_) (aF (Kc_ (aC (dD (Do_ fz! fz!)))) (aG (cK cj_ (aF (C3! (d6r (lH bl_ dY bC_ bj_ χ) (a1g (aC (fN Y_ bR a1_ aU n_))))) (aF (dX w! bj_ aH_ oO_) (aF (dX w! bj_ aH_ (a1h (aE a2! (aE a2! (aE a2! pb_))))) (aG (dL (aQ (a5d T) b_ χ (aE l! (aE aH_ (F2! (aC (c3p (dZ bk!) a1_ aU)) bC_))))))))) (aG (cK cj_ (JU_ hv!) (aG (cK cj_ (JU_ yk!) (aG (cK pd_ (aG (dX w! yk_ bC_ bC_)) (aG (cK pd_ (aF yl! (aF x8! (aF (eP OB χ (kI (DO_ av!)) aP_ (dI 7) (aG (cK (eH (KV_ (J2! (DE_ av! cM!) aB) a1_)) (Jd_ cM!) bP))) (aF (jN (NL:=[aL_]) (NF:=[dn!,dc_]) (ix:=[2,3]) nd χ d! χ a_ c_ pe_ (Bq.cons (j:=2) pf_) a_ χ (kI (DO_ a1_)) (oX_ [aL_,dn!,dc_]) I! ei! (Kv! (aC (K2! (Fr_ am_ (dD aH!)) (Do_ (J2! fz! v!) eU))))) (aG (dX w! bj_ bC_ (aC (bB aO bJ (Fr_ (bY av! cP (cI aP!)) dq!) (bY av! (cI aP!) cP))))))))) (aG (cK pd_ (aF (Kc_ (gQ (NL:=[aL_]) (NF:=[dn!]) (ix:=[2]) χ a_ c_ pe_ oV_ a_ χ (EB_ a1_) (oX_ [aL_,dn!]) I! ei! (Kv! (aC (bB aO bJ (IR_ fz!) (K2! (KQ_ (DE_ fz! aB) v!) aI)))))) (aF yl! (aG (dX w! bj_ bC_ (gQ (NL:=[kp_]) (NF:=[oE!]) (ix:=[9]) χ a_ c_ pe_ (Bq.cons (j:=9) Bq.nil) a_ χ (kI (dR av!)) (oX_ [kp_,oE!]) I! ei! (EU_ (a1f (aE dp_ (aE dp_ (aE (a1i dp_ (a1g (lH ei_ dY dp_ s_ χ))) aN)))))))))) bP)))))))))))))))
def jL(T:g!):oW_ Jc 1 "_law_ordered" bP_ (Co):=
 cD T.Q9 f_ (KY_ (aF (eP OB χ ks! aP_ (dI 2) (aF (KE! (b3l yv!)) (aF (mO OB (KK_ (rP (bF a4w a4x au_ aB n_) (nO (bF (d2i (Ah.units0 hr)) d2r (dD (Do_ yw_ yw_)) (dD (Do_ a1_ a1_)) n_)))) (aG (KE! yw!))) (aG (b5v (b6o a_ au_ am_)))))) (vJ ej_)))
def oI(T:g!):oW_ Jc 2 "_law_undone" bP_ (Fk):=
 cD T.R3 f_ (KZ! (eP OB χ po! aP_ (dI 2) (aG (cK (En_ kv! eh!) (aG (dX w! s_ kv! (aC (fN Y_ bR kd! aU n_)))) bP))))
def c6x(T:g!):oW_ Jc 3 "_law_due" xM_ (Sw):=
 cD T.S6 f_ (λhr nd=>(aF yB_ (aF (jN (NL:=bT_) (NF:=[dc!]) (ix:=[1]) nd χ d! χ a_ c_ (yU_ Ws) ft_ a_ χ ks! yC! I! (DI_ (oJ (iH (eH oQ_) (gL (Ku_ (aC hn_) eh!))))) yC_) (aF pp! (aF (cK (eH (dZ am_)) (aF (eP OB χ po! aP_ (dI 7) (aG (cK (oJ (iH (eH (Fr! yE! aU)) (iH (En_ kv_ a4_) (gL (gB (DZ_ aH_ kv_)))))) (aG (C3! kv_)) bP))) (Gy! hA_)) bP) (aF (eP OB χ (kI (dR bk!)) aP_ (dI 6) (aG (cK (oJ (iH (lF (gB (KP! aH_ (aC aP!)))) (gL (KK_ (qB (bF uY vE av! cV n_) (lP (bF a4w a4x (DE_ aP! aB) (DE_ av! aB) n_))))))) (aG (KE! aP!)) bP))) (Gy! hA_)))))))
def c0f(T:g!):oW_ Jc 1 "_law_next" xM! (Pb):=
 cD T.S3 f_ (I2_ (aF (jN (NL:=bT_) (NF:=[]) (ix:=[]) nd χ d! χ a_ c_ yL! Bq.nil a_ χ ks! oS_ I! ei! ka_) (KJ_ (aC (dD (aD E_ (aD (bB aO bJ aB (K0_ (aD (fY (NL:=bT_) (NF:=[dc!]) (ix:=[1]) χ a_ c_ yL! ft_ a_ χ kc! yC! I! (λ_ _ _ _ _=>d0c oQ_) (EU_ v!)) aI))) (aD (bB aO bJ aB (cG (b6w χ) c9i χ T.T7 c4k (aD (Fr_ au_ oS!) aI))) bU!))))))))
def c0e(T:g!):oW_ Jc 4 "_law_play" bP_ (Pa):=
 cD T.R8 f_ (I2_ (aF (C3! (pM w! (iR aO_ oO_ (iR aO_ hV (iR aO_ hV vK))))) (aF yB_ (aF (eP OB χ po! aP_ hD! (aG (cK (oJ (iH (K1! (aC (DE_ ht! aB)) eh!) (gL (lF (gB (KP! L! (aC (dD (Do_ ht! ht!))))))))) (KC_ d2n pq!) bP))) ej_))))
def vB(T:g!):oW_ Jc 1 "_law_shown_text" fp_ (Gg):=
 cD T.S1 f_ (Kw_ (b2q (gQ (NL:=[kp_]) (NF:=[]) (ix:=[]) χ a_ c_ (yU_ Ke) Bq.nil a_ χ (fB (DZ_ bj_ s_)) (oX_ [kp_]) I! (DI_ (eH (dZ aO!))) ka_)))
def gK(T:g!):oW_ De 1 t.B6 "has" ay! gK!:=
 cM T.W3 T.G8 f_ (Db_ (Jm! fE!))
def qX(T:g!):oW_ Ok 1 "time_and_hand" bd! (Df):=
 dU T.E8 f_ (Df_ xQ_)
def mI(T:g!):oW_ Ok 4 "in_order" cC_ (Cy):=
 dU T.E9 f_ (Df_ (c3o (qX T) (Ah.in1 (Ah.in1 b_)) χ χ T.U0 v!))
def nK(T:g!):oW_ Ye 1 "Row" t.B7 [J_] (Fq t):=
 a0v T.F6 f_ (I3! (aF (gM T.W4 T.X3 l! y0!) (aG (gM T.W4 T.X4 l! y0!))))
def xI(T:g!):oW_ Ye 3 "Outline" t.B6 [J_] (Hd t):=
 a0v T.G7 f_ (I3! (aF (gM T.W3 T.X5 l! (Ii! ci_ ci_)) (aF (gM T.W3 T.X6 l! (Ii! kE! kE!)) (aF (Gl! T.X7) (aF (Gl! T.X8) (aF (Gl! T.X9) (aG (Gl! T.Y0))))))))
def gA(T:g!):oW_ Ok 1 "is_undo_or_redo" bd! (Ao):=
 dU T.K6 f_ (Df_ (zN y2_ (iM y2_)))
def xG(T:g!):oW_ Jc 5 "last_words" cC_ (Fp):=
 cD T.K7 f_ (KZ! (eP OB χ y5! aP_ (dI 2) (aG (cK (eH (dZ (KK! gA))) (aG (dX w! s_ kv! kv!)) bP))))
def nJ(T:g!):oW_ Jc 6 "undone" cC_ (Fo):=
 cD T.K8 f_ (I2_ (aF (Kx_ xG bD!) (aF pn_ (aF (eP OB χ ks! aP_ hD! (aF y6_ (aG (cK (oJ (iH (KT_ (C2! gA oU!)) (gL (cY Y_ kE_ (c1a w! s_ a4_ cK_) aO_ n_)))) (aG (dX w! L! a4_ dr_)) bP)))) fF_))))
def pJ(T:g!):oW_ De 1 t.B7 "holds" ay! (Fj t):=
 cM T.W4 T.F7 f_ (Db_ (a1i y8_ (a1g (Jm! dv!))))
def gJ(T:g!):oW_ De 2 t.B7 "put_behind" [J_,ac!,dh!] (Cf t):=
 cM T.W4 T.F8 f_ (I2_ (aF (C3! (d0k (gB (Kv_ pJ fG_)) L! ci_)) (aF (Ky_ aH_) (aF (dX w! dv! aH_ s_) (aF (GL_ kG! aH_) (aF (GL_ dv! a4_) (aG (dX w! kG! a4_ s_))))))))
def uZ(T:g!):oW_ De 3 t.B6 "put" gK_ (Io t):=
 cM T.W3 T.J0 f_ (I2_ (aF (C3! (d0k (gB za_) L! aO_)) (aF (GL_ pv_ a4_) (aF (KA_ a4_) (aF (GL_ fE! kE!) (aF (GL_ kH! kE!) (aG (GL_ zb_ (c7d pb_ (aC (iD T.U6 χ)))))))))))
def sT(T:g!):oW_ De 1 t.B7 "take_out" ay! (Hu t):=
 cM T.W4 T.F9 f_ (I2_ (aF (C3! (c0z w! kG! s_ cK_)) (aF (C3! (c0z w! dv! s_ cK_)) (aF (dX w! dv! L! aH_) (aG (dX w! kG! aH_ L!))))))
def dN(T:g!):oW_ De 1 t.B6 "has_item" ay! (Bs t):=
 cM T.W3 T.G9 f_ (Db_ (Jm! kH!))
def mK(T:g!):oW_ De 1 t.B6 "is_within" nx! (Ey t):=
 cM T.W3 T.H9 f_ (I2_ (aF (mO OB (KK_ (rP (EW! E_) (nO yc!))) (aG (C3! px!))) (Gy! y8_)))
def nR(T:g!):oW_ De 2 t.B6 "can_move" nA_ (Dw t):=
 cM T.W3 T.J4 f_ (Db_ (a1i py! (a1i za_ (a1g (d2y (Kv_ mK (aE L! ag!)))))))
def lW(T:g!):oW_ De 3 t.B6 "move" gK_ (Ft t):=
 cM T.W3 T.J5 f_ (I3! (aF (E3_ (Kv_ nR (aE s_ fG_))) (aF (dL (cE (sT T) b_ (DZ_ fE! px!) ag!)) (aF (KA_ L!) (aG (GL_ pv_ L!))))))
def qY(T:g!):oW_ De 3 t.B6 "write" xJ_ (Gr t):=
 cM T.W3 T.J6 f_ (I2_ (aF (E3_ (Kv_ dN fG_)) (aF (C3! aH_) (aG (eP OB χ (kI (c3n χ T.T2 bk!)) zk_ (a6l 6 7) (aF (KE! (KQ_ E_ (K2! aP! aI))) (aF (dL (cE (gJ T) b_ (DZ_ kH! L!) (F2! hJ_ hA_))) (aF (dX w! (bL T.W3 T.X9 l!) hJ_ (aC cM!)) (aG (C3! hJ_))))))))))
def vA(T:g!):oW_ De 2 t.B6 "cut" xK! (Ip t):=
 cM T.W3 T.J7 f_ (I2_ (aF (E3_ py!) (aG (eP OB χ (kI (b6p χ T.T9 a1_ (Fr_ a1_ au_))) aP_ (dI 4) (aF (KE! (KQ_ (bY am_ cP bA!) (K2! bk! aI))) (aG (cK (gB (cE (pJ T) b_ zn! (aE hA_ aN))) (aG (dX w! (bL T.W3 T.Y0 l!) hA_ dr_)) bP)))))))
def lZ(T:g!):oW_ De 2 t.B6 "set_number" nE_ (Ep t):=
 cM T.W3 T.J8 f_ (KW_ (cK (gB py!) (aG (dX w! zq_ L! aH_)) bP))
def c6u(T:g!):oW_ Jc 4 "play" nL! (Lw t):=
 cD T.K9 f_ (KW_ (cK cj_ (Dz! uZ (aE s_ yj_)) (aG (cK cj_ (Dz! lW hv!) (aG (cK cj_ (Dz! lW yk!) (aG (cK cj_ (Dz! qY (aE s_ hv!)) (aG (cK cj_ (Dz! vA hv!) (aG (cK cj_ (Dz! lZ hv!) bP))))))))))))
def b4z(T:g!):oW_ Jc 7 "played" cC_ (Kj t):=
 cD T.L4 f_ (I2_ (aF (C3! (mQ (xI T) b_ χ)) (aF (Kx_ nJ bD!) (aF (eP OB χ y5! aP_ hD! (aF y6_ (aG (cK (K1! a4_ L!) (aG (dL (KP_ c6u (aE s_ (F2! a4_ (aC ht!)))))) bP)))) ej_))))
def gH(T:g!):oW_ Jc 5 "all_taken" bg! (Dg t):=
 cD T.L7 f_ (KY_ (aF (eP OB χ (a9i fs_) aP_ (dI 2) (aG (b5w a_ (DZ_ fs_ L!)))) (vJ (KJ_ (aC (C2! mI fu_))))))
def jT(T:g!):oW_ Jc 8 "outline_of" bg! (Ct t):=
 cD T.L8 f_ (I3! (aF (cK (cY uY (Ha.m vE) zw! ci_ n_) (aG (gM T.V9 T.Y4 l! (yL_ b4z (aE kN! aN)))) bP) (Gy! zw!)))
def a4y(T:g!):oW_ Jc 9 "there" aZ_ (Ks t):=
 cD T.N7 f_ (Jw_ gK zx!)
def mJ(T:g!):oW_ De 1 t.B6 "parent_of" ay! (Ex t):=
 cM T.W3 T.J9 f_ (Db_ px!)
def fE(T:g!):oW_ Jc 9 "outline_with_item" aZ_ (Bz t):=
 cD T.N5 f_ (D7_ dN)
def b5a(T:g!):JG! "parent" Mj:=
 cD T.N8 f_ (Jw_ mJ pF_)
def nV(T:g!):oW_ De 1 t.B7 "listed" [J_] (Hc t):=
 cM T.W4 T.G6 f_ (KY_ (aF (Ky_ ci_) (aF (mO OB (eH (EW! am_)) (aF (b5v (rQ a_ am_)) (aG (Ky_ L!)))) (vJ ej_))))
def lB(T:g!):oW_ De 2 t.B6 "children_of" ay! (Eg t):=
 cM T.W3 T.K0 f_ (Db_ (a5q (nV T) b_ (cH Z! bM fE! s_ o!)))
def sP(T:g!):oW_ Jc 9 "outline_with" gY_ (Hq t):=
 cD T.N4 f_ (D7_ gK)
def a5b(T:g!):JG! "children" Ht:=
 cD T.N9 f_ (Kw_ (cE (lB T) b_ (yL_ sP kO_) ag!))
def nQ(T:g!):oW_ De 2 t.B6 "signs_of" cE! (Dv t):=
 cM T.W3 T.K3 f_ (Kw_ (gQ (NL:=[ac!]) (NF:=[J_]) (ix:=[0]) χ a_ c_ (yU_ Gw) pH_ a_ χ (fB (a5q (nV T) b_ zn!)) zG! I! (DI_ (K1! l! (bL T.W3 T.Y0 s_))) fy!))
def oH(T:g!):oW_ De 3 t.B6 "text_of" cE! (Fs t):=
 cM T.W3 T.K4 f_ (KW_ (bE (b2q (gQ (NL:=[ac!]) (NF:=[J_]) (ix:=[0]) χ a_ c_ (yU_ Hf) pH_ a_ χ (fB (Kv_ nQ ag!)) zG! I! ei! (Kv! (DZ_ (bL T.W3 T.X9 s_) l!))))))
def c6s(T:g!):JG! "text" Su:=
 cD T.O0 f_ (Jw_ oH pF_)
def mB(T:g!):oW_ De 1 t.B6 "numbers_of" cE! (Er t):=
 cM T.W3 T.K5 f_ (Db_ (yT a3h c9g χ T.T6 b3r (aE zq_ aN)))
def kZ(T:g!):oW_ Jc 10 "outline_with_number" fe_ (Ef t):=
 cD T.N6 f_ (I3! (aF (cK (KT_ (KK! sB)) eo! bP) (Gy! pF_)))
def b5b(T:g!):oW_ Jc 11 "number" fe_ (Kk t):=
 cD T.O3 f_ (Kw_ (cH Z! bM (cE (mB T) b_ (yL_ kZ (aE l! (aE s_ fG_))) ag!) L! o!))
def b5f(T:g!):oW_ Jc 12 "_law_shows" [bt!,aE_] (Mp t):=
 cD T.S2 f_ (λhr nd=>(aF (Kx_ c0e ag!) (aF (eP OB χ (fB (a5p aO pH eh! (yT (xU χ) c4a χ T.T6 b3r (aE kR! aN)))) zK_ hD! (Jq_ (oJ (b2l (cY b4x (Ha.m c0j) (yL_ a4y kR_) dr_ n_) (a1c (KD! a5b a0u)))))) (aF (eP OB χ (a9i kR!) zK_ hD! (aF (cK (KD! c6s vB) ds_ bP) (aF (cK (cY bV! oG (d2z (aE (a1f (KE_ aH_ (yL_ b5a kR_))) aN)) (gQ (NL:=bT_) (NF:=[a0!]) (ix:=[3]) χ a_ c_ zO! pf_ a_ χ (fB kR!) ka! I! oR! fy!) n_) ds_ bP) (Jq_ (cY bV! oG (gQ (NL:=[aL_]) (NF:=[bt!,a0!]) (ix:=[0,3]) χ a_ c_ zO! (Bq.cons (j:=0) pf_) a_ χ (EB_ aB) (oX_ [aL_,bt!,a0!]) I! ei! (Kv! (yL_ b5b (aE s_ (aE L! bD!))))) (DZ_ kR! aH_) n_))))) (aG (bE (lH d2e (Ha.m c0j) (yL_ a4y (KE_ l! eh!)) dr_ n_)))))))
def sA(T:g!):oW_ Jc 2 "undoable" fd_ (Ho t):=
 cD T.O4 f_ (Kw_ (gQ (NL:=bd!) (NF:=[]) (ix:=[]) χ a_ c_ (yU_ Nt) Bq.nil a_ χ (fB xD!) zS_ I! (λ_ _ _ _ _=>lX (KT_ (C2! gA aH!))) yC_))
def yN(T:g!):oW_ Jc 1 "accept" cF! (Mm t):=
 cD T.N0 f_ (I3! (aF (dL (c7g (b5y w! fs_ fz_ (a1h aN) cK_) s_)) xF_))
def pI(T:g!):oW_ Jc 2 "last_time" fd_ (Gk t):=
 cD T.M9 f_ (I3! (aF (cK (cY Y_ kE_ (Kv_ lC ag!) a2! n_) (Gy! a2!) bP) (KJ_ (cH Z! bM (cH Z! bM (DZ_ fs_ s_) (aC (b0j aB)) o!) a2! o!))))
def a0q(T:g!):oW_ Jc 3 "next_time" bg! (Ib t):=
 cD T.O6 f_ (KW_ (bE (a5p aO pH a2! (c7e χ T.T7 χ (gQ (NL:=[dh!]) (NF:=bg!) (ix:=[0]) χ a_ c_ (yU_ Mb) pH_ a_ χ (a9i fs_) (oX_ [dh!,V!]) I! ei! (Kv! (yL_ pI (aE s_ bD!))))))))
def b2h(T:g!):oW_ Jc 4 "make" [V!,"deed"] (Qf t):=
 cD T.O7 f_ (I2_ (aF (C3! (a1f (aE pP_ (aE (KU! pP_) aN)))) (aF (dL (aQ (yN T) b_ χ (aE l! (aE (a5p aO pH L! (a1f (aE (yL_ a0q bD!) ag!))) aN)))) fF_)))
def c0b(T:g!):oW_ GV 7 "undo" bg! (Sr t):=
 a9e T.O8 f_ (λhr hX nd=>(iQ (b5o (Gk_ zY_)) (iQ (b5o (jN (NL:=[ac!]) (NF:=[d8!]) (ix:=[1]) nd χ d! χ a_ c_ (yU_ Wp) ft_ a_ χ (fB (yL_ sA (KE_ l! pP_))) (oX_ [ac!,d8!]) I! (DI_ (Ku_ l! s_)) fy!)) (iQ (JA_ (K0_ bU!)) (I6_ am_)))))
def c0c(T:g!):oW_ GV 7 "redo" bg! (Ss t):=
 a9e T.O9 f_ (λhr hX nd=>(iQ (b5o (C3! kN!)) (iQ (b5o (Kc_ (yL_ nJ ag!))) (iQ (b5o (jN (NL:=bd!) (NF:=[]) (ix:=[]) nd χ d! χ a_ c_ z2! Bq.nil a_ χ (kI (dR E_)) zS_ I! (DI_ (eH xP_)) (EU_ (aC hn_)))) (iQ (b5o (jN (NL:=[ac!]) (NF:=[V!,d8!]) (ix:=[0,2]) nd χ d! χ a_ c_ z2! xU_ a_ χ (kI (dR au_)) (oX_ [ac!,V!,d8!]) I! (DI_ (oJ (iH (cY Y_ kE_ dp_ (bL T.V9 T.Y1 s_) n_) (gL (cY bl_ dY l! L! χ))))) fy!)) (iQ (JA_ o5!) (I6_ bk!)))))))
def c6w(T:g!):oW_ Jc 8 "_law_try" [bt!,eZ!] (Sv t):=
 cD T.S4 f_ (KZ_ (c0u (ie:=3) (ix:=2) (L:=_) z6! (Ho_ T.W7) (d7b T.X2) (Fh! (d2t (eH (dZ E_)) (KF! c0c bD!) (KF! c0b bD!)))))
def xF(T:g!):oW_ GV 7 "is_undone" gY_ (Ji t):=
 a9e T.O5 f_ (λhr hX _=>(iQ (c0q (Ku_ s_ (yL_ sA z9!)) (jK (vI hX T.W8 hr.hd χ T.W6 (d3a (d7d (d8l hr χ d! a_ (d7d d3t)))))) (b5p bP)) (b5p (Gy! (Jm! zY_)))))
def qZ(T:g!):oW_ Jc 8 "_law_undone_there" [bt!,dc_] (Dz t):=
 cD T.S5 f_ (KZ_ (c0u (ie:=3) (ix:=2) (L:=_) z6! (Ho_ T.W6) (d7b T.X1) (Fh! (KF! xF kO_))))
def b5d(T:g!):oW_ Ok 4 "_law_world" xK_ (Mn):=
 dU T.Q8 f_ (λhr nd=>(aY yu_ (aY Aa_ (aY Aa_ (aY (b0e OB χ (fW χ T.T9 am_) nd χ d! (aY (Dl! (Jf_ (aD Ac! aI))) (aY (Dl! (Ky! cM!)) (aY (c3h a_ dq! Ad!) (aY (c3h a_ dq! (KQ_ Ad! (Ky! (bB nH nI cM! aB)))) (aY (Dl! (b3l (aT (c0h T) b_ χ (aD v! (aD (KQ_ Ac! aB) (aD au_ pS!))) (aJ (aJ au!))))) (aV (rQ a_ (K2! (DE_ oT_ dq!) (aD pS_ (Do_ pS_ bU_))))))))))) (a6u (Eh! au_)))))))
def a0t(T:g!):oW_ Ok 6 "are_parts" np! (Fi t):=
 dU T.E5 f_ (I3! (aY (fG (bF yJ yM fr! yv! n_) fr_ dC) (KJ! (KR! (fY (NL:=Ae_) (NF:=[]) (ix:=[]) χ a_ c_ (yU_ Mc) Bq.nil a_ χ (d4e χ T.U3 d4v E_ v!) (λ_ _ _ _ _=>a8r χ (kG Af! (kG Af! a0k))) (c8d 0 1) ci! (EU_ (c3r (j:=0) (n:=1) (c8f T) b_ fu_ O_)))))))
def lA(T:g!):oW_ Ok 1 "number_of" dl! (Dp):=
 dU T.P2 f_ (I2_ (aY (c3g (aV (Dl! (gF b6y c9j χ T.T3 b0u aH!)))) (Eh! E_)))
def a8w(T:g!):oW_ Ok 2 "part_of" dl! (Ed):=
 dU T.P3 f_ (I3! (aY (fG pU_ (Eh! cV) dC) (aY (fG (oQ (qB pU_ (lP pU_))) (Eh! v!) dC) (aY (fG (bF d2h d2l aU v! χ) (KJ! (KQ! (fY (NL:=["figures"]) (NF:=[]) (ix:=[]) χ a_ c_ (yU_ Pf) Bq.nil a_ χ (dR (b6s v! aU)) (oX_ ["figures"]) I! ci! Ah!))) dC) (Eh! Ag_)))))
def a9c(T:g!):oW_ Ok 3 "deed_of" [e9_] (Ev):=
 dU T.P4 f_ (I2_ (aY (Dl! (c3p (KV_ fs! oS!) aB fr!)) (aV (bK (KQ! (bB aO bJ (bB aO bJ fs! (fY (NL:=dl!) (NF:=[]) (ix:=[]) χ a_ c_ (yU_ Pi) Bq.nil a_ χ (dR (bY v! bA! (cI E_))) Ai_ I! ci! (K1_ a8w))) (bY v! (cI E_) cP)))))))
def c6v(T:g!):oW_ Jc 6 "give" [V!,"have"] (Qg t):=
 cD T.N3 f_ (I2_ (aF (Gk_ (b5z w! χ T.T1 χ T.T2 χ s_)) (KJ_ (gQ (NL:=bd!) (NF:=[nS!]) (ix:=[2]) χ a_ c_ (yU_ Wr) oV_ a_ χ (fB kN!) (oX_ [dg!,nS!]) I! (DI_ (cY a4w pX_ dp_ (kJ w! s_ dp_ a2! cK_) n_)) fy!))))
def a9b(T:g!):oW_ Ok 7 "is_deed" B_ (Iy t):=
 dU T.E6 f_ (I3! (aY (KH! (qB (gS oI_) (lP (Fr! fr! aB)))) (aY (KH! (qB (gS (D7! aO!)) (lP (b6n Ak! χ aO!)))) (aY (fG (gS (dZ (Kw! a0t (Do_ Al! (c8y Ak! χ aO! o!))))) fr_ dC) (Eh! (zN (fN yJ yM aO! aU n_) (iM (fN qU qW (KQ_ hn_ aO!) oM! n_))))))))
def a8z(T:g!):oW_ Jc 2 "is_next" cF! (Ku t):=
 cD T.L9 f_ (Db_ (lH Y_ kE_ fz_ (KU! fz_) n_))
def sS(T:g!):oW_ Ok 8 "is_operation" B_ (Cw t):=
 dU T.E7 f_ (I3! (aY oJ! (KJ! (lR xq_ (lR xo_ (iM (C2! a9b oJ_)))))))
def sR(T:g!):oW_ Ok 1 "line_of_hand" [gT_] (Cv):=
 dU T.P6 f_ (Df_ (c8z v!))
def a8v(T:g!):oW_ Ok 1 "word_of" g0! (Ff):=
 dU T.P0 f_ (I3! (aY (fG (bF uY vE v! cV n_) (Eh! aU) dC) (aY (fG oI_ (KJ! (a3b aU (fY (NL:=[jn!]) (NF:=[]) (ix:=[]) χ a_ c_ (yU_ Pe) Bq.nil a_ χ (c3m v!) (oX_ [jn!]) I! ci! (EU_ An_)))) dC) (Eh! An_))))
def a4z(T:g!):oW_ Ok 2 "shown" bd! (Da):=
 dU T.P1 f_ (I3! (aV (bK (a3b aU (fY (NL:=g0!) (NF:=[]) (ix:=[]) χ a_ c_ (yU_ Tg) Bq.nil a_ χ (c3m (Fr_ fs! aO!)) (Im_ (show(g0!:μ Str).Nodup by decide+kernel)) I! ci! (K1_ a8v))))))
def c6t(T:g!):oW_ Ok 9 "read" [ea!] (Im t):=
 dU T.P5 f_ (I2_ (aY (Dl! (b6r v! aU aB)) (aY (K3! (KQ! (bB aO bJ (fY (NL:=dl!) (NF:=[]) (ix:=[]) χ a_ c_ (yU_ Wq) Bq.nil a_ χ (dR (IR_ E_)) Ai_ I! ci! Ah!) (Kz! (C2! a9c (aD (bY E_ bA! cP) aI)))))) (aY (fG (oQ (qB (gS (dZ (KK! sS))) (lP (bF bV! vD (KK! a4z) v! n_)))) (aV c8q) dC) (Eh! am_)))))
def sQ(T:g!):oW_ Jc 3 "may_be_taken" cF! (Hr t):=
 cD T.P8 f_ (I3! (aF (cK (oJ (b2l (cY a4w pX_ (KC! (bL T.V9 T.Y3 l!)) a2! n_) (a1c (lF (gB (yL_ a8z kO_)))))) eo! bP) (KJ_ (lH a4w pX_ fz_ (yL_ pI z9!) n_))))
def a0r(T:g!):oW_ Jc 10 "load_line" [V!,ea!,"k"] (Ic t):=
 cD T.P9 f_ (I2_ (aF (KE! (b6q E_ (c3q T.U9 χ))) (aF (b5v (c3g (aV (Dl! (aT (c6t T) b_ χ (aD (c3p (dZ au_) a6z E_) aI) O_))))) (aG (cK (KK_ (rP (dZ au_) (nO (dZ a6z)))) eo! (aG (cK (oJ (iH (KT_ au_) (gL (gB (yL_ sQ As!))))) (KC_ yN As!) eo!)))))))
def a5a(T:g!):oW_ Jc 3 "new_hand" [fj!] (Qe t):=
 cD T.P7 f_ (I2_ (aF (eP OB χ (EB_ (iD T.U4 χ)) aP_ (dI 1) (aG (cK (eH (KV_ fs! (Kz! (C2! sR fu_)))) (Gy! (c7f (a9d T) b_ χ ag!)) bP))) eo!))
def b5c(T:g!):oW_ Jc 11 "loaded" [fj!] (Ml t):=
 cD T.Q0 f_ (I2_ (aF (Kx_ a5a bD!) (aF (eP OB χ (d2x g2! T.T2 (aC Al!) 2 a_) zk_ (a6l 2 3) (KC_ a0r (aE s_ (aE aH_ fG_)))) ej_)))
def CC(K:zA!):Sp:=λvs H Q E=>∀(P:yM!) (w:yK!) (t:Bb),t.nd->DK P w K 1 (CM t) vs H Q E
section
variable{P:yM!}{w:yK!}{K:zA!}{mg:Str->Option Value}{h:Heap}
def d5a(ju:mg "law"=ψ ff_)(dl:ET K mg "law" Rt [bL_])(T:Txt P w K mg k7!)(nd:Bb.nd k7!):
  ∃fd:FuncData,(Fi_ "_law_script")/\∀base:Heap,K.In base->DB_ base.Ns->oW_ Ez Ot 13 fa fd [bL_] (CC K):=by
 let#[fd,Y,h2]:=c7o (cr:=[]) (k:=12) (P:=P) (w:=w) (q:=Ze k7!) dl fM ju (λbase ag aj A outer s H E hr=>(aF (JO! (aT (b5d T) b_ χ (aD v! (Do_ aB p8_)) (aJ au!)))
   (Ji! 2 (aC (DE_ oT_ p8_))
   (aF (bA (i:=3) fM.nd χ d! (aC (bB aO bJ (Kz! (Fr_ aU (gF wU b0s χ T.U1 rT bU!))) (fY (NL:=bT_) (NF:=[]) (ix:=[]) χ a_ c_ (yU_ Rt) Bq.nil a_ χ (dR E_) (λ_ _ _ _ _=>aZ (i:=0) xP! χ d!) I! ci! (K1_ a4z)))))
   (Ji! 4 (yL_ b5c kj!)
   (aF (eP OB χ (EB_ p8_) (I1_ 5) (dI 5) (aF (bA (i:=8) fM.nd χ d! (aC (fN Y_ bR (Ky! (aT ho_ b_ χ (Do_ v! (KQ_ aB av!)) au!)) aB n_)))
   (aF (bA (i:=9) fM.nd χ d! (KP_ c6x (aE s_ (F2! L! hJ_))))
   (aF AA_
   (aF (cK (eH (EW! bU_)) (aF (bA (i:=11) fM.nd χ d! (aQ (c0f T) b_ χ (aE s_ (aE L! (aE (aC (dD (aD (aM aH aL kd_ (gF b6z c9k χ T.T3 b0u (aD dq! aI)) o!) (aD bU_ aI)))) aN)))))
   (G2! (aC (bY (aA 11) cP bA!))
   (aG (JO! (Fr_ E_ (Kz! (aA 11))))))) bP)
   (Jq_ (oJ (b2l (KS! c6w hJ_) (a1c (cY bV! oG (KP_ c6v (F2! a4_ (c7c pb_ a2!))) (yL_ jL ag!) n_))))))))))
   (Ji! 6 (yL_ oI ag!)
   (aF (eP OB χ (kI (dR (Fr_ E_ xY_))) (I1_ 7) (dI 7) (G2! (KP! (aC aP!) AE!)
   (aF (cK (En_ kv_ eh!) (aG AA_) bP)
   (Jq_ (KS! qZ AE!)))))
   (KJ_ (yL_ b5f (aE a4_ ag!)))))))))))
 exact#[fd,Y,λbase i g=>(h2 base i g).imp λvs H Q E z=>z P w _ nd]
def b6k{ad:sw!}{k3:Tok}{o0 o1 o2 o3 o4 o5 o6 o7:dk!}{n0 n1 n2 n3 n4 n5 n6 n7 ep:δ}{s0 s1 s2 s3 s4 s5 s6 s7:jI_}(X:K.In h)(G:eo_)
  (ga:Ec! K "PARTS"=EF_ kr!)(gl:DW! ad=ψ {cls:=.type "dict",data:=.dict [#[PyData.keyHash w.params "put",.str "put" k0,.ref r0],#[PyData.keyHash w.params "move",.str "move" k1,.ref r1],#[PyData.keyHash w.params "drop",.str "drop" k2,.ref r2],#[PyData.keyHash w.params "write",.str "write" k3,.ref r3],#[PyData.keyHash w.params "cut",.str "cut" k4,.ref r4],#[PyData.keyHash w.params "set",.str "set" k5,.ref r5],#[PyData.keyHash w.params "undo",.str "undo" k6,.ref r6],#[PyData.keyHash w.params "redo",.str "redo" k7,.ref r7]].toArray ep})(gs:pj_=θ)
  (l0:DW! r0=ψ #[cR_,o0,.seq [.ref B8,.ref B9].toArray n0,s0])
  (l1:DW! r1=ψ #[cR_,o1,.seq [.ref B8,.ref B8,.ref B9].toArray n1,s1])
  (l2:DW! r2=ψ #[cR_,o2,.seq [.ref B8].toArray n2,s2])
  (l3:DW! r3=ψ #[cR_,o3,.seq [.ref B8,.ref C2,.ref C3].toArray n3,s3])
  (l4:DW! r4=ψ #[cR_,o4,.seq [.ref B8,.ref C4,.ref C5].toArray n4,s4])
  (l5:DW! r5=ψ #[cR_,o5,.seq [.ref B8,.ref C6,.ref C7].toArray n5,s5])
  (l6:DW! r6=ψ #[cR_,o6,.seq [.ref C8].toArray n6,s6])
  (l7:DW! r7=ψ #[cR_,o7,.seq [.ref C8].toArray n7,s7])
  :∀X:Cx,X.prog=P->X.w=w->X.K=K->X.mg=mg->Ut X "PARTS" (Ec k7!):=λja e1 e2 e3 e4=>
 c2n (rows:=[("put",k0,r0),("move",k1,r1),("drop",k2,r2),("write",k3,r3),("cut",k4,r4),("set",k5,r5),("undo",k6,r6),("redo",k7,r7)]) (w:=w) e2 e3 e4 (eE X G ga) gs gl (Dt! ["put","move","drop","write","cut","set","undo","redo"]) #[χ,iA (fs:=[B8,B9]) l0 (by show 2<=1000;decide),χ,iA (fs:=[B8,B8,B9]) l1 lf!,χ,iA (fs:=[B8]) l2 qe!,χ,iA (fs:=[B8,C2,C3]) l3 lf!,χ,iA (fs:=[B8,C4,C5]) l4 lf!,χ,iA (fs:=[B8,C6,C7]) l5 lf!,χ,iA (fs:=[C8]) l6 qe!,χ,iA (fs:=[C8]) l7 qe!,ο]
end
end K23
open PySem PySem.W PyProof.Rows
set_option tactic.hygienic true in
set_option maxRecDepth 100000 in
set_option maxHeartbeats 0 in
theorem PySem.Challenge.cw_manyhands_k23_own_undoing_holds : PySem.Challenge.rw_manyhands_k23_own_undoing.Holds := by
 w_on;o_law;k_head;(case hw=>w_witness2)
 k_fill
 exact L2.b7l (l:=PySem.Challenge.rw_manyhands_k23_own_undoing) (n:=63) (k:=13) (x:="_law_script") (CX:=L2.Ot) (sp:=K23.CC) rfl (by decide) rfl #[rfl,by decide,by decide,rfl] (λw h Y=>W.kIn_of Y) ?F (λK H a ns hl _ hS P w t nd=>DL.c7n hS (K23.c1l nd)) (λ_ _ _ _ z=>z)
 case F=>
  intro w mg fa h KX G hmg;refine' K23.d5a hmg ?dl #[?D3,?D4,?D5,?D6,?D7,?D8,?D9,?E1,?E2,?E3,?E4,?E5,?E6,?E7,?E8,?E9,?F6,?F7,?F8,?F9,?G6,?G7,?G8,?G9,?H9,?J0,?J4,?J5,?J6,?J7,?J8,?J9,?K0,?K3,?K4,?K5,?K6,?K7,?K8,?K9,?L4,?L5,?L6,?L7,?L8,?L9,?M9,?N0,?N3,?N4,?N5,?N6,?N7,?N8,?N9,?O0,?O3,?O4,?O5,?O6,?O7,?O8,?O9,?P0,?P1,?P2,?P3,?P4,?P5,?P6,?P7,?P8,?P9,?Q0,?Q1,?Q2,?Q3,?Q4,?Q5,?Q6,?Q7,?Q8,?Q9,?R3,?R4,?R5,?R6,?R7,?R8,?R9,?S1,?S2,?S3,?S4,?S5,?S6,?S7,?S8,?S9,?T0,?T1,?T2,?T3,?T4,?T5,?T6,?T7,?T8,?T9,?U0,?U1,?U2,?U3,?U4,?U5,?U6,?U7,?U8,?U9,?V0,?V1,?V2,?V3,?V4,?V5,?V6,?V7,?V8,?V9,?W3,?W4,?W5,?W6,?W7,?W8,?W9,?X0,?X1,?X2,?X3,?X4,?X5,?X6,?X7,?X8,?X9,?Y0,?Y1,?Y2,?Y3,?Y4,?gp] ?nd
  (case F6=>show"!!")
  (case G7=>show"!!")
  (case L5=>(dsimp only;refine' DL.c0v (DL.eE KX G ?g) ?a ?i ?l ?c ?k ?mm ?kc ?b;(case g=>k_is);(case a=>k_is);(case i=>k_is);(case l=>k_is);(case c=>k_is);(case k=>k_is);(case mm=>k_is);(case kc=>k_is);(case b=>exact λ_ _ _ _ _ _=>DL.lU λ_ _=>rfl)))
  (case D3=>show"!#")
  (case D4=>show"!$")
  (case D5=>show"!#")
  (case D6=>show"!#")
  (case D7=>show"!#")
  (case D8=>show"!#")
  (case D9=>show"!#")
  (case E1=>show"!#")
  (case E2=>show"!#")
  (case E3=>show"!#")
  (case E4=>show"!#")
  (case E5=>show"!$")
  (case E6=>show"!#")
  (case E7=>show"!#")
  (case E8=>show"!#")
  (case E9=>show"!#")
  (case F7=>show"!%")
  (case F8=>show"!&")
  (case F9=>show"!%")
  (case G6=>(dsimp only;refine' DL.dQ ?a ?i ?l ?c ?k ?b;(case a=>k_is);(case i=>k_is);(case l=>k_is);(case c=>k_is);(case k=>k_is);(case b=>exact λ_ _ _ _ _ _=>DL.jR λ_=>rfl)))
  (case G8=>show"!%")
  (case G9=>show"!%")
  (case H9=>show"!&")
  (case J0=>show"!'")
  (case J4=>show"!&")
  (case J5=>show"!'")
  (case J6=>(dsimp only;refine' DL.dQ ?a ?i ?l ?c ?k ?b;(case a=>k_is);(case i=>k_is);(case l=>k_is);(case c=>k_is);(case k=>k_is);(case b=>exact λ_ _ _ _ _ _=>DL.us5 λ_ _ _ _ _=>rfl)))
  (case J7=>show"!'")
  (case J8=>show"!'")
  (case J9=>show"!%")
  (case K0=>show"!%")
  (case K3=>show"!%")
  (case K4=>show"!%")
  (case K5=>show"!%")
  (case K6=>show"!#")
  (case K7=>show"!#")
  (case K8=>show"!#")
  (case K9=>show"!(")
  (case L4=>show"!#")
  (case L6=>show"!%")
  (case L7=>show"!#")
  (case L8=>show"!#")
  (case L9=>show"!$")
  (case M9=>show"!$")
  (case N0=>show"!$")
  (case N3=>show"!$")
  (case N4=>show"!$")
  (case N5=>show"!$")
  (case N6=>show"!(")
  (case N7=>show"!$")
  (case N8=>show"!$")
  (case N9=>show"!$")
  (case O0=>show"!$")
  (case O3=>show"!(")
  (case O4=>show"!$")
  (case O5=>show"!$")
  (case O6=>show"!#")
  (case O7=>show"!$")
  (case O8=>show"!#")
  (case O9=>show"!#")
  (case P0=>show"!#")
  (case P1=>show"!#")
  (case P2=>show"!#")
  (case P3=>show"!#")
  (case P4=>show"!#")
  (case P5=>show"!#")
  (case P6=>show"!#")
  (case P7=>show"!#")
  (case P8=>show"!$")
  (case P9=>show"!(")
  (case Q0=>show"!#")
  (case Q1=>show"!$")
  (case Q2=>show"!$")
  (case Q3=>show"!#")
  (case Q4=>show"!#")
  (case Q5=>show"!$")
  (case Q6=>show"!$")
  (case Q7=>show"!)")
  (case Q8=>show"!(")
  (case Q9=>show"!#")
  (case R3=>show"!#")
  (case R4=>show"!)")
  (case R5=>show"!(")
  (case R6=>show"!)")
  (case R7=>show"!$")
  (case R8=>show"!#")
  (case R9=>show"!$")
  (case S1=>show"!$")
  (case S2=>show"!$")
  (case S3=>show"!(")
  (case S4=>show"!$")
  (case S5=>show"!$")
  (case S6=>show"!(")
  (case S7=>show"!#")
  (case dl=>(refine' DL.c8u KX G ?a ?l ?c ?k ?b;(case a=>k_is);(case l=>k_is);(case c=>k_is);(case k=>k_is);(case b=>exact λ_ _ _ _ _ _=>DL.jR λ_=>rfl)))
  (case S8=>show"!*")
  (case S9=>show"!*")
  (case T0=>show"!*")
  (case T1=>show"!*")
  (case T2=>show"!*")
  (case T3=>show"!*")
  (case T4=>show"!*")
  (case T5=>show"!*")
  (case T6=>show"!*")
  (case T7=>show"!*")
  (case T8=>show"!*")
  (case T9=>show"!*")
  (case U0=>show"!*")
  (case U1=>show"!*")
  (case U2=>show"!*")
  (case U3=>show"!*")
  (case U4=>show"!+")
  (case U5=>show"!+")
  (case U6=>show"!+")
  (case U7=>show"!+")
  (case U8=>show"!+")
  (case U9=>(refine' DL.c8b KX G ?a;(case a=>k_is)))
  (case V0=>show"!,")
  (case V1=>show"!,")
  (case V2=>show"!,")
  (case V3=>show"!,")
  (case V4=>show"!,")
  (case V5=>show"!,")
  (case V6=>show"!,")
  (case V7=>show"!,")
  (case V8=>show"!,")
  (case V9=>show"!-")
  (case W3=>show"!-")
  (case W4=>show"!-")
  (case W5=>show"!,")
  (case W6=>show"!,")
  (case W7=>show"!,")
  (case W8=>show"!.")
  (case W9=>show"!.")
  (case X0=>(dsimp only;refine' XS.d4r ?ta ?tb ?tc;(case ta=>k_is);(case tb=>k_is);(case tc=>k_is)))
  (case X1=>show"!/")
  (case X2=>show"!/")
  (case X3=>show"!0")
  (case X4=>show"!0")
  (case X5=>show"!0")
  (case X6=>show"!0")
  (case X7=>show"!0")
  (case X8=>show"!0")
  (case X9=>show"!0")
  (case Y0=>show"!0")
  (case Y1=>show"!0")
  (case Y2=>show"!0")
  (case Y3=>show"!0")
  (case Y4=>show"!0")
  (case gp=>(refine' K23.b6k KX G ?ga ?gl ?gs ?l0 ?l1 ?l2 ?l3 ?l4 ?l5 ?l6 ?l7;(case ga=>k_is);(case gl=>k_is);(case gs=>decide);(case l0=>k_is);(case l1=>k_is);(case l2=>k_is);(case l3=>k_is);(case l4=>k_is);(case l5=>k_is);(case l6=>k_is);(case l7=>k_is)))
  (case nd=>(delta K23.Bb.nd;decide))
