import PyProof.Rows.All
import Wide.All
import OpenK.AllK
import PySem.Challenge.RW_manyhands_k21_own_texts
set_option linter.all false
set_option genSizeOf false
set_option Elab.async false
set_option maxRecDepth 100000
set_option maxHeartbeats 4000000
def KG:=@PySem.wpAny_bind
def KH:=@Option.bind_eq_some_iff
def KI:=@List.mem_cons_of_mem
def KJ:=@PySem.wpAny_pure
def KL:=@PySem.Heap.get?_push_of_some
def KM:=@List.mem_cons_self
def KN:=@List.not_mem_nil
def KO:=@List.length_append
def KP:=@List.length_map
def KQ:=@if_pos
def KR:=@List.mem_cons
def KS:=@List.mem_append
def KU:=@List.size_toArray
def KW:=@List.length_cons
def KY:=@List.mem_append_right
def KZ:=@Option.map_eq_some_iff
def LA:=@List.map_cons
def LB:=@if_neg
def LC:=@List.mem_map
def LD:=@decide_eq_false
def LF:=@List.mem_singleton
def LG:=@List.map_append
def LH:=@List.getElem?_eq_some_iff
def LJ:=@Nat.le_refl
def LK:=@List.mem_map_of_mem
def LL:=@List.getElem?_eq_getElem
def LM:=@decide_eq_true
def LN:=@List.mem_append_left
def LO:=@List.nodup_cons
def LP:=@PySem.Heap.get?_push_size
def LQ:=@Nat.lt_of_lt_of_le
def LR:=@PySem.Heap.lt_size
def LS:=@Bool.and_eq_true
def LU:=@Bool.false_ne_true
def LV:=@decide_eq_true_eq
def LW:=@List.append_nil
def LX:=@Nat.le_trans
def LY:=@List.nil_append
def LZ:=@List.append_assoc
def MB:=@List.nodup_append
def MC:=@PySem.PassesOwn.never
def MD:=@Ne.symm
def MF:=@List.getElem?_set_ne
def MH:=@List.map_map
def MJ:=@Bool.false_eq_true
def ML:=@Nat.zero_le
def MM:=@PySem.Heap.get?_update_other
def MN:=@Nat.ne_of_lt
def MO:=@List.getElem?_map
def MQ:=@Option.some.inj
def MU:=@Array.getElem?_eq_getElem
def MV:=@List.getElem?_set_self
def MX:=@List.mem_filter
def MY:=@List.filter_eq_self
def MZ:=@List.getElem?_append_right
def NA:=@PySem.wpAny_call_entry
def NB:=@PySem.wpAny_holding
def NC:=@List.map_congr_left
def ND:=@PySem.wpAny_truthy_bool
def NE:=@PySem.wpAny_callSpecial?_slot
def NG:=@PySem.wpAny_field
def NH:=@beq_self_eq_true
def NI:=@List.length_range
def NJ:=@if_false
def NK:=@Nat.lt_of_le_of_lt
def NM:=@List.filter_cons_of_pos
def NN:=@beq_eq_false_iff_ne
def NO:=@PySem.sizeLine_eq
def NP:=@List.length_filter_le
def NQ:=@List.getElem?_eq_none
def NR:=@if_true
def NS:=@List.filter_cons_of_neg
def NT:=@Option.bind_some
def NU:=@List.lookup_cons
def NV:=@List.length_take
def NX:=@List.cons.injEq
def NY:=@Bool.eq_iff_iff
def NZ:=@of_decide_eq_true
def OA:=@PyProof.Rows.callWith_type1
def OB:=@List.nodup_nil
def OC:=@List.all_eq_true
def OD:=@PyProof.Rows.wpS_bind
def OE:=@PySem.wpAny_mono
def OF:=@Array.getElem?_eq_some_iff
def OG:=@List.pairwise_cons
def OH:=@PySem.wpAny_newObj_type
def OI:=@List.length_zip
def OJ:=@List.getElem?_append_left
def OK:=@List.drop_eq_getElem_cons
def OL:=@List.length_drop
def OM:=@Array.length_toList
def ON:=@PySem.F.slot_dict_keyiterator_next
def OO:=@Nat.le_succ
def OP:=@Int.le_refl
def OQ:=@PySem.Heap.get?_update_self
def OT:=@beq_iff_eq
def OU:=@List.getElem_mem
def OV:=@PySem.wpAny_setField_rec
def OX:=@List.take_of_length_le
def OY:=@PySem.Calls.spliced_cons
def OZ:=@PySem.wpAny_rule
def PB:=@List.filter_congr
def PD:=@Nat.lt_irrefl
def PF:=@List.length_singleton
def PH:=@PySem.Heap.SameBut.update
def PJ:=@List.filter_filter
def PK:=@Int.emod_lt_of_pos
def PL:=@PySem.wpAny_seqItems
def PM:=@List.cons_append
def PN:=@decide_eq_false_iff_not
def PP:=@List.getElem?_replicate
def PQ:=@PySem.Obj.data_mapFields
def PR:=@Nat.lt_or_ge
def PU:=@List.flatten_cons
def PV:=@PySem.mem_of_lookup
def PX:=@List.replicate_succ
def PY:=@List.length_set
def PZ:=@List.foldl_cons
def QA:=@List.find?_cons
def QB:=@List.filter_map
def QC:=@Int.emod_nonneg
def QD:=@PySem.F.plain_max_loop
def QE:=@PyProof.Rows.wpS_pure
def QF:=@PySem.wpAny_dictEntries
def QG:=@PySem.wpAny_dictEpoch
def QH:=@Nat.ne_of_gt
def QI:=@Nat.le_of_eq
def QJ:=@List.take_append_drop
def QK:=@List.length_replicate
def QL:=@List.getElem?_toArray
def QM:=@List.filter_append
def QN:=@List.any_cons
def QO:=@Classical.byContradiction
def QP:=@List.take_succ_eq_append_getElem
def QQ:=@List.mem_of_getElem?
def QR:=@PySem.wpAny_Call_Name_kw
def QS:=@PySem.Obj.isFreed_of_fields
def QT:=@List.length_nil
def QU:=@List.flatMap_cons
def QV:=@Int.toNat_natCast
def QW:=@PySem.Heap.size_push
def QX:=@Nat.le_of_lt
def QY:=@List.length_eq_zero_iff
def QZ:=@Bool.not_true
def RA:=@PySem.Calls.evalArgs_plain
def RB:=@Nat.le_add_right
def RC:=@PySem.Calls.spliced_nil
def RD:=@of_decide_eq_false
def RE:=@List.mem_filterMap
def RF:=@PySem.wpAny_typeNameOfWhole_keyiter
def RG:=@List.mem_iff_getElem?
def RH:=@List.map_nil
def RI:=@List.forIn_cons
def RJ:=@Array.getElem?_toList
def RK:=@List.all_cons
def RL:=@PySem.Heap.size_after_update
def RM:=@PySem.Calls.callWith_builtin
def RN:=@PySem.F.slot_NoneType_hash
def RO:=@List.nodup_iff_pairwise_ne
def RP:=@List.mem_of_mem_drop
def RQ:=@List.mem_iff_getElem
def RS:=@PySem.wpAny_passesOwn
def RT:=@PySem.wpAny_notOrdered_dict
def RU:=@PySem.wpAny_letGo
def RX:=@List.pairwise_iff_getElem
def RY:=@List.mem_range
def RZ:=@Nat.lt_succ_self
def SA:=@List.perm_middle
def SC:=@PySem.wpAny_attempt
def SD:=@PySem.Paired.length
def SE:=@List.length_pos_iff
def SF:=@List.filter_sublist
def SG:=@List.filterMap_cons
def SH:=@PySem.F.slot_tuple_iterator_next
def SI:=@PySem.wpAny_setField
def SJ:=@PySem.F.plainAttrs_list
def SK:=@PySem.F.plainAttrs_dict
def SL:=@PyProof.Rows.get?_update_seq
def SM:=@PySem.wpAny_typeNameOf_keyiter
def SN:=@List.range_succ_eq_map
def SO:=@List.filter_eq_nil_iff
def SQ:=@PyProof.Rows.slot_tuple_getitem
def SS:=@or_false
def SU:=@or_congr_right
def SV:=@List.Perm.refl
def SW:=@PySem.F.slot_dict_get
def SX:=@List.pairwise_append
def SY:=@List.mem_of_mem_take
def SZ:=@not_or
def TB:=@List.map_id
def TC:=@PySem.F.slot_enumerate_next
def TD:=@PyProof.Rows.listUpdate_at
def TH:=@PySem.F.slot_enumerate_getattribute
def TJ:=@Nat.zero_add
def TK:=@List.zip_cons_cons
def TL:=@List.length_zipIdx
def TM:=@List.getElem_range
def TN:=@PySem.plainId_quiet
def TQ:=@List.getLast?_eq_none_iff
def TR:=@PySem.wpAny_specialOf
def TU:=@PySem.wpAny_execs_nil
def TV:=@PySem.slot_dict_contains
def TW:=@PySem.F.args_tuple_add_2
def TY:=@Option.isSome_iff_exists
def TZ:=@Nat.lt_succ_of_lt
def UA:=@decide_true
def UB:=@PySem.F.entry_tuple_add
def UC:=@List.pairwise_singleton
def UD:=@PySem.codeAny_mono
def UE:=@PySem.SeqAt.EqAt.int_int
def UF:=@Nat.succ_le_succ
def UG:=@List.filter_cons
def UH:=@List.drop_length
def UI:=@PySem.F.slot_tuple_add
def UJ:=@List.drop_eq_nil_of_le
def UK:=@PySem.wpAny_Call_method
def UL:=@and_congr_right
def UM:=@Bool.not_eq_eq_eq_not
def UN:=@PySem.wpAny_standAt
def UO:=@PySem.wpAny_newList
def UP:=@List.range_eq_range'
def UQ:=@PySem.wpAny_forIn_list
def UR:=@PySem.F.args_dict_keyiterator_next_1
def US:=@List.forIn_nil
def UT:=@Bool.and_false
def UU:=@PyProof.Rows.wpS_forRange
def UV:=@PyProof.Rows.listItems_at
def UW:=@PySem.F.entry_dict_keyiterator_next
def UX:=@PySem.wpAny_typeOf
def UY:=@PySem.wpAny_loadPart'
def UZ:=@PySem.wpAny_isTrue_Compare1
def VA:=@PySem.wpAny_isOneOf_keyiter
def VB:=@PySem.codeAny_builtin
def VC:=@and_true
def VD:=@List.getElem?_drop
def VE:=@PySem.F.slot_zip_next
def VF:=@Bool.true_and
def VG:=@PySem.call_meets
def VH:=@PySem.wpAny_updateSeq_pair
def VI:=@PySem.wpAny_updateDictKeys
def VJ:=@bne_self_eq_false
def VL:=@List.pairwise_map
def VM:=@List.ext_getElem?
def VN:=@Bool.not_eq_true'
def VO:=@PySem.wpAny_tryCatch
def VP:=@PySem.wpAny_newTuple
def VQ:=@PySem.wpAny_loadPart
def VR:=@PySem.wpAny_fieldsOf
def VS:=@decide_false
def VT:=@Nat.lt_trans
def VU:=@Nat.add_zero
def VV:=@Int.le_of_lt
def VW:=@List.zipIdx_cons
def VX:=@PySem.F.slot_dict_setdefault
def VY:=@PySem.wpAny_onRaise
def VZ:=@PySem.strLen_append
def WB:=@PySem.W.kia_one
def WC:=@Nat.min_eq_left
def WD:=@List.range_succ
def WG:=@List.of_mem_zip
set_option hygiene false
section open Lean
def z'N(b:Bool):Nat->Syntax->Syntax
|n+1,.node _ k a=>let a:=a.map (z'N b n);.node .none k (if b&&k==``Parser.Term.basicFun then a.modify 0 λx=>.node .none `null (x.getArgs.map λy=>if y.isOfKind ``Parser.Term.hole then mkIdent `z'x else y) else a)
|_,.atom _ v=>.atom .none v
|_,.ident _ r n p=>.ident .none r n p
|_,x=>x
def z'E:Nat->Syntax->String
|0,_=>""
|n+1,s=>match s with
 |.node _ k a=>a.foldl (λr x=>r++z'E n x) s!"n{a.size} {(toString k).replace "Lean.Parser." "~"}\n"
 |.atom _ v=>s!"a{v}\n"
 |.ident _ _ v _=>s!"i{v}\n"
 |_=>"m\n"
def z'D(f:SourceInfo):Nat->List String->Syntax×List String
|n+1,x::l=>let r:=(x.drop 1).toString;match x.front with
 |'n'=>let c:=(r.takeWhile Char.isDigit).toString;let (a,l):=c.toNat!.fold (λ_ _ (a,l)=>let (y,l):=z'D f n l;(a.push y,l)) (#[],l);(.node f ((r.drop (c.length+1)).toString.replace "~" "Lean.Parser.").toName a,l)
 |'a'=>(.atom f r,l)
 |'i'=>(.ident f r.toRawSubstring r.toName [],l)
 |_=>(.missing,l)
|_,l=>(.missing,l)
def z'K:List (String×String):=[("P","n3 ~Term.paren\nn2 ~Term.hygienicLParen\na(\nn1 hygieneInfo\ni[anonymous]"),("D","n1 ~Tactic.tacticSeq\nn1 ~Tactic.tacticSeq1Indented"),("E","n2 ~Term.dotIdent\na."),("A","n2 ~Term.app"),("B","n1 null"),("C","n0 null"),("F","n2 null"),("G","n3 null"),("H","n1 ~Tactic.rcasesPatMed"),("I","n1 ~Tactic.rcasesPat.one"),("J","n2 ~Tactic.rcasesPatLo"),("K","n1 ~Tactic.optConfig"),("L","n4 ~Term.basicFun"),("M","n1 ~Term.hole\na_"),("N","n2 ~Term.byTactic\naby")]
def z'Z(r:SourceInfo)(f:String):Syntax:=(z'D r 999 (((f.takeWhile (·≠'\r')).toString.splitOn "\n").flatMap λs=>match z'K.lookup s with|some x=>x.splitOn "\n"|_=>[s])).1
local macro_rules|`(z [$x,*])=>do let a:=x.getElems;let mut r:="";for i in [0:a.size/2] do {r:=s!"{r}\r{match a[2*i]!.raw.isStrLit? with|some s=>s|_=>a[2*i]!.raw.getId.toString}\r{z'E 999 (z'N true 999 a[2*i+1]!)}"};return (Syntax.mkStrLit (z'K.foldl (λr p=>r.replace (p.2++"\n") (p.1++"\n")) r)).raw
def z't't:String:=z ["pc!",(by simp[Ef,By,sSeq,Iz,Fd,Fm,Hu,Ms,AL,Ep,Xu,Dy,fT,Jh,Aa,Tc,f2,Pj,Ki,Rm,IP,Ye,Hf,Qj,f1,Ac,Ae,Zr,fC,BQ,El,Al,Gu,Ej,Cw,Ir,Be,Ah,Ff,Jz,Ay,Hl,Fh,Ia,Bc,Aq,Pl,Bn,Il,Wf,Iu,HT.sIx,List.getElem?_cons_zero,List.getElem?_cons_succ]),"!:",(by split at e),"!#",(by refine' DL.aZ KX G ?a ?l ?c ?k ?b;(case a=>k_is);(case l=>k_is);(case c=>k_is);(case k=>k_is);(case b=>exact λ_ _ _ _ _ _=>DL.mV λ_=>rfl)),"!$",(by refine' DL.aZ KX G ?a ?l ?c ?k ?b;(case a=>k_is);(case l=>k_is);(case c=>k_is);(case k=>k_is);(case b=>exact λ_ _ _ _ _ _=>DL.nL λ_ _=>rfl)),"#;",(by exact this),"!*",(by refine' DL.dR KX G ?a;(case a=>k_is)),"#<",(by constructor),"!2",(by obtain⟨ka,b6⟩:=cI ha),"!.",(by dsimp only;(show W.findIn _ _ _=_);k_is),"!1",(by intro x y dx dy d G H Q sub rx ry e k),"#0",(by unfold Ff Jz),"!,",(by dsimp only;refine' DL.eQ KX G ?a;(case a=>k_is)),"!7",(by rename_i h;cases e;subst h),"!D",(by obtain⟨t,rfl⟩:=rx),"!G",(by intro hb s Z H Q I h),"!H",(by rename_i hl;rcases e),"!4",(by obtain⟨q,hq,rfl⟩:=LC.mp hd),"!;",(by obtain⟨x,e1,e⟩:=KH.mp e),"#$",(by by_cases hk:k=d),"!%",(by dsimp only;refine' DL.eF ?a ?i ?l ?c ?k ?b;(case a=>k_is);(case i=>k_is);(case l=>k_is);(case c=>k_is);(case k=>k_is);(case b=>exact λ_ _ _ _ _ _=>DL.nL λ_ _=>rfl)),"!)",(by refine' DL.aZ KX G ?a ?l ?c ?k ?b;(case a=>k_is);(case l=>k_is);(case c=>k_is);(case k=>k_is);(case b=>exact λ_ _ _ _ _ _=>DL.us4 λ_ _ _ _=>rfl)),"!/",(by refine jM K_ ?_;refine jM K_ ?_;refine jM K_ ?_),"!0",(by intro X hP hw hK hc i hb s Z H E I hf st hg;subst hP hw hK;obtain⟨f0,f1,f2,f3,f4,f5⟩:=hf it c_),"!K",(by obtain⟨v,rfl,rv⟩:=gV r),"#-",(by refine anF ax! ?_),"#>",(by simp only[MJ,NJ]),"!(",(by refine' DL.aZ KX G ?a ?l ?c ?k ?b;(case a=>k_is);(case l=>k_is);(case c=>k_is);(case k=>k_is);(case b=>exact λ_ _ _ _ _ _=>DL.us3 λ_ _ _=>rfl)),"!+",(by refine' DL.qA KX G ?a;(case a=>k_is)),"!<",(by obtain⟨o',e1⟩:=I.base.there b o e hx),"!I",(by obtain⟨q0,h0,rfl⟩:=LC.mp hq),"!U",(by subst e;exact I1.fpOk v! (I1.hok.fresh v!)),"!{",(by by_cases c1:i∈W.its),"#%",(by obtain⟨t,rfl⟩:=r),"#2",(by funext b;unfold mup),"#?",(by rw[f5_];exact OP _),"!'",(by dsimp only;refine' DL.eF ?a ?i ?l ?c ?k ?b;(case a=>k_is);(case i=>k_is);(case l=>k_is);(case c=>k_is);(case k=>k_is);(case b=>exact λ_ _ _ _ _ _=>DL.us4 λ_ _ _ _=>rfl)),"!5",(by refine jM ax! ?_;refine jM ax! ?_),"!6",(by intro X hP hw hK hc i hb s Z H E I hf st hg;subst hP hw hK),"!A",(by obtain rfl:=bA rx;obtain rfl:=bA ry;rcases e),"!B",(by obtain⟨sl,e1⟩:=I.base.slot b o e n J hx),"!M",(by obtain⟨ds,e1,e⟩:=KH.mp e;show"!:"),"!T",(by obtain⟨e,n,ne,nf,d⟩:=I.pin p hp),"!W",(by obtain⟨its,r,pl,hz⟩:=I.list hq),"!X",(by obtain⟨a,vs,rfl,qa,ra⟩:=bX rx),"!^",(by obtain⟨p,vs,rfl,q,rr⟩:=bX r),"!d",(by intro vs ds d G H Q sub r e k),"!q",(by rename_i h;rw[LS,LS,LV]at h),"!u",(by subst J;rw[cC]at e;rcases e),"#'",(by obtain⟨ep,ht⟩:=hA.tk),"#.",(by refine KG Y_;dsimp only),"#/",(by obtain⟨a,rfl,q⟩:=hx),"#:",(by unfold fT;rw[this];rfl),"!&",(by dsimp only;refine' DL.eF ?a ?i ?l ?c ?k ?b;(case a=>k_is);(case i=>k_is);(case l=>k_is);(case c=>k_is);(case k=>k_is);(case b=>exact λ_ _ _ _ _ _=>DL.us3 λ_ _ _=>rfl)),"!-",(by dsimp only;refine'⟨?pg,?hd,?po,?sa⟩;(case pg=>k_is);(case hd=>k_is);(case po=>k_is);(case sa=>k_is)),"!3",(by obtain⟨v1,t1,rfl,r1,rr⟩:=bS rr;obtain⟨v2,t2,rfl,r2,rr⟩:=bS rr;obtain rfl:=cR rr),"!?",(by obtain⟨hi,r1⟩:=r1;obtain⟨p,dx,vs,rfl,rfl,hH,hl⟩:=wJ m1 q1 hi),"!J",(by obtain⟨oc,od,kV,b7,pm,an,ah,ct,jy,rfl,lk,cf⟩:=F.ex),"!R",(by unfold An at h;obtain⟨u,r,e1,q,t⟩:=h;subst e1),"!S",(by obtain⟨b,c,e,eq⟩:=wi.sg x hx q (cd!).1;rw[eq]),"!Y",(by unfold Ao at h ⊢;obtain⟨a,vs,e,q,r⟩:=h),"!Z",(by obtain⟨⟨o,z1,z2,z3⟩,z4⟩:=z;exact ln!),"!]",(by obtain⟨a',b',c',e',hm⟩:=w.sgs x hx q hq),"!a",(by intro x y dx dy d M G H Q sub m rx ry e k),"!g",(by obtain⟨f0,f1,f2,f3,f4,f5⟩:=hf it c_),"!k",(by cases yI I n r ru<;>cases yI I n' r' ba),"!o",(by have p:((D.non::cR!)).Perm (n::D.non::S_):=((List.Perm.cons _ SA)).trans (List.Perm.swap _ _ _)),"!r",(by obtain⟨_,vs,Y,h2⟩:=m.cell a _ hM),"!v",(by obtain⟨its,r,pl,hz⟩:=I.tuple hq),"!w",(by obtain rfl:=cH rx;obtain rfl:=cH ry),"!x",(by obtain rfl:=bA r1;obtain rfl:=bA r2),"!~",(by rw[LB c];exact keep rfl rfl w.inv),"#!",(by obtain⟨o,e,c,d⟩:=st;exact ⟨o,e,λv z=>by rw[d]at z;cases z⟩),"##",(by obtain⟨a,vs,rfl,qa,ra⟩:=bW rx),"#&",(by obtain⟨sl,nq⟩:=so.2.2 b o eb),"#)",(by subst J;rw[mup_same]at e;rcases e),"#+",(by obtain⟨cl,af,fd,Y,h2,h3⟩:=F),"#,",(by obtain⟨af,fd,Y,h2,h3,h4⟩:=F),"#1",(by simp only[MJ,NJ,NU,hx]at h ⊢),"#@",(by rw[KW]at b1 hl hn;refine aB!),"#A",(by obtain⟨rfl,rfl|rfl⟩:=d l),"#B",(by obtain⟨od,ag,hl⟩:=I.look),"#C",(by obtain⟨o,es,ep,ho,r⟩:=hm),"#G",(by have c':=RD c;rw[LB c']at st),"#H",(by have c':=NZ c;rw[KQ c']at st),"#I",(by exact hR M O _ _ st hL .refl),"#N",(by rename_i p;obtain rfl:=fY r),"#O",(by obtain⟨q,hq,e⟩:=LC.mp z),"#P",(by obtain⟨hp,g,d,tk,os⟩:=s),"!!",(by dsimp only;refine' DL.b9w (DL.eQ KX G ?g) ?a ?i ?l ?c ?k ?mm ?kc ?b;(case g=>k_is);(case a=>k_is);(case i=>k_is);(case l=>k_is);(case c=>k_is);(case k=>k_is);(case mm=>k_is);(case kc=>k_is);(case b=>exact λ_ _ _ _ _ _=>DL.mV λ_=>rfl)),"!8",(by refine W.item i s _ _ hg st λv h' tk hv ac kk=>?_;obtain⟨t,rfl⟩:=hv;have I1:Inv X hb Z H {s with heap:=h',toks:=tk}:=I.turned iX! f0 f1 f3 f4 f5),"!9",(by refine W.methodCall_KW (pl:=pl) cy_ ht;rintro u s1 ⟨x,H1,I1,rx,a,dx,fs,ex,ea,l,q⟩;subst ex;obtain rfl:u=Value.ref a:=rx;refine oG I1 ea c hm l ?_),"!=",(by refine dM da! ?_;rintro v s1 ⟨x,H1,I1,r1,q1⟩;refine dM gk_ ?_;rintro u s2 ⟨y,H2,I2,r2,q2⟩;exact hf v u s2 x y H2 I2 r1 r2 q2),"!>",(by obtain⟨ob,eo,ec,ed⟩:=id g1;obtain⟨ot,zo,_,nt,zp⟩:=g2;unfold Builtin.SmallTypes.nextOf;refine KG (NE g1.typeIs SH (NA SH g1.typeIs F.entry_tuple_iterator_next ?_ (F.args_tuple_iterator_next_1 _)));show wpAny _ _ (field (.ref jt) 0>>=_) _ _ s),"!@",(by dsimp only[(show Builtin.Dict_items.ownsTuple "dict_keyiterator"=false by decide),Bool.false_eq_true,if_false];show wpAny G! A.in1 (if(Value.ref d==dL_)=true then _ else _) _ _ s;rw[(LB (λz:(Value.ref d==Value.none)=true=>LU z))];refine KG (KJ (KG (QF vc vd ?_)));rw[bB_]),"!C",(by obtain⟨l,e2,e⟩:=KH.mp e;obtain⟨h,e3,e⟩:=KH.mp e;refine ⟨G,ρ,x,er,e1,λv G1 H1 s1 r1=>⟨G1,ρ,l,cP!,e2,λG2 H2 s2=>⟨G2,ρ,h,er.grow cP_,e3,λG3 H3 s3=>?_⟩⟩⟩;have r3:=(ft!).mono s3.g;have s4:=s1.trans ft_),"!E",(by unfold Builtin.SmallTypes.ownedTupleIsFree;refine KG (NG gz rfl rfl Y_);dsimp only[if_true];refine KG fI_;refine KG fI!),"!F",(by obtain⟨us,rv,p1,_⟩:=I.list qa;obtain⟨us',a8,p2,_⟩:=I.list qb;have Y:=aL rd;have h2:=aL re;have h3:=eW!),"!L",(by rintro⟨⟨⟩,ac⟩ s' ⟨rfl,a1,a2,a3⟩;dsimp only;obtain⟨L',b1,b2,b3⟩:=sC jq hk qo a1 a3),"!N",(by intro hb s Z H x y v u Q I rx ry h;obtain⟨i,j,rfl,rfl,q⟩:=h;show"!D";obtain⟨t',rfl⟩:=ry),"!O",(by refine o5_;rw[MO]at hd;obtain⟨m,hj,rfl⟩:=KZ.mp hd;obtain⟨hl,he⟩:=LH.mp hj;rw[TM]at he),"!P",(by obtain⟨i,hi,q⟩:=nG J;obtain⟨p,ds,vs,Y,h2,h3,h4,h5⟩:=er.own_ i hi;rw[q]at h2;cases h2),"!Q",(by show"!2";obtain⟨kb,ny⟩:=cI J;obtain⟨kc,XC⟩:=uH cy;refine jM K_ ?_;refine ifT (bF.trans (congrArg some a2a)) ?_),"!V",(by dsimp only[sliceBounds,HT.sIx,Option.getD_none,jH_,if_true];by_cases h:i<0),"![",(by refine tE oN! ?_;have:=hR k y6 y7;rw[(show p+m - k=0 by omega),List.take_zero,(show σ++Uu (runsF [] [])=σ from LW _)]at this;exact this),"!_",(by have hT:=ax.typeIs;obtain⟨o,ho,hc,hd⟩:=id ax;obtain⟨od,vc,_,vd⟩:=id D),"!`",(by refine KG (NG eo ed (x:=.ref tt) rfl ?_);rw[(LB (show¬((Value.ref tt==Value.none)=true)from LU))];refine KG (NG eo ed rfl ?_);refine KG (PL zo zp ?_);simp only[QV,g3]),"!b",(by refine KG (OE fin (?_) λ_ _ z=>z);rintro old s' ⟨e1,o,q1,q2,q3⟩;subst q1 q2;exact KG (RU (KJ ⟨_,rfl,q3⟩))),"!c",(by obtain⟨iz,H3,I3,n3⟩:=q3;obtain⟨m',hm,w3⟩:=hN iz H3 n3;exact ⟨m',hm,iz,H3,I3,w3⟩),"!e",(by dsimp only[Bool.not_false,if_true];exact KG (yP (KJ k6_))),"!f",(by obtain⟨i,hi⟩:=RG.mp hv;obtain⟨d,_,p⟩:=gH z hi;exact⟨_,_,p⟩),"!h",(by obtain rfl:=eP ry;rcases e;refine j!;rw[yJ rx];exact k _ G H aM_ Ao.bl),"!i",(by have:X.env.scope.names.lookup x=some .free:=hk;rw[k]at this;cases this),"!j",(by have hf:=a6c x k;have hl:∀i∈plc es dA!,i<es.size:=λi hi=>b8l hi),"!l",(by obtain⟨e,he,hv⟩:=hi.2 i σ[i] (by rw[MU Y]);rw[he,RJ,MU Y,hv];rfl),"!m",(by obtain rfl:=cR rr;obtain⟨l,vs,rfl,sq,rx⟩:=bW rv;rw[kB rx e2]at sq),"!n",(by show"!;";obtain⟨q,e2,e⟩:=KH.mp e;obtain⟨ks',e3,rfl⟩:=KZ.mp e),"!p",(by rw[NI]at hl;refine o6!;obtain⟨z1,z2⟩:=hy;subst z1 z2;exact ⟨G',Bz.refl g2,Ao.int⟩),"!s",(by obtain⟨_,_,_,_,o,_,_,e,ex,_⟩:=I.hok p _ hk;exact⟨o,e,ex⟩),"!t",(by show (wpAny _ _ (field hD_ 2>>=_) _ _ _);refine KG fI!;refine KG fI!;refine KG (PL gI rfl ?_);refine KG ?_),"!y",(by obtain⟨cl,b9⟩:=b3g λp hp hf=>I.ok.has p.1 (jh p hp hf)),"!z",(by have e:=aS!;dsimp only[Array.length_toList]at e;omega),"!|",(by exact a2m a3 hn a1 λh2 b1 b2 b3 b4=>k h2 T iz_ b1 (a2.skip b2 (by intro x hx;simp at hx;subst hx;exact .inr (ZS a0))) b3),"!}",(by show"!2";refine jM K_ ?_;refine jM K_ ?_;refine ifT (bF.trans (congrArg some a2b)) ?_),"#(",(by have rs:∀j∈rest,j<es.size:=λj hj=>h2 j (KI _ hj)),"#*",(by subst hj;rw[hi]at e1;rcases e1;rw[MV YC]at e2;cases e2),"#3",(by unfold pyNext;refine KG (SC (NE hT ON (NA ON hT UW ?_ (UR _))));refine KG (KJ (KG gz_))),"#4",(by simp only[Op.nm,D.tup.injEq,NX,D.int.injEq,VC]at eo),"#5",(by simp only[D.tup.injEq,NX,D.int.injEq,VC]at e2;omega),"#6",(by rw[KU,KU,<-h3,<-h4,<-Y,<-h2];by_cases hl:f_=ao!),"#7",(by rintro a pn oe c hp hc hb s Z H Q I ⟨e1,v,e2,q⟩),"#8",(by obtain⟨its,rv,⟨o,Y,h2,n,h3⟩,_⟩:=I.tuple kF_),"#9",(by have ne:∀{b u},H b=some u->b≠p:=λe=>cO e hp),"#=",(by have e1:=hq.2 b J λz=>ho cM_;have e2:=l8 b kH!),"#D",(by have:=du.cl h' hh;rw[<-z,d8]at this;rcases this),"#E",(by have rf:=hy.1;have hy2:=hy.2;have v9:=a0u (by unfold Ge at rf;rw[LS]at rf;exact rf.2) a!),"#F",(by have n1:=nd.1;have n2:=nd.2;rw[<-PM,KS,SZ]at n1),"#J",(by simp only[Op.nm,D.tup.injEq,NX,D.int.injEq]at e),"#K",(by rw[pW l6_,pW l7!];exact b0z (mm p hp) (mm q aj)),"#L",(by rename_i h1 ep hM;obtain⟨kk,e1,e2⟩:=KH.mp e),"#M",(by rcases e;refine ⟨G,ρ,_,er,?_,k⟩;show((Option.some ds)).bind _=_;simp[hl]),"#Q",(by obtain⟨ad,h1,vs,mh,Y2,zm,zn,hn,hs⟩:=hd.ex),"#R",(by obtain rfl:=bA ry;obtain⟨v,Y,h2⟩:=oZ ra e)]
def z'0:String:=z [a!,(by omega),b!,Or.inl χ,c!,hr.mono a_,d!,μ D,e!,aP χ,g!,(by decide+kernel),h!,#[χ,χ,χ,gB_,χ,gB_,gB_],i!,(by omega),j!,#[χ,?_],k!,λ_ _=>χ,l!,aC C!,n!,model prog w,o!,μ δ,p!,Ag->ι D,q!,μ av!,r!,fC bi!,u!,.fn p,v!,LJ _,w!,μ eI!,x!,.bl τ,y!,ψ dq_,z!,"hand",A!,S.length,B!,s1.heap.objs.size,C!,aA 0,D!,(x==mD_)=θ,E!,s.length,F!,(·.2),G!,model P w,H!,c+1,I!,.bl θ,J!,Aa 5,K!,l.length,L!,"self",M!,aC Z_,N!,ψ u!,O!,hs S 6,P!,.int 0,Q!,Aa 3,R!,ψ x0,S!,Aa 4,T!,(by decide),U!,Str->Em! Value,V!,.lst xs,W!,λ_=>ψ τ,X!,DE X own a fa,Y!,D->Mh->ν,Z!,.nx ρ,Aa!,λd o' hd e'=>kp d o' (λhm=>?_) e',Ab!,bH cn! oB L_ Z_ m_,Ac!,∀x∈W.its,s∉Ej_ a5!,Ad!,p.mem_iff.mp hq,Ae!,(bo!).sl i θ l,Af!,λc o _ _ _ e _=>e,Ag!,λc o hc e n=>?_,Ah!,(λc o u e=>by rw[pN_];exact e),Ai!,λc ps e=>F2_ pN_ e,Aj!,(λd q=>by rw[pO!];exact q),Ak!,setT W i (U++(pO_).map eq!++v),Al!,X.mg "zip"=υ,Am!,starEach aq! X.env=cA!::CG_ [b],An!,(backTo pos (CG_ [b])).any b_=θ,Ao!,.int (k0:δ),Ap!,hI.inj _ _ l hi z,Aq!,(D.tup kY_,D.str ak!,τ),Ar!,(by rw[hl,LG];exact LN _ z),As!,if i∈W.its then setT W i (wrT b hL_ bF_)else W,At!,Cd.cons (j:=2) Cd.nil,Au!,(by rw[<-e1];exact e3),Av!,∀q,Iw V' q->Iw V q\/N q,Ay!,W.nsIn KF mainGlobals x=ψ dV_,Az!,bB (show(Ax_:μ Str).Nodup by decide+kernel) χ b!,AA!,W.codeIn KF ah x=τ,AB!,Aa 0 ρ=ψ kI_,AC!,m1 _ (h.lv (q:=.ob) ο),AD!,(by rw[z]at l;exact l),AE!,rows.map (BF w),AF!,(Sum.inr r.1:L2.Key)=I3_ y,AG!,m1 _ (h.lv l),AH!,cJ (iN T) c! l! (aE ep_ aO),AI!,fs.map V.ref,AJ!,fs.map Value.ref,AK!,(show v=.none from hx),AL!,TR hT RN.lookup ?_,AM!,[dy!,bE!,ψ a,bI_,b3_],AN!,(by rw[a4d];let:=r1.2;omega),AO!,s.heap.get? d=ψ o,AP!,dictWalkPlain d u dA! es k5_,AQ!,Fi W.rows pl,AR!,(((({Jy W with pr:=λa p=>((bo!).pr a p/\a≠n)\/(a=n/\p=pl)}:Ix).sl pl τ (Lx n b AQ!)).nw n τ).nw n θ).nn n fP!,AS!,λ_=>Iff.rfl,AT!,ks[i]?=ψ k',AU!,ax=υ/\rest.find? dz!=Lg ks k,AV!,(by rw[<-e];exact q1),AW!,aQ aK aW L_ (L8! aB bp_),AX!,ad (.row p0 τ),AY!,(bo!).sl p0 τ (Fi hT_ p0),AZ!,qB hu x hk ho hd ?_,A0!,aE cp! (aE a8! aO),A1!,ds.getD j .non,A2!,tV ho hc hd (ES! Zk),A3!,aN aH aM (rX a_ A2_ k!) aB k!,A4!,Builtin.Dict.takeOut a u,A5!,dY (Cc! lZ co_),A6!,(show(hM!:μ Str).Nodup by decide+kernel),A7!,(((n::r).map D.int).length:δ),A8!,aT χ (Kl_ (iH hp)) e,A9!,cG M_ bL le_ q_ k!,Ba!,λ_ _ _ _ _=>bB (i:=0) (o7! [ae_,L!]) χ b!,Bb!,MR P w KF M1 G1 H1,Bc!,pP v_ (iP cm! cm! vN),Bd!,[dB_,a,b,b3!],Be!,μ D->Mh->ν,Bf!,fI ak_ cB pz_ aY m_,Bg!,#[by rintro hb s Z H Q I ⟨G,ρ,M,R,st,e,k⟩;exact LE_ h qj_],Bh!,∀Z G H Q ρ M R,Kl! G->IU! ft->(∀d M' G' H',R d M'->XM M G H M' G' H'->MR X.prog X.w X.K M' G' H'->Q d H')->t Z H Q,Bi!,#[_,_,χ,b1,b2,b3,b4],Bj!,aC (fI mX nE L_ dG m_),Bk!,#[_,χ,k _ M' G' H' r' x' m'],Bl!,k _ M1 G1 H1 r1 x1 m1,Bm!,k _ M1 _ G1 H1 r1 x1 m1 Ao.bl,Bn!,x1.trans (.ext qo!) m1,Bo!,bN T.U6 T.V8 l!,Bp!,#[Y,h2.mono (Ax.refl G) (bC J)],Bq!,.int (E!:δ),Br!,(a2c χ).trans (by rw[hk]),Bs!,.dct qe_ (Hj h1 d ep),Bt!,#[[],χ,χ],Bu!,[υ,ψ dV!,ψ qr_],Bv!,letters.cps.toList.length,Bw!,#[o,χ,h ho],Bx!,Builtin.Dict.keyAndDefault,By!,sSeq Zo (sSeq dq14 dq15),Bz!,fI ak_ cB C! aY m_,BB!,Iu its eu_ υ++Iu its υ eu_,BC!,Iu its υ eu_,BD!,Et KF H p ys\/Fj! p ys,BE!,sQ a! I m sub e #[_,r,rx] hk λs' I'=>KJ #[.bl _,H,I',χ,q],BF!,pM hX (pG T) c! χ (aE l! (aE q_ b4_)),BG!,if f_<=1000 then _ else _,BH!,#[λe=>?_,λe=>?_],BI!,#[λa b s e=>?_,λb=>BH!],BJ!,[cq!,.int base,lj!,.int most],BK!,cG M_ bL q_ k4! k!,BL!,aT (g:=Uq θ) (x:=et_) χ χ (in2 k "cut" "set"),BM!,.Attribute o "get" a9,BN!,#[yv,q2,ry],BO!,J.run I2 BN_ r2 λz M3 zv G3 H3 jv s3 r3 x3 m3 q3 I3 rz=>RC ?_,BP!,#[yv,q2.mono x3.g,ry],BQ!,aE l! (aE M! (G8! au! a8!)),BR!,(by delta Ep;rw[qC χ (NH _)];rfl),BS!,MP X own pos keys na fp,BT!,mup M c (.dct (σ++h1) (n+aD!)),BU!,Zu K mg "law" Lr [a0!],BV!,fin _ (EF_ (xv g! g! g! g!)),BW!,a∈W.its/\Hi W b/\¬Fe! Wn a b,BX!,wrT b c3_ ah!,BY!,(pO_).map eq!,BZ!,aS (a4o T) c! χ b4_,B0!,pre++[.tup ct!],B1!,Ij W h7! rows',B2!,aC (It! lA!),B3!,setT W a BX!,B4!,CH X.prog X.w X.K M0 G0 F0 own df f,B5!,dX (eK (aA 11)),B6!,aE h3_ (aE (aC cV_) aO),B7!,aN aH aM (aA 13) aB k!,B8!,ft ρ=ψ τ,B9!,ft ρ=ψ θ,Ca!,h2.ok M0 G0 F0,Cb!,#[G,ρ,M,_,sr,e,λρ' M' G' ae H' r fm=>#[G',ρ',M',R,fm,r,k1,k2],λd M' v G' H' r x m q=>HI! k2 r x m q],Ce!,.obj C (Hc x y fs),Cf!,k="undo"\/k="redo",Cg!,(Cf_).grow x2 m2,Ch!,k="undo"\/k="redo",Ci!,.tup (Jt_ o.tm o.h),Cj!,.write m3 x3.sub hM,Ck!,λd M' v G' H' r x m q=>?_,Cl!,Ts X own own body q1,Cm!,Str.ofString "undo"==EC! "undo",Cn!,(show Cm!=τ by decide+kernel),Co!,Jx .str os A,Cp!,.nx [ap_,N!,y'],Cq!,((GV_ by!).bind λx=>Ah x bi!)=_,Cr!,(by delta Jx;rw[hu];exact Y),Cs!,λo ho=>hd o (bn.mem_iff.mp ho),Ct!,λM' ep y Y h2=>hR p M' ep hp Y λb J=>HS_ b,Cu!,(λx=>by simp),Cv!,Zx X.prog X.w X.K [] ft,Cw!,∀cl C au bo fp,ME ch_ [] gc fe,Cx!,#[se.or.cap NL.length ix hix,m1,aA_],Cy!,cX ha.ok fM hs,Cz!,λds M1 vs G1 H1 r1 x1 m1 q1=>?_,CA!,Ba C m ps.length g fo fs,CB!,λds M2 us G2 H2 r2 x2 m2 q2=>?_,CC!,#[by rw[KW,<-aL q2];exact r2.1,G2,.fn p::ds,M2,R,x2.sub,m2,Gt! Ao.fn q2,r2.2,λd M3 v G3 H3 r3 x3 m3 q3=>k d M3 v G3 H3 r3 qx_ m3 q3],CD!,Wl X.prog X.w X.K X.mg X.base k x C ps g,CE!,(d==sysModules)=θ,CI!,(show¬((i:Int)<0)from by omega),CJ!,[(root,.fn r1),(Cq,.fn r2)],CK!,∀h',Jq! it s.heap->Q υ {s with heap:=h'},CL!,x=root\/x=Cq,CM!,.fol Cq τ,CN!,.pre Cq τ,CO!,s0.heap.objs.size,CP!,(∃old,IsEnum h e it i old),CQ!,[.int qX_,.str #[[q.1].toArray]],CR!,X.mg "enumerate"=υ,CS!,(nA_).any b_=θ,CT!,Nat.succ_ne_self _,CU!,(by show 1<100;decide),CV!,λi h ⟨o,ho,_,hd⟩=>#[o,ho,λv z=>by rw[hd]at z;cases z],CW!,IntsAre am.toList ns,CX!,(∀x∈os,x.nm∉pre),CY!,h5 q (EQ! qz) xw,CZ!,λy hy z=>?_,C0!,(ops.map Op.nm).Nodup,C1!,[lG!,ap!,b8!,υ,υ],C3!,(by rw[e3,e1];exact J),C4!,Ab f1 (Ab f2 Ad),C5!,.Call (Fs_ bn! "extend") [e] [] ai,C6!,ho _ (hi _ ?_),C7!,0<=k/\k<=1000/\f_*k.toNat<=1000,C8!,mup M p (K6! i),C9!,b1j b9g (qZ ha.ok) J.ok,Da!,#[G1,ρ,M1,_,(f0_).grow (.ext xj) q4!,r1.2,λy M2 v G2 H2 r2 x2 m2 q2=>?_],Db!,ψ (.lst (l.map Op.v)),Dc!,mirror xs i j (gt! / 2),Dd!,getElem?_pos _ k c9,De!,(show x - 1<a0.size by omega),Df!,BEq.comm (a:=EC! "redo"),Dg!,Hj σ u.2 ep,Dh!,h m st b h3 h4 u,Di!,W.its.map λi=>(i,.lst lU_),Dj!,(∀i,i<lo->Fx_ i<=Fx_ k),Dk!,.inr (.inr #[i,hi,χ]),Dl!,pendingOf ac,Dm!,∀q∈rs,Sd q.1/\Sd q.2,Dn!,Be [.lst eA_]=_,Do!,(f1 Be gM_ b8_).bind (λz=>Pj ii_ z)=_,Dp!,[R!,A_,cW!,b4!,io_,ip!,y],Dq!,(∀x∈xs,∀(R:β->Shared->ν),(∀y,F x y->R y s)->E9! (f x) R E s),Dr!,(by rw[cond,LD z]),Ds!,λv hv R hR=>?_,Dt!,[ad_,A_,cW!,b4!,υ,υ,υ],Du!,ys.toArray.filterMap id,Dv!,!decide (q.1=i),Dw!,(Ht_ "int"::r),Dx!,.inl #[χ,λj hj=>by omega],Dy!,.lst ((eA_).drop a),Dz!,k3 lZ! in! lU!,DA!,l.filter λx=>Jv x p,DB!,λq=>decide f7!,DC!,λ_ K hK=>?_,DD!,#[[a],[(Str.ofString "key",v)]],DE!,(c,HJ_ ku.toArray n),DF!,Cc (Tp "put"),DG!,Cc (Tp "drop"),DH!,Ap (Ee (Cc (Tp "write")) Td) Rq (Ap (Ee (Cc (Tp "cut")) Td) Xy Bi),DI!,Ee (Cc ft) fu,DJ!,b=θ->IU! q2,DK!,∀H':Hp,H' c=υ->Fc! H' c,DL!,(by rw[kG,KQ ha]),DM!,ksk_tail a θ e1 bb_ st,DN!,u.map λi=>eD_,DO!,(fK ht hk).trans DL!,DP!,List.map_fst_zip rq_,DQ!,λv hv=>?_,DR!,λx y F Q hx hy hq=>?_,DS!,(by rw[bi];omega),DT!,#[a1,a2,a3],DU!,s.heap.get? a=ψ (HJ_ us.toArray n),DV!,#[_,SL ha λ_=>#[]],DW!,TD ha χ ?_ l1! co!,DX!,[ad_,R!,ψ fU_,l8!,o4,o5,o6,o7,o8,o9],DY!,MM _ _ (λz=>J (by rw[z];exact LF.mpr χ)),DZ!,λK hK=>?_,D0!,wi.sg a ha q hq,D1!,ψ (.tup [dB_,a0,b,tx]),D2!,s.heap.IsList l ej_,D3!,#[_,og,χ],D4!,[ad_,R!,l9!,cY_,y4,ψ rp!,ψ P!,υ,υ,υ],D5!,(JG! dJ_).update s1.heap.objs.size (Obj.mapSeq (·++bc!)),D6!,(D5!).push D5_,D7!,ItemsOf qW! σ ao!,D8!,p.mem_iff.mpr hq,D9!,Paired.mapP ok.1 λ_ _ z=>z.1,Ea!,(λb J=>by rw[l3_];exact gg),Eb!,a∈W.its\/a=root,Ec!,seqEpoch_at oz χ ?_,Ed!,Hj cu_ au_ e1,Ee!,Jr iu! (Mp h3 p.1.1)<Jr iu! (Mp h3 q.1.1),Ef!,Hj ma_ au_ e2,Aw!,Ed K mg ζ,Ax!,X.env.cells.lookup ζ,BA!,ψ (.int ζ),Cc!,aS (ζ T) c! χ η,Cd!,.fields [.int lo t,.int hi u,.int ζ v].toArray,CF!,ζ P w KF,CG!,An KF ζ ds vs,CH!,ψ (.bl (decide ζ)),C2!,ψ (.bl ζ),Eg!,Pu ζ ρ M,Eh!,ζ t η yy a ta wa,Ei!,W.kitOne [] ζ,Ej!,Str.ofString ζ==Str.ofString η,Ek!,DE X own ζ,El!,if(ζ).length<=big then Option.map D.lst η else υ,Em!,ι ζ,En!,List.replicate ζ η,Eo!,mup_ne ζ,Ep!,(by simpa using ζ),Eq!,λhr _=>(bD (bY ζ)),Er!,swapsWith ζ η pos.line X.env,Es!,h'.get? ζ,Et!,lB ζ xs ys A.in1 vs ws us us' n n' fE! rr cr rv a8,Eu!,mR ζ n n' a! r r' ru ba a5_,Ev!,(by rw[<-ζ];exact η),Ew!,ξ χ ζ,Ex!,concat_meets jr! jr_ noFill_tuple_add seq_tuple_add UI UB (TW ζ _),Ey!,s.cps.toList.zipIdx.map ζ,Ez!,#[λi H=>∃xs x,ζ K H a xs/\xs[i]?=ψ x,λi H x H'=>H'=H/\∀xs,ζ K H a xs->xs[i]?=ψ x,λi H=>∃xs,ζ K H a xs/\h_<=i],EA!,ζ η s.heap.objs.size,EB!,ψ (.tup ζ),EC!,Str.ofString ζ,ED!,SeqAt.EqAt A s u ζ,EE!,Bs ζ 2 (η t),EF!,XM M G H ζ,EG!,ζ mainGlobals mg,EH!,Am 2 (ζ t) η,EI!,R (.nx ζ),EJ!,ζ hb s Z H,EK!,aU (ζ T) c! χ η aN_,EL!,ψ (ζ==η),EM!,cG M_ bL ζ η k!,EN!,W.findIn ζ ae!,EO!,yM PySem.F.plainAttrs_str PySem.F.slot_str_join PySem.F.type_str_join b1z ζ Cy! jb jc jd hs je,EP!,(assignEach ζ X.env).map F!,EQ!,(by rw[ζ];simp),ER!,Af ζ η ρ M R,ES!,(by simp[ζ]),ET!,ζ .local,EU!,wpS n! A E s ζ Q st,EV!,Ab (wl ζ) Ad,EW!,hR M' O _ _ ζ d7 hF,EX!,fR nd χ b! ζ,EY!,Ao KF ζ d v,EZ!,cJ (ζ T) c! l! η,E0!,s.heap.update ζ η,E1!,Ao X.K ζ d v,E2!,h'.IsTupleIter ζ,E3!,Cn 1 [] ζ t_ W! η,E4!,ζ X own bt,E5!,eO (good (c:=ζ) (aT (x:=.int ((p0:Int)+η*(mo:δ))) (y:=.int fz!) le! χ χ) eg) ?_,E6!,Paired ζ,E7!,EP X hb Z Q ζ,E8!,iA (vS av0 ax1 ax2 ax3 dE_ ζ),E9!,wpAny n! A ζ,Fa!,eX ζ m sub e,Fb!,ζ s.heap,Fc!,Fg X hb ζ,Fd!,#[by rintro ζ hb s Z H Q I ⟨G,ρ,M,R,st,e,k⟩;exact h ζ hb s Z H Q I qj_],Fe!,ζ W.rows,Ff!,HT.sIx xs.length ζ,Fg!,PE X ζ (Ld! Yo X.K M0 G0 F0 own η),Fh!,lE s y1 S a y4 i y6 ζ,Fi!,ζ X own η ft,Fj!,Fs KF H ζ,Fk!,ζ X own own,Fl!,R .non ζ,Fm!,Builtin.Str.strSliceIndices dW! ζ 1,Fn!,(if y=i then ζ else W.txt y).map b_,Fo!,i∈W.its/\(p0:Int)+ζ*(mo:δ)<=fz!,Fp!,[("following",.fn ζ),("preceding",.fn η)],Fq!,(ζ).trans η,Fr!,dM da! λv s1 ⟨x,H1,I1,r1,q1⟩=>ζ hb s1 Z H1 x v Q I1 r1 q1,Fs!,ψ #[oc,od,.func ζ,jy],Ft!,(hI!).get? (ζ).objs.size,Fu!,List.lookup ζ,Fv!,zV dq db b9 cap calm (hg cl) (hi cl) (he cl) I2 ζ cj f2 hw ?_,Fw!,ψ (.nx ζ),Fx!,kget h1 ζ,Fy!,h'.FunFrames base ζ,Fz!,ψ (D.fn ζ),FA!,W.keepIn ζ,FB!,ζ X.env.locals,FC!,Q (.bl ζ) H,FD!,xs.foldl max ζ,FE!,.Assign ζ η pos,FF!,(MM _ _ ζ).trans η,FG!,(by show(e4_).foldl max b=_;rw[PZ,show max b x=ζ by omega]),FH!,aQ aK aW ζ η,FI!,dF (a4e (pA gq_ e! e! ht χ (by rw[gK,ζ c];rfl)) hl) hK,FJ!,(ζ).map F!,FK!,RW t M0 ζ r f p,FL!,.inr (.inl ζ),FM!,(ζ).all cI!,FN!,ψ (.str ζ),FO!,ζ I1 m1 x1.sub hM,FP!,Bw M' w ζ,FQ!,Fh ζ Bc cc_,FR!,#[.ref B!,upd H1 s1.heap.objs.size ζ,t6!,χ,q _ hf],FS!,Builtin.Range.rangeSize ζ hi,FT!,Af vs_ (Af (Ak 2 aF!) (Af (Cu (Hm jM!) az_ ζ) fe!)),FU!,I.list ζ,FV!,(by rw[ζ];omega),FW!,s'.heap.get? ζ,FX!,ζ i t q hu _ _ _ _ h,FY!,XF n ζ e T cls,FZ!,f2 Al ζ r!,F0!,IntsAre ζ,F1!,KG (NB (ζ slot_list_sort D3! entry_list_sort ?body η)),F2!,ζ t b vs.toArray ws.toArray n n2 dd oj sl ic jq_,F3!,kget ζ x,F4!,Ba t.B7 "put_behind" 3 (Ce t) (w2 Bl d2_ ζ) nI_,F5!,AU W M w O ζ η R,F6!,bH ak_ cB ζ η m_,F7!,wpAny_comprehension_free χ ζ b9.eq dq mj wE_,F8!,(fK ζ χ).trans η,F9!,X.base.get? ζ,Ga!,RS hp (dM ζ ?_),Gb!,Ao KF G ζ,Gc!,ζ [] X.env,Gd!,ζ _ _ χ χ,Ge!,ζ ρ M1 R,Gf!,Kp ζ gf_ s.heap,Gg!,ψ (D.bl ζ),Gh!,anT (kT nS ζ) mi! c7_ c7_,Gi!,Bf 1 [] (Br ζ) t_ fs! cK!,Gj!,Ga X ζ (η X.K),Gk!,Or.inr ζ,Gl!,(λz=>by subst z;rw[ζ]at eb;rcases eb;exact vk _ η),Gm!,Ck t_ W! cD_ br_ ζ,Gn!,if _ then ψ ζ else υ,Go!,#[eh_,λhi=>#[ζ,q',by rw[<-aL η,hi];exact LJ _]],Gp!,b1k ζ cl Y h2 hr h3 .nil sI ha.ok hst ay ht,Gq!,LO.mp (p.nodup_iff.mp ζ),Gr!,gL χ ((m2 a aq ζ).trans hA.ob) lK! hP5 ?_,Gs!,(∀b∈fp,∀o,h.get? b=ψ o->ζ b=ψ o),Gt!,An.cons ζ η,Gu!,a0t Y hr hg h3 h4 h2 .nil ζ ha.ok bd he ay,Gv!,Bs ζ 1 (η t),Gw!,f2 Ah x_ ζ [ap!,bE!,ψ η],Gx!,bI χ (bI (b6z χ χ χ (ζ q KM)) χ),Gy!,gM (vJ nd χ b! (pM hX (ζ T) c! χ BQ!)),Gz!,Heap.SameBut ζ,GA!,swappedStores ζ e X.env,GB!,sp vs H Q ζ,GC!,(∀p∈names,p.2=.free->∃c,ζ p.1=ψ c),GD!,OR KF [] G H ζ,GE!,KG (OZ ζ),GF!,KG (wpAny_isInstance ζ isSubtype_stop ?_),GG!,W.subIn ζ bb_ aR!,GH!,Cc (fT ζ),GI!,kget ζ x.nm,GJ!,Hw W0 (pS ζ) V,GK!,aG (bM ζ),GL!,wpAny e_ ζ,GM!,if ζ=η then _ else _,GN!,(ζ:μ Expr).length+(d7_).length+ff_<30,GO!,NB (KG (wpAny_sequenceKey hT a_ (KG ζ))),GP!,(by rw[ζ];rfl),GQ!,ξ e.1 ζ,GR!,KG (wpAny_missed_other h4 (KJ #[ζ,χ,h η])),GS!,W.nsIn KF ζ "__init__",GT!,ih eb! a8_ (h.add b0 a! a! ζ) a! a! aU_,GU!,letTemporaryGo value ζ r>>=λ_=>pure r,GV!,ζ s1.heap.objs.size η x t,GW!,#[wt,wn,qa,ζ,hA.O],GX!,.lst [.int (ζ 0),.int (ζ 5),.int (ζ 15)],GY!,bH mX nE ζ dG m_,GZ!,rule i j t t' s _ _ ζ,G0!,Eh l.prog w bV_ mg base ζ k fa fd [x],G1!,An X.K H ζ vs,G2!,x1.trans ζ m1,G3!,rk r xs ζ,G4!,wpAny _ A.in1 ζ _ _ _,G5!,propext ζ,G6!,Od ζ ρ M,G7!,aG (cF (aS (a4r T) c! χ (aE l! ζ))),G8!,aE ζ (aE η aO),G9!,dM iP_ λv s1 ⟨x,H1,I1,r1,q1⟩=>ζ,Ha!,LB (λJ=>by rw[(lC!).1]at ζ;rcases ζ),Hb!,.cons ζ ih,Hc!,ζ K H a xs,Hd!,s.TypeIs ζ,He!,DT X own ζ,Hf!,s.or.own_ ζ,Hg!,ζ i t _ _ _ _ h,Hh!,(cr!).trans (.write m2 x2.sub ζ) m2,Hi!,SB kd a0 ζ,Hj!,PD _ (z▸LR ζ),Hk!,Fu t.B6 ζ i_ Fw,Hl!,Dg K t.B6 ζ,Hm!,Aw [cq!,.int ζ],Hn!,ζ os x1 ex_ σ ep M R ib_ a! hp Cr_,Ho!,ζ t.NotThere M',Hp!,f2 Pj ζ bW!,Hq!,gC T.U6 ζ l! fO,Hr!,sIx am.size ζ η,Hs!,#[(mup_ne λz=>hn ζ).trans AG!,?_],Ht!,.ExceptHandler sk! (ψ ζ) sk_ hp,Hu!,ζ x y H Q,Hv!,typeLookup ζ,Hw!,.ok (.ret ζ),Hx!,Cg X.K G ζ o,Hy!,XM M1 G1 ζ M' G' H',Hz!,Dc.mono ζ hB,HA!,Bx gJ_ gK! m ζ M R',HB!,rest ζ O W pre pT! w q1_ hr .refl,HC!,hR ζ p M' ao ar g1 g2 (by rw[g3,η]) g4,HD!,Un fs ex H ζ h,HE!,X.env.kindOf ζ,HF!,bindArgs ζ dh!,HG!,(by rw[ζ];simpa using η),HH!,b8h hc.ok ζ η hb s Z H,HI!,ζ d M' v G' H',HJ!,KG (TD ζ χ ?_ co! η),HK!,f1 ζ aT!,HL!,if z=a then ψ x else Rj x ζ z,HM!,Ty t ζ V' B' c,HN!,Bm t M' o O' ζ,HO!,dP v_ ζ q_ η,HP!,wpAny_call (UD ζ λr s' hq=>?_),HQ!,ζ a! I3 m3 x3.sub gw BP! e3 BP_,HR!,wT (Ba t.B6 "has_item" 2 (Bk t) ζ η),HS!,Af wA! (Af (Fj (Cc ζ) oy!) wC!),HT!,(sh ζ).map toSn++Q,HU!,List.mem_flatten.mpr #[ζ,hl,hu],HV!,λ_ _ _ _ _=>bB (i:=0) ζ χ b!,HW!,By (Ay (Ac am_ ζ)),HX!,Fs X.K H ζ,HY!,ζ (η).nox [] df bC_ q,HZ!,ζ (η).nox [] [] bC_ q,H0!,Di (Dd ζ η),H1!,OD (b7i hl b' ζ η ?_),H2!,kf L'[ζ].2,H3!,if ζ=[]then k.map D.int else ψ η,H4!,NA TC ζ F.entry_enumerate_next,H5!,f2 Ah ζ B_,H6!,eG ζ e! η _ ?_,H7!,eV (yY χ λa ta wa ζ hA=>?_),H8!,ζ X.env.scope,H9!,Nq ζ body,Ia!,KG (KJ ζ),Ib!,ζ cells r _,Ic!,LR (I2.pin p ζ).1,Id!,ζ _ G H aM_ Ao.bl,Ie!,IsPair ζ TO x,If!,Jb P w s.heap ζ v,Ig!,Cg KF ζ d u,Ih!,Di (Gq ζ d),Ii!,rk r ζ k,Ij!,ζ i ez_ a! a!,Ik!,Inv (Wg X a ζ) [],Il!,Cn ζ [] (BU u_ l_) jj_ W! jj!,Im!,Cn ζ [0,2] (Ft oq_) t_ W! v9_,In!,ζ b c3_ ah!,Io!,ζ Op.key,Ip!,f2 Ah x_ ζ ρ,Iq!,hA.cl h ζ,Ir!,OS t M' a o ζ,Is!,Qx w i ζ,It!,aQ eH eI ζ aB,Iu!,wpAny_pyNext_range_end aS_ ζ,Iv!,SeqAt.in_listAt ζ pl.isList η ff!,Iw!,ζ η b its.toArray ja.toArray n n2,Ix!,ζ Ki Ki (fC ns_) l_ (fC nt!),Iy!,hr (by rw[z];exact(hA.O ζ).mpr η),Iz!,λu au=>wpAny e_ X.A ζ η X.xe au,IA!,wpAny_pyIter_range s6! ζ ?_,IB!,Ao.lst (Et.of ζ),IC!,.int_str ζ _ _ _,ID!,.str_str ζ _ _ _,IE!,ζ a! I2 m2 x2.sub gw BN! e3,IF!,Bx ft q ζ ρ M R,IG!,ζ PySem.F.entry_max_loop ?_,IH!,ζ (η).length,II!,ad (.row ζ τ),IJ!,FP C x fo ρ y ζ,IK!,ζ x hx q (cd!).1,IL!,[y!,A_,b3_,fm_,fn!,bI_,N!,ζ,y8],IM!,μ (ζ×η),IN!,ζ _ o (λz=>(η _ z).2.1 χ) ho,IO!,λi h=>IsRangeIter h it ζ s4! η,IP!,Wm X.K C m ζ,IQ!,Subscript_ ζ,IR!,Et ζ H a ce_,IS!,(backTo ζ η).any b_,IT!,(I.hok ζ o e).stay Aa! Aa_,IU!,ζ ρ M R,IV!,λp hp=>ζ p η,IW!,(bU ζ).mem_iff.mp η,IX!,(by rw[hS];exact ζ η),IY!,Af (Cu (On dk_) bi_ ζ) u7!,IZ!,if i∈W.its then ζ W i η else W,I0!,bI ζ (bI η χ),I1!,(ζ).Perm ops,I2!,fA (dS ζ) ?_,I3!,b2h hO.hist a! hq a! ζ χ,I4!,.dict ζ ep,I5!,AllBare ζ,I6!,T.obj _ _ ζ b J,I7!,r.append ζ,I8!,compEnvC scope cl ζ X.env,I9!,er.or.own_ ζ b8,Ja!,.bool_str ζ _ _,Jb!,.str_bool ζ _ _,Jc!,h.IsTupleIter ζ,Jd!,kput_len ζ,Je!,#[χ,χ,ζ],Jf!,Gg h ζ a b,Jg!,TX ζ M0 G0 F0 [] [] (q E),Jh!,Ba t.B5 "have" 2 gR_ i_ ζ,Ji!,lst .non ζ,Jj!,w.rp _ _ ζ,Jk!,(∀x,kget cb x≠υ↔ζ),Jl!,Px W n d ζ,Jm!,hA.keep ζ,Jn!,fZ e! e! ζ,Jo!,pP v_ (iP aP! ζ (iP aP! η vN)),Jp!,#[_,ζ,χ],Jq!,Heap.ExtBut ζ η h',Jr!,s.heap.IsListIter it l ζ,Js!,(KR.mp h).resolve_left ζ,Jt!,#[_,τ,χ,χ,λ_=>ζ],Ju!,eO (b6q ζ χ f9_ hk ha),Jv!,IV ζ ta M kl ca M' ao ar,Jw!,ζ wh hb s1 Z H1 Q I1 q1,Jx!,(∃xs,Et ζ H p xs/\n=h_),Jy!,dM (ζ pos hb s1 Z H1 _ I1 η),Jz!,SeqAt.EqAt ζ s,JA!,al.heap.get? ζ,JB!,ζ wH! η (MD (g8!).1) wH_ wI_,JC!,two hg er ζ,JD!,tH ζ gr hb s Z H E I ?_,JE!,.int_tuple ζ _,JF!,.tuple_int ζ _,JG!,s1.heap.push ζ,JH!,c4h hg st ζ,JI!,mup ζ q.1 (.dct η (q.2.2+1)),JJ!,(z_).Perm ζ,JK!,Tn KF mg ζ C qual st ps,JL!,Iz ζ df! Fm,JM!,fC (.tup ζ),JN!,ζ K t.B7,JO!,.obj t.B6 ζ,JP!,ζ t kJ! M R,JQ!,f2 Al ζ (Ay η),JR!,if ζ+η<=big then _ else υ,JS!,Ap ζ _ _ η M _,JT!,kget ζ o.nm,JU!,f2 ζ ay_ u_,JV!,(iu_).map ζ,JW!,Fh ζ e8_ Bc,JX!,jH.mpr ζ,JY!,hH.op o (ζ ho),JZ!,Jj S (wds i ζ η (O!).length),J0!,gC T.U5 ζ l! η,J1!,dA ζ dN b1_,J2!,Ec P w ζ η a,J3!,wpAny_pyIter_list ζ ?_,J4!,SeqAt.in_tupleAt ζ pl η ff!,J5!,(Tc ζ η).map D.bl,J6!,a0q ζ d d' v n n' r r',J7!,m.cell ζ η e,J8!,Bs ζ 4 (η t),J9!,Cu (Hm (Ft oS!)) gN! ζ,Ka!,Af ζ _ η M _,Kb!,ζ [.fn w,i,η,s] M,Kc!,eV (c3p χ χ χ ζ),Kd!,gE (a6g jA jB jA jB aB ζ η),Ke!,aE (aC a7_) (aE ζ B6!),Kf!,λ_ _ _ _ _=>bB (i:=0) (o7! ζ) χ b!,Kg!,f1 Aw (Eh_ l_ (f2 Al ζ η)),Kh!,Ab ζ (Ab η Ad),Ki!,CF! MR ζ G' H',Kj!,zH_ ζ η X.xe s,Kk!,(zF_ ζ η).trans bq_,Kl!,o7_ Rs own ζ H Z ρ M,Km!,Eh! Bp ζ η S kl ca,Kn!,Ep_ M' ζ ao ar,Ko!,(Eo! ζ).trans η,Kp!,if neg then !(ds.any λd=>Dt d ζ)else ds.any λd=>Dt d ζ,Kq!,CF! MR ζ G H,Kr!,bI χ (bI ζ χ),Ks!,[ba!,cs_,b6_,dD_,fW_,fX!,fX_,ψ ζ,υ,υ,υ,υ],Kt!,(E0! ζ (Obj.mapSeq λ_=>(#[]:Array Value))).get? a,Ku!,EL! ζ "NoneType",Kv!,ζ (eZ I q (Em_ not η)),Kw!,mX_ ζ s',Kx!,EI! ζ M',Ky!,o8! ((ζ).map η),Kz!,aS (ζ T) c! χ η,KA!,zH_ ζ Q E s,KB!,Ei_ ζ LU,KC!,k G2 Z _ (((hn_).grow x2).upd b8 h2 ζ),KD!,KG (KG ζ),KE!,EL! ζ "tuple",KF!,(bJ ζ).trans η,KG!,Fh! y7 y8 ζ fz cm bD_ bq bv bw bj be,KH!,mup M ζ ca_,KI!,aS (b1u T) c! χ (aE l! (aE ζ aO)),KJ!,EJ! ζ o i v ov iv u Q I ro ri rv q,KK!,EL! ζ "list",KL!,o8! (nmsL (O!).length (ζ).length),KM!,Fb! IsTup ζ η,KN!,CF! ζ mg base k x ps η,KO!,ER! (Ak i ζ) q,KP!,Ab ζ (EV! η),KQ!,bD (bY (cP ζ)),KR!,Eh_ l_ (f2 Al (fC (.int ζ)) hi!),KS!,Fv t.B5 2 (Ip t) ζ,KT!,gs! Eh Nr 13 fa fd [a0!] (Xd ζ),KU!,Em_ ψ ζ,KV!,Ex_ (if ζ=τ then _ else _) s,KW!,FM_ SR ζ η G' H' Z ρ,KX!,CF! Hx own M0 G0 F0 ζ G H Z ρ,KY!,f1 Pv (Ac (E3! (Rk ζ) cD_) Ae),KZ!,λ_ _ _ _ _=>bB (o7! ζ) χ b!,K0!,#[.bl ζ,H,I,χ,η],K1!,o6_ G! ζ,K2!,upd H ζ (.tup η),K3!,.inl (.inr ζ),K4!,EL! ζ "int",K5!,KJ #[χ,ax,χ,rs,n2,stay ζ],K6!,.lst (xs.set ζ v),K7!,zQ_ ζ bn_,K8!,o7_ Eh X.mg X.base Nr k ζ fd ps η,K9!,dh.extBut _ _ c2 (Gt_ c3 ζ),La!,o7_ Gb G lr! a (.dct ζ cp_),Lb!,Eo! (dH ζ η),Lc!,aG (cF (Cc! a4q (aE l! ζ))),Ld!,ζ X.prog X.w,Le!,FA_ ζ u' dw!,Lf!,o7_ ζ X.mg X.base k x ps g,Lg!,CF_ ζ ep,Lh!,aT χ ζ χ,Li!,Inv X hb ζ,Lj!,!decide ζ,Lk!,FA! ζ bl_,Ll!,Ei! ζ bZ_,Lm!,Ei! ζ b0_,Ln!,Eu! ζ a5_,Lo!,NB (KG ζ),Lp!,toString ζ,Lq!,Eo! (MD ζ),Lr!,El_ keep ζ,Ls!,Im_ (rS #[ζ,η,χ,Y,h2,h3,h4]),Lt!,aG (x1_ (aC ζ)),Lu!,Eu_ am_ ζ,Lv!,#[_,ζ,χ,χ],Lw!,mup M ζ (.dct η e),Lx!,lL (iC χ T.S6 (Ew_ ζ)),Ly!,subscripted ζ θ o i,Lz!,o7_ ζ M' G' H',LA!,Am ζ (Km t) (Ab n3! Ad),LB!,LK (h.mem.mpr (.inr ζ)),LC!,CF_ ζ e0,LD!,Ho_ y.aft ζ,LE!,zH_ (pyIter bv_) mV! ζ,LF!,Ga X jJ! (o7_ ζ θ),LG!,gs! Ok 4 ζ C_ (η),LH!,cP (aD ζ η),LI!,λ_ _ _ _ _=>ζ,LJ!,cG M_ bL ζ η k!,LK!,x1_ (aS (ζ T) c! χ co_),LL!,bJ (fX ζ),LM!,ζ (bI χ η) χ,LN!,EX! (aU fE_ c! χ (aD ζ hA!) an_),LO!,Ac ζ (Ac (Kg! u_ η) Ae),LP!,cF (cJ (gB T) c! (EM! h0_ ζ) qc!),LQ!,fR nd χ b! ζ,LR!,EH! ζ (Kh! i_ η),LS!,cN ζ ep! bR,LT!,KB! (show θ=τ from ζ),LU!,isTrue e X.env ζ,LV!,Ap (Cc (Dy ζ)) η Bi,LW!,KJ (KJ ζ),LX!,bD (bY ζ),LY!,x1_ (aC ζ),LZ!,aG (bM ζ),L0!,Fq! ln_ (KF! ζ (sE χ)),L1!,K1! (pyIter ζ),L2!,aD C! (aD ζ η),L3!,Kn_ (Fs_ ζ "join") [a],L4!,o7_ MR ζ G η,L5!,aT (El_ a2e ζ) χ χ,L6!,aU (ζ T) c! χ η an_,L7!,(aI!).trans (nT ((lx!).trans ζ)),L8!,aQ iF iG ζ η,L9!,LI_ (EZ! ζ η),Ma!,cP (EE_ ζ η),Mb!,aG (x1_ ζ),Mc!,En_ (Kn_ ζ aq!) (η fo fa fb),Md!,aC (fI ak_ cB ζ aY m_),Me!,aS (ζ T) c! χ η,Mf!,(zF_ 3 ζ).trans η,Mg!,Kh_ (aG ζ),Mh!,(ζ).trans η,Mi!,aQ eH eI ζ η]
def z'00:String:=z [a_,(by decide),b_,(·.1),c_,(by simp),d_,Inv X hb Z H s,e_,model X.prog X.w,f_,ds.length,g_,Txt P w K mg t,h_,xs.length,i_,wl l_,j_,μ Op,k_,s.heap.objs.size,l_,Aa 0,m_,aR _,n_,μ Value,o_,wl u_,p_,Fl->Mh->ν,q_,aC L_,r_,μ V,s_,μ Int,t_,Ar 0,u_,Aa 1,v_,Ai.units hr,w_,μ Str,x_,Aa 2,y_,KQ χ,z_,arrOf ac,A_,ψ i,B_,fC P!,C_,["thing"],D_,wl x_,E_,arrOf st,F_,sns W i,G_,ι D,H_,(by simp),I_,j+1,J_,Ax G H,K_,bF.trans (KU! g!),L_,aA 1,M_,bO v_,N_,.ref a,O_,#[_,χ],P_,ps.length,Q_,λ_=>True,R_,k+1,S_,u++v,T_,ψ o.v,U_,Gl X x,V_,Value->Shared->ν,W_,s2.heap.objs.size,X_,cK 0,Y_,KJ ?_,Z_,aA 2,Aa_,λ_ e'=>e',Ab_,bH ak_ cB aO! L_ m_,Ac_,[z,TI,TO,i1,i2],Ad_,(by rw[hl];exact z),Ae_,#[q,.inl z,h],Af_,λc o _ _ _ e _=>v0!,Ag_,λc o _ e=>#[o,e],Ah_,(λc xs e=>by rw[pN_];exact e),Ai_,I1.hok c o e,Aj_,[aP_,aW!,.int (k':δ)],Ak_,#[_,_,_,χ],Al_,bootBuiltins "zip"=ψ pL!,Am_,.fn (ad (.row i θ)),An_,.Call (.Name "zip" p) aq! [] pos,Ao_,aE bH_ (G8! aP! cm!),Ap_,mup M1 pv_ (.dct (Bq k5 b2_ dj_) (Hj k5 b2_ e5)),Aq_,setT W i (U++pS!::v),Ar_,#[G,ρ,_,er,e1,λv G1 H1 s1 r1=>#[G1,ρ,_,cP!,e2,zC!]],As_,(λx y H Q=>Rb (λi j=>.bl i3!) x y H Q\/∃i j,x=.str i/\y=.str j/\Q ya_ H),At_,#[_,_,χ,χ,eh!],Au_,fo ρ=ψ ao_,Av_,∀q,N q->M (bg q)=υ,Aw_,bK bQ dD χ T.S3 cU hw_,Ax_,["check","part"],Ay_,W.fnOf x x jT_ bC_ bj! .none kV b7 pm an ah ct,Az_,KF.lookup f=Fs! Ay_,AA_,∀(kV b7 pm:Value) (an:ec!) (ah ct:Value) (us:n_),aC_=P_->HF! Ay_=pure dg!,AB_,Aa 1 ρ=ψ x,AC_,T.W8 _ χ χ χ χ,AD_,q=.row x b\/q=.fol x b\/q=.pre x b,AE_,old .ob ο,AF_,(λz=>by simp at z),AG_,Sum.inr.inj z,AH_,(V.sl x b []).ls x b,AI_,(by rw[<-z.1,<-z.2];exact l),AJ_,#[T!,T!,T!],AK_,hy.resolve_right c,AL_,(λ(r:Fl) (M':Mh)=>match r with|.rt d=>R d M'|.nx _=>Fl! M'),AM_,Lg ks k=ψ j,AN_,Mv P w s.heap es ks,AO_,iO (NL:=dh_) nd χ b! χ a_ g! (Bz_ Fk) dx_ a_ χ (dY hP!) (KZ! [cd_,z!]) X_ (λ_ _ _ _ _=>nQ (fP (Cc! nY (aE q_ co_)))) hH_,AP_,o.data=I4! es,AQ_,(by simpa using hne),AR_,λe=>hh (by rw[q3,e];simp),AS_,LB λz=>c1 z.1,AT_,hg.chl_same w.rnd,AU_,(λz=>by cases z;exact .inr aK_),AV_,mS nd χ b! (aD aB (aD aB k8!)),AW_,aQ aK aW p7_ aB,AX_,[dy!,A_,bq!,b4!],AY_,jJ w.rnd z io,AZ_,λ_ _ _ _ _=>LD_ hf_,A0_,bP (sc:=Aj Pb) χ g!,A1_,dictSet a u v,A2_,aQ kP kQ at! aB,A3_,es.eraseIdx j,A4_,(by simpa using av),A5_,cs.map λc=>.str ak!,A6_,(ld!).any λd=>Dt d aQ!,A7_,(by rw[c9,i1];rfl),A8_,Cd.cons (j:=0) Cd.nil,A9_,.ins C dx vs,Ba_,Gb P w KF G H a c,Bb_,(by rw[hM];simp),Bc_,#[?_,h2.mono x.g ?_],Bd_,MR P w KF M' G' H',Be_,μ D->Mh->ν,Bf_,Zx X.prog X.w X.K own f,Bg_,lL (eR (EK! lW ck_)),Bh_,#[_,by assumption,h],Bi_,Rs X.prog X.w X.K own G H Z ρ M,Bj_,(if qk!<=big then Option.map D.lst (KF_ br_ ops)else υ)=_,Bk_,#[G1,ρ,M1,R,ll!,r1,λd M2 G2 H2 r2 x2 m2=>k d M2 G2 H2 r2 cr! m2],Bl_,.int (m:δ),Bm_,cJ (lY T) c! l! b4_,Bn_,x1.sub.free hp,Bo_,ψ (.lst ir),Bp_,cG M_ bL qn_ q_ k!,Bq_,if E!<=big then ψ (D.int (E!:δ))else υ,Br_,λY h2 z q=>?_,Bs_,∀bc s',Kw! lo_->o7_ Gb G lo_ a Bs!->Q () s',Bt_,kget h1 d=ψ x,Bu_,#[_,χ,ND h],Bv_,.builtin "dict.get",Bw_,.fn (ad hv_),Bx_,a2s I Y D' c7 h4 ?_,By_,sSeq EL (sSeq BX By!),BA_,[ba!,cs_,b6_,dD_,υ,υ,υ,υ,υ,υ,υ,υ],BB_,Iu its eu_ υ,BC_,bN T.U5 T.W7 l!,BD_,aS (pJ T) c! χ co_,BE_,wQ (show J5! "str" cx=_ by rw[z1];rfl),BF_,Nat.ble ds.length 1000=τ,BG_,KQ (Nat.le_of_ble_eq_true hl),BH_,Mh->μ D->ι D,BI_,#[ys,z,χ],BJ_,("cut"==k||"set"==k),BK_,mup M2 q.1 (.lst (q.2++[v])),BL_,a4w χ χ e1,BM_,RA (OY (ha.run I1 f0_ r1 λy M2 yv G2 H2 iv s2 r2 x2 m2 q2 I2 ry=>RC ?_)),BN_,(f0_).grow x2 m2,BO_,(b6!).mono x3.g,BP_,#[zv,q3,rz],BQ_,dE s.heap.objs.size [] 0,BR_,μ av!->Mh->ν,BS_,aS (gY T) c! χ dz_,BT_,mg "law"=ψ fi!,BU_,(∀(s:Shared) (u:Value),Gn_ "_law_script"),BV_,aQ eH eI (HN_ hz_ (aD C! k8!)) aB,BW_,a∈W.its/\Hi W Cq/\¬Fe! Wn a Cq,BX_,(by rw[KO,PF];omega),BY_,D.tup ct!∉pre,BZ_,cG M_ bL h4_ aP! k!,B0_,λ_ _ _ _ _=>bB (i:=0) A6! χ b!,B1_,(pm_).resolve_right e,B2_,hg.winv w.inv hc.1 hc.2.1 hc.2.2,B3_,bH ak_ cB a7_ aB m_,B4_,λj hj p e=>?_,B5_,(Fv_ m'.toNat).map λk=>.tup kT_,B6_,λv hv q hq=>?_,B7_,Bz G lB_ G' H',B8_,λb o e J=>?_,B9_,LB (λhr=>by rw[(s.root hr).2]at e;rcases e),Ca_,[ap!,bE!,h8!],Cb_,Ab hN! (KP! k0_ f3),Cc_,λd M' v G' H' r x m q=>k1 _ M' G' _ H' r ((qJ_).set b8 q),Cd_,#[G,ρ,M,_,sr.st,e,λb M' G' H' r x m=>?_],Ce_,mup M2 p Ce!,Cf_,sr.grow x1 m1,Cg_,λx hx=>h x a9_,Ch_,.Subscript o i p2,Ci_,∀a,k' (f a)=k a,Cj_,(Io! a.map).Nodup,Ck_,(λr M2=>match r with|.nx bf=>Bx ft q n bf M2 R|.rt d=>R ag! M2),Cl_,λx=>Au x aQ!,Cm_,Str.ofString "redo"==EC! "redo",Cn_,(show Cm_=τ by decide+kernel),Co_,Jx .str os σ,Cp_,#[ο,hR M ep y hp λb _=>χ],Cq_,mup M p (.dct (Bq σ a ac_) (Hj σ a ep)),Cr_,λM' bx y' Y h2=>hR M' bx y' Cr! h2,Cs_,(by rw[bn.length_eq];simp;omega),Ct_,(∀b,b≠q->M' b=M b),Cu_,#[qc,dz.mr,aA_],Cv_,∀cl C au bo fp,JA_ Cv!,Cw_,Bf NL.length ix fi bnd ft fe,Cx_,(qR_).getD .non,Cy_,[lG!,υ,υ,υ,υ],Cz_,(by rw[<-aL q1];exact r1.1),CA_,#[G,ρ,M,_,st,e',qT!],CB_,λi p h=>(by simp[W0]at h),CC_,mup M1 x (.obj C []),CD_,#[G,_,M,_,#[#[er,m,aA_],.refl sub,aA_],e.2,λρ' M' G' ae H' r sr=>kk _ M' _ G' H' r sr.x sr.st.mr Ao.non,λd M' v G' H' r x m q=>HI! kk r x m q],CE_,s.heap.IsKeyIter it d i es.length ep,CH_,KJ (KG (QG vc vd ?_)),CI_,KJ (FU_ VA hT),CJ_,[(root,.non),(Cq,.non)],CK_,([.hid,.wri,.nums,.dir θ,.row Cq τ,.fol Cq τ,.pre Cq τ,.row root τ,.fol root τ,.pre root τ,.dir τ,.par,.ob]:μ Uy),CL_,.fol root τ,CM_,.pre root τ,CN_,#[χ,Gd_ s2!],CO_,(λi v=>∃c u,x.cps[i]?=ψ c/\v=.str ak! u),CP_,D X.A.in1 hh,CQ_,Gl X "enumerate",CR_,starEach [a] X.env=cA!::Gc! starEach,CS_,.obj t.B6 [],CT_,I1.hok.fresh (ll b J),CU_,(by show 2<100;decide),CV_,(by show 3<100;decide),CW_,IntsAre ng.toList ms,CX_,(∃XD,Ru W' XD),CY_,(show B+20*(os.length+1)=B+20+20*os.length by omega),CZ_,(by rw[show Op.nm x=Op.nm y from z.symm];exact LK hy),C0_,(∃pre,Ru W' pre),C1_,(λx _=>by simp),C2_,(lM!).nodup_iff.mpr nn,C3_,g M x y=ψ d,C4_,.Call (Fs_ bn! "insert") [ek,e] [] ai,C5_,Pu fa ρ M aJ!,C6_,(by show 3<=1000;decide),C7_,.lst (En! k.toNat ds).flatten,C8_,.BinOp ph_ .Mult b pos,C9_,upd H1 p ee_,Da_,#[p,n,vs,χ,χ,tz,i!,i!,by rw[<-aL q1];exact fG hl,kX!],Db_,x1.trans (.ext xj) m1,Dc_,ψ (.int q6_),Dd_,λi j h3 h4=>?_,De_,(λi h4 h5=>by rw[show i=x+1 - 1 by omega]),Df_,Bq σ u.2 f2_,Dg_,if _ then _ else fJ!,Dh_,λi j h5 h6=>?_,Di_,W.its.map λi=>(i,.fn (qa i)),Dj_,#[χ,lo,lo,χ,g2,g4,g5],Dk_,λb z=>Ew! z,Dl_,(υ,a0.size),Dm_,(match rs[k]? with|some q=>!decide (q.2=p)|none=>θ),Dn_,.bl (Lj! ((f6!).2=p)),Do_,λ_ _ z=>z,Dp_,((List.range' k m)).map λj=>D.int lP_,Dq_,ifT (by rw[cond,LM z]) ?_,Dr_,.inr #[j,i!,h2,h3],Ds_,Bf 1 [1] _ _ _ _,Dt_,#[by simp[big];omega,?_],Du_,λ_ K hK=>hK,Dv_,Ah (Bj q) P!,Dw_,[ad_,A_,cW!,b4!,io_,pP_,υ],Dx_,(rs.take a++b1!::rs.drop a),Dy_,.lst ((eA_).take a++[Bj b1!]),Dz_,Hj rb_ g8_ e,DA_,l.filter λx=>Jv x q,DB_,λp=>Jr rj_ (Mp h p.1),DC_,Y.mem_iff.mp (OU c9),DD_,Eh X.prog X.w X.K X.mg X.base Nr k f fd ps xP_,DE_,Cu xd_ gV_ FD,DF_,Cc (Tp "move"),DG_,Ee (Cc (Tp "set")) Td,DH_,Aa 2 ρ=ψ qF!,DI_,b=τ->IU! q1,DJ_,Paired dJ! kd ku,DK_,(c,HJ_ ku.toArray e),DL_,Inv X (hb++[l3!,DK_]) Z H s,DM_,Obj.mapSeq λ_=>(#[]:Array Value),DN_,W.its.map λi=>eD_,DO_,l.any λd=>Dt d x,DP_,Array.toList_inj.mp,DQ_,L.cell (wt,_) in_,DR_,#[Array.Perm.refl _,χ,χ,χ],DS_,(by rw[bi];exact qm),DT_,(by rw[b3,hd]),DU_,(ah!).length<5000,DV_,UV ha χ ?_,DW_,seqEpoch_at vj χ ?_,DX_,VP ?_ (by show aC_<=_;rw[NO];omega),DY_,KL _ (Fq! DY! q),DZ_,aP (Kl_ d0p),D0_,l[j]?.map b_,D1_,[ad_,R!,D1!,l8!,y4,ψ l5_,ip!,y,υ,υ],D2_,(by rw[NO];omega),D3_,#[[s.cps.toList.getD k 0].toArray],D4_,x1.sub.seq sq,D5_,seqObj "list" its.toArray 0,D6_,(by rw[(bU _).length_eq,NO];omega),D7_,NQ (by rw[OM,hi.1];omega),D8_,λq e=>Cg KF G q.1 e.key,D9_,D.tup bI!∉W.its,Ea_,λv d=>Gg h3 v (ma!).1 (ma!).2,Eb_,L'.map (·.1.2),Ec_,Bq cu_ au_ aQ_,Ed_,(by show 4<=1000;decide),Ee_,Bq ma_ au_ bt!,Ef_,λb=>O b\/b=q,Bz_,bP (sc:=Aj ζ) χ g!,CF_,ψ (.dct ζ η),CG_,starEach ζ X.env,Eg_,Bool.noConfusion ζ,Eh_,Ac ζ (Ac η Ae),Ei_,ξ ζ,Ej_,(ζ).map b_,Ek_,ψ (excClassObj nm q C N bs ζ hdct sn sub ab col dd k0 k1 k2 k3 k5 "ValueError.__new__"),El_,ζ χ χ η,Em_,congrArg ζ η,En_,ME X own ζ,Eo_,attributeBase ζ η X.env,Ep_,HR t ζ 6 a ta wa,Eq_,aF (aV (i:=ζ) dU.nd χ b! η),Er_,.inr (.inr ζ),Es_,bootBuiltins ζ,Et_,Heap.SameBut ζ s.heap h',Eu_,fT (f2 Au ζ η),Ev_,Ao KF H ζ,Ew_,bK bQ dD χ T.S3 cU (aD ζ aI),Ex_,wpAny _ _ ζ _ _,Ey_,eval ζ X.env,Ez_,aN aH aM ζ η k!,EA_,Fr M O M' ζ,EB_,λhr _=>(aG (bM ζ)),EC_,False.elim ζ,ED_,fC (.int ζ),EE_,aD ζ (aD η aI),EF_,(aI!).trans ((aI!).trans ((aI!).trans ((ly!).trans ζ))),EG_,Yh a ta p M kl ca ζ,EH_,I.tuple ζ,EI_,ψ (.ref ζ),EJ_,wpAny ζ A.in1 η _ _ s,EK_,lE s y1 S a y4 i y6 y7 y8 w fz cm bD_ hh_ bv bw ζ be,EL_,.of_refs oo (ζ I q q' rr cr a! λus us' rv a8=>lB I xs ys A.in1 vs ws us us' n n' fE! rr cr rv a8),EM_,X.s₀.heap.get? ζ,EN_,tpl (iD db! (iD eO_ ζ)),EO_,ζ hb s1 Z H1 η I1 q1,EP_,Dw ζ fd ps [],EQ_,Tr ζ ta kl ca,ER_,(∀d M' v G' H',R d M'->XM M G H M' G' H'->Ld! MR X.K M' G' H'->ζ X.K G' d v->Q v H'),ES_,sc.names.lookup ζ,ET_,OR ζ own G H Z ρ,EU_,(ζ λe=>match e.key with|.str _ _=>τ|_=>θ),EV_,Ap ζ q1 q2 ρ M R,EW_,ζ X.prog X.w η,EX_,.seq its.toArray ζ,EY_,WB ζ I.kIn True.intro e eg_ fin,EZ_,gM (vK hX T.V0 hr.hd χ T.U9 (a8x (a9p ζ))),E0_,Bz ζ η G' H',E1_,An.cons ζ An.nil,E2_,ζ (decide η),E3_,iM (ζ T) η χ a_,E4_,UK m.base m.few m.line SK ζ η lw!,E5_,ψ (ζ=="bool"||η=="int"),E6_,fs.lookup ζ,E7_,ζ χ χ,E8_,K.lookup ζ,E9_,IsZip ζ z TI TO,Fa_,Bm t ζ o O,Fb_,#[by rintro ζ hb s Z H Q I ⟨G,ρ,d,er,e,k⟩;exact h ζ hb s Z H Q I oJ!],Fc_,#[G,ρ,ds,er,e1,λvs G1 H1 s1 r1=>#[xK_,λp hp=>k _ _ _ xL_ (ζ xM_ r1)]],Fd_,ψ (.int ζ tk),Fe_,eK (jY a2f χ T.S2 χ T.S8 cS b0a ζ),Ff_,SeqAt.RcNeAt A s ζ,Fg_,Iz (Xu je_ (fT (f2 Ye de_ ζ))) df! Fm,Fh_,aT ζ χ χ,Fi_,Zy (Rr w x0 ζ η) M R,Fj_,An KF H ζ,Fk_,KF.lookup ζ,Fl_,Pr bnd ck ft fe ζ,Fm_,Ct K t.B6 ζ,Fn_,ζ hL hw.inv bz hB,Fo_,iB hA_ (bD (bY (cP (aD a7_ ζ)))) dZ,Fp_,gL χ (L.cell (a,.obj t.B5 ζ) c_),Fq_,Call_ (jI I hg hm ζ η),Fr_,envOfC ζ η s.heap.objs.size,Fs_,.Attribute ζ η a9,Ft_,ζ X.prog X.w X.K own η,Fu_,KG (ζ ?_),Fv_,List.range ζ,Fw_,.fields [.ref ζ,.int 0 0].toArray,Fx_,rk r z_ ζ,Fy_,Ba t.B6 "signs_of" 2 (Cf t) ζ a2!,Fz_,Inv X hb ae H' ζ,FA_,SeqAt.RcAt A s ζ,FB_,swapsWithSole ζ e pos.line X.env,FC_,ζ p1.isList p2.isList η hu,FD_,.bl (decide ζ),FE_,s.heap.FunFrames ζ,FF_,WalksT.enumerateD ζ e td qX! c_,FG_,(λr M1=>match r with|.nx ak=>Bd ζ ak M1 hC!|.rt d=>R d M1),FH_,(∃xs,ζ η H p xs/\k=! dU!),FI_,Ay (Ac (f2 Al (f2 Ah ζ ar!) η) Ae),FJ_,Am 1 ζ a3!,FK_,ζ X.K own η,FL_,Ai k (A.deeper (envOfC qual ζ s.heap.objs.size f ah)),FM_,ζ KF own,FN_,Ck bnd ft fe ζ ds,FO_,Ef C_ 1 (ζ),FP_,runsF ζ r,FQ_,#[ζ,(η).trans e1],FR_,ζ I dx dy n1 n2 a! r1 r2 rx ry X.prog X.w X.xe _ zi_,FS_,.fields [ζ,vu,.none].toArray,FT_,Inv ζ η Z H s,FU_,KG (ζ η ?_),FV_,scope.names.lookup ζ,FW_,W.nsIn ζ mainGlobals,FX_,Paired.mapP ζ λ_ _ z=>z.mono η,FY_,En ζ e it eZ! η ey! old,FZ_,if(d4_).length+1<=big then ψ (D.lst ζ)else υ,F0_,s.heap.IsTuple ζ,F1_,#[ο,hR a y (by rw[show ζ=k by omega];exact ha)],F2_,#[#[],by rw[ζ,η];simp],F3_,XM M0 G0 F0 ζ G' H',F4_,(by obtain z|z:=tO ζ;rw[z];exact KM;exact KI _ z),F5_,Th (ζ t) η M,F6_,#[_,χ,ζ],F7_,Bb (Ba t.B6 ζ 4 (η t) i_ gQ_),F8_,Paired F ζ,F9_,I.hok.fresh ζ,Ga_,ζ value slice hb s Z H x y v u Q I rx ry q hs,Gb_,(∀v G' H',Bz G H G' H'->ζ X.K G' d v->Q v H'),Gc_,ζ X own tg,Gd_,I.turned ζ f0 f1 f3 f4 f5,Ge_,failedOf ζ,Gf_,.seq [.int i ζ,x].toArray,Gg_,f2 Ah bA! ζ b7_,Gh_,(sh ζ).map toSn,Gi_,#[λi _=>i<n,λi H x H'=>H'=H/\x=.int ζ,sZ_],Gj_,closOf env.cells ζ,Gk_,OD (wpS_reverse ζ),Gl_,TX X M0 G0 F0 own ζ η,Gm_,kget ζ x=υ/\kget η x=υ,Gn_,BindsTo s fd jQ_ [(ζ,u)],Go_,NA SW h3.typeIs PySem.F.entry_dict_get ?_ ζ,Gp_,#[_,_,_,_,_,ζ,by rw[<-Array.all_toList];exact η],Gq_,(l1_).bind (λx=>Ah x ζ),Gr_,λ_ _ _ _ _=>bB ζ χ b!,Gs_,Q cD! (upd ζ p η),Gt_,bu.extBut _ _ ζ η,Gu_,OD (wpS_modify (QE (.inr #[LJ 1,χ,fin ζ η]))),Gv_,rc _ a! q1 (λM' ρ h' f'=>hR M' ρ z8! ζ),Gw_,(by simp[show ζ=τ from by decide+kernel]),Gx_,dQ b2! fE ζ η χ,Gy_,.fields ζ,Gz_,wpAny_loadName_local I.ok.kind hk hn hm ζ,GA_,I1.hok.fresh ζ,GB_,Jz xs.length ζ,GC_,Et KF H ζ,GD_,ζ I q q' rr cr a!,GE_,#[v',H3,I',ba,k _ M3 v' G3 H3 r3 ζ m3 r'],GF_,.Call (.Name ζ p),GG_,h'.IsListIter ζ l,GH_,(∀x v,kget ζ x=ψ v->∃k:Str,v=.str k),GI_,jK χ ζ g!,GJ_,mI bQ a2w χ T.S3 cU ζ,GK_,I.cell ζ c,GL_,wpAny_loadName_cell I.ok.kind hk hc db ζ,GM_,.builtin "type.__call__" #[.ref C::ζ,kw],GN_,.cons ζ .nil,GO_,Xq n ζ e cls,GP_,Gr t ζ r f p,GQ_,(by rw[KU,<-hl];exact ζ),GR_,ζ kind_sorted plain_sorted entry_sorted,GS_,Qp t.NotThere E (Yl ζ),GT_,Un iE_ ζ H η s.heap,GU_,Gy KF ζ (Hf λi j=>.bl η),GV_,Ah o.v ζ,GW_,Af (Ak ζ η),GX_,hR M' iw dw gi ζ,GY_,ψ (ψ ζ),GZ_,Un (frs outer) [] ζ H' s.heap s'.heap,G0_,KR.mp (I2.stkSub b ζ),G1_,Gf ks k ζ,G2_,mup M p ζ,G3_,callWith_kw (dM ζ ?_) l9_ l9_ χ χ,G4_,f1 ζ (Ac η Ae),G5_,Fr M pW_ M' (Wk bg ζ),G6_,(lM!).nodup_iff.mpr ζ,G7_,aV (i:=5) nd χ b! ζ,G8_,wpAny_execs_cons (dM ζ λf s1 q=>?_),G9_,b8i hp hc ax.ok ζ ik hs hb s Z H E I,Ha_,xE (a2q eJ_ ζ η) χ χ,Hb_,(ζ).get? b,Hc_,Et X.K H ζ,Hd_,(ζ).all cH!,He_,Qj ζ λi j=>.int η,Hf_,Ya KF ζ η st af fd,Hg_,ξ z ζ,Hh_,sr.st.grow ζ m1,Hi_,ψ (.Call (.Name x np) [ζ] [] ai),Hj_,Txt.slice ζ dW!,Hk_,fC (.lst ζ),Hl_,ζ χ ?_,Hm_,dj q (by rw[e1];exact ζ _ hq) q' aj,Hn_,a9k hl j8 hp hs R hR m R_ ζ _ a! a!,Ho_,ζ W i p0,Hp_,c2m hO a! hW hi ζ hy,Hq_,bB (i:=ζ) η χ b!,Hr_,joinParts_consE (joinParts_cons ζ),Hs_,λz=>ξ ζ η,Ht_,Value.type ζ,Hu_,ζ _ _ _ _,Hv_,Gy KF (ζ KF),Hw_,x.get (MU ζ),Hx_,ζ keys na X.env pos,Hy_,seqObj "list" #[] ζ,Hz_,Gr t ζ (ad fD_) (ad cT_) (ad cU!),HA_,ψ (.rt ζ),HB_,Y _ (h2 _ ζ),HC_,(by exact(KN ζ).elim),HD_,(KS.mp hp).elim (λz=>I.pin p ζ),HE_,(ζ).lookup η,HF_,ζ kindOf jl_ m,HG_,closOf cells ζ,HH_,ζ hu h3 h6 h2!,HI_,Up r ζ a0.size,HJ_,seqObj "list" ζ η,HK_,Cn ζ [] fd_ t_ (fT op!) (Ay gY_),HL_,ζ rows i,HM_,((ζ).txt i).map η,HN_,aU ζ c! χ η an_,HO_,λb o _ J _ e n=>ζ b o e n J c_,HP_,Q .non (upd H l ζ),HQ_,Array.perm_iff_toList_perm.mp ζ,HR_,Ak ζ (wl (Wf vG_ (f2 Ah η vH!) bl!)),HS_,(h2 ζ J).trans qP_,HT_,(by rw[e6];exact λd hd=>ζ d ga_),HU_,LI t bL! a ta wa ζ,HV_,lL (iC χ T.S6 ζ),HW_,X.s₀.heap.FunFrames X.base ζ,HX_,ζ i hi p e,HY_,RV X H s ζ,HZ_,ξ e ζ,H0_,KG (ζ hT η),H1_,OD (wpS_lift (OZ #[χ,OD ζ])),H2_,Kp a7 fr ζ,H3_,w1 ζ (Ab η Ad),H4_,h.mem.mp ζ,H5_,ψ (ζ).v,H6_,runsF [] ζ,H7_,PySem.Within mA ζ,H8_,.Expr ζ pos,H9_,ζ pl.isList,Ia_,backTo ai ζ,Ib_,I2.cell x c ζ,Ic_,An KF G' ζ ys,Id_,cu.lookup ζ,Ie_,KL _ (KL _ ζ),If_,wpAny_ite_split ζ,Ig_,mup M ζ c,Ih_,#[G,ρ,M,_,ζ,e',η],Ii_,pendingOf ζ,Ij_,ζ cls υ H',Ik_,CN X hb ζ η e it,Il_,w2 by_ o_ ζ,Im_,nM ζ χ,In_,iA (vS av0 ax1 χ χ dE_ ζ),Io_,.lst ((ζ).map η),Ip_,.obj t.B5 ζ,Iq_,fL e! hA.ob ζ,Ir_,.tup [bs!,.int ζ],Is_,[R!,ψ xs,b3_,fm_,oH_,ζ,bI_,y7],It_,λ_ _ _ _ _=>nQ ζ,Iu_,ζ (gH_).kindOf dg! λ_=>υ,Iv_,ζ X.env.cells scope.names [],Iw_,Obj.isFreed_of_dict (ζ hd _),Ix_,Bt ζ hn! (wl η) ρ M,Iy_,i∈W.its/\p0+ζ<=(F_).length,Iz_,wpAny_pyIter_rangeiter st ζ,IA_,wpAny_letTemporaryGo (KJ ζ),IB_,.int_int ζ _ _ _,IC_,.str_int ζ _ _ _,ID_,ζ ho gj ha.ok J.ok hc.ok hm,IE_,w9.grow Cj! (m3.write hM ζ),IF_,ζ f8 hl hf hn de,IG_,Nm (Dk (wl jh!) ζ (Dk jo! η Mf)),IH_,(LB ζ).trans bq_,II_,if a∈W.its then ζ W a η else W,IJ_,ifT (kT nS ζ) ?_,IK_,Cn ζ [1] fd_ t_ (fT ha!) l_,IL_,FR ft q1 q2 ρ ζ,IM_,Av ζ its,IN_,PE X ζ (tC η),IO_,(show Ec P w H h a ζ from η a _ e),IP_,KG (KG (m:=jw_) (OH ζ wp)),IQ_,Builtin.List.listTooLong ζ,IR_,Me X scope cl C ζ s2 H2 fp,IS_,KG (ζ η χ ?_),IT_,Mw h ζ es ep,IU_,st.mr.laid ζ st.or.sub qz!,IV_,cX ha.ok (cX J.ok ζ jo) dh,IW_,L'.map ζ,IX_,Af (Cu ζ bi_ η) cF!,IY_,Du t M' bg ζ,IZ_,sSeq ζ q2 ρ,I0_,Px W n ζ,I1_,Am ζ g η ρ M K,I2_,KQ (by rw[ζ,η];delta big;omega),I3_,Sum.inr ζ,I4_,ζ X.stack,I5_,PI X tg ζ,I6_,W.lookIn name ζ,I7_,(bV_).In ζ,I8_,ds.drop ζ,I9_,.bool_int ζ _ _,Ja_,.int_bool ζ _ _,Jb_,#[_,χ,KJ ζ],Jc_,Jb P w h ζ,Jd_,mup M1 p ζ,Je_,Jv (ζ x) (ζ y),Jf_,MV (by rw[ζ];exact(LH.mp η).1),Jg_,hQ h' (.inr ζ) b c (kp k),Jh_,f2 Al r! ζ,Ji_,ζ xs.reverse kp,Jj_,(by delta fT;rw[BL!,ζ];rfl),Jk_,Jv o.key ζ,Jl_,ζ hL wi a!,Jm_,i∈W.its/\ζ<=(F_).length,Jn_,lL (zR χ T.S6 aB pH! ζ),Jo_,(xs.drop ζ).take η,Jp_,WB ζ I.kIn o0! e eg_ fin,Jq_,mup M c (.dct ζ η),Jr_,Ak ζ (w2 Bl bR! η),Js_,[(_,.fn ζ),(_,.fn η)],Jt_,[.int ζ,.int η],Ju_,ζ cZ_ ie! (wl fb) ρ M K,Jv_,he (hx ζ z),Jw_,ζ a! (by rw[η i a!];exact q),Jx_,(show∃t,u=ζ b t from r),Jy_,CE outer ζ w H s Q u s',Jz_,getitemInPython_of_ne ζ,JA_,Oe ch_ fh ζ,JB_,hi (ζ▸hj),JC_,s.or.sub b u ζ,JD_,.bool_bool ζ _,JE_,.str_tuple ζ _,JF_,.tuple_str ζ _,JG_,kget ζ d,JH_,m1.nocell ζ,JI_,st.mr.nocell ζ,JJ_,Up (λp=>Jr ζ (Mp η p.1)) z_,JK_,Looks M hh (ζ aR!) τ,JL_,Fu t.B5 ζ i_ η,JM_,Ak 5 (Gi 4 (ζ t) E xz!),JN_,Dg K t.B5 ζ,JO_,Du t M ad ζ,JP_,¬Wn W.rows i x->R' ζ M,JQ_,Iz c a ζ ρ,JR_,ζ x hx q hq,JS_,ζ ba_ id! υ [] 0 ew!,JT_,f2 Bn ζ bl!,JU_,Bx (Cc jp!) GT m ζ M R',JV_,(Jo ζ).map mt_,JW_,Od ζ η M θ,JX_,Hw W0 je! ζ,JY_,λx=>!decide ζ,JZ_,f2 Cw ζ aE_,J0_,λ_ _ _ _ _=>ζ,J1_,Ba t.B7 "holds" 2 (Fb t) ζ η,J2_,Heap.get?_none_of_le ζ,J3_,Ga X jJ! (ζ X.K θ),J4_,W.kitOne KF (HU ζ) gO!,J5_,Zt KF ζ η G1,J6_,Nat.le_antisymm st.1 ζ,J7_,(∀ys,Paired F xs ys->ζ η s),J8_,λρ=>((ζ) ρ).bind Yn,J9_,ζ (by rw[η]),Ka_,L.row z1 z2 z3 n1 n2 ζ,Kb_,Gi ζ g E η ρ M K,Kc_,b7e (a3d ζ χ an!) ?_,Kd_,vJ (i:=4) nd χ ζ BF!,Ke_,Ab (wl am_) (Ab ζ ya!),Kf_,λhr nd=>ζ,Kg_,CF! Eh mg base Nr k af fd ps ζ,Kh_,λhr _=>ζ,Ki_,Em_ List.length ζ,Kj_,ifT (bF.trans (Em_ ψ ζ)) ?_,Kk_,o8! (bp++nmsL (O!).length ζ),Kl_,El_ aT ζ,Km_,if neg then !(ζ).isSome else(η).isSome,Kn_,.Call ζ η [] ai,Ko_,Eh! HQ ζ S kl ca W,Kp_,Eh! Bp M' .non ζ ao ar,Kq_,EF! ζ G' H',Kr_,CF! Hx ζ M0 G0 F0 η G' H' ae ρ',Ks_,aQ aK aW ζ η,Kt_,Eu_ bA_ (fC ζ),Ku_,Ei_ (LQ ζ η) dO!,Kv_,Ep_ ζ S kl ca,Kw_,o6_ n! ζ,Kx_,EJ! ζ x v vl vu lo hi sl Q I rx hs pl pu q,Ky_,kR b2! fE ζ η χ,Kz_,.Constant ζ j pos,KA_,ψ (E2_ D.bl ζ),KB_,o6_ e_ ζ,KC_,Eh! HR ζ S kl ca,KD_,LB (zG_ ζ LU),KE_,#[eP q2,k _ M2 _ G2 H2 r2 ζ m2 Ao.fn],KF_,Ck _ _ _ ζ η,KG_,eval ζ env,KH_,Fe! Om ζ fQ_ b rows',KI_,#[G,ρ,x,er,e1,λv G1 H1 s1 r1=>ζ],KJ_,Er_ (.inr ζ),KK_,Em! (μ ζ),KL_,jY b2r χ T.S2 χ T.S1 cS c3t ζ,KM_,o7_ Pw X.mg X.base ζ X.stack s H,KN_,EB! [.int h',aW!,.int tm,.tup ζ],KO_,#[(tg!).trans (m2 b gv_ λz=>ho ζ),η],KP_,aU ζ c! χ η an_,KQ_,gs! ζ 9 "outline_with_item" bC! (η t),KR_,Em_ Array.toList ζ,KS_,Fe! Om ζ p s rows',KT_,Er! ζ (ψ η),KU_,gs! Eh ζ η f fd ps sp,KV_,List.foldl n7! #[] (En! ζ bc!),KW_,ρ.set i ζ,KX_,if decide ζ=τ then _ else _,KY_,Cn ζ [4] (Ma x_ bW!) t_ W! ok_,KZ_,EZ_ (b5s hr χ b! a_ (a9p ζ)),K0_,ζ hb s Z H η I h,K1_,Fq_ boot_range (OA ta_ ζ tb!),K2_,Eo_ o ζ dR!,K3_,.inl (.inl ζ),K4_,EL! ζ "str",K5_,(ζ).getD .non,K6_,CF! FU ag ds ζ G1,K7_,EG_ ζ ao ar,K8_,EN! ζ "__init__",K9_,EW_ ζ s.heap es.toArray fT!,La_,E4_ ζ PySem.F.type_dict_get,Lb_,ζ ss (O!).length,Lc_,f1 Co (Ac ζ os!),Ld_,.ins ζ s.heap.objs.size [],Le_,Ff_ ζ u' lr_,Lf_,sSeq ζ (By η),Lg_,Ei_ e.symm ζ,Lh_,fD χ ζ,Li_,wpAny_Name ζ hd,Lj_,EJ! ζ x y v u Q I rx ry q,Lk_,Ff! xs.length ζ,Ll_,Ei! ζ b0!,Lm_,Ei! ζ bm!,Ln_,E9_ ζ .ellipsis,Lo_,EA! Mw lx_ [] ζ,Lp_,f2 Rm ζ B_,Lq_,Fe! Wn i ζ,Lr_,f2 Ah ζ r!,Ls_,(bJ ζ).trans ?_,Lt_,EB_ (cJ (ζ T) c! BS_ a9!),Lu_,.Subscript ζ η pos,Lv_,#[[ζ].toArray],Lw_,(fr ζ hc).trans (Eo! hc),Lx_,F0! ζ ns,Ly_,Ek! ζ (fC ay!),Lz_,E6! ζ ds us,LA_,wl (f2 Al ζ η),LB_,JS_ ζ η Cs! Cs_ mup_same Ct!,LC_,f2 Ah ζ ar!,LD_,bB (o7! [cg_,ζ]) χ b!,LE_,EJ! ζ Q I η,LF_,EN_ (iD ζ η),LG_,Eq! (zU ζ (iJ η)),LH_,bK kE! a2x χ T.R6 a2z (aD ζ aI),LI_,aG (cF ζ),LJ_,cN (rG (fP ζ)) (aG a1g) bR,LK_,Kh_ (bG po! (bD (bY ζ))),LL_,.Attribute o ζ η,LM_,aQ aK aW ζ (cP (aD η aI)),LN_,Cc! ζ (aE l! η),LO_,EX! (aQ eH eI ζ aB),LP_,(zF_ 1 ζ).trans η,LQ_,λ_ _ _ _ _=>bB (o7! ζ) χ b!,LR_,sZ (zO ζ (rT η)),LS_,aF (aV (i:=2) dU.nd χ b! ζ),LT_,nU (Kr! (b8o χ BL_ ζ)) χ,LU_,call (.builtin ζ) η,LV_,upd H a ζ,LW_,EH! ζ cJ!,LX_,aD bp_ (aD cV_ (aD ζ aI)),LY_,aV nd χ a4! ζ,LZ_,Ac aT_ (Ac bX! (Ac ζ Ae)),L0_,[y!,A_,b3_,ψ mn,fn!,N!,ζ],L1_,aT χ (Kl_ (iH ζ)) χ,L2_,Kf_ (aF hO_ (aF ζ dA_)),L3_,jo.extBut _ _ ζ η,L4_,Ay (Eh_ ζ η),L5_,dQ ak_ k3! ζ η m_,L6_,En_ (Kn_ ζ [a]) (η fo fa),L7_,(zF_ 2 ζ).trans η,L8_,dX (gE (eK ζ)),L9_,iB ζ fB! dZ,Ma_,aT ζ χ fT_,Mb_,cP (aD (Ks_ (Ez_ ζ aB) η) aI),Mc_,bI ζ χ,Md_,sK aK jN ζ η,Me_,dQ k0! fE ζ η χ,Mf_,mT (aD ζ aI),Mg_,Kf_ (aF kP! ζ),Mh_,aQ aK aW ζ η,ψ,some,χ,rfl,υ,none,τ,true,θ,false,ι,Option,ν,Prop,μ,List,ξ,absurd,ο,trivial,δ,Nat]
def z'a:String:=z [aa!,rs.length,ab!,(by kernel_rfl),ac!,aC aB,ad!,KQ a!,ae!,.ref C,af!,μ Sn,ag!,.rt d,ah!,W.txt a,ai!,.ref f,aj!,k_+1,ak!,#[[c].toArray],al!,i+1,am!,wl Q!,an!,(by delta big;omega),ao!,es.length,ap!,ψ ao_,aq!,[a,b],ar!,fC cC_,as!,A.units<cLine,at!,aA 3,au!,aC at!,av!,D×D,aw!,os.map Op.v,ax!,kF nS g!,ay!,.int i,az!,starEach aJ_ X.env=dX_::CG_ es,aA!,λx hx=>?_,aB!,#[ο,?_],aC!,m+1,aD!,h1.length,aE!,X.calm=τ,aF!,wl B_,aG!,μ D,aH!,bB nd χ b!,aI!,bJ (iI (qC χ g!)),aJ!,.bl b,aK!,.fn a,aL!,wl S!,aM!,Hw W0 eb_ W,aN!,i∈W.its,aO!,aN aH aM C! aB k!,aP!,aC aY,aQ!,.str s,aR!,.ref C0,aS!,r.length,aT!,Ac l_ Ae,aU!,ss.length,aV!,i∉own,aW!,.int n,aX!,Cj x=ψ k,aY!,os.length,aZ!,PE X a ta,a0!,"_law_script",a1!,Ai k X.A,a2!,Ab o_ Ad,a3!,Ab i_ Ad,a4!,Or.inr χ,a5!,W.txt x,a6!,Du t M ad V B,a7!,aA 4,a8!,aC a7!,a9!,aE q_ aO]
def z'aa:String:=z [aa_,μ α,ab_,μ bm_,ac_,.str k,ad_,ψ c5!,ae_,"name",af_,f ρ,ag_,aA 5,ah_,Bw M w O W,ai_,X.N[i]?=ψ x,aj_,ys.length,ak_,bZ v_,al_,Bp t M yy a ta wa out S kl ca,am_,Aa 9,an_,aJ aN_,ao_,.fn o,ap_,ψ x1,aq_,Hist S,ar_,"item",as_,X.A.units+64<cLine,au_,.tup bI!,av_,ME X own a fa,aw_,.inl χ,ax_,μ Env,ay_,f2 Ah l_ B_,az_,Bu 3,aA_,λi hi=>(HC_ hi),aB_,σ.length,aC_,us.length,aD_,cD χ,aE_,(fC by!),aF_,ι Int,aG_,.ref e,aH_,.int j,aI_,LF.mp z,aJ_,(e::es),aK_,#[χ,χ],aL_,z.length,aM_,Bz.refl sub,aN_,aJ (λ_ _ h=>aX h),aO_,Bm t M o O W B,aP_,.int h,aQ_,.lst [],aR_,EP X hb Z Q,aS_,I.ok.hd hc,aT_,Aa 6,aU_,(by rw[KO];dsimp only[List.length_cons,List.length_nil];omega),aV_,n+1,aW_,LB nofun,aX_,Cj y=ψ k,aY_,X.N.Nodup,aZ_,I.tok _,a0_,"_law_k",a1_,(sm_).any b_=θ,a2_,Aa 7,a3_,y.ds W i p0 (O!).length,a4_,(x,p),a5_,(λ_ _ e=>by cases e),a6_,aN aH aM Z_ aB k!,a7_,aA 9,a8_,B+1,a9_,KI _ hx]
def z'b:String:=z [ba!,ψ bL!,bb!,λd hd=>?_,bc!,its.toArray,bd!,Kt P w H h,be!,ψ v,bf!,Bh v u,bg!,vs.length,bh!,LB hk,bi!,.int 1,bj!,Aj st,bk!,λb h=>?_,bl!,fC .non,bm!,.type "tuple",bn!,.Name x c8,bo!,Jy W,bp!,x∈W.its,bq!,ψ x,br!,Cj d=ψ k,bs!,.int 6,bt!,.fn q,bu!,mixKind P w,bv!,Int->Addr,bw!,A!<64,bx!,"_law_ops",by!,.int 3,bz!,Ab D_ Ad,bA!,f2 Ah x_ aE_,bB!,#[_,e],bC!,[z!,ar_],bD!,w2 Bl i_ hb!,bE!,ψ n,bF!,aA 7,bG!,.int m,bH!,B+20,bI!,[aP_,aW!],bJ!,M p=ψ h1_,bK!,ME X own e f,bL!,scr ns,bM!,lo+hi,bN!,(env::outer),bO!,.str x,bP!,eZ I q c_,bQ!,.Call (.Name x p) aJ_ [] pos,bR!,As t.B7 "following" i_,bS!,A.handled=υ,bT!,its.toArray.size,bU!,Ew Ad,bV!,O6 S B,bW!,f2 Al x_ Q!,bX!,Aa 10,bY!,f ρ=ψ d,bZ!,μ D->ι D,b0!,.type "bool",b1!,(i,p),b2!,gJ v_,b3!,.str s,b4!,ψ s,b5!,Cg X.K G d u,b6!,q1.mono x2.g,b7!,Hx P w KF own M0 G0 F0 M G H Z ρ,b8!,ψ bt!,b9!,Array Value]
def z'bb:String:=z [ba_,Gj ops,bb_,.ref c,bc_,.tup xs,bd_,μ Addr,be_,Wo X.env.scope x,bf_,(by simp;omega),bg_,KQ hk,bh_,[bP_],bi_,Bu 2,bj_,tx.length,bk_,Ag->Em! aG!,bl_,.ref af,bm_,D×D×Bool,bn_,oF a1 a2 a3 a4 a5 a6,bo_,.fn o,bp_,aA 6,bq_,KQ χ,br_,[υ],bs_,.nx ρ',bt_,u.length,bu_,fs.length,bv_,.ref k_,bw_,g i j,bx_,fC (.int 16),by_,Hk θ,bz_,Aa 8,bA_,f2 Ah x_ B_,bB_,LB c_,bC_,Ci st,bD_,ψ bt!,bE_,Addr->ν,bF_,W.txt i,bG_,cG M_ bL l! aP! k!,bH_,aC a6_,bI_,ψ b,bJ_,λz=>?_,bK_,MR X.prog X.w X.K M G H,bL_,((k:δ):Int),bM_,k _ _ aw_ e,bN_,.int i,bO_,.int k,bP_,.ref a,bQ_,wl bl!,bR_,[L!,ae_],bS_,0<=B,bT_,.lst ys,bU_,[z!,cd_],bV_,K w.params,bW_,[bx!],bX_,ρ.set i cO!,bY_,Ag->Em! Bool,bZ_,.type "int",b0_,.type "str",b1_,cW aB,b2_,.tup kY_,b3_,ψ pl,b4_,aE M! aO,b5_,(.str k::r),b6_,ψ (.lst ops),b7_,[ap_,N!,T_],b8_,[R!,A_,cW!,b4!,io_,ij!,y],b9_,h.objs.size]
def z'c:String:=z [ca!,.ref it,cb!,Ga X (compareOp op) r,cc!,"_law_world_here",cd!,MX.mp hq,ce!,wl J!,cf!,.str "undo",cg!,μ fj_,ch!,scope.names,ci!,.lst ds,cj!,OR KF own G H Z ρ,ck!,D->Ag->Em! Ag,cl!,Az d=τ,cm!,aC dG,cn!,iE v_,co!,ML _,cp!,aC ag_,cq!,scr ns,cr!,x1.trans x2 m1,cs!,M a=ψ h1_,ct!,[aP_,cX_],cu!,SB kd a0 st,cv!,Rv W B,cw!,.inl χ,cx!,Wh X.env.scope x,cy!,PE X e te,cz!,λb J=>?_,cA!,(θ,Ey_ a),cB!,x.length,cC!,λ_=>χ,cD!,.ref p,cE!,[gH!],cF!,Bd o_,cG!,"place",cH!,λx=>!x.1,cI!,λx=>x.1.isSome,cJ!,Ab i_ a2!,cK!,wl ay_,cL!,TT W.its W.txt,cM!,X.pn++hb,cN!,An KF H ds vs,cO!,ψ d,cP!,er.grow s1,cQ!,y.aft W i p0 S,cR!,(u++n::v),cS!,Ag->Em! Fl,cT!,#[χ,h],cU!,.pre x b,cV!,aA 8,cW!,ψ p,cX!,KN h,cY!,cs.length,cZ!,s.cps.toList.length,c0!,.type "tuple",c1!,.str "cut",c2!,aD!<big,c3!,ME X own o fo,c4!,λq hq=>?_,c5!,.fn w,c6!,(by rw[KP];delta big;omega),c7!,Str×V,c8!,upd H a o,c9!,μ V->Hp->ν]
def z'cc:String:=z [ca_,.dct (xs.zipIdx.map λq=>gx!) h_,cb_,"_law_item",cc_,Aq ar!,cd_,"operation",ce_,ns.map V.int,cf_,Ac x_ Ae,cg_,"_law_one",ch_,Me X scope cl C g3! au bo fp,ci_,ψ rw!,cj_,DE X own b fb,ck_,aD C! aI,cl_,#[χ,χ,χ,χ],cm_,Str×D,cn_,dX (F6! a6_ aY),co_,aE l! aO,cp_,ep+1,cq_,MR P w KF M G H,cr_,ME X own b fb,cs_,ψ (.int base),ct_,[.lst h9_],cu_,W.its.map λi=>(i,D.lst lU_),cv_,λp hp=>?_,cw_,PE X b tb,cx_,(x==sq!)=θ,cy_,dM iP_ ?_,cz_,.int j,cA_,y.length,cB_,"_law_at",cC_,.int 2,cD_,f1 Cp aT!,cE_,"other",cF_,vs.toArray,cG_,sns W x,cH_,backToKw ai t2_,cI_,#[s.h,s.n,s.k+(m:δ)],cJ_,"found",cK_,TT V.its V.txt,cL_,(by rw[q];simp),cM_,.inl z,cN_,H p=υ,cO_,Ao KF G d v,cP_,s1.trans s2,cQ_,.Name x p2,cR_,RW t M0 M r f p kf kp,cS_,ds.map ψ++En! (jn! - f_) υ,cT_,.fol x b,cU_,B<=B',cV_,aA 10,cW_,(by intros;kernel_rfl),cX_,.int m,cY_,ψ au_,cZ_,wl fo,c0_,μ DictEntry,c1_,mup_ne J,c2_,.tup b5_,c3_,s.cps.toList.zipIdx.map h6!,c4_,l[j],c5_,W.its.length,c6_,(by simpa using e),c7_,λc=>?_,c8_,LR e,c9_,μ Expr]
def z'd:String:=z [da!,ha hb s Z H _ I h,db!,kL _,dc!,∀x,foldedSetIterable iter X.env x=pure x,dd!,ns.length,de!,Gj S,df!,By (fC I!),dg!,ps.zip us,dh!,#[us,[]],di!,.none,dj!,wl jD!,dk!,[R!,N!,ψ s.v],dl!,#[0,0,0],dm!,f1 Be gM_,dn!,"_law_number_here",do!,Cd X scope NF ix,dp!,∀y∈ch!,y.2≠.cell,dq!,pcs g5_,dr!,.tup ds,ds!,DE X own e f,dt!,ψ y.m,du!,wo rows i,dv!,λb h=>.inl h,dw!,Dt d d',dx!,[cg_],dy!,ψ kI_,dz!,Gf ks k,dA!,mkHash P w k,dB!,bN T.U7 T.V3 l!,dC!,KQ an!,dD!,Str.ofString "",dE!,upd H s.heap.objs.size BQ_,dF!,[ap_,N!,b8!,T_,lG_],dG!,[e,it],dH!,.int o.h,dI!,W.rows.length,dJ!,Cg X.K G,dK!,cD h2,dL!,.int i t,dM!,Av xs us,dN!,a==sysModules,dO!,PD _,dP!,LN _ z,dQ!,behindInMarks op b=θ,dR!,eval o X.env,dS!,LP _ χ,dT!,f2 b J,dU!,xs.isEmpty,dV!,.int n,dW!,ψ (i:Int),dX!,backToKw pos t2_,dY!,shn W x,dZ!,Ac u_ Ae,d0!,Dw X.K fd ps ds,d1!,Av c6 ds,d2!,Qn W,d3!,.ref b,d4!,wl bz_,d5!,ψ i,d6!,.str "put",d7!,wl r!,d8!,n5_=τ,d9!,#[s.h,s.n,s.k+vk!]]
def z'dd:String:=z [da_,.Name x pos,db_,hF yy ta wa out,dc_,i.natAbs,dd_,"_law_deed_here",de_,f1 Be aT!,df_,f2 Ah l_ ar!,dg_,vs++c6,dh_,[cd_],di_,Ac Q! Ae,dj_,.str ak!,dk_,As t.B5 "taken" i_,dl_,#[t,χ],dm_,Eu N ps bj!,dn_,B<=800,do_,scope.kind=.function,dp_,tx.cps.toList.length,dq_,.fn a,dr_,(d::ds),ds_,ψ ha_,dt_,.Name x p2,du_,(s,p),dv_,("parents",.fn a1),dw_,λ_ _ _ _ _=>sH,dx_,Cd.cons Cd.nil,dy_,Cj a=ψ ka,dz_,aE l! a9!,dA_,aG (bM q_),dB_,.str "write",dC_,kget h1 d,dD_,ψ (.int most),dE_,hO.noOb cW_,dF_,λx hx=>(by simp[W0]at hx),dG_,ms.length,dH_,Tj prog w A s a0 kd r,dI_,[ad_,A_,bq!,b4!],dJ_,seqObj "list" #[] 0,dK_,#[χ,k],dL_,Value.none,dM_,[a,b,c],dN_,B<3800,dO_,X.s₀.heap.objs.size,dP_,Bool->Hp->ν,dQ_,.Compare a [op] [b] pos,dR_,hs S o.h,dS_,S++[o],dT_,[aK!],dU_,.dK h1,dV_,ψ ai!,dW_,To X.K C,dX_,(θ,Ey_ e),dY_,.fn t.A0,dZ_,Eh X.prog X.w X.K X.mg X.base CX k f fd ps sp,d0_,Jk CX X E,d1_,.str "cut",d2_,As t.B6 "rows" i_,d3_,LB a!,d4_,S.map Op.v,d5_,λρ M R=>R τ M,d6_,.str ak!,d7_,([]:μ Keyword),d8_,μ nU_,d9_,#[_,e,χ]]
def z'e:String:=z [ea!,[z!,n7_],eb!,S++[od!],ec!,ι Addr,ed!,HR t M 6 a ta wa S kl ca,ee!,Aq J!,ef!,i∈own,eg!,k _ G H aM_ Ao.int,eh!,k _ G H aM_ Ao.bl,ei!,S++pk!,ej!,Ao X.K H d v,ek!,bN T.U5 T.W5 l!,el!,Sum.inr y,em!,x∈W.its,en!,PH ..,eo!,λq hq=>?_,ep!,aG (bM kV!),eq!,sgn h n,er!,.int 0,es!,l.map b_,et!,aT χ χ χ,eu!,A.units+1<cLine,ev!,bI χ χ,ew!,mup M p ev_,ex!,qk!<64,ey!,(i:Int)+1,ez!,[ap_,ap!,b8!,ψ x.v,ψ x.nm],eA!,Lk M w O W wt wn qa,eB!,[R!,A_,cW!,b4!,io_,ip!,ij!],eC!,wl fx,eD!,Ik g,eE!,(E0! a DM_).push (seqObj "tuple" us.toArray 0),eF!,MY.mpr k!,eG!,xs++ys,eH!,s.heap.FunFrames base bN!,eI!,Addr×Obj,eJ!,Z.length,eK!,[ψ aQ!],eL!,AN X pn f,eM!,(t.A0,a),eN!,(a,oe),eO!,eval e X.env,eP!,X.mg x=υ,eQ!,.BoolOp .And (b::rest) pos,eR!,dM da! ?_,eS!,.BoolOp .Or (a::b::rest) pos,eT!,.bl τ,eU!,[v,ov,iv],eV!,hs S h,eW!,rv.length,eX!,((0:δ):Int),eY!,X.mg "range"=υ,eZ!,rawInt T,e0!,(show θ=τ from hs),e1!,s.heap.push i9_,e2!,I.tok _,e3!,OS t M a o O W,e4!,getMethod ov m pl,e5!,rest.length,e6!,fC (.int 4),e7!,us++ds,e8!,.Call ua_ aJ_ [] pos,e9!,Dq t]
def z'ee:String:=z [ea_,#[RB _ _,w0],eb_,pS S,ec_,KI _ hy,ed_,.lst bp,ee_,.lst vs,ef_,Gy X.K r g,eg_,(λz=>nomatch z),eh_,λd hd=>?_,ei_,KN hq,ej_,us.toArray,ek_,iQ aO,el_,(by rw[z.1,z.2]),em_,aD Z_ aI,en_,i∈W.its/\Hi W x/\¬Lq_ x,eo_,aC aO!,ep_,aC fM!,eq_,λ_ _ _ _ _=>vR,er_,Jb P w s.heap k u,es_,.int k,et_,.str k,eu_,ψ 1,ev_,.dct [] 0,ew_,(qL_).Nodup,ex_,ψ o.v,ey_,dE d es ep,ez_,j - 1,eA_,rs.map Bj,eB_,Int×Int,eC_,Aa 0 ρ=ψ c5!,eD_,(qa i,Dh.lst fH_),eE_,λ_=>τ,eF_,λK hK=>hK,eG_,μ α->ν,eH_,∀b∈frA bN!,∃o,n.get? b=ψ o,eI_,X.A.handled,eJ_,(by delta Yi;omega),eK_,Z.set i be!,eL_,[ψ c2_],eM_,#[_,i1,oI Y],eN_,Av vs us,eO_,kW Y,eP_,x≠"__name__",eQ_,.BoolOp .And (a::b::rest) pos,eR_,.BoolOp .Or (b::rest) pos,eS_,.UnaryOp .Not a pos,eT_,Mr i,eU_,(EC! "ours",.int yy),eV_,((dR_).length:δ),eW_,#[_,dS!,χ,χ],eX_,Gl X "range",eY_,(θ,Ey_ b),eZ_,binaryOp .Add,e0_,fr b J,e1_,.ins C dx fs,e2_,"_law_rows",e3_,a9.atName,e4_,(x::xs),e5_,["sign"],e6_,(a5!).length<5000,e7_,#[nx_,?_],e8_,Aq r!,e9_,As t.B7 "preceding" i_]
def z'f:String:=z [fa!,MZ gI_,fb!,.builtin id,fc!,"many",fd!,.ref k_,fe!,Bd D_,ff!,#[.bl _,H,I,χ,?_],fg!,[l++[u]],fh!,[o.nm],fi!,.ref fa,fj!,Ax H H',fk!,μ v1!,fl!,pcs l,fm!,bp.length,fn!,ψ uo,fo!,Me X scope cl G2.objs.size g3! s2 H2 fp,fp!,(jU!).drop p0,fq!,upd H p o,fr!,Js own Z G H,fs!,Cc (fT df_),ft!,r1.mono s2.g,fu!,fs ρ,fv!,(by simp[e]),fw!,#[G,ρ,_,er,e1,xE!],fx!,SR KF own G0 F0 G H Z ρ,fy!,fi ρ=ψ y,fz!,((hl!).length:δ),fA!,V.ref p,fB!,bD (bY fW),fC!,fH T.T2 χ,fD!,("rows",.fn a2),fE!,(by show A.units+1+De xs<cLine;omega),fF!,(·.length),fG!,mup_ne Y,fH!,Cj i=ψ ki,fI!,NG gz χ χ ?_,fJ!,if _ then _ else _,fK!,.tup hG_,fL!,.Tuple sm n1 tp,fM!,aN aH aM L_ aB k!,fN!,KF.In h,fO!,(p1!).Nodup,fP!,[er!,er!,er!,er!],fQ!,LD c_,fR!,.inl g3_,fS!,KQ (by dsimp only[List.length_cons];omega),fT!,Hd h1,fU!,.tup Bd!,fV!,MA X own es fs,fW!,Cr N,fX!,ψ qm_,fY!,Tq X.K H dx,fZ!,[bs!,b],f0!,q.2.length,f1!,q2 ρ M R,f2!,Mh->ν,f3!,λh=>?_,f4!,((j+1:δ):Int),f5!,n<=a0.size,f6!,rs[k],f7!,q.1=x,f8!,(a,oa),f9!,l.map f]
def z'ff:String:=z [fa_,As t.B6 "texts" i_,fb_,f2 Ah x_ ar!,fc_,[L!,ar_],fd_,Dx l_,fe_,MD J,ff_,if(d7_).isEmpty then 0 else 1,fg_,λx=>if x=n then[]else W.txt x,fh_,.bool τ,fi_,cds i rs,fj_,Str×Addr,fk_,(by rfl),fl_,.str tx,fm_,ψ fl_,fn_,"_law_base",fo_,(bj_:δ),fp_,Bd (wl (fC I!)),fq_,Ax.refl G,fr_,dS ab!,fs_,fa ρ,ft_,s2.trans s3,fu_,v.headD .non,fv_,ψ (.lst hl!),fw_,(y::·),fx_,Aa 0 ρ=ψ ks_,fy_,ψ bO_,fz_,ψ ks_,fA_,Ij W n rows',fB_,a∈W.its,fC_,Az d'=τ,fD_,.row x b,fE_,jF T,fF_,fS (n:=9) χ,fG_,#[1,?_],fH_,W.num i,fI_,OZ ?_,fJ_,D×D×Bool->ν,fK_,OO B,fL_,λ_ _ _ _ _=>eo_,fM_,f1 ρ=ψ a,fN_,h.Ns mainGlobals mg,fO_,cZ 3,fP_,LM χ,fQ_,if Hi W a then a else Cq,fR_,h1.map b_,fS_,Gh P w KF G h1 es,fT_,iH a_,fU_,.tup [c1!,a,.tup hG_,cX_],fV_,h3.typeIs,fW_,ψ (.int m0),fX_,ψ item,fY_,Cj y,fZ_,MA X own aJ_ fs,f0_,st.grow x1 m1,f1_,mup M p (.dct (Bq h1 y v) (Hj h1 y ep)),f2_,.bl h8_,f3_,(by exact(cX!).elim),f4_,wpS_get ?_,f5_,(show i=j by omega),f6_,[ad_,A_,cW!,b4!,io_,ip!,y],f7_,[ad_,bq!,A_,y],f8_,KY _ (KY _ c_),f9_,p1 χ]
def z'g:String:=z [ga!,Cg KF G,gb!,(it_).zip ds,gc!,a==b,gd!,.own a,ge!,A.frames=ψ bN!,gf!,∀b,k_<=b->n.get? b=υ,gg!,λ_ q=>q,gh!,.frz o u,gi!,λz=>J iF_,gj!,(xC==mD_)=θ,gk!,μ Stmt,gl!,.str x,gm!,PT X a tA,gn!,X.wish E,go!,PassesOwn e_ X.A X.env X.xe,gp!,ca h,gq!,(by rw[ht];simp),gr!,hf b J,gt!,j - i,gu!,mup M q aQ_,gv!,hp.objs.size,gw!,2 ^ 64,gx!,(D.int qX_,q.1),gy!,ms.map Op.nm,gz!,ms.map Op.v,gA!,List.range m,gB!,"_law_more",gC!,Jx .str de! [],gD!,[aK!,x],gE!,PA X es t,gF!,PA X aJ_ t,gG!,I.hok.fresh v!,gH!,"operations",gI!,Ll N vs,gJ!,Fv t.B7 1 (Fp t) Ad,gK!,Ak 1 nG_,gL!,[L!,ar_,"parent","sibling"],gM!,.lst d4_,gN!,Bu 4,gO!,.type T,gP!,.lst cG_,gQ!,Ak 4 (wl (FQ! Q!)),gR!,Zn x,gS!,As t.B5 "waiting" i_,gT!,its.length,gU!,((O!).length:δ),gV!,w.txt i,gW!,Rl al.heap H,gX!,rn s aC!,gY!,[a0!,a0_],gZ!,.int 9,g0!,sns V i,g1!,.str "",g2!,Ac a2_ Ae,g3!,NL++NF,g4!,fC jY!,g5!,G2.objs.size,g6!,(by dsimp only[List.length_nil];omega),g7!,∀y∈ch!,y.2=.free->wC_,g8!,gn _ I2.lt,g9!,Ao KF H d v,gs!,ζ P w K mg base]
def z'gg:String:=z [ga_,KI _ hd,gb_,.str x t,gc_,tupleKind bu!,gd_,.ref x,ge_,env.frame=ψ L,gf_,frA bN!,gg_,bC (cO q hn),gh_,lT o,gi_,λb o e n J hx=>?_,gj_,X.pn++hb++[eN!],gk_,J hb s1 Z H1 _ I1 q1,gl_,hs os h,gm_,.int 15,gn_,bI χ ev!,go_,kl.map λh=>(D.int h,D.fn gp!),gp_,(by rw[hA.ob];simp),gq_,fL e! hA.ob hF2,gr_,(by simpa using J),gs_,2 ^ 62,gt_,ha pos hb s Z H _ I h,gu_,(∀b∈fp,H' b=υ),gv_,dH J hq,gw_,dS χ,gx_,i != 0,gy_,ms.map λo=>ne!,gz_,KG ?_,gA_,"_law_way",gB_,(by decide+kernel),gC_,Ai k A,gD_,.str "bin",gE_,ψ V!,gF_,Ai R_ X.A,gG_,X.mg x=ψ ae!,gH_,envOfC qual scope s.heap.objs.size f cd,gI_,(by simpa using hi),gJ_,Cc (Ep (fT jm_) jp!),gK_,.int a t,gL_,(ψ o.v::r),gM_,Ac S! Ae,gN_,wl (fC x!),gO_,Tg xs lo hi,gP_,f2 Ah bA! B_,gQ_,Ab dj! (KP! jD_ bA!),gR_,Fc t,gS_,wl vj!,gT_,rn s m,gU_,((c+1:δ):Int),gV_,Bu 7,gW_,wl aT_,gX_,Bu 6,gY_,Ac ay_ (Ac nq_ Ae),gZ_,NameKind.free,g0_,((jU!).drop p).take m,g1_,"_law_most",g2_,b9.sub x c h,g3_,.inr z,g4_,.ListComp gc wr_ scope pos,g5_,tx.cps.toList,g6_,(λv z=>by cases z),g7_,∀cl C au bo fp,PG ch_ tg g,g8_,.str "rows",g9_,V.ref a]
def z'h:String:=z [ha!,f2 Au ay_ u_,hb!,wl (fC w0_),hc!,w2 by_ dj! bD!,hd!,Bz.refl er.sub,he!,λ_ _ _ h=>h,hf!,rE F p m σ k y6 (ψ lQ_),hg!,ft ρ,hh!,f2 Al J! a2_,hi!,f2 Ej e6! S!,hj!,Bu 13,hk!,Bq l d v,hl!,rws W i,hm!,.tup pa!,hn!,wl fi,ho!,kput_len _ _ _,hp!,(Ia_ nA!).any b_=θ,hq!,Ps F0 G1,hr!,W.its++[n],hs!,bK bQ dD χ T.S3 cU ck_,ht!,An X.K H es ws,hu!,ad .par,hv!,Bh v' u',hw!,ad r,hx!,μ cm_,hy!,Hi W x,hz!,.Name y py,hA!,aD zA_ aI,hB!,mup_ne h2,hC!,(λr M'=>match r with|.rt d=>R d M'|.nx _=>Fl! M'),hD!,s.heap.IsTuple l2 ys,hE!,setT W i l,hF!,.int x,hG!,[hF!,hF_,cz_],hH!,.tup hG!,hI!,CG s.heap l1 l2,hJ!,List.range m.toNat,hK!,(s,c,τ),hL!,aE bH_ (aE bH_ kY!),hM!,["_law_row"],hN!,wl f1,hO!,μ Ux,hP!,bN T.U5 T.W6 l!,hQ!,aG (bM M!),hR!,μ MK,hS!,ks.Nodup,hT!,(υ,()),hU!,Mw s.heap a es ep,hV!,fs ρ=ψ ds,hW!,.tup [hV_,a,b],hX!,.tup [.str "drop",a],hY!,f ρ M R,hZ!,qk!<=100,h0!,MT X own a ft,h1!,((m:δ):Int),h2!,qW I sub r hk,h3!,cs.map λc=>(ak!:Str),h4!,(if _<=big then _ else υ)=_,h5!,yC g! g! g!,h6!,sgn h m,h7!,.tup ct!,h8!,ψ d,h9!,#[_,_,χ,g!,g!,χ]]
def z'hh:String:=z [ha_,.int (p0:δ),hb_,[cc!,cb_,wX_,wY_],hc_,runsF [] j9!,hd_,p+m - k,he_,D->D->ι D,hf_,"_law_ours",hg_,DT X own a ft,hh_,ψ (.tup [f,x]),hi_,sub.free hp,hj_,ψ c5!,hk_,He l d,hl_,List.range n,hm_,Bz.laid x.sub hp,hn_,er.grow x,ho_,starEach (e::[]) X.env=dX_::Gc! starEach,hp_,Om rows i p s rows',hq_,λx hx y hy=>?_,hr_,if x=n then[]else W.txt x,hs_,An X.K H ds vs,ht_,(by kernel_rfl),hu_,Ao X.K H d' v',hv_,.nm x,hw_,aD L_ aI,hx_,aD at! aI,hy_,.dir b,hz_,eE T,hA_,bH ak_ cB a7_ aY m_,hB_,(by size_fits),hC_,s.heap.IsTuple l1 xs,hD_,.ref z,hE_,aV nd χ b! ac!,hF_,.int y,hG_,[hF!,hF_,.int z],hH_,λ_ _ _ _ _=>l!,hI_,B<3900,hJ_,(hJ!).map λk=>.tup kT_,hK_,aC kV_,hL_,s.cps.toList.zipIdx.map eq!,hM_,f2 ρ=ψ b,hN_,ψ N_,hO_,aV nd χ b! fO,hP_,(show v=.none from hy),hQ_,(show u=.none from hx),hR_,ks.length,hS_,Lg ks k,hT_,wo W.rows i,hU_,cZ 2,hV_,.str "put",hW_,.tup [qh_,a,b,c],hX_,Rs P w KF own G H Z ρ M,hY_,∀o∈ops,Ti o,hZ_,Yg X.prog X.w X.K r gm,h0_,bN T.U6 T.V6 l!,h1_,.dct h1 ep,h2_,dL h5,h3_,aC cV!,h4_,aC bp_,h5_,Dd M1 d,h6_,W.num a,h7_,mup M s.heap.objs.size ev_,h8_,k=="undo",h9_,ops.map Op.v]
def z'i:String:=z [ia!,(ba_).map Op.v,ib!,Fn own Z H1,ic!,∀o∈ops,DG o.d,id!,.lst h9_,ie!,wl fa,if!,e≠it,ig!,(x::os),ih!,kget h1 y,ii!,Od ft ρ M θ,ij!,ψ ii_,ik!,a0.toList,il!,ψ (.lst (σ.map Op.v)),im!,#[Y,h2],in!,.fn wt,io!,.inr aw_,ip!,ψ (.int (a:δ)),iq!,fx ρ=ψ x,ir!,.done (.ret .none),is!,(l2!).zip ds,it!,us.toArray.zip ej_,iu!,(FJ! gb!).map kf2,iv!,.ListComp gc wr_ scope ai,iw!,(show h.get? a=ψ _ from x),ix!,Dl o.d=υ,iy!,H a=υ,iz!,Rl h H,iA!,I.ok.bs b o e,iB!,b∈X.ex\/dO_<=b,iC!,out b o e hx,iD!,Ji ms! P w KF mg base N qual scope f cd A outer s H E,iE!,I.base.keep b o e n J hx,iF!,λb J=>?_,iG!,λz=>hc iF_,iH!,Ka mv! iG_,iI!,(X.env::X.outer),iJ!,TX X M0 G0 F0 own bt q1,iK!,∀gb,LU! gb=(do let v <-gb;standAt e.pos;holding [v] mH!),iL!,(by simpa using hl),iM!,.inl h,iN!,#[ok.mod,ok.kind,ok.glob,ok.blt,iO!,ok.inj,ok.has,ok.cab,ok.hd,iN_,ok.stk,ok.exf,ok.bs,ok.bsz,ok.noex,ok.exfs,ok.funs,ok.frf],iO!,ok.above,iP!,(st::rest),iQ!,ψ e,iR!,full.toArray,iS!,[eU_,sV_],iT!,[eU_,sV_,(Str.ofString "waiting",.fn wa)],iU!,It->Hp->ν,iV!,(by rw[hA.wt];simp),iW!,hA.cl h hh,iX!,λb o J e=>kk b o gr_ e,iY!,ψ (.int h),iZ!,KY _ z,i0!,I7.unpinned,i1!,μ V->Hp->VK->ν,i2!,if h=o.h then q else ca h,i3!,decide (i<=j),i4!,Ga X (compareOp jw) r',i5!,.Compare a [op,jw] [b,c] pos,i6!,[aK!,.lst gz!],i7!,K.In s.heap,i8!,hH.names,i9!,[R!,nk_]]
def z'ii:String:=z [ia_,DG o.d,ib_,λx hx=>hd x a9_,ic_,Jx .str ba_ [],id_,(∀b,M b≠υ->M' b=M b),ie_,.dct [] 0,if_,(o::os),ig_,.int (k:δ),ih_,Pu f ρ M d,ii_,.int (k:δ),ij_,.int o.tm,ik_,OU _,il_,x - 1,im_,k3 a b c,in_,KI _ KM,io_,ψ (.lst eA_),ip_,L'.length,iq_,seqObj "list" us'.toArray n',ir_,.lst l,is_,es.map k7_,it_,us.zip us,iu_,W.its++[D.tup bI!],iv_,o.ExactDict,iw_,∀b u,h.get? b=ψ u->Es! b=ψ u,ix_,.own x,iy_,s.heap.update T (Obj.mapFields (·.setIfInBounds 3 dL_)),iz_,.inr a0,iA_,LR ho,iB_,(∀x c,Ax! x=ψ c->c≠b),iC_,Kt X.prog X.w H' h',iD_,wf b o e hx,iE_,frs X.stack,iF_,(by simp[z]),iG_,cs.map F!,iH_,Wg X a pn,iI_,TP X hb Z Q,iJ_,PE X e t,iK_,λj hj=>(HC_ hj),iL_,its.toList,iM_,.Name xC p3,iN_,ok.frames,iO_,PS X st t,iP_,he hb s Z H _ I h,iQ_,St->Hp->ν,iR_,#[.int _,H,aZ_,O_,q],iS_,δ->Heap->ν,iT_,pyNext ca!,iU_,kl.length,iV_,(by rw[Iq! hh];simp),iW_,λb J=>(gr!).1,iX_,qD _ _,iY_,.int (-1),iZ_,LN _ hp,i0_,λ_ _=>χ,i1_,CI r ta tb,i2_,LF.mp y,i3_,(xs.take i).zipIdx.map λq=>gx!,i4_,lastMarks [op,jw] [b,c]=θ,i5_,(by simp![KU];omega),i6_,if i<0 then -i else i,i7_,Hist (S++ms),i8_,Hz Nh ms,i9_,W.emptyDict]
def z'j:String:=z [ja!,W.instObj C k_,jb!,Bp t M yy a ta wa .non S kl ca,jc!,H a=ψ e1_,jd!,True.intro,je!,Md gC! de!,jf!,HQ t M yy a ta wa S kl ca W,jg!,f2 ρ=ψ c,jh!,fC jg_,ji!,μ ns!,jj!,Nk (Iq t) 0 dZ!,jk!,.Call ua_ [] [] pos,jl!,Str->Em! NameKind,jm!,LO.mp nd,jn!,N.length,jo!,wl (fC gD_),jp!,fT uf_,jq!,((hs S yy).length:δ),jr!,#[_,ho,χ],js!,((sIx n 0 lo:δ):Int),jt!,List.replicate 16 [D.int 0],ju!,(none::r),jv!,ψ gM!,jw!,[jv!,jv_,h8!,ψ uD_],jx!,KJ (Jb_ h),jy!,f2 Ah nB_ B_,jz!,f1 Cs aT!,jA!,λ_=>Au,jB!,.int s.n,jC!,.bl (fol s u),jD!,f2 Ah x_ r!,jE!,.str "move",jF!,fC jE_,jG!,Rw M p σ,jH!,aj_<=sizeLine,jI!,(show θ=τ from fx),jJ!,compareOp .In,jK!,.dT h1,jL!,"fresh",jM!,Dx u_,jN!,∀x∈S,x.tm<o.tm,jO!,KG fin,jP!,l.most=ψ n,jQ!,List.Pairwise.nil,jR!,λv _=>v=.bl τ,jS!,[dB_,i,b,b3!],jT!,bh H!,jU!,(F_).map toSn,jV!,KI _ hp,jW!,f1 Eo cf_,jX!,[.non,.non],jY!,.int 5,jZ!,ps.map F!,j0!,hO.add b0 a! a! gd,j1!,(W_,Ul us n),j2!,f2 Gu Q! r!,j3!,gn _ (uy p hp),j4!,p0<=2000,j5!,.int (p0:δ),j6!,.str i,j7!,λ_ h=>.inl h,j8!,ρ.length,j9!,(fp!).take m]
def z'jj:String:=z [ja_,Ju f v fs,jb_,(show False from r),jc_,"_law_hand_here",jd_,(∀b,M b≠υ->b≠a->M' b=M b),je_,Dy (fT (Jh "tuple" l_)),jf_,f1 ρ=ψ b,jg_,.str "root",jh_,A.under (GM_ us),ji_,.List es pos,jj_,Pt 0 1,jk_,fC d1_,jl_,((p,w)::P.zip vs),jm_,f2 Bn u_ bl!,jn_,"names",jo_,1+Qi S,jp_,.ref t,jq_,(by simpa using hv),jr_,#[_,kj,χ],js_,.ref sl,jt_,Ab ce! Ad,ju_,.lst d4_,jv_,ψ mT_,jw_,Builtin.Tuple.tupleExact _,jx_,Hk τ,jy_,fC cf!,jz_,Hm fd_,jA_,.int s.h,jB_,Af gQ! (Ap (Ee (Cc (Dy uN!)) (wT (w2 jA! (My o_ aL!) (wl jy_)))) (Bt D_ aL! gN_) Bi),jC_,[ψ s.v,ψ u.v],jD_,wl fb_,jE_,.str "write",jF_,.str "set",jG_,mup M c (.lst [s.v]),jH_,(show(1:Int)>0 by decide),jI_,(s::ss),jJ_,wl va_,jK_,wl (Gn r!),jL_,[rn s aC!],jM_,#[e,?_],jN_,wl nq_,jO_,backTo ai vv_,jP_,ns.map .int,jQ_,#[[u],[]],jR_,λ_ _ _=>False,jS_,Array DictEntry,jT_,Es st,jU_,ForInStep.yield r,jV_,"_law_found",jW_,names.map λ(n,k)=>if or_ then(n,NameKind.cell)else(n,k),jX_,flt b J,jY_,Int×Str,jZ_,(O!).length+1,j0_,pl - 1,j1_,"_law_many",j2_,wl (fC g8_),j3_,∀a vs,Fj! a vs->Fs KF H' a vs,j4_,runsF [] oA_,j5_,ψ (.lst F_),j6_,upd H p ee_,j7_,λb u e=>?_,j8_,Bz G H G' H',j9_,Ak 5 (w2 Bl bD! dj!)]
def z'k:String:=z [ka!,∀j∈ix,j∉own,kb!,kO hN hv hd cf,kc!,(∀v G' H',E0_ G H->EY! G'->Q v H'),kd!,f2 g fa fb,ke!,#[G1,ρ,d,cP!,e,xE_],kf!,f2 Ah u_ J!,kg!,qZ h.ok,kh!,Dw X.K fd ps [],ki!,cE sub qa,kj!,Bz.laid sub hp,kk!,Aa 16,kl!,.builtin "isinstance",km!,.type "list",kn!,μ Bool,ko!,l.drop p0,kp!,λx ii hy=>?_,kq!,k.length,kr!,bnd d ρ,ks!,Gr t M r f p xs,kt!,((mo:δ):Int),ku!,#[(pg!).toArray],kv!,ψ g9_,kw!,[T_,ψ jY!],kx!,.tup [.fn a5,ju_],ky!,λx=>?_,kz!,Fs X.K H a vs,kA!,Dt A1! ze_,kB!,∀(us us':n_),Av vs us->Av ws us'->∀(j:δ) u u',us[j]?=ψ u->us'[j]?=ψ u'->Jz! A.in1 u u' kA!,kC!,a8.length,kD!,mU ds es hl,kE!,qK χ,kF!,∀q,Iw V q->bg q=ad q,kG!,.ref ad,kH!,(by rw[e1];exact J),kI!,x.cps.size,kJ!,[bo_,x],kK!,#[_,dS!,χ],kL!,IsZip s.heap z TI TO .none,kM!,IsPair s.heap TO p q,kN!,s.heap.IsTupleIter i2 l2 k2,kO!,KG (VY ?_),kP!,a4z zV_,kQ!,bK bQ dD χ T.S3 cU (aD a7! aI),kR!,aQ aK aW Z_ at!,kS!,w.nm i hi,kT!,α->ν,kU!,(U++hK!::v),kV!,aC fW,kW!,.inr aw_,kX!,λc hc=>?_,kY!,aE bH_ aO,kZ!,Ka xs ys,k0!,mY v_,k1!,A.deeper (Fr_ x bj! af ah),k2!,oH l c k,k3!,Gy.m cB,k4!,aC (oK aB),k5!,Mv P w h es ks,k6!,Jy fA_,k7!,(hO c).mpr z,k8!,aD aB aI,k9!,lL kG_]
def z'kk:String:=z [ka_,"_law_name",kb_,F.drop k,kc_,fb ρ,kd_,#[x,χ,?_],ke_,y.gd W i p0,kf_,DA X own es fs,kg_,DA X own aJ_ fs,kh_,Am 1 La bz!,ki_,f1 Be g2!,kj_,Cc (fT (Aa 11)),kk_,wl (Aa 12),kl_,.type "NoneType",km_,lE s y1 cQ! a y4 i y6 y7 ds_ y.w dt! cm (ψ uq) bq bv bw bj be,kn_,bs.map Value.bool,ko_,λV hV=>?_,kp_,Bz.refl s2,kq_,starEach (a::[]) X.env=cA!::Gc! starEach,kr_,λv H2 hy=>?_,ks_,.fn r,kt_,An KF G ds vs,ku_,λj hj=>?_,kv_,LH.mp Y,kw_,eval bn! X.env,kx_,[.Subscript bn! ix p2],ky_,λa b hm=>?_,kz_,(by simpa using h),kA_,us.toArray.size,kB_,[(Str.ofString "following",D.fn f),(Str.ofString "preceding",D.fn p)],kC_,pY rd re rv a8 (h us us' rv a8),kD_,mQ ds es hl,kE_,V.ls x b,kF_,cE sub q,kG_,eR C!,kH_,aN aH aM a6_ aB k!,kI_,.fn (ad .ob),kJ_,ys.map fF!,kK_,ZipApart z TI TO i1 i2 l1 l2,kL_,IsPair s.heap TI (.ref i1) (.ref i2),kM_,s.heap.IsTupleIter i1 l1 k1,kN_,(∀c ob,c≠z->c≠TO->c≠i1->c≠i2->rX_ c=ψ ob->Es! c=ψ ob),kO_,(hO b).mpr z,kP_,setT W i (cutT g bF_),kQ_,LP _ χ,kR_,rQ hi,kS_,LX ho! a!,kT_,[hF!,hF_,.int (z+(k:δ))],kU_,setT W i kU!,kV_,aN aH aM at! aB k!,kW_,aE au! aO,kX_,aE ac! aO,kY_,[aP_,aW!,.int (k0:δ)],kZ_,E!<=16,k0_,wl f2,k1_,W.keepIn KF ai!=τ,k2_,(by rw[hd];simp),k3_,aG kC,k4_,.inr χ,k5_,plc es dA!,k6_,KJ (KJ h),k7_,(·.key),k8_,Mv P w s.heap es.toArray ks,k9_,32<=c]
def z'l:String:=z [la!,c<=126,lb!,Ax G G',lc!,cs.map λ_=>D.bl τ,ld!,xs.map D.str,le!,aT χ et! χ,lf!,dE a es ep,lg!,Jp KF G fs vs,lh!,.str "set",li!,fC aQ!,lj!,.lst ops,lk!,ys++ql!,ll!,st.grow x1 m1,lm!,#[G1,ρ,M1,R,ll!,r1,qn!],ln!,#[#[o,q o z1,z2,z3],z4],lo!,Cg X.K G x v,lp!,cs.map Ng,lq!,dictGet a u>>=_,lr!,upd H a (dE a bc cp_),ls!,ψ j7,lt!,λw hw=>pO I r1 rx n1 r2 r n2 (by let:=iT X.A;omega) w nK!,lu!,qO I r2 r n2,lv!,.ext x2,lw!,ho.run I st e λd M1 v G1 H1 u s1 r1 x1 m1 q1 I1 rx=>?_,lx!,b5o (qC χ (NH _)),ly!,bJ vz,lz!,LB (MD h.1),lA!,aU hz_ c! χ (L2! (FH! aB (L8! aB a7!)) aI) an_,lB!,λx hx q hq=>?_,lC!,s.root J,lD!,#[G',ρ,M',R,sr.grow x m,r,k1,k2],lE!,[.Subscript o i p2],lF!,λk=>.bl h8_,lG!,ψ id!,lH!,Cz C m M d,lI!,[.fn p],lJ!,KJ (KG (VR ho hd ?_)),lK!,(by show 4<100;decide),lL!,#[hp,g,d,tk,os],lM!,hp.map _,lN!,Pu fo ρ M u!,lO!,#[χ,hg _ hK],lP!,.Constant (.str s0) n0 p0,lQ!,Array Keyed,lR!,v.length,lS!,(u++o::v),lT!,mirror_perm _ _ _ _,lU!,.fn wn,lV!,.tup aq!,lW!,ψ bL_,lX!,.int (aa!:δ),lY!,Value.int a t,lZ!,.lst ((Dx_).map Bj),l0!,KQ (by simp[big];omega),l1!,(by rw[KU,NO];omega),l2!,ku.zip us,l3!,(a,Hy_ e1),l4!,aP hx,l5!,l.map Ch,l6!,(FJ! is!).map eD!,l7!,hk q aj,l8!,ψ nm,l9!,ψ fU!]
def z'll:String:=z [la_,aC kH_,lb_,cs.map λ_=>.bl τ,lc_,[aK!,o.v],ld_,.int c,le_,bN T.U6 T.V7 l!,lf_,XM M G H M' G' H',lg_,mG (nB T) c! χ,lh_,Bool->Mh->ν,li_,.ext x,lj_,.refl st.or.sub,lk_,w2 gm fa fb,ll_,bN T.U7 T.V4 l!,lm_,MT X own c ft,ln_,bJ χ,lo_,upd H a (dE a bc (Hj h1 d ep)),lp_,aE cp! aO,lq_,a2u hu I m sub e r hk λo s' I' ho=>?_,lr_,!Dt d d',ls_,ψ (.lst kinds),lt_,(show its.toArray.any fY!=its.any fY! by simp),lu_,a4x bR,lv_,(p,h1,ep),lw_,#[t1,t2,?_],lx_,s.heap.push {cls:=.type "dict",data:=.dict #[]},ly_,[(d,x)],lz_,.tup [lh!,a,.int p,.int v],lA_,Ru W pre,lB_,Fn own Z H,lC_,k==k',lD_,[.int o.h,.int o.n,.int o.tm,o.d],lE_,(by show 3<=1000;decide),lF_,(∀b,b≠p->M' b=M b),lG_,ψ o.nm,lH_,fo ρ=ψ u!,lI_,Bs N ps.length q,lJ_,q.2.1.map b_,lK_,os.map Op.nm,lL_,hp x KM,lM_,(by rw[hp.length_eq];omega),lN_,Pu f1 ρ M a,lO_,.bl c,lP_,((j:δ):Int),lQ_,.int f4!,lR_,m - 1,lS_,ψ k,lT_,its.map λi=>(i,g i),lU_,(bF_).map Ch,lV_,(0,a0.size,0),lW_,setPending ac ((Dl!).push lV_),lX_,Bj rs[k],lY_,λK hK=>?_,lZ_,(by simpa using qq),l0_,[ψ (Bj q),bq!],l1_,Aa 2 ρ,l2_,aP h0,l3_,LF.mp J,l4_,ku.toArray.zip ej_,l5_,.lst l5!,l6_,hk p hp,l7_,((i:δ):Int),l8_,ψ (Ch q),l9_,(by rw[he];rfl)]
def z'm:String:=z [ma!,kf2 d,mb!,h'.objs.size,mc!,(Sum.inl a:Key),md!,(nomatch e),me!,(by simpa using Y),mf!,[.lst jP_],mg!,rows.length,mh!,fs.map b_,mi!,a2k hL dv0 nS b6,mj!,e=x\/H e=ψ ix_,mk!,fa ρ=ψ y,ml!,noteFrame aG_ env,mm!,upd H x o,mn!,bC (hm b _ q λz=>z),mo!,Xq n h e cls L a7,mp!,(by rw[<-z];exact hc),mq!,LQ c8_ I.ok.above,mr!,I.freeC x c e,ms!,AM base P w,mt!,I.base.free b o e n hx,mu!,#[#[],by rw[e];simp],mv!,cs.map λc=>.fn c.1,mw!,hs.2 b (MN mq!),mx!,MF (MD hj),my!,hs.2 b (MN (LQ c8_ (I.ok.cab x c yg hc))),mz!,BZ X xC en xn C0 L ie ix,mA!,Inv X hb Z H' s',mB!,(by simpa using hp),mC!,SP X hb D,mD!,eval a X.env,mE!,#[χ,by show 0<=1;decide],mF!,.bool b,mG!,h hb s Z H _ I hw,mH!,truthy v,mI!,.BoolOp .And [a] pos,mJ!,.BoolOp op [a] pos,mK!,[.Name en p2,iM_],mL!,.Return iQ! pos,mM!,Ag->ν,mN!,.int (j:δ),mO!,setItem ov iv v,mP!,b6f em ed nd z χ χ χ χ χ χ χ J,mQ!,PG X tg g,mR!,Int×Tok,mS!,full.length,mT!,Str.ofString "outline",mU!,I.pin p hp,mV!,ET X hb Z tg R,mW!,hA.mem h,mX!,.int sY_,mY!,.builtin "max",mZ!,aP (uW o),m0!,hi - lo,m1!,.Name "range" p,m2!,s.heap.IsListIter it l i,m3!,(by rw[hp];simp),m4!,λh hh=>?_,m5!,Ga X (binaryOp op) r,m6!,f dL! (.int j u),m7!,rI Yd λi j=>.int (i*j),m8!,rI (λ_ j=>0<j) λi j=>.int (i%j),m9!,rI CD λi j=>.int m8_]
def z'mm:String:=z [ma_,W.its.map λi=>(i,D.fn (qa i)),mb_,tU F S λah A outer s H E hr=>J hr S.nd,mc_,(Sum.inr a:Key),md_,#[_,χ,r],me_,μ Key×V,mf_,μ Key×Addr×Value,mg_,W.instObj C dx,mh_,Ec P w H h a o,mi_,rawInt L,mj_,∃u,Es! e=ψ u,mk_,Dl x.d=υ,ml_,NG he hd Y ?_,mm_,seqObj "list" (is_).toArray 0,mn_,X.env.scope.kind,mo_,#[o,ho],mp_,Kp a7 (I4_ frA) s.heap h',mq_,AllBare g',mr_,λb o e hx=>?_,ms_,λx c e=>?_,mt_,λbs=>D.bl o3_,mu_,I.hok b u e,mv_,hs.2 b (ne b o e),mw_,#[u',r',?_],mx_,.inl hk,my_,Addr×D->ν,mz_,swapsWith he (ψ (.Name xn xp)) ap.line X.env=pure θ,mA_,Pi X.N.length ix v,mB_,starEach es X.env,mC_,ae.set ie kv!,mD_,("__debug__":Str),mE_,#[v,H,I,r,h],mF_,#[cg,H1,xb ag,q],mG_,XR X.prog X.w X.K M0 G0 F0 E,mH_,Jj S a3_,mI_,.BoolOp .Or [a] pos,mJ_,.IfExp c a b pos,mK_,#[ae,H',I.unwish,q],mL_,Hp->ν,mM_,assignEach es X.env,mN_,wE ns base N os c t mO_ x7 x8 x9,mO_,ψ mN!,mP_,#[_,_,_,by rw[wE,LG];rfl],mQ_,.Name x pi,mR_,(by simpa using b1),mS_,Int->Int->Int,mT_,.int yy,mU_,(∀b∈fp,Fc! H b),mV_,D.int.inj z,mW_,∀b,M b≠υ->M' b=M b,mY_,hA.nob hM1,mZ_,aP (f:=Aa 0) χ,m0_,s.heap.push {cls:=.type "range",data:=Cd! 1},m1_,λh hh=>(HC_ hh),m2_,s.heap.IsList l am,m3_,PI X tg iter wi,m4_,.type "enumerate",m5_,.BinOp a op b pos,m6_,KS.mp hh,m7_,rI CF λi j=>.int (i / j),m8_,i ^ j.toNat,m9_,Int->Int,mX_,Inv X hb Z ζ]
def z'n:String:=z [na!,decide (i<j),nb!,compareOp .LtE,nc!,Rb λi j=>.bl nb_,nd!,Rb λi j=>.bl nc_,ne!,(o.nm,o.v),nf!,h1.isEmpty,ng!,#[H,I,q],nh!,dH J hp,ni!,W.plainGet_of hg,nj!,h.ch y.h,nk!,s.heap.push {cls:=.type "range",data:=Cd! c},nl!,∀o∈ms,o.h≠yy,nm!,show Ju f v ((k,x)::r)=(if k=f then(k,v)::r else(k,x)::Ju f v r)from χ,nn!,z.cps.toList.drop i,no!,.lst tY_,np!,.obj t.B5 (hF yy ta wa ao_),nq!,PE X o ta,nr!,Fh l_ Bc cc_,ns!,Str×Value,nt!,.str "~",nu!,fT (El Ki Ki r! de_ bx_),nv!,Pw P w K mg base A outer s H,nw!,Kk g1! nv_=ψ v,nx!,upd sm! x nw_,ny!,f1 Be dZ!,nz!,iR I hg hm ?_ bd,nA!,starEach [] X.env,nB!,Mk X.K C f,nC!,(pi!).Nodup,nD!,b6u h nd,nE!,Ji CX P w K mg base N qual scope f ah A outer s H E,nF!,Ku X fb! r,nG!,As t.B6 "parents" i_,nH!,.int c u,nI!,Ab am! Ad,nJ!,ws.length,nK!,(by simpa using hw),nL!,Ab aF! Ad,nM!,Ba t.B6 "has_item" 2 (Bk t) i_ a2!,nN!,[L!,ar_,"parent"],nO!,Ak 8 (wl (JQ! u_ nN_)),nP!,(am.toList.drop (Hr! 0 lo)).take uC!,nQ!,MX.mp ho,nR!,.str "redo",nS!,HT.sIx xs.length 0 lo,nT!,λb ob q=>KL _ q,nU!,.tup [.int u.h,.int u.n,.int u.k],nV!,V->μ V->Hp->VK->ν,nW!,.Subscript a b pos,nX!,.str "drop",nY!,z.cps.toList.length,nZ!,"outline",n0!,[L!,"ours"],n1!,[L!,cE_],n2!,σ.map F!,n3!,Am 1 (Fa t) a3!,n4!,mup M p aQ_,n5!,Ab i_ nI!,n6!,As t.B5 "ours" i_,n7!,λx1 x2=>x1++x2,n8!,σ++its,n9!,n<=sizeLine]
def z'nn:String:=z [na_,Rb λi j=>.bl na!,nb_,decide (j<i),nc_,decide (j<=i),nd_,ho hb s2 Z H2 x y v u _ I2 r1 r2 q2,ne_,[y!,ap_,N!,T_,lG_,y5],nf_,its.toArray.isEmpty,ng_,.lst gz!,nh_,Uz s.heap x dx C mA,ni_,lo+(i:δ)*c,nj_,{s with toks:=s.toks+1},nk_,ψ ng_,nl_,#[ho,χ],nm_,((min k n:δ):Int),nn_,KY _ ho,no_,λ_=>υ,np_,["thing","limit"],nq_,f2 Ah l_ r!,nr_,Of t M a W Q,ns_,.str " ",nt_,fT (Jh "str" l_),nu_,[dy!,bq!],nv_,.lst ((dY!).map (·.2.1)),nw_,.ins C dx [],nx_,(by rw[KP];delta big;omega),ny_,["parts","checks"],nz_,backTo pos t9!,nA_,backTo pos nA!,nB_,f2 Ah l_ aE_,nC_,#[(apply_ite Qn _ _ _).trans ab!,by split<;>exact nd],nD_,Rt (Qd 1 Ae),nE_,kl.map (lt S),nF_,bootBuiltins x=ψ fb!,nG_,w2 Bl nG! o_,nH_,[L!,ae_,ar_],nI_,Ab o_ nI!,nJ_,As t.B6 "numbers" i_,nK_,.int (1+jq!),nL_,v+(n:Int),nM_,f3 ρ=ψ d,nN_,Ac aT_ Ae,nO_,(i:Int)+(m:Int)*1,nP_,[L!,ar_,cG!,"number"],nQ_,.Slice lo hi υ p2,nR_,(by with_unfolding_all rfl),nS_,HT.sIx xs.length xs.length hi - Ff! 0 lo,nT_,Ak 2 Fw,nU_,μ Sn,nV_,σ++[[s]],nW_,μ (Addr×μ Sn),nX_,Rw M p (pre++[(c,l)]),nY_,[nZ!,ae_,"deed"],nZ_,sliceBounds lo hi υ n,n0_,wl (Hl Ae),n1_,w2 Bl dk_ D_,n2_,ss.map Sn.v,n3_,f2 Ah u_ B_,n4_,[z!,cE_],n5_,a9.endLine==ai.line,n6_,σ++fg!,n7_,"message",n8_,runsF [] B,n9_,Cn 1 [] jM! t_ W! vn!]
def z'o:String:=z [oa!,(Io! S.map).Nodup,ob!,ks.map kV,oc!,s.cps.toList.zipIdx.map (sgn hh m),od!,acO S 6 d,oe!,#[bh_,[]],of!,λr s'=>r=Hw! fh_/\OldK al.heap s'.heap/\s'.os=al.os/\I5! s'.gens,og!,Jj S ds,oh!,Ai k callerA,oi!,["one",cE_],oj!,s.cps.toList,ok!,u++zs H! s++v,ol!,Array vT_,om!,Option.none,on!,bC (ne b _ e),oo!,bC (Ep! hc),op!,f2 Au jy! (fC d6!),oq!,V.txt i,or!,[e2_,dn!],os!,Ac (f1 Aw (Eh_ l_ vY_)) Ae,ot!,∀b∈fp,Fc! H2 b,ou!,Np NL.length ix Z,ov!,[dB_,i,b,.str q.2],ow!,"_law_other",ox!,gA hO.hist hW,oy!,Ak 3 (wl j2!),oz!,f2 Do ay_ u_,oA!,ψ (.int (p:δ)),oB!,ds.drop n,oC!,Ak 3 (wl (Ay w7!)),oD!,w2 Bl i_ w8_,oE!,Bb (Am 4 Hs (Ab i_ uS_)),oF!,λi d q _=>?_,oG!,Wy.ds W i p0 (O!).length (.ct m),oH!,Zp nl ix ρ,oI!,f ρ=ψ ds,oJ!,hw Z G H Q ρ d er e k,oK!,"_law_gone",oL!,[cc!,cb_],oM!,k G' H' s',oN!,dS (gG e1),oO!,#[G,ρ,x,er,e1,λG1 H1 s1=>?_],oP!,#[G,ρ,.bl x,er,kZ e1,xE!],oQ!,f1 g fs,oR!,fC (.int 6),oS!,f2 Cw (f1 Aw xU_) oR!,oT!,cE sub qb,oU!,Ac x2_ (Ac (ED_ 40) Ae),oV!,Bw M w Ow W,oW!,w2 Bl (wl fw) hb!,oX!,ι Int,oY!,Ak 17 (Am 3 Jf (Ab D_ (Ab (wl oR!) (Ab (wl (Ay (Ac (f2 Ah (Hk_ [jE_,d1_]) am_) (Ac J! (Eh_ kk! (Lr_ (Aa 13))))))) Ad)))),oZ!,sub.seq q,o0!,#[o,Y,h2],o1!,Gl X "isinstance",o2!,bootBuiltins "isinstance"=ψ kl!,o3!,ψ (.lst rows),o4!,t.HandsError,o5!,(es!).Nodup,o6!,#[hl,kp!],o9!,MB.mp n2,o7!,(show(ζ:μ Str).Nodup by decide+kernel),o8!,ψ (.lst ζ)]
def z'oo:String:=z [oa_,λx=>if x=a then l else txt x,ob_,hk x q hq,oc_,"numbers",od_,d.params.defaults=[],oe_,.call fi! oe!,of_,λf vs=>PySem.call f vs,og_,.bool τ,oh_,[bs!,.int (1+gU!)],oi_,w2 Bl o_ jK_,oj_,wds i ss b c,ok_,f2 Ah u_ l_,ol_,W.fnOf x qual jT_ bC_ bj! .none kV b7 pm an ah ct,om_,(eb_).map Op.nm,on_,λm hm=>hm,oo_,λ_ _ _ q=>q,op_,wds i ss b (O!).length,oq_,f2 Al r! (f2 Cw l_ u_),or_,k==gZ_&&env.scope.kind==.function&&env.kindOf n==ψ .cell,os_,Inv X hb Z H2 s2,ot_,Zv X scope cl,ou_,f ρ=ψ fl_,ov_,bAt F_ pl,ow_,prs g5_,ox_,hq.1.hr hW hO.hist,oy_,Br (FJ_ Db),oz_,L2.Key×V,oA_,(fp!).take m0,oB_,Ak 2 (wl w6_),oC_,ψ ci!,oD_,Bb (Am 4 Hs (Ab i_ gQ_)),oE_,.lst (IH! nmsL O! (a3_).length),oF_,Wy.ds W i p0 (O!).length (.wr tx),oG_,Bf 1 [2,3] (Hm (Ft (G4_ Be bA!))) t_ d5_ (wl (Ay (Ac (JQ! x_ aT!) (Eh_ (f2 Ah w6_ l_) (fC x!))))),oH_,ψ (.lst σ),oI_,[b,.str q.2],oJ_,Bf 1 [2] (Hm (Ft bA!)) t_ d5_ (LA_ (FQ! xh_) (FI_ xh_ l_)),oK_,#[s.h,s.n,s.k+f4!],oL_,(by rw[iX];omega),oM_,rE F p m σ k y6 y7,oN_,[s.v,.int f4!],oO_,fT fa ρ,oP_,Ak 7 xf!,oQ_,acO S 6 xN_,oR_,(by rw[KU,KU];omega),oS_,(∀c,c≠q->M' c=M c),oT_,Ih (w2 by_ ce! xY_) (wl (f2 Ki x4_ ki_)),oU_,.str "refused",oV_,fw ρ=ψ c5!,oW_,Br (Am 4 Kq (Ke_ (wl a2_))),oX_,Ag->Em! oX!,oY_,.Subscript a nQ_ pos,oZ_,[EB! yi_],o0_,Ab am! jt_,o1_,X.mg "isinstance"=υ,o2_,(by show 0<=40;decide),o3_,bs.all id,o4_,lE s y1 S a y4 i y6 o3! y8 y.w dt! (ψ x!) d9 bq hj_ (o8! g0!) bj be,o5_,#[eh_,λhi=>by rw[KP,NI]at hi;exact QI hi.symm],o8_,MB.mp nd,o9_,KS.mp hx,o6_,wpAny ζ A η Q E s,o7_,ζ X.prog X.w X.K η]
def z'p:String:=z [pa!,[hV_,.str "root",.non],pb!,[("following",.fn f),("preceding",.fn p)],pc!,a8.mono x2.g,pd!,x.sub.free hp,pe!,(hl!).length+2,pf!,.If c b1 b2 pos,pg!,tx.cps.toList.drop (kt!%3).toNat,ph!,lI bL! y1 S a fy_ d5! hj_ fv_ ds_ (ψ P!) yN! (CH! yR!) d9 bq bv bw bj be,pi!,W.rows.map b_,pj!,.inl #[χ,vs,Et.of h3],pk!,[acO S 5 hm!],pl!,(by rw[<-z];exact hq),pm!,z▸LK hq,pn!,(pm_).resolve_right q,po!,iB (LR_ y7! (bH yN yQ hs! aB m_)) fB! dZ,pp!,Ji Nr P w KF mg base N qual bj! af ah A outer s H E,pq!,aD aO! aI,pr!,setT W a l,ps!,Str.ofString "rows",pt!,Str.ofString "numbers",pu!,us'.toArray,pv!,Et X.K H a vs,pw!,V.dm b x->kget k x=ψ (.fn (ad fD_)),px!,DE X own c fc,py!,ad==sysModules,pz!,fS (n:=8) χ,pA!,μ D->ι D,pB!,∀{a1 a2 a3 a4 a5 a6:Addr},HE_ bn_ m=υ,pC!,.inr (.inr #[aq!,χ]),pD!,backTo ai (CG_ [a]),pE!,aD bF! aI,pF!,Cj x=ψ kx,pG!,#[l,?_],pH!,bK bQ dD χ T.S3 cU hx_,pI!,q.1∈g,pJ!,aQ aK aW ag_ bF!,pK!,hI.row (b:=θ) hi,pL!,.type "zip",pM!,λc hc=>?_,pN!,(λv y=>by cases y),pO!,bC (ne d _ q),pP!,(bF_).map b_,pQ!,[ap!,cY_,A_,bI_,ψ tx,ψ fq,pP_,ψ dj_,ψ b2_],pR!,vM (mD cn_ (jP (Gx_ bH_ bG_))),pS!,(.tup kY_,.str ak!,τ),pT!,hO.mono a!,pU!,Ab hN! (Ab k0_ Ad),pV!,Ed KF mg x st ps,pW!,Um n es,pX!,(oH l c k).binds b,pY!,V.nw x b,pZ!,LB λz=>hx AD!,p0!,mup_ne hn,p1!,rows.map b_,p2!,aV nd χ b! (aC (J1! at!)),p3!,bN T.U5 T.W4 l!,p4!,Jb P w s.heap x u,p5!,LF.mp z,p6!,LF.mpr χ,p7!,QF ho hd ?_,p8!,KG (tM hu hk λtk=>KG AZ!),p9!,[t.A0,t.A7,t.A8,t.A9,t.B0,t.B1,t.B2,t.B3,t.B4]]
def z'pp:String:=z [pa_,[(.non,.non)],pb_,.obj t.B7 pb!,pc_,GD X.K g bnd,pd_,Y.ok G0 F0,pe_,swapsWith e (ψ dt_) pos.line X.env=pure θ,pf_,ρ.set i oC_,pg_,v.reverse,ph_,.List es p2,pi_,(a5!).map b_,pj_,jW.mp hq,pk_,h5.mono x.g,pl_,Jz ds.length j,pm_,(im x).mp hx,pn_,#[qg j0,?_],po_,A.deeper (Fr_ qual bj! af ah),pp_,AD KF ps.length g,pq_,if x=a then l else W.txt x,pr_,("texts",.fn a3),ps_,Str.ofString "texts",pt_,us'.toArray.size,pu_,Uy->Addr,pv_,ad .wri,pw_,¬V.dm b x->kget k x=υ,px_,aC (mT aI),py_,cu.lookup y,pz_,aN aH aM aO! aB k!,pA_,fS (n:=10) χ,pB_,A'.handled,pC_,mup_ne p1,pD_,[a].length+(d7_).length+ff_<30,pE_,[dy!,bq!,A_],pF_,h.noOb oM2,pG_,cutT g l,pH_,λq hq y hy q' aj e=>?_,pI_,#[_,χ,?_],pJ_,aN aH aM L_ ag_ k!,pK_,EZ s.heap l1 l2,pL_,KL _ kQ_,pM_,λc o e=>?_,pN_,bC (ne c _ e),pO_,cs.zipIdx k0,pP_,ψ Ao!,pQ_,[ap!,cY_,A_,bI_,ψ tx,ψ fq,pP_,ψ dj_,ud],pR_,cG M_ bL bG_ bH_ k!,pS_,bP (sc:=Aj Qv) χ g!,pT_,.obj C fs,pU_,#[ho,χ,k],pV_,Ji Nr P w KF mg base N x bj! af ah A outer s H E,pW_,Wk ad V,pX_,W.mg_of X G a,pY_,ns.map D.int,pZ_,Sq rows,p0_,Ve rows,p1_,#[χ,χ,χ],p2_,aN aH aM a7! aB k!,p3_,V.nn x fP!,p4_,gP.mp z,p5_,QG ho hd (KG (b9x hu q2 hk (KG (QG ho hd ?_)))),p6_,#[c1,χ],p7_,rX a_ cV! k!,p8_,ao!<=sizeLine,p9_,c ρ=ψ θ]
def z'q:String:=z [qa!,c ρ=ψ τ,qb!,KQ (OP 0),qc!,aE q_ kW_,qd!,λ_ _ _ _ _=>nQ (dX (eK aO!)),qe!,(a==k||b==k),qf!,λa ha b J e=>?_,qg!,hH.trans Y,qh!,(by rw[e];simp),qi!,D->Mh->ν,qj!,.str "redo",qk!,ops.length,ql!,[.str "bin",za_],qm!,Mh->D->D->ι D,qn!,λd M2 v G2 H2 r2 x2 m2 q2=>k d M2 v G2 H2 r2 cr! m2 q2,qo!,Bz.laid x1.sub hp,qp!,[b6_,Bo_,KN_ [et_,a,b,b3!],y],qq!,#[o,h],qr!,#[cs.toArray],qs!,λ_=>ψ τ,qt!,KG (RT hT Y_),qu!,compareOp .NotIn,qv!,[ba!,cs_,b6_,dD_,fW_,fX!,fX_,ls!,ls_,ψ ac_,ψ sg,υ],qw!,.tup [lh!,item,.int (m0 / 12%4),.int (m0 / 48%2000 - 1000)],qx!,kget q.2.1 y,qy!,#[_,dS!,p1_,χ],qz!,#[[],cC,.nil,OB],qA!,(h6_).set p.toNat (.int v),qB!,[aP_,aW!,ig_],qC!,bK bQ dD χ T.S3 cU pE!,qD!,aC (aA 12),qE!,.str k',qF!,.tup (.str k::a::r),qG!,.tup (.str k::a::b::c::r),qH!,Y.ok M0 G0 F0,qI!,f4 ρ=ψ e,qJ!,aE au! lp_,qK!,#[B8,B9,C2,C3,C4,C5,C6,C7,C8,C9,D1,D2,t_HandsError,t_NotThere],qL!,Jt M3 d y v,qM!,.bl (Dl o.d).isSome,qN!,(by show 1<=1000;decide),qO!,(∀o∈os,DG o.d),qP!,Hx P w KF own M0 G0 F0 M1 G1 H1 Z ρ,qQ!,[lG!,N!,υ],qR!,λx=>?_,qS!,BE P w KF ps.length g,qT!,λd M1 v G1 H1 r1 x1 m1 q1=>?_,qU!,HL M0 M l,qV!,Mw s.heap d es ep,qW!,(λi v=>∃e,es[i]?=ψ e/\v=e.key),qX!,(by simpa using td),qY!,(∀b,M b≠υ->M' b=M b/\¬O b),qZ!,(by show 2<=1000;decide),q0!,Md wd os,q1!,λy hy=>hd y ec_,q2!,HT.lexLt ms ns,q3!,Od ft ρ M τ,q4!,m1.ext xj,q5!,Keyed->Int,q6!,(S_).map Op.v,q7!,[R!,q5_,T_,Dc_],q8!,((bt_+aC!:δ):Int),q9!,.int (aB_:δ)]
def z'qq:String:=z [qa_,Ac f Ae,qb_,λ_=>χ,qc_,cs.map λ_=>τ,qd_,.tup [.str a,.str b],qe_,Bq h1 d x,qf_,ρ[i]?=ψ oC_,qg_,h2.mono e,qh_,.str "move",qi_,.str "undo",qj_,hw Z G H Q ρ M R st e k,qk_,st.mr.ext x,ql_,(.str "root"::lk!),qm_,.lst its,qn_,bN T.U6 T.V5 l!,qo_,mup M p c,qp_,cJ (dO T) c! l! a9!,qq_,letters.length,qr_,.str letters,qs_,[ψ dV!,dD_,ψ qr_],qt_,[ba!,cs_,b6_,dD_,fW_,fX!,fX_,ls!,ls_,ψ ac_,υ,υ],qu_,Aa 0 ρ=ψ bL!,qv_,.dct q.2.1 q.2.2,qw_,[.tup [er!,.int (1+m0%5)]],qx_,(cr!).trans x3 m2,qy_,I.laid vl! v! #[#[D0,NN.mpr (MD (MN I.big)),ML _],by let#[o,h,_]:=D0;exact qq!,Br_],qz_,Value×Value,qA_,[aP_,aW!,es_],qB_,bP (sc:=Aj Lr) χ g!,qC_,#[a',b',c',e',LN _ hm],qD_,.inr (s.noF z),qE_,Ff (D.str k::r) 0=_,qF_,.tup (.str k::a::b::r),qG_,MS X own bt st q1,qH_,f3 ρ=ψ c,qI_,Ab hN! (Ab k0_ (KP! (wl f3) f4)),qJ_,sr.grow x m,qK_,(k=="undo"||k=="redo"),qL_,ops.map Op.key,qM_,(GV_ by!).bind λx=>Ah x P!,qN_,[ap_,N!,y],qO_,.dct σ ep,qP_,mup_ne J,qQ_,MI X own tg iter fi,qR_,kget wd o.nm,qS_,Df X.prog X.w X.K X.mg X.base k C m ps g,qT_,Addr×Dh,qU_,mup M b c,qV_,[(root,y),(Cq,z)],qW_,.inl z.symm,qX_,(q.2:δ),qY_,#[λ_ h=>f3_,OB,λ_ h=>f3_,i0_],qZ_,.bool (lexLt ms ns),q0_,ψ x.v,q1_,λy hy=>hp y ec_,q2_,hp.mem_iff.mp hx,q3_,M p=ψ V!,q4_,[R!,Db!,T_,ψ lQ_],q5_,ψ (.lst q6!),q6_,(bt_:δ),q7_,((bt_+m:δ):Int),q8_,[R!,il!,T_,z],q9_,∀k ac,Hi! ac->1<=k->k<=n->Up r z_ k->Q lS_ ac]
def z'r:String:=z [ra!,(EC! "undo"==k||Str.ofString "redo"==k),rb!,W.rows.map Bj,rc!,KI _ in_,rd!,bM! / 2,re!,((k+1:δ):Int),rf!,Al ii_ bi!=_,rg!,[ψ (Bj q),A_],rh!,.lst ((eA_).take a),ri!,λz hz=>?_,rj!,L.map F!,rk!,!decide (x=i),rl!,Ai k X.A.in1.in1,rm!,Aa 2 ρ=ψ c2_,rn!,∀H':Hp,H' a=υ->Fc! H' a,ro!,seqObj "list" #[] e1,rp!,.lst ro_,rq!,Hz eD! ds,rr!,μ (Keyed×D),rs!,((n:δ):Int),rt!,(eE!).push dJ_,ru!,.builtin "sorted",rv!,(s.heap.push dJ_).update s.heap.objs.size (Obj.mapSeq (·++ej_)),rw!,V.ref p,rx!,ds.all λd=>(Lh d).isSome,ry!,Hz kf2 ds,rz!,ni i hi,rA!,∀{af:Addr} {ah:Value} {A:Around} {outer:ax_} {s:Shared} {H:Hp} {E:XK},Ai k po_->N.Nodup->HZ! Ts pp!,rB!,W.codeIn KF ah qual=τ,rC!,(_,Dh.dct (JV! _) _),rD!,mixKind prog w,rE!,.tup (p.1.map kV),rF!,#[by show _<=_;simp only;omega,same.its,same.txt],rG!,Rr w x0 d nm,rH!,a.old x o l m e,rI!,∀h' T,k_<=T->FY! h' mi_->Gf! [e] h'->Fy! bN!->Q () {s with heap:=h'},rJ!,[ZP,.ref L,di!,rawInt L,di!]++(if pl.isEmpty then List.replicate 6 dL_ else pl),rK!,(·.setIfInBounds 1 (Value.ref Y.objs.size)),rL!,(Y.push ob).update e rK_,rM!,∀K:Bool->Mh->Prop,K b M->ft ρ M K,rN!,Un fs ex H H1 h Y,rO!,Dl x.d=υ/\¬GI! wd=ψ cf!,rP!,ks.map D.int,rQ!,KQ (show(Value.ref T != Value.none)=τ by simp),rR!,QS (PQ nr _),rS!,cx b (Gl! ht nr),rT!,cx e (MD t6),rU!,h.get? b=ψ o,rV!,Obj.mapFields (·.setIfInBounds 3 rU_),rW!,T∈a7\/k_<=T,rX!,X.env.kindOf x=ψ .cell\/HE! x=ψ .free,rY!,(λz=>by cases z),rZ!,I.ok.noex b o e,r0!,nM (rS h) χ,r1!,#[J b h,x.ge b h],r2!,.type "BaseException",r3!,(OC.mpr λx hx=>by let#[_,_,rfl]:=LC.mp hx;rfl),r4!,.type "object",r5!,(λ_ z=>nomatch z),r6!,λ_ _ _ _ n=>n,r7!,λ_ _ _ e=>e,r8!,λm hm=>?_,r9!,starEach [ex] X.env=[(θ,eval ex X.env)]]
def z'rr:String:=z [ra_,D.str.inj z,rb_,k3 (.lst rb!) in! lU!,rc_,arrOf cj,rd_,rs.take k,re_,.int re!,rf_,KI _ hz,rg_,((aa!:δ):Int),rh_,.lst [Bj b1!],ri_,W.rows.filter λq=>decide f7!,rj_,(rj!).map kf,rk_,hb++[f8!],rl_,λd q=>Lh d=ψ q,rm_,(fK hw χ).trans k3t,rn_,(qa i,Dh.lst (if i=a then(h6_).set p.toNat (.int v)else W.num i)),ro_,(ah!).map Ch,rp_,Paired dJ! ds us,rq_,(by rw[OI];omega),rr_,Ik g q.2,rs_,UO ?_ co!,rt_,.int bL_,ru_,[ad_,R!,D1!,l8!,y4,ψ l5_,ip!,ij!,υ,υ],rv_,seqObj "list" us.toArray 0,rw_,σ.toList,rx_,ds.map kf2,ry_,kf2 q.2,rz_,Ij W au_ W.rows,rA_,W.isFn KF ai!=τ,rB_,(λq=>nomatch q),rC_,W.fnOf "__init__" qual jT_ bC_ bj! .none kV b7 pm an ah ct,rD_,#[u,me!,h2],rE_,(∀f,Mu (E6_ f) (mA f)),rF_,#[same.rows,same.its,ky!],rG_,∀b xs,H b=ψ bc_->H' b=ψ bc_,rH_,W.methodObj ai! (.ref y),rI_,[ad_,T_,ψ o.d,υ,υ,υ,υ,υ,υ,υ],rJ_,∀b u,b≠e->h.get? b=ψ u->Es! b=ψ u,rK_,Obj.mapFields rK!,rL_,Z[i]?=ψ ci_,rM_,∀x,(Gm_ wd kb)\/∃k:Str,F3! wd=ψ ac_/\F3! kb=ψ f2_,rN_,.tbl (ps++rh),rO_,[ap_,ad_,N!,ψ x.v],rP_,XF n s.heap e T cls fl,rQ_,#[o.slots,by rw[cx b (λz=>WJ (z▸J))];exact eb],rR_,(by simpa using c'),rS_,List.range b9_,rT_,(by rw[CY_];exact g4),rU_,fo.elim Value.none λf=>rawInt f,rV_,LO.mpr #[KN,OB],rW_,k3 aQ_ in! lU!,rY_,(by rw[mup_same];simp),rZ_,nM (a2o h) χ,r0_,fD χ (b9f χ),r1_,.type "ValueError",r2_,.type "Exception",r3_,λi x v e1 e2 e3=>?_,r4_,uM χ ?_ (nM (zX _) v5),r5_,#[_,bc,bx,hL,r'],r6_,λ_ _ e=>e,r7_,Value->Hp->ν,r8_,λb u e=>?_,r9_,∀b u,rX_ b=ψ u->Es! b=ψ u,rX_,s.heap.get? ζ]
def z's:String:=z [sS!,Addr,sa!,.Raise (Hi_ ex) υ pos,sb!,e1.trans e2.symm,sc!,storeName X.env x u,sd!,I.hok b ob e,se!,Ck jj_ W! jj! [υ,υ] iH!,sf!,λj y v' e1 e2 e3=>?_,sg!,(e9!).lookup k=EB! fs,sh!,Ez t [.tup r,.tup fs]=ψ x!,si!,#[(hs.2 p.1 ne).trans e,n,ne,nf,d],sj!,List.replicate n υ,sk!,ψ (.Name xC cp),sl!,Bool->Hp->ν,sm!,upd H1 dx ix_,sn!,ta Z H λx H1=>tb Z H1 λy H2=>R x y H2,so!,V->V->Hp->ν,sp!,eval b X.env,sq!,("__classdict__":Str),sr!,.Constant ay! j pos,ss!,.Constant .none j pos,st!,eval da_ X.env,su!,bootBuiltins x=ψ u,sv!,Ji ms! P w KF mg base N x bj! af ah A outer s H E,sw!,op==CmpOp.NotIn,sx!,dM (LE_ ha h) λc s1 e=>?_,sy!,λh=>if h=a then t a+1+m / 3%3 else t h,sz!,Addr->ι D,sA!,h hb s Z H Q I hw,sB!,fx ρ=ψ aH_,sC!,X.N[ie]?=ψ en,sD!,cs.set k (.int H!),sE!,(en==mD_)=θ,sF!,(en==sq!)=θ,sG!,ts.set k sE_,sH!,starEach [iM_] X.env,sI!,W.subIn X.K (.ref C1) aR!=ψ τ,sJ!,swapsWith e υ pos.line X.env=pure θ,sK!,.Return υ pos,sL!,(λ_ s'=>∃ae H',Fz_ s'/\Q ae H'),sM!,(by rw[VZ];omega),sN!,.Subscript o i pos,sO!,dM (EJ! ho _ I h) ?_,sP!,(∀b o,b≠I->b≠S->h.get? b=ψ o->Es! b=ψ o),sQ!,.builtin "max.loop" #[[.ref I,di!,.ref S],kw],sR!,Around.under_plainId QD,sT!,Str.ofString "ours",sU!,Str.ofString "waiting",sV!,(by rw[z];exact J),sW!,letOwnedTupleGo tg ca! u,sX!,#[o,FF! vo e1,e2],sY!,["enumerate","zip","dict_itemiterator","dict_reverseitemiterator","odict_iterator","itertools.zip_longest","itertools.pairwise"],sZ!,(by simp[Wr];omega),s0!,(EC! "default",v),s1!,λb o J e=>(sb.2 b J).trans e,s2!,λb o J e=>eb b o J e,s3!,dv.map λv=>s0!,s4!,(n:Int) - (i:δ),s5!,aP (f:=Aa 1) χ,s6!,IsRange.new ..,s7!,(a,.obj t.B5 []),s8!,.Call m1! [a] [] pos,s9!,starEach aq! X.env=[cA!,eY_]]
def z'ss:String:=z [sa_,λ_ Z H=>te Z H λ_ H1=>R ae! H1,sb_,μ (Addr×D),sc_,∀c∈cs,∃g,Iq t c.1=ψ g/\g [c.2]=ψ x!,sd_,λc w' hc q=>(hs.2 c ?_).trans q,se_,#[gi_,gi_,I.base.free,mr_,I.base.tups,I.base.frzs,I.base.tbls],sf_,(by simpa using I.len),sg_,.type "BaseException",sh_,z.sameBut hs (cne y c e),si_,VQ (k _ _ he) (KJ (hc▸q)),sj_,∀a pn oe c,eN!∈pn->EC oe bb_->PE iH_ he λZ H Q=>Z[ie]?=ψ hN_/\∃v,hv c=ψ v/\Q v H,sk_,[.Assign [.Name xn xp] he ap],sl_,AN X cM! (xT X hb D (Ht! en)),sm_,backTo pos mB_,sn_,jS [(t.B4,a)] (one #[_,i9,rS Y]) c_,so_,∀v u s2 x y H2,mX_ H2 s2->Bh x v->Bh y u->R x y H2->zH_ (f v u) Q X.xe s2,sp_,λv al=>zH_ sp! (Iz! (f v u) Q) X.xe al,sq_,Ca xs=τ/\De xs<=1,sr_,.Try body [Ht! en] [] [] tp,ss_,iD (a9i _) pln,st_,(by rw[I.ok.glob];exact I.mod.glob.keeps I.bk),su_,iD db! (iD (tK Y) pln),sv_,op==CmpOp.In,sw_,(by simpa using c),sx_,os++[#[a,c a+1,t a+1+m / 3%3,dd]],sy_,λh=>if h=a then c a+1 else c h,sz_,#[H1,I1,q1],sA_,if h=a then t a+1+m / 3%3 else t h,sB_,dM (EJ! hc _ I h) ?_,sC_,X.mg xC=EI_ C1,sD_,(by simpa using hs),sE_,.int (t+1+m / 3%3),sF_,starEach mK! X.env=(θ,eval (.Name en p2) X.env)::CG_ [iM_],sG_,starEach [iM_] X.env=(θ,eval (.Name xC p3) X.env)::Gc! starEach,sH_,.Name "isinstance" p1,sI_,aT χ (Kl_ b9u) χ,sJ_,PyData.tuple [bN_,cz_],sK_,St->Hp->ν,sL_,FJ X own n es g,sM_,(by rw[VZ];omega),sN_,.nx (wE ns base N jx c' t' mO_ y7 y8 y9),sO_,eval i X.env,sP_,λa b e=>?_,sQ_,.While c body [] pos,sR_,PL hS χ ?_,sS_,(by simpa using vo),sT_,Str.ofString "taken",sU_,(Lp! "max"++Lp! ".loop":String),sV_,(EC! "taken",.fn ta),sW_,SL lq λ_=>[.int x t,.int x t].toArray,sX_,#[o,FF! WN e1,e2],sY_,((eV!).length:δ),sZ_,λi _=>n<=i,s0_,(by simpa using hu),s1_,(∀b o,rX_ b=ψ o->Es! b=ψ o),s2_,#[χ,I.turned (t':=s.toks) s2! f0 f1 f3 f4 f5],s3_,gX e! mY_ (aP gh_) (tR hA),s4_,hl hb s Z H _ I h,s5_,.int (Wr 0 υ xs),s6_,(((m0!).toNat:δ):Int),s7_,starEach [a] X.env=[cA!],s8_,hF yy ta wa .non,s9_,starEach [b] X.env=[eY_]]
def z't:String:=z [ta!,.Call m1! aq! [] pos,tb!,(by rw[bu];rfl),tc!,field aG_ 2>>=_,td!,NG xc χ χ ?_,te!,λb J=>(dT!).1,tf!,T.obj _ _ pv,tg!,mup_ne λz=>ho cM_,th!,I7.pin (b,o) tg_,ti!,Value->Value->Sem Value,tj!,V->Hp->VK->ν,tk!,d4c ha J I h λv u s2 x y H2 I2 rx ry q=>ho hb s2 Z H2 x y v u Q I2 rx ry q,tl!,.int bw_ s.toks,tm!,Int->Int->Bool,tn!,Rb λi j=>.int (i - j),to!,CN X hb H s.heap e it i,tp!,(by rw[show(((i+1:δ):δ):Int)=(i:Int)+1 by omega];exact a),tq!,F.args_enumerate_next_1 _,tr!,∀b∈dG!,Fc! H b,ts!,compareOp .NotEq,tt!,(xs.take al!).zipIdx.map λq=>gx!,tu!,(by rw[<-e];exact hl),tv!,An X.K G xs vs,tw!,λx y H Q=>y=.non/\FC! (Lj! (x=.non)),tx!,Bp t M0 yy a ta wa out S kl ca,ty!,dn.map λo=>ne!,tz!,Wu r r' ta tb tc,tA!,mup M c (.dct tt! al!),tB!,[y!,ap_,N!,T_,lG_,T_],tC!,.type "dict",tD!,#[H,aZ_,by rw[wK r];exact q],tE!,.builtin "abs",tF!,(λxs H Q=>∃i,xs=[bN_]/\Q (.int i6_) H),tG!,.builtin "ord",tH!,eG e! e! i1,tI!,(λxs H Q=>∃x,xs=[gl!]/\cB!=1/\Q tH_ H),tJ!,#[.int h_,H,aZ_,#[_,by simp![KU];rw[az]],q],tK!,.lst (En! n.toNat vs).flatten,tL!,W.hasDictIn K C=τ,tM!,ψ (.builtin "object.__setattr__"),tN!,dd!<=sizeLine,tO!,(θ,Ey_ c),tP!,.Call m1! dM_ [] pos,tQ!,ys.map λ_=>τ,tR!,List.mem_of_getLast? e,tS!,ψ ((max i aL_:δ):Int),tT!,(show∃t,u=Value.int i t from r),tU!,z.cps.toList.drop i.toNat,tV!,kl.flatMap (hs S),tW!,.Pass #[0,0,0,0],tX!,#[by simp![KP];delta big;omega,?_],tY!,[a0!,"_law_made",bx!,jc_,a0_,cb_,cc!,e2_,cB_,gA_,gB!,"_law_good","_law_due",dd_,"_law_after","_law_names","_law_first","_law_operation"],tZ!,([]++kl.flatMap (hs S)).map Op.v,t0!,fC (.int 60),t1!,(by rw[hp.length_eq];exact hS),t2!,backTo pos (CG_ args),t3!,.Call (Fs_ e m) args [] pos,t4!,f1 Ey (Ac nr! Ae),t5!,.Tuple es x1 pos,t6!,I1.laid (t':=s1.toks) (λb u e=>KL _ e) v! ?_,t7!,λb z=>Hg_ c_,t8!,dM gt_ λus s1 ⟨vs,H1,I1,r,q⟩=>#[I1.kIn,?_],t9!,starEach aJ_ X.env]
def z'tt:String:=z [ta_,dM gt_ λus s1 ⟨vs,H1,I1,r1,q1⟩=>?_,tb_,(∀b o,b≠e->b≠it->rX_ b=ψ o->Es! b=ψ o),tc_,NG he χ χ ?_,td_,.For tg iter body [] pos,te_,.lst ((dR_).map Op.v++[o.v]),tf_,step x H5 y5,tg_,KY _ (KY _ (jG J e)),th_,mup_ne (MD at_),ti_,mup_ne (MD aw),tj_,[(.int o.h,.fn q)],tk_,.dct (go_++tj_) cp_,tl_,#[.int bw_,H,aZ_,O_,q],tm_,intBits_le_64 Y h2,tn_,binaryOp .Mult,to_,PyProof.noPylong_small a!,tp_,#[_,he,χ],tq_,#[_,_,_,he],tr_,hR M' ao ar iu,ts_,#[_,he,g6_],tt_,compareOp .Gt,tu_,λ_=>hz.1 χ,tv_,λx y H Q=>y=.non/\Q (FD_ (x=.non)) H,tw_,λx y H Q=>Hu! r\/Hu! r',tx_,(∀b,M0 b≠υ->M b=M0 b),ty_,(∀b,M0 b≠υ->M' b=M0 b),tz_,hc hb s3 Z H3 _ I3 q3,tA_,upd H c (dE c bc al!),tB_,λb J=>Ko! (dH J h0) e0_,tC_,∀o∈ms,Nx yy S o,tD_,(show False from e),tE_,mup M1 p ca_,tF_,.Name "enumerate" p2,tG_,[.Call tF_ [a] [] vt],tH_,.int (x.cps.getD 0 0:δ),tI_,.builtin "len",tJ_,λx hx=>hk x a9_,tK_,W.plainGet K C name=τ,tL_,((szS lo hi c:δ):Int),tM_,∀M',id_->Fl! M',tN_,starEach dM_ X.env=cA!::CG_ [b,c],tO_,starEach [b,c] X.env=[eY_,tO!],tP_,v8.mem_iff.mp ho,tQ_,ψ (j:Int),tR_,OX (FV! OL),tS_,Txt.slice z d5! hi,tT_,(show∃t,u=Value.str x t from r),tU_,(l.filter λx=>p x||q x),tV_,.ins C dx (Ju f y fs),tW_,(by rw[e];exact jd!),tX_,if g=f then ψ u else mA g,tY_,(de!).map Op.v,tZ_,λb u q=>KL _ q,t0_,f2 BQ (ED_ 10) t0!,t1_,.Attribute e f pos,t2_,keywordEach [] X.env,t3_,fL e! hob hF4,t4_,f2 Pl l_ bl!,t5_,dM (h pos hb s Z H _ I hq) λus s1 ⟨xs,H1,I1,r,z,q⟩=>#[by rw[<-r.length];exact z,?_],t6_,[ψ q.1,dy!],t7_,λv H2=>v=.non/\Q gd_ H2,t8_,Dy (fT (Jh "str" ay_)),t9_,(λd=>match d with|.tup [_,_,.bl b]=>b|_=>θ)]
def z'u:String:=z [ua!,fT (Zm e9! τ ay_),ub!,#[[l8_],χ,λK hK=>dS (ρ:=[l8_]) χ _ hK,λ_ K hK=>aP (ρ:=[l8_]) χ _ hK],uc!,fT (f1 (Ez t) (Eh_ (Fh l_ e8_ Bc) (Te e9! ay_))),ud!,f2 Ye ay_ jk_,ue!,I.hok.fresh (OO _),uf!,i∈W.its/\Hi W p/\¬Lq_ p,ug!,.Call (.Name x p) [] [] pos,uh!,(∀v,(x,v)∉binds),ui!,#[((b1x nd).1 c g).trans ab!,g.nd nd],uj!,(by simpa using Y),uk!,wT (J1_ i_ bz!),ul!,Ji CX P w K mg base N qual scope f cd A outer s H E,um!,([]:μ Addr),un!,S.map Op.tm++[0],uo!,List.getElem?_take_of_lt a!,up!,Af (Rt (Lu 1 x_)) (Jr_ 2 D_),uq!,l.map λh=>D.int (f h),ur!,∀vs H Q E,GB! E->bg!=P_,us!,Bt fa_ o_ gJ!,ut!,Bt nG! o_ aL!,uu!,Vb nL! (wl e6!),uv!,.tup [.int yy,nK_],uw!,Bt nJ_ o_ uu!,ux!,if v<0 then max nL_ 0 else min v (n:Int),uy!,Ap (Kb (wT (Ba t.B6 "can_move" 3 (Dm t) i_ (Ab o_ bz!)))) Nl Bi,uz!,(jt!).flatten.zipIdx.map λq=>gx!,uA!,Bb (Ba t.B7 "put_behind" 3 (Ce t) (w2 Bl fa_ D_) (Ab d4! jt_)),uB!,Bt uA_ d4! (wl a2_),uC!,sIx am.size am.size hi - Hr! 0 lo,uD!,f2 Al fb_ Q!,uE!,Ak 5 (LA_ (FQ! x_) (Ay gM_)),uF!,((sIx am.size 0 lo:δ):Int),uG!,w2 Bl fa_ o_,uH!,ι Int->Hp->ν,uI!,Br (Fy_ i_),uJ!,dM (EO_ hl _) λvl s2 ⟨l,H2,I2,pl,q2⟩=>dM (hu hb s2 Z H2 _ I2 q2) ?_,uK!,wl (Lr_ bA!),uL!,[y!,bq!,BA! pl,ψ gP!],uM!,((cG_).length:δ),uN!,fT (f1 At di_),uO!,[jA_,jB!,.int s.k],uP!,Sn.mk s.h s.n (s.k+1),uQ!,.tup [jA_,jB!,.int (s.k+1)],uR!,call fb! (v::us),uS!,.lst (q.2.map Sn.v),uT!,(by rw[hj];simpa using ew),uU!,slot_list_getitem.lookup,uV!,Cc (Eu_ bA_ jF!),uW!,(by rw[KU]<;>omega),uX!,Cc (Eu_ bA_ jk_),uY!,Cc (Kt_ jF_),uZ!,.lst ((σ.map λq=>D.fn q.1)++[.fn c]),u0!,σ++[(c,[s])],u1!,wT (w2 jx_ aL! D_),u2!,(by simpa using z),u3!,upd H p (K6! j),u4!,(p,σ.map λq=>.fn q.1),u5!,(by rw[hk];exact#[_,I',q]),u6!,if a then 1 else 0,u7!,Bd (wl (f1 Cs dZ!)),u8!,#[this.1,i!],u9!,λw hw=>vT rx fx r fs w nK!]
def z'uu:String:=z [ua_,.Attribute o m a9,ub_,#[I2.kIn,?_],uc_,.cons χ .nil,ud_,f2 Ki (f2 Al (LC_ df_) nB_) bx_,ue_,(Value.ref aj!::e7!),uf_,f2 Do u_ x_,ug_,congrArg (Wd.mk _ _ _) (c1n g nd),uh_,Nm (Dk bQ_ bQ_ Mf),ui_,(by simpa using h2),uj_,λp o=>sF p o.nm o.d,uk_,cellsFrom aj! scope.names [],ul_,(show b∈um! from z),um_,λb z=>Hg_ (uv b),un_,x.above y c (PV h),uo_,Cc (fT (JT_ x_)),up_,W.fnOf name qual params body scope dV kV b7 pm an ah ct,uq_,W.codeIn K ah qual=τ,ur_,Bt d2_ o_ gJ!,us_,Ba t.B6 "has" 2 (Ds t) i_ bz!,ut_,Bb (F4! aL!),uu_,#[yy,1+jq!,1+Qi S,d],uv_,fL e! hA.ob hF1,uw_,if v<0 then(nL_).toNat else min v.toNat n,ux_,((sIx n n hi:δ):Int),uy_,s.heap.IsSliceOf sl vl vu .none,uz_,List.range k,uA_,As t.B6 "written" i_,uB_,(os.filter p).map Op.v,uC_,"operation_name",uD_,.lst ((S.map Op.tm).map D.int),uE_,uF!==0&&(1:Int)==1&&uC!==am.size,uF_,(hs S yy).map Op.v,uG_,Ap (wT (J1_ uG! jt_)) (Bt (As t.B6 "hidden" i_) ce! gN_) Bi,uH_,V->Em! Int->Em! Int->Hp->VK->ν,uI_,U.filter λo=>!decide (o.h=k0),uJ_,s3.heap.objs.size,uK_,Ap (GH! (f1 At cf_)) (Bt o_ uK! (wl gP_)) Bi,uL_,LX (sR xs lo hi) hz,uM_,(r.drop nS!).take nS_,uN_,λz=>c z.2,uO_,(u.n==s.n)&&(u.k==s.k+1),uP_,Cc (Kt_ d6!),uQ_,Cc (Kt_ jE!),uR_,Cc (Kt_ nX!),uS_,Ab dj! (Kh! jo! bQ_),uT_,#[z,H,I,a8,q],uU_,λr s'=>r=w/\E7! r s',uV_,Rw M p (pre++[(c,l++[u])]),uW_,mup M c (.lst ((l++[s]).map Sn.v)),uX_,(by rw[z];simp),uY_,(·.setIfInBounds j u),uZ_,mup jG_ p uZ!,u0_,Ak 1 (Fv t.B6 1 (Gw t) Ad),u1_,f2 Ah Q! aE_,u2_,Ab o_ (KP! aL! u1_),u3_,Ap u1! (Bb (Am 3 (Mb t) u2_)) Bi,u4_,(by show 1<=1000;decide),u5_,Fu t.B5 "outline" i_ bQ_,u6_,if b then 1 else 0,u7_,As t.B5 "outline" i_,u8_,(by dsimp only[List.length_cons,List.length_nil];omega),u9_,(show its.toArray.any gR!=its.any gR! by simp)]
def z'v:String:=z [va!,(by rw[e2];exact Y),vb!,Ba t.B5 "have" 2 gR_ i_ (EV! n3_),vc!,(by show 0<=1000;decide),vd!,#[o,e,ex.2.1],ve!,wl (H5! S!),vf!,backTo ai mB_,vg!,f2 Do J! Q!,vh!,List.replicate k xs,vi!,Array Value->Array Value,vj!,f2 Ah Q! B_,vk!,((m+1:δ):Int),vl!,λ_ _ q=>KL _ q,vm!,Ap vk_ Hy Bi,vn!,f1 (Cb t) aT!,vo!,fT (G4_ Pv n9_),vp!,.lst (xs++zs),vq!,#[s.h,s.n,s.k+1],vr!,λo ho=>h o (KI _ ho),vs!,(sh l).map toSn++Q,vt!,Heap.SameBut a s.heap h',vu!,[.int x0,.int y0,.int (z0+(k:δ))],vv!,Kb (HR! D_ a2!),vw!,#[?_,λz=>by rw[z]at ha;exact(KN ha).elim],vx!,starEach [e,f] X.env,vy!,setT W a vx_,vz!,Am 2 (Cm t) cJ!,vA!,setT W a vw_,vB!,pre_splitW wv,vC!,w2 Li D_ (Mx (Ab (FJ_ (Ho t)) a2!)),vD!,(by show 1+Qi S<=1000;omega),vE!,fT (El Ki Ki B_ x_ (f1 Be di_)),vF!,gN 1 (gN 2 g0),vG!,Ak 4 (Gi 3 (Hn t) E (Ab i_ (Ab o_ bz!))),vH!,f2 Gu x_ r!,vI!,Hm (Pn B_ (f1 Be di_) bx_),vJ!,.tup [c1!,i,.tup hG_,cX_],vK!,(l.headD dl!).v,vL!,Ak 8 (Am 2 (Mc t) (KP! i_ (Ay vI_))),vM!,Ak 5 (wl (JQ! bz_ (Ac (f2 Gu bx_ r!) Ae))),vN!,Ay (Ac (FZ! df_) Ae),vO!,wT (w2 (λ_=>Rm) (w1 Jw a2!) aF!),vP!,[bs!,.int (c:δ),gm_],vQ!,Ee vO! vP_,vR!,Em o_ (Ew bz!),vS!,Params->W.Frag,vT!,(∀(s:Shared) (u:Value),Gn_ x),vU!,Ya K x qual st f fd,vV!,∀(kV b7 pm:Value) (an:ec!) (ah ct:Value) (us:n_),aC_=P_->HF! ol_=pure dg!,vW!,#[oc,od,.func ol_,jy],vX!,sh (NW ss c),vY!,.inl (.inr #[o,e _ _ h]),vZ!,(SF).map Op.nm,v0!,#[o.slots,e],v1!,Str×NameKind,v2!,gA h.hist hW,v3!,#[by rw[i1];exact hi,?_,?_],v4!,(by simpa using hk),v5!,(if(k==gZ_)=τ then _ else _)=_,v6!,Uf (Ft (f1 Be v4_)) az_ (Lu 1 v5_),v7!,MY.mpr λx hx=>?_,v8!,(F_).map toSn++Q,v9!,List.range ((K!+15) / 16)]
def z'vv:String:=z [va_,f2 Ah u_ r!,vb_,(λ_ e=>nomatch e),vc_,#[#[o,e,ex.1],λa e2=>?_],vd_,wT (EH! Ex n5!),ve_,wT (w2 jA! ve! n6!),vf_,Ap vd_ (Ak 5 (w2 Bl (w2 Bl dk_ ve!) (wl (f2 Gu (Lr_ S!) r!)))) (Ap ve_ Hy (Ak 5 (Iy D_ aL! am!))),vg_,Ap (GH! vg!) Hy Bi,vh_,List.replicate k its,vi_,Ak 4 (w2 Bl (w2 Bl o_ am!) (wl ar!)),vj_,Obj.mapSeq f,vk_,wT (w2 (λ_=>Ki) aL! (Ev D_ gS_ (LR! Dz gS_))),vl_,Bt D_ gS_ aL!,vm_,(by rw[KU];omega),vn_,.cons ru .nil,vo_,List.cons.inj e,vp_,ja.toArray.size,vq_,Ak 2 (Bf 1 [0] (Br gS!) t_ (wT (EH! Gx (Ab o_ a3!))) i_),vr_,wT (LW_ Gx),vs_,Bb (LW_ Er),vt_,Am 2 (Im t) n5!,vu_,(hJ!).map λk=>.tup vu!,vv_,starEach [e] X.env,vw_,wrT b oc! ah!,vx_,cutT vu_ ah!,vy_,Ba t.B6 "text_of" 2 (Dv t) vz! a2!,vz_,ns.map WData.int,vA_,Bf 1 [] (Br (LW_ Kw)) t_ d5_ cK!,vB_,Bf 1 [0] (On dk_) t_ d5_ (EH! Dz (Ab o_ a3!)),vC_,(by show 1<=1+Qi S;omega),vD_,Int.add_comm _ _,vE_,λx hx k b=>?_,vF_,(∀d∈ds,Va d),vG_,fT (Lp_ x_),vH_,(λx hx=>by let:=vL hx;show x.tm<1+Qi S;omega),vI_,Ac jF! (Ac u_ (Ac J! (Ac (Nj Q! (Aq a2_) (Aq (f2 Al a2_ bx_))) Ae))),vJ_,wrT b c3_ gV!,vK_,cutT hJ_ gV!,vL_,Bb (Em gW_ d4!),vM_,x∈rs.flatten.map Sn.v,vN_,f2 Al nr! vN!,vO_,sgn 6 (c:δ),vP_,wT (Am 2 (gl Da) (Ab (w2 Bl oi_ jK_) bz!)),vQ_,(by rw[KP];exact hl),vR_,Ap vQ! (Bb (Em oi_ D_)) (Bb vR!),vS_,∀(w:World) (h:Heap),YP w h->I7_ h,vT_,ι Value,vU_,Mx (Ab (wl jk_) (Ab o_ (Kh! (w2 Bl gW_ aF!) (H3_ Jw gW_)))),vV_,Bb (Em ce! (LR! Mc vU_)),vW_,By (f2 Ah l_ (f2 Cw u_ de_)),vX_,.inl (.inl (e _ _ h)),vY_,f2 Al u_ r!,vZ_,((bU S).map _).nodup_iff.mpr i8!,v0_,(sh L).map toSn++Q,v1_,ForInStep.yield ((name,a)::r),v2_,ForInStep (μ fj_),v3_,fT (f2 Au gP_ jF!),v4_,Ac (f2 Ah bA! aE_) Ae,v5_,Ay (Ac bA_ (Ac jD! di_)),v6_,λp hp=>hn p jV!,v7_,oN cells r _ x h,v8_,f2 Cw (f2 Ir u_ (Jh_ (f2 Ej aE_ l_))) (ED_ 41),v9_,f2 Ah x_ v8_]
def z'w:String:=z [wa!,(l.drop (16*j)).take 16,wb!,#[(wa!).toArray],wc!,Fd 4 (f1 Aw (Ac l_ dZ!)),wd!,X.N[j]?=ψ x,we!,Iz (fT (Jh "str" a2_)) (Fd 7 bl!) Fm,wf!,∀b∈fp,b<W_,wg!,Fd 9 (f2 Ah bz_ (f2 Cw S! wf_)),wh!,Iz (Lu! (fC d6!)) (HW! (Ac (Lc_ J!) g2!)) Fm,wi!,Iz (Lu! (fC jE!)) (By (Ay (Ac am_ (Ac aT_ (Ac (f1 Co (LO! J! aE_)) g2!))))) Fm,wj!,.lst (bp++[.tup oh_]),wk!,Fd 10 (f1 Co (LO! (f1 Mq cf_) e6!)),wl!,f2 Ir S! wf_,wm!,(∀q∈ps,Nc fl_ (ψ q.1) wl_=ψ (.str q.2)),wn!,Iz (Ep (Lu! jk_) (fT (JT_ bX!))) (HW! (LZ_ (f2 Al r! (f2 Cw wl! (f2 Gu bx_ (LC_ bX!)))))) Fm,wo!,(by rw[hp];simp[nmsL]),wp!,pl.natAbs<=2000,wq!,b2a q9 h hO b0 a! a! gd hp f7 λM1 g8 g9 d8 Y um j9=>?_,wr!,By (L4_ am_ (Lc_ (Aa 11))),ws!,Ac (E3! (Rk f) cD_) Ae,wt!,([]:μ Value),wu!,(λv z=>by cases z),wv!,Fd 7 (f1 Aw (Eh_ l_ wu_)),ww!,Ue 4 bz_ (FZ! (Kr 4 bz_)),wx!,λ_ _=>False,wy!,if bj_<=big then ψ (D.int fo_)else υ,wz!,Lu 3 (Ay (Ac (f2 Ah (Hk_ [P!,jY!,(.int 15)]) bz_) (Ac (Kr 4 bz_) (Eh_ (Kr 5 bz_) am_)))),wA!,Ak 3 (wl (Ks ny!)),wB!,(by rw[e2,e1];exact J),wC!,Rt (Xe 1 Q! x_),wD!,∀cl C au bo fp,JA_ tt,wE!,AC NL.length ix wi g tt te,wF!,wl (JM! [cf!,nR!]),wG!,Bt o_ uK! (wl (f2 Au gP_ jy_)),wH!,λb o J e=>(c7.2 b J).trans e,wI!,gn c (sf x c h),wJ!,[y!,A_,b3_,ψ mn,fn!,N!,ψ (.fn q.1)],wK!,q.2.headD dl!,wL!,fT (f2 Pj J! dm!),wM!,f2 Ah (f2 Ah S! J!) r!,wN!,(by show fm!<big;delta big;omega),wO!,∀a vs,GC_ a vs->Et KF H' a vs,wP!,An.map ht hl hd xs vs r,wQ!,fT (JT_ Q!),wR!,Ay (Ac Q! cf_),wS!,fT (f2 Au wQ_ wR!),wT!,Ak 5 (wl (FZ! aT_)),wU!,λ_ _ q=>cE e q,wV!,f2 Al (Fh S! Bc ee!) (Hl wU_),wW!,λ_ _ q=>b0v e q,wX!,#[a,vs,χ,h,r],wY!,Ak 3 (Bf 1 [1] wJ_ t_ (GH! ha!) jN_),wZ!,Ap (Cc (Dy (J8_ Q!))) fp_ Bi,w0!,((F_).length:δ),w1!,[y!,A_,ψ ha_,wZ_,j5_,N!,υ],w2!,(p0:Int)+(k:δ),w3!,wl (JM! [jg_,gD_]),w4!,Ab i_ (Ab D_ a2!),w5!,r.mono (iW h),w6!,Bb (Am 4 Ht w5_),w7!,Ac n3_ (Ac va_ Ae),w8!,Bt bD! am! n0_,w9!,#[v,Y,h2.mono x.g]]
def z'ww:String:=z [wa_,Str.mk (wa!).toArray,wb_,"_law_letters",wc_,Fd 6 (Lc_ (f2 Al (JW! J!) (Fh J! Bc e8_))),wd_,Fd 7 (f1 Co (LO! (f2 Al J! (Hk_ jX!)) ar!)),we_,Fd 8 (Hk_ [d6!,d6!,d6!,jE!,jE!,jE_,jE_,d1_,jF_,cf!,nR!,nX!]),wf_,fC (.int 12),wg_,.int (1+(c:δ)),wh_,¬EQ_ a p,wi_,Iz (Lu! (fC nX!)) (HW! nN_) Fm,wj_,mup M1 p wj!,wk_,Iz (Lu! jF!) (By (Ay (Ac am_ (LZ_ (f1 Hr (Ac (Kg! u_ g4!) di_)))))) Fm,wl_,ψ (q.1+16),wm_,ForInStep.yield ok,wn_,ps.map λq=>.int q.1,wo_,ψ (.int q.1),wp_,Iz (fT (f2 (Uq θ) am_ (JM! [d1_,jF_]))) (By (Ay (Ac (fC jF_) (Ac aT_ (Ac (f2 Cw wl! e6!) (Ac (f2 Gu (f2 Cw (f2 Ir S! (ED_ 48)) (ED_ 2000)) (ED_ 1000)) Ae)))))) Fm,wq_,Fd 11 (f2 Al (E3! (Dx x_) (Ay gY_)) (Hl (Ac (L4_ B_ (f2 Al r! (f2 Cw S! g4!))) Ae))),wr_,[#[tg,iter,fh,0]],ws_,tx.cps.toList.map λc=>D.str ak!,wt_,Ac B_ (Eh_ B_ B_),wu_,f2 Al u_ (f2 Ej (ED_ 7) aT_),wv_,Fd 8 (JZ_ a2_),ww_,Ue 5 bz_ (f2 Al (FZ! (Kr 5 bz_)) (JZ_ (f2 Ir a2_ aE_))),wx_,Fd 9 (Ks (f1 Jg (Ac l_ (Ac (FZ! wu_) (Eh_ Q! g4!))))),wy_,I8.pin (b,o) tg_,wz_,λhx ay M1 hq=>?_,wA_,fT (Lp_ Q!),wB_,fT (f2 CJ (Ay (Ac (LC_ (Kr 1 j2!)) (Ac (H5! (Kr 1 j2!)) Ae))) (L4_ fb_ bA_)),wC_,X.env.kindOf y.1=ψ .cell\/X.env.kindOf y.1=ψ .free,wD_,∀cl C au bo fp,PE ch_ gc te,wE_,dM (EJ! ax _ I h) λv s1 Y=>dM Y λwk s2 h2=>?_,wF_,wT (w2 by_ (wl gP_) wF!),wG_,#[MN (LQ J hC),MN (LQ J hD)],wH_,.inr (LX I2.sz hC),wI_,λx c h=>(wI!).1,wJ_,Br (w2 Bl i_ j2_),wK_,λx c h=>(wI!).2,wL_,[c1!,i,(wK!).v,.int (f0!:δ)],wM_,fT (f2 Do wM! x_),wN_,∀a h1,Rd H a dU_->Rd H' a dU_,wO_,Ak 5 (wl (FZ! J!)),wP_,λd hd=>hg d ga_,wQ_,f2 Ah S! aT_,wR_,(p:Int)+(k:δ),wS_,Cc (Ep wQ! wS!),wT_,((p+1:δ):Int)+(k:δ),wU_,Ac (Ay (Ac u_ cf_)) Ae,wV_,λ_ _ q=>e.seq q,wW_,Fh S! ee! Bc,wX_,"_law_parent_here",wY_,"_law_sibling",wZ_,ψ (.int (m0:δ)),w0_,.str "texts",w1_,List.range m0,w2_,(w1_).map λk=>.int w2!,w3_,((p0:δ):Int)+(m0:δ) - (p0:δ),w4_,Kb (wT (Am 3 Lb w4!)),w5_,Ab i_ (Ab o_ (Ab D_ nI!)),w6_,f2 Ah u_ aE_,w7_,Ak 4 (Ws hc! (wl (f2 Au jD! jh!))),w8_,wl (fC w9_),w9_,.str "numbers"]
def z'x:String:=z [xy!,Around,xa!,Bt oD! am! (Ew (Ab aF! (Ab aF! (Ab aF! nL!)))),xb!,bAt F_ (p0:δ),xc!,Bt (w2 Bl oD! dj!) jD_ (wl bA!),xd!,show(oF_).length=(pcs tx.cps.toList).length from oQ _ _ _,xe!,f2 Au (H5! (f2 Ah J! a2_)) fb_,xf!,wl (FZ! a2_),xg!,show(oG!).length=_ from qJ _,xh!,Bt bD! dj! (wl (f2 Al (f2 Al (Fh J! Bc (Aq aT_)) bz_) (Fh J! (Aq aT_) Bc))),xi!,AY X.K own f,xj!,∀Z G H Q ρ d,ET_ X.K->ft ρ=ψ d->(∀G' H',Bz G H G' H'->Q d H')->t Z H Q,xk!,if b∈Jl own Z then υ else G' b,xl!,Ak 1 (Nm xk_),xm!,wT (w2 jx_ (wl (H5! u1_)) wF!),xn!,Kb (wT (Ev D_ (wl (Ay xm_)) (wl (fC I!)))),xo!,Bb (Am 2 Vh nI_),xp!,Br (w2 Bl bD! o_),xq!,f1 Ko (Ac l_ (Ac u_ di_)),xr!,ψ (E2_ D.bl (bL_+f4!<(p:δ)+(m:δ)))=_,xs!,(kb_).take hd_,xt!,b1n ho ha.ok J.ok hm,xu!,f1 Be (Ac (IK_ 1) Ae),xv!,b1d ho ha.ok J.ok hm,xw!,fC (.lst [P!]),xx!,#[d,χ,oM!],xz!,Ab i_ (Ab D_ (Kh! am! aL!)),xA!,#[b7v h.ok],xB!,#[G1,ρ,d,cP!,e,λG2 H2 s2=>k G2 H2 cP_],xC!,Ac aT_ (Ac (Nj Q! ee! (Aq (f2 Al J! bx_))) Ae),xD!,Rt (Lu 4 (Ay xC!)),xE!,λv G1 H1 s1 r1=>?_,xF!,Ak 6 (wl (Ks dm!)),xG!,c9c ha.ok J.ok,xH!,k _ G1 H1 s1 Ao.bl,xI!,f2 Ah u_ hh!,xJ!,f2 Al (FQ! kf!) (FI_ kf! a2_),xK!,.tup [aP_,es_],xL!,[aP_,es_,gm_],xM!,Rt (Lu 4 (Ay (Ac kf! g2!))),xN!,Ak 5 (wl hh!),xO!,S++[acO S 6 xN_],xP!,Ac l_ (Ac t0! Ae),xQ!,(aJ_).length=P_,xR!,∀ρ ds,fs ρ=ψ ds->f_=P_,xS!,Ak 2 (w2 Li jJ_ (Yk (Ab (Am 3 Jf (Ab jJ_ (KP! (wl g4!) (fC (.tup [d6!,jg_,.non]))))) Ad))),xT!,(by rw[KO];omega),xU!,Bb (EH! Pp (Ab am! bz!)),xV!,(by rw[NO];decide),xW!,Ac (FQ! xV_) Ae,xX!,#[ο,hR M bq bj be (by rw[hq];simp[nmsL]) λc _=>χ],xY!,k _ G H aM_ Ao.str,xZ!,(by rw[aj,KW,a1b,LZ];rfl),x0!,f1 Aw (KR! 31),x1!,Ak 8 (wl (f2 Cw x0! x0_)),x2!,Ak 9 (wl (f2 Cw (Kg! (fC (.int 32)) hi!) ar!)),x3!,∀i j H,Ev_ bw_ (gv i j),x4!,k _ G H aM_ (hg _ _ G),x5!,("numbers",.fn a4),x6!,λ_ j=>decide (0<j),x7!,λ_ j=>decide (0<j)&&decide (j<1073741824),x8!,Aq (JZ_ bX!),x9!,λi j=>decide (0<=j)&&decide (j<=1000000)&&decide (dc_<2 ^ 64)]
def z'xx:String:=z [xa_,Bb (Am 4 Ht (Ab i_ (Ab am! (Ab (wl (Wf (fT S!) jD! (fC gD_))) (Ab jD_ Ad))))),xb_,y.gd W i p0->A!+(a3_).length<=63,xc_,f1 Be (Ac J! Ae),xd_,Hm (Ft xc_),xe_,λY h2 p M' ao ar g1 g2 g3 g4=>?_,xf_,Ap (GH! xe!) (Ak 6 xf!) Bi,xg_,.int ((n+1:δ):Int),xh_,f2 Ah u_ ar!,xi_,#[by rintro hb s Z H Q I ⟨G,ρ,d,er,e,k⟩;exact LE_ h oJ!],xj_,Bt bD! dj! (Bf 1 [9] (Hm (Dx J!)) t_ d5_ (Mx (Ab cK! (Ab jN_ (Ab (Ih (wl df_) (w2 jx_ cK! o_)) Ad))))),xk_,Dk j2_ n0_ (Dk hb! Fw (Dk w8_ Fw Mf)),xl_,Ak 2 (FJ_ Kz),xm_,Ac vj! (Ac (Lr_ Q!) Ae),xn_,.lst (F.map Sn.v),xo_,p+m<=F.length,xp_,((j'+1:δ):Int),xq_,Bf 1 [2] (Hm (Dx xq!)) t_ (GH! oz!) i_,xr_,Ab ce! (Ab aL! Ad),xs_,Bf 1 [] jz_ t_ d5_ (wl df_),xt_,b8z hr ha.ok J.ok hs,xu_,dS (by delta Ep;rw[gG e1];exact gG e2),xv_,b1j ho ha.ok J.ok,xw_,f1 Zl (Ac (f2 Al Q! xw!) Ae),xx_,ψ (E2_ D.bl (bL_<(p:δ)+(m:δ)))=_,xz_,#[b1b h.ok],xA_,b7w ha.ok J.ok,xB_,c8z ha.ok J.ok,xC_,#[b8v h.ok],xD_,b9b ha.ok J.ok,xE_,λv G2 H2 s2 r2=>k v G2 H2 cP_ r2,xF_,k _ G1 H1 s1 Ao.bl,xG_,Cc (fT (Hp! J!)),xH_,uV hc.ok ha.ok J.ok,xI_,cX h.ok hs.ok hst,xJ_,Ep (fT (Hp! hh!)) (Eu_ xI! xJ!),xK_,(by rw[<-aL r1];exact fG hl),xL_,s1.trans (Bz.laid s1.sub hp),xM_,s1.sub.free hp,xN_,.tup [kd,i,fv,x],xO_,pE hc hg hm hv ha.ok hn bd he ay,xP_,AD X.K ps.length g,xQ_,Ak 1 (Am 4 (Oj t) (Ab i_ (Ab aF! (Ab (wl g4!) (EV! (f2 Cw (f1 Aw xP!) (fC gZ!))))))),xR_,∀ρ ds,fs ρ=ψ ds->f_=n,xS_,Ak 3 (KS! (EV! oR!)),xT_,dS (gG this),xU_,Ac l_ (Ac (ED_ 61) Ae),xV_,f2 Ah x_ (Gn r!),xW_,Ac (f2 Al (JW! jW!) (Hl xW!)) (Ac (Kg! (fC (.int 30)) hi!) Ae),xX_,Ak 5 (wl (f1 Co xW_)),xY_,w2 Bl gW_ hb!,xZ_,Ak 7 (Gi! (Ev xY_ ce! bU!)),x0_,f2 Al ki_ ar!,x2_,f1 Aw (KR! 33),x3_,Ak 10 (wl (f2 Cw x2_ (ED_ 21))),x4_,f2 Al bz_ (f2 Ej am_ bX!),x5_,ψ (.lst F_),x6_,#[nF λd hd=>(h d hd).1,?_],x7_,∀d∈l,Az d=τ/\Go d<=5,x8_,Ap (Cc (Lu! B_)) (Ak 10 (wl (Nj (f1 Hr oU!) x8! Bc))) Bi,x9_,Ak 12 (wl (fC oU_)),xy_,X.env.scope.names.lookup ζ,x1_,aV nd χ b! ζ]
def z'y:String:=z [yg!,Value,ya!,Ab d4! (EV! bX!),yb!,eG l2_ e! rm_,yc!,k v G H aM_ h2,yd!,Hl (Ac (Aa 17) Ae),ye!,Ak 2 (LA_ x_ yd!),yf!,Bb (Em kk_ (wl (FQ! (Aa 17)))),yh!,.lst (hds cG_),yi!,(by delta big;omega),yj!,Rx nL! (wl bx_),yk!,Ap (Yj (wT (w2 Ri (Am 5 (Ro t) (Ab am! (Ke_ ce!))) kk_)) yj_) fp_ Bi,yl!,#[by simp[Az,Ca],by simp[Go,De]],ym!,f1 Be (Ac (Aa 15) Ae),yn!,f1 Be (Ac bX! Ae),yo!,Ap (GH! (f2 Do ym! yn_)) fp_ Bi,yp!,((g0!).length:Int),yq!,[L!,uC_,ar_,"behind","text"],yr!,λa z=>(by subst z;rcases e2),ys!,[z!,ar_,cG!,fc!],yt!,(λxs H Q=>∃x n,xs=[x]/\CB KF x H n/\Q dV! H),yu!,[cc!,cb_,ow!],yv!,[bx!,hf_,dd_],yw!,[gA_,e2_,cB_,gB!],yx!,.ref t.NotThere,yy!,nI (c1p wi hx),yz!,i=f_->ag.stop i H',yA!,A!+br cL!<=43+7*tw+2*tc,yB!,An KF G1 ds vs,yC!,c4 V (Ev! eA hV),yD!,λz=>Hg_ g,yE!,Zt KF ag ds G1,yF!,(by rw[LB h];rfl),yG!,((pc!).mono x3.g).mono x4.g,yH!,λx0 x1 x2 x3 x4=>(he x0 x1 x2 x3 x4).ok,yI!,λag G1 H1 x1 gq=>?_,yJ!,#[_,mup_same],yK!,FF X.K G0 F0 own df f,yL!,λ_ _ _=>χ,yM!,.Assign [cQ_] e pos,yN!,ψ (.int (mo:δ)),yO!,(∀b,b≠f->b≠p->M' b=M b),yP!,(K.f _).symm.trans lu,yQ!,s.or.sub.trans zi,yR!,(Wy.wr ku!).gd W i p0,yS!,(by simpa using K2),yT!,[ba!,ψ P!,ψ jY!,BA! N,υ,υ],yU!,(λb u e=>by rw[bC (hG e)];exact JC_ e),yV!,[.int a,.int b],yW!,.nx (KW_ (o8! (ds++[d]))),yX!,.Call (Fs_ bn! "append") [e] [] ai,yY!,cX h.ok fM hst,yZ!,[(acO S 5 hm!).v],y0!,.lst ((ei!).map Op.v),y1!,DE X own ix fx,y2!,kO hN zj hd cf,y3!,#[_,h.mem.mpr aw_,χ],y4!,λx=>if x=n then[]else W.txt x,y5!,λi hi p e=>?_,y6!,aU (lU T) c! χ ck_ aN_,y7!,gE (eK (jY nH χ T.S2 χ T.S9 cS qN C!)),y8!,u=[]/\b∉l.map b_,y9!,J ah A outer s H E hr]
def z'yy:String:=z [ya_,.bl (Ql i j),yb_,Ak 16 (wl (H5! (Aa 13))),yc_,Ap (GH! (Jh "int" kk!)) (Ak 16 (w2 Li (w2 Bl kk_ jK_) (wl (JM! [(.int 15)])))) Bi,yd_,PO X lo (FK_ AZ ol),ye_,PO X hi (FK_ AZ oh),yf_,Af ye! yf!,yg_,(cG_).length<5000,yh_,s4.trans kj!,yi_,[.int b,.int c,.int e],yj_,wT (w2 Ri (EH! Pq (Kh! am! yj!)) (Am 1 Db bz!)),yk_,Ak 15 (Gi! (w2 Bl (w2 Bl (wl (Aa 14)) hb!) ce!)),yl_,Ap (Yj (wT (w2 Ri (EH! Rn o0_) (Am 2 Gd (Ab (wl (Aa 14)) jt_)))) (wT (w2 Ri (EH! Kw o0_) (wl (Aa 15))))) fp_ Bi,ym_,fT (f2 Au am_ r!),yn_,f2 Al ki_ (Wf ym_ (Gn bX!) yn!),yo_,Ap (wT (w2 Ri (EH! Kv o0_) (wl (E3! (Dx (Aa 15)) ay_)))) fp_ Bi,yp_,ψ (.bl g),yq_,[L!,ar_,"first",fc!],yr_,[z!,ar_,cG!,"text"],ys_,[a0!,fn_,bx!,g1_],yt_,[a0!,fn_,j1_],yu_,[a0!,fn_,hf_,j1_],yv_,[jc_,gA_,cb_,cB_,gB!],yw_,nI (b6x wi hx),yx_,.builtin "all",yy_,(∀d,ds[i]?=ψ d->ag.go i H'/\∀x ii,ag.yld i H' x ii->∃u0,Bz G' H' u0 ii/\Ao KF u0 d x),yz_,A!<=9+3*tw+20*tc,yA_,#[#[v1,?_],i!],yB_,ψ (FD_ (y.gd W i p0)),yC_,(k'.map b_).Nodup,yD_,BV KF 2 (Tf eT_ (Tf (Mr j) BW)),yE_,#[dL (by rw[<-aL a8];omega),?_],yF_,Aa 4 ρ=ψ bO_,yG_,AY X.K [] ft,yH_,b1m dq db mj jh cap calm ax.ok hg hi yH! hs,yI_,(by rw[eS];simp),yJ_,h.fr b b1 b2,yK_,DS X own bt st q1,yL_,vQ χ χ em3,yM_,uU hN hi hx h.ok hs hf,yN_,lI bL! y1 S a fy_ d5! hj_ fv_ ds_ (ψ ld_) yN! cm d9 bq bv bw bj be,yO_,(p0:Int)+c*(mo:δ)<=fz!,yP_,#[G',ρ,r,er.grow x',e2,k],yQ_,λj d q n=>?_,yR_,show rws W i=sns W i from KQ z,yS_,λz=>Ei_ z.symm d6,yT_,os.filter λo=>!decide (o.h=5),yU_,[.int a,.int b,.int c],yV_,(by rw[LY];omega),yW_,[e].length+(d7_).length+ff_<30,yX_,u'++[du_]++v,yY_,(((hs S 5).length:δ):Int),yZ_,ρ.set i (o8! (ds.set k d)),y0_,.Subscript bn! ix p2,y1_,aP (d:=ju_) χ,y2_,λiv G2 H2 x2 r2=>?_,y3_,(x.trans x2).h _ _ h3,y4_,λx=>if x=n then[.int 0,.int 0,.int 0,.int 0]else W.num x,y5_,Bz G0 F0 G1 H1,y6_,if y=n then[]else W.txt y,y7_,Ya KF x qual st af fd,y8_,F.ok S y9_ (λah A outer s H vs Q E hr h=>?_),y9_,λvs H Q E h=>h.1]
def z'z:String:=z [zF!,World,zH!,Program,zP!,Shared,zR!,W.Frag,za!,aU (jE T) c! χ pq! aN_,zb!,#[er,Bz.refl sub,aA_],zc!,aU (jD T) c! χ (aD zd! aI) aN_,zd!,dA C! dN b1_,ze!,fI a8g a8p C! dG m_,zf!,(Fv_ (min us.toArray.size pt_)).all (λj=>Dt A1! ze_)&&kA_==pt_,zg!,oF hu! (ad (.dir τ)) (ad (.dir θ)) (ad .nums) pv_ (ad .hid),zh!,λ_ _ _ _ _=>(EK! vA ck_),zi!,A.units+Go d<cLine,zj!,#[dx,dy,rx.mono sub,ry.mono sub,h.1.1,h.1.2,h.2,eh!],zk!,#[G,ρ,x,er,e1,λv G1 H1 s1 r1=>#[G1,ρ,y,cP!,e2,λw G2 H2 s2 r2=>hg s2.sub ft! r2 e3 λt G3 H3 s3 r3=>?_]],zl!,(r2.mono s3.g).mono s4.g,zm!,#[by rw[s];exact LX ty.1 hB,by rw[s];exact ty.2],zn!,.bl (Kp! x),zo!,aQ aK aW L_ aB,zp!,λhb s Z H Q I h=>?_,zq!,c1a (k:=I3_ z) r1,zr!,λ_ _ _ _ _=>bB zq_ χ b!,zs!,cP (aD aO! pq!),zt!,λ_ _ _ _ _=>zs!,zu!,∀c,O c->M' c=M c,zv!,x.cps.toList.map λc=>.str ak!,zw!,#[(OF.mp hc).1,λv ii hy=>?_],zx!,λi h=>i<=kI!/\gu i h,zy!,I1.kept λb o e=>KL _ e,zz!,aU (yS T) c! χ em_ aN_,zA!,ys.map V.str,zB!,.str (Txt.join z ys),zC!,λw G2 H2 s2 r2=>?_,zD!,s.heap.IsTupleIter jt tt n,zE!,mup_ne (MD p2),zG!,∀a p,(a,p)∈W.rows->rk p<rk a,zI!,Obj.cls_mapFields ..,zJ!,λz=>r1 (q.mpr z),zK!,aQ mZ nA a7! aB,zL!,show A.in1.handled=υ from hh,zM!,((en!).extBut.push _).push _,zN!,xs[k1]?=ψ x,zO!,Builtin.«zip.__next__» #[[.ref z],[]],zQ!,OV gz c_ λY ow cz=>?_,zS!,jm.extBut cz.extBut D.l1z,zT!,cz.extBut _ _ D.TOz gO,zU!,VH u7 λh3 w4 dh=>?_,zV!,((j3.extBut cz.extBut D.l2z).extBut bu.extBut D.l2i1).extBut dh.extBut D.l2TO,zW!,bH uX uZ Z_ aB m_,zX!,dh.extBut _ _ D.TOz.symm (Gt_ D.i1z.symm ow),zY!,if x=i then l else W.txt x,zZ!,(q.1,q.2.1,q.2.2&&!decide pI!),z0!,xs[k1]?=υ\/ys[k2]?=υ,z1!,cz.extBut _ _ c1 x,z2!,F.entry_zip_next,z3!,aG (LY! (Ks_ bF! aB)),z4!,g++[.tup hG!],z5!,mup M (ad .hid) (.dct (Bq k6 hH! x!) (Hj k6 hH! e6)),z6!,λ_ _ _ _ _=>nQ (dX (bH cn! oB aO! L_ m_)),z7!,FB s.heap l1 l2,z8!,(by rw[show B+(js.length+1)=B+1+js.length by omega];simpa using h'),z9!,(hJ!).map λk=>z+bL_]
def z'zz:String:=z [za_,.tup (Jt_ 9 9),zb_,uR I xs ys vs n n' rr cr,zc_,(by delta Az at h;exact h),zd_,aU (jD T) c! χ ck_ aN_,ze_,es.getD j .non,zf_,(by rw[KU,KU,<-h3,<-h4,<-Y,<-h2];simpa using hl),zg_,(show(e5_:μ Str).Nodup by decide+kernel),zh_,a3w I _ _ _ n n' r r',zi_,#[.bl _,H,I,χ,q],zj_,El g g' fa fb fc,zk_,#[bb,χ,?_],zl_,qi.trans (s4.trans s5),zm_,aG (J0! T.W7 cm!),zn_,bD (bY (Ez_ C! (Mi! L_ hs!))),zo_,L2.Key×Value,zp_,ha.ok hb s Z H _ I h,zq_,(show(dx!:μ Str).Nodup by decide+kernel),zr_,h.inj _ _ l' hd z,zs_,Ok X.prog X.w X.K X.mg X.base k x ps g,zt_,Addr->Em! pA!,zu_,λi _=>i<kI!,zv_,λi _=>kI!<=i,zw_,∀i h,gu i h->∃o,h.get? it=ψ o/\∀v,o.data≠.cell v,zx_,.bl (decide em!),zy_,λi h st=>Y3 _ i h st,zz_,.inr (.inr #[dM_,χ]),zA_,aU hz_ c! χ (EE_ C! zo!) an_,zB_,aQ eH eI a7! aB,zC_,aD (HN_ fE_ (aD ag_ hA!)) pE!,zD_,s.heap.IsTuple tt xs,zE_,Builtin.SmallTypes.nextOf (.ref jt),zI_,(∀p,a4_∉W.rows),zJ_,(by first|rfl|(dsimp only[firstArgMember];rfl)),zK_,wpAny_handled ?_,zL_,KJ (wpAny_throw ?_),zM_,aQ eH eI zK! aB,zN_,ys[k2]?=ψ y,zO_,(λfin s'=>∃v,fin=.done (.ret v)/\Q v s'),zP_,(fH_).set p.toNat dV!,zR_,cL g1 cz.extBut D.i1z,zS_,a1d zR_ zS! gx λh2 Y4 bu=>KJ ?_,zT_,PL u7 χ ?_,zU_,cL (cL (cL g2 cz.extBut D.i2z) bu.extBut D.i12.symm) dh.extBut D.TOi2.symm,zV_,mS nd χ b! aI,zW_,aQ kP kQ Z_ aB,zX_,aQ aK aW ag_ aB,zY_,rawInt h5.objs.size,zZ_,mE (GK! a8!),z0_,Jy (setT W i l'),z1_,#[_,gz,χ],z2_,F.args_zip_next_1 _,z3_,.tup [hF!,hF_],z4_,λ_ _ _ _ _=>LD_ cb_,z5_,setT W i (cutT z4! bF_),z6_,FC s.heap l1,z7_,FA s.heap l1 l2,z8_,I.step pM! (λc o _ _ hc e _=>kp c o hc e) (λc o _ _ hc e _=>#[o.slots,kp c o hc e]) r6! (λc o hc e=>#[o,kp c o hc e]) r6_ r7! (λc ps e=>mu!) r8! pM_ I.bare,z9_,#[o,es,ep,IN! kp hf,r],zF_,p ζ η a_ χ χ,zG_,(by rw[ζ];exact η),zH_,wpAny e_ X.A ζ,zQ_,List.lookup (Str.ofString ζ)]
end
def z'L(t:String):List String:=let c:=t.back;if c=='!'||c=='_'||"ψχυτθινμξοδ".contains c then (let b:=c=='!';if t.length<3 then if b then z'0 else z'00 else match t.front with|'a'=>if b then z'a else z'aa|'b'=>if b then z'b else z'bb|'c'=>if b then z'c else z'cc|'d'=>if b then z'd else z'dd|'e'=>if b then z'e else z'ee|'f'=>if b then z'f else z'ff|'g'=>if b then z'g else z'gg|'h'=>if b then z'h else z'hh|'i'=>if b then z'i else z'ii|'j'=>if b then z'j else z'jj|'k'=>if b then z'k else z'kk|'l'=>if b then z'l else z'll|'m'=>if b then z'm else z'mm|'n'=>if b then z'n else z'nn|'o'=>if b then z'o else z'oo|'p'=>if b then z'p else z'pp|'q'=>if b then z'q else z'qq|'r'=>if b then z'r else z'rr|'s'=>if b then z's else z'ss|'t'=>if b then z't else z'tt|'u'=>if b then z'u else z'uu|'v'=>if b then z'v else z'vv|'w'=>if b then z'w else z'ww|'x'=>if b then z'x else z'xx|'y'=>if b then z'y else z'yy|'z'=>if b then z'z else z'zz|_=>if b then z'0 else z'00).splitOn ("\r"++t++"\r") else []
open Lean in
def z'S(a:Array Syntax):Nat->Syntax->Syntax
|n+1,.node i k b=>.node i k (b.map (z'S a n))
|_,s=>let v:=s.getId;if v== `ζ then a[0]! else if v== `η then a[1]! else s
open Lean in
local macro_rules|`($s:ident)=>match s.getId with|.str .anonymous t=>(match z'L t with|[_,f]=>do return z'Z (.fromRef (<-getRef)) f|_=>Macro.throwUnsupported)|_=>Macro.throwUnsupported
open Lean in
local macro_rules(kind:=Lean.Parser.Term.app)|x=>match x[0].getId with|.str .anonymous t=>(match z'L t with|[_,f]=>do let g:=(f.takeWhile (·≠'\r')).toString;let p:=λs=>(g.splitOn s).length>1;let n:=if p "\niη\n" then 2 else if p "\niζ\n" then 1 else 0;let a:=x[1].getArgs;let s:=z'S a 999 (z'Z (.fromRef (<-getRef)) f);let r:=a.extract n a.size;let k:=``Parser.Term.app;return if a.size==n then s else .node .none k (if s.isOfKind k then #[s[0],mkNullNode (s[1].getArgs++r)] else #[s,mkNullNode r])|_=>Macro.throwUnsupported)|_=>Macro.throwUnsupported
open Lean in
local macro_rules|`(tactic|push_cast)=>`(tactic|show"pc!")|`(tactic|push_cast[$x,*])=>match z't't.splitOn "\rpc!\r" with|[_,f]=>do let s:=(z'Z (.fromRef (<-getRef)) f)[1][1][0][0][0];return s.setArg 4 (s[4].setArg 1 (mkNullNode (s[4][1].getArgs.push (mkAtom ",")++x.elemsAndSeps)))|_=>Macro.throwUnsupported
open Lean in
local macro_rules|`(tactic|show$s:str)=>match z't't.splitOn ("\r"++s.getString++"\r") with|[_,f]=>do let q:=z'Z (.fromRef (<-getRef)) f;let q:TSyntax ``Lean.Parser.Tactic.tacticSeq:=⟨q[1][1]⟩;`(tactic|($q))|_=>Macro.throwUnsupported
set_option hygiene true
open Lean in
def z'P:Nat->Syntax->Syntax
|n+1,s=>let k:=s.getKind;if k== `«term#[_,]» then .node .none ``Parser.Tactic.rcasesPat.tuple #[mkAtom "⟨",.node .none `null (s[1].getArgs.mapIdx λi x=>if i%2==1 then x else .node .none ``Parser.Tactic.rcasesPatLo #[.node .none ``Parser.Tactic.rcasesPatMed #[.node .none `null #[z'P n x]],.node .none `null #[]]),mkAtom "⟩"] else if s.isIdent then .node .none ``Parser.Tactic.rcasesPat.one #[s] else if k==``Parser.Term.hole then .node .none ``Parser.Tactic.rcasesPat.ignore #[mkAtom "_"] else s
|_,s=>s
open Lean in
local macro_rules(kind:=Lean.Parser.Command.declaration)|x=>if x.getPos?.isNone||x[1].isOfKind ``Parser.Command.theorem then Macro.throwUnsupported else let m:=(x[0].reprint.getD "").trimAscii.toString;let p:=m=="protected"||(x.find? (·.isOfKind ``Parser.Tactic.renameI)).isSome;let N:=z'N (!p) 9999;let k:=N x[1];let u:=match k[1][0].getId with|.str _ s=>s.front.isUpper|_=>false;match k.isOfKind ``Parser.Command.definition&&(m=="protected"||m==""||m=="nonrec"),u||m=="nonrec" with|true,false=>do let d<-`(theorem $(⟨k[1]⟩):declId $(⟨.node .none ``Parser.Command.declSig #[k[2][0],k[2][1][0]]⟩):declSig $(⟨k[3]⟩):declVal);if p then return N (<-`(set_option tactic.hygienic true in $d:command)) else return N d|true,_=>do return N (<-`(noncomputable def $(⟨k[1]⟩):declId $(⟨k[2]⟩):optDeclSig $(⟨k[3]⟩):declVal))|_,_=>return N x
open Lean in
local macro_rules|`(universe $x*)=>do let p:=`PySem.Challenge;let c:=p.str "cw_manyhands_k21_own_texts_holds";return mkNullNode (<-(p.str "pw_manyhands_k21_own_texts"::x.toList.map (λi=>c.str i.getId.toString)++(List.range 849).map λn=>c.str s!"o_{n+43}").toArray.mapM λn=>do return z'N false 99 (<-`(noncomputable def $(mkIdent (PySem.W.Fast.stemOf n).1):ident:=0)))
universe env_41 heap_39 heap_46 heap_892 sts_101 sts_116 sts_159 sts_224 sts_254 sts_305 sts_49 sts_507 sts_544 sts_602 sts_687 sts_71 sts_770 sts_849 sts_86 tree_100 tree_115 tree_158 tree_221 tree_253 tree_304 tree_421 tree_47 tree_503 tree_543 tree_601 tree_686 tree_70 tree_769 tree_848 tree_85 tree_891 view_39
local macro_rules|`(tactic|omega)=>`(tactic|first|lia|omega +splitDisjunctions)
theorem z'Hd{G:Prop}(h:∀g:Prop,(G->g)->g):G:=h G λx=>x
set_option hygiene false in
local macro_rules|`(tactic|obtain $p:rcasesPatMed:=$e:term)=>do let s:=p.raw.reprint.getD "";if (s.splitOn ",").length>2+(s.splitOn "rfl").length then `(tactic|first|(refine z'Hd λz'g z'k=>?_;rcases $e:term with $p:rcasesPatMed<;>refine z'k ?_<;>clear z'g z'k)|rcases $e:term with $p:rcasesPatMed) else `(tactic|rcases $e:term with $p:rcasesPatMed)
open Lean in
local macro_rules|`(tactic|rintro $x:rintroPat*)=>let l:=x.back!.raw[0];let p:TSyntax `rcasesPat:=⟨l⟩;if l.isOfKind ``Parser.Tactic.rcasesPat.tuple&&((l.reprint.getD "").splitOn ",").length>3 then `(tactic|(rintro $(x.pop):rintroPat* z';obtain $p:rcasesPat:=z')) else Macro.throwUnsupported
set_option hygiene false in
local macro_rules|`(tactic|rcases $x:term)=>`(tactic|first|exact d9c $x rfl|exact cne $x rfl|exact d9e $x rfl|exact d9d $x rfl|obtain rfl:=Option.some.inj $x|subst $x)
set_option tactic.hygienic false
open Lean in
local macro_rules(kind:=Lean.Parser.Tactic.tacticLet__)|x=>let d:=x[2][0];if x[1][0].getNumArgs>0 then Macro.throwUnsupported else if d.isOfKind ``Parser.Term.letPatDecl then let q:TSyntax `rcasesPat:=⟨z'P 99 d[0]⟩;let e:TSyntax `term:=⟨d[4]⟩;`(tactic|obtain $q:rcasesPat:=$e) else return .node .none ``Parser.Tactic.tacticHave__ #[mkAtom "have",x[1],x[2]]
local macro_rules|`(#[$y,$x,*])=>`(⟨$y,$x,*⟩)|`(#[$y])=>`(⟨$y⟩)
local macro_rules|`(tactic|exact $t)=>`(tactic|refine $t)
local macro_rules|`(tactic|delta $x* $[$l]?)=>`(tactic|unfold $x* $[$l]?)
local macro_rules|`(tactic|simp![$x,*]$[$l:location]?)=>`(tactic|simp only[$x,*]$[$l:location]?)
noncomputable section
namespace L2
def d9c{P:ν}{x y:Em! α}(h:x=y)(e:(x.isSome==y.isSome)=θ):P:=by subst h;rw[NH]at e;cases e
def d9e{P:ν}{x y:Bool}(h:x=y)(e:(x==y)=θ):P:=by subst h;rw[NH]at e;cases e
def d9d{P:ν}{x y:aa_}(h:x=y)(e:(x.isEmpty==y.isEmpty)=θ):P:=by subst h;rw[NH]at e;cases e
open PySem PySem.Spec PyProof.Rows
abbrev Key:=Sum Int Str
def Pk:Key->Value->Bool
 |.inl k,v=>Value.isInt k v
 |.inr x,v=>Value.isStrOf x v
def EE(w:zF!):Key->Int
 |.inl k=>hashInt k
 |.inr x=>hashStr w x
def bV:∀{k:Key} {v:yg!},Pk k v=τ->(∃i t,k=Sum.inl i/\v=Value.int i t)\/(∃x t,k=Sum.inr x/\v=Value.str x t)
 |.inl i,v,h=>by
  let#[t,e]:=Value.isInt_shape (k:=i) (v:=v) h;exact .inl #[i,t,χ,e]
 |.inr x,v,h=>by
  let#[t,e]:=Value.isStrOf_shape (x:=x) (v:=v) h;exact .inr #[x,t,χ,e]
def zE(i:Int)(t:Tok):Pk (.inl i) dL!=true:=by simp[Pk,Value.isInt]
def rL(x:Str)(t:Tok):Pk (.inr x) gb_=true:=by simp[Pk,Value.isStrOf]
def d2o(a b:Int):decide (mc!=Sum.inl b)=gc!:=by
 by_cases e:a=b
 .subst e;simp
 .let h:¬mc!=Sum.inl b:=λq=>e (Sum.inl.inj q);rw[LD h];exact(NN.mpr e).symm
def d2l(a b:Str):decide (mc_=I3_ b)=decide (a=b):=by
 by_cases e:a=b
 .subst e;simp
 .let h:¬mc_=Sum.inr b:=λq=>e (Sum.inr.inj q);rw[LD h,LD e]
def d2n(a:Int)(b:Str):decide (mc!=I3_ b)=false:=LD rB_
def d2m(a:Str)(b:Int):decide (mc_=Sum.inl b)=false:=LD rB_
nonrec def mixKind(prog:zH!)(w:zF!):PySem.KeyKind prog w Key where
 is:=Pk
 hash:=EE w
 inj:=λv a b ha J=>by
  obtain⟨i,t,rfl,rfl⟩|⟨x,t,rfl,rfl⟩:=bV ha
  .obtain⟨j,u,rfl,e⟩|⟨y,u,rfl,e⟩:=bV J
   .injection e with e1 _;rw[e1]
   .exact md!
  .obtain⟨j,u,rfl,e⟩|⟨y,u,rfl,e⟩:=bV J
   .exact md!
   .injection e with e1 _;rw[e1]
 byValue:=λk v h=>by
  obtain⟨i,t,rfl,rfl⟩|⟨x,t,rfl,rfl⟩:=bV h<;>rfl
 pyHash:=λhv h=>by
  obtain⟨i,t,rfl,rfl⟩|⟨x,t,rfl,rfl⟩:=bV hv
  .exact wpAny_pyHash_int h
  .exact wpAny_pyHash_str h
 eqBool:=λhu hv h=>by
  obtain⟨i,t,rfl,rfl⟩|⟨x,t,rfl,rfl⟩:=bV hu
  .obtain⟨j,u,rfl,rfl⟩|⟨y,u,rfl,rfl⟩:=bV hv
   .rw[d2o]at h;exact wpAny_eqBool_int h
   .rw[d2n]at h;exact SeqAt.EqAt.int_str i t y u _ _ _ _ h
  .obtain⟨j,u,rfl,rfl⟩|⟨y,u,rfl,rfl⟩:=bV hv
   .rw[d2m]at h;exact SeqAt.EqAt.str_int x t j u _ _ _ _ h
   .rw[d2l]at h;exact wpAny_eqBool_str h
 «strs»:=λk x t v h=>by
  obtain⟨i,u,rfl,e⟩|⟨y,u,rfl,e⟩:=bV h
  .exact md!
  .injection e with e1 _
   subst e1;cases v<;>rfl
def a5c(prog:zH!)(w:zF!)(i:Int)(t:Tok):(rD!).is (.inl i) dL!=true:=zE i t
def mF(prog:zH!)(w:zF!)(x:Str)(t:Tok):(rD!).is (.inr x) gb_=true:=rL x t
inductive V where
 |non|bl (b:Bool)|int (i:Int)|str (x:Str)|byt (b:Array UInt8)|flt (b:UInt64)|ref (a:sS!)|ty (n:String)
 deriving DecidableEq
def Bh:V->Value->ν
 |.non,u=>u=dL_
 |.bl b,u=>u=Value.bool b
 |.int i,u=>∃t,u=Value.int i t
 |.str x,u=>∃t,u=Value.str x t
 |.byt b,u=>∃t,u=Value.bytes b t
 |.flt b,u=>∃t,u=Value.float b t
 |.ref a,u=>u=Value.ref a
 |.ty n,u=>u=Ht_ n
abbrev Av:μ V->μ Value->Prop:=E6! Bh
def Av.length(r:dM!):h_=aC_:=SD r
def Av.get:∀{xs:r_} {us:n_} {i:δ} {x:V},Av xs us->xs[i]?=ψ x->∃u,us[i]?=ψ u/\Bh x u
 |_,_,_,_,.nil,e=>by simp at e
 |_,_,0,_,.cons r _,e=>by simp at e;subst e;exact md_
 |_,_,i+1,x,.cons _ t,e=>by
  let#[u,Y,h2]:=Av.get (i:=i) (x:=x) t c6_;exact rD_
def Av.set(r:Bh x u):∀{xs:r_} {us:n_} (i:δ),Av xs us->Av (xs.set i x) (us.set i u)
 |_,_,_,.nil=>.nil
 |_,_,0,.cons _ t=>.cons r t
 |_,_,i+1,.cons q t=>.cons q (Av.set r i t)
def Av.append(h:dM!)(s:Av ys ws):Av eG! (us++ws):=by
 induction h with
 |nil=>exact s
 |cons r _ ih=>exact Hb! r
def Av.take:∀{xs:r_} {us:n_} (n:δ),Av xs us->Av (xs.take n) (us.take n)
 |_,_,0,_=>.nil
 |_,_,_+1,.nil=>.nil
 |_,_,n+1,.cons r t=>.cons r (Av.take n t)
def Av.drop:∀{xs:r_} {us:n_} (n:δ),Av xs us->Av (xs.drop n) (us.drop n)
 |_,_,0,r=>r
 |_,_,_+1,.nil=>.nil
 |_,_,n+1,.cons _ t=>Av.drop n t
def Mu:ι V->Em! Value->ν
 |some v,some u=>Bh v u
 |none,none=>True
 |_,_=>False
def KV:IM! κ V->IM! κ Value->Prop:=Paired λ(p:κ×V) (q:κ×Value)=>p.1=q.1/\Bh p.2 q.2
nonrec def kV:Key->V
 |.inl i=>.int i
 |.inr x=>.str x
inductive HO where
 |lst (xs:r_)
 |tup (xs:r_)
 |dK (h1:IM! Key V)|dT (h1:μ me_)
 |set (S:Int->Bool) (n:δ)
 |ins (C dx:sS!) (fs:μ c7!)
 |own (x:sS!)
 |xd (fs:μ c7!)
 |met (f x:sS!)
 |rng (lo hi:Int)
 |frz (o:Obj) (u:HO)
 |tbl (ps:b9!)
 |ext (φ:Heap->Prop)
abbrev Hp:=Addr->Em! HO
nonrec def upd(H:Hp)(a:sS!)(o:HO):Hp:=λb=>if b=a then ψ o else H b
def cC:LV_ o a=ψ o:=by delta upd;rw[y_]
def bC(h:b≠a):LV_ o b=H b:=by delta upd;rw[LB h]
def cO{H:Hp}(h:H a=ψ o)(h':H b=υ):a≠b:=by intro e;subst e;rw[h]at h';rcases h'
section
variable(P:zH!)(w:zF!)
def Ec(H:Hp)(h:Heap)(a:sS!):HO->ν
 |.lst xs=>h_<=sizeLine/\∃(its:n_) (n:δ),IM_ xs/\h.get? a=ψ {cls:=.type "list",data:=EX_ n}
 |.tup xs=>h_<=sizeLine/\∃its:List Value,IM_ xs/\IsTup h a bc!
 |.dK h1=>aD!<=sizeLine/\dN!=θ/\∃vs,KV h1 vs/\h.DictOf bu! a vs
 |.dT h1=>aD!<=sizeLine/\dN!=θ/\∃xs:List mf_,
   Paired (λ(p:List Key×V) (q:List Key×Addr×Value)=>p.1=q.1/\H q.2.1=ψ rE!/\Bh p.2 q.2.2) h1 xs/\
   ∃o es ep,h.get? a=ψ o/\iv_/\o.data=I4! es/\es.toList=xs.map (entryOfKey gc_)/\(xs.map b_).Nodup
 |.set S n=>h.SetOf (intKind P w) a S n
 |.ins C dx fs=>H dx=ψ gd!/\bu_<=1000/\dx≠a/\h.get? a=ψ mg_/\
   ∃mA,h.Ns1 dx mA/\rE_/\H7_ mh!
 |.own _=>∃o,h.get? a=ψ o
 |.xd fs=>∃mA,h.Ns1 a mA/\∀f,Mu (E6_ f) (mA f)
 |.rng lo hi=>∃t u v,h.get? a=ψ {cls:=.type "range",data:=Cd! 1}
 |.frz o u=>h.get? a=ψ o/\Ec H h a u
 |.tbl ps=>h.get? a=ψ {cls:=.none,data:=Gy_ ps}
 |.met f x=>h.get? a=ψ (W.methodObj ai! gd_)
 |.ext φ=>φ h/\(∃o,h.get? a=ψ o)/\∀Y h2:Heap,φ Y->(∀o,Y.get? a=ψ o->h2.get? a=ψ o)->φ h2
def Kt(H:Hp)(h:Heap):Prop:=∀a o,H a=ψ o->J2! H h o
end
def Ec.lt(x:mh_):a<b9_:=by
 cases o with
 |lst xs=>let#[_,_,_,_,e]:=x;exact LR e
 |tup xs=>let#[_,_,_,p]:=x;exact p.lt
 |dK h1=>let#[_,_,_,_,o,_,_,e,_]:=x;exact LR e
 |dT h1=>let#[_,_,_,_,o,_,_,e,_]:=x;exact LR e
 |set S n=>let#[o,_,_,_,e,_]:=x;exact LR e
 |ins C dx fs=>let#[_,_,_,e,_]:=x;exact LR e
 |own y=>let#[_,e]:=x;exact LR e
 |xd fs=>let#[_,#[_,_,_,e,_],_]:=x;exact LR e
 |rng lo hi=>let#[_,_,_,e]:=x;exact LR e
 |frz ob u=>let#[e,_]:=x;exact LR e
 |tbl ps=>exact LR iw!
 |met f y=>exact LR iw!
 |ext φ=>let#[_,#[_,e],_]:=x;exact LR e
def Paired.mapP{F G:α->β->ν}(h:F8_ l₁ l₂)(f:∀a b,F a b->G a b):Paired G l₁ l₂:=by
 induction h with
 |nil=>exact .nil
 |cons r _ ih=>exact Hb! (f _ _ r)
def Ec.stay(x:mh_)(k:∀b u,(b=a\/H b=ψ gd!)->h.get? b=ψ u->Es! b=ψ u)
  (ho:∀b,H b=ψ gd!->H' b=ψ gd!)(ht:rG_):J2! H' h' o:=by
 induction o with
 |lst xs=>let#[z,its,n,r,e]:=x;exact#[z,its,n,r,bM_]
 |tup xs=>let#[z,its,r,ob,e,c]:=x;exact#[z,its,r,ob,bM_,c]
 |dK h1=>let#[z,y,vs,r,ob,es,ep,e,c]:=x;exact#[z,y,vs,r,ob,es,ep,bM_,c]
 |dT h1=>
  let#[z,y,xs,r,ob,es,ep,e,c]:=x;exact#[z,y,xs,Paired.mapP r λp q z=>#[z.1,ht _ _ z.2.1,z.2.2],ob,es,ep,bM_,c]
 |set S n=>let#[ob,es,ep,t,e,c]:=x;exact#[ob,es,ep,t,bM_,c]
 |ins C dx fs=>
  let#[d,z,ne,e,mA,#[od,es,ep,e2,c],r]:=x;exact#[ho _ d,z,ne,bM_,mA,#[od,es,ep,k _ _ (.inr d) e2,c],r]
 |own y=>let#[ob,e]:=x;exact#[ob,bM_]
 |xd fs=>let#[mA,#[od,es,ep,e,c],r]:=x;exact#[mA,#[od,es,ep,bM_,c],r]
 |rng lo hi=>let#[t,u,v,e]:=x;exact#[t,u,v,bM_]
 |frz ob u ih=>let#[e,q]:=x;exact#[bM_,ih q]
 |tbl ps=>
  let e:h.get? a=ψ {cls:=.none,data:=Gy_ ps}:=x;show Es! a=ψ {cls:=.none,data:=Gy_ ps};exact k a _ aw_ e
 |met f y=>
  let e:h.get? a=ψ rH_:=x;show Es! a=ψ rH_;exact k a _ aw_ e
 |ext φ=>let#[p,#[o,e],st]:=x;exact#[st _ _ p λo q=>k _ _ aw_ q,#[o,bM_],st]
def Kt.lt(x:bd!)(e:H a=ψ o):a<b9_:=(x a o e).lt
def Kt.fresh(x:bd!)(e:b9_<=a):H a=none:=by
 cases q:H a with
 |none=>rfl
 |some u=>exact Ku_ (x.lt q) e
def Kt.kept(x:bd!)(k:iw_):Kt P w H h':=λa o e=>
 (x a o e).stay (λb u _ q=>k b u q) gg! λ_ _ q=>q
def Kt.laid(x:bd!)(k:iw_)(hp:b9_<=a)(new:J2! c8! h' o):Kt P w c8! h':=λb u e=>by
 let hn:=x.fresh hp;by_cases J:b=a
 .show"!u";exact new
 .rw[bC J]at e;exact(x b u e).stay (λc v _ q=>k c v q) (λc q=>by rw[gg_];exact q) λc xs q=>by rw[gg_];exact q
def Rd(H:Hp)(a:sS!)(u:HO):Prop:=H a=ψ u\/∃o,H a=ψ gh!
def Rd.ok(r:Rd H a u)(x:bd!):J2! H h u:=by
 obtain r|⟨o,r⟩:=r
 .exact x a u r
 .let#[_,q]:=x a _ r;exact q
def EV:Em! HO->ν
 |some (.lst _)=>True
 |some (.dK _)=>True
 |some (.dT _)=>True
 |some (.set _ _)=>True
 |some (.ins _ _ _)=>True
 |some (.ext _)=>True
 |_=>False
def Kt.write(ok:bd!)(mu:EV (H x))(he:mj!)(k:rJ_)(rg:mj_)
  (new:Ec P w (upd H x o') h' x o'):Kt P w (upd H x o') h':=λb u q=>by
 let X7:∀c y,H c=ψ (.own y)->c≠x:=λc y r z=>by subst z;rw[r]at mu;exact mu
 let ntup:∀c xs,H c=ψ bc_->c≠x:=λc xs r z=>by subst z;rw[r]at mu;exact mu
 by_cases J:b=x
 .subst J;rw[cC]at q;rcases q;exact new
 .rw[bC J]at q;by_cases f9:b=e
  .let q':H b=ψ ix_:=by
    obtain z|z:=he
    .exact Ei_ (f9.trans z) J
    .rw[f9];exact z
   rw[q]at q';rcases q';let#[v,hv]:=rg;exact#[v,by rw[f9];exact hv]
  .exact(ok b u q).stay (λc v hc r=>k c v ?_ r) (λc r=>by rw[bC (X7 c b r)];exact r) λc xs r=>by rw[bC (ntup c xs r)];exact r
   obtain rfl|hc:=hc
   .exact f9
   .rintro rfl;obtain z|z:=he
    .exact X7 c b hc z
    .rw[hc]at z;cases z;exact J χ
structure Un(fs ex:bd_)(H H':Hp)(h h':Heap):Prop where
 keep:∀b o,h.get? b=ψ o->H b=υ->b∉fs->b∉ex->Es! b=ψ o
 slot:∀b o,h.get? b=ψ o->H b=υ->b∈fs->b∉ex->∃sl,Es! b=ψ {o with slots:=sl}
 free:∀b o,h.get? b=ψ o->H b=υ->b∉ex->H' b=υ
 there:∀b o,h.get? b=ψ o->b∉ex->∃o',Es! b=ψ o'
 tups:∀b xs,H b=ψ bc_->H' b=ψ bc_
 frzs:∀b o u,H b=ψ gh!->H' b=ψ gh!
 tbls:∀b ps,H b=ψ (.tbl ps)->∃rh,H' b=ψ rN_
section
variable{fs fs' ex X8:List Addr}
def Un.any(u:rN!)(q:h.get? b=ψ ob)(n:H b=υ)(hx:b∉ex):∃sl,Y.get? b=ψ {ob with slots:=sl}:=by
 by_cases J:b∈fs
 .exact u.slot b ob q n J hx
 .exact#[ob.slots,u.keep b ob q n J hx]
def Un.kept(k:iw_):HD! H h':=
 #[λb ob q _ _ _=>k b ob q,λb ob q _ _ _=>#[ob.slots,k b ob q],λ_ _ _ n _=>n,λb ob q _=>#[ob,k b ob q],λ_ _ q=>q,λ_ _ _ q=>q,λ_ ps q=>#[#[],by rw[q];simp]]
def Un.refl:HD! H h:=Un.kept λ_ _ q=>q
def Un.laid(k:iw_)(hp:b9_<=a)(hn:iy!):HD! c8! h' where
 keep:=λb u q _ _ _=>k b u q
 slot:=λb u q _ _ _=>#[u.slots,k b u q]
 free:=λb u q n _=>by rw[bC (MN (LQ (LR q) hp))];exact n
 there:=λb u q _=>#[u,k b u q]
 tups:=λb xs q=>by rw[gg_];exact q
 frzs:=λb u xs q=>by rw[gg_];exact q
 tbls:=λb ps q=>F2_ gg_ q
def Un.write(mu:EV (H x))(he:mj!)(k:rJ_)(rg:mj_):HD! mm! h':=by
 let hx:∀b,H b=υ->b≠x:=λb n z=>by subst z;rw[n]at mu;exact mu
 let J:∀b,H b=υ->b≠e:=λb n z=>by
  subst z;obtain r|r:=he
  .exact hx b n r
  .rw[n]at r;rcases r
 let hm:∀b u,H b=ψ u->¬EV (ψ u)->b≠x:=λb u q nm z=>by subst z;rw[q]at mu;exact nm mu
 exact⟨λb u q n _ _=>k b u (J b n) q,λb u q n _ _=>#[u.slots,k b u (J b n) q],λb u q n _=>by rw[bC (hx b n)];exact n,λb u q _=>?_,
  λb xs q=>by rw[mn!];exact q,λb u xs q=>by rw[mn!];exact q,λb ps q=>F2_ mn! q⟩
 by_cases f9:b=e
 .subst f9;exact rg
 .exact#[u,k b u f9 q]
def Un.mono(u:rN!)(hs:∀b∈fs,b∈fs')(hx:∀b∈ex,b∈X8):Un fs' X8 H H1 h Y:=
 #[λb ob q n J he=>u.keep b ob q n (λz=>J (hs b z)) λz=>Jv_ b,λ_ _ q n _ he=>u.any q n λz=>Jv_ _,λb ob q n he=>u.free b ob q n λz=>Jv_ b,λb ob q he=>u.there b ob q λz=>Jv_ b,u.tups,u.frzs,u.tbls]
end
def FG(h:Heap)(H:Hp):μ Addr:=(rS_).filter λa=>(H a).isSome
def Rl(h:Heap)(H:Hp):Heap:=W.hideAll h (FG h H)
def b5p(h:Heap)(H:Hp):(iz!).objs.size=b9_:=W.hideAll_size _ _
def c1o(e:rU!)(n:H b=υ):Hb_ iz!=ψ o:=
 W.hideAll_get _ e λhm=>by
  let q:(H b).isSome=true:=(MX.mp hm).2;rw[n]at q;simp at q
def c6h(e:Hb_ iz!=ψ o):h.get? b=ψ o/\H b=none:=by
 let e':h.get? b=ψ o:=W.of_hideAll (FG h H) e;exact#[e',?_];cases q:H b with
 |none=>rfl
 |some x=>
  let hm:b∈FG h H:=MX.mpr #[RY.mpr (LR e'),by simp[q]];let z:Hb_ iz!=none:=W.hideAll_none (FG h H) hm;rw[z]at e;rcases e
def Zq(g h:Heap)(L:sS!):μ eI!:=(rS_).filterMap λa=>if a=L\/(g.get? a).isSome=τ then υ else(h.get? a).map λo=>(a,o)
nonrec def rest(g h:Heap)(L d:sS!):μ eI!:=(Zq g h L).filter λp=>decide (p.1≠d)
structure Mod(K:zR!)(mg:U!)(base:Heap):Prop where
 kin:K.In base
 glob:EG! base.Ns
 blt:∃mb,base.Ns builtinsNs mb/\∀x:Str,x≠"__name__"->mb x=Es_ x
 nolimit:base.NoLimit
structure Cx where
 prog:Program
 w:World
 K:W.Frag
 mg:Str->Em! Value
 base:Heap
 A:Around
 N:μ Str
 s₀:Shared
 H₀:Hp
 env:Env
 outer:μ Env
 stack:μ Env
 ex:μ Addr
 fn:Str->Bool
 calm:Bool
 pn:μ eI!
 xe:Value->Shared->ν
nonrec def frs(l:ax_):μ Addr:=l.filterMap (·.frame)
abbrev Cx.fs(X:Cx):μ Addr:=frs X.outer
def Wh(sc:Scope)(x:Str):Prop:=ES_ x=ET! ψ\/ES_ x=ψ .cell\/ES_ x=ψ .free
def Wo(sc:Scope)(x:Str):Prop:=ES_ x=ET! ψ\/ES_ x=ψ .cell
def EW(env:Env)(h:Heap)(m:U!)(x:Str)(u:yg!):Prop:=
 (env.kindOf x=ET! ψ/\m x=ψ u)\/((env.kindOf x=ψ .cell\/env.kindOf x=ψ .free)/\∃c,env.cells.lookup x=ψ c/\h.IsCell c (ψ u))
structure Cx.Ok(X:Cx):Prop where
 mod:Mod X.K X.mg X.base
 kind:mn_=.function
 glob:X.env.globals=mainGlobals
 blt:X.env.builtins=builtinsNs
 above:dO_<=X.env.locals
 inj:∀x y c,Ax! x=ψ c->Ax! y=ψ c->x=y
 has:∀x,rX!->∃c,Ax! x=ψ c
 cab:∀x c,X.fn x=τ->Ax! x=ψ c->dO_<=c
 hd:X.calm=τ->eI_=υ
 frames:X.A.frames=I4_ ψ
 stk:X.stack=X.outer\/(X.stack=X.env::X.outer/\X.env.frame=ψ X.env.locals)
 exf:∀b∈X.ex,b≠X.env.locals/\∀x c,Ax! x=ψ c->c≠b
 bs:∀b o,F9! b=ψ o->EM_ b=ψ o/\X.H₀ b=υ
 bsz:X.base.objs.size<=dO_
 noex:∀b o,F9! b=ψ o->b∉X.ex
 exfs:∀b∈X.ex,b∉X.fs
 funs:HW_ X.outer
 frf:∀b∈X.fs,X.H₀ b=υ
structure Inv(X:Cx)(hb:w!)(Z:List (Option V))(H:Hp)(s:zP!):Prop where
 ok:X.Ok
 os:s.os=X.s₀.os
 bare:I5! s.gens
 base:Un X.fs X.ex X.H₀ H X.s₀.heap s.heap
 loc:∃m,FB! s.heap.Ns m/\∀(i:δ) (x:Str) (v:V),X.N[i]?=ψ x->Z[i]?=ψ be!->H8! Wh x->∃u,Bh v u/\EW X.env s.heap m x u
 cell:∀x c,Ax! x=ψ c->∃v,s.heap.IsCell c v
 free:FB! H=υ
 freeC:∀x c,Ax! x=ψ c->H c=υ
 pin:∀p∈X.pn++hb,s.heap.get? p.1=ψ p.2/\H p.1=υ/\p.1≠X.env.locals/\p.1∉X.fs/\∀v,p.2.data≠.cell v
 hok:EW_ Kt H s.heap
 len:eJ!=X.N.length
section
variable{X:Cx}
def Cx.Ok.nofr(ok:X.Ok)(e:F9! b=ψ o):b∉X.fs:=λJ=>by
 let:=(ok.funs.mem J).1;rw[e]at this;rcases this
def Inv.bs(I:d_):∀b o,F9! b=ψ o->rX_ b=ψ o/\H b=none:=λb o e=>
 #[I.base.keep b o (iA!).1 (iA!).2 (I.ok.nofr e) rZ!,I.base.free b o (iA!).1 (iA!).2 rZ!]
def Inv.bk(I:d_):∀b o,F9! b=ψ o->rX_ b=ψ o:=λb o e=>(I.bs b o e).1
def Inv.mod(I:d_):Mod X.K X.mg X.base:=I.ok.mod
def Inv.kIn(I:d_):Fb! X.K.In:=I.ok.mod.kin.keeps I.bk
def Inv.lt(I:d_):X.env.locals<k_:=by let#[_,hn,_]:=I.loc;exact hn.lt
def Inv.sz(I:d_):dO_<=k_:=LX I.ok.above (QX I.lt)
def Inv.nofs(I:d_)(h:k_<=a):a∉X.fs:=λJ=>by
 let#[_,o,ho,_]:=I.ok.funs.mem J;exact Ku_ iA_ (LX I.sz h)
def Inv.cne(I:d_):∀x c,Ax! x=ψ c->c≠X.env.locals:=λx c e z=>by
 let#[v,o,ho,hd]:=GK_ x e;let#[m,#[o',es,ep,gj,me,_],_]:=I.loc;rw[z,gj]at ho;rcases ho;rw[me]at hd;cases hd
def Inv.funs(I:d_):FE_ X.base X.outer:=by
 let all:∀(l:ax_),(∀b∈frs l,b∈X.fs)->HW_ l->FE_ X.base l:=by
  intro l
  induction l with
  |nil=>intro _ _;trivial
  |cons env r ih=>
   intro hs hl;let#[hk,#[L,o,hf,hn,ho,hd],hr]:=hl;let hL:L∈X.fs:=hs L (by delta frs;rw[SG,hf];exact KM);let#[sl,e]:=I.base.slot L o ho (I.ok.frf L hL) hL λz=>I.ok.exfs L z hL
   exact#[hk,#[L,_,hf,hn,e,hd],ih (λb J=>hs b (by delta frs;rw[SG,hf];exact KI _ J)) hr]
 exact all X.outer (λ_ J=>J) I.ok.funs
def Inv.stack(I:d_):FE_ X.base X.stack:=by
 obtain e|⟨e,hf⟩:=I.ok.stk
 .rw[e];exact I.funs
 .rw[e];let#[m,hn,_]:=I.loc;exact .cons (by rw[I.ok.kind];decide) hf hn ?_ I.funs;exact J2_ (LX I.ok.bsz I.ok.above)
def Inv.stkSub(I:d_):∀b∈frs X.stack,b∈X.env.locals::X.fs:=λb J=>by
 obtain e|⟨e,hf⟩:=I.ok.stk
 .rw[e]at J;exact KI _ J
 .rw[e]at J;delta frs at J;rw[SG,hf]at J;exact J
def Inv.stkFree(I:d_):∀b∈frs X.stack,H b=none:=λb J=>by
 obtain e|J:=KR.mp (I.stkSub b J)
 .rw[e];exact I.free
 .let#[_,o,ho,_]:=I.ok.funs.mem J;exact I.base.free b o ho (I.ok.frf b J) λz=>I.ok.exfs b z J
def Inv.step{g':Array GenState}{t':δ}{d':Drawn}{ch:bd_}(I:d_)
  (kg:∀b∈ch,iB!/\b≠X.env.locals/\iB_/\∀p∈X.pn++hb,p.1≠b)
  (keep:∀b o,b≠X.env.locals->b∉X.fs->b∉ch->rX_ b=ψ o->H b=υ->Es! b=ψ o)
  (slot:∀b o,b≠X.env.locals->b∈X.fs->b∉ch->rX_ b=ψ o->H b=υ->∃sl,Es! b=ψ {o with slots:=sl})(free:∀b o,b∉ch->rX_ b=ψ o->H b=υ->H' b=υ)
  (there:∀b o,b∉ch->rX_ b=ψ o->∃o',Es! b=ψ o')
  (tups:rG_)(frzs:∀b o u,H b=ψ gh!->H' b=ψ gh!)(tbls:∀b ps,H b=ψ (.tbl ps)->∃rh,H' b=ψ rN_)
  (ns:∀m,FB! s.heap.Ns m->FB! h'.Ns m)(hok:iC_)(hg:mq_):
  Inv X hb Z H' {s with heap:=h',gens:=g',drawn:=d',toks:=t'}:=by
 let X9:∀b o,EM_ b=ψ o->b≠X.env.locals:=λb o e=>MN mq!;let wf:∀b o,EM_ b=ψ o->b∉X.ex->b∉ch:=λb o e hx J=>by
  obtain z|z:=(kg b J).1
  .exact hx z
  .exact Ku_ c8_ z
 let YA:∀x c,Ax! x=ψ c->∀v,s.heap.IsCell c v->h'.IsCell c v:=by
  rintro x c e v ⟨o,ho,hd⟩;let ut:c∉ch:=λz=>(kg c z).2.2.1 x c e χ;by_cases hc:c∈X.fs
  .let#[sl,q]:=slot c o (I.cne x c e) hc ut ho mr!;exact#[_,q,hd]
  .exact#[o,keep c o (I.cne x c e) hc ut ho mr!,hd]
 exact#[I.ok,I.os,hg,#[gi_,gi_,λb o e n hx=>?_,mr_,λb xs e=>tups b xs (I.base.tups b xs e),λb o xs e=>frzs b o xs (I.base.frzs b o xs e),λb ps e=>?_],?_,ms_,?_,ms_,cv_,hok,I.len]
 .exact keep b o (X9 b o e) J iD_ iE! mt!
 .show"!B";let#[sl',e2]:=slot b _ (X9 b o e) J iD_ e1 mt!;exact#[sl',e2]
 .show"!<";exact free b o' iD_ e1 mt!
 .show"!<";exact there b o' iD_ e1
 .let#[m1,e1]:=I.base.tbls b ps e;let#[m2,e2]:=tbls b _ e1;exact#[m1++m2,by rw[e2,Array.append_assoc]]
 .let#[m,hn,hl]:=I.loc;exact#[m,ns m hn,r3_];let#[u,r,l]:=hl i x v e1 e2 e3;exact#[u,r,?_];obtain l|⟨k,c,e,z⟩:=l
  .exact .inl l
  .exact .inr #[k,c,e,YA x c e _ z]
 .let#[v,z]:=GK_ x e;exact#[v,YA x c e v z]
 .let#[m,#[o,_,_,ho,_],_]:=I.loc;exact IN! free kg I.free
 .let#[v,o,ho,hd]:=GK_ x e;exact free c o (λz=>(kg c z).2.2.1 x c e χ) ho mr!
 .show"!T";let ut:p.1∉ch:=λz=>(kg p.1 z).2.2.2 p hp χ;exact#[keep p.1 p.2 ne nf ut e n,free p.1 p.2 ut e n,ne,nf,d]
def Inv.un{t':δ}(I:d_)(u:Un X.fs [] H H' s.heap h')(hok:iC_):mX_ H' {s with heap:=h',toks:=t'}:=by
 let#[m,#[o,es,ep,ho,r],_]:=id I.loc;let#[sl,hL]:=u.any ho I.free c_;exact I.step (g':=s.gens) (d':=s.drawn) (ch:=[]) r5! (HO_ u.keep) (HO_ u.slot) (λb o _ e n=>u.free b o e n c_) (λb o _ e=>u.there b o e c_) u.tups u.frzs u.tbls (λm' hm=>by
  let#[o',bc,bx,gj,r']:=hm;rw[ho]at gj;rcases gj;exact r5_) hok I.bare
def Inv.call(I:d_)(u:GT_ ch H' h')(hok:iC_)(hg:mq_)
  (kg:∀b∈ch,iB!/\b≠X.env.locals/\iB_/\∀p∈X.pn++hb,p.1≠b):
  Inv X hb Z H' {s with heap:=h',gens:=g',drawn:=d',toks:=t'}:=by
 let#[m,#[o,es,ep,ho,r],_]:=id I.loc;let#[sl,hL]:=u.any ho I.free λz=>(kg _ z).2.1 χ
 exact I.step (ch:=ch) kg (λb o hL J hc e n=>u.keep b o e n (λz=>(KR.mp (I.stkSub b z)).elim hL J) hc) (λb o _ _ hc e n=>u.any e n hc) (λb o hc e n=>u.free b o e n hc) (λb o hc e=>u.there b o e hc) u.tups u.frzs u.tbls (λm' hm=>by
  let#[o',bc,bx,gj,r']:=hm;rw[ho]at gj;rcases gj;exact r5_) hok hg
def Inv.turned(I:d_)(k:∀b o,b≠it->rX_ b=ψ o->Es! b=ψ o)(hn:H it=υ)(hL:it≠X.env.locals)
  (Y:it∈X.ex\/dO_<=it)(h2:∀x c,Ax! x=ψ c->c≠it)(h3:∀p∈X.pn++hb,p.1≠it):mX_ H {s with heap:=h',toks:=t'}:=by
 let YB:∀b u,H b=ψ u->b≠it:=λb u e z=>by rw[z,hn]at e;rcases e
 exact I.step (g':=s.gens) (d':=s.drawn) (ch:=[it]) iF! (λb o _ _ hc e _=>k b o iG! e) (λb o _ _ hc e _=>#[o.slots,k b o iG! e]) r6!
  (λb o hc e=>#[o,k b o iG! e]) r6_ r7! (λb ps e=>mu!) r8! r8_ I.bare
 .let e:b=it:=by simpa using J
  subst e;exact#[Y,hL,h2,h3]
 .show"#C";exact#[o,es,ep,k _ o (MD hL) ho,r]
 .exact(mu_).stay (λc v hc q=>k c v ?_ q) gg! λ_ _ q=>q;obtain z|z:=hc
  .rw[z];exact YB b u e
  .exact YB c _ z
def Inv.tok(I:d_)(t:δ):mX_ H {s with toks:=t}:=I.un (h':=s.heap) (t':=t) Un.refl I.hok
def Inv.kept(I:d_)(k:r9_):mX_ H {s with heap:=h',toks:=t'}:=I.un (Un.kept k) (I.hok.kept k)
def Inv.laid(I:d_)(k:r9_)(hp:k_<=a)(new:EW_ Ec c8! h' a o):
  Inv X hb Z c8! {s with heap:=h',toks:=t'}:=I.un (Un.laid k hp (F9_ hp)) (I.hok.laid k hp new)
def Inv.write(I:d_)(mu:EV (H x))(he:mj!)(k:∀b u,b≠e->rX_ b=ψ u->Es! b=ψ u)(rg:mj_)
  (new:EW_ Ec mm! h' x o):mX_ mm! {s with heap:=h',toks:=t'}:=I.un (Un.write mu he k rg) (I.hok.write mu he k rg new)
def Inv.pins_of(I:d_)(h:∀p∈wg,s.heap.get? p.1=ψ p.2/\H p.1=υ/\p.1≠X.env.locals/\p.1∉X.fs/\∀v,p.2.data≠.cell v):FT_ X wg:=
 #[I.ok,I.os,I.bare,I.base,I.loc,I.cell,I.free,I.freeC,λp hp=>HD_ dP! (h p),I.hok,I.len]
def a4u{N:w_}(hN:N.Nodup){i j:δ}(a:N[i]?=ψ x)(b:N[j]?=ψ x):i=j:=by let#[Y,e1]:=LH.mp a;let#[h2,e2]:=LH.mp b;exact(List.getElem_inj hN).mp sb!
def yD(I:d_)(hN:aY_)(hi:ai_)(hx:be_)(r:bf!)
  (h:∀s',Li! eK_ H s'->(∃a,Heap.SameBut a s.heap s'.heap/\(a=X.env.locals\/X.env.cells.lookup x=ψ a))->Q () s')(hf:X.fn x=τ\/xy_ x=ET! some:=by first|exact .inl χ|exact .inr χ|assumption):o6_ M sc!:=by
 let#[m,hn,hl]:=id I.loc;let hcls:(mn_==.class||(mn_==.module&&X.env.locals != X.env.globals))=false:=by rw[I.ok.kind];rfl
 let YC:i<eJ!:=by rw[I.len];exact(LH.mp hi).1
 let cne:=I.cne;let YD:∀{a:sS!} {h':Heap},(∃o,s.heap.get? a=ψ o/\H a=υ)->Et_ a->EW_ Kt H h':=λ{a h'} ha hs b ob e=>by
  let#[_,_,jh]:=ha;exact(sd!).stay sd_ gg! λ_ _ q=>q;rintro rfl;obtain rfl|hc:=hc
  .rw[jh]at e;rcases e
  .rw[jh]at hc;rcases hc
 obtain hk|hk:=hx
 .exact wpAny_storeName_local hk hn (λh' rj hs=>?_) hcls;let#[oL,_,_,og,_]:=id hn;exact h _ #[I.ok,I.os,I.bare,se_,#[_,rj,sf!],λy c e=>?_,I.free,I.freeC,cv_,YD #[oL,og,I.free] hs,sf_] #[_,hs,cw!]
  .exact Fq! mw! iE!
  .show"!B";exact FQ_ sl mw!
  .show"!<";exact FQ_ o' mw!
  .by_cases hj:j=i
   .show"#*";exact#[u,r,.inl #[hk,H_]]
   .rw[mx!]at e2;let#[u',r',q]:=hl j y v' e1 e2 e3;exact mw_;obtain⟨k,e⟩|⟨k,c,e,z⟩:=q
    .exact .inl #[k,?_];let:y≠x:=λe=>hj (a4u hN e1 (e▸hi));simp[this,e]
    .exact .inr #[k,c,e,sh_]
  .let#[w',z]:=GK_ y e;exact#[w',sh_]
  .show"!T";exact si!
 .let yg:X.fn x=true:=by
   obtain z|z:=hf
   .exact z
   .rw[z]at hk;cases hk
  let#[c,hc]:=I.ok.has x mx_;let#[w',z]:=GK_ x hc;exact wpAny_storeName_cell I.ok.kind hk hc z (λh' cy hs=>?_);let#[oc,YE,hocd]:=id z;exact h {s with heap:=h'} #[I.ok,I.os,I.bare,se_,#[m,hn.sameBut hs (MD (cne x c hc)),sf!],λy c' e=>?_,I.free,I.freeC,cv_,YD #[oc,YE,I.freeC x c hc] hs,sf_] #[c,hs,.inr hc]
  .exact Fq! my! iE!
  .show"!B";exact FQ_ sl my!
  .show"!<";exact FQ_ o' my!
  .by_cases hj:j=i
   .show"#*";exact#[u,r,.inr #[.inl hk,c,hc,cy]]
   .rw[mx!]at e2;let#[u',r',q]:=hl j y v' e1 e2 e3;exact mw_;obtain q|⟨k,c',e,z'⟩:=q
    .exact .inl q
    .exact .inr #[k,c',e,z'.sameBut hs ?_];rintro rfl;exact hj (a4u hN e1 (I.ok.inj _ _ _ e hc▸hi))
  .by_cases iy:c'=c
   .subst iy;exact#[_,cy]
   .let#[w2,z2]:=I.cell y c' e;exact#[w2,z2.sameBut hs iy]
  .show"!T";exact#[(hs.2 p.1 ?_).trans e,n,ne,nf,d];intro q;rw[q,YE]at e;let q':oc=p.2:=MQ e;exact d w' (Ev! q' hocd)
def oS(I:d_)(hN:aY_)(hi:ai_)(hx:be_)(r:bf!)
  (h:∀s',Li! eK_ H s'->Q () s')(hf:X.fn x=τ\/xy_ x=ET! some:=by first|exact .inl χ|exact .inr χ|assumption):o6_ M sc!:=
 yD I hN hi hx r (λs' I' _=>h s' I') hf
def Inv.call'(I:d_)(ho:s'.os=s.os)(u:GT_ ch H' s'.heap)(hok:EW_ Kt H' s'.heap)(hg:I5! s'.gens)
  (kg:∀b∈ch,iB!/\b≠X.env.locals/\iB_/\∀p∈X.pn++hb,p.1≠b):Kw! H':=by
 let#[h',g',d',t',o']:=s';let e:o'=s.os:=ho;subst e;exact I.call (g':=g') (t':=t') (d':=d') u hok hg kg
end
abbrev XK:=Value->Em! Addr->Hp->ν
abbrev St:=μ (ι V)
abbrev VK:=V->Hp->ν
abbrev TE:=St->Hp->VK->ν
abbrev TT:=St->Hp->sl!->ν
abbrev TA:=St->Hp->(μ V->Hp->ν)->ν
structure Tl where
 nx:St->Hp->ν
 rt:VK
 bk:St->Hp->Prop:=λ_ _=>False
 ct:St->Hp->Prop:=λ_ _=>False
abbrev TS:=Tl->St->Hp->ν
inductive EP(X:Cx)(hb:w!)(Z:St)(Q:VK)(u:yg!)(s':zP!):Prop
 |mk (v:V) (H':Hp) (I:mA!) (r:bf!) (q:Q v H'):E7! u s'
inductive TP(X:Cx)(hb:w!)(Z:St)(Q:dP_)(b:Bool)(s':zP!):Prop
 |mk (H':Hp) (I:mA!) (q:Q b H'):TP X hb Z Q b s'
inductive AP(X:Cx)(hb:w!)(Z:St)(Q:c9!)(us:n_)(s':zP!):Prop
 |mk (vs:r_) (H':Hp) (I:mA!) (r:eN_) (q:Q vs H'):AP X hb Z Q us s'
def SP(X:Cx)(hb:w!)(D:Tl)(f:Flow)(s':zP!):Prop:=
 match f with
 |.next=>∃ae H',Fz_ s'/\D.nx ae H'
 |.brk=>∃ae H',Fz_ s'/\D.bk ae H'
 |.cont=>∃ae H',Fz_ s'/\D.ct ae H'
 |.ret u=>∃v ae H',Fz_ s'/\Bh v u/\D.rt v H'
def PE(X:Cx)(e:Expr)(t:TE):Prop:=
 ∀(hb:w!) (s:zP!) (Z:St) (H:Hp) (Q:VK),mX_ H s->t Z H Q->Kj! eO! aR_
def PT(X:Cx)(e:Expr)(t:TT):Prop:=
 ∀(hb:w!) (s:zP!) (Z:St) (H:Hp) (Q:dP_),mX_ H s->t Z H Q->Kj! (LU! eO!) iI_
def PW(X:Cx)(e:Expr)(t:TT):Prop:=
 ∀(gb:Sem Value) (hb:w!) (s:zP!) (Z:St) (H:Hp) (Q:dP_),mX_ H s->t Z H Q->Kj! (LU! gb) iI_
def PW.pt(h:PW X e t):PT X e t:=h _
def PA(X:Cx)(es:c9_)(t:TA):Prop:=
 ∀(pos:Pos) (hb:w!) (s:zP!) (Z:St) (H:Hp) (Q:c9!),mX_ H s->t Z H Q->Kj! (spliced sm_) (AP X hb Z Q)
def PS(X:Cx)(st:Stmt)(t:TS):Prop:=
 ∀(hb:w!) (s:zP!) (Z:St) (H:Hp) (D:Tl),mX_ H s->t D Z H->Kj! (exec st X.env) mC!
def Nq(X:Cx)(st:gk!)(t:TS):Prop:=
 ∀(hb:w!) (s:zP!) (Z:St) (H:Hp) (D:Tl),mX_ H s->t D Z H->Kj! (execs st X.env) mC!
def dM(h:o6_ M t)(hQ:∀a s,Q a s->Q' a s):wpAny M A t Q' E s:=OE h hQ λ_ _ x=>x
section
variable{X:Cx}
def bin(ha:aZ!)(J:cw_){R:so!}(I:d_)(h:sn!)
  {f:Value->Value->Sem α}
  (hf:so_):
  wpAny e_ X.A mD! sp_ X.xe s:=by
 show"!="
def FW(i:δ):TE:=λZ H Q=>∃v,Z[i]?=ψ be!/\Q v H
nonrec def tC(v:V):TE:=λ_ H Q=>Q v H
def kO(hN:ai_)(hv:cx!)(hd:D!:=by decide)(cf:cx_:=by decide):PE X da_ (FW i):=by
 intro hb s Z H Q I h;let#[v,e,h]:=h;let#[m,hn,hl]:=I.loc;let#[u,r,l]:=hl i x v hN e hv;let fin:E7! u s:=mE_;obtain⟨hk,hm⟩|⟨hk,c,hc,db⟩:=l
 .exact Li_ (Gz_ fin)
 .obtain hk|hk:=hk
  .exact Li_ (GL_ fin)
  .exact Li_ (wpAny_loadName_free I.ok.kind hk hc db fin cf)
def d1i {i j pos}:IN_ sr! ay!:=λ_ _ _ H _ I h=>wpAny_Constant_int #[bN_,H,aZ_,O_,h]
def d5l {b j pos}:IN_ (Kz_ mF!) aJ!:=λ_ _ _ H _ I h=>Constant_bool (K0! b h)
def d1h {j pos}:PE X ss! (tC .non):=λ_ _ _ H _ I h=>Constant_none #[.non,H,I,χ,h]
def a0s {x j pos}:IN_ (Kz_ bO!) bO!:=λ_ _ _ H _ I h=>Calls.Constant_str #[gl!,H,aZ_,O_,h]
def Gl(X:Cx)(x:Str):Prop:=HE! x=ψ .globalImplicit
def iR(I:d_)(hg:U_)(hm:X.mg x=ψ u)(h:Q u s)
  (hd:D!:=by decide):KA! st!:=
 Calls.Name_function_global I.ok.kind hg (Calls.loadGlobal_global st_ hm h) hd
def jI(I:d_)(hg:U_)(hm:eP!)(hv:su!)(h:Q u s)
  (hn:eP_:=by decide)(hd:D!:=by decide):KA! st!:=by
 let#[mb,Y,h2]:=I.mod.blt;exact Calls.Name_function_global I.ok.kind hg (Calls.loadGlobal_builtin st_ hm (by rw[I.ok.blt];exact Y.keeps I.bk) ((h2 x hn).trans hv) h) hd
def b1l(hg:U_)(hm:X.mg x=ψ u)(r:bf!)(hd:D!:=by decide):IN_ da_ v:=
 λ_ _ _ H _ I h=>iR I hg hm mE_ hd
def c5s(hg:U_)(hm:eP!)(hv:su!)(r:bf!)(hn:eP_:=by decide)(hd:D!:=by decide):IN_ da_ v:=
 λ_ _ _ H _ I h=>jI I hg hm hv mE_ hn hd
def PC(X:Cx)(op:CmpOp)(a b:Expr)(t:TE):Prop:=
 ∀(hb:w!) (s:zP!) (Z:St) (H:Hp) (Q:VK),mX_ H s->t Z H Q->
  wpAny e_ X.A mD! (λv al=>zH_ sp! (Iz! (compareOp op v u) aR_) X.xe al) X.xe s
def b9m(b:Expr)(h:op≠.In)(h2:op≠.NotIn):behindInMarks op b=false:=by
 let e1:sv_=false:=by cases op<;>first|rfl|exact Ew! h
 let e2:sw!=false:=by cases op<;>first|rfl|exact Ew! h2
 cases b<;>simp[behindInMarks,e1,e2]
nonrec def tB(t:TE):TT:=λZ H Q=>t Z H λx H1=>∃c,x=.bl c/\Q c H1
def d7p(h:PC X op a b t)(Y:dQ!:=by first|exact b9m _ a_ a_|rfl):PT X dQ_ (tB t):=by intro hb s Z H Q I hw;exact UZ (dM mG! λv s1 Y=>dM Y λu s2 h2=>dM h2 ?_) Y;rintro c s3 ⟨x,H1,I1,r1,q1⟩;let#[d,rfl,q]:=q1;subst r1;exact ND #[H1,I1,q]
def a8b{e:Expr}{t:TE}(h:iJ_)(he:iK!:=by intro _;rfl):PT X e (tB t):=by intro hb s Z H Q I hw;exact isTrue_plain (dM mG! ?_) (he _);rintro v s1 ⟨x,H1,I1,r1,q1⟩;let#[d,rfl,q]:=q1;subst r1;exact ND #[H1,I1,q]
variable{rest:List Expr}
def GI(t u:TT):TT:=λZ H Q=>t Z H λc H1=>if c=τ then u Z H1 Q else Q θ H1
def JH(t u:TT):TT:=λZ H Q=>t Z H λc H1=>if c=τ then Q τ H1 else u Z H1 Q
def GB(t:TT):TT:=λZ H Q=>t Z H λc H1=>Q (!c) H1
def b1b(ha:gm!):PW X mI! tA:=by
 intro wh hb s Z H Q I h;exact isTrue_and sx!;cases c with
 |true=>exact isTrue_and_nil e
 |false=>exact e
def b7v(ha:gm!):PW X mI_ tA:=by
 intro wh hb s Z H Q I h;exact isTrue_or sx!;cases c with
 |false=>exact isTrue_or_nil e
 |true=>exact e
def b7w(ha:gm!)(J:PW X eQ! yh):PW X eQ_ (GI tA yh):=by
 intro wh hb s Z H Q I h;exact isTrue_and eR!;rintro c s1 ⟨H1,I1,q1⟩;cases c with
 |true=>exact Jw! J
 |false=>exact sz_
def c8z(ha:gm!)(J:PW X eR_ yh):PW X eS! (JH tA yh):=by
 intro wh hb s Z H Q I h;exact isTrue_or eR!;rintro c s1 ⟨H1,I1,q1⟩;cases c with
 |true=>exact sz_
 |false=>exact Jw! J
def b8c(ha:gm!):PT X eS_ (GB tA):=by intro hb s Z H Q I h;exact isTrue_not (dM (K0_ ha (λc H1=>Q (!c) H1)) λ_ _ ⟨H2,I2,q⟩=>#[H2,I2,q])
def CZ(ta tb:TE):TE:=λZ H Q=>ta Z H λx H1=>∃c,x=.bl c/\if c=τ then tb Z H1 Q else Q I! H1
def GA(ta tb:TE):TE:=λZ H Q=>ta Z H λx H1=>∃c,x=.bl c/\if c=τ then Q x! H1 else tb Z H1 Q
def CT(ta:TE):TE:=λZ H Q=>ta Z H λx H1=>∃c,x=.bl c/\Q (.bl (!c)) H1
def b8v {op}{t:TE}(h:PE X a t):PE X mJ! t:=λhb s Z H Q I hw=>BoolOp_one sA!
def b9b(ha:aZ!)(J:PE X eQ! tb):PE X eQ_ (CZ ta tb):=by
 intro hb s Z H Q I h;exact BoolOp_and eR!;rintro v s1 ⟨x,H1,I1,r1,q1⟩;let#[c,rfl,q1]:=q1;subst r1;exact ND ?_;cases c with
 |true=>exact EO_ J Q
 |false=>exact#[.bl θ,H1,I1,χ,q1]
def c9c(ha:aZ!)(J:PE X eR_ tb):PE X eS! (GA ta tb):=by
 intro hb s Z H Q I h;exact BoolOp_or eR!;rintro v s1 ⟨x,H1,I1,r1,q1⟩;let#[c,rfl,q1]:=q1;subst r1;exact ND ?_;cases c with
 |false=>exact EO_ J Q
 |true=>exact#[eT!,H1,I1,χ,q1]
def b8w(ha:aZ!):PE X eS_ (CT ta):=by intro hb s Z H Q I h;exact UnaryOp_ eR!;rintro v s1 ⟨x,H1,I1,r1,q1⟩;let#[c,rfl,q1]:=q1;subst r1;exact not_of (ND #[.bl (!c),H1,I1,χ,q1])
def JI(t:TT)(ta tb:TE):TE:=λZ H Q=>t Z H λc H1=>if c=τ then ta Z H1 Q else tb Z H1 Q
def uV(hc:PT X c tA)(ha:aZ!)(J:cw_):PE X mJ_ (JI tA ta tb):=by
 intro hb s Z H Q I h;exact wpAny_IfExp sB_;rintro d s1 ⟨H1,I1,q1⟩;cases d with
 |true=>exact EO_ ha Q
 |false=>exact EO_ J Q
end
def Et(K:zR!)(H:Hp)(a:sS!)(xs:r_):Prop:=
 Rd H a V!\/
  ∃(o:Obj) (its:b9!) (n:δ),E8_ a=ψ o/\o.cls=.type "list"/\o.dict=υ/\o.data=.seq its n/\its.size<=sizeLine/\Av xs iL_
def Fs(K:zR!)(H:Hp)(a:sS!)(xs:r_):Prop:=
 Rd H a bc_\/
  ∃(o:Obj) (its:b9!) (n:δ),E8_ a=ψ o/\o.cls=.type "tuple"/\o.data=.seq its n/\its.size<=sizeLine/\Av xs iL_
def HD:Value->ι V
 |.none=>ψ .non
 |.bool b=>ψ aJ!
 |.int i _=>ψ ay!
 |.str x _=>ψ bO!
 |.bytes b _=>ψ (.byt b)
 |.float b _=>ψ (.flt b)
 |.ref a=>ψ N_
 |.type n=>ψ (.ty n)
 |_=>υ
def Bh.abs(r:Bh x u):HD u=ψ x:=by
 cases x with
 |non=>cases r;rfl
 |bl _=>cases r;rfl
 |int _=>let#[t,rfl]:=r;rfl
 |str _=>let#[t,rfl]:=r;rfl
 |byt _=>let#[t,rfl]:=r;rfl
 |flt _=>let#[t,rfl]:=r;rfl
 |ref _=>cases r;rfl
 |ty _=>cases r;rfl
def Bh.inj(r:Bh x u)(q:Bh y u):x=y:=MQ (r.abs.symm.trans q.abs)
def Av.inj(h:dM!):Av ys us->xs=ys:=by
 induction h generalizing ys with
 |nil=>intro h;cases h;rfl
 |cons r t ih=>intro h;cases h with|cons r' t'=>rw[r.inj r',ih t']
section
variable{X:Cx}
def Et.of{K:zR!}(h:H a=ψ V!):Hc! Et:=.inl iM!
def Fs.of{K:zR!}(h:H a=ψ bc_):Hc! Fs:=.inl iM!
def Inv.list(I:d_)(h:Hc_ a xs):∃its:List Value,IM_ xs/\Fb! PlainL a bc!/\h_<=sizeLine:=by
 obtain h|⟨o,its,n,hk,hc,hd,hs,hz,r⟩:=h
 .let#[z,its,n,r,e]:=h.ok I.hok;exact#[its,r,#[_,n,e,χ,χ,χ],z]
 .exact#[iL_,r,#[o,n,I.kIn a o hk,hc,hd,sD_],?_];show"!z"
def Inv.tuple(I:d_)(h:HX! a xs):∃its:List Value,IM_ xs/\KM! a bc!/\h_<=sizeLine:=by
 obtain h|⟨o,its,n,hk,hc,hs,hz,r⟩:=h
 .let#[z,its,r,p]:=h.ok I.hok;exact#[its,r,p,z]
 .exact#[iL_,r,#[o,I.kIn a o hk,hc,n,sD_],?_];show"!z"
def Inv.list_inj(I:d_)(h:Hc_ a xs)(h':Hc_ a ys):xs=ys:=by
 let#[its,r,#[o,n,e,_,_,d],_]:=I.list h;let#[its',r',#[o',n',e',_,_,d'],_]:=FU! h';rw[e]at e';rcases e';rw[d]at d';injection d' with d1 _
 let:its=its':=by simpa using KR_ d1
 subst this;exact r.inj r'
def Inv.tuple_inj(I:d_)(h:HX! a xs)(h':HX! a ys):xs=ys:=by
 let#[its,r,#[o,e,_,n,d],_]:=EH_ h;let#[its',r',#[o',e',_,n',d'],_]:=EH_ h';rw[e]at e';rcases e';rw[d]at d';injection d' with d1 _
 let:its=its':=by simpa using KR_ d1
 subst this;exact r.inj r'
end
abbrev Cx.wish(X:Cx)(E:V_):Cx:={X with xe:=E}
abbrev Cx.nox(X:Cx):Cx:=X.wish λ_ _=>False
def Cx.Ok.wish{X:Cx}(ok:X.Ok)(E:V_):(gn!).Ok:=
 iN!
def Cx.Ok.unwish{X:Cx}{E:V_}(ok:(gn!).Ok):X.Ok:=
 iN!
section
variable{X:Cx}
def Inv.wish(I:d_)(E:V_):FT_ gn! hb:=#[I.ok.wish E,I.os,I.bare,I.base,I.loc,I.cell,I.free,I.freeC,I.pin,I.hok,I.len]
def Inv.unwish(I:FT_ gn! hb):mX_ H s:=#[I.ok.unwish,I.os,I.bare,I.base,I.loc,I.cell,I.free,I.freeC,I.pin,I.hok,I.len]
def SP.unwish(h:SP gn! hb D f s'):SP X hb D f s':=by
 cases f with
 |next=>let#[ae,H',I,q]:=h;exact mK_
 |brk=>let#[ae,H',I,q]:=h;exact mK_
 |cont=>let#[ae,H',I,q]:=h;exact mK_
 |ret u=>let#[v,ae,H',I,r,q]:=h;exact#[v,ae,H',I.unwish,r,q]
def Nq.nox{st:gk!}(h:Nq X.nox st t):Nq X st t:=λhb s Z H D I hw=>
 OE (EJ! h D (I.wish _) hw) (λ_ _ q=>q.unwish) λ_ _ z=>EC_ z
end
section
variable{X:Cx}{st:Stmt}{rest:List Stmt}
def CU:TS:=λD Z H=>D.nx Z H
def FY(t u:TS):TS:=λD Z H=>t {D with nx:=u D} Z H
def b1e:Nq X [] CU:=λ_ _ Z H _ I h=>TU #[Z,H,I,h]
def uT(Y:iO_)(h2:Nq X rest u):Nq X iP! (FY t u):=by
 intro hb s Z H D I h;exact G8_ (Y hb s Z H {D with nx:=u D} I h);cases f with
 |next=>
  let#[ae,H',I',q]:=q;exact h2 hb s1 ae H' D I' q
 |ret v=>exact q
 |brk=>exact q
 |cont=>exact q
def gM(Y:iO_):Nq X [st] t:=by
 intro hb s Z H D I h;exact G8_ (K0_ Y D);cases f with
 |next=>exact TU q
 |ret v=>exact q
 |brk=>exact q
 |cont=>exact q
def Inv.quiet(I:d_):interactive X.env=false:=by simp[interactive,I.ok.kind]
def CV(te:TE):TS:=λD Z H=>te Z H λ_ H1=>D.nx Z H1
def tH(he:cy!)(hs:sJ!:=by rfl):PS X (H8_ e) (CV te):=by intro hb s Z H D I h;exact wpAny_Expr_any (G9! #[Z,H1,I1,q1]) I.quiet hs
def FZ(te:TE):TS:=λD Z H=>te Z H D.rt
def b8f(he:cy!):PS X mL! (FZ te):=by intro hb s Z H D I h;exact wpAny_Return_some (G9! #[x,Z,H1,I1,r1,q1])
def CQ:TS:=λD _ H=>D.rt .non H
def c5i:PS X sK! CQ:=λ_ _ Z H _ I h=>wpAny_Return_none #[.non,Z,H,I,χ,h]
def GE(c:TT)(t u:TS):TS:=λD Z H=>c Z H λb H1=>if b=τ then t D Z H1 else u D Z H1
def b8h(hc:PT X c tc)(ha:Nq X a t)(J:Nq X b u):PS X (.If c a b pos) (GE tc t u):=by
 intro hb s Z H D I h;exact wpAny_If sB_;rintro d s1 ⟨H1,I1,q1⟩;cases d with
 |true=>exact EO_ ha D
 |false=>exact EO_ J D
end
abbrev TG:=V->St->Hp->sK_->ν
abbrev ES:=μ V->St->Hp->sK_->ν
def PG(X:Cx)(wj:Expr)(t:TG):Prop:=
 ∀(hb:w!) (s:zP!) (Z:St) (H:Hp) (v:V) (u:yg!) (Q:iQ_),mX_ H s->Bh v u->t v Z H Q->
  wpAny e_ X.A (assign wj X.env u) sL! X.xe s
def FQ(X:Cx)(ts:c9_)(t:ES):Prop:=
 ∀(hb:w!) (s:zP!) (Z:St) (H:Hp) (vs:r_) (us:n_) (Q:iQ_),mX_ H s->Av vs us->t vs Z H Q->
  wpAny e_ X.A (assignInOrder (EP! ts) us) sL! X.xe s
abbrev ER:=V->V->V->Hp->mL_->ν
def Wj(X:Cx)(t:ER):Prop:=
 ∀(hb:w!) (s:zP!) (Z:St) (H:Hp) (o i v:V) (ov iv u:yg!) (Q:Hp->ν),mX_ H s->Bh o ov->Bh i iv->Bh v u->t o i v H Q->
  wpAny e_ X.A (setItem ov iv u) (λ_ s'=>∃H',Kw! H'/\Q H') X.xe s
abbrev HI:=V->V->Hp->VK->ν
def IS(X:Cx)(op:Operator)(t:HI):Prop:=
 ∀(hb:w!) (s:zP!) (Z:St) (H:Hp) (x y:V) (v u:yg!) (Q:VK),mX_ H s->Bh x v->Bh y u->Hu! t->
  wpAny e_ X.A (inplaceOp op v u) aR_ X.xe s
section
variable{X:Cx}
def Mr(i:δ):TG:=λv Z H Q=>Q eK_ H
def bB(hN:aY_)(hi:ai_)(hx:be_)(hf:X.fn x=τ\/xy_ x=ET! some:=by first|exact .inl χ|exact .inr χ|assumption):PG X da_ eT_:=by intro hb s Z H v u Q I r h;exact wpAny_assign_Name (oS I hN hi hx r (λs' I'=>#[_,H,I',h]) hf)
def BW:ES:=λvs Z H Q=>vs=[]/\Q Z H
def Tf(t:TG)(u:ES):ES:=λvs Z H Q=>∃v r,vs=v::r/\t v Z H λae H'=>u r ae H' Q
def b1i:FQ X [] BW:=by intro hb s Z H vs us Q I r h;let#[e,h]:=h;subst e;cases r;exact assignInOrder_nil #[Z,H,I,h]
def pC(Y:PG X e t)(h2:FQ X es u)
  (hs:EP! aJ_=assign e X.env::FJ! mM_:=by rfl):FQ X aJ_ (Tf t u):=by
 intro hb s Z H vs us Q I r h;let#[v,vr,e1,h]:=h;subst e1;cases r with
 |cons r rr=>
  rw[hs];exact assignInOrder_cons (dM (Y hb s Z H _ _ _ I r h) ?_);rintro _ s1 ⟨cg,H1,I1,q1⟩;exact h2 hb s1 cg H1 _ _ Q I1 rr q1
def BV(K:zR!)(n:δ)(t:ES):TG:=λv Z H Q=>∃a xs,v=.ref a/\Hc! Fs/\h_=n/\t xs Z H Q
def b8q(hc:aE!)(h:FQ X es t)
  (hn:(mM_).length=n:=by rfl)(hst:(mM_).findIdx? b_=none:=by rfl):PG X (.Tuple es k pos) (BV X.K n t):=by
 intro hb s Z H v u Q I r hw;let#[a,xs,e1,hq,hl,hw]:=hw;subst e1;subst r;let#[its,rv,ht,hz]:=EH_ hq;exact assign_Tuple_tuple aS_ ht (by simp[hn,<-hl,rv.length]) hst λh' hx=>?_;let I1:mX_ H {s with heap:=h'}:=I.kept (t':=s.toks) λb o e=>hx b o (MN c8_) e;exact h hb _ Z H xs _ Q I1 (Ep! rv) hw
def HA(to ti:TE)(t:ER):TG:=λv Z H Q=>to Z H λo H1=>ti Z H1 λi H2=>t o i v H2 λH3=>Q Z H3
def b8r(ho:PE X o to)(hi:PE X i ti)(hs:Wj X t)
  (ha:∀v,assign sN! X.env v=(do
   let ov <-holding [v] dR!
   let iv <-holding [v,ov] sO_
   standAt pos
   holding eU! mO!
   release eU! []):=by intro _;rfl):PG X sN! (HA to ti t):=by
 intro hb s Z H v u Q I r h;rw[ha];exact KG (NB sO!);rintro ov s1 ⟨x,H1,I1,r1,q1⟩;exact KG (NB (dM (EO_ hi _) ?_));rintro iv s2 ⟨y,H2,I2,r2,q2⟩;exact KG (UN (KG (NB (dM (hs hb s2 Z H2 x y v ov iv u _ I2 r1 r2 r q2) ?_))));rintro _ s3 ⟨H3,I3,q3⟩;exact wpAny_release #[Z,H3,I3,q3]
def BC(te:TE)(g:TG):TS:=λD Z H=>te Z H λx H1=>g x Z H1 D.nx
def b8j(he:cy!)(hg:mQ!)(hs:FB_ [tg]=pure false:=by rfl)(hw:GA! [tg]=pure none:=by rfl)
  (Y:EP! [tg]=[assign tg X.env]:=by rfl):PS X (FE! [tg] e) (BC te g):=by
 intro hb s Z H D I h;exact wpAny_Assign_stores cy_ hs hw;rintro v s1 ⟨x,H1,I1,r1,q1⟩;rw[Y];exact dM (hg hb s1 Z H1 x v _ I1 r1 q1) λ_ s2 q=>q
def uU(hN:aY_)(hi:ai_)(hx:be_)(he:cy!)(hs:KT_ e mQ_=pure false:=by rfl)(hf:X.fn x=τ\/xy_ x=ET! some:=by first|exact .inl χ|exact .inr χ|assumption):
  PS X (FE! [.Name x pi] e) (BC te eT_):=by
 intro hb s Z H D I h;exact wpAny_Assign_Name cy_ hs;rintro v s1 ⟨y,H1,I1,r1,q1⟩;exact oS I1 hN hi hx r1 (λs2 I2=>#[_,H1,I2,q1]) hf
def GH(i:δ)(te:TE)(ti:HI):TS:=λD Z H=>∃x,Z[i]?=GY_ x/\te Z H λy H1=>ti x y H1 λz H2=>D.nx (Z.set i (ψ z)) H2
def d1e(hN:aY_)(hi:ai_)(hx:be_)(he:cy!)(ho:IS X op ti)(hf:X.fn x=τ\/xy_ x=ET! some:=by first|exact .inl χ|exact .inr χ|assumption):
  PS X (.AugAssign mQ_ op e pos) (GH i te ti):=by
 intro hb s Z H D I h;let#[v,e1,h]:=h;let#[m,hn,hl]:=I.loc;let vis:H8! Wh x:=by obtain k|k:=hx;exact .inl k;exact FL! k
 let#[u,r,l]:=hl i x v hi e1 vis;exact wpAny_AugAssign_Name ?_;let go:zH_ eO! (λw au=>wpAny e_ X.A (inplaceOp op u w) (λr ez=>wpAny e_ X.A (storeName X.env x r) (λ_=>SP X hb D .next) X.xe ez) X.xe au) X.xe s:=by
  exact dM iP_ ?_;rintro w s1 ⟨y,H1,I1,r1,q1⟩;exact dM (ho hb s1 Z H1 v y u w _ I1 r r1 q1) ?_;rintro z s2 ⟨zv,H2,I2,r2,q2⟩;exact oS I2 hN hi hx r2 (λs3 I3=>#[_,H2,I3,q2]) hf
 obtain⟨hk,hm⟩|⟨hk,c,hc,db⟩:=l
 .exact Gz_ go
 .obtain hk|hk:=hk
  .exact GL_ go
  .obtain k|k:=hx
   .show"!i"
   .show"!i"
def JP(f:mS_):HI:=λx y H Q=>∃i j,x=.int i/\y=.int j/\Q (.int (f i j)) H
def d2t:IS X .Add (JP λi j=>i+j):=by intro hb s Z H x y v u Q I r1 r2 h;let#[i,j,e1,e2,q]:=h;subst e1;subst e2;let#[t,rfl]:=r1;let#[t',rfl]:=r2;exact iadd_int iR_
def BA(c:TT)(tb:TS):TS:=λD Z H=>∃W:Nat->St->Hp->Prop,(∃m,W m Z H)/\∀m Z H,W m Z H->
 c Z H λb H1=>if b=τ then∃N:St->Hp->Prop,(∀ae H',N ae H'->∃m',m'<m/\W m' ae H')/\tb {D with nx:=N,ct:=N,bk:=D.nx} Z H1 else D.nx Z H1
def b8e(hp:go!)(hc:PT X c tc)(J:H9! X tb):PS X sQ_ (BA tc tb):=by
 intro hb s Z H D I h;let#[W,#[m0,w0],turn]:=h;exact wpAny_While (codeAny_whileLoop (λn s'=>∃ae H',Inv X hb ae H' s'/\W n ae H') ?_ m0 #[Z,H,I,w0]);rintro n s1 ⟨cg,H1,I1,w1⟩;exact Ga! (hc hb s1 cg H1 _ I1 (turn n cg H1 w1));rintro b s2 ⟨H2,I2,q2⟩;cases b with
 |true=>
  let#[N,hN,q2]:=q2;rw[y_];exact RS hp (dM (J hb s2 cg H2 _ I2 q2) λf s3 q3=>?_);cases f with
  |next=>
   show"!c"
  |cont=>
   show"!c"
  |brk=>exact q3
  |ret v=>exact q3
 |false=>
  rw[LB LU];exact TU #[cg,H2,I2,q2]
end
structure It where
 go:δ->Hp->ν
 yld:δ->Hp->V->Hp->ν
 stop:δ->Hp->ν
def Fg(X:Cx)(hb:w!)(H:Hp)(b:sS!):Prop:=
 H b=υ/\b≠X.env.locals/\b∉X.fs/\iB!/\iB_/\∀p∈X.pn++hb,p.1≠b
def Inv.fpOk(I:d_)(J:k_<=b)(hn:H' b=υ):Fc! H' b:=by
 exact#[hn,QH (LQ I.lt J),I.nofs J,.inr (LX I.sz J),λx c e z=>?_,λp hp z=>?_]
 .let#[v,q]:=GK_ x e;exact Ku_ q.lt sV!
 .exact Ku_ (LR (mU!).1) sV!
structure Qk(P:zH!)(w:zF!)(K:zR!)(tg:Expr)(ag:It)(fp:bd_)(it:sS!)(tn:iS_):Prop where
 mem:it∈fp
 obj:∀i h,tn i h->∀b∈fp,∃o,h.get? b=ψ o/\∀v,o.data≠.cell v
 keep:∀i h h',tn i h->(Gs! h'.get?)->tn i h'
 item:∀(X:Cx),X.prog=P->X.w=w->X.K=K->X.calm=τ->∀(i:δ) (hb:w!) (s:zP!) (Z:St) (H:Hp) (E:V_),mX_ H s->mU_->tn i s.heap->ag.go i H->
  wpAny G! X.A iT_ (λr s1=>∃u,r=ψ u/\
   wpAny G! X.A sW! (λ_ s2=>∃x H',mX_ H' s2/\Bh x u/\ag.yld i H x H'/\tn al! s2.heap/\∀b∈fp,H' b=υ) E s1) E s
 done:∀(X:Cx),X.prog=P->X.w=w->X.K=K->X.calm=τ->∀(i:δ) (hb:w!) (s:zP!) (Z:St) (H:Hp) (E:V_),mX_ H s->mU_->tn i s.heap->ag.stop i H->
  wpAny G! X.A iT_ (λr s1=>r=υ/\mX_ H s1) E s
 self:∀(A:xy!) (i:δ) (s:zP!) (Q:V_) (E:V_),tn i s.heap->Q ca! s->L1! ca!
abbrev TI:=St->Hp->(It->Hp->ν)->ν
def ET(X:Cx)(hb:w!)(Z:St)(tg:Expr)(R:iU!)(wk:yg!)(s2:zP!):Prop:=
 ∃(it:sS!) (fp:bd_) (tn:iS_) (ag:It) (H':Hp),wk=.ref it/\mX_ H' s2/\o7_ Qk tg ag fp it tn/\tn 0 s2.heap/\(∀b∈fp,Fg X hb H' b)/\R ag H'
def PI(X:Cx)(tg iter:Expr)(wi:TI):Prop:=
 ∀(hb:w!) (s:zP!) (Z:St) (H:Hp) (R:iU!),mX_ H s->wi Z H R->
  wpAny e_ X.A (Ey_ iter) (λv s1=>zH_ (pyIter v) mV! X.xe s1) X.xe s
def b2u(ho:rX_ it=ψ o)(hc:o.cls=.type n)(hd:o.data=Gy_ vs)
  (hn:(sY!).contains n=θ)(hQ:Q () s):o6_ M sW!:=by
 delta letOwnedTupleGo;cases tg<;>first
  |exact KJ hQ
  |(cases u<;>first
    |exact KJ hQ
    |(exact FU_ wpAny_load ho;rw[hc,hd];show wpAny M A (GM! ((sY!).contains n&&vs[0]?==ψ (rawInt _)) τ) Q E s;rw[LB (by intro h;rw[hn,Bool.false_and]at h;exact Bool.noConfusion h)];exact KJ hQ))
def HK(K:zR!)(a:sS!):It:=
 (Ez! Et)
def KC(K:zR!)(a:sS!):It:=
 (Ez! Fs)
def EX(lo:Int)(n:δ):It:=Gi_ (lo+i)
def b3u{K:zR!}(a it:sS!):Qk P w K tg (HK K a) [it] it (λi h=>h.IsListIter it a i) where
 mem:=by simp
 obj:=λi h st b J=>by
  let e:b=it:=by simpa using J
  subst e;show"#!"
 keep:=λi h h' st k=>st.at λo e=>k it c_ o e
 item:=by
  show"!6";let#[xs,x,hq,hx]:=hg;let#[its,rv,p,hz]:=FU! hq;let#[u,hu,ru]:=rv.get hx;show"!g";exact wpAny_pyNext_list_item st p.isList (x:=u) s0_ λh' ac sb=>?_;let I1:mX_ H {s with heap:=h'}:=I.turned (t':=s.toks) s1! f0 f1 f3 f4 f5;let#[o,e,c,d]:=id ac;exact#[u,χ,b2u (s:={s with heap:=h'}) e c d a_ #[x,H,I1,ru,#[χ,λys hy=>by rw[I.list_inj hy hq];exact hx],ac,iW_]]
 done:=by
  show"!6";let#[xs,hq,hx]:=hg;let#[its,rv,p,hz]:=FU! hq;show"!g";let hl:=eW!;exact wpAny_pyNext_list_end aS_ st p.isList bf_ λh' eb=>s2_
 self:=λ_ _ _ _ _ st h=>wpAny_pyIter_listiter st h
def a7i{K:zR!}(it:sS!)(lo:Int)(n:δ):Qk P w K tg (EX lo n) [it] it (IO! (lo+(i:δ)*1) 1) where
 mem:=by simp
 obj:=λi h st b J=>by
  let e:b=it:=by simpa using J
  subst e;exact⟨_,st,λv z=>by
   let z':Data.fields _=Data.cell v:=z;cases z'⟩
 keep:=λi h h' st k=>k it c_ _ st
 item:=by
  show"!0";let W:=Walks.range (prog:=X.prog) (w:=X.w) aS_ it lo 1 n;show"!8";exact#[_,χ,b2u (s:={s with heap:=h',toks:=tk}) (n:="range_iterator") ac χ χ a_ #[.int (lo+i),H,I1,#[t,?_],aK_,ac,iW_]];rw[Int.mul_one]
 done:=by
  show"!0";exact Iu! st (by let:n<=i:=hg;omega) λh' eb=>s2_
 self:=λ_ _ _ _ _ st h=>Iz_ h
section
variable{X:Cx}
def EI(K:zR!)(tl:TE):TI:=λZ H R=>tl Z H λx H1=>∃a,x=.ref a/\(∃xs,Et K H1 a xs)/\R (HK K a) H1
def GZ(K:zR!)(tl:TE):TI:=λZ H R=>tl Z H λx H1=>∃a,x=.ref a/\(∃xs,Fs K H1 a xs)/\R (KC K a) H1
def b1h(hl:PE X l tl):I5_ l (EI X.K tl):=by
 intro hb s Z H R I h;exact dM s4_ ?_;rintro v s1 ⟨x,H1,I1,r1,q1⟩;let#[a,e,#[xs,hq],q]:=q1;subst e;subst r1;let#[its,rv,p,hz]:=I1.list hq;exact J3! p.isList;exact#[B!,[B!],_,_,H1,χ,I1.kept (t':=s1.toks) λb o e=>KL _ e,b3u a _,eW_,cz!,q];let e:b=B!:=by simpa using J
 show"!U"
def a4c{lo hi:Int}(I:d_)(Y:-gs_<=lo)(h2:lo<2 ^ 62)(h3:-gs_<=hi)(h4:hi<2 ^ 62)
  (q:R (EX lo (m0!).toNat) H):LE! E {s with heap:=s.heap.push {cls:=.type "range",data:=Cd! 1},toks:=tk}:=by
 exact IA! (small_one Y h2 h3 h4);let I1:mX_ H {s with heap:=s.heap.push {cls:=.type "range",data:=Cd! 1},toks:=tk}:=I.kept λb o e=>KL _ e;exact⟨(m0_).objs.size,[(m0_).objs.size],_,_,H,χ,
  I1.kept (t':=tk) λb o e=>KL _ e,a7i _ lo (m0!).toNat,?_,λb J=>?_,q⟩
 .let e1:lo+eX!*1=lo:=by simp
  let e2:s6_ - eX!=FS! lo 1:=by rw[rangeSize_one];split<;>omega
  show IsRangeIter _ _ (lo+eX!*1) (s6_ - eX!) 1;rw[e1,e2];exact LP _ χ
 .let e:b=(m0_).objs.size:=by simpa using J
  show"!U"
def EH(ta:TA):TI:=λZ H R=>ta Z H λvs H1=>∃j:Int,vs=[cz_]/\-gs_<=j/\j<2 ^ 62/\R (EX 0 j.toNat) H1
def EG(ta:TA):TI:=λZ H R=>ta Z H λvs H1=>∃i j:Int,vs=[bN_,cz_]/\(-gs_<=i/\i<2 ^ 62/\-gs_<=j/\j<2 ^ 62)/\R (EX i (gt!).toNat) H1
def b4m(hg:eX_)(hm:eY!)(ha:PA X [a] ta)(hs:s7_:=by rfl):I5_ s8! (EH ta):=by
 intro hb s Z H R I h;exact Fq_ boot_range (OA (dM gt_ ?_) hs χ);rintro us s1 ⟨vs,H1,I1,r1,q1⟩;let#[j,e,q1,q2,q]:=q1;subst e;cases r1 with
 |cons r rr=>
  cases rr;show"#%";exact call_range_1 (a4c I1 a! a! q1 q2 (Ep! q))
def b4l(hg:eX_)(hm:eY!)(ha:PA X aq! ta)(hs:s9!:=by rfl)(bu:s9_:=by rfl):
  PI X tg ta! (EG ta):=by
 intro hb s Z H R I h;exact K1_ (by rw[hs,bu]);let#[i,j,e,#[q1,q2,q3,q4],q]:=q1;subst e;cases r1 with
 |cons r rr=>
  cases rr with
  |cons r' rr=>
   cases rr;show"#%";let#[t',rfl]:=r';exact call_range_2 (a4c I1 q1 q2 q3 q4 q)
def GF(wi:TI)(g:TG)(tb:TS):TS:=λD Z H=>wi Z H λag H1=>∃W:Nat->Nat->St->Hp->Prop,(∃m,W 0 m Z H1)/\∀i m Z H,W i m Z H->
 (ag.stop i H/\D.nx Z H)\/(ag.go i H/\∃N:St->Hp->Prop,(∀ae H',N ae H'->∃m',m'<m/\W al! m' ae H')/\∀x H',ag.yld i H x H'->g x Z H' λfg H2=>tb {D with nx:=N,ct:=N,bk:=D.nx} fg H2)
def Ph(fp:bd_)(h:Heap):μ eI!:=fp.filterMap λb=>(h.get? b).map λo=>(b,o)
def jG(J:b∈fp)(e:rU!):(b,o)∈Ph fp h:=RE.mpr #[b,J,by rw[e];rfl]
def b5b(hp:p∈Ph fp h):p.1∈fp/\h.get? p.1=ψ p.2:=by
 let#[b,J,e]:=RE.mp hp;cases q:h.get? b with
 |none=>rw[q]at e;rcases e
 |some o=>
  rw[q]at e;let e':(b,o)=p:=MQ e;subst e';exact#[J,q]
def Inv.pinned(I:d_)(hf:∀b∈fp,Fc! H b)(ho:∀b∈fp,∃o,rX_ b=ψ o/\∀v,o.data≠.cell v):FT_ X (hb++Ph fp s.heap):=
 I.pins_of λp hp=>HD_ iZ! λz=>by
  let#[J,e]:=b5b z;let#[f0,f1,f2,_]:=hf p.1 J;let#[o,e',d]:=ho p.1 J;rw[e]at e';rcases e';exact#[e,f0,f1,f2,d]
def Inv.unpinned(I:FT_ X (hb++pl)):mX_ H s:=I.pins_of λp hp=>I.pin p (KY _ iZ_)
def b8i(hp:go!)(hc:aE!)(hi:m3_)(hg:mQ!)(J:H9! X tb)
  (hs:dc!:=by intro _;rfl):PS X td_ (GF wi g tb):=by
 intro hb s Z H D I h;exact wpAny_For (dM (K0_ hi _) λv s1 Y=>dM Y λwk s2 h2=>?_) hs;let#[it,fp,tn,ag,H2,e,I2,T,cj,f2,W,#[m0,w0],turn]:=h2;subst e;let pj:∀{H':Hp},gu_->∀b∈fp,Fc! H' b:=λhn b J=>#[hn b J,(dT!).2];exact codeAny_forLoop_any (λn s'=>∃i ae H',Inv X hb ae H' s'/\tn i s'.heap/\gu_/\W i n ae H') ?_ m0 #[0,Z,H2,I2,cj,te!,w0];rintro n s3 ⟨i,iz,H3,I3,wm,YF,w3⟩;obtain⟨stop,qn⟩|⟨go,N,hN,step⟩:=turn i n iz H3 w3
 .exact Ga! (T.done X χ χ χ hc i hb s3 iz H3 X.xe I3 (pj YF) wm stop);rintro r s4 ⟨hr,I4⟩;subst hr;exact TU #[iz,H3,I4,qn]
 .exact Ga! (T.item X χ χ χ hc i hb s3 iz H3 X.xe I3 (pj YF) wm go);rintro r s4 ⟨u,hr,h4⟩;subst hr;exact Ga! h4;rintro _ s5 ⟨x,H5,I5,r5,y5,pv,yi⟩;let yj:=I5.pinned (pj yi) tf!;exact Ga! (hg _ s5 iz H5 x u _ yj r5 tf_);rintro _ s6 ⟨px,H6,I6,q6⟩;exact RS hp (dM (J _ s6 px H6 _ I6 q6) λf s7 q7=>?_);let again:∀{ju:St} {H7:Hp},Inv X (hb++Ph fp s5.heap) ju H7 s7->N ju H7->∃m,m<n/\∃i ae H',Fz_ s7/\tn i s7.heap/\gu_/\W i m ae H':=λ{ju H7} I7 n7=>by
   let#[m',hm,w7]:=hN ju H7 n7;exact#[m',hm,i+1,ju,H7,i0!,T.keep _ _ _ pv λb J o e=>(th!).1,cz!,w7];let#[o,e,d]:=I6! pv;exact(th!).2.1
  cases f with
  |next=>let#[ju,H7,I7,n7]:=q7;exact again I7 n7
  |cont=>let#[ju,H7,I7,n7]:=q7;exact again I7 n7
  |brk=>let#[ju,H7,I7,q7]:=q7;exact#[ju,H7,i0!,q7]
  |ret v=>let#[x7,ju,H7,I7,r7,q7]:=q7;exact#[x7,ju,H7,i0!,r7,q7]
end
abbrev R2:=V->V->Hp->VK->ν
def Ga(X:Cx)(f:ti!)(r:R2):Prop:=
 ∀(hb:w!) (s:zP!) (Z:St) (H:Hp) (x y:V) (v u:yg!) (Q:VK),mX_ H s->Bh x v->Bh y u->Hu! r->
  wpAny e_ X.A (f v u) aR_ X.xe s
def HG(X:Cx)(f:Value->Sem Value)(r:tj!):Prop:=
 ∀(hb:w!) (s:zP!) (Z:St) (H:Hp) (x:V) (v:yg!) (Q:VK),mX_ H s->Bh x v->r x H Q->
  wpAny e_ X.A (f v) aR_ X.xe s
def Ku(X:Cx)(f:yg!)(r:i1!):Prop:=
 ∀(hb:w!) (s:zP!) (Z:St) (H:Hp) (xs:r_) (us:n_) (Q:VK),mX_ H s->Av xs us->r xs H Q->
  wpAny e_ X.A (call f us) aR_ X.xe s
def HH(X:Cx)(r:V->Hp->sl!->ν):Prop:=
 ∀(hb:w!) (s:zP!) (Z:St) (H:Hp) (x:V) (v:yg!) (Q:dP_),mX_ H s->Bh x v->r x H Q->
  wpAny e_ X.A mH! iI_ X.xe s
def CI(r:R2)(ta tb:TE):TE:=λZ H Q=>ta Z H λx H1=>tb Z H1 λy H2=>r x y H2 Q
def JG(r:tj!)(ta:TE):TE:=λZ H Q=>ta Z H λx H1=>r x H1 Q
nonrec def rI(C:Int->Int->ν)(g:Int->Int->V):R2:=λx y H Q=>∃i j,x=.int i/\y=.int j/\C i j/\Q bw_ H
def Rb(g:Int->Int->V):R2:=λx y H Q=>∃i j,x=.int i/\y=.int j/\Q bw_ H
nonrec def rU(g:Int->V):V->Hp->VK->Prop:=λx H Q=>∃i,x=.int i/\Q (g i) H
section
variable{X:Cx}
def d4c(ha:aZ!)(J:cw_){R:so!}(I:d_)
  (h:sn!){f:ti!}
  (hf:so_):
  wpAny e_ X.A mD! sp_ X.xe s:=by
 show"!="
def b1j(ho:m5!)(ha:aZ!)(J:cw_):PE X m5_ i1_:=by intro hb s Z H Q I h;exact wpAny_BinOp tk!
def d5k(ho:HG X (unaryOp op) r)(ha:aZ!):PE X (.UnaryOp op a pos) (JG r ta):=by intro hb s Z H Q I h;exact UnaryOp_ (Fr! ho)
def opI{g:mS_}
  (rule:∀(i j:Int) (t u:Tok) (s:zP!) (Q:V_) (E:V_),C i j->Q tl! {s with toks:=s.toks+1}->KA! m6!):
  Ga X f (rI C λi j=>.int bw_):=by
 intro hb s Z H x y v u Q I rx ry h;let#[i,j,rfl,rfl,hc,q]:=h;show"!D";let#[t',rfl]:=ry;exact GZ! hc tl_
def d5r{g:mS_}
  (rule:∀(i j:Int) (t u:Tok) (s:zP!) (Q:V_) (E:V_),Q tl! {s with toks:=s.toks+1}->KA! m6!):
  Ga X f (Rb λi j=>.int bw_):=by
 show"!N";exact GZ! tl_
def c6b{g:tm!}
  (rule:∀(i j:Int) (t u:Tok) (s:zP!) (Q:V_) (E:V_),Q (.bool bw_) s->KA! m6!):
  Ga X f (Rb λi j=>.bl bw_):=by
 show"!N";exact GZ! (K0! bw_ q)
def CF(i j:Int):Prop:=0<j/\j<1073741824
def CD(i j:Int):Prop:=0<=j/\j<=1000000/\dc_<2 ^ 64
def Yd(i j:Int):Prop:=(-gw!<i/\i<2 ^ 64)\/(-gw!<j/\j<2 ^ 64)
def Yd.ok(h:Yd i j):IntMulOk i j:=by
 obtain⟨Y,h2⟩|⟨Y,h2⟩:=h
 .exact .of_left tm_
 .exact .of_right tm_
def d1r:Ga X eZ_ (Rb λi j=>.int (i+j)):=d5r λ_ _ _ _ _ _ _ q=>add_int q
def kP:Ga X (binaryOp .Sub) tn!:=d5r λ_ _ _ _ _ _ _ q=>sub_int q
def iF:Ga X tn_ m7!:=opI λ_ _ _ _ _ _ _ hc q=>mul_int q hc.ok
def mZ:Ga X (binaryOp .FloorDiv) m7_:=opI λi j _ _ _ _ _ hc q=>by
 let Y:(0:Int)<j:=hc.1;let h2:j<1073741824:=hc.2;exact Jw_ floordiv_int Int.fdiv_eq_ediv_of_nonneg (.inl to_)
def eH:Ga X (binaryOp .Mod) m8!:=opI λi j _ _ _ _ _ hc q=>by
 let Y:(0:Int)<j:=hc;exact Jw_ mod_int' Int.fmod_eq_emod_of_nonneg
def d1m:Ga X (binaryOp .Pow) m9!:=opI λ_ _ _ _ _ _ _ hc q=>pow_int_small hc.1 hc.2.1 hc.2.2 q
def unI{g:m9_}
  (rule:∀(i:Int) (t:Tok) (s:zP!) (Q:V_) (E:V_),Q (.int (g i) s.toks) {s with toks:=s.toks+1}->KA! (f dL!)):
  HG X f (rU λi=>.int (g i)):=by
 intro hb s Z H x v Q I rx h;let#[i,rfl,q]:=h;show"!D";exact rule i t s _ _ #[.int (g i),H,aZ_,O_,q]
def d0g:HG X (unaryOp .USub) (rU λi=>.int (-i)):=unI λ_ _ _ _ _ q=>neg_int q
end
def GJ:V->V->Bool
 |.non,.non=>τ|.non,.int _=>τ|.int _,.non=>τ|.non,.bl _=>τ|.bl _,.non=>τ|.non,.str _=>τ|.str _,.non=>τ
 |.int _,.int _=>τ|.bl _,.bl _=>τ|.str _,.str _=>τ|.byt _,.byt _=>τ
 |.int _,.str _=>τ|.str _,.int _=>τ|.bl _,.str _=>τ|.str _,.bl _=>τ
 |_,_=>θ
def IE:R2:=λx y H Q=>GJ x y=τ/\FC! (Lj! (x=y))
def b3c:decide (V.int i=V.int j)=(i==j):=by rw[NY];simp
def d3m:decide (V.bl i=V.bl j)=(i==j):=by rw[NY];simp
def b3b:decide (V.str i=V.str j)=(i==j):=by rw[NY];simp
def c7u:decide (V.byt i=V.byt j)=(i.toList==j.toList):=by rw[NY];cases i;cases j;simp
section
variable{X:Cx}
def eZ(I:d_)(q:FC! k)(e:k=k'):E7! (.bool k') s:=by subst e;exact K0! k q
def yN:Ga X ts! IE:=by
 intro hb s Z H x y v u Q I rx ry h;let#[hs,q]:=h;cases x with
 |non=>
  subst rx;cases y with
  |non=>cases ry;exact PySem.EqNone.ne_none_none bP!
  |bl j=>cases ry;exact PySem.EqNone.ne_none_bool bP!
  |int j=>let#[t',rfl]:=ry;exact PySem.EqNone.ne_none_int bP!
  |str j=>let#[t',rfl]:=ry;exact PySem.EqNone.ne_none_str bP!
  |_=>exact KB! e0!
 |bl i=>
  subst rx;cases y with
  |non=>cases ry;exact PySem.EqNone.ne_bool_none bP!
  |bl j=>cases ry;exact Kv! ne_bool d3m
  |str j=>let#[t',rfl]:=ry;exact PySem.EqMixed.ne_bool_str bP!
  |_=>exact KB! e0!
 |int i=>
  let#[t,rfl]:=rx;cases y with
  |non=>cases ry;exact PySem.EqNone.ne_int_none bP!
  |int j=>let#[t',rfl]:=ry;exact Kv! ne_int b3c
  |str j=>let#[t',rfl]:=ry;exact PySem.EqMixed.ne_int_str bP!
  |_=>exact KB! e0!
 |str i=>
  let#[t,rfl]:=rx;cases y with
  |non=>cases ry;exact PySem.EqNone.ne_str_none bP!
  |bl j=>cases ry;exact PySem.EqMixed.ne_str_bool bP!
  |int j=>let#[t',rfl]:=ry;exact PySem.EqMixed.ne_str_int bP!
  |str j=>let#[t',rfl]:=ry;exact Kv! ne_str b3b
  |_=>exact KB! e0!
 |byt i=>
  let#[t,rfl]:=rx;cases y with
  |byt j=>let#[t',rfl]:=ry;exact Kv! W.ne_bytes c7u
  |_=>exact KB! e0!
 |_=>cases y<;>exact KB! e0!
def yO:Ga X (compareOp .Lt) na_:=c6b λ_ _ _ _ _ _ _ q=>lt_int q
def d5o:Ga X nb! (Rb λi j=>.bl i3!):=c6b λ_ _ _ _ _ _ _ q=>le_int q
def uX:Ga X tt_ nc!:=c6b λ_ _ _ _ _ _ _ q=>gt_int q
def d5q:Ga X (compareOp .GtE) nd!:=c6b λ_ _ _ _ _ _ _ q=>ge_int q
def a8g:Ga X (compareOp .Is) tv_:=by
 intro hb s Z H x y v u Q I rx ry h;let#[rfl,q]:=h;subst ry;exact is_none_gen (eZ I q ?_);cases x<;>first
  |(subst rx;rfl)
  |(let#[t,rfl]:=rx;rfl)
def mX:Ga X (compareOp .IsNot) tw!:=by
 intro hb s Z H x y v u Q I rx ry h;let#[rfl,q]:=h;subst ry;exact isnot_none_gen (eZ I q ?_);cases x<;>first
  |(subst rx;rfl)
  |(let#[t,rfl]:=rx;rfl)
def Ga.or(h:Ga X f r)(h':Ga X f r'):Ga X f tw_:=by
 intro hb s Z H x y v u Q I rx ry q;obtain q|q:=q
 .exact Lj_ h
 .exact Lj_ h'
def aR(b:Expr)(h:op≠.In:=by decide)(h2:op≠.NotIn:=by decide):behindInMarks op b=false:=by
 let e1:sv_=false:=by cases op<;>first|rfl|exact Ew! h
 let e2:sw!=false:=by cases op<;>first|rfl|exact Ew! h2
 cases b<;>simp[behindInMarks,e1,e2]
def b1n(ho:cb!)(ha:aZ!)(J:cw_)(hm:dQ!):PE X dQ_ i1_:=by intro hb s Z H Q I h;exact wpAny_Compare1 tk! hm
def Zz(t:TE):TT:=λZ H Q=>t Z H λx H'=>∃k,x=.bl k/\Q k H'
def b1d(ho:cb!)(ha:aZ!)(J:cw_)(hm:dQ!):PT X dQ_ (Zz i1_):=by
 intro hb s Z H Q I h;exact UZ (dM da! λv s1 ⟨x,H1,I1,r1,q1⟩=>dM gk_ λu s2 ⟨y,H2,I2,r2,q2⟩=>
  dM nd_ λc s3 ⟨z,H3,I3,r3,k,e,q3⟩=>?_) hm
 subst e;subst r3;exact ND #[H3,I3,q3]
def Wu(r r':R2)(ta tb tc:TE):TE:=λZ H Q=>ta Z H λx H1=>tb Z H1 λy H2=>r x y H2 λz H3=>∃k,z=.bl k/\
 (if k=τ then tc Z H3 λw' H4=>r' y w' H4 Q else Q I! H3)
def b9a(ho:cb!)(gj:i4!)(ha:aZ!)(J:cw_)(hc:PE X c tc)
  (hm:i4_:=by with_unfolding_all rfl):PE X i5! tz!:=by
 intro hb s Z H Q I h;exact Compare_chain (dM da! λv s1 ⟨x,H1,I1,r1,q1⟩=>chain_link (dM gk_ λu s2 ⟨y,H2,I2,r2,q2⟩=>
  dM nd_ λd s3 ⟨z,H3,I3,r3,k,e,q3⟩=>?_)) hm
 subst e;subst r3;exact ND ?_;cases k with
 |false=>exact ite_ff #[.bl θ,H3,I3,χ,q3]
 |true=>exact ite_tt (chain_last (dM tz_ λw' s4 ⟨z',H4,I4,r4,q4⟩=>gj hb s4 Z H4 y z' u w' Q I4 r2 r4 q4))
def b8d(ho:cb!)(gj:i4!)(ha:aZ!)(J:cw_)(hc:PE X c tc)
  (hm:i4_:=by with_unfolding_all rfl):PT X i5! (Zz tz!):=by
 intro hb s Z H Q I h;exact isTrue_chain (dM da! λv s1 ⟨x,H1,I1,r1,q1⟩=>test_link (dM gk_ λu s2 ⟨y,H2,I2,r2,q2⟩=>
  dM nd_ λd s3 ⟨z,H3,I3,r3,k,e,q3⟩=>?_)) hm
 subst e;subst r3;exact ND ?_;cases k with
 |false=>
  let#[k',e',q']:=q3;cases e';exact ite_ff #[H3,I3,q']
 |true=>
  exact ite_tt (test_last (dM tz_ λw' s4 ⟨z',H4,I4,r4,q4⟩=>dM (gj hb s4 Z H4 y z' u w' _ I4 r2 r4 q4) ?_));rintro d' s5 ⟨z2,H5,I5,r5,k2,e2,q5⟩;subst e2;subst r5;exact ND #[H5,I5,q5]
def EQ(K:zR!)(x:V)(H:Hp)(k:Bool):Prop:=
 match x with
 |.non=>k=θ
 |.bl b=>k=b
 |.int i=>k=gx_
 |.str y=>cA_<=sizeLine/\k=((cA_:Int) != 0)
 |.byt y=>y.size<=sizeLine/\k=((y.size:Int) != 0)
 |.ref p=>(FH_ Et K)\/(FH_ Fs K)\/∃h1,H p=ψ dU_/\k=! nf!
 |_=>False
def a9h(r:KV h1 vs):(!vs.isEmpty)=! nf!:=by cases r<;>rfl
def wK(r:IM_ xs):(! nf_)=! dU!:=by cases r<;>simp
def rJ:(sizeLine:δ)<2 ^ 63:=by rw[NO];decide
def d0j:HH X (λx H Q=>∃k,EQ X.K x H k/\Q k H):=by
 intro hb s Z H x v Q I rx h;let#[k,e,q]:=h;let hl:=rJ;let hs:sizeLine=16777216:=NO;cases x with
 |non=>
  subst rx;let e':k=false:=e;subst e';exact truthy_none ng!
 |bl b=>
  subst rx;let e':k=b:=e;subst e';exact ND ng!
 |int i=>
  show"!D";let e':k=gx_:=e;subst e';exact PySem.P.truthy_int ng!
 |str y=>
  show"!D";obtain⟨hy,e'⟩:cA_<=sizeLine/\k=((cA_:Int) != 0):=e;subst e';exact PySem.P.truthy_str a! #[H,aZ_,q]
 |byt y=>
  show"!D";obtain⟨hy,e'⟩:y.size<=sizeLine/\k=((y.size:Int) != 0):=e;subst e';exact W.truthy_bytes a! #[H,aZ_,q]
 |ref p=>
  subst rx;let e':(FH_ Et X.K)\/(FH_ Fs X.K)\/∃h1,H p=ψ dU_/\k=! nf!:=e;obtain⟨xs,hx,e'⟩|⟨xs,hx,e'⟩|⟨h1,hx,e'⟩:=e'
  .subst e';let#[its,r,pl,hz]:=FU! hx;let az:=aS!;exact H9_ wpAny_truthy_list i5_ tD!
  .subst e';let#[its,r,pl,hz]:=EH_ hx;let az:=aS!;exact truthy_tuple pl i5_ tD!
  .subst e';obtain⟨hz,hS,vs,r,m⟩:aD!<=sizeLine/\(p==sysModules)=θ/\∃vs,KV h1 vs/\s.heap.DictOf (Ld! mixKind) p vs:=I.hok p _ hx;let az:aD!=bg!:=SD r;exact wpAny_truthy_dict hS m a! #[H,aZ_,by rw[a9h r];exact q]
 |_=>exact(tD_).elim
def b8b(ha:aZ!)(he:∀gb,isTrue a X.env gb=(do let v <-gb;standAt a.pos;holding [v] mH!)):
  PT X a (λZ H Q=>ta Z H λx H'=>∃k,EQ X.K x H' k/\Q k H'):=by
 show"!G";exact isTrue_plain (Fr! d0j) (he _)
def a8h:Ga X eZ_ (λx y H Q=>∃i j,x=.str i/\y=.str j/\i.length+j.length<=sizeLine/\Q (.str (i++j)) H):=by intro hb s Z H x y v u Q I rx ry h;let#[i,j,rfl,rfl,hz,q]:=h;let#[t,rfl]:=rx;let#[t',rfl]:=ry;exact add_str (λt' tk=>#[.str (i++j),H,aZ_,O_,q]) hz
def oR(r:Av [x] us):∃u,us=[u]/\Bh x u:=by
 cases r with
 |cons r1 r2=>cases r2;exact F6_ r1
def yA(r:Av [x,y] us):∃u w',us=[u,w']/\Bh x u/\Bh y w':=by
 cases r with
 |cons r1 r2=>
  cases r2 with
  |cons r3 r4=>cases r4;exact#[_,_,χ,r1,r3]
def c3m:Ku X tE! tF!:=by intro hb s Z H xs us Q I r h;let#[i,rfl,q]:=h;let#[u,rfl,t,rfl]:=oR r;exact call_abs_int λu tk=>#[.int i6_,H,aZ_,O_,q]
def c3j:Ku X tG! tI!:=by intro hb s Z H xs us Q I r h;let#[x,rfl,hz,q]:=h;let#[u,rfl,t,rfl]:=oR r;exact ord_of_one hz iR_
def CB(K:zR!)(x:V)(H:Hp)(n:δ):Prop:=
 match x with
 |.str y=>cA_<=sizeLine/\n=cA_
 |.byt y=>y.size<=sizeLine/\n=y.size
 |.ref p=>(Jx! K)\/∃xs,Fs K H p xs/\n=h_
 |_=>False
def bQ:Ku X tI_ (λxs H Q=>∃x n,xs=[x]/\CB X.K x H n/\Q dV! H):=by
 intro hb s Z H xs us Q I r h;let#[x,n,rfl,e,q]:=h;let#[u,rfl,rx]:=oR r;let hl:=rJ;let hs:sizeLine=16777216:=NO;cases x with
 |str y=>
  show"!D";obtain⟨hy,e'⟩:cA_<=sizeLine/\n=cA_:=e;subst e';exact len_str a! iR_
 |byt y=>
  show"!D";obtain⟨hy,e'⟩:y.size<=sizeLine/\n=y.size:=e;subst e';exact W.len_bytes a! iR_
 |ref p=>
  subst rx;let e':(Jx! X.K)\/∃xs,HX! p xs/\n=h_:=e;obtain⟨xs,hx,e'⟩|⟨xs,hx,e'⟩:=e'
  .subst e';let#[its,r',pl,hz]:=FU! hx;let az:=r'.length;exact H9_ Calls.call_len_list i5_ tJ!
  .subst e';let#[its,r',pl,hz]:=EH_ hx;let az:=r'.length;exact len_tuple pl i5_ tJ!
 |_=>exact(tD_).elim
end
structure Uz(h:Heap)(x dx C:sS!)(mA:U!):Prop where
 obj:h.get? x=ψ mg_
 ns:h.Ns1 dx mA
 ne:dx≠x
def b5h{h:Heap}(n:h.Ns1 dx mA):∃od,h.get? dx=ψ od/\∀name,I6_ od=ψ (mA name):=by
 let#[o,es,ep,ho,hd,hk,_,hm]:=n;exact#[o,ho,λname=>?_];let e:=hm name;delta nsFind findBy at e;rw[<-Array.find?_toList]at e;delta W.lookIn;rw[hd];dsimp only;split
 .rename_i y q;rw[q]at e;exact KU! e
 .rename_i q;rw[q]at e;let a:es.toList.any (·.refKey)=false:=by
   rw[List.any_eq_false];intro y hy;let#[z,t,hkey]:=hk y (Array.mem_toList_iff.mp hy);simp[DictEntry.refKey,hkey]
  let a':¬es.toList.any (·.refKey)=true:=by rw[a];exact LU
  rw[LB a'];exact KU! e
def Uz.look(I:Uz h x dx C mA):∃od,W.InstAt h x mg_ C (ψ od)/\∀name,I6_ od=ψ (mA name):=
 let⟨od,ho,hl⟩:=b5h I.ns
 #[od,#[I.obj,χ,χ,ho],hl]
section
variable{K:zR!}
def c7d(X:i7!)(I:nh_)(hg:tK_)(hh:tL!)
  (ha:EN! K name=ψ υ)(hv:mA name=ψ v)(yk:W.handedIn v=τ)(h:Q v {s with toks:=s.toks+1}):
  wpAny n! A (getAttr gd_ name expr) Q E s:=by
 show"#B";exact W.get_value X ag (ni!).1 (W.findObj_own hh ha χ (by rw[hl,hv])) yk h
def c1s(X:i7!)(I:nh_)(hg:tK_)
  (hf:EN! K name=ψ dV_)(ht:W.isFn K ai!=τ)(hv:mA name=υ)(h:Q (.ref f,[.ref x]) s):
  wpAny n! A (getMethod gd_ name pl) Q E s:=by
 show"#B";exact W.method_fn X ag (ni!).1 (ni!).2 hf (OT.mp ht) (by show(I6_ od).map (·.isSome)=ψ θ;rw[hl,hv];rfl) h
def c4p(X:i7!)(I:nh_)
  (hs:EN! K "__setattr__"=ψ tM!)(hp:W.plainOver K C=τ)(ht:W.takerIn K C name=ψ υ)(hh:tL!)
  (hw:H7_ ns)(bi:tN!)
  (h:∀h',Uz h' x dx C (λy=>if y=name then ψ v else mA y)->Et_ dx->Q () {s with heap:=h',toks:=s.toks+2}):
  wpAny n! A (setAttr gd_ name v) Q E s:=by
 show"#B";exact W.set_plain X ag hs (W.osa_open (s:=nj_) (r:=υ) X ag hp ht λb=>?_);let#[cd,hc,me]:=W.any_some hh;let hx:rX_ x=ψ #[.ref C,ψ dx,.plain,#[]]:=I.obj;exact Ia! (KD! (VQ hx (KG (W.Looks.here (s:=nj_) (W.looks_clsIn X hc) ?_))));rw[me];exact KJ (a:=ψ dx) (Ia! gz_);exact wpAny_nsSet1 (s:=nj_) I.ns λh' ji bu=>?_;let#[oD,esD,epD,ym,yn,hcD]:=ji.count (PySem.Within.cons name v hw);exact KG (wpAny_lookBehind ym (by rw[yn];exact pastItsLine_dict (LX hcD (FV! KW))) ?_);exact KJ (h _ #[(bu.2 _ (MD I.ne)).trans I.obj,ji,I.ne] bu)
def c0d(X:i7!)(hm:W.makesIn K C=τ)
  (hi:K8_ K=ψ dV_)(hf:W.typeIn K ai!=ψ (.type "function"))
  (h:codeAny n! (A.under (GM_ vs)) (.call ai! #[.ref aj!::vs,kw]) (W.InitBack aj! R)
   {s with heap:=(e1!).push ja!}):
  codeAny n! A (.call ae! #[vs,kw]) R s:=by
 let#[hh,g,d,t,os]:=s;exact W.make_core (W.makes_of X hm) (W.looks_findIn X hi) (λself=>W.bind_fn X self hf) aw_ h
end
def Ju(f:Str)(v:V):μ c7!->μ c7!
 |[]=>[(f,v)]
 |(g,x)::r=>if g=f then(g,v)::r else(g,x)::Ju f v r
def sL(f g:Str)(v:V):∀fs:List c7!,HE_ ja_ g=if g=f then ψ v else E6_ g
 |[]=>by
  show Fu! g [(f,v)]=_;by_cases h:g=f
  .let J:(g==f)=true:=OT.mpr h;simp![List.lookup,J,KQ h]
  .let J:(g==f)=false:=NN.mpr h;simp![List.lookup,J,LB h]
 |(k,x)::r=>by
  let ih:=sL f g v r;rw[nm!];by_cases hk:k=f
  .rw[bg_];by_cases h:g=k
   .let J:(g==k)=true:=OT.mpr h;simp![List.lookup,J,KQ (h.trans hk)]
   .let J:(g==k)=false:=NN.mpr h;simp![List.lookup,J,LB (λe:g=f=>h (e.trans hk.symm))]
  .rw[bh!];by_cases h:g=k
   .let J:(g==k)=true:=OT.mpr h;simp![List.lookup,J,LB (λe:g=f=>hk (h.symm.trans e))]
   .let J:(g==k)=false:=NN.mpr h;simp![List.lookup,J];exact ih
def rK(f:Str)(v:V):∀fs:List c7!,f∈Ej_ ja_/\∀g,g∈fs.map b_->g∈Ej_ ja_
 |[]=>#[by simp[Ju],λg h=>by simp at h]
 |(k,x)::r=>by
  let#[i1,i2]:=rK f v r;rw[nm!];by_cases hk:k=f
  .rw[bg_];subst hk;exact#[H_,λg h=>by simpa using h]
  .rw[bh!];exact#[?_,λg h=>?_]
   .rw[LA];exact KI _ i1
   .rw[LA]at h ⊢;obtain e|e:=KR.mp h
    .exact KR.mpr (.inl e)
    .exact KI _ (i2 g e)
def sN(f:Str)(v:V):∀fs:List c7!,(ja_).length<=bu_+1
 |[]=>by simp[Ju]
 |(k,x)::r=>by
  let ih:=sN f v r;rw[nm!];by_cases hk:k=f
  .rw[bg_,KW,KW];omega
  .rw[bh!,KW,KW];omega
def Mu.some_of(r:Mu be! o):∃u,o=ψ u/\Bh v u:=by
 cases o with
 |none=>exact(jb_).elim
 |some u=>exact#[u,χ,r]
def Mu.none_of(r:Mu υ o):o=none:=by
 cases o with
 |none=>rfl
 |some u=>exact(jb_).elim
def b5q(r:bf!):W.handedIn u=true:=by
 cases v with
 |non=>cases (show u=dL_ from r);rfl
 |bl b=>cases (show u=Value.bool b from r);rfl
 |int i=>let#[t,e]:=tT!;subst e;rfl
 |str x=>let#[t,e]:=tT_;subst e;rfl
 |byt b=>let#[t,e]:=(Jx_ Value.bytes);subst e;rfl
 |flt b=>let#[t,e]:=(Jx_ Value.float);subst e;rfl
 |ref a=>cases (show u=Value.ref a from r);rfl
 |ty n=>cases (show u=Value.type n from r);rfl
section
variable{fs fs':List (Str×V)}
def a2j(hok:bd!)(e:jc!):∃mA,Uz h a dx C mA/\rE_/\H7_ mh!/\bu_<=1000/\H dx=ψ gd!:=by let#[d,z,ne,ob,mA,n,r,q]:=(IO_ e1_ hok);exact#[mA,#[ob,n,ne],r,q,z,d]
end
structure To(K:zR!)(C:sS!):Prop where
 pg:W.plainGet K C Str.empty=τ
 hd:W.hasDictIn K C=τ
 po:W.plainOver K C=τ
 sa:EN! K "__setattr__"=ψ tM!
def To.get{K:zR!}(c:To K C)(f:Str):W.plainGet K C f=true:=c.pg
def Dg(K:zR!)(C:sS!)(f:Str):Prop:=EN! K f=ψ υ
def Dg.taker{K:zR!}(n:Dg K C f):W.takerIn K C f=ψ none:=by delta W.takerIn;rw[show EN! K f=ψ υ from n];rfl
structure Wm(K:zR!)(C:sS!)(m:Str)(f:sS!):Prop where
 at_:EN! K m=ψ dV_
 fn:W.isFn K ai!=τ
 kp:FA! K ai!=τ
section
variable{X:Cx}{fs:List (Str×V)}
def a9l(I:d_)(e:jc!)(c:dW_)(n:Dg X.K C f)(l:E6_ f=ψ v)
  (h:∀u s',mX_ H s'->Bh v u->Q u s'):KB_ (getAttr N_ f b):=by
 let#[mA,O,r,_,_,_]:=a2j I.hok e;let#[u,hu,ru]:=Mu.some_of (v:=v) (o:=mA f) (by rw[<-l];exact r f);exact c7d I.kIn O (c.get f) c.hd n hu (b5q ru) (h u _ e2! ru)
def oG(I:d_)(e:jc!)(c:dW_)(k:IP! g)(l:E6_ m=υ)
  (h:Q (.ref g,bh_) s):KB_ (getMethod N_ m pl):=by
 let#[mA,O,r,_,_,_]:=a2j I.hok e;let hn:mA m=none:=Mu.none_of (by rw[<-l];exact r m);exact c1s I.kIn O (c.get m) k.at_ k.fn hn h
def a7q(I:d_)(e:jc!)(c:dW_)(n:Dg X.K C f)(hl:bu_<1000)(ry:Bh y u)
  (h:∀s',Kw! (LV_ tV_)->Q () s'):KB_ (setAttr N_ f u):=by
 let#[mA,O,r,wi,_,ho]:=a2j I.hok e;let hz:(mh!).length<=sizeLine:=by rw[KP,NO];omega
 exact c4p I.kIn O c.sa c.po n.taker c.hd wi hz λh' O' sb=>h _ ?_;let hd:∃o,Es! dx=ψ o:=by let#[o,_,_,e',_]:=O'.ns;exact#[o,e']
 exact I.write (x:=a) (e:=dx) tW_ (.inr ho) (λb q J z=>(sb.2 b J).trans z) hd ?_;exact#[by rw[bC O.ne];exact ho,?_,O.ne,O'.obj,_,O'.ns,λg=>?_,λg hg=>?_]
 .let:=sN f y fs;omega
 .show Mu ((Ju f y fs).lookup g) tX_;rw[sL];by_cases q:g=f
  .rw[KQ q,KQ q];exact ry
  .rw[LB q,LB q];exact r g
 .by_cases q:g=f
  .rw[q];exact(rK f y fs).1
  .exact(rK f y fs).2 g (wi g λz=>hg ?_);show tX_=υ;rw[LB q];exact z
def Inv.made(I:d_):mX_ (upd (upd H s.heap.objs.size (.own aj!)) aj! (Ld_ C))
  {s with heap:=(e1!).push ja!}:=by
 let e1:(e1!).get? k_=ψ i9_:=Fb! LP χ;let e2:((e1!).push ja!).get? aj!=ψ ja!:=by
  let:=LP e1! (o:=W.instObj C k_) χ;rwa[QW]at this
 let e3:(e1!).Ns s.heap.objs.size no_:=#[i9_,#[],_,e1,χ,(λe he=>ξ he c_),cC!];let I1:=I.laid (a:=k_) (o:=.own aj!) (h':=s.heap.push i9_) (t':=s.toks) tZ_ v! #[_,e1];exact I1.laid (a:=k_+1) (o:=Ld_ C) (t':=s.toks) tZ_ (QI (QW _ _)) ?_;let ne:k_≠k_+1:=MN (RZ _);exact#[by rw[bC ne,cC],ML _,ne,e2,λ_=>υ,(Heap.Ns1.of_empty e3).at λo q=>KL _ q,λ_=>jd!,λy hy=>ξ χ hy]
def c8l(J:attributeBase e f env (KG_ e)=KG_ e)
  (h:E9! (KG_ e) (λo al=>wpAny n! A (getAttr o f τ) Q E al) E s):Kw_ (eval t1_ env):=
 Attribute_any_ h (by rw[arm_eval_Attribute,J])
end
def GG(K:zR!)(ta:TE)(f:Str):TE:=λZ H Q=>ta Z H λx H1=>∃a C dx fs v,x=.ref a/\H1 a=ψ e1_/\To K C/\Dg K C f/\E6_ f=ψ v/\Q v H1
def GK(K:zR!)(ta tv:TE)(f:Str):TS:=λD Z H=>tv Z H λy H1=>ta Z H1 λx H2=>∃a C dx fs,x=.ref a/\H2 a=ψ e1_/\To K C/\Dg K C f/\bu_<1000/\
 D.nx Z (upd H2 a tV_)
section
variable{X:Cx}
def d1j(he:PE X e ta)(J:Eo_ e f eO!=Ey_ e):PE X t1_ (GG X.K ta f):=by intro hb s Z H Q I h;exact c8l J cy_;rintro u s1 ⟨x,H1,I1,rx,a,C,dx,fs,v,ex,ea,c,n,l,q⟩;subst ex;obtain rfl:u=Value.ref a:=rx;exact a9l I1 ea c n l λu' s2 I2 ru=>#[v,H1,I2,ru,q]
def d1d(ha:nq!)(hv:PE X value tv)(hs:KT_ value (LL_ f pi)=pure θ):PS X (FE! [.Attribute o f pi] value) (GK X.K ta tv f):=by intro hb s Z H D I h;exact plainObj_wpAny_Assign_Attribute (dM (K0_ hv _) λu s1 ⟨y,H1,I1,ry,q⟩=>dM (ha hb s1 Z H1 _ I1 q) ?_) hs;rintro ov s2 ⟨x,H2,I2,rx,a,C,dx,fs,ex,ea,c,n,l,q2⟩;subst ex;obtain rfl:ov=Value.ref a:=rx;exact a7q I2 ea c n l ry λs3 I3=>#[Z,_,I3,q2]
def c9i(he:cy!)(I:d_)
  (h:te Z H λx H1=>∃a C dx fs g,x=.ref a/\H1 a=ψ e1_/\To X.K C/\IP! g/\E6_ m=υ/\
   ∀s1,mX_ H1 s1->zH_ (callWith pos (.ref g) bh_ t2! dX!) Q X.xe s1)
  (ht:eval t3! X.env=(do
   let ov <-eval e X.env
   standAt e3_
   let(f,first) <-holding [ov] e4!
   callWith pos f first t2! dX!)):
  wpAny e_ X.A (Ey_ t3!) Q X.xe s:=by
 exact W.methodCall_KW (pl:=pl) cy_ ht;rintro u s1 ⟨x,H1,I1,rx,a,C,dx,fs,g,ex,ea,c,k,l,q⟩;subst ex;obtain rfl:u=Value.ref a:=rx;exact oG I1 ea c k l (q s1 I1)
end
structure Ai(k:Nat)(A:xy!):Prop where
 hd:A.handled=υ
 dp:A.depth+3*k+5<recursionLimit
 un:A.units+16*k+200<cLine
 gd:A.guards=ψ []
def Ai.mono(r:gC_)(h:j<=k):Ai j A:=#[r.hd,by let:=r.dp;omega,by let:=r.un;omega,r.gd]
def Ai.deeper(r:Ai R_ A)(env:Env):Ai k (A.deeper env):=
 #[r.hd,by let:=r.dp;show A.depth+1+3*k+5<_;omega,by let:=r.un;show A.units+3+16*k+200<_;omega,r.gd]
def Ai.in1(r:Ai R_ A):Ai k A.in1:=
 #[r.hd,by let:=r.dp;show A.depth+3*k+5<_;omega,by let:=r.un;show A.units+1+16*k+200<_;omega,r.gd]
def a9b{A:xy!}:(jh_).depth=A.depth+1:=by first|rfl|simp[Around.under,Code.weight,Code.isCreation,Code.isGuard,Code.isCaller,Code.frames,Code.isFrame,guardIds]
def a9a{A:xy!}:(jh_).units=A.units+1:=by first|rfl|simp[Around.under,Code.cUnits,Code.frames,Code.isFrame]
def Ai.make(r:Ai R_ A)(C:sS!)(us:n_)(kw:ji!):Ai k jh_:=
 #[r.hd,by let:=r.dp;rw[a9b];omega,by let:=r.un;rw[a9a];omega,by first|exact r.gd|(simpa[Around.under,Code.guards,Code.isGuard,guardIds,pushGuards]using r.gd)]
def Ai.depth(r:gC_):A.depth<recursionLimit:=by let:=r.dp;omega
def Ai.units(r:gC_):A.units+64<cLine:=by let:=r.un;omega
def Ai.units0(r:gC_):A.units<cLine:=by let:=r.un;omega
def BB:TA:=λ_ H Q=>Q [] H
def CW(ta:TE)(tr:TA):TA:=λZ H Q=>ta Z H λx H1=>tr Z H1 λxs H2=>Q e4_ H2
section
variable{X:Cx}
def fM:PA X [] BB:=λ_ _ _ _ H Q I h=>RC #[[],H,I,.nil,h]
def cX(ha:cy!)(hr:gE!)(hs:az!:=by rfl):PA X aJ_ (CW te t):=by intro pos hb s Z H Q I h;rw[hs];show Ex_ (spliced (dX_::backTo pos mB_)) s;exact OY eR!;rintro u s1 ⟨x,H1,I1,r1,q1⟩;exact Jy! hr q1 λus s2 ⟨xs,H2,I2,r2,q2⟩=>#[x::xs,H2,I2,.cons r1 r2,q2]
def FX(t:TA):TE:=λZ H Q=>t Z H λxs H1=>h_<=sizeLine/\∀p,H1 p=υ->Gs_ H1 bc_
def GC(t:TA):TE:=λZ H Q=>t Z H λxs H1=>h_<=sizeLine/\∀p,H1 p=υ->Gs_ H1 V!
def b8t {x1}(h:gE!):PE X t5! (FX t):=by intro hb s Z H Q I hq;exact wpAny_Tuple_spliced t5_;let hf:H1 B!=none:=GA_ v!;exact FR! bc_;exact#[z,us,r,#[_,dS!,χ,_,χ]]
def qZ(h:gE!):PE X ji_ (GC t):=by intro hb s Z H Q I hq;exact wpAny_List_spliced t5_;let hf:H1 B!=none:=GA_ v!;exact FR! V!;exact#[z,us,0,r,dS!]
end
abbrev Sp:=μ V->Hp->VK->XK->ν
abbrev AV:=μ Env->Hp->Shared->XK->Value->Shared->ν
structure Pw(P:zH!)(w:zF!)(K:zR!)(mg:U!)(base:Heap)(A:xy!)(outer:ax_)(s:zP!)(H:Hp):Prop where
 frames:A.frames=ψ outer
 mod:Mod K mg base
 bs:∀b o,base.get? b=ψ o->rX_ b=ψ o/\H b=υ
 bsz:base.objs.size<=k_
 funs:FE_ base outer
 frf:∀b∈frs outer,H b=υ
 hok:Kt P w H s.heap
 bare:I5! s.gens
def CE(outer:ax_)(P:zH!)(w:zF!)(H:Hp)(s:zP!)(Q:VK)(u:yg!)(s':zP!):Prop:=
 ∃v H',s'.os=s.os/\I5! s'.gens/\GZ_ H/\Kt P w H' s'.heap/\Bh v u/\Q v H'
def CR(CX:AV)(outer:ax_)(P:zH!)(w:zF!)(H:Hp)(s:zP!)(Q:VK)(E:XK)(r:Result)(s':zP!):Prop:=
 match r with
 |.ok (.ret u)=>Jy_ P
 |.ok _=>False
 |.error e=>CX outer H s E e s'
structure Eh(P:zH!)(w:zF!)(K:zR!)(mg:U!)(base:Heap)(CX:AV)(k:Nat)(f:sS!)(fd:FuncData)(ps:w_)(sp:Sp):Prop where
 len:∀vs H Q E,GB! E->bg!=P_
 run:∀(A:xy!) (outer:ax_) (s:zP!) (H:Hp) (args:Args) (us:n_) (vs:r_) (Q:VK) (E:XK),Ai k A->gs! Pw A outer s H->BindsTo s fd args dg!->Av vs us->GB! E->
  codeAny G! A (.call ai! args) (CR CX outer P w H s Q E) s
def Eh.mono{K:zR!}(F:KU_ CX j)(h:j<=k):
  Eh P w K mg base CX k f fd ps sp:=#[F.len,λA outer s H args us vs Q E hr=>F.run A outer s H args us vs Q E (hr.mono h)]
def Eh.imp{K:zR!}(F:KU_ CX k)
  (h:∀vs H Q E,sp' vs H Q E->GB! E):gs! Eh CX k f fd ps sp':=
 #[λvs H Q E q=>F.len vs H Q E (h _ _ _ _ q),λA outer s H args us vs Q E hr he J hv hs=>F.run A outer s H args us vs Q E hr he J hv (h _ _ _ _ hs)]
def Pw.make{K:zR!}(e:nv!)(C:sS!)(us:n_)(kw:ji!):
  Pw P w K mg base jh_ outer s H:=#[by first|exact e.frames|(simpa[Around.under,Code.envs,Code.isFrame,pushEnvs]using e.frames),e.mod,e.bs,e.bsz,e.funs,e.frf,e.hok,e.bare]
def Pw.in1{K:zR!}(e:nv!):
  Pw P w K mg base A.in1 outer s H:=#[e.frames,e.mod,e.bs,e.bsz,e.funs,e.frf,e.hok,e.bare]
section
variable{X:Cx}
def Inv.env0(I:d_):KM_ X.A:=
 #[I.ok.frames,I.ok.mod,I.bs,LX I.ok.bsz I.sz,I.stack,I.stkFree,I.hok,I.bare]
def Inv.after(I:d_)(h:I4_ CE X.prog X.w H s Q u s'):E7! u s':=by let#[v,H',os,bare,un,hok,r,q]:=h;let#[hh,g,d,t,jx]:=s';obtain rfl:jx=s.os:=os;exact#[v,H',I.call (h':=hh) (g':=g) (d':=d) (t':=t) (ch:=[]) un hok bare t7!,r,q]
end
def CY(sp:Sp)(c6:r_)(E:XK)(t:TA):TE:=λZ H Q=>t Z H λvs H1=>sp dg_ H1 Q E
def AA(C:sS!)(m:Str)(sp:Sp)(c6:r_)(E:XK)(ta:TE)(t:TA):TE:=λZ H Q=>ta Z H λx H1=>∃a dx fs,x=.ref a/\H1 a=ψ e1_/\E6_ m=υ/\
 t Z H1 λvs H2=>sp (x::dg_) H2 Q E
def AB(C:sS!)(sp:Sp)(c6:r_)(E:XK)(t:TA):TE:=λZ H Q=>t Z H λvs H1=>∀x dx,H1 x=υ->H1 dx=υ->dx≠x->
 sp (.ref x::dg_) nx! t7_ E
def Dw(K:zR!)(fd:FuncData)(ps:w_)(ds:n_):Prop:=
 ∀(s:zP!) (us:n_),Fb! K.In->(e7!).length=P_->BindsTo s fd dh! (ps.zip e7!)
def Dw.all{K:zR!}(h:∀us:List Value,aC_=P_->HF! fd=pure dg!):EP_ K:=λs us _ hl=>by
 rw[LW]at hl ⊢;exact .of_eq (h us hl)
def Jk(CX:AV)(X:Cx)(E:XK):Prop:=∀(hb:w!) (Z:St) (H:Hp) (s:zP!) (e:yg!) (s':zP!),mX_ H s->I4_ CX H s E e s'->X.xe e s'
section
variable{X:Cx}
def a0n(F:dZ_)(hr:a1!)(J:d0!)(hd:d1!)(hx:d0_)
  (I:d_)(r:eN_)(h:sp dg_ H Q E):Kj! (call ai! us) aR_:=by
 let r2:Av dg_ e7!:=I7! hd;let hl:(e7!).length=P_:=by rw[<-r2.length];exact Hu_ F.len h
 exact HP! (F.run X.A X.stack s H dh! e7! dg_ Q E hr I.env0 (J s us I.kIn hl) r2 h);cases r with
 |error e=>exact hx hb Z H s e s' I hq
 |ok fl=>
  cases fl with
  |ret u=>exact I.after hq
  |next=>exact EC_ hq
  |brk=>exact EC_ hq
  |cont=>exact EC_ hq
def a0t(F:dZ_)(hr:a1!)(hg:U_)(hm:X.mg x=ψ ai!)(hk:FA! X.K ai!=τ)(J:d0!)(hd:d1!)(hx:d0_)
  (ha:gF!)(bd:D!:=by decide)(he:az!:=by rfl)(ay:a1_:=by rfl):
  PE X bQ! (CY sp c6 E t):=by
 show"!G";exact QR nz!;exact W.callWith_K (h₀:=X.base) I.ok.mod.kin hk t8! he ay;exact a0n F hr J hd hx I1 r q
def b1k(he:nq!)(c:dW_)(hm:IP! f)(F:dZ_)(hr:a1!)(J:d0!)(hd:d1!)(hx:d0_)(ha:gF!)
  (hst:az!:=by rfl)(ay:a1_:=by rfl)
  (ht:eval e8! X.env=(do
   let ov <-eval o X.env
   standAt e3_
   let(f,first) <-holding [ov] e4!
   callWith pos f first nz_ dX!):=by rfl):
  PE X e8! (AA C m sp c6 E ta t):=by
 show"!G";show"!9";exact W.callWith_K (first:=bh_) (h₀:=X.base) I.ok.mod.kin hm.kp (Jy! ha q λus s2 ⟨vs,H2,I2,r,q2⟩=>ub_) hst ay;exact a0n (us:=.ref a::us) (vs:=.ref a::vs) F hr J hd hx I2 (.cons χ r) q2
def b8x(he:nq!)(c:dW_)(hm:IP! f)(F:dZ_)(hr:a1!)(J:d0!)(hd:d1!)(hx:d0_)
  (ht:eval jk! X.env=(do
   let ov <-eval o X.env
   standAt e3_
   let(f,first) <-holding [ov] e4!
   callWith pos f first nA_ dX!):=by rfl):
  PE X jk! (AA C m sp c6 E ta BB):=by
 show"!G";show"!9";exact W.callWith_K0 (first:=bh_) I1.kIn hm.kp (a0n (us:=bh_) (vs:=bh_) F hr J hd hx I1 uc_ q)
structure Mk(K:zR!)(C f:sS!):Prop where
 makes:W.makesIn K C=τ
 init:K8_ K=ψ dV_
 fn:W.isFn K ai!=τ
 kp:FA! K ae!=τ
def a3t(M:nB!)(F:dZ_)(hr:gF_)(J:d0!)(hd:d1!)
  (hx:d0_)(I:d_)(r:eN_)
  (h:∀x dx,H x=υ->H dx=υ->dx≠x->sp (.ref x::dg_) (upd (upd H dx ix_) x nw_) t7_ E):
  wpAny e_ X.A (call ae! us) aR_ X.xe s:=by
 let hq:=EA! h aj! ue! gG! (MN (RZ _));let I2:=Inv.made (C:=C) I;let r2:Av (V.ref aj!::dg_) ue_:=.cons χ (I7! hd);let hl:(Value.ref aj!::us++ds).length=P_:=by
  let e:=r2.length;rw[Hu_ F.len hq]at e;exact e.symm
 exact wpAny_call (c0d (f:=f) I.kIn M.makes M.init (OT.mp M.fn) (UD (F.run _ X.stack _ _ #[Value.ref aj!::us,[]] ue_ _ _ E (hr.make C us [])
  (I2.env0.make C us []) (J _ (Value.ref aj!::us) I2.kIn hl) r2 hq) λr s' aj=>?_))
 cases r with
 |error e=>exact hx hb Z _ _ e s' I2 aj
 |ok fl=>
  cases fl with
  |ret u=>
   let#[v,H',I3,rv,ev,q3]:=I2.after aj;subst ev;exact#[rv,#[V.ref aj!,H',I3,χ,q3]]
  |next=>exact EC_ aj
  |brk=>exact EC_ aj
  |cont=>exact EC_ aj
def c5p(M:nB!)(F:dZ_)(hr:gF_)(hg:U_)(hm:gG_)(J:d0!)(hd:d1!)(hx:d0_)
  (ha:gF!)(bd:D!:=by decide)(he:az!:=by rfl)(ay:a1_:=by rfl):
  PE X bQ! (AB C sp c6 E t):=by
 show"!G";exact QR nz!;exact W.callWith_K (h₀:=X.base) I.ok.mod.kin M.kp t8! he ay;exact a3t M F hr J hd hx I1 r q
def b8y(M:nB!)(F:dZ_)(hr:gF_)(hg:U_)(hm:gG_)(J:d0!)(hd:d1!)(hx:d0_)
  (bd:D!:=by decide):PE X ug! (AB C sp c6 E BB):=by
 show"!G";exact QR nz!;exact W.callWith_K0 I.kIn M.kp (a3t (us:=[]) M F hr J hd hx I .nil h)
end
structure Eu(N P:w_)(sc:Scope):Prop where
 kind:sc.kind=.function
 co:sc.isCoroutine=θ
 gen:sc.isGenerator=θ
 nd:N.Nodup
 pre:N.take P.length=P
 par:∀x∈P,ES_ x=ET! ψ\/ES_ x=ψ .cell
 nofree:∀y∈sc.names,y.2≠.free
def zZ{kindOf:jl!}:∀{binds:ji!} {m:U!},uh!->bindL kindOf binds m x=m x
 |[],_,_=>rfl
 |(n,v)::r,m,h=>by
  delta bindL;rw[zZ λw hw=>h w (KI _ hw)];split
  .let:x≠n:=by rintro rfl;exact h v KM
   simp[this]
  .rfl
def a0b{kindOf:jl!}:∀{binds:ji!} {m:U!},uh!->bindC kindOf binds m x=m x
 |[],_,_=>rfl
 |(n,v)::r,m,h=>by
  delta bindC;rw[a0b λw hw=>h w (KI _ hw)];split
  .rfl
  .let:x≠n:=by rintro rfl;exact h v KM
   simp[this]
def a0a{kindOf:jl!}:∀{P:w_} {vs:n_} {i:δ} {m:U!},P.Nodup->P[i]?=ψ x->vs[i]?=ψ v->kindOf x=ET! ψ->
  bindL kindOf (P.zip vs) m x=ψ v
 |[],_,_,_,_,h,_,_=>by simp at h
 |_::_,[],_,_,_,_,h,_=>by simp at h
 |p::P,w::vs,0,m,nd,Y,h2,hk=>by
  simp at Y h2;subst Y;subst h2;show HF_ bindL p=_;delta bindL;rw[zZ λv hv=>(jm!).1 (WG hv).1,bg_];simp
 |p::P,w::vs,i+1,m,nd,Y,h2,hk=>by
  show HF_ bindL x=_;delta bindL;exact a0a (i:=i) (jm!).2 uj! ui_ hk
def a0c{kindOf:jl!}:∀{P:w_} {vs:n_} {i:δ} {m:U!},P.Nodup->P[i]?=ψ x->vs[i]?=ψ v->kindOf x≠ET! ψ->
  bindC kindOf (P.zip vs) m x=ψ v
 |[],_,_,_,_,h,_,_=>by simp at h
 |_::_,[],_,_,_,_,h,_=>by simp at h
 |p::P,w::vs,0,m,nd,Y,h2,hk=>by
  simp at Y h2;subst Y;subst h2;show HF_ bindC p=_;delta bindC;rw[a0b λv hv=>(jm!).1 (WG hv).1,bh!];simp
 |p::P,w::vs,i+1,m,nd,Y,h2,hk=>by
  show HF_ bindC x=_;delta bindC;exact a0c (i:=i) (jm!).2 uj! ui_ hk
def Ll(N:w_)(vs:r_):St:=vs.map ψ++En! (jn! - bg!) υ
def Ji(CX:AV)(P:zH!)(w:zF!)(K:zR!)(mg:U!)(base:Heap)(N:w_)(qual:Str)(scope:Scope)(f:sS!)(cd:yg!)(A:xy!)(outer:ax_)(s:zP!)(H:Hp)(E:XK):Cx where
 prog:=P
 w:=w
 K:=K
 mg:=mg
 base:=base
 A:=A.deeper gH_
 N:=N
 s₀:=s
 H₀:=H
 env:=Fr_ qual scope f cd
 outer:=outer
 stack:=Fr_ qual scope f cd::outer
 ex:=[]
 calm:=τ
 fn:=λ_=>τ
 pn:=[]
 xe:=λe s'=>wpAny G! (A.deeper gH_) (leaving gH_ e) (λ_ yo=>CX outer H s E e yo) (λe' yo=>CX outer H s E e' yo) s'
def a6r{sc:Scope}(h:ES_ x=ψ .cell):∃c,(cellsFrom n sc.names []).lookup x=ψ c:=by let q:=W.cellsFrom_some sc.names n [] iM!;exact TY.mp q
def b5m{K:zR!}
  (S:Eu N ps scope)(hd:bS!)(e0:nv!)(hl:bg!=P_)(r:eN_)
  (x:EA! InCallC s (Iu_ bindL) uk_ (Iu_ bindC) s1):
  Inv ul! [] gI! H s1:=by
 let ay:P_<=jn!:=by let:=Ki_ S.pre;rw[NV]at this;omega
 let#[Y,tk,rfl,hk]:=x.done;let uv:∀b:Addr,b∉(ul!).ex:=λb z=>Ei_ ul_ c_;exact⟨#[e0.mod,S.kind,χ,χ,LJ _,λy z c Y h2=>?_,λy hy=>?_,λy c _ h=>?_,λ_=>hd,Around.frames_deeper e0.frames,.inr aK_,um_,e0.bs,e0.bsz,λb _ _=>uv b,um_,e0.funs,e0.frf],
  rfl,e0.bare,Un.kept hk,#[_,x.toInCall.ns,λi y v Y h2 h3=>?_],λy c h=>#[_,x.cell y c h],e0.hok.fresh v!,λy c h=>?_,λp hp=>Ei_ (show p∈([]:μ eI!)from hp) c_,e0.hok.kept hk,?_⟩
 .exact name_of_addr x.apart (PV Y) (PV h2)
 .let hy:FV_ y=ψ .cell\/FV_ y=ψ .free:=hy;obtain hy|hy:=hy
  .exact a6r hy
  .exact Ew! (S.nofree _ (PV hy))
 .exact QX un_
 .let hi:i<bg!:=by
   delta Ll at h2;by_cases hi:i<bg!
   .exact hi
   .rw[fa!]at h2;rw[PP]at h2;split at h2<;>cases h2
  let ha:vs[i]?=ψ v:=by
   delta Ll at h2;rw[OJ gI_,MO]at h2;cases e:vs[i]? with
   |none=>rw[e]at h2;rcases h2
   |some a=>rw[e]at h2;cases h2;rfl
  let#[u,hu,rv]:=r.get ha;let hp:ps[i]?=ψ y:=by
   rw[<-S.pre,uo!];exact Y
  let YG:ps.Nodup:=by rw[<-S.pre];exact S.nd.sublist (List.take_sublist _ _)
  exact#[u,rv,?_];obtain k|k:=S.par y (QQ hp)
  .exact .inl #[k,a0a YG hp hu k]
  .let#[c,e]:=a6r (n:=k_+1) k;exact .inr #[.inl k,c,e,?_];let q:=x.cell y c e;rw[a0c YG hp hu (by show scope.names.lookup y≠_;rw[k];decide)]at q;exact q
 .exact e0.hok.fresh (QX un_)
 .delta Ll;show _=jn!;rw[KO,KP,QK];omega
def c9r{K:zR!}{kV:yg!}
  (lk:E8_ f=Fs! up_)(cf:uq_)(S:Eu N ps scope)
  (len:ur!)
  (rm:∀(A:xy!) (outer:ax_) (s:zP!) (H:Hp) (vs:r_) (Q:VK) (E:XK),FL_ scope->GB! E->
   ∃t,H9! nE! t/\t {nx:=λ_ H'=>Q .non H',rt:=Q} gI! H):
  Eh P w K mg base CX R_ f up_ ps sp:=by
 exact#[len,λA outer s H args us vs Q E hr e0 J r kh=>?_];let hl:=Hu_ len kh;let KX:Fb! K.In:=e0.mod.kin.keeps λb o e=>(e0.bs b o e).1;let bz:s.heap.NoLimit:=e0.mod.nolimit.keeps λb o e=>(e0.bs b o e).1;let dq:∀y∈ps.zip us,scope.names.lookup y.1=ET! ψ\/(scope.names.lookup y.1=ψ .cell/\((uk_).lookup y.1).isSome=τ):=by
  rintro⟨n,v⟩ hy;obtain q|q:=S.par n (WG hy).1
  .exact .inl q
  .exact .inr #[q,W.cellsFrom_some _ _ _ (.inl q)]
 exact codeAny_call_function hr.depth (KX _ _ lk) χ S.co S.gen χ (W.codeRec_of KX cf) (J _ _ _ _ ?_);exact wpAny_newFunctionEnv_cells S.kind dq λenv he s1 x=>?_;subst he;exact#[bz.keeps x.toInCall.keep,codeAny_func ?_];let#[t,ht,hq]:=rm A outer s H vs Q E (hr.deeper _) kh;let I:Inv nE! [] gI! H s1:=b5m S hr.hd e0 hl r x;exact OE (ht [] s1 gI! H _ I hq) (λfl s' hs=>?_) λe s' hs=>hs;let fin:∀{ae:St} {H':Hp} {v:V} {u:yg!},Inv nE! [] ae H' s'->Bh v u->Q v H'->Jy_ P:=
  λ{ae H' v u} ag rv q=>#[v,H',ag.os,ag.bare,ag.base,ag.hok,rv,q]
 cases fl with
 |ret u=>
  let#[v,ae,H',ag,rv,q]:=hs;exact fin ag rv q
 |next=>
  let#[ae,H',ag,q]:=hs;exact fin (v:=V.non) (u:=dL_) ag χ q
 |brk=>
  let#[_,_,_,q]:=hs;exact EC_ q
 |cont=>
  let#[_,_,_,q]:=hs;exact EC_ q
section
variable{X:Cx}{id T:String}
def JJ(r:i1!)(t:TA):TE:=λZ H Q=>t Z H λvs H1=>r vs H1 Q
def pE(hc:nF!)(hg:U_)(hm:eP!)(hv:nF_)(ha:gF!)(hn:eP_:=by decide)(bd:D!:=by decide)
  (he:az!:=by rfl)(ay:a1_:=by rfl):PE X bQ! (JJ r t):=by
 show"!G";exact QR (jI I hg hm hv ?_ hn bd);exact PyProof.Rows.callWith_builtin1 (dM gt_ λus s1 ⟨vs,H1,I1,r1,q1⟩=>hc hb s1 Z H1 vs us Q I1 r1 q1) he ay
end
end L2
namespace HT
open PySem PyProof.Rows
nonrec def lexLt:μ Int->μ Int->Bool
 |[],[]=>θ
 |[],_::_=>τ
 |_::_,[]=>θ
 |x::xs,y::ys=>if x=y then lexLt xs ys else decide (x<y)
def lexLt_cons(x y:Int)(xs ys:s_):lexLt e4_ (y::ys)=if x=y then lexLt xs ys else decide (x<y):=χ
def lexLt_nil_nil:lexLt [] []=false:=χ
def vX(y:Int)(ys:s_):lexLt [] (y::ys)=true:=χ
def vY(x:Int)(xs:s_):lexLt e4_ []=false:=χ
def c2d(A:xy!)(s:zP!)(a:Int)(t:Tok)(c:Int)(u:Tok):∃e,Jz! A gK_ nH! e/\(e=τ↔a=c):=
 #[(a==c),UE a t c u,H_]
section
open PySem.SeqAt
open PySem.AutoSeq1 (wpAny_loadPart')
open PySem.MeetsSeq PySem.MeetsSeq2 PySem.MeetsSeq3
end
def cat_tup(ht:KM! t cF_)(J:KM! b ws.toArray)(hv:vs≠[])
  (Y:ws=[]->Q jp_ s)(h2:ws≠[]->Q bv_ {s with heap:=s.heap.push {cls:=.type "tuple",data:=.seq (vs++ws).toArray}})
  (bi:bg!+nJ!<=sizeLine):Kw_ (binaryOp .Add jp_ d3!):=by
 let#[#[cls,dd,data,sl],ho,hc,n,hd]:=id ht;let#[#[YH,oj,data2,ic],kj,i',n2,jj]:=id J;simp only at hc hd i' jj;subst hc hd i' jj;let e:cF_++ws.toArray=(vs++ws).toArray:=by simp
 by_cases hw:ws=[]
 .exact Ex! _
   (F2! tuple_addW1 (ES! hw)) #[ho,kj,Y hw]
 .exact Ex! _
   (F2! tuple_addW2 nK! (by rw[KU,KU];exact bi)) #[ho,kj,?_]
  rw[e];exact h2 hw
nonrec def sIx(n d:δ):Em! Int->δ
 |none=>d
 |some v=>if v<0 then(nL_).toNat else min v.toNat n
def sIx_none(n d:δ):sIx n d υ=d:=χ
def sIx_nat(n d k:δ):sIx n d (ψ (k:Int))=min k n:=by show(if(k:Int)<0 then((k:Int)+(n:Int)).toNat else min (k:Int).toNat n)=min k n;rw[d3_,QV]
def d0r(n d:δ)(hd:d<=n)(o:aF_):sIx n d o<=n:=by
 cases o with
 |none=>exact hd
 |some v=>
  show uw_<=n;by_cases hv:v<0
  .rw[KQ hv];omega
  .rw[LB hv];exact Nat.min_le_right _ _
def b3h(v:Int)(n d:δ):ux!=((sIx n d be!:δ):Int):=by
 show ux!=((uw_:δ):Int);by_cases hv:v<0
 .simp only[KQ hv];omega
 .simp only[LB hv];omega
def b0c(lo hi:aF_)(n:δ):Builtin.Slice.sliceAdjust lo hi 1 (n:Int)=(js!,ux_):=by
 let Y:¬((1:Int)<0):=by omega
 delta Builtin.Slice.sliceAdjust;dsimp only[Y,if_false];exact Prod.ext ?_ ?_
 .cases lo with
  |none=>rfl
  |some v=>exact b3h v n 0
 .cases hi with
  |none=>rfl
  |some v=>exact b3h v n n
def a8c(i j:δ):Builtin.Slice.slicePlaces (i:Int) (j:Int) 1=j - i:=by
 delta Builtin.Slice.slicePlaces;let Y:(1:Int)>0:=by omega
 simp![Y,NR,Int.ediv_one];split<;>omega
def uF(p:IsPart v o)(h:Q o s):Kw_ (Builtin.Slice.slicePartIndex v):=by
 cases p with
 |none=>exact slicePart_none h
 |int i t=>exact slicePart_int h
def qS{lo hi:aF_}{Q:Int×Int×δ->Shared->ν}(hs:uy_)(pl:IsPart vl lo)(pu:IsPart vu hi)
  (h:Q (js!,1,sIx n n hi - sIx n 0 lo) s):Kw_ (Builtin.Slice.sliceApplied js_ (pure (n:Int))):=by
 let#[os,km,rq,hds]:=id hs;delta Builtin.Slice.sliceApplied Builtin.Slice.sliceFields;exact KD! (NG km hds (x:=vl) χ (KG (NG km hds (x:=vu) χ (KG (NG km hds (x:=di!) χ Y_)))));exact Fu_ slicePart_none;show KV! ((1:Int)==0);rw[LB a_];exact KG (uF pl (KG (uF pu (KG Y_))));show wpAny _ _ (match Builtin.Slice.sliceAdjust lo hi 1 (n:Int)with|(lo,hi)=>pure (lo,(1:Int),Builtin.Slice.slicePlaces lo hi 1)) _ _ s;rw[b0c lo hi n];show Ex_ (pure (js!,(1:Int),Builtin.Slice.slicePlaces js! ux_ 1)) s;rw[a8c];exact KJ h
def b8p(xs:b9!)(i k:δ):((uz_).filterMap λ(m:Nat)=>xs[(nO_).toNat]?).toArray=((xs.toList.drop i).take k).toArray:=by
 let e:(λ(m:Nat)=>xs[(nO_).toNat]?)=λm=>xs[i+m]?:=by
  funext m;let:(nO_).toNat=i+m:=by omega
  rw[this]
 rw[e];let:=pick_run xs i k;rw[List.filterMap_map]at this;let e2:((λx=>xs[x]?)∘λx=>i+x)=λm=>xs[i+m]?:=χ;rw[e2]at this;rw[this]
def getItem_tuple_cut{lo hi:aF_}(ht:KM! t am)(hs:uy_)(pl:IsPart vl lo)(pu:IsPart vu hi)
  (hw:¬(sIx am.size 0 lo=0/\sIx am.size am.size hi=am.size))
  (h:Q bv_ {s with heap:=s.heap.push {cls:=.type "tuple",data:=.seq (nP!).toArray}})
  (bi:am.size<=sizeLine):Kw_ (getItem jp_ js_):=by
 let wp:sizeOk (.seq (nP!).toArray):=by
  show(nP!).toArray.size<=sizeLine;rw[KU,NV,OL,OM];exact LX (Nat.min_le_right _ _) (LX (Nat.sub_le _ _) bi)
 let hj:Hr! am.size hi<=am.size:=d0r _ _ v! hi;let#[os,km,rq,hds]:=id hs;let hTs:Hd! js_ "slice":=#[os,km,rq];delta getItem
 try with_reducible exact NB ?_
 first|exact KG Y_|skip
 exact KG (wpAny_sequenceKey ht.typeIs a_ ?_);exact KG (NE (name:=EC! "__getitem__") ht.typeIs SQ
  (NA SQ ht.typeIs entry_tuple_getitem ?_ (args_tuple_getitem _ _)))
 show Ex_ (Builtin.Tuple.tupleItemsOf jp_>>=_) s;exact FU_ tupleItemsOf_ ht;exact FU_ UX hTs;rw[KQ a_];exact KG (qS hs pl pu ?_);let f7:¬(uE_=τ):=by
  intro q;rw[LS,LS]at q;let q1:uF!=0:=eq_of_beq q.1.1;let q2:Hr! am.size hi - Hr! 0 lo=am.size:=eq_of_beq q.2;exact hw #[i!,i!]
 show KV! uE_;rw[LB f7,b8p]
 first
  |exact KG (m:=jw_) (OH jx! wp)
  |exact KG (m:=jw_) (OH (Ia! jx!) wp)
  |exact IP_ (KJ jx!)
  |exact IP_ jx!
end HT
namespace L2
open PySem PySem.Spec PyProof.Rows
abbrev TO:=St->Hp->(ι Int->Hp->ν)->ν
def PO(X:Cx)(e:Em! Expr)(t:TO):Prop:=
 ∀(hb:w!) (s:zP!) (Z:St) (H:Hp) (Q:uH!),mX_ H s->t Z H Q->
  wpAny e_ X.A (evalPart e X.env) (λu s'=>∃o H',Kw! H'/\IsPart u o/\Q o H') X.xe s
def Yp:TO:=λ_ H Q=>Q υ H
def CS(t:TE):TO:=λZ H Q=>t Z H λx H1=>∃i,x=.int i/\Q d5! H1
def wN:∀{us:n_},Av ce_ us->Lx_ us:=by
 induction ns with
 |nil=>intro us r;rw[RH]at r;cases r;exact .nil
 |cons n ns ih=>
  intro us r;rw[LA]at r;cases r with
  |cons r1 r2=>
   let#[t,e]:=r1;subst e;exact .cons n t (ih r2)
section
variable{X:Cx}{lo hi:Option Expr}
def c5k:PO X υ Yp:=by intro hb s Z H Q I h;rw[evalPart_none];exact KJ #[υ,H,I,di!,h]
def c5j(h:cy!):PO X iQ! (CS te):=by intro hb s Z H Q I hw;rw[evalPart_some];exact dM mG! ?_;rintro u s1 ⟨x,H1,I1,r1,q1⟩;let#[i,rfl,q]:=q1;let#[t,rfl]:=r1;exact#[A_,H1,I1,.int i t,q]
def AO(X:Cx)(r:uH_):Prop:=
 ∀(hb:w!) (s:zP!) (Z:St) (H:Hp) (x:V) (v vl vu:yg!) (lo hi:aF_) (sl:sS!) (Q:VK),mX_ H s->Bh x v->s.heap.IsSliceOf sl vl vu .none->IsPart vl lo->IsPart vu hi->r x lo hi H Q->
  ∃T id,Hv! gO! "__getitem__"=pure (ψ fb!)/\Hd! v T/\Kj! (getItem v js_) aR_
def AO.or(h:AO X r)(h':AO X r'):AO X (λx lo hi H Q=>r x lo hi H Q\/r' x lo hi H Q):=by
 intro hb s Z H x v vl vu lo hi sl Q I rx hs pl pu q;obtain q|q:=q
 .exact Kx_ h
 .exact Kx_ h'
def IB(r:uH_)(te:TE)(tl th:TO):TE:=λZ H Q=>te Z H λx H1=>tl Z H1 λl H2=>th Z H2 λu H3=>r x l u H3 Q
def b8u(hr:AO X r)(he:cy!)(hl:PO X lo tl)(hu:PO X hi th):PE X (Lu_ e nQ_) (IB r te tl th):=by intro hb s Z H Q I h;exact IQ! cy_;rintro v s1 ⟨x,H1,I1,r1,q1⟩;exact wpAny_Slice uJ!;rintro vu s3 ⟨u,H3,I3,pu,q3⟩;rw[evalPart_none];exact KJ ?_;let I4:mX_ H3 {s3 with heap:=s3.heap.push {cls:=.type "slice",data:=FS_ vl}}:=I3.kept (t':=s3.toks) λb ob q=>KL _ q;let#[T,id,hT,ht,hg]:=hr hb {s3 with heap:=s3.heap.push {cls:=.type "slice",data:=FS_ vl}} Z H3 x v vl vu l u s3.heap.objs.size Q I4 r1 (Heap.IsSliceOf.new ..) pl pu q3;show zH_ (subscriptTail e nQ_ v (.ref uJ_)) aR_ X.xe {s3 with heap:=s3.heap.push {cls:=.type "slice",data:=FS_ vl}};exact tail_any (ops:=[.ref uJ_,v]) ht hT hg nR_
def Tg(xs:r_)(lo hi:aF_):μ V:=Jo_ nS! nS_
def sR(xs:r_)(lo hi:aF_):(gO_).length<=h_:=by delta Tg;rw[NV,OL];omega
def GL(K:zR!):V->Em! Int->Em! Int->Hp->VK->Prop:=λx lo hi H Q=>∃a xs,x=.ref a/\Hc! Fs/\
 ¬(HT.sIx xs.length 0 lo=0/\HT.sIx xs.length xs.length hi=h_)/\∀p,H p=υ->Gs_ H (.tup gO_)
def d0o:AO X (GL X.K):=by
 intro hb s Z H x v vl vu lo hi sl Q I rx hs pl pu h;let#[a,xs,rfl,hx,hw,q]:=h;subst rx;let#[its,r,ht,hz]:=EH_ hx;let az:bT!=h_:=by rw[KU];exact r.length.symm
 exact#["tuple",_,SQ.lookup,ht.typeIs,?_];exact HT.getItem_tuple_cut ht hs pl pu (zG_ az hw) ?_ (zG_ az hz);rw[az];exact#[fd!,_,I.laid (t':=s.toks) (o:=.tup gO_) nT! v! ?_,χ,q _ gG!];exact#[uL_,_,uM_,IsTup.new _ _]
def AF(K:zR!):R2:=λx y H Q=>∃a b xs ys,x=.ref a/\y=.ref b/\Hc! Fs/\Fs K H b ys/\xs≠[]/\h_+aj_<=sizeLine/\
 (ys=[]->Q N_ H)/\(ys≠[]->∀p,H p=υ->Q cD! (K2! p eG!))
def Av.nil_iff(r:dM!):us=[]↔xs=[]:=by
 cases r with
 |nil=>simp
 |cons _ _=>simp
def c5z:Gj! eZ_ AF:=by intro hb s Z H x y v u Q I rx ry h;let#[a,b,xs,ys,rfl,rfl,ha,J,hx,hz,q1,q2]:=h;subst rx;subst ry;let#[its,r1,p1,_]:=EH_ ha;let#[ja,r2,p2,_]:=EH_ J;exact HT.cat_tup p1 p2 (λz=>hx (r1.nil_iff.mp z)) (λz=>#[bP_,H,I,χ,q1 (r2.nil_iff.mp z)]) (λz=>?_) (by rw[<-r1.length,<-r2.length];exact hz);exact#[fd!,_,I.laid (t':=s.toks) (o:=.tup eG!) nT! v! ?_,χ,q2 (λw=>z (r2.nil_iff.mpr w)) _ gG!];exact#[by rw[KO];exact hz,_,r1.append r2,IsTup.new _ _]
end
def Jz(n:δ)(i:Int):ι Nat:=if 0<=i then(if i<n then ψ i.toNat else υ)else if -(n:Int)<=i then ψ (i+n).toNat else υ
def Ff(xs:aa_)(i:Int):ι α:=(GB_ i).bind λj=>xs[j]?
def b2p(h:Jz n i=ψ j):seqIndex? i n=ψ j/\j<n/\-(n:Int)<=i/\i<n:=by
 delta Jz at h;by_cases h0:0<=i
 .rw[KQ h0]at h;by_cases Y:i<n
  .rw[KQ Y]at h;let e:i.toNat=j:=MQ h;exact#[by rw[seqIndex_of h0 Y,e],i!,i!,Y]
  .rw[LB Y]at h;rcases h
 .rw[LB h0]at h;by_cases Y:-(n:Int)<=i
  .rw[KQ Y]at h;let e:(i+n).toNat=j:=MQ h;exact#[by rw[seqIndex_neg a! Y,e],i!,Y,i!]
  .rw[LB Y]at h;rcases h
def a3b(h:Ff xs i=ψ v):∃j,seqIndex? i h_=ψ j/\xs[j]?=ψ v/\j<h_/\-(h_:Int)<=i/\i<h_:=by
 delta Ff at h;cases e:GB_ i with
 |none=>rw[e]at h;rcases h
 |some j=>
  rw[e]at h;let#[Y,h2,h3,h4]:=b2p e;exact#[j,Y,h,h2,h3,h4]
def Ol(b:Expr):Prop:=∀o i,Ly! b=operate [o,i] (getItem o i)
def Wp(X:Cx)(r:R2):Prop:=
 ∀(value slice:Expr) (hb:w!) (s:zP!) (Z:St) (H:Hp) (x y:V) (v u:yg!) (Q:VK),mX_ H s->Bh x v->Bh y u->Hu! r->
  subscripted slice θ v u=operate [v,u] (getItem v u)->Kj! (subscriptTail value slice v u) aR_
def IU(X:Cx)(id:String)(r:nV!):Prop:=
 ∀(hb:w!) (s:zP!) (Z:St) (H:Hp) (x:V) (xs:r_) (v:yg!) (us:n_) (Q:VK),mX_ H s->Bh x v->Av xs us->r x xs H Q->
  wpAny e_ X.A uR! aR_ X.xe s
section
variable{X:Cx}
def Wp.or(h:Wp X r)(h':Wp X r'):Wp X tw_:=by
 intro value slice hb s Z H x y v u Q I rx ry q hs;obtain q|q:=q
 .exact Ga_ h
 .exact Ga_ h'
def b8z(hr:Wp X r)(ha:aZ!)(J:cw_)(hs:Ol b):PE X nW! i1_:=by intro hb s Z H Q I h;exact IQ! (d4c ha J I h λv u s2 x y H2 I2 rx ry q=>hr a b hb s2 Z H2 x y v u Q I2 rx ry q (hs _ _))
def DM(K:zR!):R2:=λx y H Q=>∃p xs i v,x=.ref p/\y=.int i/\Et K H p xs/\Ff xs i=ψ v/\Q v H
def DJ(K:zR!):R2:=λx y H Q=>∃p xs i v,x=.ref p/\y=.int i/\Fs K H p xs/\Ff xs i=ψ v/\Q v H
def DK:R2:=λx y H Q=>∃z i c,x=.str z/\y=.int i/\aL_<=sizeLine/\Ff z.cps.toList i=ψ c/\Q dj_ H
def b2o:Wp X (DM X.K):=by
 intro value slice hb s Z H x y v u Q I rx ry h hs;let#[p,xs,i,z,rfl,rfl,hq,he,q]:=h;subst rx;let#[t,rfl]:=ry;show"!W";let#[j,Y,h2,h3,h4,h5]:=a3b he;let#[w,ew,a8]:=r.get h2;let hl:=aS!;let hn:=rJ;let fin:E7! w s:=uT_;by_cases h0:0<=i
 .let hj:i.toNat=j:=by
   rw[seqIndex_of h0 h5]at Y;exact MQ Y
  exact H9_ item_listR h0 a! uT! fin hs
 .let hj:(i+(bT!:Int)).toNat=j:=by
   rw[seqIndex_neg a! h4]at Y;rw[KU,<-hl];exact MQ Y
  exact subscriptTail_builtinR (x:=w) pl.isList.typeIs uU!
   (wpAny_getItem_list_neg (Q:=uU_) pl.isList a! uW! a! uT! #[χ,fin]) hs
def d2p:Wp X (DJ X.K):=by
 intro value slice hb s Z H x y v u Q I rx ry h hs;let#[p,xs,i,z,rfl,rfl,hq,he,q]:=h;subst rx;let#[t,rfl]:=ry;let#[its,r,pl,hz]:=EH_ hq;let#[j,Y,h2,h3,h4,h5]:=a3b he;let#[w,ew,a8]:=r.get h2;let hl:=aS!;let hn:=rJ;let fin:E7! w s:=uT_;exact subscriptTail_builtinR (x:=w) pl.typeIs slot_tuple_getitem.lookup
  (getItem_tuple (j:=j) (Q:=uU_) pl a! a! (GQ_ Y) (Ep! ew) #[χ,fin]) hs
def d2q:Wp X DK:=by
 intro value slice hb s Z H x y v u Q I rx ry h hs;let#[z,i,c,rfl,rfl,hz,he,q]:=h;let#[t,rfl]:=rx;let#[t',rfl]:=ry;let#[j,Y,h2,h3,h4,h5]:=a3b he;let hl:nY!=aL_:=by simp[Str.length]
 rw[hl]at Y h4 h5;let hn:=rJ;exact tail_any (typeIs_str s z t) slot_str_getitem.lookup (getItem_str (c:=c) (by
  let e1:decide (i< -(2 ^ 63:Int))=false:=LD a!;let e2:decide (i>=2 ^ 63)=false:=LD a!;rw[e1,e2,Bool.or_false]) (HG! Y h2) #[d6_,H,aZ_,O_,q]) hs
def GP(K:zR!):R2:=λx y H Q=>DM K x y H Q\/DJ K x y H Q\/Hu! DK
def aH:Wp X (GP X.K):=b2o.or (d2p.or d2q)
def a8z(its:n_)(n j:δ)(u:yg!):Obj.mapSeq uY_ {cls:=.type "list",data:=EX_ n}={cls:=.type "list",data:=.seq (its.set j u).toArray n}:=by simp[Obj.mapSeq]
def Inv.lst(I:d_)(h:H p=ψ V!):
  ∃(its:n_) (n:δ),IM_ xs/\rX_ p=ψ {cls:=.type "list",data:=EX_ n}/\h_<=sizeLine:=by
 let#[z,its,n,r,e]:=I.hok p _ h;exact#[its,n,r,e,z]
def Inv.lstUpd{its its':n_}(I:d_)(h:H p=ψ V!)
  (ho:rX_ p=ψ {cls:=.type "list",data:=EX_ n})(hf:f {cls:=.type "list",data:=EX_ n}={cls:=.type "list",data:=.seq its'.toArray n'})(r:Av ys its')(hz:jH!)(t:δ):
  Inv X hb Z (upd H p bT_) {s with heap:=E0! p f,toks:=t}:=by
 let e:(E0! p f).get? p=ψ {cls:=.type "list",data:=.seq its'.toArray n'}:=by
  rw[OQ f ho (by rw[hf]<;>rfl),hf]
 exact I.write (x:=p) (e:=p) (by rw[h];trivial) aw_ (λb u J q=>FF! fe_ q) bB! ?_;exact#[hz,its',n',r,e]
def DD:V->V->V->Hp->mL_->Prop:=λo i v H Q=>∃p xs k j,o=.ref p/\i=.int k/\H p=ψ V!/\GB_ k=ψ j/\Q u3!
def a3q:Wj X DD:=by
 intro hb s Z H o i v ov iv u Q I ro ri rv h;let#[p,xs,k,j,rfl,rfl,hp,hj,q]:=h;subst ro;let#[t,rfl]:=ri;let#[its,n,r,ho,hz]:=I.lst hp;let#[Y,h2,h3,h4]:=b2p hj;let hl:=aS!;let hn:=rJ;let I':mX_ u3! {s with heap:=E0! p (Obj.mapSeq uY_)}:=
  I.lstUpd hp ho (a8z its n j u) (r.set rv j) (zG_ PY hz) s.toks
 by_cases h0:0<=k
 .let hk:k.toNat=j:=by
   rw[seqIndex_of h0 h4]at Y;exact MQ Y
  exact W.ki_setAt ho h0 a! (GQ_ h4) u5!
 .let hk:(k+(bT!:Int)).toNat=j:=by
   rw[seqIndex_neg a! h3]at Y;rw[KU,<-hl];exact MQ Y
  exact W.ki_setBack ho a! (GQ_ h3) a! u5!
def a0k(lo hi:aF_)(n:δ):(nZ_).1=((HT.sIx n 0 lo:δ):Int)/\(nZ_).2.1=((HT.sIx n n hi:δ):Int)/\(nZ_).2.2=1:=by
 exact#[?_,?_,χ]
 .cases lo with
  |none=>simp[sliceBounds,HT.sIx]
  |some i=>
   show"!V"
   .simp only[h,NR]<;>omega
   .simp only[h,NJ]<;>omega
 .cases hi with
  |none=>simp[sliceBounds,HT.sIx]
  |some i=>
   show"!V"
   .simp only[h,NR]<;>omega
   .simp only[h,NJ]<;>omega
def xF(its:n_)(lo hi:aF_):slicePick its.toArray lo hi υ=((its.drop (HT.sIx its.length 0 lo)).take (HT.sIx its.length its.length hi - HT.sIx its.length 0 lo)).toArray:=by let#[Y,h2,h3]:=a0k lo hi bT!;delta slicePick;rw[Y,h2,h3];simp![sliceRange_one,pick_run,KU]<;>rfl
def GN(K:zR!):V->Em! Int->Em! Int->Hp->VK->Prop:=λx lo hi H Q=>∃a xs,x=.ref a/\Hc! Et/\∀p,H p=υ->Gs_ H (.lst gO_)
def c4n:AO X (GN X.K):=by intro hb s Z H x v vl vu lo hi sl Q I rx hs pl pu h;let#[a,xs,rfl,hx,q]:=h;subst rx;let#[its,r,ht,hz]:=FU! hx;let az:=aS!;exact#["list",_,uU!,ht.isList.typeIs,?_];exact wpAny_getItem_list_slice ht.isList hs pl pu .none c_ ?_ uW!;rw[xF,<-az];exact#[fd!,_,I.laid (t':=s.toks) (o:=.lst gO_) nT! v! ?_,χ,q _ gG!];exact#[uL_,_,0,uM_,dS!]
def Lq:V->Bool
 |.non=>τ
 |.bl _=>τ
 |.int _=>τ
 |.str _=>τ
 |_=>θ
def Yf:V->V->Bool
 |.non,.non=>τ
 |.bl a,.bl b=>a==b
 |.bl a,.int b=>u6!==b
 |.int a,.bl b=>a==u6_
 |.int a,.int b=>a==b
 |.str a,.str b=>a==b
 |_,_=>θ
def d3b(ry:Bh y u)(rx:Bh x v)(fy:Lq y=τ)(fx:Lq x=τ):ED! v (Yf y x):=by
 cases y with
 |non=>
  subst ry;cases x with
  |non=>cases rx;exact SeqAt.EqAt.same _
  |bl b=>cases rx;exact SeqAt.EqAt.none_bool b
  |int b=>let#[t,rfl]:=rx;exact SeqAt.EqAt.none_int b t
  |str b=>let#[t,rfl]:=rx;exact SeqAt.EqAt.none_str b t
  |_=>exact KB! jI!
 |bl a=>
  subst ry;cases x with
  |non=>cases rx;exact SeqAt.EqAt.bool_none a
  |bl b=>cases rx;exact SeqAt.EqAt.bool_bool a b
  |int b=>let#[t,rfl]:=rx;exact SeqAt.EqAt.bool_int a b t
  |str b=>let#[t,rfl]:=rx;exact SeqAt.EqAt.bool_str a b t
  |_=>exact KB! jI!
 |int a=>
  let#[t',rfl]:=ry;cases x with
  |non=>cases rx;exact SeqAt.EqAt.int_none a t'
  |bl b=>cases rx;exact SeqAt.EqAt.int_bool a t' b
  |int b=>let#[t,rfl]:=rx;exact UE a t' b t
  |str b=>let#[t,rfl]:=rx;exact SeqAt.EqAt.int_str a t' b t
  |_=>exact KB! jI!
 |str a=>
  let#[t',rfl]:=ry;cases x with
  |non=>cases rx;exact SeqAt.EqAt.str_none a t'
  |bl b=>cases rx;exact SeqAt.EqAt.str_bool a t' b
  |int b=>let#[t,rfl]:=rx;exact SeqAt.EqAt.str_int a t' b t
  |str b=>let#[t,rfl]:=rx;exact SeqAt.EqAt.str_str a t' b t
  |_=>exact KB! jI!
 |_=>exact LT! fy
def Zn(x:V)(u:yg!):Bool:=match u with
 |.none=>Yf .non x
 |.bool b=>Yf aJ! x
 |.int i _=>Yf ay! x
 |.str z _=>Yf (.str z) x
 |_=>θ
def c2c(r:Bh y u)(f:Lq y=τ):Zn x u=Yf y x:=by
 cases y with
 |non=>cases r;rfl
 |bl b=>cases r;rfl
 |int i=>let#[t,rfl]:=r;rfl
 |str z=>let#[t,rfl]:=r;rfl
 |_=>exact LT! f
def b3i(h:dM!):xs.all Lq=τ->us.any gR!=xs.any λy=>Yf y x:=by
 induction h with
 |nil=>exact λ_=>χ
 |cons r _ ih=>
  intro f;rw[RK,LS]at f;rw[QN,QN,c2c r f.1,ih f.2]
def vT(rx:Bh x v)(fx:Lq x=τ):∀{xs:r_} {us:n_},Av xs us->xs.all Lq=τ->∀u∈us,ED! v (Zn x u)
 |_,_,.nil,_=>λu hu=>by exact(KN hu).elim
 |y::xs,u::us,.cons r t,f=>λu' hu=>by
  rw[RK,LS]at f;obtain rfl|hu:=KR.mp hu
  .rw[c2c r f.1];exact d3b r rx f.1 fx
  .exact vT rx fx t f.2 u' hu
def FI(x:V)(xs:r_):Bool:=xs.any λy=>Yf y x
def GR(K:zR!)(neg:Bool):R2:=λx y H Q=>∃p xs,y=.ref p/\(Et K H p xs\/Fs K H p xs)/\Lq x=τ/\xs.all Lq=τ/\FC! (if neg then !FI x xs else FI x xs)
def b4s:J3_ GR:=by
 intro hb s Z H x y v u Q I rx ry h;let#[p,xs,rfl,hq,fx,fs,q]:=h;subst ry;obtain hq|hq:=hq
 .show"!W";exact Iv! gR! u9!;rw[u9_,b3i r fs];exact q
 .show"!v";exact J4! gR! u9!;rw[u9_,b3i r fs];exact q
def HS(K:zR!)(T:String)(x:V)(H:Hp):Prop:=match x with
 |.str _=>T="str"
 |.int _=>T="int"
 |.ref p=>(T="list"/\∃xs,Et K H p xs)\/(T="tuple"/\∃o,K.lookup p=ψ o/\o.cls=.type "tuple"/\o.dict=υ)\/
   (T="dict"/\((∃h1,H p=ψ dU_)\/∃h1,H p=ψ jK!))\/(T="set"/\∃S n,H p=ψ (.set S n))
 |_=>False
def d0h{hb:w!}{Z:St}{H:Hp}{s:zP!}{T:String}(I:d_)(r:Bh x v)(ty:HS X.K T x H):
  s.TypeIs v T/\∀a,v=.ref a->∃ob,rX_ a=ψ ob/\ob.dict=none:=by
 cases x with
 |str z=>
  show"#%";cases (show T="str" from ty);exact#[typeIs_str s z t,vb_]
 |int i=>
  show"#%";cases (show T="int" from ty);exact#[typeIs_int s i t,vb_]
 |ref p=>
  subst r;obtain⟨rfl,xs,hq⟩|⟨rfl,o,hk,hc,hd⟩|⟨rfl,hk⟩|⟨rfl,S,n,hk⟩:=ty
  .let#[its,_,pl,_]:=FU! hq;exact#[pl.isList.typeIs,λa e=>?_];cases e;let#[o,n,e,c,hd,_]:=pl;exact#[o,e,hd]
  .exact#[#[o,I.kIn p o hk,hc],λa e=>?_];cases e;exact#[o,I.kIn _ o hk,hd]
  .let z:∃o,rX_ p=ψ o/\iv_:=by
    obtain⟨h1,hk⟩|⟨h1,hk⟩:=hk
    .show"!s"
    .show"!s"
   let#[o,e,ex]:=z;exact vc_;cases e2;exact vd!
  .let#[o,_,_,_,e,ex,_]:=I.hok p _ hk;exact vc_;cases e2;exact vd!
 |_=>exact EC_ ty
def JK(K:zR!)(T:String)(r:nV!)(to:TE)(t:TA):TE:=λZ H Q=>to Z H λx H1=>HS K T x H1/\t Z H1 λxs H2=>r x xs H2 Q
variable{T id:String}
def yM(pa:PlainAttrs T)(slot:Slot T name id)(wu:typeOf fb!=pure (.type "method_descriptor"))(hm:IU X id r)(ho:PE X o to)(ha:gF!)
  (jb:K2_ name=Ey_ o:=by rfl)
  (jc:((Ia_ t9!).all cH!&&FM! cH_
   &&decide ((aJ_).length+(d7_).length+ff_<30))=true:=by rfl)
  (jd:d8!:=by rfl) (hs:az!:=by rfl) (je:(vf!).any b_=false:=by rfl):
  PE X (Kn_ (Fs_ o name) aJ_) (JK X.K T r to t):=by
 show"!G";exact wpAny_Call_method_late jb jc jd χ sO!;rintro v s1 ⟨x,H1,I1,r1,ty,q1⟩;let#[Y,h2]:=d0h I1 r1 ty;exact#[T,id,pa,slot,wu,Y,h2,?_];let hA:=ha ai hb s1 Z H1 _ I1 q1;rw[hs]at hA ⊢;exact RM (by show(θ||(vf!).any b_)=θ;rw[je]<;>rfl) (RA ?_);exact dM hA λus s2 ⟨vs,H2,I2,r2,q2⟩=>hm hb s2 Z H2 x vs v us Q I2 r1 r2 q2
end
def HJ(X:Cx)(id:String)(r:nV!):Prop:=
 ∀(hb:w!) (s:zP!) (Z:St) (H:Hp) (x:V) (xs:r_) (v:yg!) (us:n_) (Q:VK),mX_ H s->Bh x v->Av xs us->r x xs H Q->
  wpAny e_ X.A uR! aR_ X.xe s
def Av.one(h:Av [x] us):∃u,us=[u]/\Bh x u:=by
 cases h with
 |cons r t=>cases t;exact md_
def Av.rep(h:dM!):∀k:Nat,Av (vh!).flatten (En! k us).flatten
 |0=>.nil
 |k+1=>by
  rw[PX,PX,PU,PU];exact Av.append h (Av.rep h k)
def zI(its:n_):∀(k:δ) (σ:n_),
  List.foldl n7! σ.toArray (En! k bc!)=(σ++(vh_).flatten).toArray
 |0,σ=>by simp
 |k+1,σ=>by
  let e:σ.toArray++bc!=(n8!).toArray:=by simp
  let e2:n8!++(vh_).flatten=σ++(En! R_ its).flatten:=by
   rw[PX,PU,LZ]
  rw[<-e2,<-zI its k n8!,<-e,PX,PZ]
section
variable{X:Cx}
def Inv.lset{its its':n_}{n:δ}{f:vi!}{t':δ}(I:d_)(hH:H l=ψ V!)
  (e:rX_ l=ψ {cls:=.type "list",data:=EX_ n})(hf:f bc!=its'.toArray)(hv:Av ys its')(hz:jH!):
  Inv X hb Z (upd H l bT_) {s with heap:=E0! l vj_,toks:=t'}:=by
 let q:=PySem.IsL.update e f;rw[hf]at q;exact I.write (x:=l) (e:=l) (by rw[hH];exact ο) aw_ (λb' u J hu=>(MM s.heap vj_ fe_).trans hu) #[_,q] ?_;exact#[hz,its',_,hv,q]
def Inv.lnew{its:n_}{t':δ}(I:d_)(hv:IM_ ys)(hz:jH!):
  Inv X hb Z (EA! upd H bT_) {s with heap:=s.heap.push {cls:=.type "list",data:=.seq bc!},toks:=t'}:=
 I.laid vl! v! #[hz,its,0,hv,dS!]
def Inv.fresh(I:d_):H k_=none:=F9_ v!
def Inv.lstM(I:d_)(hH:H l=ψ V!):h_<=sizeLine/\∃(its:n_) (n:δ),IM_ xs/\h_=gT!/\rX_ l=ψ {cls:=.type "list",data:=EX_ n}:=by let#[z,its,n,r,e]:=I.hok l _ hH;exact#[z,its,n,r,aS!,e]
def a4t{n:δ}(h:n9!):IQ_ n=false:=by delta Builtin.List.listTooLong;exact LD a!
def Za:V->μ V->Hp->VK->Prop:=λx vs H Q=>∃l xs y,x=.ref l/\vs=[y]/\H l=ψ V!/\h_<sizeLine/\HP_ (.lst (xs++[y]))
def yX:HJ X "list.append" Za:=by intro hb s Z H x vs v us Q I rx rv h;let#[l,xs,y,rfl,rfl,hH,hz,q]:=h;subst rx;let#[u,rfl,ru]:=rv.one;let#[z,its,n,r,hl,e]:=I.lstM hH;exact VG F.slot_list_append d9_ F.entry_list_append (F.args_list_append_2 _ _) (PySem.list_append l its.toArray n u vm_) jM_;exact#[.non,_,I.lset (its':=its++[u]) hH e c_ (I7! vn_) ?_,χ,q];rw[KO,PF];omega
def Yz:V->μ V->Hp->VK->Prop:=λx vs H Q=>∃l b xs zs,x=.ref l/\vs=[.ref b]/\H l=ψ V!/\H b=o8! zs/\h_+zs.length<=sizeLine/\HP_ vp!
def b5e:HJ X "list.extend" Yz:=by
 intro hb s Z H x vs v us Q I rx rv h;let#[l,b,xs,zs,rfl,rfl,hH,hB,hz,q]:=h;subst rx;let#[u,rfl,ru]:=rv.one;subst ru;let#[z,its,n,r,hl,e]:=I.lstM hH;let#[z2,ja,n2,r2,YI,e2]:=I.lstM hB;let bi:bT!+vp_<=sizeLine:=by rw[KU,KU];omega
 let yp:¬(! nf_&&Builtin.List.listTooLong (bT!+vp_))=true:=by
  rw[a4t bi,UT];exact LU
 exact VG F.slot_list_extend d9_ F.entry_list_extend (F.args_list_extend_2 _ _)
  (AutoSeq1.list_extend_list_list_0 l its.toArray n b ja.toArray n2 yp vm_ a!) #[e,e2,?_]
 exact#[.non,_,I.lset (its':=its++ja) hH e c_ (I7! r2) ?_,χ,q];rw[KO];omega
def GO:R2:=λx y H Q=>∃l k xs,x=.ref l/\y=.int k/\H l=ψ V!/\-(2 ^ 63)<=k/\k<2 ^ 63/\h_*k.toNat<=sizeLine/\
 ∀p,H p=υ->Q cD! (upd H p (.lst (En! k.toNat xs).flatten))
def c6q(xs:aa_)(k:δ):(vh!).flatten.length=k*h_:=by
 induction k with
 |zero=>simp
 |succ k ih=>rw[PX,PU,KO,ih,Nat.succ_mul,Nat.add_comm]
def b9g:Ga X tn_ GO:=by
 intro hb s Z H x y v u Q I rx ry h;let#[l,k,xs,rfl,rfl,hH,Y,h2,hz,q]:=h;subst rx;let#[t,rfl]:=ry;let#[z,its,n,r,hl,e]:=I.lstM hH;let az:bT!*k.toNat<=sizeLine:=by rw[KU,<-hl];exact hz
 let hcap:¬bT!*k.toNat>(2 ^ 63 - 1) / 8:=by
  let:(sizeLine:δ)<=(2 ^ 63 - 1) / 8:=by decide
  omega
 let yq:¬(!Builtin.List.listFitsIndex k)=true:=by
  rw[fitsIndex_both Y h2];exact LU
 let yp:¬IQ_ (bT!*k.toNat)=true:=by
  rw[a4t az];exact LU
 let r9:KV_ (if nf_=τ then 0 else k.toNat)=(En! k.toNat its).flatten.toArray:=by
  let f0:∀m:Nat,KV_ m=(En! m its).flatten.toArray:=λm=>by
   let:=zI its m [];rw[LY]at this;show"#;"
  rw[f0];cases its with
  |nil=>simp
  |cons a r'=>rw[bB_]
 exact wpAny_binaryOp_repeat_ref (T:="list") (U:="int") a_ d9_ (λs'=>typeIs_int s' k t) noFill_list_mul F.fills_int_mul F.slot_int_rmul repeat_list F.slot_int_index.lookup
  (VG F.slot_int_rmul (typeIs_int s k t) F.entry_int_rmul (F.args_int_rmul_2 _ _) (int___rmul___int_list k t l its.toArray n)
   #[e,χ,d9_,VG F.slot_list_mul d9_ F.entry_list_mul (F.args_list_mul_2 _ _) (AutoListH.list___mul___list_int_3 l its.toArray n k t yq hcap yp) jM_])
 rw[r9];exact#[.ref _,_,I.lnew (t':=s.toks) (r.rep k.toNat) (by rw[c6q,Nat.mul_comm];exact hz),χ,q _ I.fresh]
end
section
variable [DecidableEq κ]
def Mg(h1:IM! κ V)(k:κ):ι V:=(h1.find? λkv=>decide (kv.1=k)).map F!
def b6o{k:κ}(e:p.1=k):Mg (p::r) k=ψ p.2:=by simp[Mg,QA,e]
def b6p{k:κ}(e:¬p.1=k):Mg (p::r) k=Mg r k:=by simp[Mg,QA,e]
def Mu.isSome_eq(r:Mu o u):o.isSome=u.isSome:=by
 cases o with
 |none=>cases u with
  |none=>rfl
  |some _=>exact(jb_).elim
 |some _=>cases u with
  |none=>exact(jb_).elim
  |some _=>rfl
def KV.val(r:KV h1 vs)(k:κ):Mu (Mg h1 k) (valueAt vs k):=by
 delta KV at r
 induction r with
 |nil=>exact jd!
 |@cons p q ps qs h t ih=>
  let#[Y,h2]:=h;by_cases e:p.1=k
  .let e':q.1=k:=Y.symm.trans e;let b:valueAt (q::qs) k=ψ q.2:=by simp[valueAt,QA,e']
   rw[b6o e,b];exact h2
  .let e':¬q.1=k:=λz=>e (Y.trans z);let b:valueAt (q::qs) k=valueAt qs k:=by simp[valueAt,QA,e']
   rw[b6p e,b];exact ih
end
def c1a(r:Bh (kV k) u):(bu!).is k u=true:=by
 cases k with
 |inl i=>let#[t,e]:=tT!;subst e;exact a5c P w i t
 |inr x=>let#[t,e]:=tT_;subst e;exact mF P w x t
def rN:∀{ks:μ Key} {us:n_},Av ob! us->ItemsAre bu! ks us
 |[],_,r=>by rw[RH]at r;cases r;exact .nil
 |k::ks,_,r=>by
  rw[LA]at r;cases r with
  |cons h t=>exact .cons (c1a h) (rN t)
abbrev KT(H:Hp):μ me_->μ mf_->Prop:=Paired λp q=>p.1=q.1/\H q.2.1=ψ rE!/\Bh p.2 q.2.2
def d5h(ok:bd!)(e:Rd H a u):J2! H h u:=e.ok ok
def a2d(ok:bd!)(e:H a=EB! ob!):(gc_).is h ks a:=by let#[_,its,r,o,Y,h2,n,h3]:=(IO_ (.tup ob!) ok);exact#[o,bc!,n,Y,h2,h3,by simpa using rN r]
def d6u(ok:bd!)(e:Rd H a jK!):aD!<=sizeLine/\dN!=θ/\
  ∃xs,KT H h1 xs/\h.DictOfH gc_ a xs:=by
 let#[z,y,xs,r,o,es,ep,Y,h2,h3,h4,h5]:=(show Ec P w H h a jK! from d5h ok e);exact#[z,y,xs,r,o,es,ep,Y,h2,h3,h4,aA!,h5];let all:∀{l:μ me_} {m:μ mf_},KT H l m->∀x∈m,(gc_).is h x.1 x.2.1:=by
  intro l m q
  induction q with
  |nil=>intro x hx;exact nomatch hx
  |@cons p q ps qs hq t ih=>
   intro x hx;obtain e|hx:=KR.mp hx
   .subst e;exact a2d ok (by rw[<-hq.1];exact hq.2.1)
   .exact ih x hx
 exact all r x hx
def wS(ok:bd!)(e:H a=ψ jK!):aD!<=sizeLine/\dN!=θ/\
  ∃xs,KT H h1 xs/\h.DictOfH gc_ a xs:=d6u ok (.inl e)
section
variable{X:Cx}
def Inv.big(I:d_):sysModules<k_:=by let h:mainGlobals<k_:=(I.mod.glob.keeps I.bk).lt;exact VT a_ h
def d_write(I:d_)(mu:EV (H a))(hs:vt!)(he:∃q,Es! a=ψ q)(new:EW_ Ec (LV_ ob) h' a ob):
  Inv X hb Z (LV_ ob) {s with heap:=h',toks:=t'}:=
 I.write (x:=a) (e:=a) mu aw_ (λb q J z=>(hs.2 b J).trans z) he new
end
def EU(i:Expr):Prop:=∀ov iv,subscripted i θ ov iv=operate [ov,iv] (getItem ov iv)
def c4i{T id:String}
  (hl:Hv! gO! "__getitem__"=pure (ψ fb!))(hs:EU slice)
  (h:E9! (KG_ value) (λo al=>wpAny n! A (KG_ slice) (λi au=>au.TypeIs o T/\wpAny n! A (getItem o i) Q E au) E al) E s):
  wpAny n! A (KG_ (.Subscript value slice pos)) Q E s:=by
 exact IQ! (OE h (λo al h₁=>OE h₁ (λi au ky=>?_) λ_ _ x=>x) λ_ _ x=>x);let#[hT,ky]:=ky;delta subscriptTail;exact KG ?_;rw[Jz_ hT.not_modules];exact KG (TR hT hl ?_);let fin:E9! (Ly! slice) (λr ez=>wpAny n! A (GU! o) Q E ez) E au:=by
  rw[hs o i];exact wpAny_operating (OE ky (λr ez jk=>KG (IA_ jk)) λ_ _ x=>x)
 first
  |exact KJ jO!
  |exact Ia! jO!
  |exact KG fin
structure M1(X:Cx)(o:Expr)(m:Str)(a9:Pos)(e:Expr)(ai:Pos):Prop where
 base:K2_ m=Ey_ o
 few:(Hd_ jO_&&FM! cH_
  &&decide (GN! [e]))=τ
 line:n5_=τ
 trees:Ia_ vv_=[dX_]
structure M2(X:Cx)(o:Expr)(m:Str)(a9:Pos)(e f:Expr)(ai:Pos):Prop where
 base:K2_ m=Ey_ o
 few:((Ia_ vx!).all cH!&&FM! cH_
  &&decide (GN! [e,f]))=τ
 line:n5_=τ
 trees:Ia_ vx!=[dX_,(θ,eval f X.env)]
end L2
namespace Att
open PySem PySem.W PySem.Calls PyProof.Rows
def sY:∀(ns:s_) (vs:n_),WellAll P h vs vz_->Lx_ vs:=by
 intro ns
 induction ns with
 |nil=>
  intro vs w;rw[RH]at w;cases w;exact .nil
 |cons n ns ih=>
  intro vs w;rw[LA]at w;cases w with
  |cons a b=>
   cases a;exact .cons _ _ (ih _ b)
def b4a{l:OpenLaw}(hn:jP!)
  (wv:l.row.toRowW.claim.pre args=τ)(yr:WellAll P h yt args):
  ∃a vs ns,yt=[Value.ref a]/\args=[WData.list vz_]/\h.get? a=ψ {cls:=.type "list",data:=.seq cF_}/\Lx_ vs/\dd!<=n:=by
 let hsh:WShape.hasAll [] args [.list .int]=true:=(vB!).1;let hc:l.pre.holds [] {args:=args}=true:=(vB!).2;let#[d,r,rfl,Y,h2]:=hasAllW_cons hsh;obtain rfl:=hasAllW_nil h2;let#[xs,rfl,h3]:=hasW_list Y;let#[ns,rfl]:=items_int h3;let az:dd!<=n:=by
  delta OpenLaw.pre at hc;let h4:(WTm.not (.lt (.lit (.int (n:Int))) (.len (.arg 0)))).holds [] {args:=[.list jP_]}=true:=by
   let h4:=(holds_andW hc).1;rw[hn]at h4;exact h4
  let h5:=condW_of h4 (w_not (w_lt w_lit (w_len_list (w_arg χ))));rw[KP]at h5;exact Nat.le_of_not_lt λq=>?_;let q':(n:Int)<((dd!:δ):Int):=by omega
  first
   |(rw[LM q']at h5;exact Ei_ h5 a_)
   |(simp at h5;omega)
 cases yr with
 |cons w1 w2=>
  cases w2;cases w1 with
  |list ho mf=>exact#[_,_,ns,χ,χ,ho,sY ns _ mf,az]
def b4i(l:OpenLaw)(args:μ WData):l.row.toRowW.claim.post args fh_ args=true:=
 postW_of (r:=l.row.toRowW) (X:=(τ==τ))
  (show WShape.has [] fh_ .bool=τ by first|rfl|decide|simp[WShape.has,WShape.arms,WShape.armsAll])
  (show(WTm.eq .res (.lit fh_)).value [] {args:=args,res:=ψ fh_,after:=args}=ψ (.bool (τ==τ))from w_eq_bool (w_res χ) w_lit) χ
def a6w{l:OpenLaw}
  (hn:jP!)(uw:od_)
  (call:∀(w:zF!) (s₀ al:zP!) (mg mb:U!) (fa:sS!) (o:Obj) (pm cd b7:yg!) (a:sS!) (vs:n_) (ns:s_),
   Ground q yu [] XP w s₀ mg mb al.heap->YP w al.heap->
   al.heap.get? fa=ψ o->o.data=.func (docDef d.name d.params d.body d.scope pm cd b7)->al.heap.CodeRec cd d.name->mg d.name=ψ fi!->
   al.heap.get? a=ψ {cls:=.type "list",data:=.seq cF_}->Lx_ vs->dd!<=n->al.gens=#[]->
   codeAny (model l.prog w) callerA oe_ of! al):
  WalkO q yu XP YP l.row.toRowW d [] of_:=by
 intro w s₀ al mg mb G jl fa o pm cd b7 dV kV ho hd cf hD mh hg args yt as wv hlay hrd yr hlo;obtain rfl:dV=.none:=Dflts.none hD uw;obtain rfl:kV=.none:=Dflts.noKw hD;let#[a,vs,ns,rfl,rfl,yw,hints,az]:=b4a hn wv yr;exact enter_call (UD (call w s₀ al mg mb fa o pm cd b7 a vs ns G jl ho (fd_plain hd) cf mh yw hints az hg) λr s' hq=>?_);let#[rfl,h2,h3,h4]:=hq;exact#[.inl #[og_,og_,[],χ,cC!,og_,b4i l _,λ_=>#[jQ!,λ_ hm=>(nomatch hm)]],h2,h3,h4]
section
variable{K:Frag}
end
end Att
namespace L2
open PySem PySem.Spec PyProof.Rows
def b3r(h:Lx_ vs):Av ce_ vs:=by
 induction h with
 |nil=>exact .nil
 |cons n t h ih=>exact Hb! dl_
def Zs(H:Hp):Prop:=∀b,H b=υ\/∃o xs,H b=ψ (.frz o V!)
def c0r{K:zR!}
  (KX:K.In al.heap)(de:EG! al.heap.Ns)(J:al.heap.Ns builtinsNs mb)(hbb:∀x:Str,x≠"__name__"->mb x=Es_ x)(hlim:al.heap.NoLimit)(hg:al.gens=#[])
  (ha:JA! a=ψ {cls:=.type "list",data:=.seq cF_})(hi:Lx_ vs)(hl:tN!)(hr:oh!)
  (F:∀base:Heap,K.In base->EG! base.Ns->gs! Eh CX k fa fd [x] sp)(hbind:∀(s:zP!) (u:yg!),Gn_ x)
  (kh:∀H:Hp,Zs H->IR! K->sp bh_ H jR! λ_ _ _=>False)
  (ux:∀H e s',CX [] H al jR_ e s'->False):
  codeAny G! callerA oe_ of! al:=by
 let rv:=b3r hi;let lenV:=hi.length;let YJ:∀H:Hp,Zs H->IR! K->Kt P w H al.heap->(∀b,H b≠υ->b=a)->(H a≠υ->K.lookup a=υ)->
   codeAny G! callerA oe_ of! al:=by
  intro H hO hS hok hA hK;let YK:∀{b:sS!} {o:Obj},JA! b=ψ o->H b=υ->Hb_ gW!=ψ o:=λe n=>c1o e n;let uv:∀{b:sS!} {o:Obj} {es:jS_} {ep:δ},JA! b=ψ o->o.data=I4! es->H b=none:=λ{b o es ep} e d=>by
   cases q:H b with
   |none=>rfl
   |some u=>
    let e':b=a:=hA b cL_;subst e';rw[ha]at e;rcases e;let d':Data.seq vs.toArray _=Data.dict es ep:=d;cases d'
  let ww:∀{b:sS!} {m:U!},al.heap.Ns b m->(gW!).Ns b m:=λ{b m} ⟨o,es,ep,e,d,r⟩=>#[o,es,ep,YK e (uv e d),d,r];let YL:K.In gW!:=λb o e=>YK (KX b o e) (by
   cases q:H b with
   |none=>rfl
   |some u=>
    let e':b=a:=hA b cL_;subst e';rw[hK cL_]at e;rcases e)
  let hM:Mod K mg gW!:=#[YL,ww de,#[mb,ww J,hbb],by let#[mc,Y,h2]:=hlim;exact#[mc,ww Y,h2]];let e0:Pw P w K mg gW! callerA [] al H:=#[χ,hM,λb o e=>c6h e,QI (b5p _ _),ο,λb J=>ξ (show b∈um! from J) c_,hok,.of_eq hg];exact UD ((F _ YL (ww de)).run callerA [] al H oe! bh_ bh_ _ _ hr e0 (hbind al N_) uc_ (kh H hO hS)) λr s' h=>?_;cases r with
  |error e=>exact(ux H e s' h).elim
  |ok fl=>
   cases fl with
   |next=>exact EC_ h
   |brk=>exact EC_ h
   |cont=>exact EC_ h
   |ret u=>
    let#[v,H',os,bare,un,hok',r',q]:=h;let q':v=.bl true:=q;subst q';obtain rfl:u=Value.bool true:=r';exact#[χ,OldK.of_keep λb o e=>?_,os,bare];cases q:H b with
    |none=>exact un.keep b o e q (by intro z;exact ξ ul_ c_) c_
    |some u=>
     obtain z|⟨ob,xs,z⟩:=hO b
     .rw[q]at z;rcases z
     .let z2:=un.frzs b ob _ z;let#[e1,_]:=hok b _ z;let#[e2,_]:=hok' b _ z2;rw[e]at e1;rcases e1;exact e2
 cases hk:E8_ a with
 |some o=>
  let e:=KX a o hk;rw[ha]at e;rcases e;exact YJ no_ (λ_=>.inl χ) (.inr #[_,cF_,_,hk,χ,χ,χ,by rw[KU,lenV];exact hl,by simpa using rv]) (λb u z=>by let z':(none:ι HO)=ψ u:=z;rcases z') (λb z=>ξ χ z) λz=>Ew! z
 |none=>
  exact YJ (λb=>if b=a then ψ (.frz {cls:=.type "list",data:=.seq cF_} (.lst ce_))else υ) (λb=>?_) (K3! #[{cls:=.type "list",data:=.seq cF_},y_]) (λb u z=>?_) (λb z=>?_) λ_=>hk
  .by_cases J:b=a
   .exact .inr #[_,_,KQ J]
   .exact .inl (LB J)
  .by_cases J:b=a
   .let z':=(KQ J).symm.trans z;rcases z';subst J;exact#[ha,vQ_,vs,_,rv,ha]
   .let z':=(LB J).symm.trans z;rcases z'
  .by_cases J:b=a
   .exact J
   .exact Ei_ (LB J) z
def c4f{l:W.OpenLaw}{K:vS!}{CX:World->AV}{sp:World->Sp}
  (hn:jP!)(ji:n9!)(uw:od_)(hr:oh!)
  (hY:vS_)
  (F:∀(w:zF!) (mg:U!) (fa:sS!) (h:Heap),I7_ h->EG! h.Ns->mg d.name=ψ fi!->
   ∃fd:FuncData,vT!/\
    ∀base:Heap,I7_ base->EG! base.Ns->G0! (CX w) (sp w))
  (kh:∀(w:zF!) (H:Hp) (a:sS!) (ns:s_),dd!<=n->Zs H->IR! bV_->sp w bh_ H jR! λ_ _ _=>False)
  (ux:∀(w:zF!) (H:Hp) (s:zP!) (e:yg!) (s':zP!),CX w [] H s jR_ e s'->False):
  W.WalkO q yu XP YP l.row.toRowW d [] of_:=by
 exact Att.a6w hn uw λw s₀ al mg mb fa o pm cd b7 a vs ns G jl ho hd cf mh yw hints az hg=>?_;let KX:=hY w _ jl;let#[fd,J,hF]:=F w mg fa _ KX G.T.g mh;exact c0r KX G.T.g G.T.b G.T.builtins G.T.nolimit hg yw hints (LX az ji) hr hF J (λH hO hS=>kh w H a ns az hO hS) λH e s'=>ux w H al e s'
def b6m{l:W.OpenLaw}{n k:δ}{XP:(Str->ι Value)->Heap->ν}{YP:World->Heap->ν}{d:DefRec}{K:vS!}{CX:AV}{sp:W.Frag->Sp}
  (hn:jP!)(ji:n9!)(uw:od_)(hr:oh!)
  (hY:vS_)
  (F:∀(w:zF!) (mg:U!) (fa:sS!) (h:Heap),I7_ h->EG! h.Ns->mg d.name=ψ fi!->
   ∃fd:FuncData,vT!/\
    ∀base:Heap,I7_ base->EG! base.Ns->G0! CX (sp bV_))
  (kh:∀(K:zR!) (H:Hp) (a:sS!) (ns:s_),dd!<=n->Zs H->IR! K->sp K bh_ H jR! λ_ _ _=>False)
  (ux:∀(H:Hp) (s:zP!) (e:yg!) (s':zP!),CX [] H s jR_ e s'->False):
  W.WalkO q yu XP YP l.row.toRowW d [] of_:=
 c4f (K:=K) (CX:=λ_=>CX) (sp:=λw=>sp bV_) hn ji uw hr hY F (λw H a ns Y h2 h3=>kh bV_ H a ns Y h2 h3) λ_ H s e s'=>ux H s e s'
def Es(s:Stmt):Arguments:=match s with
 |.FunctionDef _ a _ _ _ _ _ _ _ _=>a
 |_=>{posonlyargs:=[],args:=[],vararg:=υ,kwonlyargs:=[],kw_defaults:=[],kwarg:=υ,defaults:=[]}
def Ci(s:Stmt):μ Stmt:=match s with
 |.FunctionDef _ _ b _ _ _ _ _ _ _=>b
 |_=>[]
def Aj(s:Stmt):Scope:=match s with
 |.FunctionDef _ _ _ _ _ _ sc _ _ _=>sc
 |_=>{kind:=.function,names:=[],isGenerator:=θ,isCoroutine:=θ}
abbrev Nr:AV:=λ_ _ _ _ _ _=>False
abbrev E0:XK:=λ_ _ _=>False
def sI:Jk Nr X E0:=λ_ _ _ _ _ _ _ h=>h.elim
structure Ya(K:zR!)(x qual:Str)(st:Stmt)(f:sS!)(fd:FuncData):Prop where
 ex:∃(oc:yg!) (od:ec!) (kV b7 pm:yg!) (an:ec!) (ah ct:yg!) (jy:ol!),
  fd=W.fnOf x qual jT_ bC_ bj! .none kV b7 pm an ah ct/\E8_ f=Fs! fd/\W.codeIn K ah qual=τ
 kp:FA! K ai!=τ
section
variable{K:zR!}
def Ya.ok{st:Stmt}(F:vU!)(S:dm_)(len:ur!)
  (rm:∀(ah:yg!) (A:xy!) (outer:ax_) (s:zP!) (H:Hp) (vs:r_) (Q:VK) (E:XK),FL_ bj!->GB! E->
   ∃t,Nq (Ji Nr P w K mg base N qual bj! f ah A outer s H E).nox bC_ t/\t {nx:=λ_ H'=>Q .non H',rt:=Q} gI! H):KU_ Nr R_:=by
 show"!J";exact c9r lk cf S len λA outer s H vs Q E hr kh=>?_;let#[t,h,q]:=rm ah A outer s H vs Q E hr kh;exact#[t,h.nox,q]
def Ya.binds{st:Stmt}(F:vU!)
  (h:vV!):EP_ K:=by
 show"!J";exact .all (h kV b7 pm an ah ct)
def oH{st:Stmt}{kV:yg!}(l:E8_ f=ψ vW!)
  (c:uq_)(k:FA! K ai!=τ):Ya K x qual st f ol_:=#[#[oc,od,kV,b7,pm,an,ah,ct,jy,χ,l,c],k]
end
def b3w(h:n<=1000):n<sizeLine:=NK h a_
def lM{A B:ν}(h:B):if θ=τ then A else B:=by rw[LB LU];exact h
def kX{A B:ν}(h:A):if τ=τ then A else B:=by rw[y_];exact h
def Ax(H H':Hp):Prop:=∀b o,H b=ψ o->H' b=ψ o
def Ax.refl(H:Hp):Ax H H:=λ_ _ h=>h
def Ax.trans(a:Ax H H1)(b:Ax H1 H2):Ax H H2:=λc o h=>b c o (a c o h)
def Ax.free(e:fj!)(h:H' l=om!):H l=om!:=by
 cases q:H l with
 |none=>rfl
 |some o=>
  rw[e l o q]at h;rcases h
def Ax.seq{K:zR!}(e:fj!)(h:Hc! Et):Et K H' a xs:=by
 rcases h with(h|⟨o,h⟩)|h
 .exact vX_
 .exact vY!
 .exact .inr h
def Inv.track{D:sS!}(I:d_)
  (hD:rX_ D=ψ {cls:=.type "list",data:=.seq us.toArray n})(r:Av ys us)(hz:jH!)(hn:H D=υ)(hs:dO_<=D)(hL:D≠X.env.locals)
  (hc:∀x c,Ax! x=ψ c->c≠D)(hp:∀p∈X.pn++hb,p.1≠D):mX_ (upd H D bT_) s:=by
 let ne:∀b u,H b=ψ u->b≠D:=λb u e=>cO e hn;exact I.step (ch:=[D]) iF! (λb o _ _ _ e _=>e) (λb o _ _ _ e _=>v0!) (λb o hc e n=>?_) (λb o _ e=>#[o,e])
  (λb xs e=>by rw[on!];exact e) (λb o u e=>by rw[on!];exact e) (λb ps e=>F2_ on! e) on_ r8_ I.bare
 .let e:b=D:=by simpa using J
  subst e;exact#[.inr hs,hL,hc,hp]
 .rw[oo!];exact n
 .by_cases J:b=D
  .show"!u";exact#[hz,us,n,r,hD]
  .rw[bC J]at e;exact(mu_).stay oo_ (λc q=>by rw[bC (ne c _ q)];exact q) λc xs q=>by rw[bC (ne c _ q)];exact q
nonrec def closOf(cells:cg!):μ v1!->μ fj_->μ fj_
 |[],σ=>σ
 |(n,k)::r,σ=>if k==.free then HG_ r ((n,(cells.lookup n).getD 0)::σ)else HG_ r σ
structure Zv(X:Cx)(scope:Scope)(cl:cg!):Prop where
 eq:closureFor scope X.env=pure cl
 sub:∀x c,cl.lookup x=ψ c->Ax! x=ψ c
 all:∀x,FV_ x=ψ .free->∃c,cl.lookup x=ψ c
def rY:∀(names:fk!) (σ:cg!),(GC! env.cells.lookup)->
  (forIn names σ λx r=>(match x with|(name,kind)=>if(kind==gZ_)=true then(do let a <-cellOf env name;pure v1_)else pure jU_:Sem v2_))=(pure (closOf env.cells names σ):Sem (List fj_))
 |[],σ,_=>rfl
 |(n,k)::r,σ,h=>by
  rw[RI];cases hk:(k==gZ_)with
  |true=>
   let#[c,hc]:=h (n,k) KM v4!;let cy:env.cells.lookup n=ψ c:=hc;let e:cellOf env n=pure c:=by delta cellOf;rw[cy]
   let ih:=rY r ((n,c)::σ) λp hp=>h p jV!;let e2:Gj_ ((n,k)::r) σ=Gj_ r ((n,c)::σ):=by
    show v5!;rw[bg_,cy];rfl
   rw[e2,<-ih];simp![hk,NR,e];rfl
  |false=>
   let ih:=rY r σ λp hp=>h p jV!;let e2:Gj_ ((n,k)::r) σ=Gj_ r σ:=by
    show v5!;rw[KD_ hk]
   rw[e2,<-ih];simp![hk];rfl
def oM(cells:cg!):∀(names:fk!) (σ:cg!),(GC! cells.lookup)->(∀p∈σ,cells.lookup p.1=ψ p.2)->∀p∈closOf cells names σ,cells.lookup p.1=ψ p.2
 |[],_,_,h=>h
 |(n,k)::r,σ,hn,h=>by
  delta closOf;split
  .rename_i hk;let#[c,hc]:=hn (n,k) KM v4!;exact Ib! oM v6_ λp hp=>?_;obtain rfl|hp:=KR.mp hp
   .let cy:cells.lookup n=ψ c:=hc;rw[cy];rfl
   .exact h p hp
  .exact Ib! oM v6_ h
def oO(cells:cg!):∀(names:fk!) (σ:cg!) (x:Str),(∃c,(x,c)∈σ)->∃c,(x,c)∈HG_ names σ
 |[],_,_,h=>h
 |(n,k)::r,σ,x,h=>by
  delta closOf;split
  .exact Ib! oO x (by let#[c,hc]:=h;exact#[c,KI _ hc])
  .exact Ib! oO x h
def oN(cells:cg!):∀(names:fk!) (σ:cg!) (x:Str),(x,gZ_)∈names->∃c,(x,c)∈HG_ names σ
 |[],_,_,h=>nomatch h
 |(n,k)::r,σ,x,h=>by
  delta closOf;obtain h|h:=KR.mp h
  .cases h;rw[KQ fk_];exact Ib! oO _ #[_,KM]
  .split
   .exact v7_
   .exact v7_
def nR:∀{l:IM! Str β} {x:Str} {c:β},(x,c)∈l->∃d,l.lookup x=ψ d
 |[],_,_,h=>nomatch h
 |(n,k)::r,x,c,h=>by
  cases hx:(x==n)with
  |true=>exact#[k,by simp[NU,hx]]
  |false=>
   obtain h|h:=KR.mp h
   .cases h;simp at hx
   .let#[d,hd]:=nR h;exact#[d,by simp[NU,hx,hd]]
def b3g(h:∀p∈ch!,p.2=.free->∃c,X.env.cells.lookup p.1=ψ c):∃cl,Zv X scope cl:=by
 exact#[closOf X.env.cells scope.names [],?_,ms_,λx e=>?_]
 .let e:=rY scope.names [] h;dsimp only[closureFor];rw[show(forIn scope.names ([]:List fj_) λx r=>(match x with|(name,kind)=>if(kind==NameKind.free)=true then(do let a <-cellOf X.env name;pure v1_)else pure jU_:Sem v2_))=pure (closOf X.env.cells scope.names [])from e];rfl
 .exact Iv_ oM h r5! (x,c) (PV e)
 .let#[c,hc]:=Iv_ oN x (PV e);exact nR hc
def Me(X:Cx)(scope:Scope)(cl:cg!)(C:sS!)(N:w_)(au:zP!)(bo:Hp)(fp:bd_):Cx:=
 {X with N:=N,s₀:=au,H₀:=bo,env:=I8! C,outer:=X.stack,stack:=X.stack,ex:=fp,fn:=λ_=>θ,pn:=[],xe:=λ_ _=>False}
def mJ{env:Env}:∀{names:fk!} {x:Str},(∀y∈names,y.2≠.cell)->
  (HE_ jW_ x=ψ .cell\/
     (jW_).lookup x=ψ .free)->names.lookup x=ψ .free
 |[],_,_,h=>by simp at h
 |(n,k)::r,x,hc,h=>by
  let ih:=@mJ env r x λy hy=>hc y ec_;let hk:=hc (n,k) KM;rw[LA]at h;by_cases hf:or_=τ
  .simp only[hf,NR]at h;cases hx:x==n with
   |true=>
    simp![NU,hx];simp![LS,OT]at hf;rw[hf.1.1]
   |false=>
    simp![NU,hx]at h ⊢;exact ih h
  .simp only[hf]at h;cases hx:x==n with
   |true=>
    simp![MJ,NJ,NU,hx]at h ⊢;obtain h|h:=h
    .rcases h;exact Ew! hk
    .exact h
   |false=>
    show"#1";exact ih h
def mK{env:Env}:∀{names:fk!} {x:Str},names.lookup x=ψ .free->
  (HE_ jW_ x=ψ .cell\/
     (jW_).lookup x=ψ .free)
 |[],_,h=>by simp at h
 |(n,k)::r,x,h=>by
  let ih:=@mK env r x;rw[LA];by_cases hf:or_=τ
  .simp only[hf,NR];cases hx:x==n with
   |true=>exact .inl (by simp[NU,hx])
   |false=>
    simp![NU,hx]at h ⊢;exact ih h
  .simp only[hf];cases hx:x==n with
   |true=>
    show"#1";exact .inr h
   |false=>
    show"#1";exact ih h
structure Cd(X:Cx)(scope:Scope)(NF:w_)(ix:o!):Prop where
 len:NF.length=ix.length
 at_:∀(k:δ) (x:Str),NF[k]?=ψ x->∃j,ix[k]?=ψ j/\X.N[j]?=ψ x/\FV_ x=ψ .free/\rX!
def Cd.nil:Cd X scope [] []:=#[χ,λk x e=>by simp at e]
def Cd.cons(h:do!)(Y:wd!:=by rfl)(h2:scope.names.lookup x=some .free:=by rfl)
  (h3:HE! x=ψ .cell\/HE! x=ψ .free:=by first|exact Or.inl χ|exact Or.inr χ):Cd X scope (x::NF) (j::ix):=
 ⟨by simp[h.len],λk y e=>by
  cases k with
  |zero=>simp at e;subst e;exact#[j,χ,Y,h2,h3]
  |succ k=>simpa using h.at_ k y c6_⟩
def Np(nl:δ)(ix:o!)(Z:St):St:=En! nl υ++ix.map λj=>(Z[j]?).join
def d3q
  (dq:do_)(db:dp!)(b9:ot_)(I2:os_)(f2:ot!)(flt:wf!)(hC:W_<=C):
  (IR_ N).Ok where
 mod:=I2.ok.mod
 kind:=dq
 glob:=I2.ok.glob
 blt:=I2.ok.blt
 above:=hC
 inj:=λx y c Y h2=>I2.ok.inj x y c (b9.sub x c Y) (b9.sub y c h2)
 has:=λx h=>b9.all x (mJ db h)
 cab:=λ_ _ h=>nomatch h
 hd:=I2.ok.hd
 frames:=I2.ok.frames
 stk:=.inl χ
 exf:=λb J=>#[MN (LQ jX_ hC),λx c h=>(dT!).2.2.2.2.1 x c g2_]
 bs:=I2.bs
 bsz:=LX I2.ok.bsz I2.sz
 noex:=λb o e J=>by
  obtain z|z:=(dT!).2.2.2.1
  .exact I2.ok.noex b o e z
  .exact Ku_ c8_ (LX I2.ok.bsz z)
 exfs:=λb J hf=>by
  let#[_,f1,f3,_]:=f2 b J;obtain z|z:=G0_ hf
  .exact f1 z
  .exact f3 z
 funs:=I2.stack
 frf:=I2.stkFree
def c1j{D:sS!}
  (dq:do_)(db:dp!)(b9:ot_)(cap:do!)(I2:os_)(f2:ot!)(flt:wf!)
  (hC:W_<=C)(hD:W_<=D)(kz:D≠C)(old:∀b u,s2.heap.get? b=ψ u->h₁.get? b=ψ u)(hn:h₁.Ns C m)(ym:h₁.get? D=ψ oD)(yn:∀v,oD.data≠.cell v):
  Inv (IR_ g3!) (cM!++[(D,oD)]) ou! H2 {s2 with heap:=h₁,toks:=t}:=by
 exact#[d3q dq db b9 I2 f2 flt hC,χ,I2.bare,Un.kept old,#[m,hn,r3_],λx c h=>?_,I2.hok.fresh hC,λx c h=>I2.freeC x c g2_,cv_,I2.hok.kept old,?_]
 .let YM:g3![i]?=ψ x:=e1;delta Np at e2;by_cases hi:i<NL.length
  .rw[OJ gI_,PP]at e2;rw[KQ hi]at e2;cases e2
  .rw[fa!,MO,QK]at e2;rw[fa!]at YM;let#[j,hj,hN,hf,hk]:=cap.at_ _ _ YM;rw[hj]at e2;let wx:(Z[j]?).join=ψ v:=MQ e2;let e4:Z[j]?=ψ be!:=by
    cases q:Z[j]? with
    |none=>rw[q]at wx;rcases wx
    |some o=>rw[q]at wx;exact KU! wx
   let#[m2,_,hl]:=I2.loc;let hv:H8! Wh x:=hk.elim (λz=>.inr cM_) λz=>.inr g3_;let#[u,r,l]:=hl j x v hN e4 hv;exact#[u,r,.inr ?_];obtain⟨k,_⟩|⟨_,c,hc,z⟩:=l
   .obtain z|z:=hk
    .rw[z]at k;cases k
    .rw[z]at k;cases k
   .let#[c',cy]:=b9.all x hf;let e5:=b9.sub x c' cy;rw[hc]at e5;rcases e5;let#[o,ho,hd]:=z;exact#[mK hf,c,cy,#[o,old _ _ ho,hd]]
 .let#[v,o,ho,hd]:=Ib_ g2_;exact#[v,o,old _ _ ho,hd]
 .let YN:∀b,b≠X.env.locals->b∉X.fs->b∉I4_ frs:=λb Y h2 h3=>(G0_ h3).elim Y h2;let bn:p∈cM!++[(D,oD)]:=by simpa[Me]using hp
  obtain bn|bn:=KS.mp bn
  .let#[e,n,ne,nf,d]:=I2.pin p bn;exact#[old _ _ e,n,MN (LQ c8_ hC),YN _ ne nf,d]
  .let e:p=(D,oD):=by simpa using bn
   subst e;exact#[ym,I2.hok.fresh hD,kz,YN _ (QH (LQ I2.lt hD)) (I2.nofs hD),yn]
 .show(ou!).length=(g3!).length;delta Np;rw[KO,KO,KP,QK,cap.len]
def a2v(I:δ->Shared->ν)
  (hE:∀e s',E e s'->notedBy n! A env (λe s'=>R (.error e) s') e s')
  (turn:∀n s,I n s->E9! (pyNext it) (λr al=>match r with
   |none=>R (.ok .next) al
   |some v=>E9! (letOwnedTupleGo wj it v) (λ_ YO=>E9! (assign wj env v) (λ_ au=>
     wpAny n! A (forIn fh true λc r=>if r=true then do let ok <-isTrue c env (eval c env);pure wm_ else pure jU_) (λok ez=>
      if ok=τ then E9! (KG_ gc) (λx wy=>
       wpAny n! A (LU_ "list.append" [σ,x]) (λ_ YQ=>∃m,m<n/\I m YQ) E wy) E ez
      else∃m,m<n/\I m ez) E au) E YO) E al) E s)
  (n:δ) (h:I n s):codeAny n! A (.compLoop (.ListComp gc [#[wj,iter,fh,0]] scope pos) 0 it σ env) R s:=by
 exact codeAny_loop χ I (λn s hI=>?_) n h;exact wpAny_noted ?_;rw[compTurn_list];exact KG (UN (KG (OE (turn n s hI) (λr al h₁=>?_) hE)));cases r with
 |none=>exact KJ h₁
 |some v=>
  exact KG (OE h₁ (λ_ YO h₁'=>?_) hE);exact KG (OE h₁' (λ_ au ky=>KG (OE ky (λok ez jk=>?_) hE)) hE);cases ok with
  |false=>exact KJ #[χ,jk]
  |true=>
   exact KD! (OE jk (λx wy k8=>KG (OE k8 (λ_ YQ mi=>KJ (KJ #[χ,mi])) hE)) hE)
def Oe(X:Cx)(fh:c9_)(t:TT):Prop:=
 ∀(hb:w!) (s:zP!) (Z:St) (H:Hp) (Q:dP_),mX_ H s->t Z H Q->
  wpAny e_ X.A (forIn fh true λc r=>if r=true then do let ok <-isTrue c X.env (eval c X.env);pure wm_ else pure jU_) iI_ X.xe s
def CP:TT:=λ_ H Q=>Q τ H
def a4h:Oe X [] CP:=λhb s Z H Q I h=>wpAny_tests_nil #[H,I,h]
def a4g(h:PT X c t):Oe X [c] t:=λhb s Z H Q I hw=>wpAny_tests_one sA!
def Vk(ag:It)(g:TG)(tt:TT)(te:TE)(Fin:c9!)(Z:St)(H:Hp):Prop:=∃W:Nat->Nat->List V->St->Hp->Prop,(∃m,W 0 m [] Z H)/\∀i m ys Z H,W i m ys Z H->aj_<=sizeLine/\
 ((ag.stop i H/\Fin ys H)\/(ag.go i H/\∀x H',ag.yld i H x H'->g x Z H' λfg H2=>tt fg H2 λb H3=>if b=τ then te fg H3 λy H4=>∃m',m'<m/\W al! m' (ys++[y]) fg H4 else∃m',m'<m/\W al! m' ys fg H3))
abbrev Ul(us:n_)(n:δ):Obj:={cls:=.type "list",data:=.seq us.toArray n}
def zV
  {Fin:c9!}{RR:Value->Addr->Result->Shared->ν}
  (dq:do_)(db:dp!)(b9:ot_)(cap:do!)(calm:aE!)
  (hg:∀C au bo fp,PG ch_ tg g)(hi:∀C au bo fp,JA_ tt)(he:∀C au bo fp,PE ch_ gc te)
  (I2:os_)(T:o7_ Qk tg ag fp it tn)(cj:tn 0 s2.heap)(f2:ot!)(hw:Vk ag g tt te Fin ou! H2)
  (hRR:∀(D C:sS!) (us:n_) (n:δ) (ys:r_) (H':Hp) (s':zP!),Kw! H'->FW! D=ψ (Ul us n)->Av ys us->aj_<=sizeLine->H' D=υ->W_<=D->W_<=C->D≠C->H' C=υ->
   (∃m,s'.heap.Ns C m)->Fin ys H'->RR (.ref D) C (.ok .next) s'):
  wpAny e_ X.A (newList []) (λσ ez=>zH_ (newFunctionEnv scope X.env.globals cl [] X.env.qual υ .none (ψ X.env)) (λYR wy=>
   codeAny e_ X.A (.compStart g4_ 0 ca! σ {YR with scope:=relabel scope X.env}) (RR σ YR.locals) wy) E ez) E s2:=by
 let#[W,#[m0,w0],turn]:=hw;let flt:∀b∈fp,b<W_:=λb J=>by let#[o,e,_]:=I6! cj;exact LR e
 exact OH (wpAny_newFunctionEnv db (by intro y hy;simp at hy) (λh₁ yx wz=>?_) dq);dsimp only at yx wz ⊢;generalize yz:s2.heap.push {cls:=.type "list",dict:=none,data:=.seq (wt!).toArray}=G2 at yx wz ⊢;let hC:g5!=W_+1:=by rw[<-yz,QW]
 let kz:W_≠g5!:=by rw[hC];exact MN (RZ _)
 let YS:W_<=g5!:=by rw[hC];exact OO _
 let YT:∀b,b<W_->b≠g5!:=λb J=>by rw[hC];exact MN (TZ J)
 let old:∀b o,s2.heap.get? b=ψ o->h₁.get? b=ψ o:=λb o e=>wz.extBut b o (YT b c8_) (KL _ (yz▸KL _ e));let zc:=wz.extBut _ _ kz (KL _ (yz▸LP _ χ));let se:=T.keep _ _ _ cj λb _ o e=>old b o e;let I1:=c1j (NL:=NL) (t:=s2.toks+([]:μ ns!).length) dq db b9 cap I2 f2 flt YS v! kz old yx zc wu!;let pj:∀{H':Hp} {oD:Obj},gu_->∀b∈fp,Fg fo! (cM!++[(W_,oD)]) H' b:=λ{H' oD} hn b J=>by
  let#[_,f1,f3,f4,f5,f6]:=f2 b J;exact#[hn b J,YT b jX_,λz=>(G0_ z).elim f1 f3,.inl J,λx c h=>f5 x c g2_,cv_];let bn:p∈cM!++[(W_,oD)]:=by simpa[Me]using hp
  obtain bn|bn:=KS.mp bn
  .exact f6 p bn
  .let e:p=(W_,oD):=by simpa using bn
   subst e;exact QH jX_
 let YU:∀ez:Shared,ez={s2 with heap:=h₁,toks:=s2.toks+([]:μ ns!).length}->
   codeAny e_ X.A (.compLoop g4_ 0 ca! (.ref W_) (I8! G2.objs.size)) (RR (.ref W_) g5!) ez:=by
  rintro ez rfl;exact a2v (E:=wx!) (λk s'=>∃i ys us n ae H',Inv fo! (cM!++[j1!]) ae H' s'/\tn i s'.heap/\gu_/\Av ys us/\W i k ys ae H')
   (λ_ _ z=>z.elim) ?_ m0 #[0,[],[],0,_,H2,I1,se,te!,.nil,w0]
  rintro k s' ⟨i,ys,us,n,ae,H',I',ac,k9,rv,w'⟩;let#[az,zd]:=turn i k ys ae H' w';obtain⟨stop,fin⟩|⟨go,step⟩:=zd
  .exact dM (T.done fo! χ χ χ calm i _ s' ae H' _ I' (pj k9) ac stop) ?_;rintro r s4 ⟨hr,I4⟩;subst hr;let YV:=I4.pin j1! (ES! Me);let IX:=I2.call' I4.os I4.base I4.hok I4.bare λb J=>by
    let#[_,f1,f3,f4,f5,f6]:=f2 b J;exact#[f4,f1,f5,f6]
   let#[mC,hnC,_]:=I4.loc;exact hRR _ _ us n ys H' s4 IX YV.1 rv az YV.2.1 v! YS kz I4.free #[mC,hnC] fin
  .exact dM (T.item fo! χ χ χ calm i _ s' ae H' _ I' (pj k9) ac go) ?_;rintro r s4 ⟨u,hr,h4⟩;subst hr;exact dM h4 ?_;rintro _ s5 ⟨x,H5,I5,r5,y5,pv,yi⟩;let yj:=I5.pinned (pj yi) tf!;exact dM (hg _ _ _ _ _ s5 ae H5 x u _ yj r5 tf_) ?_;rintro _ s6 ⟨px,H6,I6,q6⟩;exact dM (hi _ _ _ _ _ s6 px H6 _ I6 q6) ?_;rintro ok s7 ⟨H7,I7,q7⟩;let YW:∀{YX:St} {H8:Hp} {s8:zP!},Inv fo! ((cM!++[j1!])++Ph fp s5.heap) YX H8 s8->tn al! s8.heap/\∀b∈fp,H8 b=none:=λ{YX H8 s8} I8=>by
    exact#[T.keep _ _ _ pv λb J o e=>(wy_).1,cz!];let#[o,e,d]:=I6! pv;exact(wy_).2.1
   cases ok with
   |false=>
    simp![MJ,NJ]at q7 ⊢;let#[m',hm,w7]:=q7;let#[t7,n7]:=YW I7;exact#[m',hm,i+1,ys,us,n,px,H7,i0!,t7,n7,rv,w7]
   |true=>
    simp![NR]at q7 ⊢;exact dM (he _ _ _ _ _ s7 px H7 _ I7 q7) ?_;rintro yv s8 ⟨y,H8,I8,r8,m',hm,w8⟩;let#[t8,n8]:=YW I8;let pD:=I8.pin j1! (KY _ (LN _ c_));let hul:=rv.length.symm;exact wpAny_list_append_plain #[n,pD.1] λh9 hl9 YY=>?_;let#[n9,e9]:=hl9;let I8a:=I8.pins_of λp hp=>I8.pin p (KY _ (LN _ iZ_));let I9:Inv fo! cM! px H8 {s8 with heap:=h9,toks:=s8.toks}:=by
     exact I8a.turned (λb o J e=>(YY.2 b J).trans e) pD.2.1 kz (.inr v!) (λx c h=>?_) λp hp=>?_
     .let#[v,o,ho,_]:=Ib_ g2_;exact MN iA_
     .let bn:p∈X.pn++hb:=by simpa[Me]using hp
      exact MN (Ic! bn)
    let e9':h9.get? W_=ψ (Ul (us++[yv]) n9):=by
     rw[e9,List.push_toArray]
    exact#[m',hm,i+1,ys++[y],us++[yv],n9,px,H8,I9.pins_of λp hp=>?_,T.keep _ _ _ t8 λb J o e=>(YY.2 b (MN jX_)).trans e,n8,rv.append (GN_ r8),w8];obtain hp|hp:=KS.mp hp
    .exact I9.pin p (KY _ hp)
    .let e:p=(W_,Ul (us++[yv]) n9):=by simpa using hp
     subst e;exact#[e9',pD.2.1,pD.2.2.1,pD.2.2.2.1,g6_]
 exact codeAny_compStart_list (YU _ χ) (T.self _ 0 _ _ _ se (YU _ χ))
def AC(nl:δ)(ix:o!)(wi:TI)(g:TG)(tt:TT)(te:TE):TE:=λZ H Q=>wi Z H λag H1=>Vk ag g tt te (λys H'=>∀p,H' p=υ->Q cD! (upd H' p bT_)) (Np nl ix Z) H1
def b1m{X:Cx}{scope:Scope}{NL:w_}{ix:o!}{wi:TI}{g:TG}{tt:TT}{te:TE}
  (dq:do_)(db:dp!)(mj:∀y∈ch!,y.2=.local->scope.names.lookup y.1=ET! ψ)
  (jh:g7!)(cap:do!)(calm:aE!)(ax:m3_)
  (hg:g7_)(hi:wD!)(he:wD_)
  (hs:dc!:=by intro _;rfl):
  PE X g4_ wE!:=by
 show"!G";show"!y"
 rw[eval_ListComp];exact F7! hs;let#[it,fp,tn,ag,H2,e,I2,T,cj,f2,hw]:=h2;subst e;exact Fv! T;rintro D C us n ys H' s' I' eD rv az nD hD hC kz nC ⟨m,hn⟩ fin;exact#[m,hn,λh' c7=>?_];let gn:∀b,b<W_->b≠C/\b≠D:=λb J=>wG_;let sf:∀x c,Ax! x=ψ c->c<W_:=λx c h=>by let#[_,_,ho,_]:=Ib_ h;exact LR ho
 let uy:∀p∈X.pn++hb,p.1<W_:=λp hp=>Ic! hp;let IC:mX_ H' {s' with heap:=h',toks:=s'.toks}:=JB! I'.turned nC λp hp=>(j3!).1;let ID:=IC.track ((c7.2 D kz).trans eD) rv az nD (LX I2.sz hD) (MD (g8!).2) wK_ λp hp=>(j3!).2;exact#[.ref D,_,ID,χ,fin D nD]
end L2
namespace DL
open PySem PySem.Spec PyProof.Rows L2
abbrev St:=L2.St
inductive D where
 |non|bl (b:Bool)|int (i:Int)|str (x:Str)|tup (xs:d!)|lst (xs:d!)|fn (a:sS!)|dk (h1:μ oz_)
mutual
noncomputable def Ao(KF:zR!)(H:Hp):D->V->Prop
 |.non,v=>v=V.non
 |.bl b,v=>v=V.bl b
 |.int i,v=>v=V.int i
 |.str x,v=>v=V.str x
 |.tup xs,v=>∃a vs,v=V.ref a/\Fj! a vs/\Fj_ xs vs
 |.lst xs,v=>∃a vs,v=V.ref a/\GC_ a vs/\Fj_ xs vs
 |.fn a,v=>v=V.ref a
 |.dk h1,v=>∃a,v=V.ref a/\Rd H a dU_
noncomputable def An(KF:zR!)(H:Hp):List D->List V->Prop
 |[],vs=>vs=[]
 |d::ds,vs=>∃v r,vs=v::r/\Ev_ d v/\Fj_ ds r
end
mutual
noncomputable def Dj:D->Bool
 |.lst _=>θ
 |.dk _=>θ
 |.tup xs=>Ei xs
 |_=>τ
noncomputable def Ei:List D->Bool
 |[]=>τ
 |d::ds=>Dj d&&Ei ds
end
mutual
noncomputable def Go:D->Nat
 |.lst xs=>De xs+1
 |.tup xs=>De xs+1
 |_=>0
noncomputable def De:List D->Nat
 |[]=>0
 |d::ds=>max (Go d) (De ds)
end
section
variable{KF:zR!}
mutual
theorem Ao.map(ht:j3_)(hl:wO!)(hd:wN_):∀(d:D) (v:V),Ev_ d v->EY! H'
 |.non,_,h=>h
 |.bl _,_,h=>h
 |.int _,_,h=>h
 |.str _,_,h=>h
 |.tup xs,_,h=>by
  show"!Y";exact#[a,vs,e,ht a vs q,wP!]
 |.lst xs,_,h=>by
  show"!Y";exact#[a,vs,e,hl a vs q,wP!]
 |.fn _,_,h=>h
 |.dk h1,_,h=>by
  delta Ao at h ⊢;let#[a,e,q]:=h;exact#[a,e,hd a h1 q]
theorem An.map(ht:j3_)(hl:wO!)(hd:wN_):∀(ds:d!) (vs:r_),CG! H->CG! H'
 |[],_,h=>h
 |d::ds,_,h=>by
  delta An at h ⊢;let#[v,r,e,q,t]:=h;exact#[v,r,e,Ao.map ht hl hd d v q,An.map ht hl hd ds r t]
end
mutual
theorem Ao.mapT(ht:j3_):∀(d:D) (v:V),Dj d=τ->Ev_ d v->EY! H'
 |.non,_,_,h=>h
 |.bl _,_,_,h=>h
 |.int _,_,_,h=>h
 |.str _,_,_,h=>h
 |.tup xs,_,n,h=>by
  delta Dj at n;show"!Y";exact#[a,vs,e,ht a vs q,An.mapT ht xs vs n r]
 |.lst xs,_,n,_=>by
  delta Dj at n;exact Eg_ n
 |.fn _,_,_,h=>h
 |.dk _,_,n,_=>by
  delta Dj at n;exact Eg_ n
theorem An.mapT(ht:j3_):∀(ds:d!) (vs:r_),Ei ds=τ->CG! H->CG! H'
 |[],_,_,h=>h
 |d::ds,_,n,h=>by
  delta Ei at n;rw[LS]at n;delta An at h ⊢;let#[v,r,e,q,t]:=h;exact#[v,r,e,Ao.mapT ht d v n.1 q,An.mapT ht ds r n.2 t]
end
def cE(e:fj!)(h:Fj! a xs):Fs KF H' a xs:=by
 rcases h with(h|⟨o,h⟩)|h
 .exact vX_
 .exact vY!
 .exact .inr h
def b0v(e:fj!)(h:Rd H a o):Rd H' a o:=by
 obtain h|⟨u,h⟩:=h
 .exact .inl (e _ _ h)
 .exact .inr #[u,e _ _ h]
def Ao.mono(e:fj!)(h:g9!):EY! H':=Ao.map wU! wV_ wW! d v h
def An.mono(e:fj!)(h:cN!):CG! H':=An.map wU! wV_ wW! ds vs h
def Ao.non:Ao KF H .non V.non:=by delta Ao;rfl
def Ao.bl:Ev_ aJ! (V.bl b):=by delta Ao;rfl
def Ao.int:Ev_ ay! (V.int i):=by delta Ao;rfl
def Ao.str:Ev_ bO! (V.str x):=by delta Ao;rfl
def Ao.fn:Ev_ dq_ g9_:=by delta Ao;rfl
def Ao.tup(h:Fj! a vs)(r:cN!):Ev_ dr! g9_:=by delta Ao;exact wX!
def Ao.lst(h:GC_ a vs)(r:cN!):Ev_ ci! g9_:=by delta Ao;exact wX!
def An.nil:An KF H [] []:=by delta An;rfl
def An.cons(h:g9!)(t:cN!):Fj_ dr_ (v::vs):=by delta An;exact#[v,vs,χ,h,t]
def aL:∀{ds:d!} {vs:r_},CG! H->f_=bg!
 |[],vs,h=>by delta An at h;subst h;rfl
 |d::ds,vs,h=>by
  delta An at h;let#[v,r,e,_,t]:=h;rw[e,KW,KW,aL t]
def gW:∀{ds:d!} {vs:r_} {i:δ} {d:D},CG! H->ds[i]?=ψ d->∃v,vs[i]?=ψ v/\Ev_ d v
 |[],_,_,_,_,e=>by simp at e
 |c::ds,vs,i,d,h,e=>by
  delta An at h;let#[v,r,e1,q,t]:=h;subst e1;cases i with
  |zero=>simp at e;subst e;exact#[v,χ,q]
  |succ i=>
   let#[u,Y,h2]:=gW t c6_;exact rD_
def dJ:∀{ds es:d!} {vs ws:r_},CG! H->Fj_ es ws->Fj_ (ds++es) (vs++ws)
 |[],_,_,_,h,k=>by delta An at h;subst h;exact k
 |c::ds,_,vs,_,h,k=>by
  show"!R";exact Gt! q (dJ t k)
def qX:∀{ds:d!} {vs:r_} (n:δ),CG! H->Fj_ (ds.take n) (vs.take n)
 |_,_,0,_=>An.nil
 |[],_,n+1,h=>by delta An at h;subst h;exact An.nil
 |c::ds,vs,n+1,h=>by
  show"!R";exact Gt! q (qX n t)
def qY:∀{ds:d!} {vs:r_} (n:δ),CG! H->Fj_ oB! (vs.drop n)
 |_,_,0,h=>h
 |[],_,n+1,h=>by delta An at h;subst h;exact An.nil
 |c::ds,vs,n+1,h=>by
  show"!R";exact qY n t
def uP(hd:g9!):∀{ds:d!} {vs:r_} (n:δ),CG! H->Fj_ (ds.set n d) (vs.set n v)
 |[],_,_,h=>by delta An at h;subst h;exact An.nil
 |c::ds,vs,n,h=>by
  delta An at h;let#[u,r,e1,q,t]:=h;subst e1;cases n with
  |zero=>exact Gt! hd t
  |succ n=>exact Gt! q (uP hd n t)
def cR(h:An KF H [] vs):vs=[]:=by delta An at h;exact h
def bS(h:Fj_ dr_ vs):∃v r,vs=v::r/\Ev_ d v/\Fj_ ds r:=by delta An at h;exact h
def bX(h:Ev_ dr! v):∃a vs,v=V.ref a/\Fj! a vs/\CG! H:=by delta Ao at h;exact h
def bW(h:Ev_ ci! v):∃a vs,v=V.ref a/\GC_ a vs/\CG! H:=by delta Ao at h;exact h
def bA(h:Ev_ ay! v):v=V.int i:=by delta Ao at h;exact h
def dI(h:Ev_ (.bl i) v):v=V.bl i:=by delta Ao at h;exact h
def cH(h:Ev_ j6! v):v=V.str i:=by delta Ao at h;exact h
def eP(h:Ao KF H .non v):v=V.non:=by delta Ao at h;exact h
def fY(h:Ev_ dq_ v):v=V.ref a:=by delta Ao at h;exact h
def d0w(h:Ev_ (.dk h1) v):∃a,v=V.ref a/\Rd H a dU_:=by delta Ao at h;exact h
def iW(h:cN_):Ax H fq!:=λb u e=>by rw[bC (cO e h)];exact e
def fU(h:cN_)(r:cN!):Ao KF (K2! p vs) dr! rw!:=Ao.tup (Fs.of cC) w5!
def dW(h:cN_)(r:cN!):Ao KF j6_ ci! rw!:=IB! cC w5!
end
structure Bz(G H G' H':Hp):Prop where
 g:Ax G G'
 h:Ax H H'
 sub:Ax G' H'
 new:∀b,G' b≠υ->G b≠υ\/H b=υ
def Bz.refl{G H:Hp}(s:J_):Bz G H G H:=#[fq_,Ax.refl H,s,j7!]
def Bz.trans(a:Bz G H G1 H1)(b:Bz G1 H1 G2 H2):Bz G H G2 H2:=
 #[a.g.trans b.g,a.h.trans b.h,b.sub,λc h=>(b.new c h).elim (λz=>a.new c z) λz=>.inr (a.h.free z)]
def Bz.laid(s:J_)(hp:cN_):Bz G H (upd G p o) fq!:=by
 exact#[iW (s.free hp),iW hp,j7_,bk!]
 .by_cases J:b=p
  .subst J;rw[cC]at e ⊢;exact e
  .rw[bC J]at e ⊢;exact s b u e
 .by_cases J:b=p
  .subst J;exact .inr hp
  .rw[bC J]at h;exact .inl h
abbrev Ag:=μ (ι D)
structure OR(KF:zR!)(own:o!)(G H:Hp)(Z:St)(ρ:Ag):Prop where
 sub:Ax G H
 len:j8!=eJ!
 at_:∀(i:δ) (d:D),ρ[i]?=ψ cO!->i∉own->∃v,Z[i]?=ψ be!/\EY! G
 own_:∀i∈own,∃p ds vs,ρ[i]?=ψ oC_/\Z[i]?=ψ ci_/\H p=ψ ee_/\G p=υ/\CG! G
 dis:∀i∈own,∀j∈own,i≠j->∀p q,Z[i]?=ψ ci_->Z[j]?=GY_ (V.ref q)->p≠q
def OR.grow{KF:zR!}(h:cj!)(x:j8_):FM_ OR G' H' Z ρ where
 sub:=x.sub
 len:=h.len
 at_:=λi d q n=>by let#[v,Y,h2]:=h.at_ i d q n;exact w9!
 own_:=λi hi=>by
  let#[p,ds,vs,Y,h2,h3,h4,h5]:=h.own_ i hi;exact#[p,ds,vs,Y,h2,x.h _ _ h3,?_,h5.mono x.g];cases q:G' p with
  |none=>rfl
  |some o=>
   rcases x.new p cL_ with z|z
   .exact Ei_ h4 z
   .rw[h3]at z;rcases z
 dis:=h.dis
def OR.set{KF:zR!}(h:cj!)(hi:aV!)(r:cO_):FM_ OR G H eK_ bX_ where
 sub:=h.sub
 len:=by rw[PY,PY,h.len]
 at_:=λj c q n=>by
  by_cases hj:i=j
  .subst hj;by_cases hi:i<j8!
   .rw[MV hi]at q;cases q;exact#[v,by rw[MV (Ev! h.len hi)],r]
   .rw[NQ (FV! PY)]at q;rcases q
  .rw[MF hj]at q;rw[MF hj];exact h.at_ j c q n
 own_:=λj hj=>by
  let ne:i≠j:=λe=>JB_ e;rw[MF ne,MF ne];exact h.own_ j hj
 dis:=λj hj k hk hne p q e1 e2=>by
  let ne:i≠j:=λe=>JB_ e;let ze:i≠k:=λe=>hi (e▸hk);rw[MF ne]at e1;rw[MF ze]at e2;exact h.dis j hj k hk hne p q e1 e2
def Jl(own:o!)(Z:St):μ Addr:=own.filterMap λi=>match Z[i]? with|some (some (V.ref p))=>ψ p|_=>υ
def nG(h:p∈Jl own Z):∃i∈own,Z[i]?=ψ ci_:=by
 let#[i,hi,e]:=RE.mp h;exact#[i,hi,?_];show"!:"
 .rename_i q he;rcases e;exact he
 .rcases e
def a3v(hi:ef!)(h:rL_):p∈Jl own Z:=RE.mpr #[i,hi,by rw[h]]
def Js(own:o!)(Z:St)(G H:Hp):Hp:=λb=>if b∈Jl own Z then H b else G b
def OR.full{KF:zR!}(h:cj!):OR KF [] fr! H Z ρ:=by
 let s1:Ax G fr!:=λb o e=>by
  delta Js;split
  .exact h.sub b o e
  .exact e
 let s2:Ax fr! H:=λb o e=>by
  delta Js at e;show"!:"
  .exact e
  .exact h.sub b o e
 exact#[s2,h.len,oF!,aA_,aA_];by_cases hi:i∈own
 .let#[p,ds,vs,Y,h2,h3,h4,h5]:=h.own_ i hi;rw[Y]at q;cases q;exact#[_,h2,Ao.lst (Et.of ?_) (h5.mono s1)];delta Js;rw[KQ (a3v hi h2)];exact h3
 .let#[v,Y,h2]:=h.at_ i d q hi;exact#[v,Y,h2.mono s1]
def Le(ρ ρ':Ag):Prop:=j8!=ρ'.length/\∀(i:δ) (d:D),ρ[i]?=ψ cO!->ρ'[i]?=ψ cO!
def OR.le{KF:zR!}(h:GD! Z ρ')(l:Le ρ ρ'):GD! Z ρ:=#[h.sub,l.1.trans h.len,λi d q n=>h.at_ i d (l.2 i d q) n,aA_,aA_]
def Le.set(h:Le ρ ρ')(hi:ρ[i]?=ψ υ):Le ρ (ρ'.set i cO!):=by
 exact#[by rw[PY];exact h.1,λj c q=>?_];let:i≠j:=λe=>by subst e;rw[hi]at q;cases q
 rw[MF this];exact h.2 j c q
def Le.refl(ρ:Ag):Le ρ ρ:=#[χ,λ_ _ h=>h]
def Zp(nl:δ)(ix:o!)(ρ:Ag):Ag:=En! nl υ++ix.map λj=>(ρ[j]?).join
def OR.cap{KF:zR!}(h:cj!)(nl:δ)(ix:o!)(hx:ka!):GD! (Np nl ix Z) oH!:=by
 delta Np Zp;exact#[h.sub,H_,oF!,aA_,aA_];by_cases hi:i<nl
 .rw[OJ gI_,PP,KQ hi]at q;cases q
 .rw[fa!,MO,QK]at q;rw[fa!,MO,QK];cases e:ix[i - nl]? with
  |none=>rw[e]at q;rcases q
  |some j=>
   rw[e]at q;let q':(ρ[j]?).join=ψ d:=MQ q;let q2:ρ[j]?=ψ cO!:=by
    cases z:ρ[j]? with
    |none=>rw[z]at q';rcases q'
    |some o=>rw[z]at q';exact KU! q'
   let#[v,Y,h2]:=h.at_ j d q2 (hx j (QQ e));exact#[v,by simp[Y],h2]
inductive tD(KF:zR!)(own:o!)(f:p!)(Z:St)(H:Hp)(Q:VK):Prop
 |mk (G:Hp) (ρ:Ag) (d:D) (o:cj!) (e:bY!) (k:∀v G' H',E0_ G H->EY! G'->Q v H'):FM_ tD f Z H Q
inductive IA(KF:zR!)(own:o!)(f:bk_)(Z:St)(H:Hp)(Q:c9!):Prop
 |mk (G:Hp) (ρ:Ag) (ds:d!) (o:cj!) (e:oI!) (k:∀vs G' H',E0_ G H->CG! G'->Q vs H'):FM_ IA f Z H Q
inductive AY(KF:zR!)(own:o!)(f:bY_)(Z:St)(H:Hp)(Q:dP_):Prop
 |mk (G:Hp) (ρ:Ag) (b:Bool) (o:cj!) (e:f ρ=ψ b) (k:∀G' H',E0_ G H->Q b H'):FM_ AY f Z H Q
structure DE(X:Cx)(own:o!)(e:Expr)(f:p!):Prop where
 ok:PE X e (FK_ tD f)
structure DA(X:Cx)(own:o!)(es:c9_)(f:bk_):Prop where
 ok:PA X es (FK_ IA f)
structure DT(X:Cx)(own:o!)(e:Expr)(f:bY_):Prop where
 ok:PT X e xi!
structure DW(X:Cx)(own:o!)(e:Expr)(f:bY_):Prop where
 ok:PW X e xi!
section
variable{X:Cx}
def eW{t:TE}(h:iJ_)(hw:∀Z G H Q ρ d,ET_ X.K->f ρ=ψ d->(Gb_ Ao)->t Z H Q):Ek! e f:=xi_
def c2y(h:gE!)(hw:∀Z G H Q ρ d,ET_ X.K->fs ρ=ψ d->(Gb_ An)->t Z H Q):DA X own es fs:=Fb_ p
def wS(h:PT X e t)(hw:xj!):Fi! DT e:=xi_
def c9u(h:PW X e t)(hw:xj!):Fi! DW e:=Fb_ wh
def Ks(f:p!):Ag->ι D:=λρ=>(af_).bind λd=>if Dj d then ψ d else υ
def a2r(h:DE X [] e f):Ek! e (Ks f):=eW h.ok λZ G H Q ρ d er e k=>by
 let#[d',e1,e2]:=KH.mp e;split at e2
 .rename_i hn;cases e2;exact#[Js own Z G H,ρ,d,er.full,e1,λv G' H' x r=>?_];let hroot:∀b,b∈Jl own Z->∃vs,G' b=ψ ee_:=λb J=>by
   show"!P";exact#[vs,x.g _ _ ?_];delta Js;rw[KQ J];exact h3
  let hG:∀b,b∈Jl own Z->G b=none:=λb J=>by
   show"!P";exact h4
  exact k v (λb=>if b∈Jl own Z then υ else G' b) H' #[λb o z=>?_,x.h,λb o z=>?_,λb z=>?_] (Ao.mapT (λa vs q=>?_) d v hn r)
  .let J:b∉Jl own Z:=λJ=>by rw[hG b J]at z;rcases z
   rw[LB J];exact x.g _ _ ?_;delta Js;rw[LB J];exact z
  .let z':xk!=ψ o:=z;split at z'
   .rcases z'
   .exact x.sub _ _ z'
  .let z':xk!≠none:=z;split at z'
   .exact Ew! z'
   .rename_i J;obtain y|y:=x.new b z'
    .delta Js at y;rw[LB J]at y;exact .inl y
    .exact .inr y
  .let ne:∀u,G' a=ψ u->(∀ws,u≠.lst ws)->(if a∈Jl own Z then υ else G' a)=ψ u:=λu e1 hu=>by
    rw[LB (λJ=>by let#[ws,e2]:=hroot a J;rw[e1]at e2;exact hu ws (MQ e2))];exact e1
   rcases q with(q|⟨o,q⟩)|q
   .exact K3_ (ne _ q λ_ z=>nomatch z)
   .exact K3! #[o,ne _ q λ_ z=>nomatch z]
   .exact .inr q
 .rcases e2
def Aa(i:δ):Ag->ι D:=λρ=>(ρ[i]?).join
nonrec def fC(d:D):Ag->ι D:=λ_=>ψ d
def join_some{ρ:Ag}{i:δ}(h:(ρ[i]?).join=ψ d):ρ[i]?=ψ cO!:=by
 cases z:ρ[i]? with
 |none=>rw[z]at h;rcases h
 |some o=>rw[z]at h;exact KU! h
def aA(i:δ){x:Str}(hi:aV!:=by decide)(hN:ai_:=by rfl)(hv:cx!:=by first|exact Or.inl χ|exact Gk! b!|exact Gk! a4!)(hd:D!:=by decide)
  (cf:cx_:=by decide):Ek! da_ (Aa i):=
 eW kb! λZ G H Q ρ d er e k=>by let#[v,Y,h2]:=er.at_ i d (join_some e) hi;exact#[v,Y,k v G H hd! h2]
def c2x(h:iJ_)(ht:∀Z H Q,Q v H->t Z H Q)(r:∀H,E1! H):Ek! e (fC d):=
 eW h λZ G H Q ρ d' er e' k=>by
  rcases e';exact ht Z H Q (k v G H hd! (r G))
def aB:Ly_ sr!:=c2x d1i he! λ_=>Ao.int
def aY:Ek! (Kz_ j6!) (fC j6!):=c2x a0s he! λ_=>Ao.str
def fW:Ek! (Kz_ (.bool i)) (fC (.bl i)):=c2x d5l he! λ_=>Ao.bl
def dG:Ek! ss! bl!:=c2x d1h he! λ_=>Ao.non
def c7w(hg:U_)(hm:X.mg x=ψ dL!)(hd:D!:=by decide):Ly_ da_:=
 c2x (b1l (v:=V.int i) hg hm dl_ hd) he! λ_=>Ao.int
nonrec def f2(g:he_)(fa fb:p!):Ag->ι D:=λρ=>(fs_).bind λx=>(kc_).bind λy=>g x y
def Gy(KF:zR!)(r:R2)(g:he_):Prop:=∀{x y:V} {dx dy d:D} {G H:Hp} {Q:VK},Ax G H->Gb! dx x->Gb! dy y->g dx dy=ψ d->kc!->Hu! r
def two(hg:ef_)(er:ET_ X.K)(e:f2 g fa fb ρ=ψ d)(k:∀v G' H',E0_ G H->E1! G'->Q v H'):
  CI r (FK_ tD fa) (FK_ tD fb) Z H Q:=by
 delta f2 at e;show"!;";let#[y,e2,e]:=KH.mp e;exact#[G,ρ,x,er,e1,λu G1 H1 s1 r1=>#[G1,ρ,y,cP!,e2,λw G2 H2 s2 r2=>hg s2.sub ft! r2 e λv G' H' s3 r3=>k v G' H' (s1.trans ft_) r3]]
def aQ(ho:m5!)(hg:ef_)(ha:X!)(J:cj_):Ek! m5_ kd!:=
 eW xv_ λZ G H Q ρ d er e k=>JC! e k
def fI(ho:cb!)(hg:ef_)(ha:X!)(J:cj_)(hm:dQ!):Ek! dQ_ kd!:=
 eW xt! λZ G H Q ρ d er e k=>JC! e k
def aN(hr:Wp X r)(hg:ef_)(ha:X!)(J:cj_)(hs:Ol b):Ek! nW! kd!:=
 eW xt_ λZ G H Q ρ d er e k=>JC! e k
nonrec def fT(f:p!):Ag->ι Bool:=λρ=>(af_).bind λd=>match d with|.bl b=>ψ b|_=>υ
def kZ{b:Bool}(h:fT f ρ=ψ b):f ρ=ψ aJ!:=by delta fT at h;let#[d,e,h]:=KH.mp h;cases d<;>first|(rcases h;exact e)|cases h
def bH(ho:cb!)(hg:ef_)(ha:X!)(J:cj_)(hm:dQ!):He! dQ_ (fT kd!):=
 wS xv! λZ G H Q ρ d er e k=>JC! (kZ e) λv G' H' s' r'=>by
  obtain rfl:=dI r';exact xx!
def eK(h:ds!)(he:iK!:=by intro _;rfl):He! e (fT f):=
 wS (a8b h.ok he) λZ G H Q ρ d er e k=>⟨G,ρ,.bl d,er,kZ e,λv G' H' s' r'=>by
  obtain rfl:=dI r';exact xx!⟩
def Yn:D->Em! Bool
 |.lst xs=>ψ (! dU!)
 |.tup xs=>ψ (! dU!)
 |.bl b=>ψ b
 |.int i=>ψ gx_
 |.non=>ψ θ
 |_=>υ
def sO{KF:zR!}(h:cN!):(!ds.isEmpty)=!vs.isEmpty:=by let:=aL h;cases ds<;>cases vs<;>simp_all
def a6f(h:ds!)(he:iK!:=by intro _;rfl):He! e (λρ=>(af_).bind Yn):=
 wS (b8b h.ok he) λZ G H Q ρ b er e k=>by
  let#[d,e1,e2]:=KH.mp e;exact#[G,ρ,d,er,e1,λv G' H' s' r'=>#[b,?_,oM!]];cases d with
  |non=>cases eP r';rcases e2;exact(rfl:θ=θ)
  |bl x=>cases dI r';rcases e2;exact χ
  |int i=>cases bA r';rcases e2;exact(rfl:gx_=gx_)
  |str x=>cases e2
  |fn a=>cases e2
  |dk a=>cases e2
  |tup xs=>
   let#[a,vs,e3,q,r3]:=bX r';subst e3;rcases e2;exact FL! #[vs,cE s'.sub q,sO r3]
  |lst xs=>
   let#[a,vs,e3,q,r3]:=bW r';subst e3;rcases e2;exact .inl #[vs,s'.sub.seq q,sO r3]
def Ep(ft fu:bY_):Ag->ι Bool:=λρ=>(hg!).bind λb=>if b then fu ρ else ψ θ
def Xu(ft fu:bY_):Ag->ι Bool:=λρ=>(hg!).bind λb=>if b then ψ τ else fu ρ
def Dy(ft:bY_):Ag->ι Bool:=λρ=>(hg!).map (!·)
variable{rest:List Expr}
def nK(h:hg_):Fi! DW mI!:=xz_
def rT(h:hg_):Fi! DW mI_:=xA!
def rV(ha:hg_)(J:DW X own eQ! fu):DW X own eQ_ (Ep ft fu):=
 c9u xA_ λZ G H Q ρ d er e k=>by
  let#[x,e1,e]:=KH.mp e;exact oO!;cases x with
  |true=>exact kX xB!
  |false=>cases e;exact lM (k G1 H1 s1)
def zO(ha:hg_)(J:DW X own eR_ fu):DW X own eS! (Xu ft fu):=
 c9u xB_ λZ G H Q ρ d er e k=>by
  let#[x,e1,e]:=KH.mp e;exact oO!;cases x with
  |false=>exact lM xB!
  |true=>cases e;exact kX (k G1 H1 s1)
def sZ(h:Fi! DW e):Fi! DT e:=#[h.ok.pt]
def gE(h:hg_):He! eS_ (Dy ft):=
 wS (b8c h.ok) λZ G H Q ρ d er e k=>by
  let#[x,e1,rfl]:=KZ.mp e;exact#[G,ρ,x,er,e1,λG1 H1 s1=>k G1 H1 s1]
def Hu(fa fb:p!):Ag->ι D:=λρ=>(oO_).bind λb=>if b then fb ρ else ψ I!
def Ms(fa fb:p!):Ag->ι D:=λρ=>(oO_).bind λb=>if b then ψ x! else fb ρ
def AL(fa:p!):Ag->ι D:=λρ=>(oO_).map λb=>.bl (!b)
def iJ(h:X!):Ek! mJ! fa:=xC_
def lC(ha:X!)(J:Ek! eQ! fb):Ek! eQ_ (Hu fa fb):=
 eW xD_ λZ G H Q ρ d er e k=>by
  let#[x,e1,e]:=KH.mp e;exact oP!;obtain rfl:=dI r1;exact kd_;cases x with
  |true=>exact kX ke!
  |false=>cases e;exact lM xF_
def zU(ha:X!)(J:Ek! eR_ fb):Ek! eS! (Ms fa fb):=
 eW xG! λZ G H Q ρ d er e k=>by
  let#[x,e1,e]:=KH.mp e;exact oP!;obtain rfl:=dI r1;exact kd_;cases x with
  |false=>exact lM ke!
  |true=>cases e;exact kX xF_
def d3n(ha:X!):Ek! eS_ (AL fa):=
 eW (b8w ha.ok) λZ G H Q ρ d er e k=>by
  let#[x,e1,rfl]:=KZ.mp e;exact oP!;obtain rfl:=dI r1;exact#[x,χ,xH!]
def Wf(ft:bY_)(fa fb:p!):Ag->ι D:=λρ=>(hg!).bind λb=>if b then fa ρ else fb ρ
def b3d(hc:Fi! DT c)(ha:X!)(J:cj_):Ek! mJ_ (Wf ft fa fb):=
 eW xH_ λZ G H Q ρ d er e k=>by
  let#[x,e1,e]:=KH.mp e;exact oO!;cases x with
  |true=>exact kX ke!
  |false=>exact lM ke!
nonrec def f3(g h:he_)(fa fb fc:p!):Ag->ι D:=λρ=>(fs_).bind λx=>(kc_).bind λy=>(g x y).bind λz=>match z with
 |.bl true=>(fc ρ).bind λw=>h y w
 |.bl false=>ψ I!
 |_=>υ
def Ae:Ag->ι aG!:=λ_=>ψ []
def Ac(f:p!)(fs:bk_):Ag->ι aG!:=λρ=>(af_).bind λd=>(fu!).bind λds=>ψ dr_
def aI:DA X own [] Ae:=c2y fM λZ G H Q ρ d er e k=>by
 rcases e;exact k [] G H hd! An.nil
def aD(h:ds!)(hs:kf_)(hst:az!:=by rfl):DA X own aJ_ (Ac f fs):=
 c2y xI_ λZ G H Q ρ d er e' k=>by
  let#[x,e1,e']:=KH.mp e';let#[xs,e2,e']:=KH.mp e';rcases e';exact KI_ #[G1,ρ,xs,cP!,e2,λvs G2 H2 s2 r2=>k _ G2 H2 cP_ (Gt! ft! r2)]
def Ay(fs:bk_):Ag->ι D:=λρ=>(fu!).bind λds=>if f_<=1000 then ψ dr! else υ
def Hl(fs:bk_):Ag->ι D:=λρ=>(fu!).bind λds=>if f_<=1000 then ψ ci! else υ
def fG(h:n<=1000):n<=sizeLine:=QX (b3w h)
protected def cP(h:kf_):Ek! t5! (Ay fs):=
 eW (b8t h.ok) λZ G H Q ρ d er e k=>by
  show"!M"
  .show"!H";exact Fc_ fU
  .rcases e
protected def mT(h:kf_):Ek! ji_ (Hl fs):=
 eW kg! λZ G H Q ρ d er e k=>by
  show"!M"
  .show"!H";exact Fc_ dW
  .rcases e
def Qo(KF:zR!)(r:i1!)(g:bZ!):Prop:=∀{vs:r_} {ds:d!} {d:D} {G H:Hp} {Q:VK},Ax G H->CG! G->g ds=ψ d->kc!->r vs H Q
nonrec def f1(g:bZ!)(fs:bk_):Ag->ι D:=λρ=>(fu!).bind g
def bK{id:String}(hc:nF!)(hd:Qo X.K r g)(hg:U_)(hm:eP!)(hv:nF_)(ha:kg_)(hn:eP_:=by decide)
  (bd:D!:=by decide)(he:az!:=by rfl)(ay:a1_:=by rfl):Ek! bQ! oQ!:=
 eW xO_ λZ G H Q ρ d er e' k=>by
  let#[ds,e1,e']:=KH.mp e';exact#[G,ρ,ds,er,e1,λvs G1 H1 s1 r1=>hd s1.sub r1 e' λv G2 H2 s2 r2=>k v G2 H2 cP_ r2]
def AD(KF:zR!)(n:δ)(g:bZ!):Sp:=λvs H Q _=>bg!=n/\∃G ds d,Ax G H/\CG! G/\g ds=ψ d/\∀v G' H',E0_ G H->EY! G'->Q v H'
def c7y(F:K8! af xP_)(hr:a1!)(hg:U_)(hm:X.mg x=ψ bl_)(hk:Lk! X.K=τ)
  (J:kh!)(ha:kg_)(hn:xQ!:=by rfl)(az:xR!)
  (bd:D!:=by decide)(he:az!:=by rfl)(ay:a1_:=by rfl):
  DE X own bQ! oQ!:=
 eW (a0t F hr hg hm hk J .nil sI ha.ok bd he ay) λZ G H Q ρ d er e' k=>by
  let#[ds,e1,e']:=KH.mp e';exact#[G,ρ,ds,er,e1,λvs G1 H1 s1 r1=>?_];rw[LW];exact#[by rw[<-aL r1];exact az ρ ds e1,G1,ds,d,s1.sub,r1,e',xE_]
end
def aX(h:Ae ρ=ψ ds):f_=0:=by rcases h;rfl
def aJ(hf:xR_):∀(ρ:Ag) (ds:d!),Ac f fs ρ=ψ ds->f_=n+1:=λρ ds e=>by
 show"!;";let#[xs,e2,e]:=KH.mp e;rcases e;rw[KW,hf ρ xs e2]
def nW(p:PlainL h a its):∃n sl,h.get? a=ψ {cls:=.type "list",dict:=υ,data:=.seq its n,slots:=sl}:=by let#[#[cls,dd,data,sl],n,e,Y,h2,h3]:=p;simp only at Y h2 h3;subst Y h2 h3;exact#[n,sl,e]
def AG(KF:zR!):R2:=λx y H Q=>∃l b xs zs,x=.ref l/\y=.ref b/\GC_ l xs/\GC_ b zs/\h_+zs.length<=sizeLine/\∀p,H p=υ->Gs_ H vp!
def c6a:Gj! eZ_ AG:=by
 intro hb s Z H x y v u Q I rx ry h;let#[l,b,xs,zs,rfl,rfl,hH,hB,hz,q]:=h;subst rx;subst ry;let#[its,r,pl,z]:=FU! hH;let#[ja,r2,pl2,z2]:=FU! hB;let#[n,sl,e]:=nW pl;let#[n2,ic,e2]:=nW pl2;let Y:=aS!;let h2:=r2.length;exact concat_meets d9_ (Jp! e2) PySem.noFill_list_add PySem.seq_list_add PySem.F.slot_list_add PySem.F.entry_list_add (PySem.F.args_list_add_2 _ _)
  (Iw! list_addW l υ υ sl ic oR_) #[e,e2,?_]
 let ea:bc!++ja.toArray=(its++ja).toArray:=by simp
 rw[ea];exact#[.ref _,_,I.lnew (I7! r2) xT!,χ,q _ I.fresh]
def Xg(KF:zR!):R2:=λx y H Q=>∃a b ys,x=.ref a/\y=.ref b/\Fj! a []/\Fj! b ys/\Q d3! H
def b9h:Gj! eZ_ Xg:=by
 intro hb s Z H x y v u Q I rx ry h;let#[a,b,ys,rfl,rfl,ha,J,q]:=h;subst rx;subst ry;let#[its,r1,p1,_]:=EH_ ha;let#[ja,r2,p2,_]:=EH_ J;let#[#[cls,dd,data,sl],ho,hc,n,hd]:=id p1;let#[#[YH,oj,data2,ic],kj,i',n2,jj]:=id p2;simp only at hc hd i' jj;subst hc hd i' jj;let e0:=r1.nil_iff.mpr χ;exact Ex! _
  (Iw! tuple_addW0 a dd oj sl ic (ES! e0)) #[ho,kj,#[.ref b,H,I,χ,q]]
abbrev big:Nat:=100000
def dL(h:n<=big):n<=sizeLine:=LX h xV!
def Al:D->D->ι D
 |.int i,.int j=>BA! (i+j)
 |.str x,.str y=>if cB!+cA_<=big then FN! (x++y) else υ
 |.tup xs,.tup ys=>if h_+aj_<=big then EB! eG! else υ
 |.lst xs,.lst ys=>if h_+aj_<=big then o8! eG! else υ
 |_,_=>υ
def Rc(KF:zR!):R2:=λx y H Q=>Rb (λi j=>.int (i+j)) x y H Q\/((∃i j,x=.str i/\y=.str j/\i.length+j.length<=sizeLine/\Q (.str (i++j)) H)\/(AF KF x y H Q\/(Xg KF x y H Q\/AG KF x y H Q)))
def aK:Gj! eZ_ Rc:=d1r.or (a8h.or (c5z.or (b9h.or c6a)))
protected def aW{KF:zR!}:Hv_ Rc Al:=by
 show"!1";delta Al at e;show"!:"
 .show"!A";exact .inl #[_,_,χ,χ,eg!]
 .show"!w";show"!:"
  .show"!H";exact FL! #[_,_,χ,χ,dL hl,xY!]
  .rcases e
 .show"!X";let#[b,ws,rfl,qb,rb]:=bX ry;show"!:"
  .show"!H";let l1:=aL ra;let l2:=aL rb;by_cases hv:vs=[]
   .subst hv;exact KJ_ (.inl #[a,b,ws,χ,χ,ki!,oT!,k _ G H aM_ ?_]);let:(_:d!)=[]:=QY.mp l1;rw[this,LY];exact Ao.tup qb rb
   .exact Er_ (.inl #[a,b,vs,ws,χ,χ,ki!,oT!,hv,by rw[<-l1,<-l2];exact dL hl,λhw=>?_,λhw p hp=>?_])
    .subst hw;let:(_:d!)=[]:=QY.mp l2;exact k _ G H aM_ ?_;rw[this,LW];exact Ao.tup qa ra
    .exact k _ _ _ kj! (fU hi_ (dJ ra rb))
  .rcases e
 .show"##";let#[b,ws,rfl,qb,rb]:=bW ry;show"!:"
  .show"!H";exact KJ_ (.inr #[a,b,vs,ws,χ,χ,sub.seq qa,sub.seq qb,by rw[<-aL ra,<-aL rb];exact dL hl,λp hp=>k _ _ _ kj! (dW hi_ (dJ ra rb))])
  .rcases e
 .rcases e
def Qj(c:tm!)(g:Int->Int->D):D->D->ι D
 |.int i,.int j=>if c i j=τ then ψ bw_ else υ
 |_,_=>υ
def a1a{KF:zR!}(hc:∀i j,c i j=τ->C i j)(hg:x3!):Gy KF (rI C gv) (Qj c g):=by
 show"!1";delta Qj at e;show"!:"
 .obtain rfl:=bA rx;obtain rfl:=bA ry;show"!:"
  .rename_i h;rcases e;exact#[_,_,χ,χ,hc _ _ h,x4!]
  .rcases e
 .rcases e
def Hf(g:Int->Int->D):D->D->ι D
 |.int i,.int j=>ψ bw_
 |_,_=>υ
def tJ{KF:zR!}(hg:x3!):Gy KF (Rb gv) (Hf g):=by
 show"!1";delta Hf at e;show"!:"
 .show"!A";exact#[_,_,χ,χ,x4!]
 .rcases e
def Gu:D->D->ι D:=Hf λi j=>.int (i - j)
def kQ{KF:zR!}:Gy KF tn! Gu:=tJ λ_ _ _=>Ao.int
def Vg(i j:Int):Bool:=(decide (-gw!<i)&&decide (i<2 ^ 64))||(decide (-gw!<j)&&decide (j<2 ^ 64))
def d1w{KF:zR!}:Gy KF m7! (He_ Vg (i*j)):=a1a (λi j h=>by
 delta Vg at h;simp![Bool.or_eq_true,LS,LV]at h;exact h) λ_ _ _=>Ao.int
def d1x{KF:zR!}:Gy KF m8! (He_ x6! (i%j)):=a1a (λi j h=>by simpa using h) λ_ _ _=>Ao.int
def c6i{KF:zR!}:Gy KF m7_ (He_ x7! (i / j)):=a1a (λi j h=>by
 simp![LS,LV]at h;exact h) λ_ _ _=>Ao.int
def d1v{KF:zR!}:Gy KF m9! (He_ x9! m8_):=a1a (λi j h=>by
 simp![LS,LV]at h;exact#[h.1.1,h.1.2,h.2]) λ_ _ _=>Ao.int
def d5u{KF:zR!}:GU_ na_ na!:=tJ λ_ _ _=>Ao.bl
def d5w{KF:zR!}:GU_ nc! nb_:=tJ λ_ _ _=>Ao.bl
def d5x{KF:zR!}:GU_ nd! nc_:=tJ λ_ _ _=>Ao.bl
def Ql(x y:Str):Bool:=!decide (y.cps.toList<x.cps.toList)
def b4r:Ga X nb! (λx y H Q=>∃i j,x=.str i/\y=.str j/\Q ya_ H):=by intro hb s Z H x y v u Q I rx ry h;let#[i,j,rfl,rfl,q]:=h;let#[t,rfl]:=rx;let#[t',rfl]:=ry;exact PySem.P.le_str (eZ I q χ)
def Il:D->Bool
 |.non=>τ
 |_=>θ
def Pl:D->D->ι D
 |x,.non=>C2! (Il x)
 |_,_=>υ
def yJ{KF:zR!}(r:Ev_ d x):decide (x=V.non)=Il d:=by
 cases d with
 |non=>cases eP r;rfl
 |bl b=>cases dI r;rfl
 |int b=>cases bA r;rfl
 |str b=>cases cH r;rfl
 |tup b=>let#[a,vs,rfl,_]:=bX r;rfl
 |lst b=>let#[a,vs,rfl,_]:=bW r;rfl
 |fn b=>cases fY r;rfl
 |dk b=>let#[a,rfl,_]:=d0w r;rfl
def a8p{KF:zR!}:Gy KF tv_ Pl:=by
 show"!1";delta Pl at e;show"!:"
 .show"!h"
 .rcases e
def Bn:D->D->ι D
 |x,.non=>C2! (!Il x)
 |_,_=>υ
def nE{KF:zR!}:Gy KF tw! Bn:=by
 show"!1";delta Bn at e;show"!:"
 .show"!h"
 .rcases e
def Ah:D->D->ι D
 |.tup xs,.int i=>Ff xs i
 |.lst xs,.int i=>Ff xs i
 |.str x,.int i=>if cB!<=big then(Ff x.cps.toList i).map λc=>.str ak! else υ
 |_,_=>υ
def oZ{KF:zR!}(r:cN!)(h:Ff ds i=ψ d):∃v,Ff vs i=ψ v/\Ev_ d v:=by delta Ff at h ⊢;let#[j,Y,h2]:=KH.mp h;let#[v,h3,h4]:=gW r h2;exact#[v,KH.mpr #[j,by rw[<-aL r];exact Y,h3],h4]
def aM{KF:zR!}:Hv_ GP Ah:=by
 show"!1";delta Ah at e;show"!:"
 .show"!X";show"#R";exact FL! #[a,vs,_,v,χ,χ,ki!,Y,yc!]
 .show"##";show"#R";exact .inl #[a,vs,_,v,χ,χ,sub.seq qa,Y,yc!]
 .obtain rfl:=cH rx;obtain rfl:=bA ry;show"!:"
  .rename_i hl;let#[c,Y,rfl]:=KZ.mp e;exact Er_ #[_,_,c,χ,χ,dL hl,Y,xY!]
  .rcases e
 .rcases e
def Iu(xs:aa_)(lo hi:aF_):μ α:=Jo_ nS! nS_
def a3z{KF:zR!}(r:cN!)(lo hi:aF_):Fj_ (Iu ds lo hi) (Tg vs lo hi):=by delta Iu Tg;rw[aL r];exact qX _ (qY _ r)
section
variable{pos p2:Pos}
inductive AZ(KF:zR!)(own:o!)(o:oX_)(Z:St)(H:Hp)(Q:uH!):Prop
 |mk (G:Hp) (ρ:Ag) (i:aF_) (r:cj!) (e:o ρ=ψ i) (k:∀G' H',E0_ G H->Q i H'):FM_ AZ o Z H Q
def Bc:Ag->ι oX!:=λ_=>ψ υ
def Aq(f:p!):Ag->ι oX!:=λρ=>(af_).bind λd=>match d with|.int i=>ψ d5!|_=>υ
def dN:PO X υ (FK_ AZ Bc):=by rintro hb s Z H Q I ⟨G,ρ,i,er,e,k⟩;rcases e;exact LE_ c5k (k G H hd!)
def cW(h:ds!):PO X iQ! (FK_ AZ (Aq f)):=by
 rintro hb s Z H Q I ⟨G,ρ,i,er,e',k⟩;let#[d,e1,e2]:=KH.mp e';exact c5j h.ok hb s Z H Q I #[G,ρ,d,er,e1,λv G' H' s' r'=>?_];cases d<;>first
  |cases e2
  |skip
 obtain rfl:=bA r';exact F6_ oM!
def Ia:D->Em! Int->Em! Int->ι D
 |.tup xs,lo,hi=>if Ff! 0 lo=0/\Lk_ hi=h_ then υ else EB! (Iu xs lo hi)
 |.lst xs,lo,hi=>o8! (Iu xs lo hi)
 |_,_,_=>υ
def Fh(f:p!)(ol oh:oX_):Ag->ι D:=λρ=>(af_).bind λd=>(ol ρ).bind λl=>(oh ρ).bind λh=>Ia d l h
def dA{lo hi:Em! Expr}(ha:X!)(hl:yd_)(hh:ye_):Ek! oY_ (Fh fa ol oh):=
 eW (b8u (AO.or d0o c4n) ha.ok hl hh) λZ G H Q ρ d er e k=>by
  show"!;";show"!C";let sub:=s4.sub;delta Ia at e;show"!:"
  .show"!:"
   .rcases e
   .rename_i hw;rcases e;let#[p,vs,rfl,q,rr]:=bX r3;exact .inl #[p,vs,χ,cE sub q,?_,λp hp=>k _ _ _ yh_ (fU hi_ (a3z rr l h))];rw[<-aL rr];exact hw
  .rcases e;let#[p,vs,rfl,q,rr]:=bW r3;exact .inr #[p,vs,χ,oZ!,λp hp=>k _ _ _ yh_ (dW hi_ (a3z rr l h))]
  .rcases e
def HU:D->Value
 |.non=>.type "NoneType"
 |.bl _=>.type "bool"
 |.int _=>.type "int"
 |.str _=>.type "str"
 |.tup _=>.type "tuple"
 |.lst _=>.type "list"
 |.fn _=>.none
 |.dk _=>.none
def GQ(KF:zR!)(T:String):μ V->Hp->VK->Prop:=λxs H Q=>∃x d b,xs=[x,.ty T]/\Ev_ d x/\J4_ d=ψ b/\(∀a,d≠.fn a)/\(∀a,d≠.dk a)/\Q aJ! H
def c3l:Ku X kl! (GQ X.K T):=by
 intro hb s Z H xs us Q I r h;let#[x,d,b,rfl,rx,e,hf,uz,q]:=h;let#[u,w',rfl,r1,r2]:=yA r;subst r2;let fin:∀tk,E7! mF! {s with toks:=tk}:=λtk=>#[.bl b,H,I.tok tk,χ,q];cases d with
 |non=>cases eP rx;subst r1;exact EY_ W.kitx_none
 |bl y=>cases dI rx;subst r1;exact EY_ W.kitx_bool
 |int y=>cases bA rx;let#[t,rfl]:=r1;exact EY_ W.kitx_int
 |str y=>cases cH rx;let#[t,rfl]:=r1;exact EY_ W.kitx_str
 |tup ys=>
  show"!X";subst r1;let#[its,_,#[o,Y,h2,_],_]:=EH_ qa;exact Jp_ W.kitx_tuple
 |lst ys=>
  show"##";subst r1;let#[its,_,pl,_]:=FU! qa;let#[o,n,Y,h2,_]:=pl;exact Jp_ W.kitx_list
 |fn a=>exact Ew! (hf a)
 |dk a=>exact Ew! (uz a)
def Tc(T:String):D->Em! Bool
 |.non=>Ku! T
 |.bl _=>E5_ T T
 |.int _=>K4! T
 |.str _=>K4_ T
 |.tup _=>KE! T
 |.lst _=>KK! T
 |.fn _=>υ
 |.dk _=>υ
structure Xz(KF:zR!)(T:String):Prop where
 ok:∀d b,Tc T d=ψ b->J4_ d=ψ b
def a1u:Ll! kl_=Ku! "int":=by decide+kernel
def a5h:Ll! b0!=E5_ "int" "int":=by decide+kernel
def a1y:Ll! bZ_=K4! "int":=by decide+kernel
def a1s:Ll! b0_=K4_ "int":=by decide+kernel
def a1q:Ll! bm!=KE! "int":=by decide+kernel
def a1w:Ll! km!=KK! "int":=by decide+kernel
def b2r{KF:zR!}:Xz KF "int":=⟨λd b h=>match d,b,h with
 |.non,b,h=>by rcases h;exact a1u
 |.bl _,b,h=>by rcases h;exact a5h
 |.int _,b,h=>by rcases h;exact a1y
 |.str _,b,h=>by rcases h;exact a1s
 |.tup _,b,h=>by rcases h;exact a1q
 |.lst _,b,h=>by rcases h;exact a1w
 |.fn _,b,h=>by rcases h
 |.dk _,b,h=>by rcases h⟩
def xR:Ll_ kl_=Ku! "bool":=by decide+kernel
def a1z:Ll_ b0!=E5_ "bool" "bool":=by decide+kernel
def xU:Ll_ bZ_=K4! "bool":=by decide+kernel
def xQ:Ll_ b0_=K4_ "bool":=by decide+kernel
def xP:Ll_ bm!=KE! "bool":=by decide+kernel
def xS:Ll_ km!=KK! "bool":=by decide+kernel
def c1h{KF:zR!}:Xz KF "bool":=⟨λd b h=>match d,b,h with
 |.non,b,h=>by rcases h;exact xR
 |.bl _,b,h=>by rcases h;exact a1z
 |.int _,b,h=>by rcases h;exact xU
 |.str _,b,h=>by rcases h;exact xQ
 |.tup _,b,h=>by rcases h;exact xP
 |.lst _,b,h=>by rcases h;exact xS
 |.fn _,b,h=>by rcases h
 |.dk _,b,h=>by rcases h⟩
def a1t:Lm! kl_=Ku! "str":=by decide+kernel
def a5g:Lm! b0!=E5_ "str" "str":=by decide+kernel
def a1x:Lm! bZ_=K4! "str":=by decide+kernel
def a1r:Lm! b0_=K4_ "str":=by decide+kernel
def a1p:Lm! bm!=KE! "str":=by decide+kernel
def a1v:Lm! km!=KK! "str":=by decide+kernel
def a2f{KF:zR!}:Xz KF "str":=⟨λd b h=>match d,b,h with
 |.non,b,h=>by rcases h;exact a1t
 |.bl _,b,h=>by rcases h;exact a5g
 |.int _,b,h=>by rcases h;exact a1x
 |.str _,b,h=>by rcases h;exact a1r
 |.tup _,b,h=>by rcases h;exact a1p
 |.lst _,b,h=>by rcases h;exact a1v
 |.fn _,b,h=>by rcases h
 |.dk _,b,h=>by rcases h⟩
def wB:Lm_ kl_=Ku! "tuple":=by decide+kernel
def xV:Lm_ b0!=E5_ "tuple" "tuple":=by decide+kernel
def wD:Lm_ bZ_=K4! "tuple":=by decide+kernel
def wA:Lm_ b0_=K4_ "tuple":=by decide+kernel
def vZ:Lm_ bm!=KE! "tuple":=by decide+kernel
def wC:Lm_ km!=KK! "tuple":=by decide+kernel
def nH{KF:zR!}:Xz KF "tuple":=⟨λd b h=>match d,b,h with
 |.non,b,h=>by rcases h;exact wB
 |.bl _,b,h=>by rcases h;exact xV
 |.int _,b,h=>by rcases h;exact wD
 |.str _,b,h=>by rcases h;exact wA
 |.tup _,b,h=>by rcases h;exact vZ
 |.lst _,b,h=>by rcases h;exact wC
 |.fn _,b,h=>by rcases h
 |.dk _,b,h=>by rcases h⟩
def Jh(T:String)(f:p!):Ag->ι D:=λρ=>(af_).bind λd=>J5! T d
def jY(ht:Xz X.K T)(hg:o1!)(hm:o1_)(ml:U_)(pz:eP!)(hv:o2!)(hv2:Es_ x=ψ gO!)(ha:X!)
  (ji:eP_:=by decide)(jj:D!:=by decide)
  (he:CG_ [a,cQ_]=cA!::CG_ [cQ_]:=by rfl)(jz:CG_ [cQ_]=(θ,eval dt_ X.env)::Gc! starEach:=by rfl)
  (ay:(backTo pos (CG_ [cQ_])).any b_=false:=by rfl):Ek! (.Call (.Name "isinstance" p) [a,cQ_] [] pos) (Jh T fa):=
 eW (pE c3l hg hm hv (cX ha.ok (cX (c5s (v:=V.ty T) ml pz hv2 χ ji jj) fM jz) he) a_ a_ he ay) λZ G H Q ρ d er e k=>by
  show"!;";let#[b,e2,rfl]:=KZ.mp e;exact KI_ #[v,x,b,χ,r1.mono s1.sub,ht.ok x b e2,yr!,yr!,xH!]
def gV{KF:zR!}(h:Fj_ [d] vs):∃v,vs=[v]/\Ev_ d v:=by let#[v,r,rfl,Y,h2]:=bS h;obtain rfl:=cR h2;exact#[v,χ,Y]
def Be:μ D->ι D
 |[.tup xs]=>BA! h_
 |[.lst xs]=>BA! h_
 |[.str x]=>if cB!<=big then BA! cB! else υ
 |_=>υ
protected def dD{KF:zR!}:Qo KF yt! Be:=by
 show"!d";delta Be at e;show"!:"
 .show"!K";let#[a,ws,rfl,q,rr]:=bX rv;rcases e;exact#[_,_,χ,.inr #[ws,cE sub q,aL rr],eg!]
 .show"!K";let#[a,ws,rfl,q,rr]:=bW rv;rcases e;exact#[_,_,χ,.inl #[ws,oZ!,aL rr],eg!]
 .show"!K";obtain rfl:=cH rv;show"!:"
  .show"!H";exact#[_,_,χ,#[dL hl,χ],eg!]
  .rcases e
 .rcases e
def Zr:μ D->ι D
 |[.int i]=>BA! i6_
 |_=>υ
def d3u{KF:zR!}:Qo KF tF! Zr:=by
 show"!d";delta Zr at e;show"!:"
 .show"!K";obtain rfl:=bA rv;rcases e;exact F6_ eg!
 .rcases e
def BR:μ D->ι D
 |[.str x]=>if cB!=1 then ψ tH_ else υ
 |_=>υ
protected def d3t{KF:zR!}:Qo KF tI! BR:=by
 show"!d";delta BR at e;show"!:"
 .show"!K";obtain rfl:=cH rv;show"!:"
  .show"!H";exact#[_,χ,hl,eg!]
  .rcases e
 .rcases e
def tZ:∀{bs:kn!} {us:n_},Av (bs.map V.bl) us->us=bs.map Value.bool
 |[],_,.nil=>rfl
 |b::bs,_,.cons r t=>by subst r;rw[tZ t];rfl
def DR(KF:zR!):μ V->Hp->VK->Prop:=λxs H Q=>∃(p:sS!) (bs:kn!),xs=[.ref p]/\GC_ p (bs.map V.bl)/\FC! o3_
def b6b:∀(bs:kn!),((Fv_ bs.length).all λi=>(bs[i]?).getD τ)=bs.all id:=λbs=>by
 rw[NY,OC,OC];show"#<"
 .intro h x hx;let#[i,hi,rfl]:=RQ.mp hx;let:=h i (RY.mpr hi);simpa[hi]using this
 .intro h i hi;let ig:=RY.mp hi;simpa[ig]using h bs[i] (OU ig)
def qK(hc:aE!):Ku X yx_ (DR X.K):=by
 intro hb s Z H xs us Q I r h;let#[p,bs,rfl,hq,q]:=h;let#[u,rfl,r1]:=oR r;subst r1;let#[its,rv,pl,hz]:=FU! hq;let e:=tZ rv;subst e;let hl:=pl.isList;let av:p<k_:=by let#[_,e,_]:=hl;exact LR e
 exact call_all_walk (J3! hl);exact⟨k_,[k_,p],[k_],(kn_).toArray.size,_,_,λi=>(bs[i]?).getD τ,χ,Walks.list (A:=X.A.in1) aS_ _ p (MN av) (kn_).toArray,
  #[eW_,hl.push _],λi v s' Q' E' hP hQ=>?_,λh' tk hk=>?_⟩
 .let YZ:kn_[i]?=ψ v:=by simpa using hP
  rw[MO]at YZ;let#[b,J,rfl]:=KZ.mp YZ;simp![J,Option.getD_some]at hQ;exact ND hQ
 .let e:((List.range (kn_).toArray.size).all λi=>(bs[i]?).getD τ)=bs.all id:=by
   rw[KU,KP];exact b6b bs
  rw[e];exact#[.bl _,H,I.kept λb x ex=>hk b x (λhm=>by rw[LF.mp hm]at ex;exact PD _ (LR ex)) (KL _ ex),χ,q]
def Jo:μ D->KK_ Bool
 |[]=>ψ []
 |.bl b::r=>(Jo r).map (b::·)
 |_=>υ
def Pv:μ D->ι D
 |[.lst xs]=>(Jo xs).map λbs=>.bl o3_
 |_=>υ
def yK{KF:zR!}:∀{ds:d!} {vs:r_} {bs:kn!},CG! H->Jo ds=ψ bs->vs=bs.map V.bl
 |[],vs,bs,r,e=>by obtain rfl:=cR r;rcases e;rfl
 |d::ds,vs,bs,r,e=>by
  let#[v,t,rfl,r1,r2]:=bS r;cases d<;>first|cases e|skip
  let#[bs',e1,rfl]:=KZ.mp e;obtain rfl:=dI r1;rw[yK r2 e1];rfl
def a2x{KF:zR!}:Qo KF (DR KF) Pv:=by
 show"!d";delta Pv at e;show"!:"
 .show"!K";let#[a,ws,rfl,q,rr]:=bW rv;let#[bs,e1,rfl]:=KZ.mp e;let:=yK rr e1;subst this;exact#[a,bs,χ,oZ!,eh!]
 .rcases e
end
def Zt(KF:zR!)(ag:It)(ds:d!)(G1:Hp):Prop:=∀(i:δ) (G' H':Hp),Ax G1 G'->Ax G' H'->
 yy_/\yz!
inductive HZ(KF:zR!)(own:o!)(fi:bk_)(Z:St)(H:Hp)(R:iU!):Prop
 |mk (G:Hp) (ρ:Ag) (ds:d!) (o:cj!) (e:fi ρ=ψ ds) (k:∀ag G1 H1,Bz G H G1 H1->J5_ ag ds->R ag H1):FM_ HZ fi Z H R
structure DI(X:Cx)(own:o!)(tg iter:Expr)(fi:bk_):Prop where
 ok:I5_ iter (FK_ HZ fi)
section
variable{pos p2:Pos}
def zT(h:I5_ e wi)(hw:∀Z G H R ρ ds,ET_ X.K->fi ρ=ψ ds->(∀ag G1 H1,Bz G H G1 H1->Zt X.K ag ds G1->R ag H1)->wi Z H R):Gc_ DI e fi:=#[by rintro hb s Z H R I ⟨G,ρ,ds,er,e,k⟩;exact h hb s Z H R I (hw Z G H R ρ ds er e k)]
def Dx(f:p!):Ag->ι aG!:=λρ=>(af_).bind λd=>match d with|.lst xs=>ψ xs|_=>υ
def GZ(f:p!):Ag->ι aG!:=λρ=>(af_).bind λd=>match d with|.tup xs=>ψ xs|_=>υ
def a5q{KF:zR!}{ad:sS!}(q:Et KF G1 ad vs)(r:yB!):J5_ (HK KF ad) ds:=by intro i G' H' s1 s2;let q':Et KF H' ad vs:=s2.seq (s1.seq q);exact Go! vs r;let#[v,Y,h2]:=gW r hd;exact#[#[vs,v,q',Y],kp!];let#[e1,e2]:=hy;subst e1;let:=e2 vs q';rw[Y]at this;rcases this;exact#[G',kp_,h2.mono s1]
def eR(h:X!):Gc_ DI a (Dx fa):=zT (b1h h.ok) λZ G H R ρ ds er e k=>by
 let#[d,e1,e2]:=KH.mp e;cases d<;>first|cases e2|skip
 exact fw!;let#[p,vs,rfl,q,rr]:=bW r1;exact#[p,χ,#[vs,s1.sub.seq q],k _ G1 H1 s1 (a5q q rr)]
def Cr(n:δ):μ D:=(hl_).map λi=>.int (i:δ)
def Ft(f:p!):Ag->ι aG!:=λρ=>(af_).bind λd=>match d with|.int j=>if -1000<=j/\j<=100000 then ψ (Cr j.toNat)else υ|_=>υ
def b5k{KF:zR!}:J5_ (EX 0 n) (Cr n):=by intro i G' H' s1 s2;delta Cr;exact o5_;rw[MO]at hd;let#[j,hj,rfl]:=KZ.mp hd;let#[hl,he]:=LH.mp hj;rw[TM]at he;subst he;rw[NI]at hl;exact o6!;let#[e1,e2]:=hy;subst e1 e2;exact#[G',kp_,?_];rw[Int.zero_add];exact Ao.int
def iC(hg:eX_)(hm:eY!)(h:X!)(hs:s7_:=by rfl)(cz:kq_:=by rfl):
  DI X own tg s8! (Ft fa):=zT (b4m hg hm (cX h.ok fM cz) hs) λZ G H R ρ ds er e k=>by
 let#[d,e1,e2]:=KH.mp e;cases d<;>first|cases e2|skip
 rename_i j;let e3:(if -1000<=j/\j<=100000 then ψ (Cr j.toNat)else υ)=ψ ds:=e2;split at e3
 .rename_i hj;rcases e3;exact fw!;obtain rfl:=bA r1;exact#[j,χ,i!,i!,k _ G1 H1 s1 b5k]
 .rcases e3
def Ck(bnd:ck!)(ft:bY_)(fe:p!)(ρ:Ag):μ D->Em! aG!
 |[]=>ψ []
 |d::ds=>(kr!).bind λak=>(ft ak).bind λb=>if b then(fe ak).bind λy=>(FN_ ρ).map fw_ else FN_ ρ
def GD(KF:zR!)(g:TG)(bnd:ck!):Prop:=∀{x:V} {d:D} {Z:St} {G H:Hp} {ρ ak:Ag} {Q:iQ_},GD! Z ρ->Gb! d x->bnd d ρ=ψ ak->(∀cg,OR KF [] G H cg ak->Le ρ ak->Q cg H)->g x Z H Q
def Ar(i:δ):D->Ag->ι Ag:=λd ρ=>match ρ[i]? with|some none=>ψ bX_|_=>υ
def cK{KF:zR!}(i:δ):GD KF eT_ (Ar i):=by
 intro x d Z G H ρ ak Q er r e k;delta Ar at e;show"!:"
 .rename_i h;rcases e;exact k _ (er.set nofun r) ((Le.refl ρ).set h)
 .rcases e
def Pt(i j:δ):D->Ag->ι Ag:=λd ρ=>match d with
 |.tup [x,y]=>(Ar i x ρ).bind λak=>Ar j y ak
 |_=>υ
def Le.trans(a:Le ρ ak)(b:Le ak bf):Le ρ bf:=#[a.1.trans b.1,λi d h=>b.2 i d (a.2 i d h)]
def c7e{KF:zR!}(i j:δ):GD KF yD_ (Pt i j):=by
 intro x d Z G H ρ ak Q er r e k;delta Pt at e;show"!:"
 .let#[bf,e1,e2]:=KH.mp e;show"!^";show"!3";exact#[p,[v1,v2],χ,cE er.sub q,χ,v1,[v2],χ,?_];exact cK i er r1 e1 λcg qc l1=>#[v2,[],χ,?_];exact cK j qc r2 e2 λfg dz l2=>#[χ,k fg dz (l1.trans l2)]
 .rcases e
def Cn(nl:δ)(ix:o!)(fi:bk_)(bnd:ck!)(ft:bY_)(fe:p!):Ag->ι D:=λρ=>(fi ρ).bind λds=>if f_<=big then(FN_ oH!).map D.lst else υ
def d3s{KF:zR!}{Fin:c9!}
  (J:f_<=big)(gq:yE!)(hg:GD KF g bnd)(er:OR KF [] G1 H1 zf qe)(e:FN_ qe=ψ li)(k:∀ys G' H',E0_ G1 H1->Ic_ li->Fin ys H'):
  Vk ag g (AY KF [] ft) (tD KF [] fe) Fin zf H1:=by
 exact⟨λi m ys ae H'=>i<=f_/\m=f_ - i/\∃G' ws r,E0_ G1 H1/\OR KF [] G' H' ae qe/\Ic_ ws/\nJ!<=i/\Ck bnd ft fe qe (I8_ i)=ψ r/\ws++r=li,
  #[f_,ML _,χ,G1,[],li,Bz.refl er.sub,er,An.nil,ML _,e,χ],?_⟩
 rintro i m ys ae H' ⟨hi,rfl,G',ws,r,x,dr,a8,hw,dz,et⟩;exact yE_;let#[qf,qg]:=gq i G' H' x.g dr.sub;by_cases av:i<f_
 .right;let hd:ds[i]?=ψ ds[i]:=by simp[av]
  let zg:=OK av;rw[zg]at dz;delta Ck at dz;let#[ak,e1,dz]:=KH.mp dz;let#[b,e2,dz]:=KH.mp dz;let#[go,yl]:=qf _ hd;exact#[go,kr_];let#[G2,x2,r2]:=yl v H2 hy;exact hg (dr.grow x2) r2 e1 λcg qc u4=>#[G2,ak,b,qc,e2,λG3 H3 x3=>?_];let mz:=qc.grow x3;let om:=x.trans (x2.trans x3);cases b with
  |true=>
   let#[y,e3,dz]:=KH.mp dz;let#[zs,e4,rfl]:=KZ.mp dz;exact kX #[G3,ak,y,mz,e3,λu G4 H4 x4 r4=>#[_,?_,av,χ,G4,ws++[y],zs,om.trans x4,(mz.grow x4).le u4,?_,?_,e4,?_]]
   .omega
   .exact dJ yG! (E1_ r4)
   .rw[KO,PF];omega
   .rw[LZ];exact et
  |false=>
   exact lM #[_,?_,av,χ,G3,ws,r,om,mz.le u4,(pc!).mono x3.g,i!,dz,et];omega
 .left;let j0:i=f_:=by omega
  exact#[qg j0,k ys G' H' x ?_];rw[j0,UH]at dz;rcases dz;rw[LW]at et;subst et;exact a8
def gR
  (dq:do_)(db:dp!)(mj:∀y∈ch!,y.2=.local->scope.names.lookup y.1=ET! ψ)
  (jh:g7!)(cap:do!)(hix:ka!)(calm:aE!)(ax:DI X own tg iter fi)
  (hg:g7_)(qh:pc_)(hi:∀cl C au bo fp,JA_ yG_)(he:∀cl C au bo fp,DE ch_ [] gc fe)
  (hs:dc!:=by intro _;rfl):
  DE X own g4_ (Cn NL.length ix fi bnd ft fe):=
 eW yH_ λZ G H Q ρ d er e k=>by
  show"!M"
  .rename_i J;let#[li,e2,rfl]:=KZ.mp e;exact#[G,ρ,ds,er,e1,yI!];exact d3s J gq qh ((er.grow x1).cap NL.length ix hix) e2 λys G' H' x r p hp=>?_;exact k _ _ _ (x1.trans (x.trans hm_)) (dW pd! r)
  .rcases e
def sH:Oe X [] (AY X.K [] λ_=>ψ τ):=by rintro hb s Z H Q I ⟨G,ρ,b,er,e,k⟩;rcases e;exact LE_ a4h (k G H hd!)
def c9b(h:DT X [] c ft):Oe X [c] yG_:=a4g h.ok
end
inductive Fl where
 |nx (ρ:Ag)|rt (d:D)
structure SR(KF:zR!)(own:o!)(G0 F0 G H:Hp)(Z:St)(ρ:Ag):Prop where
 or:ET_ KF
 ext:Bz G0 F0 G H
 fr:∀i∈own,∀p,Z[i]?=ψ ci_->F0 p=υ
inductive FF(KF:zR!)(G0 F0:Hp)(own df:o!)(f:cS!)(E:Tl)(Z:St)(H:Hp):Prop
 |mk (G:Hp) (ρ:Ag) (r:Fl) (o:fx!) (e:f ρ=ψ r) (k:match(generalizing:=false) r with
  |.nx ρ'=>∀G' ae H',SR KF df G0 F0 G' H' ae ρ'->E.nx ae H'
  |.rt d=>∀v G' H',E0_ G0 F0->EY! G'->E.rt v H'):FF KF G0 F0 own df f E Z H
structure DS(X:Cx)(own df:o!)(st:Stmt)(f:cS!):Prop where
 ok:∀G0 F0,PS X st yK!
structure Yb(X:Cx)(own df:o!)(st:gk!)(f:cS!):Prop where
 ok:∀G0 F0,Nq X st yK!
section
variable{st:Stmt}{rest body:List Stmt}{pos p2:Pos}
def c9v(h:iO_)(hw:∀G0 F0 E Z G H ρ r,FK_ SR G0 F0 G H Z ρ->q1 ρ=ψ r->(match r with
  |.nx ρ'=>∀G' ae H',SR X.K bt G0 F0 G' H' ae ρ'->E.nx ae H'
  |.rt d=>∀v G' H',E0_ G0 F0->E1! G'->E.rt v H')->t E Z H):E4! DS st q1:=#[by rintro G0 F0 hb s Z H E I ⟨G,ρ,r,er,e,k⟩;exact h hb s Z H E I (hw G0 F0 E Z G H ρ r er e k)]
def SR.grow{KF:zR!}(s:fx!)(x:j8_):KW! G0 F0:=#[s.or.grow x,s.ext.trans x,s.fr]
def SR.set{KF:zR!}(s:fx!)(hi:aV!)(r:cO_):FM_ SR G0 F0 G H eK_ bX_:=
 ⟨s.or.set hi r,s.ext,λj hj p e=>by
  let ne:i≠j:=λz=>JB_ z;rw[MF ne]at e;exact s.fr j hj p e⟩
def Fm:Ag->ι Fl:=λρ=>ψ Z!
nonrec def sSeq(q1 q2:cS!):Ag->ι Fl:=λρ=>(q1 ρ).bind λr=>match r with|.nx ρ'=>q2 ρ'|.rt d=>ψ ag!
def dZ:Fk! Yb [] Fm:=⟨by
 rintro G0 F0 hb s Z H E I ⟨G,ρ,r,er,e,k⟩;rcases e;exact EJ! b1e E I (k G Z H er)⟩
def bG(Y:yK_)(h2:Yb X bt m7 rest q2):Yb X own m7 iP! (sSeq q1 q2):=⟨by
 rintro G0 F0 hb s Z H E I ⟨G,ρ,r,er,e,k⟩;exact uT pd_ (h2.ok G0 F0) hb s Z H E I ?_;let#[r1,e1,e2]:=KH.mp e;exact#[G,ρ,r1,er,e1,?_];cases r1 with
 |nx ρ'=>exact λG' ae H' dr=>#[G',ρ',r,dr,e2,k]
 |rt d=>
  rcases e2;exact k⟩
def bD(Y:yK_):E4! Yb [st] q1:=#[λG0 F0=>gM pd_]
def SR.free{KF:zR!}(s:fx!):SR KF [] G0 F0 fr! H Z ρ:=by
 let o:=s.or.full;exact#[o,#[j7_,s.ext.h,o.sub,bk!],aA_]
 .let z:=s.ext.g b u e;delta Js;split
  .exact JC_ z
  .exact z
 .delta Js at h;split at h
  .rename_i J;let#[i,hi,q]:=nG J;exact .inr (s.fr i hi b q)
  .exact s.ext.new b h
def a6h(h:Yb X [] m7 rest q1):Yb X own m7 rest q1:=#[by rintro G0 F0 hb s Z H E I ⟨G,ρ,r,er,e,k⟩;exact h.ok G0 F0 hb s Z H E I #[_,ρ,r,er.free,e,k]]
def By(f:p!):Ag->ι Fl:=λρ=>(af_).map Fl.rt
def bY(h:ds!):E4! DS mL! (By f):=c9v (b8f h.ok) λG0 F0 E Z G H ρ r er e' k=>by
 let#[d,e1,rfl]:=KZ.mp e';exact#[G,ρ,d,er.or,e1,λv G' H' x r=>k v G' H' (er.ext.trans x) r]
def Fd(i:δ)(f:p!):Ag->ι Fl:=λρ=>(af_).map λd=>.nx bX_
def fR(hN:aY_)(hi:ai_)(hx:be_)(h:ds!)(b8:aV!:=by decide)(hs:pe_:=by rfl)
  (hf:X.fn x=τ\/xy_ x=ET! some:=by first|exact .inl χ|exact .inr χ|assumption):Fk! DS yM! (Fd i f):=
 c9v yM_ λG0 F0 E Z G H ρ r er e' k=>by
  let#[d,e1,rfl]:=KZ.mp e';exact#[G,ρ,d,er.or,e1,λv G' H' x r=>k G' _ H' ((hn_).set b8 r)]
def Iz(ft:bY_)(q1 q2:cS!):Ag->ι Fl:=λρ=>(hg!).bind λb=>if b then q1 ρ else q2 ρ
def iB(hc:Fi! DT c)(Y:E4! Yb b1 q1)(h2:E4! Yb b2 q2):E4! DS pf! (Iz ft q1 q2):=⟨by
 rintro G0 F0 hb s Z H E I ⟨G,ρ,r,er,e',k⟩;exact HH! pd_ (h2.ok G0 F0) E I ?_;let#[x,e1,e2]:=KH.mp e';exact#[G,ρ,x,er.or,e1,λG' H' x'=>?_];cases x with
 |true=>exact kX yP_
 |false=>exact lM yP_⟩
def Qd(i:δ)(fs:bk_):Ag->ι Fl:=λρ=>(fu!).bind λds=>if f_<=1000 then Fw! pf_ else υ
def SR.ownNew{KF:zR!}(s:fx!)(hi:aV!)(hl:i<eJ!)(r:kt_)(hp:cN_):
  SR KF (i::own) G0 F0 G j6_ (Z.set i ci_) pf_:=by
 let zh:i<j8!:=by rw[s.or.len];exact hl
 let zi:Ax H j6_:=iW hp;show"#9";exact#[#[yQ!,by rw[PY,PY,s.or.len],yQ_,ku_,λj hj k hk hne a b e1 e2=>?_],#[s.ext.g,s.ext.h.trans zi,yQ!,s.ext.new],λj hj a e=>?_]
 .let d6:i≠j:=λz=>n (zG_ z KM);rw[MF d6]at q ⊢;exact s.or.at_ j d q λz=>n (KI _ z)
 .obtain z|z:=KR.mp hj
  .subst z;exact#[p,ds,vs,by rw[MV zh],by rw[MV hl],cC,s.or.sub.free hp,r]
  .let d6:i≠j:=λy=>hi (y▸z);let#[a,si,ij,Y,h2,h3,h4,h5]:=Hf! j z;exact#[a,si,ij,by rw[MF d6];exact Y,by rw[MF d6];exact h2,by rw[bC (ne h3)];exact h3,h4,h5]
 .let look:∀{j:δ} {a:sS!},j∈i::own->(Z.set i ci_)[j]?=ψ kv!->(j=i/\a=p)\/(j≠i/\j∈own/\Z[j]?=ψ kv!/\a≠p):=λ{j a} hj e=>by
   by_cases d6:i=j
   .subst d6;rw[MV hl]at e;cases e;exact .inl aK_
   .rw[MF d6]at e;let hm:=(KR.mp hj).elim yS_ id;let#[a',si,ij,Y,h2,h3,h4,h5]:=Hf! j hm;rw[e]at h2;cases h2;exact .inr #[MD d6,hm,e,ne h3]
  obtain⟨z1,z2⟩|⟨z1,z2,z3,z4⟩:=look hj e1
  .obtain⟨y1,y2⟩|⟨y1,y2,y3,y4⟩:=look hk e2
   .exact Ei_ (z1.trans y1.symm) hne
   .rw[z2];exact MD y4
  .obtain⟨y1,y2⟩|⟨y1,y2,y3,y4⟩:=look hk e2
   .rw[y2];exact z4
   .exact s.or.dis j z2 k y2 hne a b z3 y3
 .by_cases d6:i=j
  .subst d6;rw[MV hl]at e;cases e;exact s.ext.h.free hp
  .rw[MF d6]at e;exact s.fr j ((KR.mp hj).elim yS_ id) a e
def mS{p3 p4:Pos}(hN:aY_)(hi:ai_)(hx:be_)(h:kf_)(b8:aV!:=by decide)
  (hf:X.fn x=τ\/xy_ x=ET! some:=by first|exact .inl χ|exact .inr χ|assumption)(c7:swapsWith ph_ (ψ (.Name x p3)) p4.line X.env=pure false:=by rfl):DS X own (i::own) (.Assign [.Name x p3] ph_ p4) (Qd i fs):=⟨by
  rintro G0 F0 hb s Z H E I ⟨G,ρ,r,er,e',k⟩;exact uU hN hi hx kg! c7 hf hb s Z H E I ?_;let hl:i<eJ!:=by rw[I.len];exact(LH.mp hi).1
  let#[ds,e1,e2]:=KH.mp e';split at e2
  .rename_i bi;rcases e2;exact#[G,ρ,ds,er.or,e1,λvs G' H' x r=>#[by rw[<-aL r];exact fG bi,λp hp=>k G' _ _ ((hn_).ownNew b8 hl r hp)]]
  .rcases e2⟩
def SR.upd{KF:zR!}(s:fx!)(hi:ef!)(hp:rL_)(r:kt_):
  SR KF own G0 F0 G j6_ Z pf_:=by
 let#[p',si,ij,Y,h2,h3,h4,h5]:=Hf! i hi;rw[hp]at h2;cases h2;let hG:∀{b u},G b=ψ u->b≠p:=λe=>cO e h4;let hF:∀{b u},F0 b=ψ u->b≠p:=λe=>cO e (s.fr i hi p hp);let zh:=(kv_).1;exact#[#[yU!,by rw[PY,s.or.len],yQ_,ku_,s.or.dis],#[s.ext.g,λb u e=>by rw[bC (hF e)];exact s.ext.h b u e,yU!,s.ext.new],s.fr]
 .let d6:i≠j:=λz=>n (z▸hi);rw[MF d6]at q;exact s.or.at_ j d q n
 .by_cases d6:i=j
  .subst d6;exact#[p,ds,vs,by rw[MV zh],hp,cC,h4,r]
  .let#[a,ds2,Y0,g1,g2,g3,g4,g5]:=Hf! j hj;let ne:=MD (s.or.dis i hi j hj d6 p a hp g2);exact#[a,ds2,Y0,by rw[MF d6];exact g1,g2,by rw[bC ne];exact g3,g4,g5]
def Lu(i:δ)(f:p!):Ag->ι Fl:=λρ=>(af_).bind λd=>match ρ[i]? with|some (some (.lst ds))=>if f_<big then ψ yW! else υ|_=>υ
def kI(b8:ef!:=by decide)(h:ds!)(hN:ai_:=by rfl)(hv:cx!:=by first|exact Or.inl χ|exact Gk! b!|exact Gk! a4!)
  (hd:D!:=by decide)(cf:cx_:=by decide)
  (hst:ho_:=by rfl)(jc:(Hd_ jO_&&FM! cH_
   &&decide yW_)=true:=by rfl) (jd:d8!:=by rfl)
  (jb:Eo_ bn! "append" kw_=Ey_ bn!:=by rfl) (je:hp!:=by rfl) (gr:Er! yX! υ=pure false:=by rfl):
  DS X own own (H8_ yX!) (Lu i f):=⟨by
  rintro G0 F0 hb s Z H E I ⟨G,ρ,r,er,e',k⟩;exact JD! (yM SJ PySem.F.slot_list_append PySem.F.type_list_append yX kb! yY! jb jc jd hst je);let#[d,e1,e2]:=KH.mp e';let#[p,ds,vs,Y,h2,h3,h4,h5]:=I9! i;rw[Y]at e2;simp only at e2;split at e2
  .rename_i hl;rcases e2;exact#[fA!,h2,pj!,G,ρ,d,er.or,e1,λv G' H' x r=>#[p,vs,v,χ,χ,x.h _ _ h3,?_,?_]]
   .rw[<-aL h5];exact LQ hl (dL v!)
   .exact k G' Z _ ((hn_).upd b8 h2 (dJ pk_ (E1_ r)))
  .rcases e2⟩
def Ue(i:δ)(fx fv:p!):Ag->ι Fl:=λρ=>(fv ρ).bind λd=>(fx ρ).bind λx=>match x,ρ[i]? with|.int j,some (some (.lst ds))=>(pl_).map λk=>.nx yZ_|_,_=>υ
def c2l(b8:ef!:=by decide)(hx:y1!)(hv:Ek! e fv)(hN:ai_:=by rfl)(zj:cx!:=by first|exact Or.inl χ|exact Gk! b!|exact Gk! a4!)
  (hd:D!:=by decide)(cf:cx_:=by decide)
  (ha:∀v,assign y0_ X.env v=(do
   let ov <-holding [v] kw_
   let iv <-holding [v,ov] (eval ix X.env)
   standAt p2
   holding eU! mO!
   release eU! []):=by intro _;rfl)
  (hs:FB_ kx_=pure false:=by rfl) (hw:GA! kx_=pure none:=by rfl)
  (Y:EP! kx_=[assign y0_ X.env]:=by rfl):
  DS X own own (FE! kx_ e) (Ue i fx fv):=⟨by
  rintro G0 F0 hb s Z H E I ⟨G,ρ,r,er,e',k⟩;exact b8j hv.ok (b8r y2! hx.ok a3q ha) hs hw Y hb s Z H E I ?_;let#[d,e1,e2]:=KH.mp e';let#[z,e3,e4]:=KH.mp e2;let#[p,ds,vs,Y,h2,h3,h4,h5]:=I9! i;rw[Y]at e4;cases z<;>first|cases e4|skip
  rename_i j;let#[n,e5,rfl]:=KZ.mp (show(pl_).map _=ψ r from e4);exact#[G,ρ,d,er.or,e1,λv G' H' x r=>#[fA!,h2,G',ρ,cz_,er.or.grow x,e3,y2_]];obtain rfl:=bA r2;exact#[p,vs,j,n,χ,χ,y3_,by rw[<-aL h5];exact e5,?_];exact KC! (uP (r.mono x2.g) n ((pk_).mono x2.g))⟩
def Kr(i:δ)(fx:p!):Ag->ι D:=λρ=>(fx ρ).bind λx=>match x,ρ[i]? with|.int j,some (some (.lst ds))=>Ff ds j|_,_=>υ
def rX(b8:ef!:=by decide)(hx:y1!)(hs:Ol ix)(hN:ai_:=by rfl)(zj:cx!:=by first|exact Or.inl χ|exact Gk! b!|exact Gk! a4!)
  (hd:D!:=by decide)(cf:cx_:=by decide):Ek! (Lu_ bn! ix) (Kr i fx):=
 eW (b8z b2o y2! hx.ok hs) λZ G H Q ρ d er e k=>by
  let#[z,e3,e4]:=KH.mp e;let#[p,ds,vs,Y,h2,h3,h4,h5]:=er.own_ i b8;rw[Y]at e4;cases z<;>first|cases e4|skip
  rename_i j;let e5:=e4;let#[v,e6,r6]:=oZ h5 e5;exact#[fA!,h2,G,ρ,cz_,er,e3,y2_];obtain rfl:=bA r2;exact#[p,vs,j,v,χ,χ,Et.of (x2.h _ _ h3),e6,k v G2 H2 x2 (r6.mono x2.g)]
def No(bnd:ck!)(q:cS!):μ D->Ag->Em! Fl
 |[],ρ=>ψ Z!
 |d::ds,ρ=>(kr!).bind λak=>(q ak).bind λr=>match r with|.nx bf=>No bnd q ds bf|.rt d=>ψ ag!
def Uf(fi:bk_)(bnd:ck!)(q:cS!):Ag->ι Fl:=λρ=>(fi ρ).bind λds=>No bnd q ds ρ
def Ps(F0 G1:Hp):Hp:=λb=>match F0 b with|some o=>ψ o|none=>G1 b
def SR.base{KF:zR!}(s:FM_ SR G0 F0 G1 H1 Z ρ):FM_ SR G1 hq! G1 H1 Z ρ:=by
 exact#[s.or,#[Ax.refl _,j7_,s.or.sub,dv!],y5!]
 .delta Ps at e;show"!:"
  .rename_i o ho;rcases e;exact s.ext.h b _ ho
  .exact JC_ e
 .let#[p',ds,vs,Y,h2,h3,h4,h5]:=Hf! i hi;rw[e]at h2;cases h2;delta Ps;rw[HX_ s.fr];exact h4
def wR(x:y5_)(y:E0_ G1 hq!):E0_ G0 F0:=by
 exact#[x.g.trans y.g,λb u e=>y.h b u ?_,y.sub,bk!]
 .delta Ps;rw[e]
 .obtain z|z:=y.new b h
  .exact x.new b z
  .right;delta Ps at z;split at z
   .rcases z
   .assumption
def SR.unbase{KF:zR!}(x:y5_)(s:KW! G1 hq!):KW! G0 F0:=
 ⟨s.or,wR x s.ext,λi hi p e=>by
  let z:=HX_ s.fr;delta Ps at z;split at z
  .rcases z
  .assumption⟩
def Bu(i:δ):D->Ag->ι Ag:=λd ρ=>ψ bX_
def a9s(hp:go!)(hc:aE!)(ax:DI X own dt_ iter fi)(hN:aY_)(hi:ai_)(hx:be_)(J:Fk! Yb body q1)(b8:aV!:=by decide)
  (hf:X.fn x=τ\/xy_ x=ET! some:=by first|exact .inl χ|exact .inr χ|assumption)(hs:dc!:=by intro _;rfl):
  DS X own own (.For dt_ iter body [] pos) (Uf fi (Bu i) q1):=⟨by
 rintro G0 F0 hb s Z H E I ⟨G,ρ,r,er,e',k⟩;let#[ds,e1,e2]:=KH.mp e';let ik:H9! X (λE Z H=>∃A B,FF X.K A B own own q1 E Z H):=by rintro hb s Z H E I ⟨A,B,h⟩;exact J.ok A B hb s Z H E I h
 exact G9_ (bB hN hi hx hf) #[G,ρ,ds,er.or,e1,yI!];let Y1:=er.ext.trans x1;exact⟨λn m ae H'=>n<=f_/\m=f_ - n/\∃G' ρ',FK_ SR G1 hq! G' H' ae ρ'/\No (Bu i) q1 oB! ρ'=ψ r,
  #[f_,ML _,χ,G1,ρ,(er.grow x1).base,e2],?_⟩
 rintro n m ae H' ⟨hn,rfl,G',ρ',dr,e3⟩;let#[qf,qg]:=gq n G' H' dr.ext.g dr.or.sub;by_cases av:n<f_
 .right;let hd:ds[n]?=ψ ds[n]:=by simp[av]
  let zg:=OK av;rw[zg]at e3;delta No at e3;let#[ak,e4,e3]:=KH.mp e3;let#[r1,e5,e3]:=KH.mp e3;rcases e4;let#[go,yl]:=qf _ hd;exact#[go,λfg H2=>∃G2 bf,SR X.K own G1 hq! G2 H2 fg bf/\No (Bu i) q1 (I8_ aV_) bf=ψ r,by rintro fg H2 ⟨G2,bf,Y,h2⟩;exact#[f_ - aV_,i!,av,χ,G2,bf,Y,h2],kr_];let#[G2,x2,r2]:=yl v H2 hy;exact#[G1,Ps F0 G1,G2,_,r1,(dr.grow x2).set b8 r2,e5,?_];cases r1 with
  |nx bf=>exact λG3 iz H3 mz=>#[G3,bf,mz,e3]
  |rt d=>
   rcases e3;exact λw G3 H3 x3 r3=>k w G3 H3 (wR Y1 x3) r3
 .left;let j0:n=f_:=by omega
  exact pn_;rw[j0,UH]at e3;rcases e3;exact k G' ae H' (SR.unbase Y1 dr)⟩
def uD{KF:zR!}(s:J_)(r:kt_):GD! (L2.Ll N vs) cS_:=by
 let hl:=aL r;delta L2.Ll;exact#[s,by simp[hl],oF!,aA_,aA_];by_cases hi:i<f_
 .rw[OJ gI_,MO]at q;let#[d',Y,h2]:=KZ.mp q;rcases h2;let#[v,h3,h4]:=gW r Y;exact#[v,by rw[OJ (by simpa[<-hl]using hi),MO,h3];rfl,h4]
 .rw[fa!,PP]at q;split at q<;>cases q
end
def d3k{KF:zR!}{st:Stmt}
  (F:y7_)(S:dm_)
  (J:∀(ah:yg!) (A:xy!) (outer:ax_) (s:zP!) (H:Hp) (E:XK),Ai k po_->HY! Yb pp!)
  (hg:∀ds d,f_=P_->g ds=ψ d->q cS_=ψ ag!\/∃ρ,q cS_=ψ Z!/\d=.non):
  Eh P w KF mg base Nr R_ af fd ps pp_:=by
 exact y8_;let#[hl,G,ds,d,sub,r,e,kk]:=h;exact#[_,(y9!).ok G H,?_];let er:=uD (N:=N) sub r;rcases hg ds d (by rw[aL r];exact hl) e with z|⟨ρ,z,rfl⟩
 .exact#[G,_,_,zb!,z,λv G' H' x r=>kk v G' H' x r]
 .exact#[G,_,_,zb!,z,λG' ae H' dr=>kk _ G' H' dr.ext Ao.non]
mutual
noncomputable def Dt:D->D->Bool
 |.non,.non=>τ
 |.bl a,.bl b=>a==b
 |.bl a,.int b=>u6!==b
 |.int a,.bl b=>a==u6_
 |.int a,.int b=>a==b
 |.str a,.str b=>a==b
 |.tup xs,.tup ys=>Ig xs ys
 |.lst xs,.lst ys=>Ig xs ys
 |_,_=>θ
noncomputable def Ig:List D->List D->Bool
 |[],[]=>τ
 |x::xs,y::ys=>Dt x y&&Ig xs ys
 |_,_=>θ
end
mutual
noncomputable def Az:D->Bool
 |.fn _=>θ
 |.dk _=>θ
 |.tup xs=>Ca xs
 |.lst xs=>Ca xs
 |_=>τ
noncomputable def Ca:List D->Bool
 |[]=>τ
 |d::ds=>Az d&&Ca ds
end
section
variable{X:Cx}
def uC(I:d_)(h:kz!)(h':Hc_ a ws):False:=by let#[_,_,#[o,e,c,_],_]:=EH_ h;let#[_,_,#[o',n,e',c',_],_]:=FU! h';rw[e]at e';rcases e';rw[c]at c';exact Ei_ c' nofun
mutual
theorem a0q(I:d_):∀(d d':D) (v:V),Az d=τ->Az d'=τ->E1! H->Ao X.K H d' v->d=d'
 |.non,d',v,n,n',r,r'=>by
  obtain rfl:=eP r;cases d'<;>first
   |rfl
   |(delta Ao at r';cases r';done)
   |(let#[a,vs,e,_]:=bX r';cases e)
   |(let#[a,vs,e,_]:=bW r';cases e)
   |(delta Az at n';cases n')
 |.bl b,d',v,n,n',r,r'=>by
  obtain rfl:=dI r;cases d'<;>first
   |(cases dI r';rfl;done)
   |(delta Ao at r';cases r';done)
   |(let#[a,vs,e,_]:=bX r';cases e)
   |(let#[a,vs,e,_]:=bW r';cases e)
   |(delta Az at n';cases n')
 |.int b,d',v,n,n',r,r'=>by
  cases bA r;cases d'<;>first
   |(cases bA r';rfl;done)
   |(delta Ao at r';cases r';done)
   |(let#[a,vs,e,_]:=bX r';cases e)
   |(let#[a,vs,e,_]:=bW r';cases e)
   |(delta Az at n';cases n')
 |.str b,d',v,n,n',r,r'=>by
  cases cH r;cases d'<;>first
   |(cases cH r';rfl;done)
   |(delta Ao at r';cases r';done)
   |(let#[a,vs,e,_]:=bX r';cases e)
   |(let#[a,vs,e,_]:=bW r';cases e)
   |(delta Az at n';cases n')
 |.tup xs,d',v,n,n',r,r'=>by
  let#[a,vs,rfl,q,rr]:=bX r;cases d' with
  |tup ys=>
   let#[a',ij,e,q',cr]:=bX r';cases e;let:=I.tuple_inj q q';subst this;delta Az at n n';rw[zb_]
  |lst ys=>
   let#[a',ij,e,q',cr]:=bW r';cases e;exact(uC I q q').elim
  |fn b=>delta Az at n';cases n'
  |dk b=>delta Az at n';cases n'
  |non=>cases eP r'
  |bl b=>cases dI r'
  |int b=>cases bA r'
  |str b=>cases cH r'
 |.lst xs,d',v,n,n',r,r'=>by
  let#[a,vs,rfl,q,rr]:=bW r;cases d' with
  |lst ys=>
   let#[a',ij,e,q',cr]:=bW r';cases e;let:=I.list_inj q q';subst this;delta Az at n n';rw[zb_]
  |tup ys=>
   let#[a',ij,e,q',cr]:=bX r';cases e;exact(uC I q' q).elim
  |fn b=>delta Az at n';cases n'
  |dk b=>delta Az at n';cases n'
  |non=>cases eP r'
  |bl b=>cases dI r'
  |int b=>cases bA r'
  |str b=>cases cH r'
 |.fn a,d',v,n,n',r,r'=>by delta Az at n;cases n
 |.dk a,d',v,n,n',r,r'=>by delta Az at n;cases n
theorem uR(I:d_):∀(ds es:d!) (vs:r_),Ca ds=τ->Ca es=τ->G1! ds->G1! es->ds=es
 |[],es,vs,n,n',r,r'=>by
  obtain rfl:=cR r;cases es with
  |nil=>rfl
  |cons e es=>let#[v,t,z,_]:=bS r';rcases z
 |d::ds,es,vs,n,n',r,r'=>by
  let#[v,t,rfl,r1,r2]:=bS r;cases es with
  |nil=>cases cR r'
  |cons e es=>
   let#[v',t',z,zk,zl]:=bS r';cases z;delta Ca at n n';rw[LS]at n n';rw[a0q I d e v n.1 n'.1 r1 zk,uR I ds es t n.2 n'.2 r2 zl]
end
mutual
theorem qE:∀d:D,Az d=τ->Dt d d=τ
 |.non,_=>by rfl
 |.bl b,_=>by simp[Dt]
 |.int i,_=>by simp[Dt]
 |.str s,_=>by simp[Dt]
 |.tup xs,h=>by delta Dt;exact rR xs zc_
 |.lst xs,h=>by delta Dt;exact rR xs zc_
 |.fn a,h=>by simp[Az]at h
 |.dk k,h=>by simp[Az]at h
theorem rR:∀ds:List D,Ca ds=τ->Ig ds ds=τ
 |[],_=>by simp[Ig]
 |d::ds,h=>by
  delta Ca at h;rw[LS]at h;delta Ig;rw[qE d h.1,rR ds h.2];rfl
end
def a3w(I:d_)(d d':D)(v:V)(n:cl!)(n':fC_)(r:ej!)(r':Ao X.K H d' v):Dt d d'=true:=by rw[<-J6! I];exact qE d n
def iT(A:xy!):A.in1.units=A.units+1:=χ
def mU:∀(xs ys:d!),h_=aj_->((Fv_ h_).all λj=>Dt (xs.getD j .non) (ys.getD j .non))=Ig xs ys
 |[],[],_=>rfl
 |x::xs,y::ys,h=>by
  let ih:=mU xs ys kz_;delta Ig;rw[KW,SN,RK,<-ih,List.all_map];rfl
 |[],_::_,h=>by simp at h
 |_::_,[],h=>by simp at h
def mQ:∀(xs ys:d!),h_≠aj_->Ig xs ys=θ
 |[],[],h=>Ew! h
 |x::xs,y::ys,h=>by
  delta Ig;rw[mQ xs ys kz_,UT]
 |[],_::_,_=>rfl
 |_::_,[],_=>rfl
def pY(rd:hs_)(re:ht!)(rv:eN_)(a8:Av ws us')
  (h:∀(j:δ) u u',us[j]?=ψ u->us'[j]?=ψ u'->ED! u' kA!):
  ∀j (Y:j<kA_) (h2:j<pt_),Jz! A ej_[j] pu![j] kA!:=λj Y h2=>by
 let l1:j<aC_:=by simpa using Y
 let l2:j<us'.length:=by simpa using h2
 exact h j _ _ (ES! l1) (ES! l2)
def yL(I:d_)(qa:kz!)(qb:HX! b ws)(rd:hs_)(re:ht!)(hu:as!)
  (h:kB!):FA_ N_ d3! (Ig ds es):=by
 let#[us,rv,p1,_]:=EH_ qa;let#[us',a8,p2,_]:=EH_ qb;let Y:=aL rd;let h2:=aL re;let h3:=eW!;let h4:=kC!;let z:=SeqAt.RcAt.tuples p1 p2 hu kC_;let e:zf!=Ig ds es:=by
  show"#6"
  .rw[hl,Nat.min_self,<-hl,kD!,hl];simp
  .rw[kD_];let:(f_==ao!)=false:=by simpa using hl
   rw[this,UT]
 rw[e]at z;exact z
def a4b(I:d_)(qa:pv!)(qb:Hc_ b ws)(rd:hs_)(re:ht!)(hu:as!)
  (h:kB!):FA_ N_ d3! (Ig ds es):=by
 show"!F";let h4:=kC!;by_cases hl:f_=ao!
 .let z:=FC_ SeqAt.RcAt.lists oR_ kC_;rw[KU,<-h3,<-Y,kD!]at z;exact z
 .rw[kD_];exact FC_ SeqAt.RcAt.lists_lengths zf_
def c1i(I:d_)(q:kz!):∃am,F0_ a am:=by let#[its,_,p,_]:=EH_ q;exact#[_,p]
def b5l(I:d_)(q:pv!):∃am,s.heap.IsList a am:=by let#[its,_,p,_]:=I.list q;exact#[_,p.isList]
inductive RV(X:Cx)(H:Hp)(s:zP!):D->Value->Prop
 |non:RV X H s .non .none
 |bl (b:Bool):HY_ aJ! mF!
 |int (i:Int) (t:Tok):HY_ ay! dL!
 |str (x:Str) (t:Tok):HY_ bO! gb_
 |tup {xs:d!} {a:sS!} {its:b9!}:F0_ a its->HY_ bc_ N_
 |lst {xs:d!} {a:sS!} {its:b9!}:s.heap.IsList a its->HY_ V! N_
def yI(I:d_)(n:cl!)(r:ej!)(ru:bf!):HY_ d u:=by
 cases d with
 |non=>cases eP r;subst ru;exact .non
 |bl b=>cases dI r;subst ru;exact .bl b
 |int b=>cases bA r;let#[t,rfl]:=ru;exact .int b t
 |str b=>cases cH r;let#[t,rfl]:=ru;exact .str b t
 |tup ys=>let#[a,ws,rfl,q,_]:=bX r;subst ru;let#[its,p]:=c1i I q;exact .tup p
 |lst ys=>let#[a,ws,rfl,q,_]:=bW r;subst ru;let#[its,p]:=b5l I q;exact .lst p
 |fn a=>delta Az at n;exact Eg_ n
 |dk a=>delta Az at n;exact Eg_ n
def mR(I:d_)(n:cl!)(n':fC_)(hu:as!)(r:ej!)(r':hu_)(ru:bf!)(ba:hv!)(hT:∀xs ys,d=.tup xs->d'=.tup ys->ED! u' dw!)(hL:∀xs ys,d=.lst xs->d'=.lst ys->ED! u' dw!):ED! u' dw!:=by
 show"!k"
 all_goals first|exact Gd! hT|exact Gd! hL|(delta Dt;with_reducible first|exact .none_none|exact .same _|exact .none_bool _|exact .none_int _ _|exact .none_str _ _|exact .none_tuple ‹_› hu|exact .none_list ‹_› hu|exact .bool_none _|exact JD_ _|exact I9_ _|exact Ja! _|exact .bool_tuple _ ‹_› hu|exact .bool_list _ ‹_› hu|exact .int_none _ _|exact Ja_ _|exact IB_ _|exact IC! _|exact JE! _ ‹_› hu|exact .int_list _ _ ‹_› hu|exact .str_none _ _|exact Jb! _|exact IC_ _|exact ID! _|exact JE_ _ ‹_› hu|exact .str_list _ _ ‹_› hu|exact .tuple_none ‹_› hu|exact .tuple_bool _ ‹_› hu|exact JF! _ ‹_› hu|exact JF_ _ ‹_› hu|exact .tuple_list ‹_› ‹_› hu|exact .list_none ‹_› hu|exact .list_bool _ ‹_› hu|exact .list_int _ _ ‹_› hu|exact .list_str _ _ ‹_› hu|exact .list_tuple ‹_› ‹_› hu)
def d0x(I:d_)(n:cl!)(n':fC_)(hu:as!)(r:ej!)(r':hu_)(ru:bf!)(ba:hv!)(hT:∀xs ys,d=.tup xs->d'=.tup ys->Le! u)(hL:∀xs ys,d=.lst xs->d'=.lst ys->Le! u):Le! u:=by
 show"!k"
 all_goals first|exact Gd! hT|exact Gd! hL|(delta Dt;with_reducible first|exact .none_none|exact .same _|exact .none_bool _|exact .none_int _ _|exact .none_str _ _|exact .none_tuple ‹_› hu|exact .none_list ‹_› hu|exact .bool_none _|exact JD_ _|exact I9_ _|exact Ja! _|exact .bool_tuple _ ‹_› hu|exact .bool_list _ ‹_› hu|exact .int_none _ _|exact Ja_ _|exact IB_ _|exact IC! _|exact JE! _ ‹_› hu|exact .int_list _ _ ‹_› hu|exact .str_none _ _|exact Jb! _|exact IC_ _|exact ID! _|exact JE_ _ ‹_› hu|exact .str_list _ _ ‹_› hu|exact .tuple_none ‹_› hu|exact .tuple_bool _ ‹_› hu|exact JF! _ ‹_› hu|exact JF_ _ ‹_› hu|exact .tuple_list ‹_› ‹_› hu|exact .list_none ‹_› hu|exact .list_bool _ ‹_› hu|exact .list_int _ _ ‹_› hu|exact .list_str _ _ ‹_› hu|exact .list_tuple ‹_› ‹_› hu)
mutual
theorem c2e(I:d_):∀(d d':D) (A:xy!) (v v':V) (u u':yg!),Az d=τ->Az d'=τ->A.units+Go d<cLine->E1! H->Ao X.K H d' v'->Bh v u->Bh v' u'->ED! u' dw!
 |.non,d',A,v,v',u,u',n,n',hu,r,r',ru,ba=>Ln! I
 |.bl _,d',A,v,v',u,u',n,n',hu,r,r',ru,ba=>Ln! I
 |.int _,d',A,v,v',u,u',n,n',hu,r,r',ru,ba=>Ln! I
 |.str _,d',A,v,v',u,u',n,n',hu,r,r',ru,ba=>Ln! I
 |.fn _,d',A,v,v',u,u',n,n',hu,r,r',ru,ba=>Ln! I
 |.dk _,d',A,v,v',u,u',n,n',hu,r,r',ru,ba=>Ln! I
 |.tup xs,d',A,v,v',u,u',n,n',hu,r,r',ru,ba=>mR I n n' a! r r' ru ba (λ_ ys e e'=>by
  cases e;subst e';let#[a,vs,rfl,q,rr]:=bX r;let#[b,ws,rfl,q',cr]:=bX r';cases ru;cases ba;by_cases oo:a=b
  .subst oo;rw[zh_];exact .same _
  .delta Az at n n';delta Go at hu;delta Dt;exact EL_ yL) a5_
 |.lst xs,d',A,v,v',u,u',n,n',hu,r,r',ru,ba=>Eu! I (λ_ ys e e'=>by
  cases e;subst e';let#[a,vs,rfl,q,rr]:=bW r;let#[b,ws,rfl,q',cr]:=bW r';cases ru;cases ba;by_cases oo:a=b
  .subst oo;rw[zh_];exact .same _
  .delta Az at n n';delta Go at hu;delta Dt;exact EL_ a4b)
theorem lB(I:d_):∀(ds es:d!) (A:xy!) (vs ws:r_) (us us':n_),Ca ds=τ->Ca es=τ->A.units+De ds<cLine->G1! ds->An X.K H es ws->Av vs us->Av ws us'->
  ∀(j:δ) u u',us[j]?=ψ u->us'[j]?=ψ u'->ED! u' kA!
 |[],es,A,vs,ws,us,us',n,n',hu,r,r',rv,a8,j,u,u',e,e'=>by
  obtain rfl:=cR r;cases rv;simp at e
 |d::ds,es,A,vs,ws,us,us',n,n',hu,r,r',rv,a8,j,u,u',e,e'=>by
  let#[v,t,rfl,r1,r2]:=bS r;cases es with
  |nil=>
   obtain rfl:=cR r';cases a8;simp at e'
  |cons c es=>
   let#[w,t',rfl,zk,zl]:=bS r';delta Ca at n n';rw[LS]at n n';delta De at hu;cases rv with
   |cons sj u5=>
    cases a8 with
    |cons rw1 rw2=>
     cases j with
     |zero=>
      simp at e e';subst e e';exact c2e I d c A v w _ _ n.1 n'.1 a! r1 zk sj rw1
     |succ j=>
      exact lB I ds es A t t' _ _ n.2 n'.2 a! r2 zl u5 rw2 j u u' c6_ (Ep! e')
end
def d0y(I:d_)(d d':D)(n:cl!)(n':fC_)(hu:zi!)(r:ej!)(r':hu_)(ru:bf!)(ba:hv!):Le! u:=
 d0x I n n' a! r r' ru ba (λxs ys e e'=>by
  subst e e';let#[a,vs,rfl,q,rr]:=bX r;let#[b,ws,rfl,q',cr]:=bX r';subst ru;subst ba;delta Az at n n';delta Go at hu;delta Dt;exact GD_ yL λus us' rv a8=>Et! I) (λxs ys e e'=>by
  subst e e';let#[a,vs,rfl,q,rr]:=bW r;let#[b,ws,rfl,q',cr]:=bW r';subst ru;subst ba;delta Az at n n';delta Go at hu;delta Dt;exact GD_ a4b λus us' rv a8=>Et! I)
def DQ(KF:zR!):R2:=λx y H Q=>∃dx dy,Ev_ dx x/\Ev_ dy y/\Az dx=τ/\Az dy=τ/\Go dx<=40/\FC! (Dt dx dy)
def bZ(hu:as_):Gj! (compareOp .Eq) DQ:=by intro hb s Z H x y v u Q I rx ry h;let#[dx,dy,r1,r2,n1,n2,hd,q]:=h;exact FR_ d0y
def Au:D->D->ι D:=λx y=>if Az x&&Az y&&decide (Go x<=40)then C2! (Dt x y) else υ
protected def cB{KF:zR!}:Hv_ DQ Au:=by
 show"!1";delta Au at e;show"!:"
 .show"!q";rcases e;exact zj!
 .rcases e
end
section
variable{pos p2:Pos}
def El(g g':he_)(fa fb fc:p!):Ag->ι D:=λρ=>(fs_).bind λx=>(kc_).bind λy=>(g x y).bind λz=>match z with
 |.bl true=>(fc ρ).bind λu=>g' y u
 |.bl false=>ψ I!
 |_=>υ
def a6l(ho:cb!)(hg:ef_)(gj:i4!)(oq:Gy X.K r' g')(ha:X!)(J:cj_)(hc:px!)
  (hm:i4_:=by with_unfolding_all rfl):Ek! i5! zj_:=
 eW (ID_ b9a) λZ G H Q ρ d er e k=>by
  let#[x,e1,e]:=KH.mp e;let#[y,e2,e]:=KH.mp e;let#[z,e3,e]:=KH.mp e;exact zk!;let qi:=s1.trans ft_;cases z<;>first|cases e|skip
  rename_i bb;obtain rfl:=dI r3;exact zk_;cases bb with
  |true=>
   let#[u,e4,e]:=KH.mp e;exact kX #[G3,ρ,u,er.grow qi,e4,λq G4 H4 s4 r4=>oq s4.sub zl! r4 e λv G5 H5 s5 r5=>k v G5 H5 zl_ r5]
  |false=>
   rcases e;exact lM (k _ G3 H3 qi Ao.bl)
def Gn(f:p!):Ag->ι D:=λρ=>(af_).bind λd=>match d with|.int i=>BA! (-i)|_=>υ
def oK(h:X!):Ek! (.UnaryOp .USub a pos) (Gn fa):=
 eW (d5k d0g h.ok) λZ G H Q ρ d er e k=>by
  let#[x,e1,e]:=KH.mp e;cases x<;>first|cases e|skip
  exact fw!;obtain rfl:=bA r1;exact#[_,χ,k _ G1 H1 s1 Ao.int]
def Jn:D->Bool
 |.non=>τ
 |.bl _=>τ
 |.int _=>τ
 |.str _=>τ
 |_=>θ
def a5z{KF:zR!}(h:Jn d=τ)(r:g9!):Lq v=true:=by
 cases d<;>first
  |(exact Eg_ h;done)
  |(obtain rfl:=eP r;rfl)
  |(obtain rfl:=dI r;rfl)
  |(obtain rfl:=bA r;rfl)
  |(obtain rfl:=cH r;rfl)
def c7j{KF:zR!}(h:Jn d=τ)(h':Jn d'=τ)(r:g9!)(r':Ev_ d' v'):Yf v v'=Dt d d':=by
 cases d<;>first
  |(exact Eg_ h;done)
  |skip
 all_goals (cases d'<;>first
  |(exact Eg_ h';done)
  |skip)
 all_goals first
  |(obtain rfl:=eP r)
  |(obtain rfl:=dI r)
  |(obtain rfl:=bA r)
  |(obtain rfl:=cH r)
 all_goals first
  |(obtain rfl:=eP r')
  |(obtain rfl:=dI r')
  |(obtain rfl:=bA r')
  |(obtain rfl:=cH r')
 all_goals simp[Yf,Dt]
def a6b{KF:zR!}:∀{ds:d!} {vs:r_},ds.all Jn=τ->CG! H->vs.all Lq=τ
 |[],vs,_,r=>by obtain rfl:=cR r;rfl
 |d::ds,vs,h,r=>by
  let#[v,t,rfl,r1,r2]:=bS r;rw[RK,LS]at h;rw[RK,LS];exact#[a5z h.1 r1,a6b h.2 r2]
def a6a{KF:zR!}(hx:Jn x=τ)(rx:Ev_ x v):∀{ds:d!} {vs:r_},ds.all Jn=τ->CG! H->FI v vs=ds.any λd=>Dt d x
 |[],vs,_,r=>by obtain rfl:=cR r;rfl
 |d::ds,vs,h,r=>by
  let#[w,t,rfl,r1,r2]:=bS r;rw[RK,LS]at h;let ih:=a6a hx rx h.2 r2;delta FI at ih ⊢;rw[QN,QN,ih,c7j h.1 hx r1 rx]
def BS:D->Em! aG!
 |.tup xs=>ψ xs
 |.lst xs=>ψ xs
 |_=>υ
def Uq(neg:Bool):D->D->ι D:=λx y=>(BS y).bind λds=>if Jn x&&ds.all Jn then ψ zn! else υ
def d5v{KF:zR!}:Gy KF (GR KF neg) (Uq neg):=by
 show"!1";show"!M"
 .rename_i h;rw[LS]at h;rcases e;let fin:∀{p:sS!} {vs:r_},(Et KF H p vs\/Fs KF H p vs)->CG! G->y=V.ref p->GR KF neg x y H Q:=λ{p vs} q r ey=>by
   exact#[p,vs,ey,q,a5z h.1 rx,a6b h.2 r,?_];rw[a6a h.1 rx h.2 r];exact Id! k
  cases dy<;>first|(rcases e1;done)|skip
  .rcases e1;let#[p,vs,ey,q,r]:=bX ry;exact fin (.inr kF_) r ey
  .rcases e1;let#[p,vs,ey,q,r]:=bW ry;exact fin (.inl (sub.seq q)) r ey
 .rcases e
structure Tk(X:Cx)(x:Str)(cu:hx!):Prop where
 ex:∃(ad:sS!) (h1:μ oz_) (vs:μ zo_),X.mg x=ψ kG!/\py!=θ/\(∀h:Heap,X.K.In h->h.DictOf (Ld! mixKind) ad vs)/\KV h1 vs/\
  (∀y,Mg h1 el!=υ↔Id_ y=υ)/\∀y d,Id_ y=ψ d->∃v,Mg h1 el!=ψ v/\∀H,E1! H
def Zm(cu:hx!)(neg:Bool)(f:p!):Ag->ι D:=λρ=>(af_).bind λd=>match d with|.str y=>C2! (Km_ py_ py_)|_=>υ
def Te(cu:hx!)(f:p!):Ag->ι D:=λρ=>(af_).bind λd=>match d with|.str y=>Id_ y|_=>υ
def c7x(hd:Tk X x cu)(hg:U_)(ha:X!)(c7:EU a)(bd:D!:=by decide):Ek! (Lu_ dt_ a) (Te cu fa):=by
 show"#Q";exact eW (t:=λZ H Q=>FK_ tD fa Z H λv H1=>∃y u,v=.str y/\Mg h1 el!=ψ u/\Q u H1) zp! λZ G H Q ρ d er e k=>?_
 .exact c4i PySem.F.slot_dict_getitem.lookup c7 (iR I hg mh (dM zp_ ?_) bd);rintro v s1 ⟨y,H1,I1,r1,z,u,hz,hu,q1⟩;subst hz;let dd:=zm _ I1.kIn;let#[w',hw,a8]:=Mu.some_of (by rw[<-hu];exact zn.val (I3_ z));let ty:s1.TypeIs kG! "dict":=by
   let#[o,es,ep,Y,h2,_]:=dd;exact#[o,Y,h2.1]
  exact#[ty,wpAny_getItem_of zq! dd.mapOf hw #[u,H1,I1.tok _,a8,q1]]
 .let#[x,e1,e]:=KH.mp e;cases x<;>first|(rcases e;done)|skip
  rename_i y;let#[v,hv,hr]:=hs y d e;exact#[G,ρ,_,er,e1,λw G1 H1 s1 r1=>?_];obtain rfl:=cH r1;exact#[y,v,χ,hv,k _ G1 H1 s1 (hr G1)]
def Ok(P:zH!)(w:zF!)(KF:zR!)(mg:U!)(base:Heap)(k:δ)(x:Str)(ps:w_)(g:bZ!):Prop:=
 ∃af fd,Kg_ pp_/\EP_ KF/\mg x=ψ bl_/\Lk! KF=τ
def aU(F:zs_)(hr:a1!)(hg:U_)(ha:kg_)(az:xR!)
  (hn:xQ!:=by rfl)(bd:D!:=by decide)(he:az!:=by rfl)(ay:a1_:=by rfl):
  DE X own bQ! oQ!:=by
 show"#,";exact c7y Y hr hg h3 h4 h2 ha hn az bd he ay
def AT(P:zH!)(w:zF!)(KF:zR!)(mg:U!)(base:Heap)(k n:δ)(cu:zt_):Prop:=
 ∀af g,cu af=ψ g->∃fd ps,P_=n/\Kg_ pp_/\EP_ KF/\Lk! KF=τ
def Nk(cu:zt_)(i:δ)(fs:bk_):Ag->ι D:=λρ=>(Aa i ρ).bind λd=>match d with|.fn af=>(cu af).bind λg=>(fu!).bind g|_=>υ
def c2w(F:o7_ AT X.mg X.base k n cu)(hr:a1!)(ha:kg_)(az:xR_)
  (hj:j∉own:=by decide)(hN:wd!:=by rfl)(hv:cx!:=by first|exact Or.inl χ|exact Gk! b!|exact Gk! a4!)(bd:D!:=by decide)(cf:cx_:=by decide)
  (he:az!:=by rfl)(ay:a1_:=by rfl):
  DE X own bQ! (Nk cu j fs):=⟨by
 intro hb s Z H Q I h;let#[G,ρ,d,er,e1,kk]:=h;let#[z,e2,e1]:=KH.mp e1;cases z<;>first|(rcases e1;done)|skip
 rename_i af;let#[g,e3,e1]:=KH.mp e1;let#[ds,e4,e1]:=KH.mp e1;let#[fd,ps,ou,F1,F2,F3]:=F af g e3;let#[v,Y,h2]:=er.at_ j _ (join_some e2) hj;obtain rfl:=fY h2;exact QR (dM (kO hN hv bd cf hb s Z H (λu H'=>u=.ref af/\H'=H) I (Lv! Y)) ?_);rintro u s1 ⟨y,H1,I1,r1,hy,hH⟩;subst hy hH;subst r1;exact W.callWith_K (h₀:=X.base) I1.ok.mod.kin F3 (dM (ha.ok pos hb s1 Z H1 _ I1 #[G,ρ,ds,er,e4,λvs G2 H2 s2 r2=>(?_:(λvs H2=>AD X.K ps.length g vs H2 Q E0) vs H2)]) λus s2 ⟨vs,H2,I2,r2,q2⟩=>ub_) he ay
 .exact#[by rw[<-aL r2,az ρ ds e4,ou],G2,ds,d,s2.sub,r2,e1,λv G3 H3 s3 r3=>kk v G3 H3 ft_ r3]
 .exact a0n F1 hr F2 .nil sI I2 r2 (zG_ LW q2)⟩
def AS(x:Str):It:=#[zu_,λi H v H'=>H'=H/\∃c,x.cps[i]?=ψ c/\v=.str ak!,zv_]
def Rk(f:p!):Ag->ι aG!:=λρ=>(af_).bind λd=>match d with|.str x=>ψ zv!|_=>υ
def c6x{KF:zR!}:J5_ (AS x) zv!:=by intro i G' H' s1 s2;exact#[eh_,λhi=>by rw[KP,OM]at hi;exact QI hi.symm];rw[MO]at hd;let#[c,hc,rfl]:=KZ.mp hd;rw[RJ]at hc;exact zw!;let#[e1,c',cy,e2]:=hy;subst e1;rw[hc]at cy;rcases cy;subst e2;exact#[G',kp_,Ao.str]
def a3i{KF:zR!}(hd:zw_)
  (W:∀A':Around,pB_=υ->Walks P w A' it [it] [it] x.cps.size (SignAt x) gu)(hself:∀(A:xy!) (i:δ) (s:zP!) (Q:V_) (E:V_),gu i s.heap->Q ca! s->L1! ca!):
  Qk P w KF hz! (AS x) [it] it zx! where
 mem:=by simp
 obj:=λi h st b J=>by
  let e:b=it:=by simpa using J
  subst e;exact hd i h st.2
 keep:=λi h h' st k=>⟨st.1,by
  let Wd:=W callerA χ;exact Wd.frame i h h' st.2 λb J o e=>k b J o e⟩
 item:=by
  show"!0";exact(W X.A aS_).item i s _ _ hg st.2 λv h' tk hv ac kk=>?_;let#[cc,u,iy,rfl]:=hv;let I1:mX_ H {s with heap:=h',toks:=tk}:=Gd_ iX!;exact Jb_ #[.str (Lv_ cc),H,I1,#[u,χ],#[χ,cc,iy,χ],#[hg,ac],iW_]
 done:=by
  show"!0";let hi:=J6_ hg;subst hi;exact(W X.A aS_).done s _ _ st.2 λh' tk kk=>#[χ,I.turned iX! f0 f1 f3 f4 f5]
 self:=λA i s Q E st h=>hself A i s Q E st.2 h
def d1g(hl:PE X a tl):PI X hz! a (λZ H R=>tl Z H λv H1=>∃x,v=.str x/\R (AS x) H1):=by
 intro hb s Z H R I h;exact dM s4_ ?_;rintro v s1 ⟨u,H1,I1,r1,x,hx,q⟩;subst hx;let#[t,rfl]:=r1;let Y3:∀(ty:String) (i:δ) (h:Heap),GV! h.IsStrIter ty i->∃o,h.get? B!=ψ o/\∀v,o.data≠.cell v:=λty i h st=>by
  show"#!"
 let fin:∀(ob:Obj) (gu:iS_),o7_ Qk hz! (AS x) [B!] s1.heap.objs.size zx!->gu 0 (JG! ob)->
   ET X hb Z hz! R (.ref B!) {s1 with heap:=JG! ob}:=λob gu T st=>by
  exact#[B!,[B!],_,_,H1,χ,zy!,T,#[ML _,st],cz!,q];let e:b=B!:=by simpa using J
  show"!U"
 cases ha:x.cps.all (·<128)with
 |false=>
  exact wpAny_pyIter_wide ha (fin _ _ (a3i zy_ (λA' hA=>Walks.strWide hA _ x t) λA i s Q E st h=>wpAny_pyIter_striter_wide st h) eW_)
 |true=>
  exact wpAny_pyIter_ascii ha (fin _ _ (a3i zy_ (λA' hA=>Walks.strAscii hA _ x t) λA i s Q E st h=>wpAny_pyIter_striter_ascii st h) eW_)
def c2s(h:X!):DI X own hz! a (Rk fa):=zT (d1g h.ok) λZ G H R ρ ds er e k=>by
 let#[d,e1,e2]:=KH.mp e;cases d with
 |str x=>
  rcases e2;exact fw!;obtain rfl:=cH r1;exact#[x,χ,k _ G1 H1 s1 c6x]
 |_=>cases e2
def xY:∀{ys:w_} {us:n_},Av zA! us->StrsAre us ys
 |[],_,.nil=>.nil
 |y::ys,_,.cons r t=>by
  let#[k,rfl]:=r;exact .cons y k (xY t)
def DH(KF:zR!):V->μ V->Hp->VK->Prop:=λx vs H Q=>∃(z:Str) (p:sS!) (ys:w_),x=.str z/\vs=[.ref p]/\GC_ p zA!/\(kJ_).sum+aj_*aL_<=16777216/\Q zB! H
def b1z:IU X "str.join" (DH X.K):=by intro hb s Z H x xs v us Q I rx r h;let#[z,p,ys,rfl,rfl,hq,hz,q]:=h;let#[t,rfl]:=rx;let#[u,rfl,r1]:=oR r;subst r1;let#[its,rv,pl,_]:=FU! hq;exact H9_ join_list (by simpa using xY rv) hz λt' k=>#[.str _,H,aZ_,O_,q]
def Oq:μ D->KK_ Str
 |[]=>ψ []
 |.str x::r=>(Oq r).map (x::·)
 |_=>υ
def uO{KF:zR!}:∀{ds:d!} {vs:r_} {ys:w_},CG! H->Oq ds=ψ ys->vs=ys.map V.str
 |[],vs,ys,r,e=>by obtain rfl:=cR r;rcases e;rfl
 |d::ds,vs,ys,r,e=>by
  let#[v,t,rfl,r1,r2]:=bS r;cases d<;>first|(rcases e;done)|skip
  let#[ys',e1,rfl]:=KZ.mp e;obtain rfl:=cH r1;rw[uO r2 e1];rfl
def Kk:D->D->ι D
 |.str z,.lst xs=>(Oq xs).bind λys=>if(kJ_).sum+aj_*aL_<=big then ψ zB! else υ
 |_,_=>υ
def Xv(fo fa:p!):Ag->ι D:=λρ=>(fo ρ).bind λx=>(fs_).bind λy=>Kk x y
protected def c7v(ho:Ek! o fo)(ha:X!)
  (jb:K2_ "join"=Ey_ o:=by rfl)
  (jc:(Hd_ pD!&&FM! cH_
   &&decide pD_)=true:=by rfl)
  (jd:d8!:=by rfl) (hs:kq_:=by rfl) (je:hp!:=by rfl):
  DE X own (L3! o) (Xv fo fa):=
 eW (EO! ho.ok) λZ G H Q ρ d er e k=>by
  show"!;";let#[y,e2,e]:=KH.mp e;delta Kk at e;show"!:"
  .let#[ys,e3,e]:=KH.mp e;show"!:"
   .show"!H";exact fw!;obtain rfl:=cH r1;exact#[χ,G1,ρ,_,cP!,e2,zC!];let#[p,vs,rfl,q,rr]:=bW r2;let:=uO rr e3;subst this;exact#[_,p,ys,χ,χ,s2.sub.seq q,LX hl a_,k _ G2 H2 cP_ Ao.str]
   .rcases e
  .rcases e
end
def a1d(g1:zD!)(g2:zD_)(g3:xs[n]?=ψ v)
  (k:∀h',E2! jt tt aV_->Et_ jt->Q v {s with heap:=h'}):o6_ n! zE_:=by
 show"!>";show"!`";exact KG (SI eo ed c_ (KJ #[v,χ,KJ (k _ ?_ en!)]));exact#[_,OQ _ eo (QS (PQ ed _)),(zI!).trans ec,by rw[PQ ed];simp[rawInt]]
def vH(hh:bS!)(g1:zD!)(g2:zD_)(g3:xs[n]?=υ)
  (k:∀h' e,Jq! jt s.heap->(∃o,h'.get? e=ψ o/\o.cls=.type "StopIteration")->E aG_ {s with heap:=h'}):o6_ n! zE_:=by
 show"!>";show"!`";exact GE! (KG (SI eo ed c_ ?_));exact KG ?_;dsimp only[newExc,newTuple];exact KG (OH ?_ hB_);exact FU_ wpAny_of_eq zJ_;exact OH ?_ hB_;dsimp only[raiseNew];exact KG zK_
 first|rw[zL!]|rw[hh]
 exact KG zL_;exact k _ _ zM! kK!
def cL(x:Jc! aa tt n)(hs:Jq! bb h)(ne:aa≠bb):E2! aa tt n:=by let#[ob,eo,r]:=x;exact#[ob,hs _ _ ne eo,r]
def a7c{TI TO:sS!}{Q:V_}(D:kK_)
  (gz:kL!)(gI:kL_)(gO:kM!)
  (g1:kM_)(g2:kN!)(jm:hC_)(j3:hD!)(gx:zN!)(gy:zN_)
  (kk:∀h',E9_ h' (rawInt k_)->Ie! h' y->E2! i1 l1 (k1+1)->E2! i2 l2 (k2+1)->EA! IsPair h' x y->
   kN_->Q bv_ {s with heap:=h'}):
  wpAny n! A zO! zO_ E s:=by
 show"!t";show"!E";exact KG zQ!
 replace ow:Ln_ Y:=ow
 exact KG ?_;dsimp only[List.zipIdx_cons,List.zipIdx_nil,List.forIn_cons,List.forIn_nil];exact KG kO!;exact KG zS_;let u7:=Gt_ D.TOi1 zT!;exact KG zT_;exact KG zU!
 replace w4:Ie! h3 q:=w4
 exact KG (RU Y_);exact KG kO!;exact KG (a1d zU_ zV! gy λh4 g24 jo=>KJ ?_);let Y5:=L3_ D.TOi2 w4;exact IS_ PL Y5;exact KG (VH Y5 λh5 w5 lj=>?_)
 replace w5:Ie! h5 y:=w5
 exact KG (RU (KJ Y_));exact IS_ PL w5;exact Fu_ VP;let sz:h5.objs.size=k_:=by rw[lj.1,jo.1,dh.1,bu.1,cz.1]
 let Y6:=lj.extBut _ _ D.TOz.symm (L3_ D.i2z.symm zX!);let gk5:∀c ob,c≠z->c≠TO->c≠i1->c≠i2->rX_ c=ψ ob->h5.get? c=ψ ob:=λc ob c1 c2 c3 c4 e=>lj.extBut _ _ c2 (L3_ c4 (K9! (cz.extBut _ _ c1 e)));let g15:=cL (cL (cL Y4 dh.extBut D.TOi1.symm) jo.extBut D.i12) lj.extBut D.TOi1.symm;let g25:=cL g24 lj.extBut D.TOi2.symm;let Y7:=LR Y6;exact KG ?_;delta Builtin.SmallTypes.ownedTupleHandOut;let gz6:Ln_ (h5.push {cls:=.type "tuple",data:=.seq [x,y].toArray}):=KL _ Y6;exact KG (OV gz6 c_ λh7 zq Y8=>?_)
 replace zq:E9_ h7 zY_:=zq
 exact OV zq c_ λh8 w6 Y9=>?_
 replace w6:E9_ h8 zY_:=w6
 let up:∀c ob,c≠z->h5.get? c=ψ ob->h8.get? c=ψ ob:=λc ob c1 e=>Y9.extBut _ _ c1 (Y8.extBut _ _ c1 (KL _ e));let Y':=Y9.extBut _ _ (QH Y7) (Y8.extBut _ _ (QH Y7) kQ_);rw[sz]at w6 Y';exact KJ pI_;rw[sz];let#[ob1,eo1,r1]:=g15;let#[ob2,eo2,r2]:=g25;exact kk h8 w6 (up _ _ D.TOz w5) #[ob1,up _ _ D.i1z eo1,r1] #[ob2,up _ _ D.i2z eo2,r2] Y' λc ob c1 c2 c3 c4 e=>up c ob c1 (gk5 c ob c1 c2 c3 c4 e)
def b3l{TI TO:sS!}(hh:bS!)(D:kK_)
  (gz:kL!)(gI:kL_)(gO:kM!)
  (g1:kM_)(g2:kN!)(jm:hC_)(j3:hD!)(ge:z0!)
  (kk:∀h' e,kN_->(∃ob,h'.get? e=ψ ob/\ob.cls=.type "StopIteration")->E aG_ {s with heap:=h'}):
  wpAny n! A zO! Q E s:=by
 show"!t";show"!E";exact KG zQ!
 replace ow:Ln_ Y:=ow
 exact KG ?_;dsimp only[List.zipIdx_cons,List.zipIdx_nil,List.forIn_cons,List.forIn_nil];exact KG kO!;cases gx:xs[k1]? with
 |none=>
  exact KG (vH hh zR_ zS! gx λh2 e bu he=>?_);let#[oe,qj,u8]:=he;let ZA:=bu _ _ D.i1z.symm ow;let zr:e≠z:=λx=>by subst x;rw[ZA]at qj;rcases qj;simp at u8
  exact OV ZA c_ λh3 _ dh=>kk h3 e (λc ob c1 _ c3 _ x=>dh.extBut _ _ c1 (bu _ _ c3 z1!)) #[oe,dh.extBut _ _ zr qj,u8]
 |some x=>
  let gy:ys[k2]?=none:=by
   obtain h|h:=ge
   .rw[gx]at h;rcases h
   .exact h
  exact KG zS_;let u7:=Gt_ D.TOi1 zT!;exact KG zT_;exact KG zU!;exact KG (RU Y_);exact KG kO!;exact KG (vH hh zU_ zV! gy λh4 e jo he=>?_);let#[oe,qj,u8]:=he;let ZB:=jo _ _ D.i2z.symm zX!;let zr:e≠z:=λx=>by subst x;rw[ZB]at qj;rcases qj;simp at u8
  exact OV ZB c_ λh5 _ lj=>kk h5 e (λc ob c1 c2 c3 c4 x=>lj.extBut _ _ c1 (jo _ _ c4 (K9! z1!))) #[oe,lj.extBut _ _ zr qj,u8]
def a7z{TI TO:sS!}(D:kK_)
  (gz:kL!)(gI:kL_)(gO:kM!)
  (g1:kM_)(g2:kN!)(jm:hC_)(j3:hD!)(gx:zN!)(gy:zN_)
  (kk:∀h',E9_ h' (rawInt k_)->Ie! h' y->E2! i1 l1 (k1+1)->E2! i2 l2 (k2+1)->EA! IsPair h' x y->
   kN_->Q (ψ bv_) {s with heap:=h'}):
  wpAny n! A (pyNext hD_) Q E s:=by
 let gT:Hd! hD_ "zip":=z1_;delta pyNext;exact KG (SC (NE gT VE (NA VE gT z2!
  (a7c D gz gI gO g1 g2 jm j3 gx gy λh' a1 a2 a3 a4 a5 a6=>KJ (kk h' a1 a2 a3 a4 a5 a6)) z2_)))
def xH{TI TO:sS!}(hh:bS!)(D:kK_)
  (gz:kL!)(gI:kL_)(gO:kM!)
  (g1:kM_)(g2:kN!)(jm:hC_)(j3:hD!)(ge:z0!)
  (kk:∀h',kN_->Q υ {s with heap:=h'}):Kw_ (pyNext hD_):=by
 let gT:Hd! hD_ "zip":=z1_;delta pyNext;exact KG (SC (NE gT VE (NA VE gT z2!
  (b3l hh D gz gI gO g1 g2 jm j3 ge λh' e hk he=>?_) z2_)))
 let#[ob,ho,hc]:=he;exact KG (wpAny_isInstance #[ob,ho,hc] isSubtype_stop (KJ (kk _ hk)))
abbrev FC(h:Heap)(l1:sS!):Heap:=h.push {cls:=.type "tuple_iterator",data:=Fw_ l1}
abbrev FB(h:Heap)(l1 l2:sS!):Heap:=(FC h l1).push {cls:=.type "tuple_iterator",data:=Fw_ l2}
abbrev FA(h:Heap)(l1 l2:sS!):Heap:=(FB h l1 l2).push {cls:=.type "tuple",data:=.seq [.ref b9_,.ref (FC h l1).objs.size].toArray}
abbrev EZ(h:Heap)(l1 l2:sS!):Heap:=(FA h l1 l2).push {cls:=.type "tuple",data:=.seq [.none,.none].toArray}
abbrev CG(h:Heap)(l1 l2:sS!):Heap:=(EZ h l1 l2).push {cls:=.type "zip",data:=.fields [.none,.bool θ,.bool θ,.ref (FB h l1 l2).objs.size,.ref (FA h l1 l2).objs.size].toArray}
def a8w(l1 l2:sS!)(xs ys:b9!):
  Meets (Builtin.«zip.__new__» #[[.type "zip",.ref l1,.ref l2],[]]) (λ_ R s=>F0_ l1 xs/\F0_ l2 ys/\R (Hw! (.ref (pK_).objs.size)) {s with heap:=Fb! CG l1 l2}):=
 .of_wp λprog w A R s h=>by
  let#[hp,g,d,tk,os]:=s;let#[jm,j3,h]:=h;let ZC:=sub_zip;let gL1:=jm;let gL2:Heap.IsTuple (Shared.heap #[hp.push {cls:=.type "tuple_iterator",data:=.fields [.ref l1,.int 0 0].toArray},g,d,tk,os]) l2 ys:=by let#[ob,eo,r]:=j3;exact#[ob,KL _ eo,r]
  wp_walk using wpAny_pyIter_tuple gL1,wpAny_pyIter_tuple gL2
  exact F6_ h
def c3n(jm:hC_)(j3:hD!)
  (kk:∀h',IsZip h' (k_+4) (k_+2) (k_+3) .none->IsPair h' (k_+2) bv_ (.ref aj!)->
   IsPair h' (k_+3) .none .none->E2! s.heap.objs.size l1 0->E2! aj! l2 0->(∀c ob,s.heap.get? c=ψ ob->h'.get? c=ψ ob)->Q (.ref (k_+4)) {s with heap:=h'}):
  wpAny n! A (call pL! [.ref l1,.ref l2]) Q E s:=by
 exact callType_new F.called_zip a_ (F.typeCall_zip_2 _ _) (F.newCall_zip_2 _ _) (λobj=>F.args_object_init_3 obj _ _) F.entry_zip_new (a8w l1 l2 xs ys) #[jm,j3,?_];let z1:(z6_).objs.size=k_+1:=QW ..;let z2:(z7!).objs.size=k_+2:=by rw[QW,z1]
 let z3:(z7_).objs.size=k_+3:=by rw[QW,z2]
 let z4:(pK_).objs.size=k_+4:=by rw[QW,z3]
 let y5:Ft! pK_=ψ _:=LP _ χ;let y4:Ft! z7_=ψ _:=KL _ kQ_;let y3:Ft! z7!=ψ _:=KL _ pL_;let y2:Ft! z6_=ψ _:=Ie_ pL_;let y1:(hI!).get? k_=ψ _:=Ie_ (KL _ pL_);show _/\_;rw[z2,z3,z4]at y5;rw[z1,z2]at y3;rw[z3]at y4;rw[z1]at y2;rw[z4];exact#[Jp! y5,kk _ y5 y3 y4 (Lv! y1) (Lv! y2) λc ob x=>KL _ (KL _ (KL _ (Ie_ x)))]
def FT(KF:zR!)(a b:sS!):It:=
 ⟨λi H=>∃xs ys x y,Fj! a xs/\Fj! b ys/\xs[i]?=ψ x/\ys[i]?=ψ y,
   λi H v H'=>∃T,v=.ref T/\H T=υ/\∀xs ys,Fj! a xs->Fj! b ys->∃x y,xs[i]?=ψ x/\ys[i]?=ψ y/\H'=K2! T [x,y],
   λi H=>∃xs ys,Fj! a xs/\Fj! b ys/\(h_<=i\/aj_<=i)⟩
def c2a{P:kT!}:∀x∈([]:μ α),P x:=λ_ h=>by exact(cX!).elim
def gQ{P:kT!}(h:P a)(k:∀x∈l,P x):∀x∈a::l,P x:=λx hx=>by
 obtain rfl|hx:=KR.mp hx
 .exact h
 .exact k x hx
def zG{ch:bd_}(I:d_)(hf:∀c∈ch,Fc! H c)(kp:∀c o,c∉ch->rX_ c=ψ o->Es! c=ψ o):mX_ H {s with heap:=h',toks:=s.toks}:=by
 exact z8_
 .let#[_,f2,_,f4,f5,f6]:=hf c hc;exact#[f4,f2,f5,f6]
 .show"#C";exact z9_
 .exact IT! c λ_ _ e'=>e';let hn:=(hf d hm).1;obtain rfl|hd:=hd
  .rw[hn]at e;rcases e
  .rw[hn]at hd;rcases hd
def ne4(h:c∉[a1,a2,a3,a4]):c≠a1/\c≠a2/\c≠a3/\c≠a4:=by simpa using h
def d4z{P:kT!}(h:∀x∈[a1,b,a2,a3,a4],P x):∀x∈[a1,a2,a3,a4],P x:=λx hx=>h x (by simp![KR]at hx ⊢;exact hx.imp_right .inr)
def b3t{KF:zR!}{TI TO:sS!}(D:ZipApart z TI TO i1 i2 a b):
  Qk P w KF fL! (FT KF a b) Ac_ z (λi h=>E9_ h .none/\IsPair h TI (.ref i1) (.ref i2)/\(∃p q,IsPair h TO p q)/\Jc! i1 a i/\Jc! i2 b i) where
 mem:=by simp
 obj:=λi h st=>by
  let#[s1,s2,#[p,q,s3],#[o4,s4,c4,d4],#[o5,s5,c5,d5]]:=st;exact gQ #[_,s1,pN!] (gQ #[_,s2,pN!] (gQ #[_,s3,pN!] (gQ #[o4,s4,λv y=>by rw[d4]at y;cases y] (gQ #[o5,s5,λv y=>by rw[d5]at y;cases y] c2a))))
 keep:=λi h h' st k=>by
  let#[s1,s2,#[p,q,s3],#[o4,s4,r4],#[o5,s5,r5]]:=st;exact#[k z c_ _ s1,k TI c_ _ s2,#[p,q,k TO c_ _ s3],#[o4,k i1 c_ _ s4,r4],#[o5,k i2 c_ _ s5,r5]]
 item:=by
  intro X hP hw hK hc i hb s Z H E I hf st hg;subst hP hw hK;let#[xs,ys,x,y,qa,qb,hx,hy]:=hg;let#[s1,s2,#[p,q,s3],s4,s5]:=st;let#[ia,ra,ta,za]:=EH_ qa;let#[ib,rb,tb,zb]:=EH_ qb;let#[u,hu,ru]:=ra.get hx;let#[v,hv,rv]:=rb.get hy;exact a7z D s1 s2 s3 s4 s5 ta tb s0_ jq_ λh' a1 a2 a3 a4 a5 a6=>?_;exact#[_,χ,wpAny_letOwnedTupleGo_zip a1 λh2 b1 bu=>?_];let sv:Gz! z h' h2:=bu;let neT:∀c o,rX_ c=ψ o->k_≠c:=λc o e=>QH c8_;let I1:mX_ H {s with heap:=h2,toks:=s.toks}:=zG I (d4z hf) λc o hc e=>by
   let#[n1,n2,n3,n4]:=ne4 hc;exact sv.extBut _ _ n1 (a6 c o n1 n2 n3 n4 e)
  let u9:=F9_ v!;let eT:h2.get? k_=ψ {cls:=.type "tuple",data:=.seq [u,v].toArray}:=sv.extBut _ _ (neT z _ s1) a5;let I2:mX_ (K2! s.heap.objs.size [x,y]) {s with heap:=h2,toks:=s.toks}:=by
   let ne:∀c o,H c=ψ o->c≠k_:=λc o e=>cO e u9;let hpin:∀p∈X.pn++hb,p.1≠k_:=λp hp=>MN (LR (mU!).1);exact Inv.step (s:={s with heap:=h2,toks:=s.toks}) (g':=s.gens) (d':=s.drawn) (t':=s.toks) (h':=h2) (ch:=[k_]) I1 pM! Af! Af_ Ag! Ag_
    (Ah_) Ah! Ai! on_ pM_ I1.bare
   .let e:c=k_:=by simpa using hc
    subst e;exact#[.inr I.sz,QH I.lt,λx c h=>(λz=>by let#[v,o,ho,_]:=I.cell x c h;rw[z]at ho;exact ξ iA_ dO!),hpin]
   .rw[oo!];exact n
   .by_cases J:c=k_
    .show"!u";exact#[by show 2<=sizeLine;rw[NO];decide,[u,v],.cons ru (GN_ rv),#[_,eT,χ,_,χ]]
    .rw[bC J]at e;exact(Ai_).stay oo_ Aj! λd xs q=>by rw[pO!];exact q
  exact#[fd!,_,I2,χ,#[_,χ,u9,λxs' ys' gf va=>#[x,y,?_,?_,χ]],#[b1,sv.extBut _ _ D.TIz (a6 TI _ D.TIz D.TITO D.TIi1 D.TIi2 s2),#[u,v,sv.extBut _ _ D.TOz a2],cL a3 sv.extBut D.i1z,cL a4 sv.extBut D.i2z],kX!]
  .rw[I.tuple_inj gf qa];exact hx
  .rw[I.tuple_inj va qb];exact hy
  .let cy:∀c∈Ac_,∃o,rX_ c=ψ o:=by
    let#[o4,t4,_]:=s4;let#[o5,t5,_]:=s5;exact gQ #[_,s1] (gQ #[_,s2] (gQ #[_,s3] (gQ #[_,t4] (gQ #[_,t5] c2a))))
   let#[o,ho]:=cy c hc;rw[bC (MD (neT c o ho))];exact(hf c hc).1
 done:=by
  intro X hP hw hK hc i hb s Z H E I hf st hg;subst hP hw hK;let#[xs,ys,qa,qb,hend]:=hg;let#[s1,s2,#[p,q,s3],s4,s5]:=st;let#[ia,ra,ta,za]:=EH_ qa;let#[ib,rb,tb,zb]:=EH_ qb;let l1:=ra.length;let l2:=rb.length;exact xH aS_ D s1 s2 s3 s4 s5 ta tb (by
   obtain h|h:=hend
   .left;simp;omega
   .right;simp;omega) λh2 a6=>j!
  exact zG I (ch:=[z,TO,i1,i2]) (d4z hf) λc o hc e=>by
   let#[n1,n2,n3,n4]:=ne4 hc;exact a6 c o n1 n2 n3 n4 e
 self:=λA i s Q E st h=>wpAny_pyIter_zip st.1 h
section
variable{pos p2 p tp:Pos}
def c5o(hg:Gl X "zip")(hm:Al!)(hv:Al_)(ha:PA X aq! ta)(hs:Am!:=by rfl)(ay:An!:=by rfl):
  PI X fL! An_ (λZ H R=>ta Z H λvs H1=>∃x y xs ys,vs=[.ref x,.ref y]/\Fs X.K H1 x xs/\Fs X.K H1 y ys/\R (FT X.K x y) H1):=by
 intro hb s Z H R I h;exact Fq_ hv (OA (dM gt_ ?_) hs ay);rintro us s1 ⟨vs,H1,I1,r1,q1⟩;let#[x,y,xs,ys,rfl,qx,qy,q]:=q1;let#[u,u',rfl,ru,ba]:=yA r1;subst ru;subst ba;let#[ia,ra,ZD,za]:=I1.tuple qx;let#[ib,rb,ZE,zb]:=I1.tuple qy;let lx:x<B!:=by let#[ob,eo,_]:=ZD;exact LR eo
 let ly:y<B!:=by let#[ob,eo,_]:=ZE;exact LR eo
 exact c3n ZD ZE λh' a1 a2 a3 a4 a5 a6=>?_;exact wpAny_pyIter_zip a1 ?_;let I2:mX_ H1 {s1 with heap:=h',toks:=s1.toks}:=I1.kept a6;let D:ZipApart (B!+4) (B!+2) (B!+3) s1.heap.objs.size (B!+1) x y:=by
  constructor<;>(intro z;let z':@Eq δ _ _:=z;let l1:@LT.lt δ _ x _:=lx;let l2:@LT.lt δ _ y _:=ly;omega)
 exact#[_,_,_,FT X.K x y,H1,χ,I2,b3t D,#[a1,a2,#[_,_,a3],a4,a5],kX!,q];let ll:B!<=c:=by
  simp![KR,KN,SS]at hc;obtain rfl|rfl|rfl|rfl|rfl:=hc<;>omega
 exact I1.fpOk ll (GA_ ll)
def Ka:μ D->μ D->μ D
 |x::xs,y::ys=>.tup [x,y]::Ka xs ys
 |_,_=>[]
def BU(fa fb:p!):Ag->ι aG!:=λρ=>(fs_).bind λx=>(kc_).bind λy=>match x,y with|.tup xs,.tup ys=>ψ kZ!|_,_=>υ
def a3g:∀(xs ys:d!) (n:δ) (d:D),kZ![n]?=ψ d->∃x y,xs[n]?=ψ x/\ys[n]?=ψ y/\d=.tup [x,y]
 |[],_,n,d,h=>by simp[Ka]at h
 |_::_,[],n,d,h=>by simp[Ka]at h
 |x::xs,y::ys,0,d,h=>by
  simp[Ka]at h;exact#[x,y,χ,χ,h.symm]
 |x::xs,y::ys,n+1,d,h=>by
  let#[u,v,Y,h2,h3]:=a3g xs ys n d (by simpa[Ka]using h);exact#[u,v,me!,by simpa using h2,h3]
def a3f:∀(xs ys:d!),h_<=(kZ!).length\/aj_<=(kZ!).length
 |[],ys=>.inl co!
 |_::_,[]=>.inr co!
 |x::xs,y::ys=>by
  obtain h|h:=a3f xs ys
  .left;simp[Ka];exact h
  .right;simp[Ka];exact h
def c6w{KF:zR!}(qa:Fs KF G1 x vs)(qb:Fs KF G1 y ws)(ra:yB!)(rb:An KF G1 es ws):J5_ (FT KF x y) (Ka ds es):=by
 intro n G' H' s1 s2;let gf:Fs KF H' x vs:=cE s2 (cE s1 qa);let va:Fs KF H' y ws:=cE s2 (cE s1 qb);exact#[eh_,λhn=>#[vs,ws,gf,va,?_]]
 .let#[u,v,Y,h2,rfl]:=a3g ds es n d hd;let#[v1,g1,r1]:=gW ra Y;let#[v2,g2,r2]:=gW rb h2;exact#[#[vs,ws,v1,v2,gf,va,g1,g2],λx' ii hy=>?_];let#[T,rfl,hT,hh]:=hy;let#[x1,y1,e1,e2,rfl]:=hh vs ws gf va;rw[g1]at e1;rw[g2]at e2;rcases e1;rcases e2;exact#[_,Bz.laid s2 hT,fU (s2.free hT) (An.cons (r1.mono s1) (E1_ (r2.mono s1)))]
 .rw[hn,<-aL ra,<-aL rb];exact a3f ds es
def d3j(hg:Gl X "zip")(hm:Al!)(hv:Al_)(ha:X!)(J:cj_)(hs:Am!:=by rfl)
  (bu:CG_ [b]=eY_::Gc! starEach:=by rfl)(ay:An!:=by rfl):DI X own fL! An_ (BU fa fb):=
 zT (c5o hg hm hv (cX ha.ok (cX J.ok fM bu) hs) hs ay) λZ G H R ρ ds er e k=>by
  let#[x,e1,e]:=KH.mp e;let#[y,e2,e]:=KH.mp e;cases x with
  |tup xs=>
   cases y with
   |tup ys=>
    rcases e;exact Ar_;let#[p,vs,rfl,q,rr]:=bX ft!;let#[p',ws,rfl,q',cr]:=bX r2;exact#[p,p',vs,ws,χ,cE s2.sub q,cE s2.sub q',k _ G2 H2 cP_ (c6w q q' rr cr)]
   |_=>cases e
  |_=>cases e
end
def Ej:D->D->ι D:=Qj Vg λi j=>.int (i*j)
def iG{KF:zR!}:Gy KF m7! Ej:=d1w
def Cw:D->D->ι D:=Qj x6! λi j=>.int (i%j)
def eI{KF:zR!}:Gy KF m8! Cw:=d1x
def Ir:D->D->ι D:=Qj x7! λi j=>.int (i / j)
def nA{KF:zR!}:Gy KF m7_ Ir:=c6i
def BQ:D->D->ι D:=Qj x9! λi j=>.int m8_
def d1s{KF:zR!}:Gy KF m9! BQ:=d1v
def Pj:D->D->ι D:=Hf λi j=>.bl na!
def yR{KF:zR!}:Gy KF na_ Pj:=d5u
def Rm:D->D->ι D:=Hf λi j=>.bl nb_
def uZ{KF:zR!}:Gy KF nc! Rm:=d5w
def IP:D->D->ι D:=Hf λi j=>.bl nc_
def d5s{KF:zR!}:Gy KF nd! IP:=d5x
section
variable{pos p2:Pos}
def jA:Ga X nb! As_:=d5o.or b4r
def Ki:D->D->ι D
 |.int i,.int j=>C2! i3!
 |.str x,.str y=>C2! (Ql x y)
 |_,_=>υ
def jB{KF:zR!}:Gy KF As_ Ki:=by
 show"!1";delta Ki at e;show"!:"
 .show"!A";exact .inl At_
 .show"!w";rcases e;exact .inr At_
 .rcases e
def Ye:D->D->ι D
 |.int i,.int j=>C2! (!(i==j))
 |.str x,.str y=>C2! (!(x==y))
 |_,_=>υ
def yQ{KF:zR!}:Gy KF IE Ye:=by
 show"!1";delta Ye at e;show"!:"
 .show"!A";exact j!;rw[b3c];exact Id! k
 .show"!w";rcases e;exact j!;rw[b3b];exact Id! k
 .rcases e
def fH(hm:∃t,X.mg x=ψ dL!)(hg:U_)(hd:D!:=by decide):Ly_ da_:=by let#[t,ht]:=hm;exact c7w hg ht hd
end
def bP{X:Cx}{scope sc:Scope}(h:X.env.scope=sc)(hd:∀y∈ch!,y.2=.free->(sc.names.lookup y.1=ψ .cell\/sc.names.lookup y.1=ψ .free)):
  ∀y∈ch!,y.2=.free->wC_:=λy hy hf=>by
 delta Env.kindOf;rw[h];exact hd y hy hf
section
variable{pos p2:Pos}
def a6g(ho:cb!)(hg:ef_)(gj:i4!)(oq:Gy X.K r' g')(ha:X!)(J:cj_)(hc:px!)
  (hm:i4_:=by with_unfolding_all rfl):He! i5! (fT zj_):=
 wS (ID_ b8d) λZ G H Q ρ d er e k=>by
  let e:=kZ e;let#[x,e1,e]:=KH.mp e;let#[y,e2,e]:=KH.mp e;let#[z,e3,e]:=KH.mp e;exact zk!;let qi:=s1.trans ft_;cases z with
  |bl bb=>
   obtain rfl:=dI r3;exact zk_;cases bb with
   |true=>
    let#[u,e4,e]:=KH.mp e;exact kX #[G3,ρ,u,er.grow qi,e4,λq G4 H4 s4 r4=>oq s4.sub zl! r4 e λv G5 H5 s5 r5=>?_];obtain rfl:=dI r5;exact#[d,χ,k G5 H5 zl_]
   |false=>
    cases e;exact lM #[θ,χ,k G3 H3 qi]
  |_=>cases e
def b5v(hd:Tk X x cu)(hg:U_)(ha:X!)(hm:behindInMarks .NotIn dt_=false:=by rfl)(bd:D!:=by decide):He! (.Compare a [.NotIn] [cQ_] pos) (fT (Zm cu τ fa)):=by
 show"#Q";exact wS (t:=λZ H Q=>FK_ tD fa Z H λv H1=>∃y,v=.str y/\Q (!(Mg h1 el!).isSome) H1) zp! λZ G H Q ρ d er e k=>?_
 .exact UZ (dM zp_ λv s1 ⟨y,H1,I1,r1,z,hz,q1⟩=>iR I1 hg mh ?_ bd) hm;subst hz;exact wpAny_notIn_of zq! Y2 (zm _ I1.kIn).mapOf ?_;rw[<-(zn.val (I3_ z)).isSome_eq];exact ND #[H1,I1.tok _,q1]
 .let e:=kZ e;let#[x,e1,e]:=KH.mp e;cases x with
  |str y=>
   cases e;exact fw!;obtain rfl:=cH r1;exact#[y,χ,?_];let J:(Mg h1 el!).isSome=(py_).isSome:=by
    cases ht:Id_ y with
    |none=>rw[(hn y).mpr ht];rfl
    |some d=>let#[v,hv,_]:=hs y d ht;rw[hv];rfl
   rw[J];exact k G1 H1 s1
  |_=>cases e
end
def cU:Es_ "len"=ψ tI_:=by decide+kernel
def d4b:Es_ "abs"=ψ tE!:=by decide+kernel
def d4a:Es_ "ord"=ψ tG!:=by decide+kernel
def a2z:Es_ "all"=ψ yx_:=by decide+kernel
def cS:Es_ "isinstance"=ψ kl!:=by decide+kernel
def c3t:Es_ "int"=ψ bZ_:=by decide+kernel
def c8k:Es_ "bool"=ψ b0!:=by decide+kernel
def b0a:Es_ "str"=ψ b0_:=by decide+kernel
def qN:Es_ "tuple"=ψ bm!:=by decide+kernel
def d3z:Es_ "zip"=ψ pL!:=by decide+kernel
def Ed(KF:zR!)(mg:U!)(x:Str)(st:Stmt)(ps:w_):Prop:=∃af fd,Hf_ x x/\EP_ KF/\mg x=ψ bl_
def Ef(N:w_)(n:δ)(q:cS!)(ds:d!):ι D:=if f_=n then(match q cS_ with|some (.rt d)=>ψ d|some (.nx _)=>ψ .non|none=>υ)else υ
def eM{KF:zR!}{st:Stmt}(h:pV!)(S:dm_)
  (J:∀{af:sS!} {ah:yg!} {A:xy!} {outer:ax_} {s:zP!} {H:Hp} {E:XK},Ai k k1!->N.Nodup->HZ! Yb pV_):
  Ok P w KF mg base R_ x ps (Ef N ps.length q):=by
 let#[af,fd,F,B,m]:=h;exact#[af,fd,d3k F S (λah A outer s H E hr=>J hr S.nd) (λds d hl e=>?_),B,m,F.kp];delta Ef at e;rw[KQ hl]at e;show"!:"
 .rcases e;left;assumption
 .rcases e;right;exact#[_,by assumption,χ]
 .rcases e
def ED:Const->ι D
 |.int i=>ψ ay!
 |.str i=>ψ j6!
 |.bool i=>C2! i
 |.none=>ψ .non
 |_=>υ
mutual
noncomputable def Uo:Nat->Expr->Option D
 |0,_=>υ
 |n+1,e=>match e with
  |.Constant c _ _=>ED c
  |.Tuple es _ _=>(pW!).bind λds=>if f_<=1000 then ψ dr! else υ
  |.List es _=>(pW!).bind λds=>if f_<=1000 then ψ ci! else υ
  |_=>υ
noncomputable def Um:Nat->List Expr->Option aG!
 |0,_=>υ
 |n+1,[]=>ψ []
 |n+1,e::es=>(Uo n e).bind λd=>(pW!).bind λds=>ψ dr_
end
section
variable{X:Cx}{own:List Nat}
def c0i(h:Uo n e=ψ d):CG_ aJ_=dX_::CG_ es:=by
 cases n with
 |zero=>delta Uo at h;rcases h
 |succ n=>
  cases e<;>first|rfl|(simp[Uo]at h;done)
set_option tactic.hygienic true in
mutual
theorem fS:∀{n:δ} {e:Expr} {d:D},Uo n e=ψ d->Ek! e (fC d)
 |0,e,d,h=>by delta Uo at h;rcases h
 |n+1,e,d,h=>by
  delta Uo at h;split at h
  .delta ED at h;split at h
   .rcases h;exact aB
   .rcases h;exact aY
   .rcases h;exact fW
   .rcases h;exact dG
   .rcases h
  .let#[ds,e1,e2]:=KH.mp h;split at e2
   .rename_i hl;rcases e2;exact eW (cP (a9v e1)).ok λZ G H Q ρ d er e k=>?_;show"#M"
   .rcases e2
  .let#[ds,e1,e2]:=KH.mp h;split at e2
   .rename_i hl;rcases e2;exact eW (mT (a9v e1)).ok λZ G H Q ρ d er e k=>?_;show"#M"
   .rcases e2
  .rcases h
theorem a9v:∀{n:δ} {es:c9_} {ds:d!},Um n es=ψ ds->DA X own es (λ_=>ψ ds)
 |0,e,d,h=>by delta Um at h;rcases h
 |n+1,[],d,h=>by
  delta Um at h;rcases h;exact aI
 |n+1,e::es,d,h=>by
  delta Um at h;let#[d1,e1,h]:=KH.mp h;let#[ds,e2,h]:=KH.mp h;rcases h;exact c2y (aD (fS e1) (a9v e2) (c0i e1)).ok λZ G H Q ρ d er e k=>#[G,ρ,_,er,e,k]
end
end
section
variable{KF:zR!}
def aZ{st:Stmt}{kV:yg!}(X:fN!)(G:fN_)
  (a:Ay!)(l:Az_)
  (c:AA!)(k:k1_)
  (b:AA_):Ed KF mg x st ps:=
 #[f,_,k2!,pX!,pX_]
def Zu(KF:zR!)(mg:U!)(x:Str)(st:Stmt)(ps:w_):Prop:=∃af fd,Hf_ x x/\(∀us:List Value,aC_=P_->bindArgs fd dh!=pure dg!)/\mg x=ψ bl_
def c7s{st:Stmt}{kV:yg!}(X:fN!)(G:fN_)
  (a:Ay!)(l:Az_)
  (c:AA!)(k:k1_)
  (b:AA_):Zu KF mg x st ps:=
 #[f,_,k2!,Hu_ b _ _,pX_]
def qA(X:fN!)(G:fN_)(a:FW_ KF x=ψ (Fd_ i)):∃tk,mg x=Fd_ i:=#[tk,pX_]
def eQ(X:fN!)(G:fN_)(e:FW_ KF x=ψ hN_):mg x=ψ N_:=W.mg_of X G e
def dR(X:fN!)(G:fN_)(e:FW_ KF x=ψ υ):mg x=none:=W.mg_none_of X G e
def zH{KF:zR!}:∀(ns:s_),Fj_ pY_ ce_
 |[]=>An.nil
 |n::r=>Gt! Ao.int (zH r)
abbrev Ux:=Str×Tok×Addr
def BF(w:zF!)(r:Ux):DictEntry:=#[PyData.keyHash w.params r.1,.str r.1 r.2.1,.ref r.2.2]
def Uw(KF:zR!):μ Ux->μ cm_->ν
 |[],[]=>True
 |r::rs,t::ts=>r.1=t.1/\(∀H,Ao KF H t.2 (V.ref r.2.2))/\Uw KF rs ts
 |_,_=>False
abbrev Ve(rows:hO!):μ oz_:=rows.map λr=>(Sum.inr r.1,V.ref r.2.2)
abbrev Sq(rows:hO!):μ zo_:=rows.map λr=>(Sum.inr r.1,Value.ref r.2.2)
def uN:∀(rows:hO!),Pairs bu! AE! pZ_
 |[]=>.nil
 |r::rs=>.cons (mF P w r.1 r.2.1) χ (uN rs)
def qU:∀{rows:hO!} {cu:hx!},Uw KF rows cu->(Mg p0_ el!=υ↔cu.lookup y=υ)/\∀d,Id_ y=ψ d->∃v,Mg p0_ el!=ψ v/\∀H,Ev_ d v
 |[],[],_=>#[#[cC!,cC!],λd e=>by rcases e]
 |[],t::ts,h=>h.elim
 |r::rs,[],h=>h.elim
 |r::rs,(x,d0)::ts,h=>by
  let#[Y,h2,h3]:=h;let ih:=qU (y:=y) h3;let j4:r.1=x:=Y;delta Mg at ih ⊢;simp![LA,QA,NU];by_cases e:y=x
  .subst e;let:decide AF!=true:=by simp[j4]
   simp![this,NH];exact#[#[AF_,AF_],λd z=>?_];rcases z;exact F6_ h2
  .let e1:decide AF!=false:=by
    rw[j4];exact LD λz=>e (AG_).symm
   let e2:(y==x)=false:=by simp[e]
   simp![e1,e2];exact ih
def b2j:∀(rows:hO!),KV p0_ pZ_
 |[]=>.nil
 |r::rs=>.cons aK_ (b2j rs)
def c1u{ad:sS!}(hw:X.w=w)(hK:X.K=KF)(mh:X.mg=mg)(hm:mg x=ψ kG!)(hs:py!=θ)(hl:Fk_ ad=ψ {cls:=.type "dict",data:=.dict (AE!).toArray ep})
  (nd:fO!)(ht:Uw KF rows cu):Tk X x cu:=by
 subst hw hK mh;exact#[ad,Ve rows,Sq rows,hm,hs,λh hK=>#[_,_,_,hK _ _ hl,p1_,χ,?_,?_,?_],b2j rows,λy=>(qU ht).1,λy d=>(qU ht).2 d]
 .intro e he;let j5:e∈rows.map (BF X.w):=by simpa using he
  let#[r,hr,rfl]:=LC.mp j5;exact#[Sum.inr r.1,mF _ _ r.1 r.2.1,χ]
 .simpa using uN rows
 .let e:Ej_ pZ_=(p1!).map (Sum.inr:Str->L2.Key):=by simp[Sq]
  rw[e];exact List.Pairwise.map _ (λa b oo z=>oo AG_) nd
def a3y:∀(fs:bd_),Fj_ (fs.map D.fn) AI!
 |[]=>An.nil
 |n::r=>Gt! (by delta Ao;rfl) (a3y r)
def xZ:∀(fs:bd_),Av AI! AJ!
 |[]=>.nil
 |n::r=>.cons χ (xZ r)
def gU{fs:bd_}(l:Fk_ a=ψ #[c0!,od,.seq (AJ!).toArray n,sl])(hz:bu_<=1000)(H:Hp):Ev_ (.tup (fs.map D.fn)) g9_:=
 Ao.tup (.inr #[_,_,n,l,χ,χ,by simpa using fG hz,by simpa using xZ fs]) (a3y fs)
end
abbrev MK:=Em! (Sum L2.Key (μ L2.Key))
abbrev DZ:Int:=0xFCA86420
section
variable (P w)in
def Jb(h:Heap):MK->Value->ν
 |none,v=>v=.none
 |some (.inl k),v=>Pk k v=τ
 |some (.inr ks),v=>∃a,v=.ref a/\IsTupleKey bu! h ks a
variable (P w)in
nonrec def mkHash:MK->Int
 |none=>DZ
 |some (.inl k)=>EE w k
 |some (.inr ks)=>tupleKeyHash bu! ks
def a5b(hx:Jc_ x v)(hy:Jc_ y v):x=y:=by
 obtain _|x|x:=x<;>obtain _|y|y:=y
 .rfl
 .cases AK!;obtain⟨i,t,_,e⟩|⟨i,t,_,e⟩:=bV hy<;>exact nomatch e
 .cases AK!;let#[a,e,_]:=hy;exact nomatch e
 .cases hP_;obtain⟨i,t,_,e⟩|⟨i,t,_,e⟩:=bV hx<;>exact nomatch e
 .rw[(bu!).inj v x y hx hy]
 .let#[a,rfl,_]:=hy;obtain⟨i,t,_,e⟩|⟨i,t,_,e⟩:=bV hx<;>exact nomatch e
 .cases hP_;let#[a,e,_]:=hx;exact nomatch e
 .let#[a,rfl,_]:=hx;obtain⟨i,t,_,e⟩|⟨i,t,_,e⟩:=bV hy<;>exact nomatch e
 .let#[a,rfl,hx]:=hx;let#[b,e,hy]:=hy;cases e;rw[hx.inj hy]
def kK(x:IsTupleKey bu! h ks a):∃its,h.IsTuple a its:=by let#[o,its,n,Y,h2,h3,_]:=x;exact#[its,o,Y,h2,n,h3]
def b9x(hu:as!)(hx:p4!)(hy:If! y)(h:E2_ Q (x=y) s):K1! (eqBool u v):=by
 obtain _|x|x:=x<;>obtain _|y|y:=y
 .cases hQ_;cases hP_;rw[fP_]at h;exact Hu_ SeqAt.EqAt.same _ h
 .cases hQ_;rw[fQ!]at h;obtain⟨i,t,rfl,rfl⟩|⟨i,t,rfl,rfl⟩:=bV hy
  .exact Hg! SeqAt.EqAt.none_int
  .exact Hg! SeqAt.EqAt.none_str
 .cases hQ_;rw[fQ!]at h;let#[a,rfl,q]:=hy;let#[its,q]:=kK q;exact SeqAt.EqAt.none_tuple q hu _ _ _ _ h
 .cases hP_;rw[fQ!]at h;obtain⟨i,t,rfl,rfl⟩|⟨i,t,rfl,rfl⟩:=bV hx
  .exact Hg! SeqAt.EqAt.int_none
  .exact Hg! SeqAt.EqAt.str_none
 .exact(bu!).eqBool hx hy ?_;by_cases e:x=y
  .subst e;rw[fP_]at h ⊢;exact h
  .rw[LD c6_]at h;rw[LD e];exact h
 .rw[fQ!]at h;let#[a,rfl,q]:=hy;let#[its,q]:=kK q;obtain⟨i,t,rfl,rfl⟩|⟨i,t,rfl,rfl⟩:=bV hx
  .exact FX! SeqAt.EqAt.int_tuple
  .exact FX! SeqAt.EqAt.str_tuple
 .cases hP_;rw[fQ!]at h;show"#/";let#[its,q]:=kK q;exact SeqAt.EqAt.tuple_none q hu _ _ _ _ h
 .rw[fQ!]at h;let#[a,rfl,q]:=hx;let#[its,q]:=kK q;obtain⟨i,t,rfl,rfl⟩|⟨i,t,rfl,rfl⟩:=bV hy
  .exact FX! SeqAt.EqAt.tuple_int
  .exact FX! SeqAt.EqAt.tuple_str
 .show"#/";let#[b,rfl,q2]:=hy;exact wpAny_eqBool_tuple hu q q2 ?_;by_cases e:x=y
  .subst e;rw[fP_]at h ⊢;exact h
  .rw[LD c6_]at h;rw[LD e];exact h
def a5a(hx:p4!)(h:Q τ s):K1! (eqIsQuiet 8 u):=by
 obtain _|x|x:=x
 .cases hQ_;rw[eqIsQuiet_byValue _ χ];exact KJ h
 .rw[eqIsQuiet_byValue _ ((bu!).byValue x u hx)];exact KJ h
 .show"#/";exact wpAny_eqIsQuiet_tuple q h
def tM(hu:as!)(hx:p4!)(h:∀tk,Q (mkHash P w x) {s with toks:=tk}):K1! (pyHash u):=by
 obtain _|x|x:=x
 .cases hQ_;delta pyHash;let hv:[dL_].any Value.onHeap=false:=χ;exact KG ?_;rw[cRoomFor,KD_ hv];exact KJ ?_;let hT:s.TypeIs .none "NoneType":=χ;exact KG AL!;rw[LB (show¬(ψ (Value.builtin "NoneType.__hash__")==ψ Value.none)=τ by rw[beq_builtin_none];exact LU)];exact KG AL!;exact KG (wpAny_callSpecialIfBoundUnlessNone?_slot hT RN (NA RN hT PySem.F.entry_NoneType_hash ?_ (PySem.F.args_NoneType_hash_1 _)));exact wpAny_ret_mkInt ?_;exact KJ (h _)
 .exact(bu!).pyHash hx (h _)
 .show"#/";exact wpAny_pyHash_tuple hu q (h _)
end
def Lg(ks:hR!)(k:MK):ι Nat:=ks.findIdx? λx=>decide (x=k)
def Gf(ks:hR!)(k:MK)(i:δ):Bool:=decide (ks[i]?=ψ k)
def pU(h:AM_):ks[j]?=ψ k/\∀i,i<j->ks[i]?≠ψ k:=by let#[Y,h2,h3]:=List.findIdx?_eq_some_iff_getElem.mp h;exact#[by rw[LL Y];exact congrArg ψ (NZ h2),λi hi e=>?_];let:=h3 i hi;let#[q1,q2]:=LH.mp e;rw[q2]at this;simp at this
def a5k(h:Lg ks k=υ)(i:δ):ks[i]?≠ψ k:=λe=>by
 let:=List.findIdx?_eq_none_iff.mp h k (QQ e);simp at this
def a9q(ks:hR!)(k:MK):(Fv_ hR_).find? dz!=Lg ks k:=by
 cases h:Lg ks k with
 |none=>
  rw[List.find?_eq_none];intro i hi z;exact a5k h i (NZ z)
 |some j=>
  let#[Y,h2]:=pU h;rw[List.find?_range_eq_some];exact#[by delta Gf;exact LM Y,RY.mpr (kv_).1,λi hi=>?_];delta Gf;rw[LD (h2 i hi)];rfl
section
variable (P w)in
structure Mv(h:Heap)(es:jS_)(ks:hR!):Prop where
 len:es.size=hR_
 at_:∀(i:δ) (e:DictEntry) (k:MK),es[i]?=ψ e->ks[i]?=ψ k->Jc_ k e.key/\e.hash=mkHash P w k
 nd:hS!
def Mv.get(x:k5!){i:δ}(q:es[i]?=ψ e):∃k,ks[i]?=ψ k/\Jc_ k e.key/\e.hash=mkHash P w k:=by
 let hl:i<hR_:=by rw[<-x.len];exact(OF.mp q).1
 exact#[ks[i],LL hl,x.at_ i e _ q (LL hl)]
def Mv.one(x:k5!)(Y:G1_ i=τ)(h2:G1_ j=τ):i=j:=by let e1:=NZ Y;let e2:=NZ h2;exact(List.getElem?_inj (LH.mp e1).1 x.nd).mp sb!
abbrev plc(es:jS_)(h:Int):μ Nat:=placesWithHash es.size (λi=>es[i]?.map (·.hash)) h
def a6c{es:jS_}{ks:hR!}(x:k5!)(k:MK):(k5_).find? dz!=Lg ks k:=by
 delta plc placesWithHash;rw[List.find?_filter,<-a9q,x.len];congr 1;funext i;cases hp:G1_ i with
 |false=>simp
 |true=>
  let e1:=NZ hp;let hl:i<es.size:=by rw[x.len];exact(LH.mp e1).1
  let#[k',q1,q2,q3]:=Hw_ hl;rw[e1]at q1;rcases q1;simp[MU hl,q3]
def b8l(hi:i∈plc es h):i<es.size:=by let:=(MX.mp hi).1;simpa using this
def d1f:(plc es h).Nodup:=List.nodup_range.sublist SF
def a7h(hu:as!)(x:AN_)(hk:er_)
  (ho:AO!)(hd:AP_)(h:Q hS_ s):o6_ G! AP!:=by
 show"!j";generalize plc es dA!=L at hf hl ⊢;rw[<-hf]at h;delta dictWalkPlain;exact KG (UQ _ (λrest b s'=>s'=s/\b=hT!/\rest.find? dz!=L.find? dz!/\∀i∈rest,i<es.size) _ ?_ ?_ _ _ #[rfl,rfl,rfl,hl])
 .rintro i rest b s' ⟨rfl,rfl,Y,h2⟩;let av:=h2 i KM;let he:=MU av;let#[k',q1,q2,q3]:=x.get he;let no:k'≠k->rest.find? dz!=L.find? dz!:=λhne=>by
   rw[<-Y,QA];let:G1_ i=false:=by delta Gf;rw[q1];exact LD AQ_
   rw[this]
  show"#(";rw[he];dsimp only;split
  .exact KG p5_;rw[bB_];by_cases ox:k'=k
   .subst ox;rw[fP_];let hi:Gf ks k' i=true:=by delta Gf;exact LM q1
    let:L.find? (Gf ks k')=ψ i:=by rw[<-Y,QA,hi]
    rw[this]at h;exact GE! k6_
   .rw[LD ox];exact GE! (KJ #[χ,χ,no ox,rs])
  .rename_i hh;exact KJ #[χ,χ,no AR_,rs]
 .rintro b s' ⟨rfl,rfl,Y,_⟩;rw[<-Y]at h;exact KJ h
end
def a3l(hk:er_)(hl:∀v∈L,∃k',If! k')(h:Q θ s):K1! (tableMayTell u L):=by
 delta tableMayTell;split
 .exact KJ h
 .exact FU_ a5a hk;rw[aW_];exact KG (UQ _ (λrest r s'=>s'=s/\r=hT!/\∀v∈rest,v∈L) _ ?_ ?_ _ _ #[χ,χ,λ_ z=>z])
  .rintro v rest r s' ⟨rfl,rfl,hr⟩;let#[k',q]:=hl v (hr v KM);exact FU_ a5a q;rw[aW_];exact KJ #[χ,χ,λy hy=>hr y ec_]
  .rintro r s' ⟨rfl,rfl,_⟩;exact KJ h
def c4g(q1:AT!)(e:k'=k):G1_ i=true:=by delta Gf;rw[<-e];exact LM q1
def b3q{rest:o!}(hc:(ax=υ/\(i::rest).find? dz!=Lg ks k)\/∃j,ax=ψ j/\Lg ks k=ψ j/\G1_ j=τ/\j∉i::rest)(q1:AT!)(hne:¬k'=k):
  AU!\/∃j,ax=ψ j/\Lg ks k=ψ j/\G1_ j=τ/\j∉rest:=by
 obtain⟨e,Y⟩|⟨j,e,Y,h4,h5⟩:=hc
 .exact .inl jM_;rw[<-Y,QA];let:G1_ i=false:=by delta Gf;rw[q1];exact LD AQ_
  rw[this]
 .exact .inr #[j,e,Y,h4,λz=>h5 (KI _ z)]
def rO(q:Jc_ k v):v.isStr z=decide (k=ψ fR!):=by
 by_cases e:k=ψ fR!
 .subst e;rw[fP_];obtain⟨i,t,e,_⟩|⟨i,t,e,rfl⟩:=bV q
  .cases e
  .cases e;simp[Value.isStr]
 .rw[LD e];cases v<;>first|rfl|skip
  rename_i y t;simp![Value.isStr,NN,ne_eq];rintro rfl;exact e (a5b q (rL y t))
def c1y(x:k5!)(z:Str):(es.findIdx? λe=>e.key.isStr z)=Lg ks (ψ fR!):=by
 cases hk:Lg ks (ψ fR!)with
 |none=>
  rw[Array.findIdx?_eq_none_iff];intro e he;let#[i,hi]:=Array.mem_iff_getElem?.mp he;let#[k',q1,q2,_]:=x.get hi;rw[rO q2];exact LD λ(e:k'=_)=>a5k hk i AV!
 |some j=>
  let#[Y,h2]:=pU hk;let hj:j<es.size:=by rw[x.len];exact(kv_).1
  rw[Array.findIdx?_eq_some_iff_getElem];exact#[hj,?_,λi hi=>?_]
  .let#[k',q1,q2,_]:=Hw_ hj;rw[rO q2];rw[Y]at q1;rcases q1;exact LM χ
  .let#[k',q1,q2,_]:=Hw_ (VT hi hj);rw[rO q2,LD (λ(e:k'=_)=>h2 i hi AV!)];decide
def d5d(h:∃T:Prop,(T->g)/\T):g:=by let#[_,f,k]:=h;exact f k
def qB(hu:as!)(x:AN_)(hk:er_)
  (ho:AO!)(hd:AP_)(h:Q hS_ s):K1! (dictFind d u dA!):=by
 let hst:∀v∈(k5_).filterMap (λi=>es[i]?.map k7_),∃k',If! k':=λv hv=>by
  let#[i,_,e]:=RE.mp hv;let#[e',e1,rfl]:=KZ.mp e;let#[k',_,q,_]:=x.get e1;exact#[k',q]
 let hany:¬(es.any λe=>e.key==u&&e.hash != mkHash P w k)=true:=λz=>by
  let#[i,hi,z]:=Array.any_eq_true.mp z;rw[LS,OT,bne_iff_ne]at z;let#[k',_,q,q3]:=Hw_ hi;rw[z.1]at q;exact z.2 (by rw[q3,a5b q hk])
 show"!j";let sw:(k5_).Nodup:=d1f;let ay:o6_ G! AP!:=a7h hu x hk ho hd h;delta dictFind;exact Lo! p7!;exact d5d ?_;apply Exists.intro;apply And.intro
 .intro tl;let zd:(∃a,u=.ref a)\/(∃z t,u=.str z t/\k=ψ fR!)\/(u=.none\/∃i t,u=.int i t):=by
   clear tl;obtain _|k|k:=k
   .exact Er_ mx_
   .obtain⟨i,t,rfl,rfl⟩|⟨i,t,rfl,rfl⟩:=bV hk
    .exact KJ_ #[i,t,χ]
    .exact FL! #[i,t,χ,χ]
   .let#[a,rfl,_]:=hk;exact .inl #[a,χ]
  obtain⟨a,ea⟩|⟨z,t,ea,ZF⟩|ea|⟨i,t,ea⟩:=zd
  all_goals rw[ea]
  all_goals dsimp only
  rotate_left
  exact If_ (λmf=>?_) λ_=>?_
  .clear tl;delta foundByValue;rw[c1y x z,<-ZF];cases hj:Lg ks k with
   |none=>rw[hj]at h;exact KJ h
   |some j=>
    let#[Y,_]:=pU hj;let av:j<es.size:=by rw[x.len];exact(kv_).1
    let#[k',q1,q2,_]:=Hw_ av;rw[Y]at q1;rcases q1;dsimp only;rw[MU av,<-ea];exact KG p5_;rw[bB_,fP_];rw[hj]at h;exact GE! (KJ h)
  all_goals rw[<-ea]
  all_goals exact If_ (λ_=>ay) λ_=>?_
  rotate_right
  rw[LB hany]
  all_goals exact If_ (λ_=>KG Y_) λ_=>KG (a3l hk hst ?_)
  all_goals rw[aW_]
  all_goals exact tl
 exact KG (UQ _ (λrest b s'=>s'=s/\∃ax,b=(υ,ax)/\(∀i∈rest,i<es.size)/\rest.Nodup/\
  (AU!\/∃j,ax=ψ j/\Lg ks k=ψ j/\G1_ j=τ/\j∉rest)) _ ?_ ?_ _ _ #[χ,υ,χ,hl,sw,.inl #[χ,hf]])
 rotate_left
 .rintro b s' ⟨rfl,ax,rfl,_,_,hc⟩;obtain⟨rfl,Y⟩|⟨j,rfl,Y,_⟩:=hc
  .rw[<-Y]at h;exact KJ h
  .rw[Y]at h;exact KJ h
 .rintro i rest b s' ⟨rfl,ax,rfl,h2,h3,hc⟩;let av:=h2 i KM;let he:=MU av;let#[k',q1,q2,q3]:=x.get he;let#[n1,n2]:=LO.mp h3;show"#(";let stay:=λhne=>b3q hc q1 hne;rw[he];dsimp only;split
  .exact KG p5_;rw[bB_];by_cases ox:k'=k
   rotate_left
   .rw[LD ox];simp![MJ,NJ,Bool.false_and];exact GE! (K5! ox)
   .let hi:=c4g q1 ox;rw[LM ox];obtain⟨rfl,Y⟩|⟨j,e,Y,h4,h5⟩:=hc
    .let hL:=Y;rw[QA,hi]at hL;dsimp only[if_true,Option.isSome_none,Bool.false_eq_true,if_false];exact KG fI_;split
     .rw[<-hL]at h;exact LW! h
     .exact KJ #[χ,A_,χ,rs,n2,.inr #[i,χ,hL.symm,hi,n1]]
    .exact Ei_ (x.one hi h4) λz=>h5 (z▸KM)
  .rename_i hh;exact K5! AR_
def Mw(h:Heap)(a:sS!)(es:c0_)(ep:δ):Prop:=∃o,h.get? a=ψ o/\iv_/\o.data=I4! es.toArray
def Mw.typeIs{s:zP!}(D:hU!):Hd! N_ "dict":=by let#[o,ho,hc,_]:=D;exact#[o,ho,hc.1]
def Zk(es:c0_)(j:Em! δ)(h:Int)(u v:yg!):μ DictEntry:=match j with
 |some j=>es.modify j λe=>{e with val:=v}
 |none=>es++[#[h,u,v]]
def DV(j:Em! δ)(ep:δ):Nat:=match j with
 |some _=>ep
 |none=>ep+1
section
variable{es:List DictEntry}
def d6t(hu:as!)(D:hU!)(x:k8_)(hk:er_)(h:∀tk,Q ((hS_).bind λj=>es[j]?.map (·.val)) {s with toks:=tk}):
  wpAny G! A (dictGet a u) Q E s:=by
 let#[o,ho,_,hd]:=D;delta dictGet;exact NB p8!;let h:=h tk;cases hj:Lg ks k with
 |none=>rw[hj]at h;exact KJ h
 |some j=>
  rw[hj]at h;exact KG (QF ho hd Y_);rw[QL];exact h
def tV{h:Heap}(ho:h.get? a=ψ o)(hc:iv_)(hd:o.data=I4! es.toArray)(he:f es.toArray=bc.toArray):
  Mw (h.update a (Obj.mapDict f)) a bc ep/\Mw (h.update a (Obj.mapDictKeys f)) a bc cp_:=
 #[#[_,OQ _ ho (Iw_ Obj.data_mapDict),hc.mapDict _,by rw[Obj.data_mapDict hd,he]],#[_,OQ _ ho (Iw_ Obj.data_mapDictKeys),hc.mapDictKeys _,by rw[Obj.data_mapDictKeys hd,he]]]
def d6s(hu:as!)(D:hU!)(x:k8_)(hk:er_)(hl:p8_)
  (h:∀h' tk,Mw h' a (Zk es hS_ dA! u v) (DV hS_ ep)->Et_ a->Q () {s with heap:=h',toks:=tk}):o6_ G! A1_:=by
 let#[o,ho,hc,hd]:=D;delta dictSet;exact Lo! (tM hu hk λtk=>?_);delta dictSetHashed;exact Lo! AZ!;cases hj:Lg ks k with
 |none=>
  rw[hj]at h;exact GE! (VI ho hd (h _ tk (A2!).2 en!))
 |some j=>
  rw[hj]at h;exact GE! (KG (wpAny_updateDict ho hd (wpAny_point (h _ tk (A2!).1 en!))))
def qF(hu:as!)(D:hU!)(x:k8_)(hk:er_)(hl:p8_)
  (Y:∀j e tk,Lg ks k=ψ j->es[j]?=ψ e->Q e.val {s with toks:=tk})
  (h2:∀h' tk,Lg ks k=υ->Mw h' a (es++[#[mkHash P w k,u,v]]) cp_->Et_ a->Q v {s with heap:=h',toks:=tk}):K1! (dictSetDefault a u v):=by
 let#[o,ho,hc,hd]:=D;delta dictSetDefault;exact NB p8!;cases hj:Lg ks k with
 |none=>
  exact GE! (KG (VI ho hd (KJ (h2 _ tk hj (tV ho hc hd c_).2 en!))))
 |some j=>
  let av:j<ao!:=by
   let:=(LH.mp (pU hj).1).1;rw[<-x.len]at this;simpa using this
  exact KG p7!;rw[QL,LL av];exact GE! (KJ (Y j _ tk hj (LL av)))
def d3d(hu:as!)(D:hU!)(x:k8_)(hk:er_)(hl:p8_)(hj:AM_)(he:es[j]?=ψ e)
  (h:∀h' tk,Mw h' a A3_ cp_->Et_ a->Q iQ! {s with heap:=h',toks:=tk}):o6_ G! A4!:=by
 let#[o,ho,hc,hd]:=D;delta Builtin.Dict.takeOut;exact NB p8!;rw[hj];exact KG p7!;rw[QL,he];let av:=(LH.mp he).1;exact KG (VI ho hd (KJ (h _ tk (tV ho hc hd ?_).2 en!)) (hf:=?_))
 .rw[Array.eraseIdxIfInBounds,dif_pos A4_];simp
 .rw[Array.eraseIdxIfInBounds];split
  .rw[Array.size_eraseIdx];omega
  .omega
end
def Kj:μ D->KK_ L2.Key
 |[]=>ψ []
 |.int i::r=>(Kj r).map (Sum.inl i::·)
 |.str x::r=>(Kj r).map (Sum.inr x::·)
 |_::_=>υ
def Cj:D->Em! MK
 |.non=>ψ υ
 |.int i=>GY_ (K3_ i)
 |.str x=>GY_ (K3! x)
 |.tup xs=>(Kj xs).map λks=>ψ (.inr ks)
 |_=>υ
def zD:∀{xs ys:d!} {ks:μ L2.Key},Kj xs=ψ ks->Kj ys=ψ ks->xs=ys
 |[],ys,ks,h,h'=>by
  cases h;cases ys with
  |nil=>rfl
  |cons y r=>cases y<;>simp[Kj]at h'
 |x::xs,[],ks,h,h'=>by
  cases h';cases x<;>simp[Kj]at h
 |x::xs,y::ys,ks,h,h'=>by
  cases x<;>simp![Kj]at h<;>first|(rcases h;done)|skip
  all_goals (let#[l,e1,rfl]:=KZ.mp h)
  all_goals (cases y<;>simp![Kj]at h'<;>first|(rcases h';done)|skip)
  all_goals (let#[l',e2,e3]:=KZ.mp h')
  all_goals (injection e3 with e4 e5)
  all_goals first|(injection e4;done)|skip
  all_goals (injection e4 with e4;subst e4 e5;rw[zD e1 e2])
def b2b(h:aX!)(h':aX_):x=y:=by
 cases x<;>simp![Cj]at h<;>first|(rcases h;done)|skip
 all_goals (cases y<;>simp![Cj]at h'<;>first|(rcases h';done)|skip)
 all_goals first
  |rfl
  |(cases h;cases h';rfl)
  |(cases h;cases h')
  |(cases h;let#[l,e1,e2]:=KZ.mp h';cases e2)
  |(cases h';let#[l,e1,e2]:=KZ.mp h;cases e2)
  |(let#[l,e1,e2]:=KZ.mp h;let#[l',e3,e4]:=KZ.mp h';cases e2;cases e4;rw[zD e1 e3])
def Cg(KF:zR!)(G:Hp)(d:D)(u:yg!):Prop:=∃v,EY! G/\Bh v u
def Cg.mono{KF:zR!}(e:lb!)(h:Ig! G):Ig! G':=by let#[v,Y,h2]:=h;exact#[v,Y.mono e,h2]
def a3x{KF:zR!}:∀{ds:d!} {vs:r_} {ks:μ L2.Key},CG! G->Kj ds=ψ ks->vs=ks.map kV
 |[],vs,ks,r,e=>by cases cR r;cases e;rfl
 |d::ds,vs,ks,r,e=>by
  let#[v,t,rfl,r1,r2]:=bS r;cases d<;>simp![Kj]at e<;>first|(rcases e;done)|skip
  all_goals (let#[l,e1,rfl]:=KZ.mp e;rw[a3x r2 e1])
  .cases bA r1;rfl
  .cases cH r1;rfl
def qW(I:d_)(sub:J_)(r:b5!)(e:br!):EW_ Jb s.heap k u:=by
 let#[v,r,ru]:=r;cases d<;>simp![Cj]at e<;>first|(rcases e;done)|skip
 .cases e;cases eP r;exact ru
 .cases e;cases bA r;let#[t,rfl]:=ru;exact zE _ _
 .cases e;cases cH r;let#[t,rfl]:=ru;exact rL _ _
 .let#[ks,e1,rfl]:=KZ.mp e;let#[a,vs,rfl,q,rr]:=bX r;cases ru;show"#8";rw[a3x rr e1]at rv;exact#[a,χ,o,bc!,n,Y,h2,h3,by simpa using rN rv]
open Classical in
nonrec def kget:μ av!->D->ι D
 |[],_=>υ
 |(k,v)::r,d=>if k=d then ψ v else kget r d
open Classical in
def Bq:μ av!->D->D->μ av!
 |[],d,v=>[(d,v)]
 |(k,x)::r,d,v=>if k=d then(k,v)::r else(k,x)::Bq r d v
open Classical in
def He:μ av!->D->μ av!
 |[],_=>[]
 |(k,x)::r,d=>if k=d then r else(k,x)::He r d
section
variable{P:zH!}{w:zF!}{KF:zR!}
variable (P w KF G)in
def EY(p:D×D)(e:DictEntry):Prop:=Cg KF G p.1 e.key/\Cg KF G p.2 e.val/\∃k,Cj p.1=ψ k/\e.hash=mkHash P w k
variable (P w KF G)in
def Gh(h1:q!)(es:c0_):Prop:=E6! (EY P w KF G) h1 es/\(fR_).Nodup
def Gh.mono(e:lb!)(h:fS_):CF! Gh G' h1 es:=
 #[Paired.mapP h.1 λp q z=>#[z.1.mono e,z.2.1.mono e,z.2.2],h.2]
def Hd(h1:q!):μ MK:=h1.map λp=>(Cj p.1).getD υ
def gH:∀{l:aa_} {m:μ β} {i:δ} {a:α},F8_ l m->l[i]?=ψ a->∃b,m[i]?=ψ b/\F a b
 |_,_,_,_,.nil,e=>by simp at e
 |_,_,0,_,.cons r _,e=>by simp at e;subst e;exact md_
 |_,_,i+1,a,.cons _ t,e=>by
  let#[b,Y,h2]:=gH t c6_;exact#[b,me!,h2]
def nO(h:F8_ l m)(h':F8_ l' m'):F8_ (l++l') (m++m'):=by
 induction h with
 |nil=>exact h'
 |cons r _ ih=>exact Hb! r
def xI{l:aa_}{m:μ β}(j:δ)(h:F8_ l m):(∀a b,l[j]?=ψ a->m[j]?=ψ b->F a b->F (f a) (g b))->F8_ (l.modify j f) (m.modify j g):=by
 induction h generalizing j with
 |nil=>intro _;simpa using Paired.nil
 |cons r t ih=>
  intro h;cases j with
  |zero=>exact .cons (h _ _ χ χ r) t
  |succ j=>exact .cons r (ih j λa b e1 e2=>h a b (Ep! e1) (Ep! e2))
def pF:∀{l:aa_} {m:μ β} (j:δ),F8_ l m->F8_ (l.eraseIdx j) (m.eraseIdx j)
 |_,_,_,.nil=>.nil
 |_,_,0,.cons _ t=>t
 |_,_,j+1,.cons r t=>.cons r (pF j t)
def Gh.ents(I:d_)(sub:J_)(h:o7_ Gh G h1 es):K9_ Mv:=by
 let#[Y,h2]:=h;exact#[by simp[Hd,SD Y],λi e k he hk=>?_,?_]
 .rw[QL]at he;delta Hd at hk;rw[MO]at hk;let#[p,hp,rfl]:=KZ.mp hk;let#[e',j5,q1,_,k',q2,q3]:=gH Y hp;rw[he]at j5;cases j5;rw[q2];exact#[qW I sub q1 q2,q3]
 .let m8:∀{l:q!} {m:c0_},Paired (o7_ EY G) l m->(es!).Nodup->(Hd l).Nodup:=by
   intro l m hp
   induction hp with
   |nil=>intro _;exact OB
   |@cons p e l m q t ih=>
    intro nd;rw[LA,LO]at nd;show(_::Hd l).Nodup;rw[LO];exact#[bJ_,ih nd.2];let#[p',bn,e']:=LC.mp z;let#[_,_,k,hk,_]:=q;let#[i,hi]:=RG.mp bn;let#[_,_,_,_,k',c9,_]:=gH t hi;dsimp only at e';rw[hk,c9]at e';let:k'=k:=e';subst this;exact nd.1 (LC.mpr #[p',bn,b2b c9 hk])
  exact m8 Y h2
def Gh.look(h:fS_)(hd:br!):
  (Lg fT! k=υ/\Fx! d=υ/\(∀v,Bq h1 d v=h1++[(d,v)])/\d∉h1.map b_)\/∃j x e,Lg fT! k=ψ j/\h1[j]?=ψ (d,x)/\es[j]?=ψ e/\Fx! d=ψ x/\Cg KF G x e.val/\(∀v,Bq h1 d v=h1.modify j λp=>(p.1,v))/\He h1 d=h1.eraseIdx j:=by
 let#[Y,h2]:=h
 induction Y with
 |nil=>exact .inl #[χ,χ,cC!,H_]
 |@cons p e l m q t ih=>
  let#[y,z]:=p;rw[LA,LO]at h2;let#[_,q2,k',q3,_]:=q;let q3:=q3;let qk:Hd ((y,z)::l)=k'::Hd l:=by delta Hd;rw[LA,q3];rfl
  by_cases hy:y=d
  .subst hy;rw[hd]at q3;cases q3;exact .inr #[0,z,e,?_,χ,χ,by simp[kget],q2,λv=>by simp[Bq,List.modify],by simp[He]];rw[qk];delta Lg;rw[List.findIdx?_cons];simp
  .let hne:k'≠k:=λe=>hy (b2b q3 (e▸hd));let c9:Lg (Hd ((y,z)::l)) k=(Lg (Hd l) k).map (·+1):=by
    rw[qk];delta Lg;rw[List.findIdx?_cons];simp[hne]
   obtain⟨i1,i2,i3,i4⟩|⟨j,x,e',i1,i2,i3,i4,i5,i6,i7⟩:=ih h2.2
   .exact .inl #[A7_,by simp[kget,hy,i2],λv=>by simp[Bq,hy,i3 v],?_];rw[LA,KR,SZ];exact#[λe=>hy e.symm,i4]
   .exact .inr #[j+1,x,e',A7_,by simpa using i2,by simpa using i3,by simp[kget,hy,i4],i5,λv=>by simp[Bq,hy,i6 v],by simp[He,hy,i7]]
def Gh.put(h:fS_)(hd:br!)(ru:Ig! G)(rv:Cg KF G x v):CF! Gh G qe_ (Zk es (Lg fT! k) dA! u v):=by
 obtain⟨i1,i2,i3,i4⟩|⟨j,y,e',i1,i2,i3,i4,i5,i6,i7⟩:=h.look hd
 .rw[i1,i3];exact#[nO h.1 (GN_ #[ru,rv,k,hd,χ]),?_];rw[LG,MB];exact#[h.2,H_,qf!];simp at J;subst J e;exact i4 ha
 .rw[i1,i6];exact#[xI j h.1 λa b _ _ q=>#[q.1,rv,q.2.2],?_];let:∀(l:q!) (j:δ),(l.modify j λp=>(p.1,x)).map b_=l.map b_:=by
   intro l
   induction l with
   |nil=>intro j;simp
   |cons p l ih=>
    intro j;cases j with
    |zero=>simp
    |succ j=>simp[ih j]
  rw[this];exact h.2
def Gh.del(h:fS_):CF! Gh G (h1.eraseIdx j) A3_:=by exact#[pF j h.1,?_];exact h.2.sublist ((List.eraseIdx_sublist h1 j).map _)
end
inductive Dh where
 |lst (xs:d!)|dct (h1:q!) (ep:δ)|obj (C:sS!) (fs:hx!)
nonrec def Dh.tg:Dh->δ
 |.lst _=>0|.dct _ _=>1|.obj _ _=>2
def cne{P:ν}{x y:Dh}(h:ψ x=ψ y)(e:(x.tg==y.tg)=θ):P:=by cases h;rw[NH]at e;cases e
abbrev Mh:=Addr->Em! Dh
nonrec def mup(M:Mh)(a:sS!)(c:Dh):Mh:=λb=>if b=a then ψ c else M b
def mup_same:Ig_ a a=ψ c:=by delta mup;rw[y_]
def mup_ne(h:b≠a):Ig_ a b=M b:=by delta mup;rw[LB h]
nonrec def dE(a:sS!)(es:c0_)(ep:δ):HO:=.ext λh=>IT_ a/\dN!=θ/\ao!<=big
def Jp(KF:zR!)(G:Hp):μ cm_->μ c7!->Prop:=Paired λp q=>p.1=q.1/\Ao KF G p.2 q.2
section
variable(P:zH!)(w:zF!)(KF:zR!)
def Gb(G H:Hp)(a:sS!):Dh->ν
 |.lst xs=>∃vs,H a=ψ ee_/\An KF G xs vs
 |.dct h1 ep=>∃es,H a=ψ lf!/\CF! Gh G h1 es
 |.obj C fs=>∃dx vs,H a=ψ A9_/\Jp KF G fs vs
structure MR(M:Mh)(G H:Hp):Prop where
 cell:∀a c,M a=ψ c->G a=υ/\CF! Gb G H a c
end
structure XM(M:Mh)(G H:Hp)(M':Mh)(G' H':Hp):Prop where
 g:Ax G G'
 sub:Ax G' H'
 new:∀b,G' b≠υ->G b≠υ\/H b=υ
 keep:∀b o,H b=ψ o->M b=υ->H' b=ψ o
 dom:∀b,M' b≠υ->M b≠υ\/H b=υ
 cells:∀b,M b≠υ->M' b≠υ
def XM.refl(s:J_):EF! M G H:=#[fq_,s,j7!,λ_ _ h _=>h,j7!,λ_ h=>h]
def XM.free(x:lf_)(hM:M b=υ)(h:H' b=υ):H b=none:=by
 cases e:H b with
 |none=>rfl
 |some o=>rw[x.keep b o e hM]at h;cases h
section
variable{KF:zR!}{M M1 M2:Mh}
def Jp.mono(e:lb!)(h:lg!):Jp KF G' fs vs:=Paired.mapP h λ_ _ z=>#[z.1,z.2.mono e]
def Gb.mono(e:lb!)(h:Ba_)(hH:H' a=H a):CF! Gb G' H' a c:=by
 cases c with
 |lst xs=>let#[vs,Y,h2]:=h;exact#[vs,qg!,qg_]
 |dct h1 ep=>let#[es,Y,h2]:=h;exact#[es,qg!,qg_]
 |obj C fs=>let#[dx,vs,Y,h2]:=h;exact#[dx,vs,qg!,qg_]
def Gb.has(h:Ba_):H a≠none:=by
 cases c with
 |lst xs=>let#[vs,Y,h2]:=h;rw[Y];simp
 |dct h1 ep=>let#[es,Y,h2]:=h;rw[Y];simp
 |obj C fs=>let#[dx,vs,Y,h2]:=h;rw[Y];simp
def MR.has(m:cq_)(h:M c≠υ):H c≠none:=by
 cases e:M c with
 |none=>exact HZ_ h
 |some q=>exact(J7! c q).2.has
def XM.trans(a:EF! M1 G1 H1)(b:XM M1 G1 H1 M2 G2 H2)(m:Bb!):EF! M2 G2 H2 where
 g:=a.g.trans b.g
 sub:=b.sub
 new:=λc h=>by
  obtain z|z:=b.new c h
  .exact a.new c z
  .cases hM:M c with
   |none=>exact .inr (a.free hM z)
   |some q=>exact Hg_ (m.has (a.cells c Bb_))
 keep:=λc o h hM=>by
  exact b.keep c o (a.keep c o h hM) ?_;cases e:M1 c with
  |none=>rfl
  |some q=>
   rcases a.dom c qh! with z|z
   .exact Ei_ hM z
   .rw[h]at z;cases z
 dom:=λc h=>by
  obtain z|z:=b.dom c h
  .exact a.dom c z
  .cases hM:M c with
   |none=>exact .inr (a.free hM z)
   |some q=>exact .inl nofun
 cells:=λc h=>b.cells c (a.cells c h)
def XM.ext(x:j8_):Kq_ M:=#[x.g,x.sub,x.new,λb o h _=>x.h b o h,j7!,λ_ h=>h]
def MR.ext(m:cq_)(x:j8_):Ki! M:=⟨λa c e=>by
 let#[Y,h2]:=J7! a c;let hn:=h2.has;exact Bc_
 .cases q:G' a with
  |none=>rfl
  |some o=>
   rcases x.new a cL_ with z|z
   .exact ξ Y z
   .exact Hg_ hn
 .cases q:H a with
  |none=>exact ξ q hn
  |some o=>exact x.h a o q⟩
end
structure Rs(P:zH!)(w:zF!)(KF:zR!)(own:o!)(G H:Hp)(Z:St)(ρ:Ag)(M:Mh):Prop where
 or:ET_ KF
 mr:Kq! M
 dj:∀i∈own,∀p,Z[i]?=ψ ci_->M p=υ
section
variable{KF:zR!}{M M' M1 M2:Mh}
def OR.growM(h:cj!)(x:lf_)(dj:∀i∈own,∀p,Z[i]?=ψ ci_->M p=υ):FM_ OR G' H' Z ρ where
 sub:=x.sub
 len:=h.len
 at_:=λi d q n=>by let#[v,Y,h2]:=h.at_ i d q n;exact w9!
 own_:=λi hi=>by
  let#[p,ds,vs,Y,h2,h3,h4,h5]:=h.own_ i hi;exact#[p,ds,vs,Y,h2,x.keep _ _ h3 (dj i hi p h2),?_,h5.mono x.g];cases q:G' p with
  |none=>rfl
  |some o=>
   rcases x.new p cL_ with z|z
   .exact Ei_ h4 z
   .rw[h3]at z;cases z
 dis:=h.dis
def Rs.grow(s:hX_)(x:lf_)(m:Bd_):CF! Rs own G' H' Z ρ M':=
 ⟨s.or.growM x s.dj,m,λi hi p e=>by
  cases q:M' p with
  |none=>rfl
  |some c=>
   let#[p',ds,vs,Y,h2,h3,h4,h5]:=Hf! i hi;rw[e]at h2;cases h2;rcases x.dom p cL_ with z|z
   .exact Ei_ (s.dj i hi p e) z
   .rw[h3]at z;cases z⟩
end
abbrev WE:=Ag->Mh->qi!->ν
abbrev WA:=Ag->Mh->Be!->ν
abbrev WT:=Ag->Mh->(Bool->Mh->ν)->ν
section
variable(P:zH!)(w:zF!)(KF:zR!)(own:List Nat)
inductive CO(f:WE)(Z:St)(H:Hp)(Q:VK):Prop
 |mk (G:Hp) (ρ:Ag) (M:Mh) (R:Y!) (st:hX_) (e:hY!) (k:∀d M' v G' H',R d M'->Kq_ M'->Ki! M'->EY! G'->Q v H'):CO f Z H Q
inductive HX(f:WA)(Z:St)(H:Hp)(Q:c9!):Prop
 |mk (G:Hp) (ρ:Ag) (M:Mh) (R:Be_) (st:hX_) (e:hY!) (k:∀d M' v G' H',R d M'->Kq_ M'->Ki! M'->An KF G' d v->Q v H'):HX f Z H Q
inductive Zx(f:WT)(Z:St)(H:Hp)(Q:dP_):Prop
 |mk (G:Hp) (ρ:Ag) (M:Mh) (R:lh_) (st:hX_) (e:hY!) (k:∀d M' G' H',R d M'->Kq_ M'->Ki! M'->Q d H'):Zx f Z H Q
end
structure ME(X:Cx)(own:o!)(e:Expr)(f:WE):Prop where
 ok:PE X e (Ft_ CO f)
structure MA(X:Cx)(own:o!)(es:c9_)(f:WA):Prop where
 ok:PA X es (Ft_ HX f)
structure MT(X:Cx)(own:o!)(e:Expr)(f:WT):Prop where
 ok:PT X e Bf_
structure MW(X:Cx)(own:o!)(e:Expr)(f:WT):Prop where
 ok:PW X e Bf_
nonrec def wl(f:p!):WE:=λρ M R=>match f ρ with|some d=>R d M|none=>False
def Cc(f:bY_):WT:=λρ M R=>match f ρ with|some d=>R d M|none=>False
section
variable{X:Cx}{es rest:List Expr}
def fF(h:iJ_)(hw:∀Z G H Q ρ M R,Kl! G->f ρ M R->(ER_ Ao)->t Z H Q):En_ e f:=
 Bg!
def c9l(h:gE!)(hw:∀Z G H Q ρ M R,Kl! G->IU! fs->(ER_ An)->t Z H Q):MA X own es fs:=
 (Fd! p)
def b1y(h:PT X e t)(hw:Bh!):Fi! MT e:=
 Bg!
def c9f(h:PW X e t)(hw:Bh!):Fi! MW e:=
 (Fd! wh)
def c4c(h:wl g ρ M R):∃d,g ρ=ψ d/\R d M:=by
 delta wl at h;split at h
 .exact Bh_
 .exact h.elim
def b6i(h:Cc gt ρ M R):∃d,gt ρ=ψ d/\R d M:=by
 delta Cc at h;split at h
 .exact Bh_
 .exact h.elim
def aC(h:Ek! e g):En_ e (wl g):=fF h.ok λZ G H Q ρ M R st e' k=>by
 let#[d,e1,e2]:=c4c e';exact#[G,ρ,d,st.or,e1,λv G' H' x r=>k d M v G' H' e2 li_ qk_ r]
def dX(h:He! e gt):MT X own e (Cc gt):=b1y h.ok λZ G H Q ρ M R st e' k=>by
 let#[d,e1,e2]:=b6i e';exact#[G,ρ,d,st.or,e1,λG' H' x=>k d M G' H' e2 li_ qk_]
def Ad:WA:=λ_ M R=>R [] M
def Ab(f:WE)(fs:WA):WA:=λρ M R=>f ρ M λd M1=>fs ρ M1 λds M2=>R dr_ M2
def aO:MA X own [] Ad:=c9l fM λZ G H Q ρ M R st e k=>k [] M [] G H e lj_ st.mr An.nil
def aE(h:bK!)(hs:fV!)(hst:az!:=by rfl):MA X own aJ_ (Ab f fs):=
 c9l xI_ λZ G H Q ρ M R st e' k=>⟨G,ρ,M,_,st,e',λd M1 v G1 H1 r1 x1 m1 q1=>⟨G1,ρ,M1,_,st.grow x1 m1,r1,λds M2 vs G2 H2 r2 x2 m2 q2=>
  k _ M2 _ G2 H2 r2 cr! m2 (Gt! b6! q2)⟩⟩
def Yg(P:zH!)(w:zF!)(KF:zR!)(r:R2)(g:qm!):Prop:=∀{x y:V} {dx dy d:D} {M:Mh} {G H:Hp} {Q:VK},Ax G H->Kq! M->Gb! dx x->Gb! dy y->g M dx dy=ψ d->kc!->Hu! r
def Gy.m{KF:zR!}{g:he_}(h:Gy KF r g):CF! Yg r (λ_=>g):=λs _ rx ry e k=>h s rx ry e k
nonrec def w2(g:qm!)(fa fb:WE):WE:=λρ M R=>fa ρ M λx M1=>fb ρ M1 λy M2=>match g M2 x y with|some d=>R d M2|none=>False
def c4h(hg:hZ_)(st:Bi_)(e:w2 gm fa fb ρ M R)
  (k:∀d M' v G' H',R d M'->Kq_ M'->Lz! MR->E1! G'->Q v H'):CI r (Ft_ CO fa) (Ft_ CO fb) Z H Q:=
 ⟨G,ρ,M,_,st,e,λx M1 u G1 H1 r1 x1 m1 q1=>⟨G1,ρ,M1,_,st.grow x1 m1,r1,λy M2 v G2 H2 r2 x2 m2 q2=>by
  let r2:=r2;split at r2
  .rename_i d hd;exact hg x2.sub m2 b6! q2 hd λz G3 H3 x3 q3=>k d M2 z G3 H3 r2 ((cr!).trans (.ext x3) m2) (m2.ext x3) q3
  .exact r2.elim⟩⟩
def sK(ho:m5!)(hg:hZ_)(ha:av_)(J:cr_):En_ m5_ lk_:=
 fF xv_ λZ G H Q ρ M R st e k=>JH! e k
def kR(ho:cb!)(hg:hZ_)(ha:av_)(J:cr_)(hm:dQ!):En_ dQ_ lk_:=
 fF xt! λZ G H Q ρ M R st e k=>JH! e k
def cG(hr:Wp X r)(hg:hZ_)(ha:av_)(J:cr_)(hs:Ol b):En_ nW! lk_:=
 fF xt_ λZ G H Q ρ M R st e k=>JH! e k
nonrec def wT(f:WE):WT:=λρ M R=>f ρ M λd M1=>match d with|.bl b=>R b M1|_=>False
def dQ(ho:cb!)(hg:hZ_)(ha:av_)(J:cr_)(hm:dQ!):MT X own dQ_ (wT lk_):=
 b1y xv! λZ G H Q ρ M R st e k=>JH! e λd M' v G' H' r' x' m' q'=>by
  cases d<;>first|exact r'.elim|skip
  obtain rfl:=dI q';exact Bk!
def fP(h:bK!)(he:iK!:=by intro _;rfl):MT X own e (wT f):=
 b1y (a8b h.ok he) λZ G H Q ρ M R st e k=>⟨G,ρ,M,_,st,e,λd M' v G' H' r' x' m' q'=>by
  cases d<;>first|exact r'.elim|skip
  obtain rfl:=dI q';exact Bk!⟩
def Ee(ft fu:WT):WT:=λρ M R=>ft ρ M λb M1=>if b then Ge! fu else R θ M1
def Yj(ft fu:WT):WT:=λρ M R=>ft ρ M λb M1=>if b then R τ M1 else Ge! fu
def Kb(ft:WT):WT:=λρ M R=>ft ρ M λb M1=>R (!b) M1
def jP(h:h0!):Fi! MW mI!:=xz_
def a8v(h:h0!):Fi! MW mI_:=xA!
def mD(ha:h0!)(J:MW X own eQ! fu):MW X own eQ_ (Ee ft fu):=
 c9f xA_ λZ G H Q ρ M R st e k=>⟨G,ρ,M,_,st,e,λx M1 G1 H1 r1 x1 m1=>by
  cases x with
  |true=>exact kX Bk_
  |false=>exact lM Bl!⟩
def b9t(ha:h0!)(J:MW X own eR_ fu):MW X own eS! (Yj ft fu):=
 c9f xB_ λZ G H Q ρ M R st e k=>⟨G,ρ,M,_,st,e,λx M1 G1 H1 r1 x1 m1=>by
  cases x with
  |false=>exact lM Bk_
  |true=>exact kX Bl!⟩
def vM(h:Fi! MW e):Fi! MT e:=#[h.ok.pt]
def rG(h:h0!):MT X own eS_ (Kb ft):=
 b1y (b8c h.ok) λZ G H Q ρ M R st e k=>#[G,ρ,M,_,st,e,λx M1 G1 H1 r1 x1 m1=>k _ M1 G1 H1 r1 x1 m1]
def Ih(fa fb:WE):WE:=λρ M R=>wT fa ρ M λb M1=>if b then Ge! fb else R I! M1
def Ws(fa fb:WE):WE:=λρ M R=>wT fa ρ M λb M1=>if b then R x! M1 else Ge! fb
def Wt(fa:WE):WE:=λρ M R=>wT fa ρ M λb M1=>R (.bl (!b)) M1
def rH(h:av_):En_ mJ! fa:=xC_
def vV(ha:av_)(J:En_ eQ! fb):En_ eQ_ (Ih fa fb):=
 fF xD_ λZ G H Q ρ M R st e k=>⟨G,ρ,M,_,st,e,λd M1 v G1 H1 r1 x1 m1 q1=>by
  cases d<;>first|exact r1.elim|skip
  rename_i x;obtain rfl:=dI q1;exact kd_;cases x with
  |true=>exact kX lm!
  |false=>exact lM Bm!⟩
def c9j(ha:av_)(J:En_ eR_ fb):En_ eS! (Ws fa fb):=
 fF xG! λZ G H Q ρ M R st e k=>⟨G,ρ,M,_,st,e,λd M1 v G1 H1 r1 x1 m1 q1=>by
  cases d<;>first|exact r1.elim|skip
  rename_i x;obtain rfl:=dI q1;exact kd_;cases x with
  |false=>exact lM lm!
  |true=>exact kX Bm!⟩
def d2d(ha:av_):En_ eS_ (Wt fa):=
 fF (b8w ha.ok) λZ G H Q ρ M R st e k=>⟨G,ρ,M,_,st,e,λd M1 v G1 H1 r1 x1 m1 q1=>by
  cases d<;>first|exact r1.elim|skip
  obtain rfl:=dI q1;exact#[_,χ,k _ M1 _ G1 H1 r1 x1 m1 Ao.bl]⟩
def FE(ft:WT)(fa fb:WE):WE:=λρ M R=>ft ρ M λb M1=>if b then Ge! fa else Ge! fb
def c9k(hc:lm_)(ha:av_)(J:cr_):En_ mJ_ (FE ft fa fb):=
 fF xH_ λZ G H Q ρ M R st e k=>⟨G,ρ,M,_,st,e,λx M1 G1 H1 r1 x1 m1=>by
  cases x with
  |true=>exact kX lm!
  |false=>exact lM lm!⟩
def Mx(fs:WA):WE:=λρ M R=>fs ρ M λds M1=>f_<=1000/\R dr! M1
def Yk(fs:WA):WE:=λρ M R=>fs ρ M λds M1=>f_<=1000/\R ci! M1
def vU(h:fV!):En_ (.Tuple es n pos) (Mx fs):=
 fF (b8t h.ok) λZ G H Q ρ M R st e k=>⟨G,ρ,M,_,st,e,λds M1 vs G1 H1 r1 x1 m1 q1=>⟨by rw[<-aL q1];exact fG r1.1,λp hp=>
  k _ M1 _ _ _ r1.2 Bn! (m1.ext qo!) (fU Bn_ q1)⟩⟩
def d2e(h:fV!):En_ ji_ (Yk fs):=
 fF kg! λZ G H Q ρ M R st e k=>⟨G,ρ,M,_,st,e,λds M1 vs G1 H1 r1 x1 m1 q1=>⟨by rw[<-aL q1];exact fG r1.1,λp hp=>
  k _ M1 _ _ _ r1.2 Bn! (m1.ext qo!) (dW Bn_ q1)⟩⟩
end
section
variable{KF:zR!}
def MR.nocell(m:cq_)(h:cN_):M p=none:=by
 cases e:M p with
 |none=>rfl
 |some q=>exact ξ h (m.has qh!)
def XM.laid(s:J_)(hp:cN_):EF! qo_ G fq!:=by
 show"#9";exact#[fq_,λb u e=>by rw[bC (ne (s b u e))];exact s b u e,dv!,λb u e _=>by rw[bC (ne e)];exact e,bk!,bk!]
 .by_cases J:b=p
  .subst J;exact .inr hp
  .rw[c1_]at h;exact .inl h
 .by_cases J:b=p
  .subst J;rw[mup_same];simp
  .rw[c1_];exact h
def MR.laid(m:cq_)(hp:cN_)(s:J_)(h:CF! Gb G fq! p c):CF! MR qo_ G fq!:=⟨λb q e=>by
 by_cases J:b=p
 .show"#)";exact#[s.free hp,h]
 .rw[c1_]at e;let#[Y,h2]:=J7! b q;exact Bp!⟩
def XM.write(m:cq_)(s:J_)(ha:M a=ψ c0):EF! (mup M a c) G c8!:=by
 let hG:=(m.cell a c0 ha).1;exact#[fq_,λb u e=>by rw[bC (cO e hG)];exact s b u e,dv!,λb u e J=>?_,bk!,bk!]
 .let:b≠a:=λz=>by subst z;rw[ha]at J;rcases J
  rw[bC this];exact e
 .by_cases J:b=a
  .subst J;exact .inl (EQ! ha)
  .rw[c1_]at h;exact .inl h
 .by_cases J:b=a
  .subst J;rw[mup_same];simp
  .rw[c1_];exact h
def MR.write(m:cq_)(ha:M a=ψ c0)(h:CF! Gb G c8! a c):CF! MR (Ig_ a) G c8!:=⟨λb q e=>by
 by_cases J:b=a
 .show"#)";exact#[(m.cell _ c0 ha).1,h]
 .rw[c1_]at e;let#[Y,h2]:=J7! b q;exact Bp!⟩
end
open Classical in
def Hj(h1:q!)(d:D)(ep:δ):Nat:=if(dC_).isSome then ep else ep+1
def IT(KF:zR!)(G:Hp):ι D->Em! Value->ν
 |some d,some u=>Ig! G
 |none,none=>True
 |_,_=>False
def eX(I:d_)(m:bK_)(sub:J_)(e:cs!):∃es,H a=ψ lf!/\o7_ Gh G h1 es/\Fb! Mw a es ep/\dN!=θ/\ao!<=big/\K9_ Mv:=by let#[es,Y,h2]:=(J7! a _).2;let#[#[h3,h4,h5],_]:=(show Ec X.prog X.w H s.heap a lf! from I.hok a _ Y);exact#[es,Y,h2,h3,h4,h5,h2.ents I sub]
def a2s(I:d_)(e:H a=ψ lf!)(D':Mw h' a bc bx)(hs:vt!)(hn:dN!=θ)(hl:bc.length<=big):mX_ (LV_ (dE a bc bx)) {s with heap:=h',toks:=t'}:=by exact d_write I tW_ hs (by let#[o,h,_]:=D';exact qq!) #[#[D',hn,hl],let⟨o,h,_⟩:=D';qq!,Br_];let#[#[o,z1,z2,z3],z4]:=z;exact ln!
def a2u(hu:as!)(I:d_)(m:bK_)(sub:J_)(e:cs!)(r:b5!)(hk:br!)
  (h:∀o s',mX_ H s'->IT X.K G dC_ o->Q o s'):KB_ (dictGet a u):=by
 let#[es,Y,h2,h3,h4,h5,h6]:=Fa! I;exact HH_ d6t λtk=>h _ _ e2! ?_;obtain⟨i1,i2,i3,i4⟩|⟨j,y,e',i1,i2,i3,i4,i5,i6,i7⟩:=h2.look hk
 .rw[i1,i2];exact jd!
 .rw[i1,i4];show IT X.K G (ψ y) (es[j]?.map (·.val));rw[i3];exact i5
def kput_len:∀(l:q!) (d x:D),(Bq l d x).length<=K!+1
 |[],_,_=>by simp[Bq]
 |(y,z)::l,d,x=>by
  delta Bq;split
  .simp
  .let:=Jd! l d x;dsimp only[List.length_cons];omega
def a9x(hu:as!)(I:d_)(m:bK_)(sub:J_)(e:cs!)(r:b5!)(hk:br!)(rv:lo!)(hl:c2!)
  (h:Bs_):o6_ e_ A1_:=by
 let#[es,Y,h2,h3,h4,h5,h6]:=Fa! I;exact HH_ d6s h2_ λh' tk D' hs=>?_;let jf:=h2.put hk r rv;let sy:DV (Lg fT! k) ep=Hj h1 d ep:=by
  delta Hj;obtain⟨i1,i2,i3,i4⟩|⟨j,y,e',i1,i2,i3,i4,i5,i6,i7⟩:=h2.look hk
  .rw[i1,i2];rfl
  .rw[i1,i4];rfl
 rw[sy]at D';let s9:=SD jf.1;let:=Jd! h1 d x;exact h _ _ (a2s I Y D' hs h4 a!) #[_,cC,jf]
def a9y(hu:eu!)(I:d_)(m:bK_)(sub:J_)(e:cs!)(r:b5!)(hk:br!)(hx:Bt_)
  (h:∀o s',mX_ H s'->Hx! x->Q o s'):KB_ (getItem N_ u):=by
 let#[es,Y,h2,h3,h4,h5,h6]:=Fa! I;let hT:=fV_;delta getItem;exact GO! (NE hT PySem.slot_dict_getitem (NA PySem.slot_dict_getitem hT PySem.entry_dict_getitem ?_ (PySem.args_dict_getitem _ _)));show EJ_ e_ lq!;exact KG lq_;rw[hx]at ho;cases o with
 |none=>exact ho.elim
 |some o=>exact KJ #[o,χ,KJ (h o s' I' ho)]
def sQ(hu:eu!)(I:d_)(m:bK_)(sub:J_)(e:cs!)(r:b5!)(hk:br!)
  (h:∀s',mX_ H s'->Q (dC_).isSome s'):KB_ (contains N_ u):=by
 let#[es,Y,h2,h3,h4,h5,h6]:=Fa! I;let hT:=fV_;delta contains;exact Lo! (TR hT TV.lookup ?_);rw[KD_ beq_builtin_none];exact KG (wpAny_callSpecialUnlessNone?_slot hT TV (NA TV hT PySem.entry_dict_contains ?_ (PySem.args_dict_contains _ _)));show EJ_ e_ lq!;exact KG lq_;cases o with
 |none=>
  let hn:Fx! d=none:=by
   cases q:Fx! d with
   |none=>rfl
   |some y=>rw[q]at ho;exact ho.elim
  let h:=h s' I';rw[hn]at h;exact KG (wpAny_pendingKey_other h4 (KJ Bu_))
 |some o=>
  let hn:(dC_).isSome=true:=by
   cases q:Fx! d with
   |none=>rw[q]at ho;exact ho.elim
   |some y=>rfl
  let h:=h s' I';rw[hn]at h;exact KJ Bu_
def a9w(hu:eu!)(I:d_)(m:bK_)(sub:J_)(e:cs!)(r:b5!)(hk:br!)(rv:lo!)(hl:c2!)
  (h:Bs_):KB_ (setItem N_ u v):=by
 let#[es,Y,h2,h3,h4,h5,h6]:=Fa! I;let hT:=fV_;delta setItem;exact GO! (NE hT PySem.slot_dict_setitem (NA PySem.slot_dict_setitem hT PySem.entry_dict_setitem ?_ (PySem.args_dict_setitem _ _ _)));exact FU_ RT hT;show EJ_ e_ (dictSet a u v>>=_);exact KG (a9x hu I m sub e r hk rv hl λbc s' I' c'=>KJ #[di!,χ,KJ (h bc s' I' c')])
def c8a(hu:eu!)(I:d_)(m:bK_)(sub:J_)(e:cs!)(r:b5!)(hk:br!)
  (h:∀o s',mX_ H s'->Hx! (K5_ dC_)->Q o s'):KB_ (call Bv_ [bP_,u]):=by
 let#[es,Y,h2,h3,h4,h5,h6]:=Fa! I;exact Go_ (PySem.F.args_dict_get_2 _ _);show EJ_ e_ lq!;exact KG lq_;cases q:Fx! d with
 |none=>
  rw[q]at ho;cases o with
  |none=>
   let h:=h .none s' I';rw[q]at h;exact GR! di! #[V.non,Ao.non,χ]
  |some o=>exact ho.elim
 |some y=>
  rw[q]at ho;cases o with
  |none=>exact ho.elim
  |some o=>
   let h:=h o s' I';rw[q]at h;exact KJ Bw!
def c7z(hu:eu!)(I:d_)(m:bK_)(sub:J_)(e:cs!)(r:b5!)(hk:br!)(rv:lo!)
  (h:∀o s',mX_ H s'->Hx! ((dC_).getD x)->Q o s'):KB_ (call Bv_ [bP_,u,v]):=by
 let#[es,Y,h2,h3,h4,h5,h6]:=Fa! I;exact Go_ (PySem.F.args_dict_get_3 _ _ _);show EJ_ e_ lq!;exact KG lq_;cases q:Fx! d with
 |none=>
  rw[q]at ho;cases o with
  |none=>
   let h:=h v s' I';rw[q]at h;exact GR! v rv
  |some o=>exact ho.elim
 |some y=>
  rw[q]at ho;cases o with
  |none=>exact ho.elim
  |some o=>
   let h:=h o s' I';rw[q]at h;exact KJ Bw!
def xW(hu:eu!)(I:d_)(m:bK_)(sub:J_)(e:cs!)(r:b5!)(hk:br!)(rv:lo!)(hl:c2!)
  (hs:∀y o s',Fx! d=ψ y->mX_ H s'->Hx! y->Q o s')
  (hn:Fx! d=υ->∀bc s',Kw! lr!->La! qe_->Q v s'):KB_ (LU_ "dict.setdefault" [bP_,u,v]):=by
 let#[es,Y,h2,h3,h4,h5,h6]:=Fa! I;let az:=SD h2.1;let hT:=fV_;exact NA VX hT PySem.F.entry_dict_setdefault ?_ (PySem.F.args_dict_setdefault_3 _ _ _);delta Builtin.«dict.setdefault» Bx!;exact KG qt!;dsimp only;rw[KD_ h4];obtain⟨i1,i2,i3,i4⟩|⟨j,y,e',i1,i2,i3,i4,i5,i6,i7⟩:=h2.look hk
 .exact KG (qF hu h3 h6 h2! h2_ (λj e tk q=>by rw[i1]at q;rcases q) λh' tk _ D' c7=>KJ #[_,χ,hn i2 _ _ Bx_ #[_,cC,?_]])
  .rw[KO,PF];omega
  .let:=h2.put hk r rv;rw[i1]at this;show"#;"
 .exact KG (HH_ qF h2_ (λj' e tk q q2=>by
   rw[i1]at q;rcases q;rw[i3]at q2;rcases q2;exact KJ #[_,χ,hs y _ _ i4 e2! i5]) λh' tk q=>by rw[i1]at q;rcases q)
def d3o(hu:eu!)(I:d_)(m:bK_)(sub:J_)(e:cs!)(r:b5!)(hk:br!)(hx:Bt_)
  (h:∀bc o s',Kw! lr!->La! (He h1 d)->Hx! x->Q o s'):KB_ (LU_ "dict.pop" [bP_,u]):=by
 let#[es,Y,h2,h3,h4,h5,h6]:=Fa! I;let hT:=fV_;obtain⟨i1,i2,i3,i4⟩|⟨j,y,e',i1,i2,i3,i4,i5,i6,i7⟩:=h2.look hk
 .rw[i2]at hx;rcases hx
 .rw[i4]at hx;rcases hx;exact NA PySem.F.slot_dict_pop hT PySem.F.entry_dict_pop ?_ (PySem.F.args_dict_pop_2 _ _);delta Builtin.«dict.pop» Bx!;exact KG qt!;dsimp only;let fin:GL! A.in1 A4! (λold s'=>∃e o,old=ψ e/\e.val=o/\Q o s') E s:=by
   exact HH_ d3d h2_ i1 i3 λh' tk D' c7=>#[e',_,χ,χ,h _ _ _ Bx_ #[_,cC,?_] i5]
   .exact LX (List.length_eraseIdx_le _ _) h5
   .rw[i7];exact h2.del
  let#[o,ho,_,hd]:=id h3;let hne:es.toArray.isEmpty=false:=by
   cases es with
   |nil=>simp at i3
   |cons _ _=>rfl
  by_cases hp:(keyPart u).isSome=τ
  .rw[KQ hp];exact KG Y_;rw[LB LU];show"!b"
  .rw[LB hp];exact KG (QF ho hd (KG Y_));rw[hne,LB LU];show"!b"
def a4a(I:d_)(qa:kz!)(qb:HX! b ws)(rd:hs_)(re:ht!)(hu:as!)
  (h:kB!):Ff_ N_ d3! (!Ig ds es):=by
 let#[us,rv,p1,_]:=EH_ qa;let#[us',a8,p2,_]:=EH_ qb;let Y:=aL rd;let h2:=aL re;let h3:=eW!;let h4:=kC!;let z:=SeqAt.RcNeAt.tuples p1 p2 hu kC_;let e:zf!=Ig ds es:=by
  show"#6"
  .rw[hl,Nat.min_self,<-hl,kD!,hl];simp
  .rw[kD_];let:(f_==ao!)=false:=by simpa using hl
   rw[this,UT]
 rw[e]at z;exact z
def a7y(I:d_)(qa:pv!)(qb:Hc_ b ws)(rd:hs_)(re:ht!)(hu:as!)
  (h:kB!):Ff_ N_ d3! (!Ig ds es):=by
 show"!F";let h4:=kC!;by_cases hl:f_=ao!
 .let z:=FC_ SeqAt.RcNeAt.lists oR_ kC_;rw[KU,<-h3,<-Y,kD!]at z;exact z
 .rw[kD_];exact FC_ SeqAt.RcNeAt.lists_lengths zf_
def b7q(I:d_)(n:cl!)(n':fC_)(hu:as!)(r:ej!)(r':hu_)(ru:bf!)(ba:hv!)(hT:∀xs ys,d=.tup xs->d'=.tup ys->Le_ u)(hL:∀xs ys,d=.lst xs->d'=.lst ys->Le_ u):Le_ u:=by
 show"!k"
 all_goals first|exact Gd! hT|exact Gd! hL|(delta Dt;(try simp![Bool.not_false,QZ]);with_reducible first|exact .none_none|exact .same _|exact .none_bool _|exact .none_int _ _|exact .none_str _ _|exact .none_tuple ‹_› hu|exact .none_list ‹_› hu|exact .bool_none _|exact JD_ _|exact I9_ _|exact Ja! _|exact .bool_tuple _ ‹_› hu|exact .bool_list _ ‹_› hu|exact .int_none _ _|exact Ja_ _|exact IB_ _|exact IC! _|exact JE! _ ‹_› hu|exact .int_list _ _ ‹_› hu|exact .str_none _ _|exact Jb! _|exact IC_ _|exact ID! _|exact JE_ _ ‹_› hu|exact .str_list _ _ ‹_› hu|exact .tuple_none ‹_› hu|exact .tuple_bool _ ‹_› hu|exact JF! _ ‹_› hu|exact JF_ _ ‹_› hu|exact .tuple_list ‹_› ‹_› hu|exact .list_none ‹_› hu|exact .list_bool _ ‹_› hu|exact .list_int _ _ ‹_› hu|exact .list_str _ _ ‹_› hu|exact .list_tuple ‹_› ‹_› hu)
def b7r(I:d_)(d d':D)(n:cl!)(n':fC_)(hu:zi!)(r:ej!)(r':hu_)(ru:bf!)(ba:hv!):Le_ u:=
 b7q I n n' a! r r' ru ba (λxs ys e e'=>by
  subst e e';let#[a,vs,rfl,q,rr]:=bX r;let#[b,ws,rfl,q',cr]:=bX r';subst ru;subst ba;delta Az at n n';delta Go at hu;delta Dt;exact GD_ a4a λus us' rv a8=>Et! I) (λxs ys e e'=>by
  subst e e';let#[a,vs,rfl,q,rr]:=bW r;let#[b,ws,rfl,q',cr]:=bW r';subst ru;subst ba;delta Az at n n';delta Go at hu;delta Dt;exact GD_ a7y λus us' rv a8=>Et! I)
def BG(KF:zR!):R2:=λx y H Q=>∃dx dy,Ev_ dx x/\Ev_ dy y/\Az dx=τ/\Az dy=τ/\Go dx<=40/\FC! (!Dt dx dy)
def iE(hu:as_):Gj! ts! BG:=by intro hb s Z H x y v u Q I rx ry h;let#[dx,dy,r1,r2,n1,n2,hd,q]:=h;exact FR_ b7r
def Do:D->D->ι D:=λx y=>if Az x&&Az y&&decide (Go x<=40)then C2! (!Dt x y) else υ
protected def oB{KF:zR!}:Hv_ BG Do:=by
 show"!1";delta Do at e;show"!:"
 .show"!q";rcases e;exact zj!
 .rcases e
open Classical in
def Tq(KF:zR!)(H:Hp)(x:D)(u:yg!):Bool:=decide (∃d,Ig! H/\Az d=τ/\Dt d x=τ)
open Classical in
def c2b(I:d_)(r:Cg X.K H d u)(n:cl!):Tq X.K H x u=Dt d x:=by
 delta Tq;cases h:Dt d x with
 |true=>exact LM #[d,r,n,h]
 |false=>
  exact LD ?_;rintro⟨d',⟨v',r',ba⟩,n',h'⟩;let#[v,r,ru]:=r;let:=ru.inj ba;subst this;rw[J6! I]at h;rw[h]at h';exact Eg_ h'
def qO(I:d_):∀{ds:d!} {vs:r_} {us:n_},G1! ds->Av vs us->Ca ds=τ->us.any (Tq X.K H x)=ds.any λd=>Dt d x
 |[],vs,us,r,rv,_=>by obtain rfl:=cR r;cases rv;rfl
 |d::ds,vs,us,r,rv,n=>by
  let#[v,t,rfl,r1,r2]:=bS r;delta Ca at n;rw[LS]at n;cases rv with
  |cons sj u5=>rw[QN,QN,c2b I #[v,r1,sj] n.1,qO I r2 u5 n.2]
def pO(I:d_)(rx:Ao X.K H x y)(ry:Bh y v)(nx:Az x=τ):∀{ds:d!} {vs:r_} {us:n_},G1! ds->Av vs us->Ca ds=τ->A.units+De ds<cLine->∀u∈us,ED! v (Tq X.K H x u)
 |[],vs,us,r,rv,_,_=>λu hu=>by obtain rfl:=cR r;cases rv;exact(KN hu).elim
 |d::ds,vs,us,r,rv,n,hd=>λu hu=>by
  let#[z,t,rfl,r1,r2]:=bS r;delta Ca at n;rw[LS]at n;delta De at hd;cases rv with
  |cons sj u5=>
   obtain rfl|hu:=KR.mp hu
   .rw[c2b I #[z,r1,sj] n.1];exact c2e I d x A z y _ _ n.1 nx a! r1 rx sj ry
   .exact pO I rx ry nx r2 u5 n.2 a! u hu
def BH(KF:zR!)(neg:Bool):R2:=λx y H Q=>∃p ys dx ds,y=.ref p/\BD!/\Ev_ dx x/\Fj_ ds ys/\Az dx=τ/\Ca ds=τ/\De ds<=40/\FC! (Kp! dx)
def d1o(hu:as_):J3_ BH:=by
 intro hb s Z H x y v u Q I rx ry h;let#[p,ys,dx,ds,rfl,hq,r1,r2,n1,n2,hd,q]:=h;subst ry;obtain hq|hq:=hq
 .show"!W";exact Iv! fY! lt!;rw[lt_,lu!];exact q
 .show"!v";exact J4! fY! lt!;rw[lt_,lu!];exact q
def b4p(hu:as_):Ga X qu! (BH X.K τ):=by
 intro hb s Z H x y v u Q I rx ry h;let#[p,ys,dx,ds,rfl,hq,r1,r2,n1,n2,hd,q]:=h;subst ry;obtain hq|hq:=hq
 .show"!W";exact SeqAt.notIn_listAt fY! pl.isList lt! ff!;rw[lt_,lu!];exact q
 .show"!v";exact SeqAt.notIn_tupleAt fY! pl lt! ff!;rw[lt_,lu!];exact q
def BI(P:zH!)(w:zF!)(KF:zR!)(neg:Bool):R2:=λx y H Q=>∃(M:Mh) (G:Hp) (a:sS!) (h1:q!) (ep:δ) (d:D) (k:MK),y=.ref a/\Ax G H/\Kq! M/\M a=ψ h1_/\Gb! d x/\Cj d=ψ k/\FC! (Km_ dC_ dC_)
def d1p(hu:as_):LF! BI:=by intro hb s Z H x y v u Q I rx ry h;let#[M,G,a,h1,ep,d,k,rfl,sub,m,e,r,hk,q]:=h;subst ry;exact KG BE!
def b4q(hu:as_):Ga X qu! (o7_ BI τ):=by intro hb s Z H x y v u Q I rx ry h;let#[M,G,a,h1,ep,d,k,rfl,sub,m,e,r,hk,q]:=h;subst ry;exact KG BE!
def Yy(P:zH!)(w:zF!)(KF:zR!)(neg:Bool):R2:=λx y H Q=>BH KF neg x y H Q\/CF! BI neg x y H Q
def gJ(hu:as_):LF! Yy:=(d1o hu).or (d1p hu)
def mY(hu:as_):Ga X qu! (o7_ Yy τ):=(b4p hu).or (b4q hu)
def Qz(M:Mh):D->Em! aG!
 |.lst xs=>ψ xs
 |.tup xs=>ψ xs
 |.fn a=>match M a with|some (.lst xs)=>ψ xs|_=>υ
 |_=>υ
def b0u{KF:zR!}(sub:J_)(m:cq_)(r:cO_)(e:Qz M d=ψ xs):∃p ys,v=.ref p/\BD!/\An KF G xs ys:=by
 cases d<;>first|(rcases e;done)|skip
 .rcases e;show"!^";exact#[p,vs,χ,.inr kF_,rr]
 .rcases e;let#[p,vs,rfl,q,rr]:=bW r;exact#[p,vs,χ,.inl (sub.seq q),rr]
 .rename_i a;obtain rfl:=fY r;dsimp only[Qz]at e;show"!:"
  .rename_i ys hy;rcases e;let#[_,vs,Y,h2]:=m.cell a _ hy;exact#[a,vs,χ,.inl (Et.of Y),h2]
  .rcases e
def Hk(neg:Bool)(M:Mh)(x y:D):ι D:=match y with
 |.fn a=>match M a with
  |some (.dct h1 _)=>(Cj x).bind λ_=>C2! (if neg then !(kget h1 x).isSome else(kget h1 x).isSome)
  |_=>inS M x y
 |_=>inS M x y
where inS (M:Mh) (x y:D):ι D:=(Qz M y).bind λds=>if Az x&&Ca ds&&decide (De ds<=40)then ψ zn! else υ
protected def fE{KF:zR!}:CF! Yg (Yy P w KF neg) (Hk neg):=by
 intro x y dx dy d M G H Q sub m rx ry e k;let seq:Hk.inS neg M dx dy=ψ d->CF! Yy neg x y H Q:=λe=>by
  let#[ds,e1,e2]:=KH.mp e;split at e2
  .show"!q";rcases e2;let#[p,ys,rfl,q,rr]:=b0u sub m ry e1;exact .inl #[p,ys,dx,ds,χ,q,rx.mono sub,rr.mono sub,h.1.1,h.1.2,h.2,eh!]
  .rcases e2
 delta Hk at e;show"!:"
 .rename_i a;show"!:"
  .show"#L";rcases e2;obtain rfl:=fY ry;exact .inr #[M,G,a,h1,ep,dx,kk,χ,sub,m,hM,rx,e1,eh!]
  .exact seq e
 .exact seq e
def DN(P:zH!)(w:zF!)(KF:zR!):R2:=λx y H Q=>∃(M:Mh) (G:Hp) (a:sS!) (h1:q!) (ep:δ) (d z:D) (k:MK),x=.ref a/\Ax G H/\Kq! M/\M a=ψ h1_/\Gb! d y/\Cj d=ψ k/\Fx! d=ψ z/\∀v,Gb! z v->Q v H
def d2r(hu:as_):Wp X (EW_ DN X.K):=by
 intro value slice hb s Z H x y v u Q I rx ry h hs;let#[M,G,a,h1,ep,d,z,k,rfl,sub,m,e,r,hk,hz,q]:=h;subst rx;let#[es,Y,h2,h3,h4,h5,h6]:=Fa! I;delta subscriptTail;exact KG ?_;rw[Jz_ h3.typeIs.not_modules];exact KG (TR h3.typeIs PySem.F.slot_dict_getitem.lookup ?_);let fin:zH_ (subscripted slice θ N_ u) (λr ez=>wpAny e_ X.A (GU! N_) aR_ X.xe ez) X.xe s:=by
  rw[hs];exact wpAny_operating (a9y a! I m sub e #[_,r,ry] hk hz λo s' I' ⟨v',r',ba⟩=>KG (IA_ #[v',H,I',ba,q v' r']))
 first
  |exact KJ jO!
  |exact Ia! jO!
  |exact KG fin
def DO(P:zH!)(w:zF!)(KF:zR!):R2:=λx y H Q=>GP KF x y H Q\/CF! DN x y H Q
def bO(hu:as_):Wp X (EW_ DO X.K):=aH.or (d2r hu)
def Bl(M:Mh)(x y:D):ι D:=match x with
 |.fn a=>match M a with
  |some (.dct h1 _)=>(fY_).bind λ_=>Fx! y
  |some (.lst xs)=>match y with|.int i=>Ff xs i|_=>υ
  |_=>υ
 |_=>Ah x y
protected def bL{KF:zR!}:CF! Yg (CF! DO) Bl:=by
 show"!a";delta Bl at e;show"!:"
 .rename_i a;obtain rfl:=fY rx;show"!:"
  .show"#L";exact .inr #[M,G,a,h1,ep,dy,d,kk,χ,sub,m,hM,ry,e1,e2,λv r=>k v G H aM_ r]
  .rename_i xs hM;show"!:"
   .rename_i i;obtain rfl:=bA ry;show"!r";let#[v,e6,r6]:=oZ h2 e;exact K3_ #[a,vs,i,v,χ,χ,Et.of Y,e6,k v G H aM_ r6]
   .rcases e
  .rcases e
 .exact .inl (aM sub rx ry e k)
def Li(M:Mh)(x y:D):ι D:=match x with
 |.fn a=>match M a,y with
  |some (.lst xs),.lst ys=>if h_+aj_<=big then o8! eG! else υ
  |_,_=>υ
 |_=>Al x y
protected def jN{KF:zR!}:CF! Yg (Rc KF) Li:=by
 show"!a";delta Li at e;show"!:"
 .rename_i a;obtain rfl:=fY rx;show"!:"
  .rename_i xs ys hM;show"!:"
   .show"!H";show"!r";let#[b,ws,rfl,qb,rb]:=bW ry;exact KJ_ (.inr #[a,b,vs,ws,χ,χ,Et.of Y,sub.seq qb,by rw[<-aL h2,<-aL rb];exact dL hl,λp hp=>k _ _ _ kj! (dW hi_ (dJ h2 rb))])
   .rcases e
  .rcases e
 .exact aW sub rx ry e k
def Di{α:Type}(o:Em! α)(R:kT!):Prop:=match o with|some a=>R a|none=>False
def dC(h:Di o R):∃a,o=ψ a/\R a:=by
 cases o with
 |none=>exact h.elim
 |some a=>exact#[a,χ,h]
def Gm(C:sS!)(x:Str)(M:Mh)(d:D):ι D:=match d with
 |.fn a=>match M a with
  |some (.obj C' fs)=>if C'=C then E6_ x else υ
  |_=>υ
 |_=>υ
def Hc(f:Str)(v:D):μ cm_->μ cm_
 |[]=>[(f,v)]
 |(g,x)::r=>if g=f then(g,v)::r else(g,x)::Hc f v r
def c1x{KF:zR!}(h:lg!):E6_ x=ψ d->∃v,vs.lookup x=ψ v/\EY! G:=by
 delta Jp at h
 induction h with
 |nil=>intro e;rcases e
 |@cons p q _ _ h t ih=>
  intro e;rw[NU]at e ⊢;rw[<-h.1];show"!:"
  .rcases e;exact#[_,χ,h.2]
  .exact ih e
def c1w{KF:zR!}(h:lg!):E6_ x=υ->vs.lookup x=none:=by
 delta Jp at h
 induction h with
 |nil=>exact λ_=>χ
 |@cons p q _ _ h t ih=>
  intro e;rw[NU]at e ⊢;rw[<-h.1];show"!:"
  .rcases e
  .exact ih e
def c7i{KF:zR!}(r:cO_)(h:lg!):Jp KF G (Hc x d fs) (Ju x v vs):=by
 delta Jp at h
 induction h with
 |nil=>exact .cons #[χ,r] .nil
 |@cons p q fs vs h t ih=>
  show Jp KF G (if p.1=x then(p.1,d)::fs else p::Hc x d fs) (if q.1=x then(q.1,v)::vs else q::Ju x v vs);rw[<-h.1];by_cases e:p.1=x
  .rw[KQ e,KQ e];exact .cons #[χ,r] t
  .rw[LB e,LB e];exact Hb! h
def As(C:sS!)(x:Str)(f:WE):WE:=λρ M R=>f ρ M λd M1=>Di (Gm C x M1 d) λv=>R v M1
def bN(c:dW_)(n:Dg X.K C x)(h:bK!)(J:Eo_ e x eO!=Ey_ e:=by rfl):En_ (.Attribute e x pos) (As C x f):=
 fF (d1j h.ok J) λZ G H Q ρ M R st e k=>⟨G,ρ,M,_,st,e,λd M1 v G1 H1 r1 x1 m1 q1=>by
  let#[z,Y,h2]:=dC r1;cases d<;>first|(rcases Y;done)|skip
  rename_i ad;obtain rfl:=fY q1;dsimp only[Gm]at Y;split at Y
  .rename_i C' fs hM;split at Y
   .rename_i hC;subst hC;let#[_,dx,vs,h3,h4]:=m1.cell ad _ hM;let#[u,h5,h6]:=c1x h4 Y;exact#[ad,_,dx,vs,u,χ,h3,c,n,h5,k z M1 u G1 H1 h2 x1 m1 h6]
   .rcases Y
  .rcases Y⟩
def Yc(P:zH!)(w:zF!)(KF:zR!)(r:i1!)(g:BH_):Prop:=∀{vs:r_} {ds:d!} {d:D} {M:Mh} {G H:Hp} {Q:VK},Ax G H->Kq! M->CG! G->g M ds=ψ d->kc!->r vs H Q
nonrec def w1(g:BH_)(fs:WA):WE:=λρ M R=>fs ρ M λds M1=>Di (g M1 ds) λd=>R d M1
def mI{id:String}(hc:nF!)(hd:o7_ Yc r g)(hg:U_)(hm:eP!)(hv:nF_)(ha:fZ_)(hn:eP_:=by decide)
  (bd:D!:=by decide)(he:az!:=by rfl)(ay:a1_:=by rfl):En_ bQ! (w1 g fs):=
 fF xO_ λZ G H Q ρ M R st e' k=>⟨G,ρ,M,_,st,e',λds M1 vs G1 H1 r1 x1 m1 q1=>by
  let#[d,Y,h2]:=dC r1;exact hd x1.sub m1 q1 Y λv G2 H2 x2 q2=>k d M1 v G2 H2 h2 (G2! lv!) (m1.ext x2) q2⟩
def Jw(M:Mh):μ D->ι D
 |[.str x]=>Be [gl!]
 |[d]=>(Qz M d).map λxs=>.int h_
 |_=>υ
def a2w{KF:zR!}:CF! Yc yt! Jw:=by
 intro vs ds d M G H Q sub m r e k;delta Jw at e;show"!:"
 .exact dD sub r e k
 .let#[xs,e1,rfl]:=KZ.mp e;let#[v,rfl,r1]:=gV r;let#[p,ys,rfl,q,rr]:=b0u sub m r1 e1;exact#[fA!,h_,χ,?_,eg!];rw[aL rr];exact q.elim (λz=>.inl BI_) λz=>.inr BI_
 .rcases e
def Ew(fs:WA):WE:=λρ M R=>fs ρ M λds M1=>f_<=1000/\∀p,M1 p=υ->R u! (Jd_ ci!)
def iQ(h:fV!):En_ ji_ (Ew fs):=
 fF kg! λZ G H Q ρ M R st e k=>⟨G,ρ,M,_,st,e,λds M1 vs G1 H1 r1 x1 m1 q1=>⟨by rw[<-aL q1];exact fG r1.1,λp hp=>
  k _ _ _ _ _ (r1.2 p (JH_ hp)) (G2! (.laid x1.sub hp)) (m1.laid hp x1.sub #[vs,cC,q1]) Ao.fn⟩⟩
def Gq(M:Mh)(d:D):Em! (Addr×μ D):=match d with
 |.fn p=>match M p with|some (.lst xs)=>ψ (p,xs)|_=>υ
 |_=>υ
protected def wW{KF:zR!}(m:cq_)(r:cO_)(e:Gq M d=ψ q):d=.fn q.1/\v=.ref q.1/\M q.1=ψ (.lst q.2)/\∃vs,H q.1=ψ ee_/\An KF G q.2 vs:=by
 cases d<;>first|(rcases e;done)|skip
 show"#N";dsimp only[Gq]at e;show"!:"
 .rename_i xs hM;rcases e;exact#[χ,χ,hM,(m.cell p _ hM).2]
 .rcases e
def Dd(M:Mh)(d:D):Em! (Addr×μ av!×δ):=match d with
 |.fn p=>match M p with|some (.dct h1 ep)=>ψ lv_|_=>υ
 |_=>υ
protected def cV{KF:zR!}(r:cO_)(e:Dd M d=ψ q):d=.fn q.1/\v=.ref q.1/\M q.1=ψ qv_:=by
 cases d<;>first|(rcases e;done)|skip
 show"#N";dsimp only[Dd]at e;show"!:"
 .rename_i xs ep hM;rcases e;exact Je! hM
 .rcases e
def Em(fo fa:WE):WE:=λρ M R=>fo ρ M λd M1=>Ih! M1 λ_=>fa ρ M1 λv M2=>Ih! M2 λq=>f0!<big/\Fl! BK_
def kS(ho:c3!)(ha:av_)(hst:kq_:=by rfl)(jc:(Hd_ pD!&&FM! cH_
   &&decide pD_)=true:=by rfl) (jd:d8!:=by rfl)
  (jb:K2_ "append"=Ey_ o:=by rfl) (je:hp!:=by rfl):L6_ (LL_ "append" a9) Em:=
 fF (yM SJ PySem.F.slot_list_append PySem.F.type_list_append yX ho.ok (cX ha.ok fM hst) jb jc jd hst je) λZ G H Q ρ M R st e k=>
  ⟨G,ρ,M,_,st,e,λd M1 v G1 H1 r1 x1 m1 q1=>by
   let#[c1,e1,r1]:=dC r1;let#[rfl,rfl,_,vs1,hH,_]:=wW m1 q1 e1;exact#[.inl #[χ,vs1,Et.of hH],G1,ρ,M1,_,ll!,r1,λz M2 u G2 H2 r2 x2 m2 q2=>?_];let#[#[p2,xs2],e2,r2]:=dC r2;let#[z1,z2,z3,vs,Y,h2]:=wW m2 b6! e2;cases z2;exact#[_,vs,u,χ,χ,Y,by rw[<-aL h2];exact LQ r2.1 (dL v!),?_];exact Hu_ k _ r2.2 (Hh! z3) (m2.write z3 #[_,cC,dJ h2 (E1_ q2)]) Ao.non⟩
def lD{q:Addr×μ av!×δ}(I:d_)(m:bK_)(sub:J_)(e:M q.1=ψ qv_):
  s.TypeIs (.ref q.1) "dict"/\∀b,Value.ref q.1=.ref b->∃ob,rX_ b=ψ ob/\ob.dict=none:=by
 let#[es,_,_,h3,_]:=Fa! I;exact#[fV_,λb z=>?_];cases z;let#[o,h,hc,_]:=h3;exact#[o,h,hc.2.1]
def ME.run(h:bK!)(I:d_)(st:Bi_)(hf:hY!)
  (k:∀d M' v G' H' u s',R d M'->Kq_ M'->Lz! MR->E1! G'->Kw! H'->Bh v u->Q u s'):Kj! eO! Q:=
 dM (EJ! h.ok (λv H'=>∃d M' G',R d M'/\XM M G H M' G' H'/\MR X.prog X.w X.K M' G' H'/\Ao X.K G' d v) I #[G,ρ,M,R,st,hf,λd M' v G' H' r x m q=>#[d,M',G',r,x,m,q]]) λu s' ⟨v,H',I',rv,d,M',G',r,x,m,q⟩=>HI! k u s' r x m q I' rv
def My(fo fa:WE):WE:=λρ M R=>fo ρ M λd M1=>Di h5_ λ_=>fa ρ M1 λy M2=>H0! M2 d λq=>Di fY_ λ_=>R (K5_ qx!) M2
def c0b(hu:as_)(ho:c3!)(ha:av_)(m:M1 X o "get" a9 a ai):L6_ BM! My:=⟨by
 rintro hb s Z H Q I ⟨G,ρ,M,R,st,e,k⟩;exact La_ SW;let#[c1,e1,r1]:=dC r1;let#[rfl,rfl,hM]:=cV q1 e1;subst rx;let#[t1,t2]:=FO! lD;exact lw_;rw[m.trees];exact RM χ BM_;let#[#[p2,zt,m9],e2,r2]:=dC r2;let#[kk,e3,r2]:=dC r2;let#[z1,z2,gw]:=cV b6! e2;cases z1;exact IE! c8a λov s' I' ⟨v',r',ba⟩=>#[v',H2,I',ba,k _ M2 v' G2 H2 r2 cr! m2 r']⟩
def Ev(fo fa fb:WE):WE:=λρ M R=>fo ρ M λd M1=>Di h5_ λ_=>fa ρ M1 λy M2=>fb ρ M2 λz M3=>H0! M3 d λq=>Di fY_ λ_=>R ((qx!).getD z) M3
def mH(hu:as_)(ho:c3!)(ha:av_)(J:cr_)(m:M2 X o "get" a9 a b ai):Mc! BM! Ev:=⟨by
 rintro hb s Z H Q I ⟨G,ρ,M,R,st,e,k⟩;exact La_ SW;let#[c1,e1,r1]:=dC r1;let#[rfl,rfl,hM]:=cV q1 e1;subst rx;let#[t1,t2]:=FO! lD;exact lw_;rw[m.trees];exact RM χ (RA (OY (ha.run I1 f0_ r1 λy M2 yv G2 H2 iv s2 r2 x2 m2 q2 I2 ry=>
  OY BO!)))
 let#[#[p2,zt,m9],e2,r3]:=dC r3;let#[kk,e3,r3]:=dC r3;let#[z1,z2,gw]:=cV BO_ e2;cases z1;exact HQ! c7z λov s' I' ⟨v',r',ba⟩=>GE_ qx_⟩
def Iy(fo fa fb:WE):WE:=λρ M R=>fo ρ M λd M1=>Di h5_ λ_=>fa ρ M1 λy M2=>fb ρ M2 λz M3=>H0! M3 d λq=>Di fY_ λ_=>q.2.1.length<big/\
 match kget q.2.1 y with
 |some v=>R v M3
 |none=>R z (JI! M3 (Bq q.2.1 y z))
def yZ(hu:as_)(ho:c3!)(ha:av_)(J:cr_)(m:M2 X o "setdefault" a9 a b ai):Mc! (LL_ "setdefault" a9) Iy:=⟨by
 rintro hb s Z H Q I ⟨G,ρ,M,R,st,e,k⟩;exact E4_ VX PySem.F.type_dict_setdefault;let#[c1,e1,r1]:=dC r1;let#[rfl,rfl,hM]:=cV q1 e1;subst rx;let#[t1,t2]:=FO! lD;exact lw_;rw[m.trees];exact RM χ (RA (OY (ha.run I1 f0_ r1 λy M2 yv G2 H2 iv s2 r2 x2 m2 q2 I2 ry=>
  OY BO!)))
 let#[#[p2,zt,m9],e2,r3]:=dC r3;let#[kk,e3,hl,r3]:=dC r3;let#[z1,z2,gw]:=cV BO_ e2;cases z1;let om:=Fq! cr! x3 m2;exact HQ! xW hl (λw ov s' hw I' ⟨v',r',ba⟩=>?_) λhn bc s' I' c'=>?_
 .dsimp only at r3;rw[hw]at r3;exact GE_ om
 .dsimp only at r3;rw[hn]at r3;exact#[zv,_,I',rz,k _ _ zv G3 _ r3 (om.trans (.write m3 x3.sub gw) m3) (m3.write gw c') q3]⟩
def Tt(fo fa:WE):WE:=λρ M R=>fo ρ M λd M1=>Di h5_ λ_=>fa ρ M1 λy M2=>H0! M2 d λq=>Di fY_ λ_=>Di qx! λv=>R v (JI! M2 (He q.2.1 y))
def b9z(hu:as_)(ho:c3!)(ha:av_)(m:M1 X o "pop" a9 a ai):L6_ (LL_ "pop" a9) Tt:=⟨by
 rintro hb s Z H Q I ⟨G,ρ,M,R,st,e,k⟩;exact E4_ PySem.F.slot_dict_pop PySem.F.type_dict_pop;let#[c1,e1,r1]:=dC r1;let#[rfl,rfl,hM]:=cV q1 e1;subst rx;let#[t1,t2]:=FO! lD;exact lw_;rw[m.trees];exact RM χ BM_;let#[#[p2,zt,m9],e2,r2]:=dC r2;let#[kk,e3,r2]:=dC r2;let#[w,e4,r2]:=dC r2;let#[z1,z2,gw]:=cV b6! e2;cases z1;exact IE! d3o e4 λbc ov s' I' c' ⟨v',r',ba⟩=>#[v',_,I',ba,k _ _ v' G2 _ r2 (Hh! gw) (m2.write gw c') r']⟩
def Fw:WE:=λρ M R=>∀p,M p=υ->R u! ew!
def fO:En_ (.Dict [] [] pos) Fw:=⟨by
 rintro hb s Z H Q I ⟨G,ρ,M,R,st,e,k⟩;let hp:=I.fresh;let D0:Lo_ 0:=qy!;exact wpAny_Dict_empty #[fd!,upd H s.heap.objs.size BQ_,qy_,χ,?_]
 .show"!Z"
 .exact k _ _ _ G _ (e _ (JI_ hp)) (.laid st.or.sub hp) (IU_ hp) Ao.fn⟩
abbrev WP:=Ag->Mh->(μ av!->Mh->ν)->ν
def AQ(KF:zR!)(G:Hp):μ av!->μ qz_->Prop:=Paired λp q=>Cg KF G p.1 q.1/\Cg KF G p.2 q.2
structure MP(X:Cx)(own:o!)(pos:Pos)(keys:List (Option Expr))(na:c9_)(f:WP):Prop where
 ok:∀(hb:w!) (s:zP!) (Z:St) (G H:Hp) (ρ:Ag) (M:Mh) (R:BR_) (Q:μ qz_->Shared->ν),mX_ H s->Kl! G->f ρ M R->
  (∀h1 M' G' H' us s',R h1 M'->Kq_ M'->Lz! MR->AQ X.K G' h1 us->Kw! H'->Q us s')->Kj! (evalPairs (pairTrees keys na X.env pos)) Q
def Mf:WP:=λ_ M R=>R [] M
def Dk(fa fb:WE)(fp:WP):WP:=λρ M R=>fa ρ M λx M1=>fb ρ M1 λy M2=>fp ρ M2 λh1 M3=>R ((x,y)::h1) M3
def vN:MP X own pos [] [] Mf:=#[λhb s Z G H ρ M R Q I st e k=>pairTrees_nil_walk (k [] M G H [] s e lj_ st.mr .nil I)]
def iP(ha:av_)(J:cr_)(hp:BS!):MP X own pos (some a::keys) (b::na) (Dk fa fb fp):=⟨λhb s Z G H ρ M R Q I st e k=>
 pairTrees_cons_walk (ha.run I st e λx M1 v G1 H1 u s1 r1 x1 m1 q1 I1 ru=>J.run I1 f0_ r1 λy M2 v2 G2 H2 u2 s2 r2 x2 m2 q2 I2 ru2=>
  hp.ok hb s2 Z G2 H2 ρ M2 _ _ I2 BN_ r2 λh1 M3 G3 H3 us s3 r3 x3 m3 q3 I3=>
   k _ M3 G3 H3 _ s3 r3 qx_ m3 (.cons #[#[v,(b6!).mono x3.g,ru],#[v2,q2.mono x3.g,ru2]] q3) I3)⟩
def kE:∀{l:q!} {d x:D},d∉l.map b_->Bq l d x=l++ly_
 |[],_,_,_=>rfl
 |(y,z)::l,d,x,h=>by
  rw[LA,KR,SZ]at h;delta Bq;rw[lz!,kE h.2];rfl
def pV:∀{l:q!} {d:D},d∉l.map b_->kget l d=υ
 |[],_,_=>rfl
 |(y,z)::l,d,h=>by
  rw[LA,KR,SZ]at h;delta kget;rw[lz!,pV h.2]
def yE(hu:as!):∀{h1:q!} {us:μ qz_} {σ:q!} {H:Hp} {s:zP!} {M:Mh} {n:δ} {Q:PUnit->Shared->ν},AQ X.K G h1 us->mX_ H s->L4! M H->Ax G H->
  M c=CF_ σ n->aB_+aD!<=1000->(∀p∈h1,(Cj p.1).isSome=τ)->((σ++h1).map b_).Nodup->
  (∀H' s',Kw! H'->EF! BT! G H'->L4! BT! H'->Q PUnit.unit s')->
  wpAny e_ A (forIn us PUnit.unit λ(x:Value×Value) (_:PUnit)=>(do dictSet c x.1 x.2;pure (ForInStep.yield PUnit.unit):Sem (ForInStep PUnit))) Q E s
 |_,_,σ,H,s,M,n,Q,.nil,I,m,sub,hM,hl,hk,nd,k=>by
  rw[US];let hc:Jq_ (σ++[]) (n+0)=M:=by
   show"#2";split
   .rename_i e;rw[e,LW,hM];rfl
   .rfl
  let k:=k H s I;rw[QT,hc]at k;exact KJ (k (.refl sub) m)
 |(d,x)::h1,(u,v)::us,σ,H,s,M,n,Q,.cons r t,I,m,sub,hM,hl,hk,nd,k=>by
  rw[RI];let#[kk,hd]:=TY.mp (hk _ KM);let r9:d∉σ.map b_:=λz=>by
   rw[LG,MB]at nd;exact nd.2.2 d z d c_ χ
  dsimp only[List.length_cons]at hl;exact KD! (a9x hu I m sub hM r.1 hd r.2 (LQ a! (show 1001<=big by decide)) λbc s' I' c'=>KJ ?_);let sy:Hj σ d n=n+1:=by delta Hj;rw[pV r9];rfl
  rw[sy,kE r9]at c';rw[sy]at I';let m':=m.write hM c';let sub':Ax G (upd H c (dE c bc aV_)):=(XM.write (c:=.dct (σ++ly_) aV_) m sub hM).sub;exact yE hu t I' m' sub' mup_same BX_ (IV! hk jV!) (zG_ LZ nd) λH2 s2 I2 x2 m2=>?_;let hc:mup (Jq_ (σ++ly_) aV_) c (.dct (σ++ly_++h1) (n+1+aD!))=Jq_ (σ++(d,x)::h1) (n+((d,x)::h1).length):=by
   show"#2";split
   .rw[LZ,KW];dsimp only[List.singleton_append];rw[show n+1+h1.length=n+(h1.length+1)by omega]
   .rfl
  rw[hc]at x2 m2;exact k H2 s2 I2 ((XM.write m sub hM).trans x2 m') m2
def Nm(fp:WP):WE:=λρ M R=>∀p,M p=υ->fp ρ ew! λh1 M1=>M1 p=ψ ev_/\aD!<=1000/\(∀q∈h1,(Cj q.1).isSome=τ)/\(fR_).Nodup/\R u! (Jd_ (.dct h1 aD!))
def pP(hu:as_)(hp:BS!)(mf:keys.all (·.isSome)=true:=by rfl)(hl:keys.length=na.length:=by rfl)(h0:keys≠[]:=by simp)(h15:keys.length<=15:=by decide):En_ (.Dict keys na pos) (Nm fp):=⟨by
 rintro hb s Z H Q I ⟨G,ρ,M,R,st,e,k⟩;let hn:=Hx_ pairTrees_length mf hl;let io:Hx_ pairTrees≠[]:=λz=>by rw[z]at hn;exact h0 (QY.mp hn.symm)
 rw[arm_eval_Dict,Hx_ zip_pairTrees mf hl,dictDisplay_pairs _ io a!];delta subDict;let hf:=I.fresh;let D0:Lo_ 0:=qy!;let I1:mX_ dE! {s with heap:=s.heap.push {cls:=.type "dict",data:=.dict #[]}}:=by
  exact qy_;show"!Z"
 let x0:EF! h7_ G dE!:=.laid st.or.sub hf;let m0:o7_ MR h7_ G dE!:=IU_ hf;exact KG (UN (KD! (wpAny_alloc (Fu_ NB))));rw[ad!];exact KG (hp.ok hb _ Z G _ ρ _ _ _ I1 (st.grow x0 m0) (e _ (JI_ hf)) λh1 M1 G1 H1 us s1 r1 x1 m1 q1 I2=>?_);let#[hM1,az,hk,nd,r1]:=r1;exact Lo! (yE a! q1 I2 m1 x1.sub hM1 (Ep! az) hk nd λH2 s2 I3 x2 m2=>KJ (LW! #[fd!,H2,I3,χ,?_]));let ZG:=(x0.trans x1 m0).trans x2 m1;simp![LY,TJ]at ZG m2;exact k _ _ _ G1 H2 r1 ZG m2 Ao.fn⟩
abbrev WS:=Ag->Mh->(Fl->Mh->ν)->ν
structure Hx(P:zH!)(w:zF!)(KF:zR!)(own:o!)(M0:Mh)(G0 F0:Hp)(M:Mh)(G H:Hp)(Z:St)(ρ:Ag):Prop where
 st:CF! Rs own G H Z ρ M
 x:XM M0 G0 F0 M G H
 fr:∀i∈own,∀p,Z[i]?=ψ ci_->F0 p=υ
inductive CH(P:zH!)(w:zF!)(KF:zR!)(M0:Mh)(G0 F0:Hp)(own df:o!)(f:WS)(E:Tl)(Z:St)(H:Hp):Prop
 |mk (G:Hp) (ρ:Ag) (M:Mh) (R:p_) (st:b7!) (e:hY!) (a:∀ρ' M' G' ae H',R bs_ M'->Kr_ df M'->E.nx ae H') (b:∀d M' v G' H',R ag! M'->F3_ M'->Ki! M'->EY! G'->E.rt v H'):CF! CH M0 G0 F0 own df f E Z H
structure MS(X:Cx)(own df:o!)(st:Stmt)(f:WS):Prop where
 ok:∀M0 G0 F0,PS X st B4!
structure Ts(X:Cx)(own df:o!)(st:gk!)(f:WS):Prop where
 ok:∀M0 G0 F0,Nq X st B4!
section
variable{KF:zR!}{M0 M M':Mh}
def Hx.grow(s:b7!)(x:lf_)(m:Bd_):CF! Hx own M0 G0 F0 M' G' H' Z ρ:=#[s.st.grow x m,s.x.trans x s.st.mr,s.fr]
def Hx.set(s:b7!)(hi:aV!)(r:cO_):CF! Hx own M0 G0 F0 M G H eK_ bX_:=by
 let ne:∀j∈own,i≠j:=λj hj z=>JB_ z;exact#[#[s.st.or.set hi r,s.st.mr,B4_],s.x,B4_]
 .rw[MF (ne j hj)]at e;exact s.st.dj j hj p e
 .rw[MF (ne j hj)]at e;exact s.fr j hj p e
def Fn(own:o!)(Z:St)(H:Hp):Hp:=λb=>if b∈Jl own Z then υ else H b
def Hx.sr(s:b7!):FM_ SR G lB_ G H Z ρ:=by
 exact#[s.st.or,#[fq_,j7_,s.st.or.sub,dv!],y5!]
 .delta Fn at e;show"!:"
  .rcases e
  .exact e
 .delta Fn;rw[KQ (a3v hi e)]
def Hx.root(s:b7!)(h:b∈Jl own Z):M b=υ/\F0 b=none:=by let#[i,hi,q]:=nG h;exact#[s.st.dj i hi b q,s.fr i hi b q]
def Hx.noF(s:b7!)(h:Fn own Z H b=υ):F0 b=none:=by
 delta Fn at h;split at h
 .rename_i J;exact(lC!).2
 .cases hM:M0 b with
  |none=>exact s.x.free hM h
  |some c=>exact ξ h (s.st.mr.has (s.x.cells b Bb_))
def Hx.cellF(s:b7!)(h:M b=ψ c):Fn own Z H b=H b/\H b≠none:=by exact#[?_,s.st.mr.has (EQ! h)];delta Fn;rw[Ha! h]
def Hx.mr'(s:b7!)(x:B7_):Ki! M:=⟨λa c e=>by
 let#[Y,h2]:=s.st.mr.cell a c e;let#[e1,e2]:=s.cellF e;exact Bc_
 .cases q:G' a with
  |none=>rfl
  |some o=>
   rcases x.new a cL_ with z|z
   .exact ξ Y z
   .rw[e1]at z;exact Hg_ e2
 .cases q:H a with
  |none=>exact ξ q e2
  |some o=>exact x.h a o (e1.trans q)⟩
def Hx.x'(s:b7!)(x:B7_):F3_ M:=by
 exact#[s.x.g.trans x.g,x.sub,bk!,B8_,s.x.dom,s.x.cells]
 .obtain z|z:=x.new b h
  .exact s.x.new b z
  .exact qD_
 .let Y:=s.x.keep b o e J;exact x.h b o ?_;delta Fn;rw[B9_];exact Y
def Hx.after(s:b7!)(r:SR KF df G lB_ G' H' ae ρ'):Kr_ df M:=
 ⟨⟨r.or,s.mr' r.ext,λi hi p e=>by
  cases q:M p with
  |none=>rfl
  |some c=>
   let#[e1,e2]:=s.cellF q;let:=HX_ r.fr;rw[e1]at this;exact Ei_ this e2⟩,s.x' r.ext,λi hi p e=>s.noF (HX_ r.fr)⟩
end
section
variable{st:Stmt}{rest body:List Stmt}{pos p2:Pos}
def pN(h:iO_)(hw:∀M0 G0 F0 E Z G H ρ M R,o7_ Hx own M0 G0 F0 M G H Z ρ->IU! q1->
  (∀ρ' M' G' ae H',R bs_ M'->o7_ Hx bt M0 G0 F0 M' G' H' ae ρ'->E.nx ae H')->(∀d M' v G' H',R ag! M'->XM M0 G0 F0 M' G' H'->MR X.prog X.w X.K M' G' H'->Ao X.K G' d v->E.rt v H')->t E Z H):E4! MS st q1:=
 #[by rintro M0 G0 F0 hb s Z H E I ⟨G,ρ,M,R,sr,e,k1,k2⟩;exact EJ! h E I (hw M0 G0 F0 E Z G H ρ M R sr e k1 k2)]
def Rt(q:cS!):WS:=λρ M R=>Di (q ρ) λr=>R r M
def a4z(h:E4! DS st q):E4! MS st (Rt q):=⟨by
 rintro M0 G0 F0 hb s Z H E I ⟨G,ρ,M,R,sr,e,k1,k2⟩;let#[r,e1,e2]:=dC e;exact h.ok G lB_ hb s Z H E I #[G,ρ,r,sr.sr,e1,?_];cases r with
 |nx ρ'=>exact λG' ae H' dr=>k1 ρ' M G' ae H' e2 (sr.after dr)
 |rt d=>exact λv G' H' x r=>k2 d M v G' H' e2 (sr.x' x) (sr.mr' x) r⟩
def Bi:WS:=λρ M R=>R Z! M
def Af(q1 q2:WS):WS:=λρ M R=>q1 ρ M λr M1=>match r with|.nx ak=>q2 ak M1 R|.rt d=>R ag! M1
def bR:Fk! Ts [] Bi:=#[by rintro M0 G0 F0 hb s Z H E I ⟨G,ρ,M,R,sr,e,k1,k2⟩;exact b1e hb s Z H E I (k1 ρ M G Z H e sr)]
def aF(Y:qG_)(h2:Ts X bt m7 rest q2):Ts X own m7 iP! (Af q1 q2):=⟨λM0 G0 F0 hb s Z H E I ⟨G,ρ,M,R,sr,e,k1,k2⟩=>
 uT qH! Ca! hb s Z H E I Cb!⟩
def aG(Y:qG_):E4! Ts [st] q1:=#[λM0 G0 F0=>gM qH!]
def Hx.free{KF:zR!}{M0 M:Mh}(s:b7!):CF! Hx [] M0 G0 F0 M fr! H Z ρ:=by
 let o:=s.st.or.full;let sG:Ax G fr!:=λb u e=>by
  delta Js;split
  .exact s.st.or.sub b u e
  .exact e
 exact#[#[o,#[λa c e=>?_],aA_],#[s.x.g.trans sG,o.sub,bk!,s.x.keep,s.x.dom,s.x.cells],aA_]
 .let#[Y,h2]:=s.st.mr.cell a c e;exact#[?_,h2.mono sG χ];delta Js;rw[Ha! e];exact Y
 .delta Js at h;split at h
  .rename_i J;exact .inr (lC!).2
  .exact s.x.new b h
def mE(h:Ts X [] m7 rest q1):Ts X own m7 rest q1:=#[by rintro M0 G0 F0 hb s Z H E I ⟨G,ρ,M,R,sr,e,k1,k2⟩;exact h.ok M0 G0 F0 hb s Z H E I #[_,ρ,M,R,sr.free,e,k1,k2]]
def Bd(f:WE):WS:=λρ M R=>f ρ M λd M1=>R ag! M1
def bM(h:bK!):E4! MS mL! (Bd f):=pN (b8f h.ok) λM0 G0 F0 E Z G H ρ M R sr e k1 k2=>
 #[G,ρ,M,_,sr.st,e,λd M' v G' H' r x m q=>HI! k2 r (sr.x.trans x sr.st.mr) m q]
def Nl:WS:=λ_ M R=>R (.rt .non) M
def a1g:E4! MS sK! Nl:=pN c5i λM0 G0 F0 E Z G H ρ M R sr e k1 k2=>k2 _ M _ G H e sr.x sr.st.mr Ao.non
def Ak(i:δ)(f:WE):WS:=λρ M R=>f ρ M λd M1=>EI! bX_ M1
def aV(hN:aY_)(hi:ai_)(hx:be_)(h:bK!)(b8:aV!:=by decide)(hs:pe_:=by rfl)
  (hf:X.fn x=τ\/xy_ x=ET! some:=by first|exact .inl χ|exact .inr χ|assumption):Fk! MS yM! (Ak i f):=
 pN yM_ λM0 G0 F0 E Z G H ρ M R sr e k1 k2=>#[G,ρ,M,_,sr.st,e,Cc_]
def Ap(ft:WT)(q1 q2:WS):WS:=λρ M R=>ft ρ M λb M1=>if b then Ge! q1 else Ge! q2
def cN(hc:lm_)(Y:E4! Ts b1 q1)(h2:E4! Ts b2 q2):E4! MS pf! (Ap ft q1 q2):=⟨by
 rintro M0 G0 F0 hb s Z H E I ⟨G,ρ,M,R,sr,e,k1,k2⟩;exact HH! qH! Ca! E I Cd_;cases b with
 |true=>exact kX lD!
 |false=>exact lM lD!⟩
def Bb(f:WE):WS:=λρ M R=>f ρ M λ_ M1=>R Z! M1
def cF(h:bK!)(hs:sJ!:=by rfl):Fk! MS (H8_ e) (Bb f):=
 pN (tH h.ok hs) λM0 G0 F0 E Z G H ρ M R sr e k1 k2=>#[G,ρ,M,_,sr.st,e,λd M' v G' H' r x m q=>k1 ρ M' G' Z H' r qJ_]
def Hy:WS:=λ_ _ _=>False
def kC:E4! MS st Hy:=#[by rintro M0 G0 F0 hb s Z H E I ⟨G,ρ,M,R,sr,e,k1,k2⟩;exact e.elim]
def Fu(C:sS!)(x:Str)(fo f:WE):WS:=λρ M R=>f ρ M λy M1=>fo ρ M1 λd M2=>match d with
 |.fn p=>(match M2 p with|some (.obj C' fs)=>C'=C/\bu_<100/\R Z! Ce_|_=>False)
 |_=>False
def gC(c:dW_)(n:Dg X.K C x)(ho:c3!)(h:bK!)(hs:KT_ e (LL_ x p2)=pure false:=by rfl):Fk! MS (FE! [.Attribute o x p2] e) (Fu C x fo f):=
 pN (d1d ho.ok h.ok hs) λM0 G0 F0 E Z G H ρ M R sr e k1 k2=>⟨G,ρ,M,_,sr.st,e,λy M1 v G1 H1 r1 x1 m1 q1=>⟨G1,ρ,M1,_,Hh_ x1,r1,λd M2 u G2 H2 r2 x2 m2 q2=>by
  cases d<;>first|exact r2.elim|skip
  rename_i p;obtain rfl:=fY q2;dsimp only at r2;split at r2
  .rename_i C' fs hM;let#[hC,hl,r2]:=r2;subst hC;let#[_,dx,vs,h3,h4]:=m2.cell p _ hM;let az:bu_=bg!:=SD h4;exact#[p,_,dx,vs,χ,h3,c,n,i!,k1 ρ _ G2 Z _ r2 ((Cg!).grow (.write m2 x2.sub hM) (m2.write hM #[dx,_,cC,c7i b6! h4]))]
  .exact r2.elim⟩⟩
def Jt(M:Mh)(d y v:D):ι Mh:=match d with
 |.fn p=>match M p with
  |some (.dct h1 ep)=>if(fY_).isSome&&decide (aD!<big)then ψ f1_ else υ
  |some (.lst xs)=>match y with
   |.int j=>(GB_ j).map λk=>G2_ (K6! k)
   |_=>υ
  |_=>υ
 |_=>υ
def DF(P:zH!)(w:zF!)(KF:zR!):V->V->V->Hp->mL_->Prop:=λo i v H Q=>∃(M:Mh) (G:Hp) (a:sS!) (h1:q!) (ep:δ) (d x:D) (k:MK),o=.ref a/\Ax G H/\Kq! M/\M a=ψ h1_/\Gb! d i/\Cj d=ψ k/\Gb! x v/\aD!<big/\
 ∀bc,CF! Gb G lo_ a Bs!->Q lo_
def c4q(hu:as_):Wj X (EW_ DF X.K):=by intro hb s Z H o i v ov iv u Q I ro ri rv h;let#[M,G,a,h1,ep,d,x,k,rfl,sub,m,e,r,hk,rx,hl,q]:=h;subst ro;exact a9w a! I m sub e #[_,r,ri] hk #[_,rx,rv] hl λbc s' I' c'=>#[_,I',q bc c']
def c5g(h:Wj X r)(h':Wj X r'):Wj X (λo i v H Q=>r o i v H Q\/r' o i v H Q):=by
 intro hb s Z H o i v ov iv u Q I ro ri rv q;obtain q|q:=q
 .exact KJ! h
 .exact KJ! h'
def Bt(fo fi f:WE):WS:=λρ M R=>f ρ M λv M1=>fo ρ M1 λd M2=>fi ρ M2 λy M3=>Di qL! λM4=>R Z! M4
def dP(hu:as_)(ho:c3!)(hi:En_ i fi)(h:bK!)
  (ha:∀v,assign Ch_ X.env v=(do
   let ov <-holding [v] dR!
   let iv <-holding [v,ov] sO_
   standAt p2
   holding eU! mO!
   release eU! []):=by intro _;rfl)
  (hs:FB_ lE!=pure false:=by rfl) (hw:GA! lE!=pure none:=by rfl)
  (Y:EP! lE!=[assign Ch_ X.env]:=by rfl):Fk! MS (FE! lE! e) (Bt fo fi f):=
 pN (b8j h.ok (b8r ho.ok hi.ok (c5g a3q (c4q hu)) ha) hs hw Y) λM0 G0 F0 E Z G H ρ M R sr e k1 k2=>⟨G,ρ,M,_,sr.st,e,λv M1 vv G1 H1 r1 x1 m1 q1=>⟨G1,ρ,M1,_,Hh_ x1,r1,λd M2 dv G2 H2 r2 x2 m2 q2=>
  ⟨G2,ρ,M2,_,(Hh_ x1).grow x2 m2,r2,λy M3 yv G3 H3 r3 x3 m3 q3=>by
   let#[M4,e4,r4]:=dC r3;let w9:=(Cg!).grow x3 m3;let qd:=q2.mono x3.g;let qv:=(b6!).mono x3.g;delta Jt at e4;split at e4
   .rename_i p;obtain rfl:=fY qd;split at e4
    .rename_i h1 ep hM;split at e4
     .rename_i hc;rw[LS,LV]at hc;rcases e4;let#[kk,hk]:=TY.mp hc.1;exact .inr #[M3,G3,p,h1,ep,y,v,kk,χ,x3.sub,m3,hM,q3,hk,qv,hc.2,λbc c'=>k1 ρ _ G3 Z _ r4 (IE_ c')]
     .rcases e4
    .rename_i xs hM;split at e4
     .rename_i j;obtain rfl:=bA q3;let#[n,e5,rfl]:=KZ.mp e4;let#[_,vs,h3,h4]:=m3.cell p _ hM;exact .inl #[p,vs,j,n,χ,χ,h3,by rw[<-aL h4];exact e5,k1 ρ _ G3 Z _ r4 (IE_ #[_,cC,uP qv n h4])]
     .rcases e4
    .rcases e4
   .rcases e4⟩⟩⟩
def Rz(i:δ)(f:WE):WS:=λρ M R=>match ρ[i]? with
 |some (some (.int a))=>f ρ M λd M1=>(match d with|.int b=>R (.nx (KW_ (BA! (a+b)))) M1|_=>False)
 |_=>False
def b9v(hN:aY_)(hi:ai_)(hx:be_)(h:bK!)(b8:aV!:=by decide)
  (hf:X.fn x=τ\/xy_ x=ET! some:=by first|exact .inl χ|exact .inr χ|assumption):Fk! MS (.AugAssign dt_ .Add e pos) (Rz i f):=
 pN (d1e hN hi hx h.ok d2t hf) λM0 G0 F0 E Z G H ρ M R sr e k1 k2=>by
  delta Rz at e;show"!:"
  .rename_i a hρ;let#[v,Y,h2]:=sr.st.or.at_ i _ hρ b8;obtain rfl:=bA h2;exact#[_,Y,G,ρ,M,_,sr.st,e,Ck!];cases d<;>first|exact r.elim|skip
   obtain rfl:=bA q;exact#[a,_,χ,χ,k1 _ M' G' _ H' r ((qJ_).set b8 Ao.int)]
  .exact e.elim
def Bx(ft:WT)(q:WS):δ->WS
 |0=>λ_ _ _=>False
 |n+1=>λρ M R=>ft ρ M λb M1=>if b then q ρ M1 Ck_ else R Z! M1
def Fj(ft:WT)(q:WS):WS:=λρ M R=>∃n,IF! n
def gZ(hp:go!)(hc:lm_)(J:Cl!):Fk! MS sQ_ (Fj ft q1):=⟨by
 rintro M0 G0 F0 hb s Z H E I ⟨G,ρ,M,R,sr,⟨n,e⟩,k1,k2⟩;exact b8e hp hc.ok (J.ok M0 G0 F0) hb s Z H E I #[λm ae H'=>∃G' ρ' M',Hx X.prog X.w X.K own M0 G0 F0 M' G' H' ae ρ'/\Bx ft q1 m ρ' M' R,#[n,G,ρ,M,sr,e],?_];rintro m ae H' ⟨G',ρ',M',fm,e'⟩;cases m with
 |zero=>exact e'.elim
 |succ m=>
  exact#[G',ρ',M',_,fm.st,e',λb M1 G1 H1 r1 x1 m1=>?_];cases b with
  |true=>exact kX #[λfg H2=>∃G2 bf M2,Hx X.prog X.w X.K own M0 G0 F0 M2 G2 H2 fg bf/\Bx ft q1 m bf M2 R,λfg H2 h=>#[m,RZ m,h],G1,ρ',M1,_,fm.grow x1 m1,r1,λbf M2 G2 fg H2 r2 zu=>#[G2,bf,M2,zu,r2],λd M2 v G2 H2 r2 x2 m2 q2=>k2 d M2 v G2 H2 r2 x2 m2 q2]
  |false=>exact lM (k1 ρ' M1 G1 ae H1 r1 (fm.grow x1 m1))⟩
end
def FU(P:zH!)(w:zF!)(KF:zR!)(ag:It)(ds:d!)(ck:f2!)(G1:Hp):Prop:=∀(i:δ) (M':Mh) (G' H':Hp),Ax G1 G'->Ax G' H'->Ki! M'->ck M'->
 yy_/\yz!
abbrev WI:=Ag->Mh->(μ D->(Mh->ν)->Mh->ν)->ν
inductive HV(P:zH!)(w:zF!)(KF:zR!)(own:o!)(fi:WI)(Z:St)(H:Hp)(R:iU!):Prop
 |mk (G:Hp) (ρ:Ag) (M:Mh) (T:μ D->(Mh->ν)->Mh->ν) (st:hX_) (e:fi ρ M T) (k:∀ds ck M1 ag G1 H1,T ds ck M1->EF! M1 G1 H1->CF! MR M1 G1 H1->K6_ ck->R ag H1):CF! HV own fi Z H R
structure MI(X:Cx)(own:o!)(tg iter:Expr)(fi:WI):Prop where
 ok:I5_ iter (Ft_ HV fi)
section
variable{st:Stmt}{rest body:List Stmt}{pos p2:Pos}
def c9h(h:I5_ e wi)(hw:∀Z G H R ρ M T,Kl! G->fi ρ M T->(∀ds ck M1 ag G1 H1,T ds ck M1->XM M G H M1 G1 H1->MR X.prog X.w X.K M1 G1 H1->FU X.prog X.w X.K ag ds ck G1->R ag H1)->wi Z H R):Gc_ MI e fi:=
 #[by rintro hb s Z H R I ⟨G,ρ,M,T,st,e,k⟩;exact EJ! h R I (hw Z G H R ρ M T st e k)]
def Hm(di:bk_):WI:=λρ M T=>Di (di ρ) λds=>T ds Q_ M
def Zt.m{KF:zR!}(h:yE!):K6_ Q_:=λi M' G' H' s1 s2 _ _=>h i G' H' s1 s2
def lL(h:Gc_ DI e di):Gc_ MI e (Hm di):=c9h h.ok λZ G H R ρ M T st e k=>by
 let#[ds,e1,e2]:=dC e;exact#[G,ρ,ds,st.or,e1,λag G1 H1 x gq=>k ds _ M ag G1 H1 e2 li_ qk_ gq.m]
def Br(f:WE):WI:=λρ M T=>f ρ M λd M1=>match d with
 |.lst xs=>T xs Q_ M1
 |.fn p=>(match M1 p with|some (.lst xs)=>T xs (λM=>M p=ψ V!) M1|_=>False)
 |_=>False
def dY(h:av_):Gc_ MI a (Br fa):=c9h (b1h h.ok) λZ G H R ρ M T st e k=>⟨G,ρ,M,_,st,e,λd M1 v G1 H1 r1 x1 m1 q1=>by
 cases d<;>first|exact r1.elim|skip
 .let#[p,vs,rfl,q,rr]:=bW q1;exact#[p,χ,#[vs,x1.sub.seq q],k _ _ M1 _ G1 H1 r1 x1 m1 (a5q q rr).m]
 .rename_i p;obtain rfl:=fY q1;dsimp only at r1;split at r1
  .rename_i xs hM;let#[_,vs,Y,h2]:=m1.cell p _ hM;exact#[p,χ,#[vs,Et.of Y],k _ _ M1 _ G1 H1 r1 x1 m1 λi M' G' H' s1 s2 m' ck=>?_];let#[_,ij,h3,h4]:=m'.cell p _ ck;let q':Et X.K H' p ij:=Et.of h3;exact Go! ij h4;let#[v,g1,g2]:=gW h4 hd;exact#[#[ij,v,q',g1],kp!];let#[e1,e2]:=hy;subst e1;let:=e2 ij q';rw[g1]at this;rcases this;exact#[G',kp_,g2]
  .exact r1.elim⟩
def Fe(bnd:ck!)(ck:f2!)(q:WS):μ D->WS
 |[]=>λρ M R=>ck M/\R Z! M
 |d::ds=>λρ M R=>ck M/\Di kr! λak=>q ak M λr M1=>match r with|.nx bf=>Fe bnd ck q ds bf M1 R|.rt d=>R ag! M1
def Cu(fi:WI)(bnd:ck!)(q:WS):WS:=λρ M R=>fi ρ M λds ck M1=>Fe bnd ck q ds ρ M1 R
def HM(KF:zR!)(own:o!)(g:TG)(bnd:ck!):Prop:=∀{P:zH!} {w:zF!} {x:V} {d:D} {Z:St} {M0 M:Mh} {G0 F0 G H:Hp} {ρ ak:Ag} {Q:iQ_},KX! M->Gb! d x->bnd d ρ=ψ ak->(∀cg,Hx P w KF own M0 G0 F0 M G H cg ak->Q cg H)->g x Z H Q
def cZ{KF:zR!}(i:δ)(hi:aV!:=by decide):FM_ HM eT_ (Bu i):=by intro P w x d Z M0 M G0 F0 G H ρ ak Q sr r e k;rcases e;exact k _ (sr.set hi r)
def Vi(i j:δ):D->Ag->ι Ag:=λd ρ=>match d with|.tup [x,y]=>ψ ((KW_ (ψ x)).set j (ψ y))|_=>υ
def c1t{KF:zR!}(i j:δ)(hi:aV!:=by decide)(hj:j∉own:=by decide):FM_ HM yD_ (Vi i j):=by
 intro P w x d Z M0 M G0 F0 G H ρ ak Q sr r e k;delta Vi at e;show"!:"
 .rcases e;show"!^";show"!3";exact#[p,[v1,v2],χ,cE sr.st.or.sub q,χ,v1,[v2],χ,v2,[],χ,χ,k _ ((sr.set hi r1).set hj r2)]
 .rcases e
def Hx.base{KF:zR!}{M0 M1:Mh}(s:qP!):CF! Hx own M1 G1 ib! M1 G1 H1 Z ρ:=
 #[s.st,#[Ax.refl _,s.st.or.sub,dv!,λb o e _=>s.sr.ext.h b o e,dv!,λb h=>h],λi hi p e=>HX_ s.sr.fr]
def Hx.unx{KF:zR!}{M0 M1 M':Mh}(s:qP!)(y:Hy! ib!):F3_ M':=by
 exact#[s.x.g.trans y.g,y.sub,bk!,B8_,bk!,λb h=>y.cells b (s.x.cells b h)]
 .obtain z|z:=y.new b h
  .exact s.x.new b z
  .exact qD_
 .exact y.keep b o ?_ ?_
  .delta Fn;rw[B9_];exact s.x.keep b o e J
  .cases q:M1 b with
   |none=>rfl
   |some c=>
    rcases s.x.dom b cL_ with z|z
    .exact ξ J z
    .rw[e]at z;rcases z
 .obtain z|z:=y.dom b h
  .exact s.x.dom b z
  .exact qD_
def Hx.unbase{KF:zR!}{M0 M1 M':Mh}(s:qP!)(s':CF! Hx bt M1 G1 ib! M' G' H' ae ρ'):Kr_ bt M':=
 #[s'.st,s.unx s'.x,λi hi p e=>s.noF (HX_ s'.fr)]
def eJ(hp:go!)(hc:aE!)(ax:qQ_)(hg:mQ!)(qh:FK_ HM g bnd)(J:Cl!)
  (hs:dc!:=by intro _;rfl):Fk! MS td_ (Cu fi bnd q1):=⟨by
 rintro M0 G0 F0 hb s Z H E I ⟨G,ρ,M,R,sr,e,k1,k2⟩;let ik:H9! X (λE Z H=>∃A B C,CH X.prog X.w X.K A B C own own q1 E Z H):=by rintro hb s Z H E I ⟨A,B,C,h⟩;exact J.ok A B C hb s Z H E I h
 exact G9_ hg #[G,ρ,M,_,sr.st,e,λds ck M1 ag G1 H1 r1 x1 m1 gq=>?_];let zw:=sr.grow x1 m1;exact⟨λn m ae H'=>n<=f_/\m=f_ - n/\∃G' ρ' M',o7_ Hx own M1 G1 ib! M' G' H' ae ρ'/\Fe bnd ck q1 oB! ρ' M' R,
  #[f_,ML _,χ,G1,ρ,M1,zw.base,r1],?_⟩
 rintro n m ae H' ⟨hn,rfl,G',ρ',M',fm,e3⟩;let jp:ck M':=by
  cases hd:I8_ n with
  |nil=>rw[hd]at e3;exact e3.1
  |cons _ _=>rw[hd]at e3;exact e3.1
 let#[qf,qg]:=gq n M' G' H' fm.x.g fm.st.or.sub fm.st.mr jp;by_cases av:n<f_
 .right;let hd:ds[n]?=ψ ds[n]:=by simp[av]
  rw[OK av]at e3;let#[_,e3]:=e3;let#[ak,e4,e3]:=dC e3;let#[go,yl]:=qf _ hd;exact#[go,λfg H2=>∃G2 bf M2,Hx X.prog X.w X.K own M1 G1 ib! M2 G2 H2 fg bf/\Fe bnd ck q1 (I8_ aV_) bf M2 R,by rintro fg H2 ⟨G2,bf,M2,Y,h3⟩;exact#[f_ - aV_,i!,av,χ,G2,bf,M2,Y,h3],kr_];let#[G2,x2,r2]:=yl v H2 hy;let zu:=fm.grow lv! (fm.st.mr.ext x2);exact qh zu r2 e4 λiz w9=>#[M1,G1,Fn own Z H1,G2,ak,M',_,w9,e3,λvb M4 G4 σ4 H4 r4 sr4=>#[G4,vb,M4,sr4,r4],λd M4 v G4 H4 r4 x4 m4 q4=>k2 d M4 v G4 H4 r4 (zw.unx x4) m4 q4]
 .left;let j0:n=f_:=by omega
  exact pn_;rw[j0,UH]at e3;exact k1 ρ' M' G' ae H' e3.2 (zw.unbase fm)⟩
def Pr(bnd:ck!)(ck:f2!)(ft:WT)(fe:WE)(ρ:Ag):μ D->Mh->Be!->ν
 |[],M,R=>ck M/\R [] M
 |d::ds,M,R=>ck M/\Di kr! λak=>ft ak M λb M1=>if b then fe ak M1 λy M2=>Fl_ ρ ds M2 λys M3=>R (y::ys) M3 else Fl_ ρ ds M1 R
def Bf(nl:δ)(ix:o!)(fi:WI)(bnd:ck!)(ft:WT)(fe:WE):WE:=λρ M R=>fi ρ M λds ck M1=>f_<=big/\Fl_ oH! ds M1 λys M2=>R bT_ M2
def b3f{KF:zR!}{M1:Mh}{Fin:c9!}
  (J:f_<=big)(gq:K6_ ck)(hg:GD KF g bnd)(er:CF! Rs [] G1 H1 zf qe M1)(e:Fl_ qe ds M1 R)(k:∀li ys M' G' H',R li M'->Hy! H1->Ki! M'->Ic_ li->li.length<=f_->Fin ys H'):
  Vk ag g (CF! Zx [] ft) (CF! CO [] fe) Fin zf H1:=by
 exact⟨λi m ys ae H'=>i<=f_/\m=f_ - i/\∃G' M' ws,Hy! H1/\CF! Rs [] G' H' ae qe M'/\Ic_ ws/\nJ!<=i/\Fl_ qe (I8_ i) M' λr M2=>R (ws++r) M2,
  #[f_,ML _,χ,G1,M1,[],.refl er.or.sub,er,An.nil,ML _,e],?_⟩
 rintro i m ys ae H' ⟨hi,rfl,G',M',ws,x,dr,a8,hw,e2⟩;exact yE_;let jp:ck M':=by
  cases hd:I8_ i with
  |nil=>rw[hd]at e2;exact e2.1
  |cons _ _=>rw[hd]at e2;exact e2.1
 let#[qf,qg]:=gq i M' G' H' x.g dr.or.sub dr.mr jp;by_cases av:i<f_
 .right;let hd:ds[i]?=ψ ds[i]:=by simp[av]
  rw[OK av]at e2;let#[_,e2]:=e2;let#[ak,e1,e2]:=dC e2;let#[go,yl]:=qf _ hd;exact#[go,kr_];let#[G2,x2,r2]:=yl v H2 hy;let dz:=dr.grow lv! (dr.mr.ext x2);let xx2:=x.trans lv! dr.mr;exact hg dz.or r2 e1 λcg qc u4=>#[G2,ak,M',_,Cu_,e2,λb M3 G3 H3 r3 x3 m3=>?_];let mz:=(show Rs P w KF [] G2 H2 cg ak M' from Cu_).grow x3 m3;let om:=xx2.trans x3 dz.mr;cases b with
  |true=>
   exact kX #[G3,ak,M3,_,mz,r3,λy M4 u G4 H4 r4 x4 m4 q4=>#[f_ - al!,i!,av,χ,G4,M4,ws++[y],om.trans x4 m3,#[(mz.grow x4 m4).or.le u4,m4,aA_],?_,?_,?_]]
   .exact dJ yG! (E1_ q4)
   .rw[KO,PF];omega
   .let e5:(λr M2=>R (ws++[y]++r) M2)=λr M2=>R (ws++y::r) M2:=by
     funext r M2;rw[LZ];rfl
    rw[e5];exact r4
  |false=>
   exact lM #[f_ - al!,i!,av,χ,G3,M3,ws,om,#[mz.or.le u4,m3,aA_],(pc!).mono x3.g,i!,r3]
 .left;let j0:i=f_:=by omega
  exact pn_;rw[j0,UH]at e2;let this:R (ws++[]) M':=e2.2;rw[LW]at this;exact k ws ys M' G' H' this x dr.mr a8 a!
def jQ
  (dq:do_)(db:dp!)(mj:∀y∈ch!,y.2=.local->scope.names.lookup y.1=ET! ψ)
  (jh:g7!)(cap:do!)(hix:ka!)(calm:aE!)(ax:qQ_)
  (hg:g7_)(qh:pc_)(hi:Cv_)(he:Cw!)
  (hs:dc!:=by intro _;rfl):
  ME X own g4_ Cw_:=
 fF yH_ λZ G H Q ρ M R st e k=>⟨G,ρ,M,_,st,e,λds ck M1 ag G1 H1 r1 x1 m1 gq=>by
  let#[J,r1]:=r1;let se:=st.grow x1 m1;exact b3f J gq qh Cx! r1 λli ys M' G' H' r x m q _ p hp=>?_;exact k _ M' _ _ _ r ((G2! x).trans (.ext hm_) m) (m.ext hm_) (dW pd! q)⟩
def vR:Oe X [] (Zx X.prog X.w X.K [] λρ M R=>R τ M):=by rintro hb s Z H Q I ⟨G,ρ,M,R,st,e,k⟩;exact LE_ a4h (k τ M G H e lj_ st.mr)
def nQ(h:MT X [] c ft):Oe X [c] Cv!:=a4g h.ok
abbrev WF:=μ D->Mh->qi!->ν
def BE(P:zH!)(w:zF!)(KF:zR!)(n:δ)(g:WF):Sp:=λvs H Q _=>bg!=n/\∃G ds M R,Ax G H/\Kq! M/\CG! G/\g ds M R/\∀d M' v G' H',R d M'->Kq_ M'->Ki! M'->EY! G'->Q v H'
def Iv(P:zH!)(w:zF!)(KF:zR!)(mg:U!)(base:Heap)(k:δ)(x:Str)(ps:w_)(g:WF):Prop:=
 ∃af fd,Kg_ qS!/\EP_ KF/\mg x=ψ bl_/\Lk! KF=τ
nonrec def gl(g:bZ!):WF:=λds M R=>Di (g ds) λd=>R d M
def Ok.m{KF:zR!}{mg:U!}{k:δ}{g:bZ!}(h:KN! Ok g):KN! Iv (gl g):=by let#[af,fd,Y,h2,h3,h4]:=h;exact#[af,fd,Y.imp λvs H Q E z=>?_,h2,h3,h4];let#[hl,G,ds,M,R,sub,m,r,e,k]:=z;let#[d,e1,e2]:=dC e;exact#[hl,G,ds,d,sub,r,e1,λv G' H' x q=>k d M v G' H' e2 li_ (m.ext x) q]
def Am(n:δ)(g:WF)(fs:WA):WE:=λρ M R=>fs ρ M λds M1=>f_=n/\g ds M1 R
def aS(F:Lf! Iv)(hr:a1!)(hg:U_)(ha:fZ_)
  (bd:D!:=by decide)(he:az!:=by rfl)(ay:a1_:=by rfl):
  ME X own bQ! (Am ps.length g fs):=by
 show"#,";exact fF (Gu! sI) λZ G H Q ρ M R st e' k=>Ih_ st Cz!;rw[LW];exact#[Cz_,G1,ds,M1,R,x1.sub,m1,q1,r1.2,qn!]
def Df(P:zH!)(w:zF!)(KF:zR!)(mg:U!)(base:Heap)(k:δ)(C:sS!)(m:Str)(ps:w_)(g:WF):Prop:=
 To KF C/\∃af fd,Wm KF C m af/\Kg_ qS!/\EP_ KF
def Cz(C:sS!)(m:Str)(M:Mh)(d:D):Prop:=match d with
 |.fn p=>(match M p with|some (.obj C' fs)=>C'=C/\fs.lookup m=υ|_=>False)
 |_=>False
protected def wJ{KF:zR!}(mr:cq_)(r:cO_)(h:lH!):∃p dx vs,d=.fn p/\v=.ref p/\H p=ψ A9_/\vs.lookup m=none:=by
 delta Cz at h;split at h
 .show"#N";split at h
  .rename_i C' fs hM;let#[rfl,hl]:=h;let#[_,dx,vs,Y,h2]:=mr.cell p _ hM;exact#[p,dx,vs,χ,χ,Y,c1w h2 hl]
  .exact h.elim
 .exact h.elim
def Ba(C:sS!)(m:Str)(n:δ)(g:WF)(fo:WE)(fs:WA):WE:=λρ M R=>fo ρ M λd M1=>Cz C m M1 d/\fs ρ M1 λds M2=>f_+1=n/\g dr_ M2 R
def cJ(F:qS_)(hr:a1!)(ho:c3!)(ha:fZ_)
  (hst:az!:=by rfl)(ay:a1_:=by rfl)
  (ht:eval e8! X.env=(do
   let ov <-eval o X.env
   standAt e3_
   let(f,first) <-holding [ov] e4!
   callWith pos f first nz_ dX!):=by rfl):En_ e8! CA!:=by
 show"#+";exact fF (Gp! ho.ok) λZ G H Q ρ M R st e' k=>CA_;show"!?";exact#[p,dx,vs,χ,hH,hl,G1,ρ,M1,_,ll!,r1,CB!];rw[LW];exact CC!
def c0a(F:qS_)(hr:a1!)(ho:c3!)
  (ht:eval jk! X.env=(do
   let ov <-eval o X.env
   standAt e3_
   let(f,first) <-holding [ov] e4!
   callWith pos f first nA_ dX!):=by rfl):En_ jk! (Ba C m ps.length g fo Ad):=by
 show"#+";exact fF (b8x ho.ok cl Y h2 hr h3 .nil sI ht) λZ G H Q ρ M R st e' k=>CA_;show"!?";exact#[p,dx,vs,χ,hH,hl,?_];let r2:=r1;exact#[r2.1,G1,lI!,M1,R,x1.sub,m1,An.cons Ao.fn An.nil,r2.2,λd M3 v G3 H3 r3 x3 m3 q3=>k d M3 v G3 H3 r3 (G2! x3) m3 q3]
def Wl(P:zH!)(w:zF!)(KF:zR!)(mg:U!)(base:Heap)(k:δ)(x:Str)(C:sS!)(ps:w_)(g:WF):Prop:=
 mg x=ψ ae!/\∃af fd,Mk KF C af/\Kg_ qS!/\EP_ KF
def Fv(C:sS!)(n:δ)(g:WF)(fs:WA):WE:=λρ M R=>fs ρ M λds M1=>f_+1=n/\∀p,M1 p=υ->g (.fn p::ds) (Jd_ (.obj C [])) λd M2=>d=.non/\R u! M2
def c0c{KF:zR!}{M1:Mh}(sub:Ax G1 H1)(m1:Bb!)(hx:H1 x=υ)(ln:H1 dx=υ)(ne:dx≠x):
  XM M1 G1 H1 CC_ G1 nx!/\CF! MR CC_ G1 nx!:=by
 let old:∀b o,H1 b=ψ o->upd sm! x nw_ b=ψ o:=λb o e=>by rw[bC (cO e hx),bC (cO e ln)];exact e
 exact#[#[Ax.refl G1,λb o e=>old b o (sub b o e),dv!,λb o e _=>old b o e,bk!,bk!],#[λb q e=>?_]]
 .by_cases J:b=x
  .subst J;exact .inr hx
  .rw[c1_]at h;exact .inl h
 .by_cases J:b=x
  .subst J;rw[mup_same];simp
  .rw[c1_];exact h
 .by_cases J:b=x
  .show"#)";exact#[sub.free hx,dx,[],cC,.nil]
  .rw[c1_]at e;let#[Y,h2]:=m1.cell b q e;exact#[Y,h2.mono (Ax.refl G1) ?_];cases hq:H1 b with
   |none=>exact Ei_ hq h2.has
   |some o=>exact old b o hq
def b2d(F:CD!)(hr:gF_)(hg:U_)(ha:fZ_)
  (bd:D!:=by decide)(he:az!:=by rfl)(ay:a1_:=by rfl):En_ bQ! (Fv C ps.length g fs):=by
 let#[hm,af,fd,Y,h2,h3]:=F;exact fF (c5p Y h2 hr hg hm h3 .nil sI ha.ok bd he ay) λZ G H Q ρ M R st e' k=>#[G,ρ,M,_,st,e',λds M1 vs G1 H1 r1 x1 m1 q1=>λy dx hy ln ne=>?_];let#[z1,z2]:=c0c x1.sub m1 hy ln ne;rw[LW];exact⟨by rw[KW,<-aL q1];exact r1.1,G1,.fn y::ds,_,_,z1.sub,z2,Gt! Ao.fn q1,r1.2 y (JH_ hy),λd M2 v G2 H2 r2 x2 m2 q2=>by
  let#[rfl,r2]:=r2;exact KE_ ((G2! z1).trans x2 z2)⟩
def mG(F:CD!)(hr:gF_)(hg:U_)
  (bd:D!:=by decide):En_ ug! (Fv C ps.length g Ad):=by
 let#[hm,af,fd,Y,h2,h3]:=F;exact fF (b8y Y h2 hr hg hm h3 .nil sI bd) λZ G H Q ρ M R st e' k=>λy dx hy ln ne=>?_;let#[z1,z2]:=c0c st.or.sub st.mr hy ln ne;let r1:=e';exact⟨r1.1,G,[.fn y],_,_,z1.sub,z2,E1_ Ao.fn,r1.2 y (JI_ hy),λd M2 v G2 H2 r2 x2 m2 q2=>by
  let#[rfl,r2]:=r2;exact KE_ (z1.trans x2 z2)⟩
def Bs(N:w_)(n:δ)(q:WS):WF:=λds M R=>f_=n/\q cS_ M λr M'=>match r with|.rt d=>R d M'|.nx _=>Fl! M'
end
def tU{KF:zR!}{st:Stmt}
  (F:y7_)(S:dm_)
  (J:∀(ah:yg!) (A:xy!) (outer:ax_) (s:zP!) (H:Hp) (E:XK),Ai k po_->HY! Ts pp!):
  Eh P w KF mg base Nr R_ af fd ps (CF! BE ps.length lI_):=by
 exact y8_;let#[hl,G,ds,M,R,sub,m,r,e,kk]:=h;exact#[_,(y9!).ok M G H,?_];let er:=uD (N:=N) sub r;exact CD_
def Mw.at(D:IT_ d)(e:∀o,h.get? d=ψ o->Es! d=ψ o):Mw h' d es ep:=by let#[o,ho,r]:=D;exact#[o,e o ho,r]
def c1g(hd:CE!)(D:qV!)
  (h:Q bv_ {s with heap:=s.heap.push {cls:=.type "dict_keyiterator",data:=.fields [.ref d,.int 0 0,.int es.length 0,.int ep 0].toArray}}):L1! (.ref d):=by
 let hT:=D.typeIs;let#[o,ho,hc,ZH]:=id D;exact wpAny_pyIter_slot hT PySem.F.slot_dict_iter (NA PySem.F.slot_dict_iter hT PySem.F.entry_dict_iter ?_ (PySem.F.args_dict_iter_1 _));delta Builtin.«dict.__iter__» Builtin.Dict.dictSlotNone;exact KG qt!;show EJ_ G! (Builtin.Dict.showsAll d>>=_);delta Builtin.Dict.showsAll;rw[KD_ hd];exact Ia! (KG (QF ho ZH (KG (QG ho ZH (KG (OH (KJ #[_,χ,"dict_keyiterator",_,kK!,ON.lookup,?_])))))));simpa[rawInt]using h
def a4v(ax:CE_)(D:qV!)(hx:es[i]?=ψ e)
  (h:∀h',h'.IsKeyIter it d al! es.length ep->Et_ it->Q (ψ e.key) {s with heap:=h'}):o6_ G! iT_:=by
 show"!_";let#[av,ql]:=LH.mp hx;show"#3"
 first|exact H0_ RF lJ!|exact H0_ SM lJ!
 show"!@";exact KG CH_;rw[bB_];exact KJ ?_;simp![CI!,NJ,QV,QL,hx];exact KG ?_
 first|exact H0_ RF CI_|exact H0_ SM CI_
 show EJ_ G! (setField ca! 1 (rawInt ey!)>>=_);let j6:(s.heap.update it (Obj.mapFields (·.setIfInBounds 1 (rawInt ey!)))).IsKeyIter it d al! es.length ep:=
  #[_,OQ _ ho (QS (PQ hd _)),Fq! zI! hc,by rw[PQ hd];simp[rawInt]]
 exact KG (SI ho hd c_ (KG (NB (FU_ VA j6.typeIs))));exact LW! (Jb_ (h _ j6 en!))
def b2z(hh:bS!)(ax:CE_)(D:qV!)(hx:ao!<=i)
  (h:CK!):o6_ G! iT_:=by
 show"!_";show"#3"
 first|exact H0_ RF lJ!|exact H0_ SM lJ!
 show"!@";exact KG CH_;rw[bB_];exact KJ ?_;simp![CI!,NJ,QV,QL,NQ hx];exact KG ?_
 first|exact H0_ RF Y_|exact H0_ SM Y_
 show EJ_ G! (setField ca! 0 .none>>=_);exact KG (SI ho hd c_ ?_);exact KG ?_;dsimp only[newExc,newTuple];exact KG (OH (KG (wpAny_of_eq zJ_ (OH ?_ hB_))) hB_);dsimp only[raiseNew];exact KG zK_;rw[zL!];exact KG zL_;exact GF! (show Shared.TypeIs _ _ _ from kK!);exact KJ (h _ zM!)
def b3p(hh:bS!)(I d:sS!)(hne:d≠I)(es:c0_)(ep:δ):Walks P w A I [I,d] [I] es.length qW! (λi h=>h.IsKeyIter I d i es.length ep/\Mw h d es ep) where
 sub:=λb J=>by simp at J;simp[J]
 frame:=λ_ _ _ st hk=>#[st.1.at λo e=>hk I c_ o e,st.2.at λo e=>hk d c_ o e]
 item:=λi s Q E hi st hQ=>by
  exact a4v st.1 st.2 (LL hi) λh' j6 c7=>?_;exact hQ _ h' s.toks #[_,LL hi,χ] #[j6,st.2.at λo e=>(c7.2 d hne).trans e] λb o J e=>(c7.2 b gr_).trans e
 done:=λs Q E st hQ=>b2z hh st.1 st.2 v! λh' j5=>hQ h' s.toks λb o J e=>j5 b o gr_ e
 self:=λ_ _ _ _ st hQ=>wpAny_pyIter_keyiter st.1 hQ
def d3p(D:IT_ d)(D':Mw h d bc bx):es=bc/\ep=bx:=by
 let#[o,Y,_,h2]:=D;let#[o',h3,_,h4]:=D';rw[Y]at h3;rcases h3;rw[h2]at h4;injection h4 with h5 h6
 exact#[by simpa using congrArg Array.toList h5,h6]
def IY(d:sS!)(ep n:δ):It:=#[λi H=>∃es e x,H d=ψ ey_/\ao!=n/\es[i]?=ψ e/\Bh x e.key,λi H x H'=>H'=H/\∀es,H d=ψ ey_->∃e,es[i]?=ψ e/\Bh x e.key,λi H=>∃es,H d=ψ ey_/\ao!=n/\n<=i]
def a2t(hok:bd!)(e:H d=ψ ey_):IT_ d:=by let#[#[h3,_],_]:=(show Ec P w H h d ey_ from hok d _ e);exact h3
def b6s{KF:zR!}(d it:sS!):CF! Qk tg (IY d ep n) [it] it (λi h=>h.IsKeyIter it d i n ep) where
 mem:=by simp
 obj:=λi h st b J=>by
  let e:b=it:=by simpa using J
  subst e;show"#!"
 keep:=λi h h' st k=>st.at λo e=>k it c_ o e
 item:=by
  intro X hP hw hK hc i hb s Z H E I hf st hg;subst hP hw hK;let#[es,e,x,hH,hl,hx,rx]:=hg;let D:=a2t I.hok hH;let#[f0,f1,f2,f3,f4,f5]:=hf it c_;subst hl;exact a4v st D hx λh' ac sb=>?_;let I1:mX_ H {s with heap:=h'}:=Gd_ s1!;let#[o,eo,c,dd]:=id ac;exact⟨_,χ,b2u eo c dd a_ ⟨x,H,I1,rx,⟨χ,λbc hy=>by
   let#[rfl,_]:=d3p D (a2t I.hok hy);exact#[e,hx,rx]⟩,ac,λb J=>(gr!).1⟩⟩
 done:=by
  show"!6";let#[es,hH,hl,hx]:=hg;show"!g";subst hl;exact b2z aS_ st (a2t I.hok hH) hx λh' eb=>CN_
 self:=λ_ _ _ _ _ st h=>wpAny_pyIter_keyiter st h
def On(f:WE):WI:=λρ M T=>f ρ M λd M1=>Di h5_ λq=>T lJ_ (λM=>M q.1=ψ qv_) M1
def b9y(h:av_):Gc_ MI a (On fa):=⟨by
 rintro hb s Z H R I ⟨G,ρ,M,T,st,e,k⟩;exact h.run I st e λd M1 v G1 H1 u s1 r1 x1 m1 q1 I1 rx=>?_;let#[#[p,h1,ep],e1,r2]:=dC r1;let#[rfl,rfl,hM]:=cV q1 e1;subst rx;let#[es,Y,h2,h3,h4,h5,h6]:=FO! eX;let az:aD!=ao!:=SD h2.1;exact c1g h4 h3 #[B!,[B!],_,IY p ep ao!,H1,χ,zy!,b6s p _,eW_,cz!,k _ _ M1 _ G1 H1 r2 x1 m1 λi M' G' H' s2 s3 m' ck=>?_]
 .let e:b=B!:=by simpa using J
  show"!U"
 .let#[_,bc,g1,g2]:=m'.cell p _ ck;let hlen':aD!=bc.length:=SD g2.1;exact#[eh_,λhi=>#[bc,g1,i!,by rw[hi,KP];show ao!<=aD!;omega]];rw[MO]at hd;let#[q,hq,rfl]:=KZ.mp hd;let#[e',j5,#[v,r1,rv],_,_]:=gH g2.1 hq;exact#[#[bc,e',v,g1,i!,j5,rv],kp!];let#[z1,z2]:=hy;subst z1;let#[e2,jz,rx]:=z2 bc g1;rw[j5]at jz;rcases jz;rw[rx.inj rv];exact#[G',Bz.refl s3,r1]⟩
def iL{wr:bd_}(I:d_)(hf:∀b∈wr,Fc! H b)(kp:∀c o,c∉wr->rX_ c=ψ o->h2.get? c=ψ o):mX_ H {s with heap:=h2,toks:=t'}:=by
 exact z8_
 .let#[f0,f1,f2,f3,f4,f5]:=hf c hc;exact#[f3,f1,f4,f5]
 .show"#C";exact z9_
 .exact IT! c λ_ _ e'=>e';let hn:=(hf d hm).1;obtain rfl|hd:=hd
  .rw[hn]at e;rcases e
  .rw[hn]at hd;rcases hd
def d0k(I:mX_ H s0)(I1:d_)(hT:CO!<=T)(eT:F0_ T ej_)(rv:dM!)(hz:h_<=sizeLine):mX_ (upd H T bc_) s:=by
 let u9:=F9_ hT;let ne:∀c o,H c=ψ o->c≠T:=λc o e=>cO e u9;exact Inv.step (ch:=[T]) I1 pM! Af! Af_ Ag! Ag_
  (Ah_) Ah! Ai! on_ pM_ I1.bare
 .let e:c=T:=by simpa using hc
  subst e;let#[_,g1,_,g3,g4,g5]:=I.fpOk hT u9;exact#[g3,g1,g4,g5]
 .rw[oo!];exact n
 .by_cases J:c=T
  .show"!u";exact#[hz,us,rv,eT]
  .rw[bC J]at e;exact(Ai_).stay oo_ Aj! λd xs q=>by rw[pO!];exact q
def IW(x:Str):It:=#[zu_,λi H v H'=>∃T c,v=.ref T/\H T=υ/\x.cps[i]?=ψ c/\H'=upd H T (.tup [bN_,d6_]),zv_]
def a7j{KF:zR!}(td:if!)(hd:zw_)
  (D:∀A':Around,pB_=υ->Draws P w A' it [it] x.cps.size CO_ gu):
  Qk P w KF fL! (IW x) dG! e (λi h=>i<=kI!/\CP!/\gu i h) where
 mem:=by simp
 obj:=λi h st b J=>by
  simp![KR,KN,SS]at J;let#[_,#[old,s1],s2]:=st;obtain rfl|rfl:=J
  .exact#[_,s1,g6_]
  .exact hd i h s2
 keep:=λi h h' st k=>by
  let W:=FF_ (D callerA.in1 χ);exact#[st.1,W.frame i h h' st.2 λb J o q=>k b gr_ o q]
 item:=by
  intro X hP hw hK hc i hb s Z H E I hf st hg;subst hP hw hK;let hh:=I.ok.hd hc;let W:=FF_ CP_;exact W.item i s _ _ hg st.2 λT yt h' tk hP hT hTu hm kp=>#[_,χ,W.go sm n1 tp i T _ _ _ hm λh2 cj ve=>?_];let#[t,y,#[c,u,iy,rfl],rfl]:=hP;let hfw:=hf;let I1:mX_ H {s with heap:=h2,toks:=tk}:=iL I hfw λc o hc eo=>ve c o hc (kp c o hc eo);let ZI:=W.apart i T _ hm;let eT:h2.IsTuple T [.int i t,.str ak! u].toArray:=by
   let#[o,eo,r]:=hTu;exact#[o,ve T o ZI eo,r]
  let I2:=d0k (xs:=[bN_,d6_]) I I1 hT eT (.cons dl_ (GN_ #[u,χ])) (by show 2<=sizeLine;rw[NO];decide);exact#[.ref T,_,I2,χ,#[T,c,χ,I.hok.fresh hT,iy,χ],#[hg,cj],cz!];rw[bC (λz:b=T=>ZI (Ev! z J))];exact(gr!).1
 done:=by
  show"!6";let hh:=I.ok.hd hc;let W:=FF_ CP_;let hi:=J6_ hg;subst hi;exact W.done s _ _ st.2 λh' tk kp=>#[χ,iL I hf kp]
 self:=λA i s Q E st h=>by
  let#[_,#[old,s1],_]:=st;exact wpAny_pyIter_enum s1 h
def Ur(f:p!):Ag->ι aG!:=λρ=>(af_).bind λd=>match d with|.str x=>ψ (x.cps.toList.zipIdx.map λq=>.tup CQ!)|_=>υ
def c2t(hg:CQ_)(hm:CR!)(h:X!)(hs:CR_:=by rfl)(ay:CS!:=by rfl):
  DI X own fL! (GF_ "enumerate" [a] [] pos) (Ur fa):=⟨by
 rintro hb s Z H R I ⟨G,ρ,ds,er,e,k⟩;let#[d,e1,e2]:=KH.mp e;cases d<;>first|(rcases e2;done)|skip
 rename_i x;rcases e2;exact Call_ (jI I hg hm boot_enumerate (OA (dM (cX h.ok fM hs pos hb s Z H (λvs H1=>∃v G1,vs=[v]/\Bz G H G1 H1/\Ao X.K G1 bO! v) I #[G,ρ,_,er,e1,λv G1 H1 x1 r1=>#[v,G1,χ,x1,r1]]) ?_) hs ay));rintro us s1 ⟨vs,H1,I1,r1,v,G1,q1,x1,rr⟩;subst q1;obtain rfl:=cH rr;let#[u,rfl,t,rfl]:=oR r1;exact call_enumerate_str λh' he ax bi hk=>?_;exact wpAny_pyIter_enum he ?_;let I2:mX_ H1 {s1 with heap:=h',toks:=s1.toks}:=I1.kept hk;let ll:∀b∈[B!+1,B!],B!<=b:=λb J=>by
  simp![KR,KN,SS]at J;obtain rfl|rfl:=J<;>omega
 let fin:∀{gu:iS_},gu 0 h'->(∀i h,gu i h->∃o,h.get? B!=ψ o/\∀v,o.data≠.cell v)->(∀A':Around,pB_=υ->Draws X.prog X.w A' s1.heap.objs.size [B!] x.cps.size CO_ gu)->
   ET X hb Z fL! R (.ref (B!+1)) {s1 with heap:=h'}:=λ{gu} h0 hd D=>by
  exact#[_,_,_,IW x,H1,χ,I2,a7j CT! hd D,#[ML _,#[_,he],h0],λb J=>I1.fpOk (ll b J) CT_,k _ G1 H1 x1 ?_];intro i G' H' g1 g2;exact#[eh_,λhi=>by rw[KP,TL,OM]at hi;exact QI hi.symm];rw[MO,List.getElem?_zipIdx]at hd;let#[q,hq,rfl]:=KZ.mp hd;let#[c,hc,rfl]:=KZ.mp hq;rw[RJ]at hc;exact zw!;let#[T,c',rfl,hT,cy,rfl]:=hy;rw[hc]at cy;rcases cy;exact#[_,Bz.laid g2 hT,fU (g2.free hT) (An.cons ?_ (E1_ Ao.str))];rw[TJ];exact Ao.int
 cases ha:x.cps.all (·<128)
 .let j6:GV! h'.IsStrIter "str_iterator" 0:=by simpa[strIterType,ha]using ax
  exact fin j6 CV! λA' hh=>Draws.strWide hh _ x t
 .let j6:GV! h'.IsStrIter "str_ascii_iterator" 0:=by simpa[strIterType,ha]using ax
  exact fin j6 CV! λA' hh=>Draws.strAscii hh _ x t⟩
def Oh(a:Int)(n:δ):μ D:=(hl_).map λi=>.int (a+(i:δ))
def Ma(f g:p!):Ag->ι aG!:=λρ=>(af_).bind λx=>(g ρ).bind λy=>match x,y with|.int i,.int j=>if -1000<=i/\i<=100000/\-1000<=j/\j<=100000 then ψ (Oh i (gt!).toNat)else υ|_,_=>υ
end DL
namespace HT
open PySem PySem.Spec PyProof.Rows
def b7s(A:xy!)(s:zP!)(a:Int)(t:Tok)(c:Int)(u:Tok)(prog:zH!)(w:zF!)(E:V_)(Q:V_)(h:Q (.bool (decide (c<a))) s):
  wpAny n! A (richCompare .Gt gK_ nH!) Q E s:=
 (PyProof.Rows.gt_int h:Kw_ (compareOp .Gt gK_ nH!))
section
open PySem.SeqAt
open PySem.AutoSeq1 (wpAny_loadPart')
open PySem.MeetsSeq PySem.MeetsSeq2 PySem.MeetsSeq3
def xD(l b:sS!)(am ng:b9!)(n n2:δ)(dd oj:ec!)(sl ic:ol!)(ns ms:s_)(hi:CW!)(hj:CW_):
  Meets (Builtin.«tuple.__gt__» #[[.ref l,.ref b],[]])
   (λ_ R s=>rX_ l=ψ {cls:=.type "tuple",dict:=dd,data:=.seq am n,slots:=sl}/\rX_ b=ψ {cls:=.type "tuple",dict:=oj,data:=.seq ng n2,slots:=ic}/\
    R (Hw! qZ_) s):=
 .of_wp λprog w A R s h=>by
  let#[hp,g,d,tk,os]:=s;let#[hl,J,h]:=h;let f2:=AutoSeq1.sub_tuple_tuple;let z1:am.size=dd!:=by rw[<-hi.length];rfl
  let z2:ng.size=dG_:=by rw[<-hj.length];rfl
  wp_walk using UY hl,UY J,UQ _ (λrest b s'=>b.1=υ/\s'=lL!/\∃(vs ws:n_) (tf tu:s_),rest=vs.zip ws/\
   IntsAre vs tf/\F0! ws tu/\tf.length+ng.size=tu.length+am.size/\R (Hw! (.bool (lexLt tu tf))) lL!) _
  case turn=>
   rintro⟨y,x⟩ rest b s' ⟨ik,rfl,vs,ws,tf,tu,hz,zx,xa,az,hR⟩;cases zx with
   |nil=>rw[List.zip_nil_left]at hz;cases hz
   |cons a t hvi'=>
    cases xa with
    |nil=>rw[List.zip_nil_right]at hz;cases hz
    |cons c u hwi'=>
     rw[TK]at hz;injection hz with hyx zy
     injection hyx with hy hx
     subst hy hx;rw[lexLt_cons]at hR;simp![KW]at az;let#[e,he,ZJ]:=c2d A.in1 lL! a t c u;exact KG (he prog w _ _ ?_);cases e with
     |true=>
      rw[KQ (ZJ.mp χ).symm]at hR
      wp_walk
      exact#[χ,χ,_,_,_,_,zy,hvi',hwi',i!,hR]
     |false=>
      rw[LB (λq=>ξ (ZJ.mpr q.symm) LU)]at hR;let hri:=b7s A.in1 lL! a t c u prog w
      wp_walk using hri
      exact#[_,χ,by simpa using hR]
  case fin=>
   rintro⟨b1,b2⟩ s' ⟨ik,rfl,vs,ws,tf,tu,hz,zx,xa,az,hR⟩;simp only at ik;subst ik;let hv:lexLt tu tf=decide (ng.size<am.size):=by
    cases zx with
    |nil=>
     cases xa with
     |nil=>
      simp![QT]at az;rw[lexLt_nil_nil];exact(LD a!).symm
     |cons c u hw=>
      simp![QT,KW]at az;rw[vY];exact(LD a!).symm
    |cons a t hv=>
     cases xa with
     |nil=>
      simp![QT,KW]at az;rw[vX];exact(LM a!).symm
     |cons c u hw=>
      rw[TK]at hz;cases hz
   rw[hv]at hR
   wp_walk
   exact#[_,χ,by simpa[Builtin.Tuple.tupleCompareSizes]using hR]
  case h=>
   exact#[χ,χ,am.toList,ng.toList,ns,ms,χ,hi,hj,i!,h]
end
def gt_tupInts(hl:KM! l am)(J:KM! b ng)(hi:CW!)(hj:CW_)
  (hu:as!)(h:Q qZ_ s):Kw_ (compareOp .Gt (.ref l) d3!):=by
 let#[#[cls,dd,data,sl],ho,hc,n,hd]:=id hl;let#[#[YH,oj,data2,ic],kj,i',n2,jj]:=id J;simp only at hc hd i' jj;subst hc hd i' jj;exact richCompare_meets_room (op:=.Gt) jr! jr_ PySem.F.slot_tuple_gt PySem.F.entry_tuple_gt (PySem.F.args_tuple_gt_2 _ _) (xD l b am ng n n2 dd oj sl ic ns ms hi hj)
  #[ho,kj,show Value.bool (lexLt ms ns)≠Value.notImplemented/\Q qZ_ s from#[(λx=>nomatch x),h]] hu
end HT
namespace DL
open PySem PySem.Spec PyProof.Rows L2
def DP(KF:zR!):R2:=λx y H Q=>∃a b ns ms,x=.ref a/\y=.ref b/\Fj! a ce_/\Fj! b (ms.map V.int)/\FC! q2!
def d1q(hu:X.A.units<cLine):Gj! tt_ DP:=by intro hb s Z H x y v u Q I rx ry h;let#[a,b,ns,ms,rfl,rfl,ha,J,q]:=h;subst rx;subst ry;let#[its,r1,p1,_]:=EH_ ha;let#[ja,r2,p2,_]:=EH_ J;let i1:Lx_ its.toArray.toList:=wN r1;let i2:F0! ja.toArray.toList ms:=wN r2;exact HT.gt_tupInts p1 p2 i1 i2 hu (K0! q2! q)
def Lp:μ D->KK_ Int
 |[]=>ψ []
 |.int i::r=>(Lp r).map (i::·)
 |_=>υ
def kB{KF:zR!}:∀{ds:d!} {vs:r_} {ns:s_},CG! G->Lp ds=ψ ns->vs=ns.map V.int
 |[],vs,ns,r,e=>by obtain rfl:=cR r;rcases e;rfl
 |d::ds,vs,ns,r,e=>by
  let#[v,t,rfl,r1,r2]:=bS r;cases d<;>simp![Lp]at e<;>first|(rcases e;done)|skip
  let#[l,e1,rfl]:=KZ.mp e;rw[kB r2 e1];obtain rfl:=bA r1;rfl
def CJ:D->D->ι D
 |.tup xs,.tup ys=>(Lp xs).bind λns=>(Lp ys).map λms=>.bl q2!
 |_,_=>υ
def d1y{KF:zR!}:Hv_ DP CJ:=by
 show"!1";delta CJ at e;show"!:"
 .let#[ns,e1,e]:=KH.mp e;let#[ms,e2,rfl]:=KZ.mp e;show"!X";let#[b,ws,rfl,qb,rb]:=bX ry;rw[kB ra e1]at qa;rw[kB rb e2]at qb;exact#[a,b,ns,ms,χ,χ,ki!,oT!,eh!]
 .rcases e
def zS(hg:eX_)(hm:eY!)(ha:X!)(J:cj_)(hs:s9!:=by rfl)(bu:s9_:=by rfl)
  (dh:starEach (a::[b]) X.env=cA!::CG_ [b]:=by rfl)(jo:starEach (b::[]) X.env=eY_::Gc! starEach:=by rfl):Gc_ DI ta! (Ma fa fb):=
 zT (b4l hg hm (IV_ fM) hs bu) λZ G H R ρ ds er e k=>by
  let#[x,e1,e3]:=KH.mp e;let#[y,e2,e4]:=KH.mp e3;clear e e3;split at e4
  .rename_i i j;split at e4
   .rename_i h;rcases e4;exact Ar_;show"!x";exact#[i,j,χ,i!,k _ G2 H2 cP_ ?_];intro n G' H' g1 g2;delta Oh;show"!O";subst he;show"!p"
   .rcases e4
  .rcases e4
def Yx:V->μ V->Hp->VK->Prop:=λx vs H Q=>∃l xs k y,x=.ref l/\vs=[ig_,y]/\H l=ψ V!/\k<=h_/\h_<sizeLine/\HP_ (.lst (xs.take k++y::xs.drop k))
def b5d:HJ X "list.insert" Yx:=by
 intro hb s Z H x vs v us Q I rx rv h;let#[l,xs,k,y,rfl,rfl,hH,hk,hz,q]:=h;subst rx;let#[u,u2,rfl,#[t,rfl],ru]:=yA rv;let#[z,its,n,r,hl,e]:=I.lstM hH;let yq:¬(!Builtin.List.listFitsIndex (k:Int))=true:=by
  rw[fitsIndex_both (Int.le_trans a_ (Int.natCast_nonneg k)) (Int.lt_of_le_of_lt (Int.ofNat_le.mpr (LX hk (QX hz))) xV!)];exact LU
 let bi:bT!<=sizeLine:=by rw[KU];omega
 exact VG (S:=?S) PySem.F.slot_list_insert d9_ PySem.F.entry_list_insert (PySem.F.args_list_insert_3 _ _ _) ?g ?h
 case g=>exact @PySem.AutoSeq1.list_insert_list_int_val_1 l its.toArray n (k:Int) t u2 yq bi
 exact jM_;exact#[.non,_,I.lset (its':=its.take k++u2::its.drop k) hH e ?_ ((r.take k).append (.cons ru (r.drop k))) ?_,χ,q]
 .let Y:¬bL_<0:=by omega
  let h2:min (bL_).toNat bT!=k:=by simp;omega
  simp![Y,NJ,h2];simp[List.extract_eq_drop_take];rw[OX c_]
 .simp only[KO,KW,NV,OL];omega
def Xe(i:δ)(fk f:p!):Ag->ι Fl:=λρ=>(fk ρ).bind λx=>(af_).bind λd=>match x,ρ[i]? with
 |.int j,some (some (.lst ds))=>if 0<=j/\j.toNat<=f_/\f_<big then ψ (.nx (KW_ (o8! (ds.take j.toNat++d::ds.drop j.toNat))))else υ
 |_,_=>υ
def b5w(b8:ef!:=by decide)(hk:Ek! ek fk)(h:ds!)(hN:ai_:=by rfl)(hv:cx!:=by first|exact Or.inl χ|exact Gk! b!|exact Gk! a4!)
  (hd:D!:=by decide)(cf:cx_:=by decide)
  (hst:starEach (ek::[e]) X.env=(θ,eval ek X.env)::CG_ [e]:=by rfl)(hst2:ho_:=by rfl)(jc:((backTo ai (CG_ [ek,e])).all cH!&&FM! cH_
   &&decide ([ek,e].length+(d7_).length+ff_<30))=true:=by rfl) (jd:d8!:=by rfl)
  (jb:Eo_ bn! "insert" kw_=Ey_ bn!:=by rfl) (je:(jO_).any b_=false:=by rfl) (gr:Er! C4_ υ=pure false:=by rfl):
  DS X own own (H8_ C4_) (Xe i fk f):=⟨by
  rintro G0 F0 hb s Z H E I ⟨G,ρ,r,er,e',k⟩;exact JD! (yM SJ PySem.F.slot_list_insert PySem.F.type_list_insert b5d kb! (cX hk.ok (cX h.ok fM hst2) hst) jb jc jd hst je);let#[z,e1,e4]:=KH.mp e';let#[d,e3,e2]:=KH.mp e4;clear e' e4;let#[p,ds,vs,Y,h2,h3,h4,h5]:=I9! i;rw[Y]at e2;cases z<;>first|(rcases e2;done)|skip
  rename_i j;simp only at e2;split at e2
  .rename_i hj;rcases e2;exact#[fA!,h2,pj!,G,ρ,_,er.or,e1,λv G' H' x r=>#[G',ρ,d,er.or.grow x,e3,λv2 G2 H2 x2 r2=>?_]];obtain rfl:=bA r;let hl:=aL h5;exact#[p,vs,j.toNat,v2,χ,?_,y3_,i!,by rw[<-hl];exact LQ hj.2.2 (dL v!),?_]
   .rw[Int.toNat_of_nonneg hj.1]
   .let h6:=(pk_).mono x2.g;exact KC! (dJ (qX _ h6) (Gt! r2 (qY _ h6)))
  .rcases e2⟩
section
variable{p p2 pos:Pos}
def Ym(i:δ)(f:WE):WS:=λρ M R=>f ρ M λd M1=>Ih! M1 λq=>match ρ[i]? with
 |some (some (.lst ds))=>f_+f0!<=big/\R (.nx (KW_ (o8! (ds++q.2)))) M1
 |_=>False
def b5f(b8:ef!:=by decide)(h:bK!)(hN:ai_:=by rfl)(hv:cx!:=by first|exact Or.inl χ|exact Gk! b!|exact Gk! a4!)
  (hd:D!:=by decide)(cf:cx_:=by decide)
  (hst:ho_:=by rfl)(jc:(Hd_ jO_&&FM! cH_
   &&decide yW_)=true:=by rfl) (jd:d8!:=by rfl)
  (jb:Eo_ bn! "extend" kw_=Ey_ bn!:=by rfl) (je:hp!:=by rfl) (gr:Er! C5! υ=pure false:=by rfl):
  MS X own own (H8_ C5!) (Ym i f):=
 pN (tH (yM SJ PySem.F.slot_list_extend PySem.F.type_list_extend b5e kb! yY! jb jc jd hst je) gr) λM0 G0 F0 E Z G H ρ M R sr e' k1 k2=>by
  let#[p,ds,vs,Y,h2,h3,h4,h5]:=sr.st.or.own_ i b8;exact#[fA!,h2,pj!,G,ρ,M,_,sr.st,e',Ck!];let#[#[c,zs],e1,r]:=dC r;let#[z1,z2,z3,us,h6,h7]:=wW m q e1;subst z2;rw[Y]at r;let fm:=sr.grow x m;let#[p',si,ij,g1,g2,g3,g4,g5]:=fm.st.or.own_ i b8;rw[h2]at g2;cases g2;rw[Y]at g1;cases g1;exact#[p,c,ij,us,χ,χ,g3,h6,?_,k1 _ M' G' Z _ r.2 (fm.after (fm.sr.upd b8 h2 (dJ g5 h7)))];let:=r.1;rw[<-aL g5,<-aL h7];exact dL this
def Oo(s0:Str)(fa:WE):WE:=λρ M R=>fa ρ M λy M2=>Di (Kk (.str s0) y) λd=>R d M2
def b2e(ha:av_)
  (jb:Eo_ lP! "join" (Ey_ lP!)=Ey_ lP!:=by rfl)
  (jc:(Hd_ pD!&&FM! cH_
   &&decide pD_)=true:=by rfl)
  (jd:d8!:=by rfl) (hs:kq_:=by rfl) (je:hp!:=by rfl):
  ME X own (L3! lP!) (Oo s0 fa):=
 fF (EO! a0s) λZ G H Q ρ M R st e k=>⟨χ,G,ρ,M,_,st,e,λy M2 w G2 H2 r2 x2 m2 q2=>by
  let#[d,e3,r3]:=dC r2;cases y<;>first|(rcases e3;done)|skip
  rename_i xs;let#[ys,e4,e5]:=KH.mp (show((Oq xs).bind λys=>if(kJ_).sum+aj_*s0.length<=big then ψ (.str (Txt.join s0 ys))else υ)=ψ d from e3);split at e5
  .rename_i hl;rcases e5;let#[p,vs,rfl,q,rr]:=bW q2;let:=uO rr e4;subst this;exact#[_,p,ys,χ,χ,x2.sub.seq q,LX hl a_,k _ M2 _ G2 H2 r3 x2 m2 Ao.str]
  .rcases e5⟩
def Vb(fs:WA)(fb:WE):WE:=λρ M R=>fs ρ M λds M1=>f_<=1000/\fb ρ M1 λy M2=>match y with
 |.int k=>C7!/\∀p,M2 p=υ->R u! (mup M2 p C7_)
 |_=>False
def a6d{p:sS!}{o:HO}(s:J_)(hp:cN_):Bz G H G fq!:=#[fq_,iW hp,s.trans (iW hp),dv!]
def uQ{KF:zR!}(r:kt_):∀k:Nat,An KF G (En! k ds).flatten (En! k vs).flatten
 |0=>An.nil
 |k+1=>by
  rw[PX,PX,PU,PU];exact dJ r (uQ r k)
def c6m(ha:fV!)(J:cr_):En_ C8_ (Vb fs fb):=
 fF C9! λZ G H Q ρ M R st e k=>⟨G,ρ,M,_,st,e,λds M1 vs G1 H1 r1 x1 m1 q1=>⟨by rw[<-aL q1];exact fG r1.1,λp hp=>by
  let xj:Bz G1 H1 G1 C9_:=a6d x1.sub hp;let hM:=JH_ hp;exact Da!;cases y<;>first|exact r2.elim|skip
  rename_i n;obtain rfl:=bA q2;let#[#[hn,ji,hl],r2]:=r2;let tz:=x2.keep p _ cC hM;exact Da_;let zz:=Fq! Db_ x2 q4!;exact k _ _ _ G2 _ (r2 c (m2.nocell hc)) (zz.trans (.laid x2.sub hc) m2) (m2.laid hc x2.sub #[_,cC,uQ b6! _]) Ao.fn⟩⟩
end
nonrec def rk(r:q5!)(xs:lQ!)(i:δ):Int:=(xs[i]?.map r).getD 0
def b7p(hs:c<xs.size)(hd:d<=c)(k:δ):Ii! (bubble xs c d)=if k=c - d then G3! c else if c - d<k/\k<=c then G3! (k - 1) else Ii! xs:=by
 delta rk;rw[getElem?_bubble hs d hd k];split
 .rfl
 .split<;>rfl
def a7w(hj:j<=xs.size)(k:δ):Ii! Dc!=if i<=k/\k<j then G3! (i+j - 1 - k) else Ii! xs:=by delta rk;rw[getElem?_mirror_all hj k];split<;>rfl
def oY(hj:j<=xs.size)(he:∀k,i<=k->k<j->G3! k=G3! ez_)(k:δ):Ii! Dc!=Ii! xs:=by
 rw[a7w hj];by_cases h:i<=k/\k<j
 .rw[KQ h,he _ a! a!,he k h.1 h.2]
 .rw[LB h]
def Up(r:q5!)(xs:lQ!)(n:δ):Prop:=∀i j,i<=j->j<n->G3! i<=G3! j
def Dn(r:q5!)(xs:lQ!)(n:δ):Prop:=∀i j,i<=j->j<n->G3! j<=G3! i
structure SB(kd:SortKind)(a0:lQ!)(st:SortSt):Prop where
 pm:(E_).Perm a0
 kn:kindOf st=kd
 fl:Ge_ st=υ
 pd:Ii_ st=#[]
def SB.sz{st:SortSt}(h:cu!):(E_).size=a0.size:=h.pm.size_eq
def SB.put{st:SortSt}(h:cu!)(hp:xs.Perm E_):Hi! (setArr st xs):=#[hp.trans h.pm,h.kn,h.fl,h.pd]
section
variable{prog:zH!}{w:zF!}{A:xy!}{s:zP!}{a0:Array Keyed}{kd:SortKind}{r:Keyed->Int}
variable (prog w A s a0 kd r)in
def Tj:Prop:=∀(x y:Keyed) (F:V_) (Q:Bool->Shared->ν),x∈ik!->y∈ik!->E2_ Q (r x<r y) s->E9! (keyLt' kd x.1 y.1) Q F s
def b7i{st:SortSt}(hl:dH_)(b:cu!)(hi:i<a0.size)(hj:j<a0.size)(h:Q (E2_ ψ (rk r E_ i<rk r E_ j)) st):EU! (ltAt' i j):=by
 let at_:∀k,k<a0.size->∃p,E_[k]?=ψ p/\p∈ik!/\Ii! E_=r p:=λk hk=>by
  let c9:k<(E_).size:=by rw[b.sz];exact hk
  exact#[E_[k],Dd!,(HQ_ b.pm).mem_iff.mp c_,?_];delta rk;rw[Dd!];rfl
 let#[x,ex,mx,rx]:=at_ i hi;let#[y,ey,my,ry]:=at_ j hj;rw[rx,ry]at h;rw[ltAt'_eq];exact OD f4_;show EU! (elem' E_ i>>=λx=>elem' E_ j>>=λy=>lt' x y);rw[elem'_eq,elem'_eq,ex,ey];exact OD (QE (OD (QE ?_)));rw[lt'_eq];exact OD f4_;rw[b.kn];exact OD (wpS_lift (SC (hl x y _ _ mx my #[χ,QE h])))
def c8v{st:SortSt}(hl:dH_)(hn:f5!)(ha:1<=a)(z6:a<=n)(b:cu!)(hu:Up r E_ a)
  (h:∀m,a<=m->m<=n->Up r E_ m->(m=n\/rk r E_ m<rk r E_ lR_)->Q (υ,m) st):EU! (ascLoop a n):=by
 delta ascLoop;exact UU (I:=λx c ac=>ac=st/\c=(υ,x)/\Up r E_ x) ?_ ?_ (Je! hu)
 .rintro x c ac Y h2 ⟨rfl,rfl,u⟩;exact OD (b7i hl b (LQ h2 hn) a! ?_);by_cases q:Fx_ x<Fx_ il_
  .rw[LM q];exact QE (h x Y (QX h2) u (.inr q))
  .rw[LD q];exact QE (Je! Dd_);obtain h5|h5:=PR j x
   .exact u i j h3 h5
   .let:j=x:=by omega
    subst this;obtain h6|h6:=PR i j
    .let:=Ij! u;omega
    .let:i=j:=by omega
     rw[this];exact OP _
 .rintro c ac ⟨rfl,rfl,u⟩;rw[show max a n=n by omega]at u ⊢;exact h n z6 v! u aw_
def b7f{st:SortSt}(hl:dH_)(hn:f5!)(Y:1<=m)(hm:m<=n)(b:cu!)(hd:Dn r E_ m)
  (h:q9_):EU! (tail3 m n):=by
 delta tail3;let b':Hi! (setArr st (mirror E_ 0 m ((m - 0) / 2))):=b.put lT!;let hz:m<=(E_).size:=by rw[b.sz];omega
 exact Gk_ (OD (c8v hl hn Y hm b' (λi j h3 h4=>?_) λk h3 h4 u _=>QE (h k _ b' a! h4 u)));rw[a7w hz,a7w hz,ad!,ad!];exact hd _ _ a! a!
def d0q{st:SortSt}(hl:dH_)(hn:f5!)(Y:1<=m)(hm:m<=n)(b:cu!)(hd:Dn r E_ m)
  (h:∀k q ac,Hi! ac->m<=k->k<=n->Dn r z_ k->q+1<=k->(∀i,k - (q+1)<=i->i<k->rk r z_ i=rk r z_ (k - 1))->Q (υ,k,q) ac):EU! (descLoop m n):=by
 delta descLoop;exact UU (I:=λx c ac=>∃q,c=(υ,x,q)/\Hi! ac/\Dn r z_ x/\q+1<=x/\∀i,x - (q+1)<=i->i<x->Fx_ i=Fx_ il_) ?_ ?_ #[0,χ,b,hd,i!,λi h2 h3=>by rw[show i=m - 1 by omega]]
 .rintro x c ac h2 h3 ⟨q,rfl,b',d,hq,he⟩;let hz:x<=(z_).size:=by rw[b'.sz];omega
  exact H1! (LQ h3 hn) De!;by_cases p:Fx_ x<Fx_ il_
  .rw[LM p];let rh:∀xs:Array Keyed,(∀k,rk r xs k=rk r z_ k)->Dn r xs (x+1):=λxs hk i j h4 h5=>by
    rw[hk,hk];obtain h6|h6:=PR j x
    .exact d i j h4 h6
    .let:j=x:=by omega
     subst this;obtain h7|h7:=PR i j
     .let:=Ij! d;omega
     .show"#?"
   by_cases vf:q>0
   .simp only[NR,vf];exact Gk_ (QE #[0,χ,b'.put lT!,rh _ (oY hz he),i!,De_])
   .simp only[NR,vf,NJ];exact QE #[0,χ,b',rh _ λ_=>χ,i!,De_]
  .rw[LD p];dsimp only[Bool.false_eq_true,if_false];exact H1! De! (LQ h3 hn);by_cases p2:Fx_ il_<Fx_ x
   .rw[LM p2];exact QE (h x q ac b' h2 (QX h3) d hq he)
   .rw[LD p2];let ex:Fx_ x=rk r z_ il_:=by omega
    exact QE #[q+1,χ,b',λi j h4 h5=>?_,i!,λi h4 h5=>?_]
    .obtain h6|h6:=PR j x
     .exact d i j h4 h6
     .let:j=x:=by omega
      subst this;obtain h7|h7:=PR i j
      .rw[ex];exact Ij! d
      .show"#?"
    .rw[show x+1 - 1=x by omega];obtain h6|h6:=PR i x
     .rw[ex];exact he i a! h6
     .rw[show i=x by omega]
 .rintro c ac ⟨q,rfl,b',d,hq,he⟩;rw[show max m n=n by omega]at d hq he ⊢;exact h n q ac b' hm v! d hq he
def b7h{st:SortSt}(hl:dH_)(hn:f5!)(hm:m+1<=n)(b:cu!)(hd:Dn r E_ aC!)
  (h:q9_):EU! (descPart m n):=by
 delta descPart;exact H1_ (d0q hl hn a! hm b hd λk q ac b' Y h2 d hq he=>?_);by_cases vf:q>0
 .simp only[NR,vf];exact Gk_ (b7f hl hn a! h2 (b'.put lT!) (λi j h4 h5=>?_) h);let hz:k<=(z_).size:=by rw[b'.sz];omega
  rw[oY hz he,oY hz he];exact d i j h4 h5
 .simp only[vf,NJ];exact b7f hl hn a! h2 b' d h
def c4s{st:SortSt}(hl:dH_)(hn:f5!)(Y:1<=n)(b:cu!)(h:q9_):
  wpS n! A E s (countRun' 0 n) Q st:=by
 rw[countRun0_eq];exact OD (c8v hl hn (LJ 1) Y b (λi j h3 h4=>by rw[f5_];exact OP _) λm h3 h4 u hor=>?_);by_cases e:m=n
 .simp only[OT,e,NR];rw[<-e];exact QE Dh!
 .let av:=hor.resolve_left e;simp![OT,e,NJ];by_cases hg:m>1
  .simp only[hg,NR];exact OD (b7i hl b a! a! ?_);by_cases p:rk r E_ 0<rk r E_ lR_
   .rw[LM p];exact QE Dh!
   .rw[LD p];let vg:∀k,0<=k->k<m->Ii! E_=rk r E_ lR_:=λk _ hk=>by
     let a1:=u 0 k a! hk;let a2:=u k lR_ a! a!;omega
    let hz:m<=(E_).size:=by rw[b.sz];omega
    exact Gk_ (b7h hl hn a! (b.put lT!) Dh_ h);rw[oY hz vg,oY hz vg];obtain h7|h7:=PR j m
    .rw[vg i a! a!,vg j a! h7];exact OP _
    .let:j=m:=by omega
     subst this;obtain h8|h8:=PR i j
     .rw[vg i a! h8];omega
     .show"#?"
  .simp only[hg,NJ];let:m=1:=by omega
   subst this;exact b7h hl hn a! b Dh_ h;obtain h8|h8:=PR i j
   .rw[show i=0 by omega,show j=1 by omega];exact VV av
   .show"#?"
def d2c{lo hi k x n:δ}(h:¬lo>=hi)(g2:hi<=k)(g3:hi - lo<=k - x)(hk:k<n):lo<=bM! / 2/\bM! / 2<hi/\bM! / 2<k/\bM! / 2<n/\bM! / 2 - lo<=k - (x+1)/\hi - (bM! / 2+1)<=k - (x+1):=by
 let e1:lo<=bM! / 2:=by omega
 let e2:bM! / 2<hi:=by omega
 generalize bM! / 2=m at *;let e3:=LQ e2 g2;exact#[e1,e2,e3,VT e3 hk,Nat.le_sub_one_of_lt (LQ (Nat.sub_lt_sub_right e1 e2) g3),Nat.le_sub_one_of_lt (LQ (Nat.sub_lt_sub_left (Nat.not_le.mp h) (Nat.lt_succ_of_le e1)) g3)]
def d5f{st:SortSt}(hl:dH_)(hn:f5!)(hk:k0<=n)(b:cu!)(hu:Up r E_ k0)(h:∀ac,Hi! ac->Up r z_ n->Q τ ac):
  wpS n! A E s (binarySort' 0 n k0) Q st:=by
 rw[binarySort'_eq];simp![TJ];exact OD (wpS_mono (UU (I:=λk c ac=>c=hT!/\SB kd a0 ac/\Up r z_ (min k n)) (Q:=λc ac=>c=hT!/\SB kd a0 ac/\Up r z_ n) ?_ ?_ #[χ,b,Dd_]) ?_)
 .rintro k c ac h2 h3 ⟨rfl,b',u⟩;rw[show min k n=k by omega]at u;let nh:k<a0.size:=by omega
  exact OD (wpS_mono (UU (I:=λx c cj=>cj=ac/\∃lo hi,c=(υ,lo,hi)/\lo<=hi/\hi<=k/\hi - lo<=k - x/\Dj!/\∀i,hi<=i->i<k->Fx_ k<Fx_ i)
   (Q:=λc cj=>cj=ac/\∃lo hi,c=(υ,lo,hi)/\lo<=k/\Dj!/\∀i,lo<=i->i<k->Fx_ k<Fx_ i) ?_ ?_ #[χ,0,k,χ,i!,i!,i!,λi hi=>by omega,λi h4 h5=>by omega]) ?_)
  .rintro x c cj h4 h5 ⟨rfl,lo,hi,rfl,g1,g2,g3,g4,g5⟩;dsimp only;by_cases z7:lo>=hi
   .rw[KQ z7];let:lo=hi:=by omega
    subst this;exact QE Dj_
   .rw[LB z7];let#[m1,m2,m3,m4,m5,m6]:=d2c z7 g2 g3 nh;exact H1! nh m4;by_cases p:Ii! rc_<rk r rc_ rd!
    .rw[LM p];exact QE #[χ,lo,bM! / 2,χ,m1,QX m3,m5,g4,λi h6 h7=>Int.lt_of_lt_of_le p (u rd! i h6 h7)]
    .rw[LD p];exact QE #[χ,bM! / 2+1,hi,χ,m2,g2,m6,λi h6=>Int.le_trans (u i rd! (Nat.le_of_lt_succ h6) m3) (Int.not_lt.mp p),g5]
  .rintro c cj ⟨rfl,lo,hi,rfl,g1,g2,g3,g4,g5⟩;let:lo=hi:=by omega
   subst this;exact Dj_
  .rintro c cj ⟨rfl,lo,hi,rfl,g1,g4,g5⟩;rw[moveDown'_eq];exact OD (wpS_modify (QE #[χ,b'.put (bubble_perm _ _ _),λi j h6 h7=>?_]));rw[show min R_ n=k+1 by omega]at h7;let qk:k<(rc_).size:=by rw[b'.sz];exact nh
   rw[b7p qk a!,b7p qk a!,show k - (k - lo)=lo by omega];let n1:=g4;let n2:=g5;by_cases ei:i=lo
   .rw[KQ ei];by_cases ej:j=lo
    .rw[KQ ej];exact OP _
    .rw[LB ej];by_cases fj:lo<j/\j<=k
     .rw[KQ fj];exact VV (n2 ez_ a! a!)
     .omega
   .rw[LB ei];by_cases fi:lo<i/\i<=k
    .rw[KQ fi,d3_,ad!];exact u (i - 1) ez_ a! a!
    .rw[LB fi];by_cases ej:j=lo
     .rw[KQ ej];exact n1 i a!
     .rw[LB ej];by_cases fj:lo<j/\j<=k
      .rw[KQ fj];exact Ij! u
      .rw[LB fj];exact u i j h6 a!
 .rintro c ac ⟨e,b',u⟩;rw[show min (max (max k0 1) n) n=n by omega]at u;exact#[e,b',u]
 .by_cases h0:k0=0
  .show"#?"
  .exact hu i j h3 a!
 .rintro c ac ⟨rfl,b',u⟩;exact QE (h ac b' u)
def b7g{st:SortSt}(hl:dH_)(b:cu!)(h2:2<=a0.size)(qm:a0.size<64)
  (h:∀ac,JJ! a0->Ge_ ac=υ->HI_ z_->Q () ac):EU! sortRuns':=by
 rw[sortRuns'_eq];exact OD f4_;let hmr:minRun' a0.size a0.size 0=a0.size:=by
  let:∀f,minRun' (f+1) a0.size 0=a0.size:=λf=>by rw[minRun'_succ,KQ qm];rfl
  let q:=this (a0.size - 1);rwa[show a0.size - 1+1=a0.size by omega]at q
 dsimp only;simp![b.sz,hmr];let fin:∀{ac:SortSt},Hi! ac->HI_ z_->(arrOf lW_).Perm a0/\Ge_ lW_=υ/\Ii_ lW_=[lV_].toArray/\HI_ (arrOf lW_):=
  λ{ac} b' u=>#[b'.pm,b'.fl,by show(Dl!).push _=_;rw[b'.pd];rfl,u]
 exact OD (wpS_mono (UU (I:=λx c ac=>(x=0/\c=(υ,0)/\SB kd a0 ac)\/(1<=x/\c=Dl_/\(z_).Perm a0/\failedOf ac=υ/\pendingOf ac=[lV_].toArray/\Up r z_ a0.size))
  (Q:=λc ac=>c=Dl_/\JJ! a0/\Ge_ ac=υ/\Ii_ ac=[lV_].toArray/\HI_ z_) ?_ ?_ (.inl (Je! b))) ?_)
 .rintro x c ac _ hx (⟨rfl,rfl,b'⟩|⟨_,rfl,d⟩)
  .dsimp only;rw[d3_];simp![Nat.sub_zero,Nat.min_self,TJ];exact OD (c4s hl v! a! b' λm cj b2 g1 g2 u2=>?_);by_cases av:m<a0.size
   .simp only[av,NR];exact H1_ (d5f hl v! g2 b2 u2 λwm b3 u3=>?_);simp![QZ,MJ,NJ];exact OD f4_;rw[show(Ii_ wm).back?=υ by rw[b3.pd];rfl];exact Gu_ b3 u3
   .simp only[av,NJ];let:m=a0.size:=by omega
    subst this;exact OD f4_;rw[show(Ii_ cj).back?=υ by rw[b2.pd];rfl];exact Gu_ b2 u2
  .dsimp only;rw[KQ v!];exact QE #[χ,d]
 .rintro c ac (⟨hx,_⟩|⟨_,e,d⟩)
  .omega
  .exact#[e,d]
 .rintro c ac ⟨rfl,d1,d2,d3,d4⟩;exact OD (wpS_mono (UU (I:=λ_ c cj=>cj=ac/\c=hT!) ?_ Do_ aK_) ?_)
  .rintro x c cj _ _ ⟨rfl,rfl⟩;exact OD f4_;rw[KQ (by rw[d3];exact LJ 1)];exact QE aK_
  .rintro c cj ⟨rfl,rfl⟩;exact QE (h _ d1 d2 d4)
end
abbrev AX:Bool->SortKind:=sortPriv%PySem.Builtin.KeyKind.tuples
def Gg(h:Heap)(v:yg!)(a b:Int):Prop:=∃(p:sS!) (o:Obj) (n:δ) (t u:Tok),v=.ref p/\h.get? p=ψ o/\o.cls=.type "tuple"/\o.data=.seq [.int a t,.int b u].toArray n
def EA(a b c d:Int):Bool:=if a=c then decide (b<d)else decide (a<c)
def yP(h:E2_ Q (a<b) s):Kw_ (oneLt' f gK_ (.int b u)):=by
 cases f with
 |true=>exact oneLt_int h
 |false=>
  rw[oneLt'_eq];rw[LB LU];exact KG (show wpAny n! A (compareOp .Lt gK_ (.int b u)) _ E s from PyProof.Rows.lt_int ?_);exact ND h
def wH(hx:Fb! Gg x a b)(hy:Fb! Gg y c d)(h:Q (EA a b c d) s):Kw_ (keyLt' (AX f) x y):=by
 let#[p,o,n,t,u,rfl,Y,_,h2]:=hx;let#[p',o',n',t',u',rfl,j4,_,jf]:=hy;exact KG (UV Y h2 (KG (UV j4 jf gz_)));show E9! (forIn [((Value.int a t,Value.int c t'),0),((Value.int b u,Value.int d u'),1)] _ _) _ E s;rw[RI];exact KD! (UE a t c t' _ _ _ _ ?_);delta EA at h;by_cases e:a=c
 .rw[KQ e]at h;let e1:(a==c)=true:=by simpa using e
  rw[e1];dsimp only[Bool.not_true,Bool.false_eq_true,if_false];exact KJ ?_;dsimp only;rw[RI];exact KD! (UE b u d u' _ _ _ _ ?_);by_cases e2:b=d
  .let e3:(b==d)=true:=by simpa using e2
   rw[e3];dsimp only[Bool.not_true,Bool.false_eq_true,if_false];exact KJ ?_;dsimp only;rw[US];exact KJ Y_;let e4:decide (b<d)=false:=by rw[e2];simp
   rw[e4]at h;simpa using h
  .let e3:(b==d)=false:=by simpa using e2
   rw[e3];show"!e"
 .rw[LB e]at h;let e1:(a==c)=false:=by simpa using e
  rw[e1];show"!e"
def b0e:∀(xs:aa_),Dq!->(J7_ Q ys.toArray)->Kw_ (xs.toArray.mapM f):=by
 intro xs hf hq;rw[Array.mapM_eq_mapM_toList];let m8:∀(xs:aa_) (R:μ β->Shared->ν),Dq!->(J7_ R ys)->E9! (xs.mapM f) R E s:=by
  intro xs
  induction xs with
  |nil=>
   intro R _ h;rw[List.mapM_nil];exact KJ (h [] .nil)
  |cons x xs ih=>
   intro R Y h2;rw[List.mapM_cons];exact KG (Y x KM _ λy hy=>KG (ih _ (λz hz=>Y z rf_) λys t0=>KJ (h2 _ (.cons hy t0))))
 let:(List.toArray<$>xs.toArray.toList.mapM f:Sem (Array β))=(xs.toArray.toList.mapM f>>=λl=>pure l.toArray):=by rw[map_eq_pure_bind]
 rw[this];exact KG (m8 _ _ (Ep! hf) λys t0=>KJ (hq ys (Ep! t0)))
def a5j(h:∀v∈vs,∃a b,Fb! Gg v a b)(h0:vs≠[])(hq:Q (AX τ) s):Kw_ (keyKind' cF_):=by
 exact KG (b0e (F:=λ_ y=>∃a t,y=ψ lY!) vs Ds! λys t0=>?_)
 .let#[a,b,p,o,n,t,u,rfl,Y,h2,h3]:=h v hv;exact FU_ UX o0!;rw[LB a_];exact KG (UV Y h3 (KJ (hR _ #[a,t,χ])))
 .let mf:∀y∈ys,∃a t,y=ψ lY!:=by
   let m8:∀{l:n_} {m:μ vT_},E6! (λ_ y=>∃a t,y=ψ lY!) l m->∀y∈m,∃a t,y=ψ lY!:=by
    intro l m hp
    induction hp with
    |nil=>intro y hy;exact(KN hy).elim
    |cons q _ ih=>
     intro y hy;obtain rfl|hy:=KR.mp hy
     .exact q
     .exact ih y hy
   exact m8 t0
  let hne:ys≠[]:=λz=>by subst z;cases t0;exact h0 χ
  rw[KQ (by rw[List.all_toArray,OC];intro y hy;let#[a,t,rfl]:=mf y hy;rfl)];exact KG fI_;let hints:∀v∈(Du!).toList,∃a t,v=Value.int a t:=λv hv=>by
   simp![List.filterMap_toArray,RE,id]at hv;let#[y,hy,e]:=hv;let#[a,t,e2]:=mf y hy;rw[e2]at e;exact#[a,t,(MQ e).symm]
  let hz:(Du!).toList≠[]:=λz=>by
   cases ys with
   |nil=>exact hne χ
   |cons y r=>
    let#[a,t,rfl]:=mf y KM;simp at z
  generalize hZ:ys.toArray.filterMap id=Z at hints hz ⊢;let#[zs]:=Z;exact KG ?_;exact KG (b0e (F:=λ_ y=>y=Value.type "int") zs Ds! λts ZK=>?_)
  .let#[a,t,rfl]:=hints v jq_;exact UX (typeIs_int s a t) (hR _ χ)
  .let ZL:∀t∈ts,t=Ht_ "int":=by
    let m8:∀{l m:n_},E6! (λ_ y=>y=Value.type "int") l m->∀y∈m,y=Ht_ "int":=by
     intro l m hp
     induction hp with
     |nil=>intro y hy;exact(KN hy).elim
     |cons q _ ih=>
      intro y hy;obtain rfl|hy:=KR.mp hy
      .exact q
      .exact ih y hy
    exact m8 ZK
   cases ts with
   |nil=>cases ZK;exact Ew! hz
   |cons t r=>
    let ht:=ZL t KM;subst ht;let e1:((Dw!).toArray)[0]?=ψ (Ht_ "int"):=χ;rw[e1];let e2:((Dw!).toArray.all λx=>x==Value.type "int")=true:=by
     rw[List.all_toArray,OC];intro y hy;rw[ZL y hy];rfl
    dsimp only;rw[KQ e2];exact LW! hq
def Jv(p q:Int×Int):Bool:=EA p.1 p.2 q.1 q.2
def pQ:Jv p q=τ↔(p.1<q.1\/(p.1=q.1/\p.2<q.2)):=by
 delta Jv EA;split
 .rename_i h;rw[LV];omega
 .rename_i h;rw[LV];omega
def b2g(p:Int×Int):Jv p p=false:=by
 cases h:Jv p p with
 |false=>rfl
 |true=>let:=pQ.mp h;omega
def kD(Y:Jv p q=τ)(h2:Jv q r=τ):Jv p r=true:=by rw[pQ]at Y h2 ⊢;omega
def a1k(h:p≠q)(Y:Jv p q=θ):Jv q p=true:=by
 let j4:¬Jv p q=true:=by rw[Y];decide
 rw[pQ]at j4 ⊢;let:¬(p.1=q.1/\p.2=q.2):=λz=>h (Prod.ext z.1 z.2);omega
section
variable(kf:α->Int×Int)
def Pm(x:α):μ α->μ α
 |[]=>[x]
 |y::r=>if Je_ kf then x::y::r else y::Pm x r
def Hz:μ α->μ α
 |[]=>[]
 |x::r=>Pm kf x (Hz r)
def Mt(l:aa_):Prop:=l.Pairwise λx y=>Je_ kf=τ
variable {kf}
def rP(x:α):∀l:List α,(Pm kf x l).Perm (x::l)
 |[]=>SV _
 |y::r=>by
  delta Pm;split
  .exact SV _
  .exact((rP x r).cons y).trans (List.Perm.swap x y r)
def bU:∀l:List α,(Hz kf l).Perm l
 |[]=>SV _
 |x::r=>(rP x _).trans ((bU r).cons x)
def wO:∀{l:aa_},Mt kf l->(∀y∈l,kf x≠kf y)->Mt kf (Pm kf x l)
 |[],_,_=>UC _ _
 |y::r,h,hn=>by
  delta Pm;delta Mt at h;rw[OG]at h;split
  .rename_i av;exact OG.mpr #[ri!,OG.mpr h];obtain rfl|hz:=KR.mp hz
   .exact av
   .exact kD av (h.1 z hz)
  .rename_i av;exact OG.mpr #[ri!,wO h.2 λz hz=>hn z rf_];obtain rfl|hz:=KR.mp ((rP x r).mem_iff.mp hz)
   .exact a1k (hn y KM) A4_
   .exact h.1 z hz
def gS:∀{l:aa_},(l.map kf).Nodup->Mt kf (Hz kf l)
 |[],_=>jQ!
 |x::r,h=>by
  rw[LA,LO]at h;exact wO (gS h.2) λy hy e=>h.1 ?_;rw[e];exact LK (IW! r hy)
def lO:∀{l m:aa_},Mt kf l->Mt kf m->l.Perm m->l=m
 |[],m,_,_,h=>(List.Perm.nil_eq h)
 |x::l,m,Y,h2,h=>by
  cases m with
  |nil=>exact Ei_ h.length_eq nofun
  |cons y m=>
   let e:x=y:=by
    obtain e|hx:=KR.mp (h.mem_iff.mp KM)
    .exact e
    .obtain e|hy:=KR.mp (h.symm.mem_iff.mp KM)
     .exact e.symm
     .let a1:=(OG.mp Y).1 y hy;let a2:=(OG.mp h2).1 x hx;let:=kD a1 a2;rw[b2g]at this;exact Eg_ this
   subst e;rw[lO (OG.mp Y).2 (OG.mp h2).2 ((List.perm_cons x).mp h)]
def b8s(h:l.Perm m):∀{L:aa_},m=L.map f->∃L':List α,L'.Perm L/\L'.map f=l:=by
 induction h with
 |nil=>intro L e;exact#[[],by rw[List.map_eq_nil_iff.mp e.symm],χ]
 |cons x _ ih=>
  intro L e;cases L with
  |nil=>cases e
  |cons y L=>
   injection e with e1 e2
   let#[L',Y,h2]:=ih e2;exact#[y::L',Y.cons y,by rw[LA,h2,e1]]
 |swap x y l=>
  intro L e
  match L,e with
  |a::b::L,e=>
   injection e with e1 e2
   injection e2 with e3 e4
   exact#[b::a::L,List.Perm.swap a b L,by rw[LA,LA,<-e1,<-e3,<-e4]]
 |trans _ _ ih1 ih2=>
  intro L e;let#[L2,Y,h2]:=ih2 e;let#[L1,h3,h4]:=ih1 h2.symm;exact#[L1,h3.trans Y,h4]
def Jr(ks:μ eB_)(k:Int×Int):Int:=((ks.filter λx=>Jv x k).length:δ)
def qV(hp:p∈ks)(h:Jv p q=τ):Jr ks p<Jr ks q:=by
 delta Jr;let m8:∀l:List eB_,(DA!).length<=(DA_).length:=by
  intro l
  induction l with
  |nil=>simp
  |cons x l ih=>
   simp![UG];by_cases hx:Jv x p=τ
   .simp only[hx,kD hx h,NR,KW];omega
   .by_cases hy:Jv x q=τ
    .simp only[hx,hy,NR,KW];show"#>";omega
    .simp only[hx,hy];show"#>";exact ih
 let aux2:∀l:List eB_,p∈l->(DA!).length<(DA_).length:=by
  intro l hl
  induction l with
  |nil=>cases hl
  |cons x l ih=>
   obtain e|hl:=KR.mp hl
   .subst e;let:=m8 l;simp![UG,b2g,h,NR,KW,MJ,NJ];omega
   .let:=ih hl;simp![UG];by_cases hx:Jv x p=τ
    .simp only[hx,kD hx h,NR,KW];omega
    .by_cases hy:Jv x q=τ
     .simp only[hx,hy,NR,KW];show"#>";omega
     .simp only[hx,hy];show"#>";show"#;"
 let:=aux2 ks hp;omega
def b0z(hp:p∈ks)(hq:q∈ks):decide (Jr ks p<Jr ks q)=Jv p q:=by
 cases h:Jv p q with
 |true=>exact LM (qV hp h)
 |false=>
  exact LD λz=>?_;by_cases e:p=q
  .subst e;omega
  .let:=qV hq (a1k e h);omega
end
section
open Classical
def Gg.inj(x:Jf! v)(y:Gg h v c d):(a,b)=(c,d):=by
 let#[p,o,n,t,u,rfl,Y,_,h2]:=x;let#[p',o',n',t',u',e,j4,_,jf]:=y;cases e;rw[Y]at j4;rcases j4;rw[h2]at jf;injection jf with h3 _
 let:=KR_ h3;simp at this;rw[this.1.1,this.2.1]
def Mp(h:Heap)(v:yg!):Int×Int:=if x:∃a b,Jf! v then(x.choose,x.choose_spec.choose)else(0,0)
def pW(x:Jf! v):Mp h v=(a,b):=by let z:∃a b,Jf! v:=#[a,b,x];delta Mp;rw[dif_pos z];exact z.choose_spec.choose_spec.inj x
def sC(ha:ik!=L.map b_)(hk:∀q∈L,Gg h q.1.1 (kf q.2).1 (kf q.2).2)(nd:(rj_).Nodup)(hp:vh.Perm a0)
  (hu:Up DB_ vh a0.size):∃L':List (Keyed×D),L'.Perm L/\vh.toList=IW_ b_/\IW_ F!=Hz kf rj!:=by
 let bn:vh.toList.Perm ik!:=HQ_ hp;let#[L',Y,h2]:=b8s bn ha;exact#[L',Y,h2.symm,lO ?_ (gS nd) ((Y.map _).trans (bU _).symm)];let qo:((IW_ F!).map kf).Nodup:=(((Y.map _).map _).nodup_iff).mpr nd;delta Mt;rw[RX];intro i j hi hj ZM;let ig:i<ip_:=by simpa using hi
 let z8:j<ip_:=by simpa using hj
 let bu:a0.size=ip_:=by rw[<-OM,ha,KP,Y.length_eq]
 let ZN:∀k (c9:k<ip_),rk DB_ vh k=Jr rj_ (H2! k):=λk c9=>by
  delta rk;let e:vh[k]?=ψ L'[k].1:=by
   rw[<-RJ,<-h2,MO,LL c9];rfl
  rw[e];show Jr _ (Mp h L'[k].1.1)=_;rw[pW (hk L'[k] DC_)]
 let ll:=hu i j (QX ZM) a!;rw[ZN i ig,ZN j z8]at ll;simp![List.getElem_map];let mem:∀k (c9:k<ip_),H2! k∈(rj!).map kf:=λk c9=>LK (LK DC_);let ne:H2! i≠H2! j:=λe=>by
  let q:=(List.getElem_inj (i:=i) (j:=j) (h₀:=by simpa using ig) (h₁:=by simpa using z8) qo).mp c6_;omega
 cases av:Jv (H2! i) (H2! j)with
 |true=>rfl
 |false=>
  let:=qV (mem j z8) (a1k ne av);omega
end
def b0b(a v:yg!):argsOk "list.sort" DD!:=by delta argsOk;kernel_rfl
def a3c(a v:yg!):argsOk "sorted" DD!:=by delta argsOk;kernel_rfl
def c4w(F:K8! f sp)(hr:gC_)(J:kh!)(e0:KM_ A)
  (I:d_)(r:eN_)(h:GB! E0):GL! A (call ai! us) aR_ E s:=by
 let hl:(us++[]).length=P_:=by rw[LW,<-r.length];exact Hu_ F.len h
 let ik:=J s us I.kIn hl;rw[LW]at ik;exact HP! (F.run A X.stack s H dh! us vs Q E0 hr e0 ik r h);cases r with
 |error e=>exact hq.elim
 |ok fl=>
  cases fl with
  |ret u=>exact I.after hq
  |next=>exact EC_ hq
  |brk=>exact EC_ hq
  |cont=>exact EC_ hq
def Lh:D->Em! eB_
 |.tup [.int a,.int b]=>ψ (a,b)
 |_=>υ
def a4j(I:d_)(sub:J_)(r:b5!)(e:Lh d=ψ (a,b)):Fb! Gg u a b:=by
 delta Lh at e;show"!:"
 .cases e;let#[v,r,ru]:=r;show"!^";subst ru;show"!3";show"!x";show"#8";let#[x,y,rfl,#[t,rfl],#[u,rfl]]:=yA rv;exact#[p,o,n,t,u,χ,Y,h2,h3]
 .rcases e
def Lz(g:bZ!):μ D->KK_ eB_
 |[]=>ψ []
 |d::r=>(g [d]).bind λx=>(Lh x).bind λk=>(Lz g r).map (k::·)
def d5g(I:FT_ X (hb++[f8!,(c,oc)]))(hc:Fc! H c)(ip:a≠c)(kp:∀b o,b≠c->rX_ b=ψ o->Es! b=ψ o)(ho:Es! c=ψ z9)(hd:∀v,z9.data≠.cell v):
  Inv X (hb++[f8!,(c,z9)]) Z H {s with heap:=h',toks:=t'}:=by
 let I1:FT_ X rk_:=I.pins_of λp hp=>I.pin p (KY _ (by
  obtain z|z:=KS.mp hp
  .exact LN _ z
  .exact KY _ (by simp at z;simp[z])))
 let nj:∀b∈[c],Fg X rk_ H b:=λb J=>by
  let e:b=c:=by simpa using J
  subst e;let#[f0,f1,f2,f3,f4,f5]:=hc;exact#[f0,f1,f2,f3,f4,cv_];obtain z|z:=KS.mp hp
  .exact f5 p dP!
  .obtain z|z:=KS.mp z
   .exact f5 p iZ!
   .let:p=f8!:=by simpa using z
    rw[this];exact ip
 let I2:Inv X rk_ Z H {s with heap:=h',toks:=t'}:=iL I1 nj λb o J e=>kp b o gr_ e;exact I2.pins_of λp hp=>?_;obtain z|z:=KS.mp hp
 .exact I2.pin p (KY _ dP!)
 .obtain z|z:=KR.mp z
  .subst z;exact I2.pin _ f8_
  .let:p=(c,z9):=by simpa using z
   subst this;exact#[ho,hc.1,hc.2.1,hc.2.2.1,hd]
def zC(F:DD_)(hr:rl!)(J:kh!)(ou:P_=1)(ip:a≠c)
  (rm:∀x (R:ForInStep PUnit->Shared->ν) s,GL! X.A.in1.in1 (call ai! [x]) (λk s'=>wpAny e_ X.A.in1.in1 (Builtin.List.listUpdate bb_ (·.push k)) (λ_ s2=>R (.yield ⟨⟩) s2) E s') E s->GL! X.A.in1.in1 (body x ⟨⟩) R E s):
  ∀{ds:d!} {us:n_} {kd:d!} {ku:n_} {n:δ} {ks:μ eB_} {s:zP!} {G H:Hp},FT_ X (hb++[f8!,DE!])->Ax G H->Lz_ dJ!->E6! dJ! kd ku->Lz g ds=ψ ks->
   (∀H':Hp,H' c=υ->Fc! H' c)->ku.length+f_<=1000->
   (∀s' H' G' t3 vi n',Inv X (hb++[f8!,(c,seqObj "list" (ku++t3).toArray n')]) Z H' s'->E0_ G H->E6! (Cg X.K G') (kd++vi) (ku++t3)->E6! rl_ vi ks->Q ⟨⟩ s')->
   wpAny e_ X.A.in1.in1 (forIn us ⟨⟩ body) Q E s
 |_,_,kd,ku,n,ks,s,G,H,I,sub,.nil,pk,e,st,hl,hq=>by
  rw[US];rcases e;exact KJ (hq s H G [] [] n ?_ aM_ ?_ .nil)
  .rw[LW];exact I
  .rw[LW,LW];exact pk
 |d::ds,u::us,kd,ku,n,ks,s,G,H,I,sub,.cons r t,pk,e,st,hl,hq=>by
  show"!n";let#[v,rv,ru]:=r;rw[RI];dsimp only[List.length_cons]at hl;exact KG (rm u _ s (dM (c4w (Q:=λv' H'=>∃G',Bz G H G' H'/\Ao X.K G' x v') F hr J I.env0.in1.in1 I vn_ #[ou.symm,G,[d],x,sub,An.cons rv An.nil,e1,λv' G' H' x' r'=>#[G',x',r']]) ?_));rintro kv s1 ⟨v1,H1,I1,rk1,G1,x1,r1⟩;let pc:=I1.pin DE! f8_;exact TD pc.1 χ ?_ l1! (by simp![Array.size_push,KU];rw[NO];omega);let e4:=SL pc.1 (·.push kv);let I2:=d5g (t':=s1.toks) I1 (st H1 pc.2.1) ip (λb o J e=>FF! fe_ e) (by rw[e4,List.push_toArray]) wu!;exact zC F hr J ou ip rm I2 x1.sub (FX_ t x1.g) (nO (FX_ pk x1.g) (GN_ #[v1,r1,rk1])) e3 st BX_ λs' H' G' t3 vi n' I' x' p' k'=>?_;exact hq s' H' G' (kv::t3) (x::vi) n' ?_ (x1.trans x') ?_ (.cons e2 k')
  .rw[LZ]at I';exact I'
  .rw[LZ,LZ]at p';exact p'
def Ik(g:bZ!)(d:D):Int×Int:=((g [d]).bind Lh).getD (0,0)
def wG:∀{ds:d!} {ks:μ eB_},Lz g ds=ψ ks->ks=ds.map eD!
 |[],_,e=>by rcases e;rfl
 |d::r,ks,e=>by
  show"!n";rw[LA,<-wG e3];congr 1;delta Ik;rw[e1];show q=(Lh x).getD _;rw[e2];rfl
section
variable{X:Cx}
def a5d{P:Value->D->ν}{R:D->Value->ν}(Y:Paired P ku ds):∀{us:n_},Paired R ds us->∀q∈(l2!).zip ds,P q.1.1 q.2/\R q.2 q.1.2:=by
 induction Y with
 |nil=>intro _ _ q h;simp at h
 |cons p t ih=>
  intro _ h2 q h;cases h2 with
  |cons r u=>
   rw[TK,TK]at h;obtain rfl|h:=KR.mp h
   .exact#[p,r]
   .exact ih u q h
def jV:∀{l:μ γ},(∀q∈l,R (f q) (h q))->Paired R f9! (l.map h)
 |[],_=>.nil
 |q::r,hh=>.cons (hh q (KM ..)) (jV λz hz=>hh z rf_)
def iZ(h:Paired R l m):K!=m.length:=by
 induction h with
 |nil=>rfl
 |cons _ _ ih=>rw[KW,KW,ih]
def a4i(hp:∀d u a b,Cg X.K G d u->Lh d=ψ (a,b)->Jf! u)(Y:DJ_):∀{ds:d!},E6! rl_ kd (ds.map kf)->E6! (λv d=>Gg h v (kf d).1 (kf d).2) ku ds:=by
 induction Y with
 |nil=>intro ds h;cases ds with|nil=>exact .nil|cons=>cases h
 |cons r t ih=>intro ds h;cases ds with|nil=>cases h|cons=>cases h with|cons k u=>exact .cons (hp _ _ _ _ r k) (ih u)
def d4w{st:SortSt}{us':n_}{ku:n_}(F':FJ! E_=pu!)(hz:us'.length<64)(ZF:ku.length<64)(hf:Ge_ st=υ)(ip:a≠c)
  (gg:rn!)(nj:DK!)(I:DL_)
  (hP:∀s' n',mX_ H s'->FW! a=ψ iq_->P ir! s'):GL! A DM! P E s:=by
 let pa:=I.pin l3! f8_;let pc:=I.pin DK_ f8_;delta ksk_tail;dsimp only;rw[F'];exact KG (TD pc.1 χ ?_ l1! co!);exact Fu_ RU;let ea:(E0! c DM_).get? a=ψ ro!:=(MM _ _ (MD ip)).trans pa.1;exact IS_ seqEpoch_at ea;show"#>";exact HJ! ea l1!;rw[hf];simp![VJ,MJ,NJ];let I1:=I.unpinned;exact KJ (hP _ _ (iL (wr:=[a,c]) I1 iF! λb o J q=>?_) (SL ea λ_=>pu!))
 .obtain rfl|J:=KR.mp J
  .exact gg H pa.2.1
  .rw[l3_];exact nj H pc.2.1
 .let Y:b≠a:=λz=>J (by rw[z];exact KM ..);let h2:b≠c:=λz=>J (by rw[z];exact KI _ (KM ..));exact FF! (MD Y) ((MM _ _ (MD h2)).trans q)
def d8b{ds:d!}(qm:f_<64)(nd:(ds.map eD!).Nodup)(ip:a≠c)
  (gg:rn!)(nj:DK!)(I:DL_)(sub:J_)
  (pu:rp_)(pk:DJ_)(kk:E6! rl_ kd (ds.map eD!))
  (hP:∀s' us' n',mX_ H s'->E6! dJ! rq! us'->FW! a=ψ iq_->P ir! s'):GL! A (ksk_end a θ us.toArray e1 bb_ ku.toArray) P E s:=by
 let z:=a4i (λd u a b r q=>a4j I sub r q) pk kk;let l1:=(iZ pu).symm;let l2:=iZ z;let mem:=a5d z pu;let jq:(l4_).toList=Ej_ is!:=by
  rw[ksk_zip,DP!]
 let hd:FJ! is!=ds:=List.map_snd_zip rq_;let fin:∀{L':rr!} {st:SortSt},L'.Perm is!->(E_).toList=IW_ b_->IW_ F!=Hz eD! ds->Ge_ st=υ->GL! A DM! P E s:=λ{L' st} Y h2 h3 h4=>by
  exact d4w (us':=L'.map (·.1.2)) ?_ (by rw[KP,Y.length_eq,OI,OI];omega) a! h4 ip gg nj I λs' n' I' e'=>hP s' _ n' I' ?_ e'
  .apply DP_;rw[Array.toList_map,h2,MH];rfl
  .rw[<-h3];exact jV λq hq=>(mem q (Y.mem_iff.mp hq)).2
 delta ksk_end;dsimp only;show"#>";by_cases h2:kA_<2
 .rw[KQ h2,KQ h2];exact KG Y_;rw[StateT.run_pure];show"#.";exact fin (SV _) jq ?_ χ;rw[hd];rw[KU,l1]at h2
  match ds,h2 with
  |[],_=>rfl
  |[x],_=>rfl
  |_::_::r,h2=>simp at h2;omega
 .rw[LB h2,LB h2];rw[KU]at h2;exact KG (a5j DQ! (λz=>by rw[z]at l2;simp at l2;omega) ?_)
  .show"!f"
  .let bi:(l4_).size=f_:=by rw[<-OM,jq,KP,OI,OI];omega
   let hk:∀q∈(l2!).zip ds,Fb! Gg q.1.1 (rr_).1 (rr_).2:=λq hq=>(mem q hq).1;let qo:(l6!).Nodup:=by rw[hd];exact nd
   exact KG (OE (b7g (Q:=λ_ ac=>JJ! l4_/\Ge_ ac=υ/\JJ_ l6! s.heap (l4_).size)
    (DR!) DR_ DS! DS_ λac a1 a2 a3=>DT!) ?_ λ_ _ e=>e)
   .rw[jq]at hx hy;let#[p,hp,rfl]:=LC.mp hx;let#[q,aj,rfl]:=LC.mp hy;exact wH l6_ l7! ?_;let mm:∀p∈(l2!).zip ds,Ik g p.2∈(FJ! is!).map eD!:=λp hp=>LK (LK hp);let hh:decide (Jr l6! (Mp s.heap p.1.1)<Jr l6! (Mp s.heap q.1.1))=Jv (Ik g p.2) rr_:=by
     show"#K"
    let oy:=hq;rw[hh]at oy;exact oy
   .show"!L";exact fin b1 b2 DT_ a2
def d4v(F:DD_)(hr:rl!)(J:kh!)(ou:P_=1)
  (I:d_)(sub:J_)(pu:rp_)(ha:DU!)(g6:iy!)
  (gg:rn!)(ek:Lz g ds=ψ ks)(nd:hS!)(qm:f_<64)
  (hP:∀s' H' G' us' n',Kw! H'->E0_ G H->E6! (Cg X.K G') rq! us'->H' a=υ->FW! a=ψ iq_->P ir! s'):
  wpAny e_ X.A.in1.in1 (ksk_tree a ai! θ) P E s:=by
 let l1:aC_=f_:=(iZ pu).symm;let ekm:=wG ek;obtain⟨e1,vj⟩:∃e1,Kt! a=ψ (Hy_ e1):=DV!;delta ksk_tree;exact KG DV_;exact KG DW!;exact KG DW_;exact KG DX_;exact KG rs_;exact NB ?_;let bi:(eE!).objs.size=k_+1:=by rw[size_push',Heap.size_update]
 let iy:(rt!).get? (eE!).objs.size=ψ dJ_:=LP _ χ;rw[bi]at iy ⊢;let ip:a≠k_+1:=MN (TZ (LR ha));let nj:∀H':Hp,H' aj!=υ->Fc! H' aj!:=λH' q=>I.fpOk (OO _) q;let oz:(rt!).get? a=ψ ro!:=Ie_ vj;let I1:mX_ H {s with heap:=(eE!).push dJ_}:=
  iL I (λb J=>by rw[l3_];exact gg H g6) λb o J q=>KL _ DY_
 let fa:=gg H g6;let fc:=nj H ue!;let I2:Inv X (hb++[l3!,(k_+1,seqObj "list" (wt!).toArray 0)]) Z H {s with heap:=(eE!).push dJ_}:=I1.pins_of λp hp=>by
  obtain z|z:=KS.mp hp
  .exact I1.pin p iZ!
  .obtain rfl|z:=KR.mp z
   .exact#[oz,g6,fa.2.1,fa.2.2.1,g6_]
   .rw[aI_];exact#[iy,fc.1,fc.2.1,fc.2.2.1,g6_]
 generalize k_+1=c at *;delta ksk_rest;exact KG fI_
 first
  |rw[List.forIn_toArray]
  |(rw[<-Array.forIn_toList];dsimp only[List.toList_toArray])
  |rw[<-Array.forIn_toList]
 exact KG (OE (zC (E:=wx!) F hr J ou ip (λx R s' hx=>?_) I2 sub pu .nil ek nj (FV! QT) λs' H' G' t3 vi n' I' x' p' k'=>?_) Do_ λ_ _ z=>z.elim)
 .exact KG (SC (OE hx (λkv s2 hk=>?_) λ_ _ z=>z.elim));dsimp only;exact KG (OE hk (λ_ s3 z=>KJ z) λ_ _ z=>z)
 .rw[LY]at I';rw[LY,LY]at p';let pc:=I'.pin (c,seqObj "list" t3.toArray n') f8_;let pa:=I'.pin l3! f8_;exact KG (UV pc.1 χ ?_);rw[ekm]at k' nd;exact d8b qm nd ip gg nj I' x'.sub (FX_ pu x'.g) p' k' λs3 us' n3 I3 p3 e3=>hP s3 H' G' us' n3 I3 x' p3 pa.2.1 e3
def BD(g:bZ!)(ds:d!):ι aG!:=(Lz g ds).bind λks=>if hS!/\f_<64 then ψ rq! else υ
def Ut(g:bZ!)(fa:p!):Ag->ι D:=λρ=>(fs_).bind λd=>match d with
 |.lst ds=>(BD g ds).map D.lst
 |_=>υ
def lR{KF:zR!}:∀{ds:d!} {vs:r_} {us:n_},CG! G->Av vs us->Lz_ ga!
 |[],vs,us,r,p=>by obtain rfl:=cR r;cases p;exact .nil
 |d::ds,vs,us,r,p=>by
  let#[v,t,rfl,r1,r2]:=bS r;cases p with
  |cons a b=>exact .cons #[v,r1,a] (lR r2 b)
def sJ{KF:zR!}(h:Lz_ ga!):∃vs,CG! G/\Av vs us:=by
 induction h with
 |nil=>exact#[[],An.nil,.nil]
 |cons p _ ih=>
  let#[v,r,p]:=p;let#[vs,r2,p2]:=ih;exact#[v::vs,An.cons r r2,.cons p p2]
def b0o(I0:mX_ H0 s0)(I:d_)(sub:J_)(hs:CO!<=a)(pu:E6! dJ! ds us')(hz:f_<=sizeLine)(ho:rX_ a=ψ iq_)(hn:iy!)
  (hQ:∀v G' H',E0_ G H->Ao X.K G' ci! v->Q v H'):E7! N_ s:=by
 let#[vs,r,p]:=sJ pu;let f:=I0.fpOk hs hn;exact#[bP_,upd H a ee_,I.track ho p (by rw[<-aL r];exact hz) hn ?_ f.2.1 f.2.2.2.2.1 f.2.2.2.2.2,χ,hQ _ _ _ (Bz.laid sub hn) ?_]
 .exact LX I0.sz hs
 .exact IB! cC (r.mono (λb u e=>by rw[bC (λz=>by rw[z]at e;rw[sub _ _ e]at hn;rcases hn)];exact e))
def zY:Es_ "sorted"=ψ ru!:=by decide+kernel
def a0j{us:n_}(hl:D2!)(hz:aC_<64)
  (h:GL! X.A.in1.in1 (ksk_tree aj! ai! θ) (λfin s'=>∃v,fin=.done (.ret v)/\Q (.ref aj!) s') E {s with heap:=(rv!).push rv_}):
  wpAny e_ X.A (call ru! [.ref l] [(Str.ofString "key",.ref f)]) Q E s:=by
 exact GR_ call_function_entry_kw (a3c _ _) ?_;delta Builtin.«sorted»;exact KG Y_;exact KG (collect_list hl ?_ D2_);exact KG (UO ?_ D2_);let bi:(rv!).objs.size=k_+1:=by
  rw[Heap.size_update,size_push']
 let og:((rv!).push rv_).get? aj!=ψ rv_:=by
  rw[<-bi];exact LP _ χ
 rw[bi];exact F1! wpAny_call_entry_kw (b0b _ _)
 case body=>
  rw[ksk_t1];exact OE h (λfin s' hq=>?_) λ_ _ z=>z;let#[v,rfl,hq]:=hq;exact#[v,χ,KJ (F6_ hq)]
variable{pos p p2 kp:Pos}
def c2v{ps:w_}(F:zs_)(hr:rl!)(hgx:U_)(N':Gl X "sorted")(P':X.mg "sorted"=υ)(ha:Ek! e fa)(ou:P_=1:=by rfl)(bd:D!:=by decide)
  (he:ho_:=by rfl):
  DE X own (GF_ "sorted" [e] [#[ψ "key",cQ_,kp]] pos) (Ut g fa):=⟨by
 let#[af,fd,Y,h2,h3,h4]:=F;rintro hb s Z H Q I ⟨G,ρ,d,er,e1,kq⟩;let#[d0,e2,e1]:=KH.mp e1;cases d0 with
 |lst ds=>
  let#[si,e3,rfl]:=KZ.mp e1;let#[ks,e4,e5]:=KH.mp e3;let sw:hS!/\f_<64:=by
   by_cases z:hS!/\f_<64
   .exact z
   .rw[LB z]at e5;rcases e5
  rw[KQ sw]at e5;rcases e5;let da:=(aD ha aI he).ok;exact QR (jI I N' P' zY ?_ a_ a_);exact G3_ (da pos hb s Z H _ I #[G,ρ,[.lst ds],er,by delta Ac Ae;rw[e2];rfl,λvs G1 H1 x1 r1=>(#[G1,x1,r1]:∃G1,Bz G H G1 H1/\An X.K G1 [.lst ds] vs)]);rintro us s1 ⟨vs,H1,I1,r,G1,x1,r1⟩;exact kws_cons (iR I1 hgx h3 (kws_nil ?_) bd);let#[v,t,rfl,rv,rr]:=bS r1;obtain rfl:=cR rr;let#[l,xs,rfl,sq,rx]:=bW rv;let#[its,hv,pl,hz]:=I1.list D4_;cases r with
  |cons ra rb=>
   cases rb;subst ra;let lz:gT!=f_:=by rw[<-hv.length,<-aL rx]
   let#[nn,sl,ho]:=nW pl;exact a0j #[_,ho,χ,nn,χ] (by rw[lz];exact sw.2) ?_;let keep:∀b o,s1.heap.get? b=ψ o->Hb_ D6!=ψ o:=λb o q=>by
    let av:=LR q;exact KL _ ((Heap.get?_update_ne _ _ _ _ (MN av)).trans ((Heap.get?_push_ne _ _ _ (MN av)).trans q))
   let bi:(D5!).objs.size=B!+1:=by
    rw[Heap.size_update,size_push']
   let og:(D6!).get? (B!+1)=ψ D5_:=by
    rw[<-bi];exact LP _ χ
   let I2:=I1.kept (t':=s1.toks) keep;let cz:B!<=B!+1:=OO _;exact d4v Y hr h2 ou I2 x1.sub (lR rx hv) og (GA_ cz) (λH' q=>I1.fpOk cz q) e4 sw.1 sw.2 λs3 H3 G3 us3 n3 I3 x3 p3 hn3 U'=>pI_;exact b0o I1 I3 x3.sub cz p3 D6_ U' hn3 λv G4 H4 x4 r4=>kq v G4 H4 (x1.trans (x3.trans x4)) r4
 |_=>cases e1⟩
end
def c4k(hd:CE!):W.KdlSrc P w "dict" d d es.length qW! (λh=>Mw h d es ep) where
 type:=λ_ hm=>hm.typeIs
 there:=λ_ hm=>by let#[_,ho,_]:=hm;exact#[LR ho,LR ho]
 keep:=λ_ _ hm hk=>hm.at λo e=>hk d aw_ o e
 notList:=by decide
 notTuple:=by decide
 hint:=λ_ _ _ _ hm hq=>W.kdl_hint_dict hm.typeIs hq
 iter:=λ_ _ hh hm=>#[_,_,(λ_ _ hq=>c1g hd hm hq),b3p hh _ d (by let#[_,ho,_]:=hm;exact MN iA_) es ep,#[eW_,hm.at λo e=>KL _ e]]
def d2k{KF:zR!}(ok:fS_)(hi:D7!):E6! ga! fR_ rw_:=by
 let ea:rw_=es.map k7_:=by
  apply VM;intro i;rw[MO];by_cases h:i<ao!
  .let Y:i<σ.size:=by rw[hi.1];exact h
   show"!l"
  .rw[D7_,NQ a!];rfl
 rw[ea];let:∀{h1:q!} {es:c0_},E6! D8_ h1 es->E6! ga! fR_ is_:=λ{h1 es} h=>by
  induction h with
  |nil=>exact .nil
  |cons a _ ih=>exact Hb! a
 exact this D9!
nonrec def kf2(d:D):Int×Int:=(Lh d).getD (0,0)
def Xc(ds:d!):ι aG!:=if rx!=τ/\(rx_).Nodup/\f_<64 then ψ ry! else υ
def d4u(I:d_)(sub:J_)(pu:rp_)(ha:DU!)(g6:iy!)
  (gg:Fc! H a)(ek:rx!=τ)(nd:(rx_).Nodup)(qm:f_<64)
  (hP:∀s' us' n',mX_ H s'->E6! dJ! ry! us'->FW! a=ψ iq_->P ir! s'):
  wpAny e_ A (Builtin.«list.sort» oe!) P E s:=by
 let l1:=(iZ pu).symm;obtain⟨e1,vj⟩:∃e1,Kt! a=ψ (Hy_ e1):=DV!;rw[list_sort_plain];exact KG DV_;exact KG DW!;exact KG DW_;exact KG DX_;exact KG rs_;exact NB ?_;let I1:mX_ H {s with heap:=(eE!).push dJ_}:=
  iL I Ea! λb o J q=>KL _ DY_
 let oz:(rt!).get? a=some ro!:=KL _ (KL _ vj);generalize (eE!).push dJ_=h3 at I1 oz ⊢;let pk:∀d∈ds,Lh d=some ma!:=λd hd=>by
  let:=OC.mp ek d hd;delta kf2;cases q:Lh d with
  |none=>rw[q]at this;exact Eg_ this
  |some z=>rfl
 let z:E6! Ea_ us ds:=by
  let gen:∀{ds:d!} {us:n_},Lz_ dJ!->(∀d∈ds,Lh d=ψ ma!)->E6! Ea_ us ds:=λ{ds us} h=>by
   induction h with
   |nil=>exact λ_=>.nil
   |cons r _ ih=>exact λhk=>.cons (a4j I1 sub r (hk _ (KM ..))) (ih λd hd=>hk d ga_)
  exact gen pu pk
 let mem:=a5d z pu;let jq:(it!).toList=Ej_ gb!:=by
  rw[ksk_zip,DP!]
 let hd:FJ! gb!=ds:=List.map_snd_zip rq_;let fin:∀{L':rr!} {st:SortSt},L'.Perm gb!->(E_).toList=IW_ b_->IW_ F!=Hz kf2 ds->Ge_ st=υ->
   P ir! {s with heap:=h3.update a (Obj.mapSeq λ_=>(E_).map F!)}:=λ{L' st} b1 b2 b3 b4=>by
  let F':FJ! E_=(Eb_).toArray:=by
   apply DP_;rw[Array.toList_map,b2,MH];rfl
  rw[F'];exact hP _ _ _ (iL (s:={s with heap:=h3}) (wr:=[a]) (t':=s.toks) I1 Ea! λb o J q=>(DY!).trans q) ?_ (SL oz λ_=>(Eb_).toArray);rw[<-b3];exact jV λq hq=>(mem q (b1.mem_iff.mp hq)).2
 let ZO:∀{L':rr!} {st:SortSt},L'.Perm gb!->(E_).toList=IW_ b_->(FJ! E_).size<=sizeLine+1:=λ{L' st} b1 b2=>by
  rw[Array.size_map,<-OM,b2,KP,b1.length_eq,OI,OI,NO];omega
 by_cases h2:kA_<2
 .rw[KQ h2,KQ h2];show"#.";rw[StateT.run_pure];show"#.";exact KG Ec!;exact HJ! oz (ZO (L':=(it_).zip ds) (SV _) jq);simp![failedOf,VJ,MJ,NJ];exact KJ (fin (L':=(it_).zip ds) (st:=SortSt.mk' general' it! #[] 7 υ) (SV _) jq ?_ χ);rw[hd];rw[KU,l1]at h2
  match ds,h2 with
  |[],_=>rfl
  |[x],_=>rfl
  |_::_::r,h2=>simp at h2;omega
 .rw[LB h2,LB h2];rw[KU]at h2;exact KG (a5j (vs:=us) DQ! (λz=>by rw[z]at h2;simp at h2) ?_)
  .show"!f"
  .let bi:(it!).size=f_:=by rw[<-OM,jq,KP,OI,OI];omega
   let hk:∀q∈(it_).zip ds,Gg h3 q.1.1 (ry_).1 (ry_).2:=λq hq=>(mem q hq).1;let qo:(iu!).Nodup:=by rw[hd];exact nd
   exact KG (OE (b7g (kd:=AX τ) (a0:=us.toArray.zip ej_) (r:=λp=>Jr iu! (Mp h3 p.1)) (Q:=λ_ ac=>JJ! it!/\Ge_ ac=υ/\JJ_ iu! h3 (it!).size)
    (DR!) DR_ DS! DS_ λac a1 a2 a3=>DT!) ?_ λ_ _ e=>e)
   .rw[jq]at hx hy;let#[p,hp,rfl]:=LC.mp hx;let#[q,aj,rfl]:=LC.mp hy;exact wH l6_ l7! ?_;let mm:∀p∈(it_).zip ds,kf2 p.2∈(FJ! gb!).map kf2:=λp hp=>LK (LK hp);let hh:decide Ee!=Jv (kf2 p.2) ry_:=by
     show"#K"
    let oy:E2_ Q Ee! {s with heap:=h3}:=hq;rw[hh]at oy;exact oy
   .show"!L";exact KG Ec!;exact HJ! oz (ZO b1 b2);rw[a2];simp![VJ,MJ,NJ];exact KJ (fin b1 b2 DT_ a2)
def a5n{es:c0_}(hi:D7!):rw_=es.map k7_:=by
 apply VM;intro i;rw[MO];by_cases h:i<ao!
 .let Y:i<σ.size:=by rw[hi.1];exact h
  show"!l"
 .rw[D7_,NQ a!];rfl
def GY(M:Mh):μ D->ι D
 |[d]=>(Dd M d).map λq=>.lst lJ_
 |_=>υ
def b5j{KF:zR!}(ok:fS_):∃ys,An KF G fR_ ys/\Av ys is_:=by
 let:∀{h1:q!} {es:c0_},E6! D8_ h1 es->E6! ga! fR_ is_:=λ{h1 es} h=>by
  induction h with
  |nil=>exact .nil
  |cons a _ ih=>exact Hb! a
 exact sJ (this D9!)
def Xf(KF:zR!):μ V->Hp->VK->Prop:=λxs H Q=>∃G ds,Ax G H/\(∃d es ep,xs=[.ref d]/\H d=ψ ey_/\Paired ga! ds is_)/\rx!=τ/\(rx_).Nodup/\f_<64/\∀v G' H',E0_ G H->Ao KF G' (.lst ry!) v->Q v H'
def xX(hc:aE!):Ku X ru! (Xf X.K):=by
 rintro hb s Z H xs us Q I r ⟨G,ds,sub,⟨d,es,ep,e1,e2,hv⟩,q1,q2,q3,k⟩;subst e1;cases r with
 |cons ra rb=>
  cases rb;subst ra;let#[#[h3,h4,h5],_]:=(show Ec X.prog X.w H s.heap d ey_ from I.hok d _ e2);let lz:ao!=f_:=by rw[iZ hv,KP]
  exact GR_ Calls.call_function_entry (args_sorted1 _) ?_;delta Builtin.«sorted»;exact KG Y_;exact KG (W.kdu_collect (c4k h4) aS_ h3 h2_ λh' tk σ hk hi=>?_);let ia:=a5n hi;exact KG (UO ?_ (by rw[ia,KP,NO];omega));rw[ia];let I1:=I.kept (t':=tk) hk;let og:(h'.push mm_).get? mb!=ψ mm_:=LP _ χ;let I2:mX_ H {s with heap:=h'.push mm_,toks:=tk}:=I1.kept λb u q=>KL _ q;let hn:=GA_ v!;exact F1! NA (args_list_sort _)
  case body=>
   exact d4u I2 sub hv og hn (I1.fpOk v! hn) q1 q2 q3 λs3 us3 n3 I3 p3 U'=>Jb_ pI_;exact b0o I1 I3 sub v! p3 D6_ U' hn k
def Qy(M:Mh):μ D->ι D
 |[d]=>(Dd M d).bind λq=>(Xc lJ_).map D.lst
 |_=>υ
def c3e{KF:zR!}:CF! Yc (Xf KF) Qy:=by
 intro vs ds d M G H Q sub m r e k;delta Qy at e;show"!:"
 .let#[q,e1,e]:=KH.mp e;let#[l,e2,rfl]:=KZ.mp e;delta Xc at e2;split at e2
  .rename_i hz;rcases e2;let#[v,rfl,r1]:=gV r;let#[rfl,rfl,hM]:=cV r1 e1;let#[es,Y,h2]:=(m.cell q.1 _ hM).2;let#[ys,g1,g2]:=b5j h2;exact#[G,_,sub,#[q.1,es,q.2.2,χ,Y,lR g1 g2],hz.1,hz.2.1,hz.2.2,k]
  .rcases e2
 .rcases e
def Ra(M:Mh):D->D
 |.fn a=>match M a with|some (.lst xs)=>.lst xs|_=>.fn a
 |d=>d
def Ri(M:Mh)(x y:D):ι D:=Do (Ra M x) (Ra M y)
def b1a{KF:zR!}(sub:J_)(m:cq_)(r:cO_):Ev_ (Ra M d) v:=by
 cases d<;>first|exact r.mono sub|skip
 rename_i a;dsimp only[Ra];split
 .rename_i xs hM;show"!r";obtain rfl:=fY r;exact IB! Y (h2.mono sub)
 .exact r.mono sub
protected def uY{KF:zR!}:CF! Yg (BG KF) Ri:=by
 show"!a";delta Ri Do at e;show"!:"
 .show"!q";rcases e;exact#[_,_,b1a sub m rx,b1a sub m ry,h.1.1,h.1.2,h.2,eh!]
 .rcases e
def Ct(KF:zR!)(C:sS!)(m qual:Str)(st:Stmt)(ps:w_):Prop:=∃af fd,Hf_ m qual/\EP_ KF/\Wm KF C m af
def Tn(KF:zR!)(mg:U!)(x:Str)(C:sS!)(qual:Str)(st:Stmt)(ps:w_):Prop:=mg x=ψ ae!/\∃af fd,Hf_ "__init__" qual/\EP_ KF/\Mk KF C af
section
variable{KF:zR!}{st:Stmt}
def cM(d:pV!)(S:dm_)
  (J:∀{af:sS!} {ah:yg!} {A:xy!} {outer:ax_} {s:zP!} {H:Hp} {E:XK},Ai k k1!->N.Nodup->HZ! Ts pV_):
  Iv P w KF mg base R_ x ps lI_:=by
 let#[af,fd,F,B,m]:=d;exact#[af,fd,mb_,B,m,F.kp]
def dB(c:To KF C)(d:Ct KF C x qual st ps)(S:dm_)
  (J:rA!):
  Df P w KF mg base R_ C x ps lI_:=by
 let#[af,fd,F,B,m]:=d;exact#[c,af,fd,m,mb_,B]
def a0z(d:JK! x)(S:dm_)
  (J:rA!):
  Wl P w KF mg base R_ x C ps lI_:=by
 let#[m,af,fd,F,B,mk]:=d;exact#[m,af,fd,mk,mb_,B]
def eF{kV:yg!}
  (a:EN! KF x=ψ dV_)(i:rA_)(l:Fk_ f=ψ vW!)
  (c:rB!)(k:k1_)
  (b:vV!):Ct KF C x qual st ps:=
 #[f,_,k2!,pX!,#[a,i,k]]
def b9w{kV:yg!}(m:mg x=ψ ae!)
  (a:K8_ KF=ψ dV_)(i:rA_)(l:Fk_ f=Fs! rC_)
  (c:rB!)(k:k1_)(mm:W.makesIn KF C=τ)(kc:FA! KF ae!=τ)
  (b:∀(kV b7 pm:yg!) (an:ec!) (ah ct:yg!) (us:n_),aC_=P_->HF! rC_=pure dg!):JK! x:=
 #[m,f,_,k2!,pX!,#[mm,a,i,kc]]
def c6s(hd:Zu KF mg x st [y])(S:Eu N [y] bj!)(gg:mg x=ψ fi!)
  (J:∀(base:Heap) (af:sS!) (ah:yg!) (A:xy!) (outer:ax_) (s:zP!) (H:Hp) (E:XK),Ai k k1!->HY! Ts pV_):
  ∃fd:FuncData,(∀(s:zP!) (u:yg!),BindsTo s fd jQ_ [(y,u)])/\∀base:Heap,KF.In base->EG! base.Ns->CF! Eh mg base Nr R_ fa fd [y] (BE P w KF 1 (Bs N 1 q)):=by
 let#[f,fd,F,B,m]:=hd;rw[gg]at m;cases m;exact#[fd,λs u=>.of_eq (B [u] χ),λbase _ _=>tU F S λah A outer s H E hr=>J base _ ah A outer s H E hr]
def usS{p:eG_}(h:∀a us,aC_=n->p (a::us))(us:aa_)(e:aC_=n+1):p us:=by
 cases us with
 |nil=>cases e
 |cons a us=>exact h a us (Nat.succ.inj e)
def mV{p:eG_}(h:∀a,p [a]):∀us:List α,aC_=1->p us:=usS λa us e=>by cases us with|nil=>exact h a|cons=>cases e
def nL{p:eG_}(h:∀a b,p aq!):∀us:List α,aC_=2->p us:=usS λa=>mV (h a)
def us3{p:eG_}(h:∀a b c,p dM_):∀us:List α,aC_=3->p us:=usS λa=>nL (h a)
def us4{p:eG_}(h:∀a b c d,p [a,b,c,d]):∀us:List α,aC_=4->p us:=usS λa=>us3 (h a)
def us5{p:eG_}(h:∀a b c d e,p [a,b,c,d,e]):∀us:List α,aC_=5->p us:=usS λa=>us4 (h a)
def M0:Mh:=λ_=>υ
def c6r{ns:s_}(hS:GC_ a ce_)(hg:g mf! M0 λd _=>d=.bl τ):CF! BE 1 g bh_ H jR! λ_ _ _=>False:=
 #[χ,H,mf!,M0,_,Ax.refl H,#[λa c e=>by rcases e],E1_ (Ao.lst hS (zH ns)),hg,λd M' v G' H' r _ _ q=>by subst r;exact dI q]
end
end DL
namespace L2
open PySem PySem.Spec PyProof.Rows
def c5h
  (hN:aY_)(ig:ai_)(hx:be_)
  (dq:do_)(db:dp!)(mj:∀y∈ch!,y.2=.local->scope.names.lookup y.1=ET! ψ)
  (jh:g7!)(cap:do!)(calm:aE!)(ax:m3_)
  (hg:g7_)(hi:wD!)(he:wD_)
  (hs:dc!:=by intro _;rfl)
  (gr:KT_ iv! mQ_=pure true:=by rfl)
  (hf:X.fn x=τ\/xy_ x=ET! some:=by first|exact .inl χ|exact .inr χ|assumption):
  PS X (FE! [.Name x pi] iv!) (BC wE! eT_):=by
 intro hb s Z H D I h;show"!y"
 rw[exec_Assign_Name_used x pi _ pos gr];exact KG (UN gz_);delta evalThenUse;exact KG (F7! hs);let#[it,fp,tn,ag,H2,e,I2,T,cj,f2,hw]:=h2;subst e;exact Fv! T;rintro D' C us n ys H' s' I' eD rv az nD hD hC kz nC ⟨m,hn⟩ fin;let gn:∀b,b<W_->b≠C/\b≠D':=λb J=>wG_;let sf:∀x c,Ax! x=ψ c->c<W_:=λx c h=>by let#[_,_,ho,_]:=Ib_ h;exact LR ho
 let uy:∀p∈X.pn++hb,p.1<W_:=λp hp=>Ic! hp;let ID:=I'.track eD rv az nD (LX I2.sz hD) (MD (g8!).2) wK_ λp hp=>(j3!).2;exact Fu_ UN;exact wpAny_bindName (yD ID hN ig hx (v:=.ref D') χ (?_) hf);rintro s3 I3 ⟨a,sb,ha⟩;let haC:a≠C:=by
  obtain rfl|ha:=ha
  .exact(g8!).1
  .exact(gn _ (sf _ _ ha)).1
 exact#[m,hn.sameBut sb (MD haC),λh' c7=>?_];let nC':upd H' D' bT_ C=none:=by rw[bC (MD kz)];exact nC
 let IC:Li! (Z.set i (EI_ D')) (upd H' D' bT_) {s3 with heap:=h',toks:=s3.toks}:=JB! I3.turned nC' λp hp=>(j3!).1;exact LW! #[_,_,IC,fin D' nD]
end L2
namespace DL
open PySem PySem.Spec PyProof.Rows L2
def iO{pos p2:Pos}
  (hN:aY_)(ig:ai_)(hx:be_)
  (dq:do_)(db:dp!)(mj:∀y∈ch!,y.2=.local->scope.names.lookup y.1=ET! ψ)
  (jh:g7!)(cap:do!)(hix:ka!)(calm:aE!)(ax:qQ_)
  (hg:g7_)(qh:pc_)(hi:Cv_)(he:Cw!)
  (b8:aV!:=by decide)(hs:dc!:=by intro _;rfl)
  (gr:KT_ iv! dt_=pure true:=by rfl)
  (hf:X.fn x=τ\/xy_ x=ET! some:=by first|exact .inl χ|exact .inr χ|assumption):
  MS X own own (FE! [cQ_] iv!) (Ak i Cw_):=
 pN (c5h hN ig hx dq db mj jh cap calm ax.ok hg hi yH! hs gr hf) λM0 G0 F0 E Z G H ρ M R sr e k1 k2=>⟨G,ρ,M,_,sr.st,e,λds ck M1 ag G1 H1 r1 x1 m1 gq=>by
  let#[J,r1]:=r1;let se:=Hh_ x1;exact b3f J gq qh Cx! r1 λli ys M' G' H' r x m q _ p hp=>?_;exact k1 _ M' _ _ _ r ((((Cf_).grow x m).grow (.ext hm_) (m.ext hm_)).set b8 (dW pd! q))⟩
end DL
namespace XS
open PySem
abbrev frA(l:ax_):μ Addr:=l.filterMap (·.frame)
structure Kp(a7 fr:bd_)(h h':Heap):Prop where
 old:∀b o,b∉a7->b∉fr->h.get? b=ψ o->Es! b=ψ o
 frm:∀b o,b∈fr->h.get? b=ψ o->∃sl,Es! b=ψ {o with slots:=sl}
 thr:∀b o,h.get? b=ψ o->∃o',Es! b=ψ o'
 sz:b9_<=mb!
def Kp.trans(a:H2_ Y h2)(b:H2_ h2 h3):H2_ Y h3:=
 ⟨λx o l m e=>b.old x o l m rH!,λx o m e=>by
  let#[sl,e1]:=a.frm x o m e;let#[ic,e2]:=b.frm x _ m e1;exact#[ic,e2],λx o e=>by let#[o1,e1]:=a.thr x o e;exact b.thr x o1 e1,LX a.sz b.sz⟩
def Kp.weak(a:H2_ h h')(J:∀b∈a7,b∈WH):Kp WH fr h h':=#[λx o l m e=>a.old x o (λz=>l (J x z)) m e,a.frm,a.thr,a.sz]
def Kp.skip(a:H2_ Y h2)(b:Kp WH fr h2 h3)(J:∀x∈WH,x∈a7\/Y.get? x=υ):H2_ Y h3:=
 ⟨λx o l m e=>b.old x o (λz=>(J x z).elim l λq=>by rw[q]at e;cases e) m rH!,λx o m e=>by
  let#[sl,e1]:=a.frm x o m e;let#[ic,e2]:=b.frm x _ m e1;exact#[ic,e2],λx o e=>by let#[o1,e1]:=a.thr x o e;exact b.thr x o1 e1,LX a.sz b.sz⟩
def EC(o:Obj)(cls:yg!):Prop:=o.cls=cls/\o.dict=υ/\W.notCls o=τ
def EC.mapF{f:vi!}(h:EC o cls):EC (Obj.mapFields f o) cls:=by
 let#[Y,h2,h3]:=h;exact#[(Obj.cls_mapFields _ _).trans Y,?_,?_]
 .delta Obj.mapFields;split<;>exact h2
 .delta Obj.mapFields;split
  .rfl
  .exact h3
structure XN(n:Heap)(h:Heap)(e:sS!)(cls:yg!):Prop where
 new:n.get? e=υ
 ex:∃oe vs,h.get? e=ψ oe/\EC oe cls/\oe.data=Gy_ vs/\vs[1]?=ψ .none
structure XF(n:Heap)(h:Heap)(e T:sS!)(cls fl:yg!):Prop where
 new:n.get? e=υ
 ex:∃oe vs oT ts,h.get? e=ψ oe/\EC oe cls/\oe.data=Gy_ vs/\vs[1]?=EI_ T/\n.get? T=υ/\T≠e/\h.get? T=ψ oT/\oT.data=Gy_ ts/\ts[3]?=ψ fl
section
variable{s:zP!}{n:Heap}
def c9q(hl:eH!)(hn:eH_)(he:n.get? e=υ):e∉frA bN!:=λhm=>by let#[o,q]:=hn e hm;rw[he]at q;cases q
def c9t{oe:Obj}{vs:b9!}{hadNext:Bool}(f8:ge!)(hl:eH!)(hf:ge_)(hn:eH_)(de:gf!)
  (hne:n.get? e=υ)(he:rX_ e=ψ oe)(hc:EC oe cls)(hd:oe.data=Gy_ vs)(bi:1<vs.size)
  (k:rI!):
  wpAny M A (do setField aG_ 1 (<-EntryCells.newEntry ZP (<-frameOf env) .none mi_ .none (<-entryPlaceOf L hadNext))) Q E s:=by
 let ZQ:=c9q hl hn hne;exact KG (wpAny_frameOf_fun f8 hl hf λY so=>?_);exact KG (wpAny_entryPlaceOf λpl ay=>?_);delta EntryCells.newEntry newFields;exact KG (OH ?_ (ay.sizeOk5 _ _ _ _ _));let e1:=(so.2.1 e ZQ).trans he;let eT:=LR e1;generalize hob:({cls:=.type "traceback",dict:=none,data:=.fields (rJ!).toArray}:Obj)=ob;let ZR:ob.data=.fields (rJ!).toArray:=by rw[<-hob]
 let hobf:=QS ZR;let e2:(Y.push ob).get? e=ψ oe:=KL _ e1;exact SI e2 hd bi ?_;let d3:=PQ hd rK!;let e3:=OQ rK_ e2 (QS d3);let cx:∀b o,b≠e->Y.get? b=ψ o->Hb_ rL!=ψ o:=λb o J eb=>by
  rw[MM _ _ fe_];exact KL _ eb
 let tT:(rL!).get? Y.objs.size=ψ ob:=by
  rw[MM _ _ (MN eT)];exact LP _ hobf
 let s1:=so.1.symm;exact k _ Y.objs.size (by rw[s1];exact LJ _) #[hne,_,_,ob,_,e3,hc.mapF,d3,by simp[bi],de _ a!,QH eT,tT,ZR,?_] #[λb o J hbf eb=>?_,λb o J eb=>?_,λb o eb=>?_,by rw[RL,QW,s1];exact OO _] (hl.of_keeps λb o eb vk=>?_)
 .obtain rfl|⟨_,_,_,_,_,_,_,rfl⟩:=ay<;>simp
 .exact cx b o gi! ?_;rw[so.2.1 b hbf];exact eb
 .show"#&";exact#[sl,cx b _ (λz=>ZQ (z▸J)) nq]
 .show"#&";by_cases f9:b=e
  .subst f9;exact#[_,e3]
  .exact#[_,cx b _ f9 nq]
 .show"#&";exact#[_,cx b _ (Gl! he hd) nq,χ]
def a4s(f8:ge!)(hl:eH!)(hf:ge_)(hn:eH_)(de:gf!)(x:XN n s.heap e cls)
  (k:rI!):o6_ M ml!:=by
 let#[hne,oe,vs,he,hc,hd,Y]:=x;delta noteFrame;simp![hf];exact KG ml_;rw[LB (show¬((Value.none != Value.none)=τ)by decide)];exact IF_ c9t hne he hc hd (OF.mp Y).1 k
def yT(f8:ge!)(hl:eH!)(hf:ge_)(hn:eH_)(de:gf!)(x:rP_)(hfl:fl≠rawInt L)
  (k:∀h' T',k_<=T'->XF n h' e T' cls mi_->Gf! [e,T] h'->Fy! bN!->Q () {s with heap:=h'}):o6_ M ml!:=by
 let#[hne,oe,vs,oT,ts,he,hc,hd,Y,hT,t6,ht,nr,h3]:=x;delta noteFrame;simp![hf];exact KG ml_;rw[rQ!];exact KG (NG ht nr h3 ?_);rw[LB (show¬((fl==rawInt L)=τ)by simpa using hfl)];exact KG (SI ht nr (OF.mp h3).1 ?_);let cx:∀b,b≠T->Hb_ iy_=s.heap.get? b:=λb J=>MM _ _ fe_;let WJ:=c9q hl hn hT;let kp:Gf! [e,T] iy_:=
  ⟨λb o J _ eb=>by rw[cx b gi!];exact eb,λb o J eb=>rQ_,λb o eb=>by
   by_cases J:b=T
   .subst J;exact#[_,OQ _ ht rR!]
   .exact#[o,by rw[cx b J];exact eb],QI (RL ..).symm⟩
 let s9:(iy_).FunFrames base bN!:=hl.of_keeps λb o eb vk=>⟨o,by
  rw[rS!];exact eb,χ⟩
 let hz:(iy_).objs.size=k_:=RL ..;exact c9t f8 s9 hf hn (zG_ hz de) hne (Fq! rT! he) hc hd (OF.mp Y).1 λh' T' a0 a1 a2 a3=>k h' T' (Ev! hz a0) a1 (kp.trans (a2.weak c_)) a3
def a2m(hl:FE_ base l)(hn:∀b∈frA l,∃o,n.get? b=ψ o)(x:rP_)
  (k:∀h',FY! h' rU_->Kp [T] (frA l) s.heap h'->Fy! l->mb!=k_->Q () {s with heap:=h'}):o6_ M (setFlight aG_ fo):=by
 let#[hne,oe,vs,oT,ts,he,hc,hd,Y,hT,t6,ht,nr,h3]:=x;let bi:=(OF.mp h3).1;delta setFlight;exact KG ml_;rw[rQ!];let cx:∀b,b≠T->(E0! T rV!).get? b=s.heap.get? b:=λb J=>MM _ _ fe_;let WJ:T∉frA l:=λhm=>by let#[o,q]:=hn T hm;rw[hT]at q;cases q
 let self:=OQ rV! ht rR!;exact SI ht nr bi (k _ #[hne,oe,vs,_,_,(rT!).trans he,hc,hd,Y,hT,t6,self,PQ nr _,by simp[bi]]
  ⟨λb o J _ eb=>by rw[cx b gi!];exact eb,λb o J eb=>rQ_,λb o eb=>by
   by_cases J:b=T
   .subst J;exact#[_,self]
   .exact#[o,by rw[cx b J,eb]],QI (RL ..).symm⟩
  (hl.of_keeps λb o eb vk=>#[o,by rw[rS!];exact eb,χ]) (RL ..))
inductive Xq(n:Heap)(h:Heap)(e:sS!)(cls:yg!)(L:sS!):List Addr->Prop
 |new:XN n h e cls->GO_ h L [e]
 |on {T:sS!}:FY! h .none->GO_ h L [e,T]
def d6i(f8:ge!)(hl:eH!)(hf:ge_)(hn:eH_)(de:gf!)(x:GO_ s.heap L a7)
  (k:∀h' T,rW!->FY! h' .none->Gf! a7 h'->Fy! bN!->Q () {s with heap:=h'}):o6_ M (leaving env aG_):=by
 let ZS:∀{T:sS!},k_<=T->rX_ T=none:=λ{T} hT=>by
  cases q:rX_ T with
  |none=>rfl
  |some o=>exact Ei_ (LR q) (Nat.not_lt.mpr hT)
 delta leaving;cases x with
 |new x=>
  exact KG (a4s f8 hl hf hn de x λY T a0 a1 a2 a3=>?_);show"!|"
 |on x=>
  exact KG (yT f8 hl hf hn de x rY! λY T a0 a1 a2 a3=>?_);show"!|"
end
open PySem.Spec PyProof.Rows L2
def AM(base:Heap)(P:zH!)(w:zF!):AV:=λouter H s E e s'=>∃(a T:sS!) (cls:yg!) (H':Hp),e=.ref a/\s'.os=s.os/\I5! s'.gens/\GZ_ H/\Kt P w H' s'.heap/\
 XF s.heap s'.heap a T cls .none/\H' a=υ/\H' T=υ/\s'.heap.FunFrames base outer/\Ij_ E
def Lo(m n:Heap):Prop:=∀b,n.get? b=υ->m.get? b=υ
def In(n h:Heap):Prop:=∀b,b9_<=b->n.get? b=υ
def Lo.in(l:Lo n h):In n h:=λb z=>l b (J2_ z)
def Lo.of(k:∀b o,h.get? b=ψ o->∃o',Es! b=ψ o'):Lo h h':=λb z=>by
 cases y:h.get? b with
 |none=>rfl
 |some o=>let#[o',e]:=k b o y;rw[z]at e;rcases e
def XF.low(x:FY! h fl)(l:Lo m n):XF m h e T cls fl:=by let#[hne,oe,vs,oT,ts,he,hc,hd,Y,hT,r]:=x;exact#[l _ hne,oe,vs,oT,ts,he,hc,hd,Y,l _ hT,r]
def Xq.ge(x:mo!):∀b∈a7,n.get? b=none:=by
 intro b J;cases x with
 |new x=>simp at J;subst J;exact x.new
 |on x=>
  let#[hne,oe,vs,oT,ts,he,hc,hd,Y,hT,r]:=x;simp at J;obtain rfl|rfl:=J
  .exact hne
  .exact hT
structure Nw(X:Cx)(hb:w!)(n:Heap):Prop where
 s0:∀b o,b∉X.ex->EM_ b=ψ o->∃o',n.get? b=ψ o'
 loc:∃o,FB! n.get?=ψ o
 cel:∀x c,Ax! x=ψ c->∃o,n.get? c=ψ o
 pin:∀p∈X.pn++hb,∃o,n.get? p.1=ψ o
 frm:∀b∈frA X.stack,∃o,n.get? b=ψ o
def Ec.there(x:mh_):∃u,h.get? a=ψ u:=by
 cases o with
 |lst xs=>let#[_,_,_,_,e]:=x;exact bB!
 |tup xs=>let#[_,_,_,_,e,_]:=x;exact bB!
 |dK h1=>let#[_,_,_,_,o,_,_,e,_]:=x;exact bB!
 |dT h1=>let#[_,_,_,_,o,_,_,e,_]:=x;exact bB!
 |set S n=>let#[o,_,_,_,e,_]:=x;exact bB!
 |ins C dx fs=>let#[_,_,_,e,_]:=x;exact bB!
 |own y=>let#[_,e]:=x;exact bB!
 |xd fs=>let#[_,#[_,_,_,e,_],_]:=x;exact bB!
 |rng lo hi=>let#[_,_,_,e]:=x;exact bB!
 |frz ob u=>let#[e,_]:=x;exact bB!
 |tbl ps=>exact#[_,iw!]
 |met f y=>exact#[_,iw!]
 |ext φ=>let#[_,#[_,e],_]:=x;exact bB!
def Kt.none(x:bd!)(e:h.get? a=υ):H a=none:=by
 cases q:H a with
 |none=>rfl
 |some u=>
  let#[o,ho]:=Ec.there (x a u q);rw[e]at ho;rcases ho
section
variable{X:Cx}{s:zP!}
def Nw.here(I:d_):Nw X hb s.heap where
 s0:=λb o hx e=>I.base.there b o e hx
 loc:=by let#[m,#[o,_,_,ho,_],_]:=I.loc;exact mo_
 cel:=λx c h=>by
  let#[v,o,ho,_]:=GK_ x h;exact mo_
 pin:=λp hp=>#[_,(mU!).1]
 frm:=λb J=>by
  let#[_,o,ho,_]:=I.stack.mem J;exact mo_
def c7g(I:d_):∀b∈frA X.stack,H b=none:=I.stkFree
def c3k(I:d_)(N:Nw X hb n)(u:GT_ a7 H' h')(hok:iC_)(hg:mq_)(J:∀b∈a7,n.get? b=υ):
  Inv X hb Z H' {s with heap:=h',gens:=g',drawn:=d',toks:=t'}:=by
 let nb:∀b∈a7,∀o,n.get? b≠ψ o:=λb h o z=>by rw[J b h]at z;rcases z
 let n0:∀b∈a7,b∈X.ex\/EM_ b=om!:=λb h=>by
  by_cases hx:b∈X.ex
  .exact .inl hx
  .exact .inr ?_;cases q:EM_ b with
   |none=>rfl
   |some o=>let#[o',e]:=N.s0 b o hx q;exact HZ_ (nb b h o')
 let nl:∀b∈a7,b≠X.env.locals:=λb h z=>by subst z;let#[o,e]:=N.loc;exact nb _ h o e
 let nc:∀b∈a7,∀x c,Ax! x=ψ c->c≠b:=λb h x c hc z=>by subst z;let#[o,e]:=N.cel x c hc;exact nb _ h o e
 let np:∀b∈a7,∀p∈X.pn++hb,p.1≠b:=λb h p hp z=>by subst z;let#[o,e]:=N.pin p hp;exact nb _ h o e
 let nf:∀b∈a7,b∉I4_ frs:=λb h z=>by let#[o,e]:=N.frm b z;exact nb _ h o e
 let nfs:∀b∈a7,b∉X.fs:=λb h z=>by
  exact nf b h ?_;obtain e|⟨e,ef⟩:=I.ok.stk
  .rw[e];exact z
  .rw[e];simp![frs,SG,ef];exact KI _ z
 let ok:=I.ok
 let -nondep X':Cx:={X with ex:=X.ex++a7}
 let k1:∀b∈X.ex++a7,b≠X.env.locals/\∀x c,Ax! x=ψ c->c≠b:=λb ik=>by
  obtain q|q:=KS.mp ik
  .exact ok.exf b q
  .exact#[nl b q,nc b q]
 let k2:∀b o,F9! b=ψ o->b∉X.ex++a7:=λb o e z=>by
  obtain q|q:=KS.mp z
  .exact ok.noex b o e q
  .obtain r|r:=n0 b q
   .exact ok.noex b o e r
   .rw[(ok.bs b o e).1]at r;rcases r
 let k3:∀b∈X.ex++a7,b∉X.fs:=λb ik=>by
  obtain q|q:=KS.mp ik
  .exact ok.exfs b q
  .exact nfs b q
 let ok':X'.Ok:=#[ok.mod,ok.kind,ok.glob,ok.blt,iO!,ok.inj,ok.has,ok.cab,ok.hd,iN_,ok.stk,k1,ok.bs,ok.bsz,k2,k3,ok.funs,ok.frf];let I':FT_ X' hb:=#[ok',I.os,I.bare,I.base.mono (λ_ z=>z) (λ_ z=>LN _ z),I.loc,I.cell,I.free,I.freeC,I.pin,I.hok,I.len];let J':=I'.call (t':=t') (d':=d') u hok hg λb h=>#[.inl (KY _ h),nl b h,nc b h,np b h];let out:∀b o,EM_ b=ψ o->b∉X.ex->b∉X.ex++a7:=λb o e hx z=>by
  obtain q|q:=KS.mp z
  .exact hx q
  .obtain r|r:=n0 b q
   .exact hx r
   .rw[e]at r;rcases r
 let B:=J'.base;exact⟨ok,J'.os,J'.bare,#[λb o e m hf hx=>B.keep b o e m hf iC!,λb o e m hf hx=>B.slot b o e m hf iC!,λb o e m hx=>B.free b o e m iC!,λb o e hx=>B.there b o e iC!,B.tups,B.frzs,B.tbls],
  J'.loc,J'.cell,J'.free,J'.freeC,J'.pin,J'.hok,J'.len⟩
def d4s(kp:mp_):GT_ a7 H h' where
 keep:=λb o e _ hf J=>kp.old b o J hf e
 slot:=λb o e _ hf _=>kp.frm b o hf e
 free:=λ_ _ _ n _=>n
 there:=λb o e _=>kp.thr b o e
 tups:=λ_ _ e=>e
 frzs:=λ_ _ _ e=>e
 tbls:=λb ps e=>mu!
def d2u(I:d_)(kp:mp_)(J:∀b∈a7,H b=υ):EW_ Kt H h':=λb u e=>
 (mu_).stay (λd o hd eo=>by
  let me:∃u,H d=ψ u:=by
   obtain rfl|hd:=hd
   .exact#[u,e]
   .exact#[_,hd]
  let#[v,hv]:=me;exact kp.old d o (λz=>by rw[J d z]at hv;rcases hv) (λz=>by rw[c7g I d z]at hv;rcases hv) eo) gg! λ_ _ q=>q
def a2i(I:d_)(N:Nw X hb n)(kp:mp_)(J:∀b∈a7,H b=υ/\n.get? b=υ):mX_ H {s with heap:=h'}:=
 c3k I N (d4s kp) (d2u I kp λb h=>(J b h).1) I.bare λb h=>(J b h).2
end
def c7k{h:Heap}{outer:ax_}(x:h.FunFrames base bN!):h.FunFrames base outer:=x.2.2
section
variable{KF:zR!}
def c0k(I:Inv iD! hb Z H1 s1)(Nn:Nw iD! hb n)(de:In n s1.heap)
  (x:GO_ s1.heap s.heap.objs.size a7)(J:∀b∈a7,H1 b=υ)(q:E cls υ H1):
  (iD!).xe aG_ s1:=by
 exact d6i I.ok.frames I.stack χ Nn.frm de x λh' T hT xf kp ff=>?_;let ag:=a2i I Nn kp λb h=>r1!;exact#[e,T,cls,H1,χ,ag.os,ag.bare,ag.base,ag.hok,xf.low (λb z=>?_),?_,?_,c7k ff,q]
 .cases y:rX_ b with
  |none=>rfl
  |some o=>
   let#[o',e']:=Nn.s0 b o (λz=>by exact(KN z).elim) y;rw[z]at e';rcases e'
 .cases x with
  |new _=>exact J e c_
  |on _=>exact J e c_
 .obtain h|h:=hT
  .exact J T h
  .exact F9_ h
end
def IR:μ Value:=[r1_,r2_,r2!,r4!]
structure FS(KF:zR!)(N:sS!):Prop where
 mk::
 at_:∃c d es ep sl,Fk_ N=ψ #[c,d,.dict es ep,sl]/\(EU_ es.all)=τ
 no:GS! N=ψ υ
def CM(KF:zR!)(C:sS!):Prop:=∃B N nm q bs hdct sn sub ab col dd k0 k1 k2 k3 k5 c0 d1 cd sl,Fk_ C=Ek_ (.ref B::IR)/\Fk_ B=ψ #[c0,d1,.cls cd,sl]/\FS KF N/\FS KF cd.ns
def d3a{KF:zR!}{sub:n_}{k0 k1 k2 k3 k5:Em! Value}
  (la:Fk_ C=Ek_ [.ref B,r1_,r2_,r2!,r4!])(lb:Fk_ B=ψ #[c0,d1,.cls {name:=nm1,bases:=bs1,mro:=mro1,ns:=N1,qualname:=q1,hasDict:=hdct1,slotNames:=sn1,subclasses:=sub1,abstract:=ab1,collection:=col1,hasDel:=del1},sl])
  (lc:Fk_ N=ψ #[c2,d2,.dict es ep,s2])(ld:(EU_ es.toList.all)=τ)(le:GS! N=ψ υ)(lf:Fk_ N1=ψ #[c3,d3,.dict es1 vm,s3])(lg:(EU_ es1.toList.all)=τ)(lh:GS! N1=ψ υ):CM KF C:=
 #[B,N,nm,q,bs,hdct,sn,sub,ab,col,dd,k0,k1,k2,k3,k5,c0,d1,_,sl,la,lb,#[Gp_ lc ld,le],#[Gp_ lf lg,lh]]
def FS.ok{KF:zR!}(n:FS KF N):W.nsOkIn KF N=true:=by let#[#[c,d,es,ep,sl,e1,e2],_]:=n;delta W.nsOkIn;rw[e1];exact e2
def d2z{KF:zR!}(X:fN!)(q:CM KF C):∃bm N nm q bs hdct sn sub ab col dd k0 k1 k2 k3 k5 mN,h.get? C=Ek_ bm/\h.Ns N mN/\mN "__init__"=υ/\OwnTail h IR bm:=by let#[B,N,nm,q,bs,hdct,sn,sub,ab,col,dd,k0,k1,k2,k3,k5,c0,d1,cd,sl,l1,l2,n1,n2]:=q;exact#[_,N,nm,q,bs,hdct,sn,sub,ab,col,dd,k0,k1,k2,k3,k5,_,X _ _ l1,.of_isNs (W.isNs_of_in X n1.ok),W.nsMap_none_of_in X n1.ok n1.no,.own (X _ _ l2) (.of_isNs (W.isNs_of_in X n2.ok)) (W.nsMap_none_of_in X n2.ok n2.no) .base]
def made(I:d_)(m:Fb! Heap.MadeExcOf h' e cls args):mX_ H {s with heap:=h'}/\Fb! XN h' e cls/\H e=none:=by exact#[I.un (Un.kept m.keeps) (I.hok.kept m.keeps),#[m.new,?_],Kt.none I.hok m.new];let#[t,ht,_]:=m.there;exact#[_,_,ht,p1_,χ,χ]
def b8g{R:r7_}(hC:CM X.K C)(hh:eI_=υ)(hg:U_)(hm:gG_)(he:PE X ex te)
  (hR:∀(hb:w!) (Z:L2.St) (H:Hp) (s:zP!) (h':Heap) (e:sS!) (n:Heap),mX_ H {s with heap:=h'}->Nw X hb n->In n h'->XN n h' e ae!->H e=υ->R ae! H->X.xe aG_ {s with heap:=h'})
  (bd:D!:=by decide)(hst:r9!:=by rfl):
  PS X sa! sa_:=by
 intro hb s Z H D I h;let#[bm,N,nm,q,bs,hdct,sn,sub,ab,col,dd,k0,k1,k2,k3,k5,mN,c1,c2,hni,c3]:=d2z I.ok.mod.kin hC;exact wpAny_Raise_call_subU (nm:=nm) (q:=q) (N:=N) (bs:=bs) (hdct:=hdct) (sn:=sn) (sub:=sub) (ab:=ab) (col:=col) (dd:=dd) (k0:=k0) (k1:=k1) (k2:=k2) (k3:=k3) (k5:=k5) PySem.F.excBase_ValueError a_ PySem.F.excBase_ValueError (c3.hasType a_) hh (GP! hst) hni (iR I hg hm j! bd);rw[hst];exact RA (OY cy_);rintro u s1 ⟨v,H1,I1,r1,q1⟩;exact RC ?_;exact#[χ,by simp[sizeLine],I1.bk _ _ c1,c2.keeps I1.bk,c3.keeps I1.bk,λh' e m=>?_];let#[ag,xn,hn]:=made I1 m;exact hR hb Z H1 s1 h' e s1.heap ag (Nw.here I1) (Lo.of λb o y=>#[o,m.keeps b o y]).in xn hn q1
def Xq.at(x:mo!):GO_ h L' a7:=by
 cases x with
 |new x=>exact .new x
 |on x=>exact .on x
def Xq.mem(x:mo!):e∈a7:=by cases x<;>simp
def d7s(f8:ge!)(hl:eH!)(hf:ge_)(hn:eH_)(de:gf!)(x:GO_ s.heap L0 a7)
  (k:∀h' T fl,rW!->FY! h' fl->Gf! a7 h'->Fy! bN!->Q () {s with heap:=h'}):o6_ M ml!:=by
 cases x with
 |new x=>exact IF_ a4s x λY T a0 a1 a2 a3=>k Y T _ iz_ a1 a2 a3
 |on x=>exact IF_ yT x rY! λY T a0 a1 a2 a3=>k Y T _ iz_ a1 a2 a3
def Lv(X:Cx)(R:r7_):Prop:=∀(hb:w!) (Z:L2.St) (H:Hp) (s:zP!) (n:Heap) (a:sS!) (cls:yg!) (a7:bd_),mX_ H s->Nw X hb n->In n s.heap->Xq n s.heap a cls 0 a7->(∀b∈a7,H b=υ)->R cls H->X.xe N_ s
def d6f{KF:zR!}:
  Lv iD! λcls H'=>Ij_ E:=λhb Z H1 s1 n a cls a7 I Nn i x J q=>c0k I Nn i x.at J q
def c5v(hX:Lv X R)(hE:∀cls H',Ij_ E'->R cls H'):Jk (AM X.base X.prog X.w) X E':=by
 intro hb Z H s e s' I h;let#[a,T,cls,H',rfl,os,bare,un,hok,xf,ha,hT,ff,q]:=h;let#[hh,g,d,t,jx]:=s';obtain rfl:jx=s.os:=os;let ag:=I.call (d':=d) (t':=t) un hok bare t7!;exact hX hb Z H' _ s.heap a cls _ ag (Nw.here I) (Lo.of λb o y=>un.there b o y c_).in (.on xf) iF! (hE _ _ q);simp at J;obtain rfl|rfl:=J
 .exact ha
 .exact hT
def b4h(hX:Lv X R)(hC:CM X.K C)(hh:eI_=υ)(hg:U_)(hm:gG_)(he:PE X ex te)
  (bd:D!:=by decide)(hst:r9!:=by rfl):
  PS X sa! sa_:=
 b8g hC hh hg hm he (λhb Z H s h' e n I N i x hn q=>hX hb Z H _ n e _ _ I N i (.new x) (λb J=>by simp at J;subst J;exact hn) q) bd hst
open PySem.W
abbrev AN(X:Cx)(pn:w!)(f:V_):Cx:={X with pn:=pn,xe:=f}
abbrev Wg(X:Cx)(e:sS!)(pn:w!):Cx:={X with A:=X.A.mark (ψ aG_),calm:=θ,pn:=pn,xe:=λ_ _=>False}
def wL(I:d_)(ok:jl.Ok)(hY:jl={X with A:=jl.A,calm:=jl.calm,pn:=jl.pn,xe:=jl.xe})(hp:∀p∈jl.pn++wg,s.heap.get? p.1=ψ p.2/\H p.1=υ/\p.1≠X.env.locals/\p.1∉X.fs/\∀v,p.2.data≠.cell v)
  (hl:ae.length=eJ!)(hs:∀(i:δ) (v:V),ae[i]?=ψ be!->Z[i]?=ψ be!):Inv jl wg ae H s:=by
 let#[m,hn,h]:=I.loc;let:=I.len;rw[hY];exact#[hY▸ok,I.os,I.bare,I.base,#[m,hn,λi x v e1 e2 e3=>h i x v e1 (hs i v e2) e3],I.cell,I.free,I.freeC,hp,I.hok,hl.trans I.len]
def d7q(ok:X.Ok):(eL!).Ok:=iN!
def d1t(ok:(eL!).Ok):X.Ok:=iN!
def d5t(ok:X.Ok):(Wg X e pn).Ok:=#[ok.mod,ok.kind,ok.glob,ok.blt,iO!,ok.inj,ok.has,ok.cab,λz=>Bool.noConfusion z,iN_,ok.stk,ok.exf,ok.bs,ok.bsz,ok.noex,ok.exfs,ok.funs,ok.frf]
def d7r(ok:(Wg X e pn).Ok)(hd:X.calm=τ->eI_=υ):X.Ok:=#[ok.mod,ok.kind,ok.glob,ok.blt,iO!,ok.inj,ok.has,ok.cab,hd,iN_,ok.stk,ok.exf,ok.bs,ok.bsz,ok.noex,ok.exfs,ok.funs,ok.frf]
def b5n(I:d_)(rj:FB! h'.Ns m')(hs:Et_ X.env.locals)
  (hl:∀(j:δ) (y:Str) (v:V),X.N[j]?=ψ y->ae[j]?=ψ be!->H8! Wh y->∃u,Bh v u/\EW X.env h' m' y u)(len:ae.length=X.N.length):Li! ae H {s with heap:=h',toks:=t}:=by
 let ne:∀b o,EM_ b=ψ o->b≠X.env.locals:=λb o e=>MN mq!;exact#[I.ok,I.os,I.bare,#[λb o e n J hx=>(mv_).trans iE!,gi_,I.base.free,mr_,I.base.tups,I.base.frzs,I.base.tbls],#[_,rj,hl],λy c e=>?_,I.free,I.freeC,cv_,λb ob e=>?_,len]
 .show"!B";exact FQ_ sl mv_
 .show"!<";exact FQ_ o' mv_
 .let#[w',z]:=GK_ y e;exact#[w',z.sameBut hs (I.cne y c e)]
 .show"!T";exact si!
 .exact(sd!).stay sd_ gg! λ_ _ q=>q;rintro rfl;obtain rfl|hc:=hc
  .rw[I.free]at e;rcases e
  .rw[I.free]at hc;rcases hc
structure Zw(KF:zR!)(C0:sS!):Prop where
 tup:W.instIn KF aR! bm!=ψ θ
 cls:∃cd,W.clsIn KF C0=ψ cd
 exc:W.subIn KF aR! sg_=ψ τ
def d3v{KF:zR!}(ta:W.instIn KF aR! bm!=ψ θ)(tb:W.clsIn KF C0=ψ cd)(tc:W.subIn KF aR! sg_=ψ τ):Zw KF C0:=#[ta,#[_,tb],tc]
def a8y{KF:zR!}(X:Fb! KF.In)(C:Zw KF C0)(he:rX_ a=ψ oe)(hc:oe.cls=.ref c)(hs:GG! KF=ψ τ)
  (h:Q τ s):o6_ M (excMatches N_ aR!):=by
 let#[hh,g,d,tk,os]:=s;let#[Y,h2,h3]:=C;let L1:=W.looks_instIn (M:=M) X Y;let L2:=W.looks_subIn (M:=M) X h3;let L3:=W.looks_subIn (M:=M) X hs;let Lt:JK_ isType:=by
  let#[cd,h2]:=h2;delta W.clsIn at h2;split at h2
  .rename_i ho;intro A' Q' E' s' k q;delta isType loadHead;exact KG (VQ (k _ _ (X _ _ ho)) (KJ q))
  .rcases h2
 let Le:JK_ isExcClass:=Lt.andThen L2;let Ly:Looks M hh (typeOf N_) bb_:=λA' Q' E' s' k q=>KG si_;delta excMatches;exact Fu_ L1.at;rw[LB a_];show"#.";rw[RI];exact KD! (Fu_ Le.at);simp![QZ,MJ,NJ];exact KJ ?_;dsimp only;rw[US];exact KJ (Fu_ Ly.at);rw[RI];exact KD! (Fu_ L3.at);dsimp only[if_true];exact KJ k6_
structure BZ(X:Cx)(xC en xn:Str)(C0 L:sS!)(ie ix:Nat):Prop where
 hst:X.stack=X.env::X.outer
 hf:X.env.frame=ψ L
 hcalm:X.calm=τ->eI_=υ
 hN:aY_
 hie:X.N[ie]?=ψ en
 hix:X.N[ix]?=ψ xn
 hne:en≠xn
 hke:xy_ en=ET! ψ
 hkx:xy_ xn=ET! ψ
 hg:Gl X xC
 hm:X.mg xC=ψ aR!
 C:Zw X.K C0
def Pi(n ix:δ)(v:V):L2.St:=(sj!).set ix be!
section
variable{D:Tl}{hv:Addr->Option V}
nonrec def xT(X:Cx)(hb:w!)(D:Tl)(h0:ExceptHandler):Value->Shared->Prop:=λe al=>zH_ (noteFrame e X.env) (λ_ au=>wpAny e_ X.A (setFlight e υ) (λ_ ez=>wpAny e_ X.A (handleBy e X.env [h0]) mC! X.xe ez) X.xe au) X.xe al
def d2f(tc:mz!)
  (vn:sj_)
  (gr:mz_)(bd:gj!):
  Lv sl_ λcls H'=>∃c v,cls=.ref c/\subIn X.K bb_ aR!=ψ τ/\hv c=ψ v/\D.nx mA_ H':=by
 let#[hst,hf,hcalm,hN,hie,hix,hne,hke,hkx,hg,hm,C]:=tc;intro wg ae H' s' n a cls a7 I Nn i x J q;let#[c,v,rfl,ZC,hvc,hD]:=q;let f8:X.A.frames=ψ iI!:=by rw[<-hst];exact I.ok.frames
 let de:∀b∈frA iI!,∃o,n.get? b=ψ o:=by rw[<-hst];exact Nn.frm
 let hl:s'.heap.FunFrames X.base iI!:=by rw[<-hst];exact I.stack
 exact d7s f8 hl hf de i x λY T fl a0 a1 a2 a3=>?_;let hTn:H' T=none:=by
  obtain z|z:=a0
  .exact J T z
  .exact F9_ z
 let hTg:=let⟨_,_,_,_,_,_,_,_,_,z,_⟩:=a1;z;rw[<-hst]at a2;let J1:=a2i I Nn a2 λb h=>r1!;let tk:∀b∈[T],H' b=υ/\n.get? b=none:=λb h=>by simp at h;subst h;exact#[hTn,hTg]
 exact a2m a3 de a1 λh2 b1 b2 b3 b4=>?_;rw[<-hst]at b2;let J2:=a2i J1 Nn b2 tk;exact wpAny_handleBy_cons (codeAny_handlers_test ?_) (by intro q;cases q);let I2:Ik! cM! ae H' {s' with heap:=h2}:=wL (ok:=d5t (d1t J2.ok)) J2 χ (IV! J2.pin (LN _ mB!)) χ λ_ _ z=>z;exact iR I2 hg hm ?_ bd;let#[g6,oe2,Y0,oT2,ts2,e2,c2,d2,r2]:=id b1;exact a8y I2.kIn C e2 c2.1 ZC ?_;dsimp only;exact codeAny_handlers_suite_as ?_;exact a2m b3 de b1 λh3 c1' ZT c3 c4=>?_;rw[<-hst]at ZT;let J3:=a2i J2 Nn ZT tk;let#[_,oe,vs3,oT3,ts3,e3,cc3,d3,r3]:=c1';let z6:=J _ x.mem;let qq:a≠X.env.locals:=λz=>by subst z;let#[o,w]:=Nn.loc;rw[show FB! n.get?=ψ o from w]at g6;rcases g6
 let haf:a∉X.fs:=λz=>by
  let#[o,w]:=de a (by
   show a∈List.filterMap _ iI!;rw[SG,hf];exact KI _ z)
  rw[g6]at w;rcases w
 let I3:Ik! gj_ ae H' {s' with heap:=h3}:=wL (ok:=d5t (d1t J3.ok)) J3 χ (λp hp=>by
  rw[LW]at hp;obtain hp|hp:=KS.mp hp
  .exact J3.pin p iZ_
  .simp at hp;subst hp;exact#[e3,z6,qq,haf,λv z=>by rw[d3]at z;cases z]) χ λ_ _ z=>z
 exact oS (X:=Wg X a gj_) (v:=bP_) I3 hN hie (.inl hke) χ (λs4 I4=>?_) (.inr hke);let he4:mC_[ie]?=ψ kv!:=Jf_ I3.len hie;let P:=gM (uU (X:=Wg X a gj_) hN hix (.inl hkx) (vn a gj_ oe c c_ cc3) gr (.inr hkx));exact OE (P [] s4 _ H' {nx:=λσ5 H5=>σ5=(mC_).set ix be!/\H5=H',rt:=λ_ _=>False} I4 #[he4,v,hvc,χ,χ]) (λf s5 z=>?_) λ_ _ z=>z.elim;cases f<;>first|(let#[_,_,_,z]:=z;exact z.elim)|(let#[_,_,_,_,_,z]:=z;exact z.elim)|skip
 let#[_,_,I5,rfl,rfl]:=z;dsimp only;let#[m,hn,hlk]:=id I5.loc;let hix5:ix<((mC_).set ix be!).length:=by rw[I5.len];exact(LH.mp hix).1
 exact wpAny_nameGoes_keeps hke hn (by rw[show X.env.scope.kind=.function from I5.ok.kind];rfl) λh6 w hn6 ZU=>?_;let I6:Ik! gj_ mA_ _ {s5 with heap:=h6,toks:=s5.toks+1}:=b5n I5 hn6 ZU (λj y u e1 e2 e3=>by
  let hj:j=ix:=by
   by_cases z:j=ix
   .exact z
   .delta Pi at e2;rw[MF (MD z),PP]at e2;split at e2<;>cases e2
  subst hj;rw[show X.N[j]?=ψ xn from hix]at e1;rcases e1;delta Pi at e2;rw[Jf_ QK hix]at e2;cases e2;let#[u',r',lk]:=hlk j _ _ hix (MV (Ep! hix5)) e3;exact mw_;obtain⟨k,e⟩|⟨k,c,e,z⟩:=lk
  .exact .inl #[k,by simp[MD hne,e]]
  .exact .inr #[k,c,e,z.sameBut ZU (I5.cne _ c e)]) (by delta Pi;simp)
 exact#[_,_,wL (ok:=d7r I6.ok hcalm) I6 χ (IV! I6.pin (by simp![LW];exact LN _ hp)) χ λ_ _ z=>z,hD]
def d1c{body:gk!}{t:(Value->Hp->ν)->TS}(tc:mz!)
  (vn:sj_)
  (J:∀pn f R,Lv eL! R->H9! eL! (t R))
  (gr:mz_:=by rfl)(bd:gj!:=by decide):
  PS X sr_ λD Z H=>t (λcls H'=>∃c v,cls=.ref c/\subIn X.K bb_ aR!=ψ τ/\hv c=ψ v/\D.nx mA_ H') D Z H:=by
 intro hb s Z H D I h;let lv:=d2f (cp:=cp) (hp:=hp) (hb:=hb) (D:=D) tc vn gr bd;exact wpAny_Try_except (OE (J _ _ _ lv [] s Z H D (wL (ok:=d7q I.ok) I χ (IV! I.pin mB!) χ λ_ _ z=>z) h) (λf s1 z=>?_) λe s1 z=>z);let xb:∀{cg H1},Inv sl_ [] cg H1 s1->Li! cg H1 s1:=λag=>wL (ok:=d1t ag.ok) ag χ (IV! ag.pin mB!) χ λ_ _ z=>z;cases f with
 |next=>let#[cg,H1,ag,q]:=z;exact TU mF_
 |brk=>let#[cg,H1,ag,q]:=z;exact mF_
 |cont=>let#[cg,H1,ag,q]:=z;exact mF_
 |ret u=>let#[v,cg,H1,ag,r,q]:=z;exact#[v,cg,H1,xb ag,r,q]
end
end XS
namespace DL
open PySem PySem.Spec PyProof.Rows L2 XS
abbrev EK:=Addr->Mh->ν
abbrev BY:=μ D->Mh->qi!->EK->ν
def XR(P:zH!)(w:zF!)(KF:zR!)(M0:Mh)(G0 F0:Hp)(E:EK):Value->Hp->Prop:=λcls H'=>∃c M' G',cls=.ref c/\E c M'/\F3_ M'/\Ki! M'
def JL(P:zH!)(w:zF!)(KF:zR!)(n:δ)(g:BY):Sp:=λvs H Q E=>bg!=n/\∃G ds M R EM,Ax G H/\Kq! M/\CG! G/\g ds M R EM/\(∀d M' v G' H',R d M'->XM M G H M' G' H'->MR P w KF M' G' H'->Ao KF G' d v->Q v H')/\∀cls H',CF! XR M G H EM cls H'->Ij_ E
def AR(P:zH!)(w:zF!)(KF:zR!)(mg:U!)(base:Heap)(k:δ)(x:Str)(ps:w_)(g:BY):Prop:=
 ∃af fd,CF! Eh mg base ms! k af fd ps (JL P w KF ps.length g)/\EP_ KF/\mg x=ψ bl_/\Lk! KF=τ
section
variable{KF:zR!}{st:Stmt}
def AR.m(h:KN! AR g):CF! Iv mg base k x ps λds M R=>g ds M R λ_ _=>False:=by
 let#[af,fd,F,h2,h3,h4]:=h;exact#[af,fd,#[λvs H Q E z=>z.1,?_],h2,h3,h4];rintro A outer s H args us vs Q E hr e0 J hv ⟨hl,G,ds,M,R,sub,m,r,e,kk⟩;exact UD (F.run A outer s H args us vs Q jR_ hr e0 J hv #[hl,G,ds,M,R,_,sub,m,r,e,kk,by rintro cls H' ⟨_,_,_,_,z,_⟩;exact z]) λr s' z=>?_;cases r with
 |ok f=>cases f<;>exact z
 |error e=>let#[_,_,_,_,_,_,_,_,_,_,_,_,_,z]:=z;exact z
def a0y{q:EK->WS}(d:pV!)(S:dm_)
  (J:∀{af:sS!} {ah:yg!} {A:xy!} {outer:ax_} {s:zP!} {H:Hp} {E:XK} {M0:Mh} {G0 F0:Hp} {EM:EK},Ai k k1!->Lv sv! (XR P w KF M0 G0 F0 EM)->N.Nodup->
   Nq sv! bC_ (CF! CH M0 G0 F0 [] [] (q EM))):
  AR P w KF mg base R_ x ps λds M R E=>Bs N ps.length (q E) ds M R:=by
 let#[af,fd,F,B,m]:=d;exact#[af,fd,?_,B,m,F.kp];show"!J";exact c9r lk cf S y9_ λA outer s H vs Q E hr h=>?_;let#[hl,G,ds,M,R,EM,sub,m,r,e,kk,ke]:=h;exact#[_,J hr (λhb Z H1 s1 n a cls a7 I Nn i y z q=>d6f hb Z H1 s1 n a cls a7 I Nn i y z (ke cls H1 q)) S.nd,?_];let er:=uD (N:=N) sub r;exact CD_
end
section
variable{st:Stmt}{rest body b1 b2:List Stmt}{pos p2:Pos}{M0:Mh}
abbrev TX(X:Cx)(M0:Mh)(G0 F0:Hp)(own df:o!)(q:WS):TS:=o7_ CH M0 G0 F0 own df q
def d6b(h:qG_):PS X st iJ!:=h.ok M0 G0 F0
def a4x(h:Ts X.nox own bt rest q1):Nq X rest iJ!:=Nq.nox (h.ok M0 G0 F0)
def jO(Y:PS X st iJ!)(h2:Nq X rest (TX X M0 G0 F0 bt m7 q2)):Nq X iP! (Gl_ m7 (Af q1 q2)):=λhb s Z H D I ⟨G,ρ,M,R,sr,e,k1,k2⟩=>
 uT Y h2 hb s Z H D I Cb!
def a4y(hc:lm_)(Y:Nq X b1 iJ!)(h2:Nq X b2 (Gl_ bt q2)):PS X pf! (Gl_ bt (Ap ft q1 q2)):=by
 rintro hb s Z H D I ⟨G,ρ,M,R,sr,e,k1,k2⟩;exact HH! Y h2 D I Cd_;cases b with
 |true=>exact kX lD!
 |false=>exact lM lD!
def Qp(C:sS!)(E:EK)(f:WE):WS:=λρ M _=>f ρ M λ_ M1=>E C M1
def vK(hX:Lv X mG_)(hC:CM X.K C)(hh:eI_=υ)(hg:U_)(hm:gG_)(he:bK!)
  (bd:D!:=by decide)(hst:CG_ [e]=[dX_]:=by rfl):
  PS X (.Raise (Hi_ e) υ pos) (Gl_ bt (Qp C E f)):=λhb s Z H D I ⟨G,ρ,M,R,sr,e',k1,k2⟩=>
 b4h hX hC hh hg hm he.ok bd hst hb s Z H D I #[G,ρ,M,_,sr.st,e',λd M' v G' H' r x m q=>#[C,M',G',χ,r,sr.x.trans x sr.st.mr,m]]
def Yo(P:zH!)(w:zF!)(KF:zR!)(M0:Mh)(G0 F0:Hp)(own:o!)(f:WE):TE:=λZ H Q=>∃G ρ M R,KX! M/\f ρ M R/\∀d M' v G' H',R d M'->Kq_ M'->Ki! M'->EY! G'->Q v H'
def Gi(n:δ)(g:BY)(E:EK)(fs:WA):WE:=λρ M R=>fs ρ M λds M1=>f_=n/\g ds M1 R E
def pM(hX:Lv X mG_)(F:Lf! AR)(hr:a1!)(hg:U_)(ha:fZ_)
  (bd:D!:=by decide)(he:az!:=by rfl)(ay:a1_:=by rfl):
  PE X bQ! (o7_ Yo M0 G0 F0 own (Gi ps.length g E fs)):=by
 show"#,";rintro hb s Z H Q I ⟨G,ρ,M,R,sr,e',k⟩;exact Gu! (c5v (E':=λcls _ H'=>XR X.prog X.w X.K M0 G0 F0 E cls H') hX λ_ _ z=>z) hb s Z H Q I (Ih_ sr.st Cz!);rw[LW];exact#[Cz_,G1,ds,M1,R,E,x1.sub,m1,q1,r1.2,qn!,?_];rintro cls H' ⟨c,M',G',h5,h6,h7,h8⟩;exact#[c,M',G',h5,h6,(sr.x.trans x1 sr.st.mr).trans h7 m1,h8]
def vJ(hN:aY_)(hi:ai_)(hx:be_)(h:Fg! e f)(b8:aV!:=by decide)(hs:pe_:=by rfl)
  (hf:X.fn x=τ\/xy_ x=ET! some:=by first|exact .inl rfl|exact .inr rfl|assumption):PS X (.Assign [.Name x p2] e pos) (TX X M0 G0 F0 own own (Ak i f)):=λhb s Z H D I ⟨G,ρ,M,R,sr,e',k1,k2⟩=>
 uU hN hi hx h hs hf hb s Z H D I (Ih_ sr Cc_)
def AW(n ix:δ)(hv:sz!)(q:EK->WS):WS:=λρ M R=>q (λc M1=>Di (hv c) λd=>R (.nx ((sj!).set ix cO!)) M1) ρ M R
def d2b{xC en xn:Str}{ap:Pos}{ie ix:δ}{hv:sz!}{hw:Addr->ι V}{q:EK->WS}(tc:mz!)
  (vn:∀a pn oe c,eN!∈pn->EC oe bb_->PE iH_ he λZ H Q=>Z[ie]?=ψ hN_/\∃v,hw c=ψ v/\Q v H)
  (hvw:∀c d,hv c=ψ d->GG! X.K=ψ τ/\∃v,hw c=ψ v/\∀G,E1! G)
  (J:∀pn f M0 G0 F0 E,Lv eL! mG_->H9! eL! (Jg! X))
  (gr:mz_:=by rfl)(bd:gj!:=by decide):
  MS X [] [] sr_ (AW X.N.length ix hv q):=⟨by
 rintro M0 G0 F0 hb s Z H D I ⟨G,ρ,M,R,sr,e,k1,k2⟩;exact d1c (t:=λRR D Z H=>∃E,(∀cls H',XR X.prog X.w X.K M0 G0 F0 E cls H'->RR cls H')/\Jg! X D Z H) tc vn
  (by rintro pn f RR lv hb s Z H D I ⟨E,hE,h⟩;exact J pn f M0 G0 F0 E (λp1 p2 p3 p4 p5 p6 p7 p8 p9 p10 p11 p12 p13 z=>lv p1 p2 p3 p4 p5 p6 p7 p8 p9 p10 p11 p12 p13 (hE _ _ z)) hb s Z H D I h) gr bd hb s Z H D I #[_,?_,G,ρ,M,R,sr,e,k1,k2]
 rintro cls H' ⟨c,M',G',rfl,e',x,m⟩;let#[d,hd,hR]:=dC e';let#[hs,v,yk,rep]:=hvw c d hd;exact#[c,v,χ,hs,yk,k1 _ M' G' _ H' hR #[#[#[x.sub,by delta Pi;simp,λj d' q _=>?_,iK_,iK_],m,iK_],x,iK_]];let hl:=(LH.mp tc.hix).1;by_cases hj:j=ix
 .subst hj;rw[MV iL!]at q;cases q;exact#[v,MV iL!,rep G']
 .rw[mx!,PP]at q;split at q<;>cases q⟩
end
section
variable{X:Cx}{pos p1 p2 p3:Pos}
def b5z:Ku X kl! λxs H Q=>∃a C1 oe,xs=[bP_,.ref C1]/\eN!∈X.pn/\oe.cls=.ref C1/\Q x! H:=by intro hb s Z H xs us Q I r h;let#[a,C1,oe,rfl,hp,hc,q]:=h;let#[u,w',rfl,r1,r2]:=yA r;cases (show u=Value.ref a from r1);cases (show w'=Value.ref C1 from r2);let he:=(I.pin _ iZ_).1;exact W.isi_call I.kIn (λM A' Q' E' s' k q=>KG si_) (ES! W.isIn) eg_ #[eT!,H,I,χ,q]
def IM(C1:sS!)(c:sS!):ι D:=if c=C1 then ψ x! else υ
def FL(C1:sS!)(c:sS!):ι V:=if c=C1 then ψ x! else υ
def c5q{en xC:Str}{ie:δ}(hN:sC!)(hk:xy_ en=ET! ψ)(hg:o1!)(hm:o1_)(hv:o2!)(ml:Gl X xC)(pz:sC_)
  (hd:gj!:=by decide)(WK:sE!:=by decide)(WL:sF!:=by decide)
  (he:sF_:=by rfl)(jz:sG_:=by rfl)
  (ay:IS! pos sH!=false:=by rfl):
  ∀a pn oe c,eN!∈pn->EC oe bb_->PE iH_ (.Call sH_ mK! [] pos) λZ H Q=>Z[ie]?=ψ hN_/\∃v,FL C1 c=ψ v/\Q v H:=by
 show"#7";delta FL at e2;split at e2
 .rename_i h;subst h;rcases e2;exact pE (X:=Wg X a pn) b5z hg hm hv (cX (kO hN mx_ WK WL) (cX (b1l (v:=V.ref c) ml pz χ hd) fM jz) he) a_ a_ he ay hb s Z H Q I #[bP_,e1,a,c,oe,χ,hp,hc.1,q]
 .rcases e2
def hvw(h:sI!):∀c d,IM C1 c=ψ d->GG! X.K=ψ τ/\∃v,FL C1 c=ψ v/\∀G,E1! G:=λc d e=>by
 delta IM at e;delta FL;show"!:"
 .rename_i h';subst h';rcases e;exact#[h,_,y_,λG=>Ao.bl]
 .rcases e
end
def DB:D->ν
 |.int i=>dc_<10 ^ 60
 |.str x=>cB!<=1000
 |.tup [.int i,.int j]=>dc_<10 ^ 60/\j.natAbs<10 ^ 60
 |_=>False
def c0g{v:Int}(h:v.natAbs<10 ^ 60):v.natAbs.log2<1920:=by
 by_cases z:v.natAbs=0
 .rw[z];decide
 .exact(Nat.log2_lt z).mpr (VT h g!)
def c0j{i:Int}(h:dc_<10 ^ 60):(EC! (Lp! i)).length<=61:=by rw[PySem.ofString_length];exact int_text_length_le10 a_ h
section
variable{pos p1 p2 p3:Pos}
def c7h(hr:a1!)(I:d_)(sub:J_)(r:E1! G)(rv:bf!)(hd:DB d)
  (hQ:∀x t s',cB!<=1000->mX_ H s'->Q gb_ s'):Kj! (formatField u Str.empty) Q:=by
 let big:100000<=sizeLine:=by decide
 delta DB at hd;split at hd
 .rename_i i;obtain rfl:=bA r;let#[t,rfl]:=rv;let:=c0j hd;exact formatField_int_small (c0g hd) (hQ _ _ _ a! ((e2!).tok _))
 .rename_i x;obtain rfl:=cH r;let#[t,rfl]:=rv;exact formatField_str (λt' tk=>hQ _ _ _ hd (I.tok tk)) a!
 .rename_i i j;let#[a,vs,rfl,qa,rr]:=bX r;let#[v1,t1,rfl,r1,rr]:=bS rr;let#[v2,t2,rfl,r2,rr]:=bS rr;obtain rfl:=cR rr;obtain rfl:=bA r1;obtain rfl:=bA r2;cases (show u=Value.ref a from rv);let#[its,vr,#[o,Y,h2,n,h3],_]:=EH_ (cE sub qa);let#[u1,u2,rfl,w1,w2]:=yA vr;let#[k1,rfl]:=w1;let#[k2,rfl]:=w2;let l1:=c0j hd.1;let l2:=c0j hd.2;let ls:(sJ_).shown.length<=1000:=by
   show((EC! "(")++(Str.ofString (Lp! i)++Str.ofString ", "++Str.ofString (Lp! j))++Str.ofString ")").length<=1000;let e1:(EC! "(").length=1:=by decide+kernel
   let e2:(EC! ", ").length=2:=by decide+kernel
   let e3:(EC! ")").length=1:=by decide+kernel
   simp![Str.length_append];omega
  let un:=hr.un;let dp:(sJ_).depth<=5:=by simp[PyData.depth,PyData.depthAll]
  exact formatField_of_reads (.tuple Y h2 h3 (.cons (.int i k1) (GN_ (.int j k2)))) (by simp[PyData.showable,PyData.showableAll,c0g hd.1,c0g hd.2]) (λz=>by simp[PyData.hasDict,PyData.hasDictAll]at z) hr.gd a! (λb o e=>e) (λh' u tk hk=>?_) a!;exact hQ _ _ _ ls ((I.un (t':=s.toks) (Un.kept hk) (I.hok.kept hk)).tok tk)
 .exact hd.elim
nonrec def g0:Ag->Prop:=λ_=>True
nonrec def gN(i:δ)(g:mM!):Ag->Prop:=λρ=>(∃d,ρ[i]?=ψ cO!/\DB d)/\g ρ
structure FJ(X:Cx)(own:o!)(n:Nat)(es:c9_)(g:mM!):Prop where
 ok:∀(hb:w!) (s:zP!) (Z:St) (G H:Hp) (ρ:Ag) (out:Str) (Q:V_),mX_ H s->ET_ X.K->g ρ->out.length+n<=100000->(∀x t s',Inv X hb Z H s'->Q gb_ s')->Kj! (joinParts out (evalEach es X.env)) Q
def a9o:FJ X own 0 [] g0:=⟨λhb s Z G H ρ out Q I er _ hl hQ=>by
 let big:100000<=sizeLine:=by decide
 exact joinParts_nilE (joinParts_nil (hQ _ _ _ e2!) a!)⟩
def a9p(h:sL_):FJ X own (s2.length+n) (.Constant (.str s2) j p1::es) g:=⟨λhb s Z G H ρ out Q I er hg hl hQ=>by
 let big:100000<=sizeLine:=by decide
 exact Hr_ (Calls.Constant_str #[sM!,h.ok hb _ Z G H ρ _ Q e2! er hg sM_ hQ])⟩
def b5s(hr:a1!)(hN:ai_)(hv:cx!)(hi:aV!)(h:sL_)(hd:D!:=by decide)(cf:cx_:=by decide):
  FJ X own (1000+n) (.FormattedValue (.Name x p1) (-1) υ p2::es) (gN i g):=⟨by
 rintro hb s Z G H ρ out Q I er ⟨⟨d,e1,hs⟩,hg⟩ hl hQ;let big:100000<=sizeLine:=by decide
 let#[v,f1,f2]:=er.at_ i _ e1 hi;exact Hr_ (FormattedValue_plain (dM (kO hN hv hd cf hb s Z H (λw H'=>w=v/\H'=H) I (Lv! f1)) ?_));rintro u s' ⟨y,H',I',r,rfl,rfl⟩;exact c7h hr I' er.sub f2 r hs λy t s2 hy I2=>#[sM!,h.ok hb _ Z G _ ρ _ Q I2 er hg sM_ hQ]⟩
def Yl(g:mM!):WE:=λρ M R=>g ρ/\∀x,R bO! M
def a8x(h:FJ X own n (v1::v2::es) g)(hn:n<=100000:=by decide):En_ (.JoinedStr (v1::v2::es) pos) (Yl g):=⟨λhb s Z H Q I ⟨G,ρ,M,R,st,⟨e1,e2⟩,k⟩=>
 JoinedStr_many (h.ok hb s Z G H ρ Str.empty _ I st.or e1 (by show 0+n<=_;omega) λx t s' I'=>#[gl!,H,I',O_,k _ M _ G H (e2 x) lj_ st.mr Ao.str])⟩
end
section
variable{X:Cx}{pos p1 p2 p3 p4 p5 p6:Pos}{M0:Mh}
def c6k{k:δ}{ps:w_}{g:WF}{a9:Pos}{pl:Sem Bool}(F:qS_)(hr:a1!)(ho:Fg! o fo)(ha:fZ_)
  (hst:az!:=by rfl)(ay:a1_:=by rfl)
  (ht:eval e8! X.env=(do
   let ov <-eval o X.env
   standAt e3_
   let(f,first) <-holding [ov] e4!
   callWith pos f first nz_ dX!):=by rfl):Fg! e8! CA!:=by
 show"#+";intro hb s Z H Q I ⟨G,ρ,M,R,sr,e',k⟩;exact Gp! ho hb s Z H Q I (Ih_ sr qT!);show"!?";exact#[p,dx,vs,χ,hH,hl,G1,ρ,M1,_,sr.st.grow x1 m1,r1,CB!];rw[LW];exact CC!
def EJ(C1:sS!)(x:Str)(c:sS!):ι D:=if c=C1 then ψ bO! else υ
def FK(C1:sS!)(x:Str)(c:sS!):ι V:=if c=C1 then ψ bO! else υ
def c5r{en xC x y:Str}{ie j1 j2:δ}(hN:sC!)(hk:xy_ en=ET! ψ)(hg:o1!)(hm:o1_)(hv:o2!)(ml:Gl X xC)(pz:sC_)
  (hd:gj!:=by decide)(WK:sE!:=by decide)(WL:sF!:=by decide)
  (he:sF_:=by rfl)(jz:sG_:=by rfl)
  (ay:IS! p4 sH!=false:=by rfl):
  ∀a pn oe c,eN!∈pn->EC oe bb_->PE iH_ (.IfExp (.Call sH_ mK! [] p4) (.Constant bO! j1 p5) (.Constant (.str y) j2 p6) pos) λZ H Q=>Z[ie]?=ψ hN_/\∃v,FK C1 x c=ψ v/\Q v H:=by
 show"#7";delta FK at e2;split at e2
 .rename_i h;rcases e2;exact uV (a8b (c5q hN hk hg hm hv ml pz hd WK WL he jz ay a pn oe c hp hc)) a0s a0s hb s Z H Q I #[e1,eT!,KQ h,τ,χ,kX q]
 .rcases e2
def d7y(h:sI!):∀c d,EJ C1 x c=ψ d->GG! X.K=ψ τ/\∃v,FK C1 x c=ψ v/\∀G,E1! G:=λc d e=>by
 delta EJ at e;delta FK;show"!:"
 .rename_i h';subst h';rcases e;exact#[h,_,y_,λG=>Ao.str]
 .rcases e
end
open PySem.Calls
def IF:Em! mR!->Array Value
 |none=>#[]
 |some (b,t)=>[.int b t,.int b t].toArray
def Wr(k:Int):Em! mR!->μ Int->Int
 |some (b,_),xs=>FD! b
 |none,x::xs=>FD! x
 |none,[]=>k
section
variable{s:zP!}{full:List Value}{k:Int}
def uA{h h':Heap}(k:∀b o,b∉[I]->h.get? b=ψ o->Es! b=ψ o):∀b o,b≠I->b≠S->h.get? b=ψ o->(h'.update S f).get? b=ψ o:=λb o b1 b2 e=>FF! (MD b2) (k b o mR_ e)
def b6r:(IF (ψ (b,t))).size<=sizeLine:=by show 2<=sizeLine;rw[NO];decide
def b1w(hh:bS!)(WM:l≠I)(vo:S≠I)(WN:S≠l):∀(xs:s_) (us:n_) (j:δ) (σ:Em! mR!) (h:Heap) (tk c:δ),full.drop j=us->j<=mS!->F0! us xs->(σ=υ->xs=[]->∃t,kw=[(Str.ofString "default",.int k t)])->
  h.IsListIter I l j->h.IsList l iR!->h.get? S=ψ (HJ_ (IF σ) c)->
  (∀t h' gh,sP!->R (Hw! (.int (Wr k σ xs) t)) {s with heap:=h',toks:=gh})->
  codeAny G! A sQ! R {s with heap:=h,toks:=tk}
 |[],us,j,σ,h,tk,c,hd,hj,hi,ha,it,il,hS,hR=>by
  let W:=Walks.list (prog:=P) (w:=w) (A:=A.in1) hh I l WM iR!;cases hi;let e1:=List.drop_eq_nil_iff.mp hd;let ej:j=full.toArray.size:=by rw[KU];omega
  exact IG! VB;rw[sR!];exact KG sR_;exact KG (VO (W.done _ _ _ #[by rw[<-ej];exact it,il] λh' gh k=>?_))
  match σ,ha with
  |none,ha=>
   let#[t,rfl]:=E7_ ha;exact GE! (KJ (hR t _ _ λb o b1 b2 e=>k b o mR_ e))
  |some (b,t),_=>
   exact KG (wpAny_updateSeq (hz:=b6r) (k S _ sS_ hS) χ (KG (RU (KJ (hR t _ _ (uA k))))))
 |x::xs,us,j,σ,h,tk,c,hd,hj,hi,ha,it,il,hS,hR=>by
  let W:=Walks.list (prog:=P) (w:=w) (A:=A.in1) hh I l WM iR!;let nm:sU_="max.loop":=by decide
  cases hi with
  |@cons _ t us _ hi=>
   let av:j<mS!:=by
    obtain z|z:=PR j mS!
    .exact z
    .rw[List.drop_eq_nil_iff.mpr z]at hd;rcases hd
   let hv:full[j]?=ψ (.int x t):=by
    let:=congrArg (·[0]?) hd;simpa[VD]using this
   let me:full.drop I_=us:=by
    rw[<-List.tail_drop,hd];rfl
   exact IG! VB;rw[sR!];exact KG sR_;let go:∀(y:Int) (ty:Tok),y=max (Wr k σ [x]) y->∀(h':Heap) (gh c':δ),sP!->GG_ I I_->h'.IsList l iR!->Es! S=ψ (seqObj "list" [.int y ty,.int y ty].toArray c')->Wr k σ e4_=FD! y->
     codeAny G! A sQ! R {s with heap:=h',toks:=gh}:=λy ty _ h' gh c' k it' il' lq e=>
    b1w hh WM vo WN xs us I_ (ψ (y,ty)) h' gh c' me av hi (λz=>by rcases z) it' il' lq λt' h2 tk2 k2=>by
     let:=hR t' h2 tk2 λb o b1 b2 e=>k2 b o b1 b2 (k b o b1 b2 e);rw[e]at this;show"#;"
   exact KG (VO (W.item j _ _ _ (zG_ KU av) #[it,il] λv h' gh hP st k=>?_));let ev:v=.int x t:=by
    let:full[j]?=ψ v:=by simpa using hP
    rw[hv]at this;exact(MQ this).symm
   subst ev;let lq:=k S _ sS_ hS;let kk:∀b o,b≠I->b≠S->h.get? b=ψ o->Es! b=ψ o:=λb o b1 _ e=>k b o mR_ e
   match σ,hR,lq,go with
   |none,hR,lq,go=>
    show G4! (updateSeq S (λ_=>[.int x t,.int x t].toArray)>>=_);exact IS_ wpAny_updateSeq lq;rw[nm];exact KJ #[TN QD _,go x t (ES! Wr) _ _ _ (uA k) ?_ ?_ sW_ χ]
    .let#[o,e1,e2]:=st.1;exact sX!
    .let#[o,e1,e2]:=st.2;exact sX_
   |some (b,tb),hR,lq,go=>
    show G4! (tryCatch (holding [.int x t,.int x t] (richCompare .Gt (.int x t) (.int b tb)>>=_)) _>>=_);exact KG (VO (Lo! (CmpOf.ints_gt (prog:=P) (w:=w) (A:=A.in1) (P:=λi v=>∃t,v=.int (if i=0 then x else b) t) (λi=>if i=0 then x else b) (λi v h=>h) 0 1 _ _ _ _ _ dl_ #[tb,χ] ?_)));exact KG (NB (ND ?_));exact KG (RU Y_);show G4! (KX_ (x>b));by_cases g:x>b
    .rw[LM g,y_];exact KG (wpAny_updateSeq (hz:=b6r) lq χ (Fu_ RU));rw[nm];exact KJ #[TN QD _,go x t sZ! _ _ _ (uA k) ?_ ?_ sW_ (FG! x)]
     .let#[o,e1,e2]:=st.1;exact sX!
     .let#[o,e1,e2]:=st.2;exact sX_
    .rw[LD g,aW_];exact Fu_ RU;rw[nm];exact KJ #[TN QD _,go b tb sZ! _ _ _ kk st.1 st.2 lq (FG! b)]
end
def b6a:∀(a:yg!) (k:Em! Value),argsOk "max" #[[a],(k.map λv=>s0!).toList]
 |_,none=>by delta argsOk;kernel_rfl
 |_,some _=>by delta argsOk;kernel_rfl
def c3s:Es_ "max"=ψ mY!:=by decide+kernel
section
variable{s:zP!}{k:Int}
def a5e(hh:bS!)(hl:D2!)(hi:F0! us xs)(hne:xs=[]->∃t,dv=ψ (.int k t))
  (hQ:∀t h' gh,s1_->Q (.int (Wr k υ xs) t) {s with heap:=h',toks:=gh}):
  wpAny G! A (call mY! [.ref l] (s3!).toList) Q E s:=by
 let nm:sU_="max.loop":=by decide
 let#[ol,hol,_]:=id hl;let ZV:=LR hol;exact kmb_tree PySem.F.kind_max PySem.F.plain_max PySem.F.entry_max (b6a _ _) ?_;exact KG (wpAny_of_eq (show Builtin.Builtins.bindParams "max" ["key","default"] 0 #[[],(s3!).toList]=pure [none,dv]by cases dv<;>rfl) ?_);exact KG (KJ (KG (wpAny_pyIter_list hl (KG rs_))));rw[nm];generalize hG:s.heap.push {cls:=.type "list_iterator",data:=.fields [.ref l,.int 0 0].toArray}=G;let hS:G.objs.size=k_+1:=by rw[<-hG];exact size_push' ..
 let gI:G.get? k_=ψ {cls:=.type "list_iterator",data:=Fw_ l}:=by rw[<-hG];exact LP _ χ
 let gk:∀b o,rX_ b=ψ o->G.get? b=ψ o:=λb o e=>by rw[<-hG];exact KL _ e
 exact KJ ⟨TN QD _,b1w hh (MN ZV) (IX! QH (RZ _)) (IX! QH (TZ ZV)) xs us 0 υ _ _ 0 χ co! hi (λ_ z=>by let#[t,rfl]:=hne z;exact dl_)
  #[_,KL _ gI,χ,χ] ?_ kQ_ λt h' gh k=>hQ t h' gh λb o e=>?_⟩
 .let#[o,e1,e2]:=hl;exact#[o,KL _ (gk _ _ e1),e2]
 .let J:=LR e;exact k b o (MN J) (IX! MN (TZ J)) (KL _ (gk b o e))
end
section
variable{p p2 kp pos:Pos}{k:Int}
def wM:∀{xs:s_} {us:n_},Av (xs.map V.int) us->F0! us xs
 |[],_,.nil=>.nil
 |x::xs,_,.cons r t=>by let#[tk,rfl]:=r;exact .cons x tk (wM t)
def Uk(k:aF_):μ D->ι D
 |[.lst ds]=>(Lp ds).bind λxs=>if xs=[]then k.map .int else ψ s5_
 |_=>υ
def Zl:=Uk υ
def d6c{k:aF_}(h:(H3! xs s5_)=ψ d):∃i,d=.int (Wr i υ xs)/\(xs=[]->k=ψ i):=by
 match xs with
 |[]=>let#[i,e,rfl]:=KZ.mp h;exact#[i,χ,λ_=>e]
 |x::xs=>cases h;exact#[0,χ,λz=>by rcases z]
def c6n(hgm:Gl X "max")(P':X.mg "max"=υ)(hc:aE!)(ha:En_ e fa)(he:ho_:=by rfl):
  ME X own (GF_ "max" [e] [#[ψ "default",.Constant bO_ j p2,kp]] pos) (H3_ (λ_=>Uk lS_) fa):=⟨by
 rintro hb s Z H Q I ⟨G,ρ,M,R,st,e1,kq⟩;exact QR (jI I hgm P' c3s ?_ a_ a_);exact G3_ ((aE ha aO he).ok pos hb s Z H _ I #[G,ρ,M,_,st,e1,λds M1 vs G1 H1 r1 x1 m1 q1=>(#[ds,M1,G1,r1,x1,m1,q1]:∃ds M1 G1,Di (Uk lS_ ds) (λd=>R d M1)/\XM M G H M1 G1 H1/\MR X.prog X.w X.K M1 G1 H1/\An X.K G1 ds vs)]);rintro us s1 ⟨vs,H1,I1,r,ds,M1,G1,r1,x1,m1,q1⟩;exact kws_cons (wpAny_Constant_int (kws_nil ?_));let#[d,Y,h2]:=dC r1;delta Uk at Y;split at Y
 .rename_i si;let#[xs,e2,Y]:=KH.mp Y;let#[v,t,rfl,rv,rr]:=bS q1;show"!m";let#[its,hv,pl,hz]:=I1.list D4_;let#[u,rfl,ru]:=oR r;subst ru;let#[i,rfl,hi]:=d6c Y;exact a5e (dv:=ψ _) (I1.ok.hd hc) pl.isList (wM hv) (λz=>#[_,by obtain rfl:=MQ (hi z);rfl]) λt h' gh kp=>#[.int _,H1,I1.kept kp,dl_,kq _ M1 _ G1 H1 h2 x1 m1 Ao.int]
 .rcases Y⟩
def AE(KF:zR!):μ V->Hp->VK->Prop:=λxs H Q=>∃l ys,ys≠[]/\xs=[.ref l]/\GC_ l (ys.map V.int)/\Q (.int (Wr 0 υ ys)) H
def b5y(hc:aE!):Ku X mY! (AE X.K):=by rintro hb s Z H xs us Q I r ⟨l,ys,ne,e1,sq,q⟩;subst e1;let#[u,rfl,ru]:=oR r;subst ru;let#[its,hv,pl,hz]:=FU! sq;exact a5e (dv:=υ) aS_ pl.isList (wM hv) (λz=>(ne z).elim) λt h' gh kp=>#[.int _,H,I.kept kp,dl_,q]
def c8i{KF:zR!}:Qo KF (AE KF) Zl:=by
 intro vs ds d G H Q sub r Y kq;delta Zl Uk at Y;split at Y
 .let#[xs,e2,Y]:=KH.mp Y;let#[v,t,rfl,rv,rr]:=bS r;show"!m";split at Y
  .rcases Y
  .rename_i z;rcases Y;exact#[l,_,z,χ,sub.seq sq,kq _ G H aM_ Ao.int]
 .rcases Y
end
abbrev En(h:Heap)(e it:sS!)(f:yg!)(b:Bool)(i:Int)(old:yg!):Prop:=
 h.get? e=ψ {cls:=.type "enumerate",dict:=υ,data:=.fields [f,.bool b,.ref it,rawInt i,.none,old].toArray,slots:=#[]}
def a3h(h:Q (rX_ a) s):Kw_ (loadIfAlive a):=λΓ p hG=>h
def a6e{i T:δ}{Q:V_}
  (he:Fb! En e it eZ! b i old)(hT:rX_ T=ψ oT)(hTi:T≠it)(t6:T≠e)(ax:m2!)(hl:m2_)(hx:am[i]?=ψ x)(hne:if!)
  (hQ:∀h',FY_ h' τ->GG_ it al!->
   h'.get? k_=ψ {cls:=.type "tuple",data:=Gf_ s.toks}->mb!=k_+1->
   tb_->Q bv_ {s with heap:=h',toks:=s.toks+1}):
  wpAny n! A (Builtin.«enumerate.__next__» #[[.ref e],[]]) zO_ E s:=by
 show"#P";show Ex_ tc! _;exact KG tc_;exact KG (wpAny_nextOf_list_item ax hl hx λh₁ ZW t9=>?_)
 replace t9:Gz! it hp h₁:=t9
 let xc:=(t9.2 e hne).trans he;exact KG td!;exact KG td!;exact Fu_ wpAny_mkInt;exact KG (OV xc c_ λky xg ua=>?_)
 replace ua:Gz! e h₁ ky:=ua
 replace xg:FY_ ky b:=xg
 exact KG (OV xg c_ λjk xh ub=>?_)
 replace ub:Gz! e ky jk:=ub
 replace xh:FY_ jk b:=xh
 show wpAny _ _ (newTuple [.int i tk,x]>>=_) _ _ #[jk,g,d,tk+1,os];exact KG (VP ?_);let vp:En (jk.push {cls:=.type "tuple",data:=.seq [.int i tk,x].toArray}) e it eZ! b ey! old:=KL _ xh;generalize vq:jk.push {cls:=.type "tuple",data:=.seq [.int i tk,x].toArray}=k8 at vp;let bi:jk.objs.size=gv!:=by rw[ub.1,ua.1,t9.1]
 let hel:e<gv!:=LR he;let ht₄:k8.get? gv!=ψ {cls:=.type "tuple",data:=Gf_ tk}:=by rw[<-vq,<-bi];exact LP _ χ
 let hz₄:k8.objs.size=gv!+1:=by rw[<-vq,QW,bi]
 let ZX:∀b o,b≠e->b≠it->hp.get? b=ψ o->k8.get? b=ψ o:=λb o f9 WO J=>by
  rw[<-vq];exact KL _ (ub.extBut b o f9 (ua.extBut b o f9 (t9.extBut b o WO J)))
 let hit₄:k8.IsListIter it l al!:=by
  rw[<-vq];let#[o,ho,r]:=(ZW.extBut ua.extBut (MD hne)).extBut ub.extBut (MD hne);exact#[o,KL _ ho,r]
 let hT₄:=ZX T oT t6 hTi hT;show Ex_ (Builtin.SmallTypes.ownedTupleIsFree aG_>>=_) #[k8,g,d,tk+1,os];rw[bi];clear vq xh ub xg ua xc t9 ZW bi jk ky h₁;exact KG ?_;delta Builtin.SmallTypes.ownedTupleIsFree;exact KG (NG vp χ (x:=rawInt T) χ ?_);show Ex_ (loadIfAlive (((T:δ):Int).toNat)>>=_) _;rw[QV];exact Fu_ a3h;show Ex_ (if(k8.get? T).isNone=τ then _ else _) _;rw[hT₄];show Ex_ (field aG_ 1>>=_) _;exact KG (NG vp χ (x:=.bool b) χ ?_);let fin:∀mi,FY_ mi τ->Gz! e k8 mi->Q (.ref gv!) #[mi,g,d,tk+1,os]:=λmi WQ uc=>
  hQ mi WQ (hit₄.extBut uc.extBut (MD hne)) (uc.extBut _ _ (QH hel) ht₄) (by rw[uc.1,hz₄]) λb o f9 WO J=>uc.extBut b o f9 (ZX b o f9 WO J)
 cases b with
 |true=>exact LW! #[_,χ,fin k8 vp #[χ,i0_]]
 |false=>
  show Ex_ (setField aG_ 1 fh_>>=_) _;exact KG (OV vp c_ λmi WQ uc=>KJ (KJ #[_,χ,fin mi WQ uc]))
def c7m(a:sS!)(xs:b9!)(name:Str)(u:Tok)(ZY:Hv! m4_ name=pure υ)(hname:(["__module__","__name__","__qualname__","__doc__","__annotations__"]:μ Str).contains name=θ)(bi:name.length+100<=sizeLine):
  Meets (Builtin.«object.__getattribute__» #[[bP_,.str name u],[]]) (λA R s=>rX_ a=ψ {cls:=.type "enumerate",dict:=υ,data:=Gy_ xs,slots:=#[]}/\raisesAttr N_ name A R s):=
 Meets.of_wp λprog w A R s hs=>by
  show"#P";let#[hx,hs]:=hs;delta Builtin.«object.__getattribute__»
  repeat (any_goals (first|assumption|wp_step))
  simp![hname,MJ,NJ]
  repeat (any_goals (first|assumption|wp_step))
  exact wpAny_raiseAttrError hs.1 hs.2 (attrMsg_fits g! bi)
def c2h:entryFor table "enumerate.__getattribute__"=ψ Builtin.«object.__getattribute__»:=
 entryFor_alias (id':="object.__getattribute__") ab! g! g! ab!
def a9r(hx:rX_ a=ψ {cls:=.type "enumerate",dict:=υ,data:=Gy_ xs,slots:=#[]})(hA:bS!)
  (h:∀h' tk,s1_->Q υ {s with heap:=h',toks:=tk}):Kw_ (getAttr? N_ "keys"):=by
 show"#P";let hT:∀gh,(#[hp,g,d,gh,os]:zP!).TypeIs N_ "enumerate":=λ_=>Jp! hx;let ZY:Hv! m4_ "keys"=pure none:=am_miss_of_fast g!;let f1:=sub_AttributeError;let f3:=TH.lookup;let f4:=TH.bind N_;let f5:Hv! m4_ "__getattr__"=pure none:=F.plainAttrs_enumerate.noGetattr;delta getAttr? getAttrBy? getAttrBy
 repeat (any_goals (first|assumption|exact hT _|((with_reducible show wpAny _ _ (call (Value.builtin "enumerate.__getattribute__") _ _) _ _ _);exact VG TH (hT _) c2h (F.args_enumerate_getattribute_2 _ _) (c7m a xs _ _ ZY g! hB_) #[hx,hA,λh' gh e ql=>?_])|wp_step))
 let#[t',u',he]:=ql.there;show Ex_ (getattributeRaised _ _ _ _ _ _ _) _;delta getattributeRaised
 repeat (any_goals (first|assumption|wp_step))
 exact h _ _ ql.keeps
def zQ:entryFor table "dict.update.loop"=ψ Builtin.«dict.update.loop»:=entryFor_of_tree ab!
def zP:plainId "dict.update.loop"=true:=by decide+kernel
section
variable{xs:List D}
def CN(X:Cx)(hb:w!)(H:Hp)(h:Heap)(e it:sS!)(i:δ):Prop:=
 CP!\/∃T b old o,En h e it (rawInt (T:δ)) b i old/\h.get? T=ψ o/\(∀v,o.data≠.cell v)/\T≠it/\T≠e/\Fc! H T
def c2f(I:d_)(st:to!)(ax:m2!)(hl:m2_)(hx:am[i]?=ψ x)(hne:if!)
  (hQ:∀h',Ik_ H h' al!->GG_ it al!->Es! k_=ψ {cls:=.type "tuple",data:=Gf_ s.toks}->
   (∀b o,b∉dG!->rX_ b=ψ o->Es! b=ψ o)->Q (ψ bv_) {s with heap:=h',toks:=s.toks+1}):
  wpAny e_ A (pyNext aG_) Q E s:=by
 let kp:∀{h':Heap},tb_->∀b o,b∉dG!->rX_ b=ψ o->Es! b=ψ o:=λk b o J eo=>k b o gi! gi! eo;obtain⟨old,he⟩|⟨T,b,old,o,he,hT,hd,Y,h2,hf⟩:=st
 .let ne1:k_≠e:=λz=>Hj! he;let ze:k_≠it:=λz=>by
   let#[o,q,_]:=ax;exact Hj! q
  exact wpAny_pyNext_enum_item he ax hl hx hne λh' a b c d k=>Jg_ #[_,_,_,_,tp!,c,λv z=>(by cases z),ze,ne1,I.fpOk v! gG!]
 .let ZZ:Hd! aG_ "enumerate":=tp_;exact KG (SC (NE ZZ TC
   (H4! ZZ
    (a6e he hT Y h2 ax hl hx hne λh' a b c d k=>KJ (Jg_ #[T,_,_,o,tp!,k T o h2 Y hT,hd,Y,h2,hf])) tq!)))
def c7l(hh:bS!)(st:to!)(ax:m2!)(hl:m2_)(hx:am[i]?=υ)
  (hQ:CK!):KB_ (pyNext aG_):=by
 let hg:∃f b old,Fb! En e it f b i old:=by
  obtain⟨old,he⟩|⟨T,b,old,o,he,_⟩:=st
  .exact tq_
  .exact tq_
 let#[f,b,old,he]:=hg;let hT:Hd! aG_ "enumerate":=tp_;exact KG (SC (NE hT TC
  (H4! hT ?_ tq!)))
 show Ex_ tc! _;exact KG tc_;exact KG (wpAny_nextOf_list_end hh ax hl hx λh' x j5 ql=>?_);let#[o,ho,hc]:=ql;exact GF! #[o,ho,hc];exact KJ (hQ _ j5)
def c2g(st:Ik_ H h i)(ax:h.IsListIter it l i)(hf:tr!):
  ∃fp:List Addr,(∀b∈dG!,b∈fp)/\mU_/\(∀b∈fp,∃o,h.get? b=ψ o/\∀v,o.data≠.cell v)/\∀(h2:Heap) (H2:Hp),(Gs! h2.get?)->(∀b∈fp,Fg X hb H2 b)->Ik_ H2 h2 i:=by
 let#[oi,q1,_,q2]:=ax;let hi:∃o,h.get? it=ψ o/\∀v,o.data≠.cell v:=#[oi,q1,λv z=>by rw[q2]at z;cases z];obtain⟨old,he⟩|⟨T,b,old,o,he,hT,hd,Y,h2,hfT⟩:=st
 .exact#[dG!,λb J=>J,hf,cz!,λh2 H2 k _=>.inl #[old,k e c_ _ he]];simp![KR,KN,SS]at J;obtain rfl|rfl:=J
  .exact ts_
  .exact hi
 .exact#[[T,e,it],λb J=>KI _ J,cz!,cz!,λjf H2 k k2=>.inr #[T,b,old,o,k e c_ _ he,k T c_ _ hT,hd,Y,h2,k2 T c_]]
  .obtain rfl|J:=KR.mp J
   .exact hfT
   .exact hf b J
  .simp only[KR,KN,SS]at J;obtain rfl|rfl|rfl:=J
   .exact#[o,hT,hd]
   .exact ts_
   .exact hi
def b6d(hi:i<h_):tt!=i3_++[(D.int (i:δ),xs[i])]:=by rw[QP hi,List.zipIdx_append,LG,NV,WC a!];simp
def b0d:D.int (i:δ)∉Ej_ i3_:=λz=>by
 rw[MH]at z;show"#O";let:=List.snd_lt_of_mem_zipIdx hq;let h2:=D.int.inj e;rw[NV]at this;omega
def c2j(hc:aE!)(hA:bS!)(hu:A.in1.units<cLine)(hne:if!)(hq:∀{H:Hp},Ax G H->Hc_ l vs)(rl:tv!)(hl:h_<=1000):∀(n i:δ) (j:Int) (s:zP!) (H:Hp) (M:Mh),h_ - i=n->i<=h_->mX_ H s->L4! M H->Ax G H->M c=CF_ i3_ i->
  (∀b∈dG!,Fc! H b)->Ik_ H s.heap i->Jr! i->
  (∀H' s',Kw! H'->EF! (KH! c) G H'->L4! (KH! c) H'->R (.ok (.ret .none)) s')->
  codeAny e_ A (.builtin "dict.update.loop" #[[.ref c,.ref e,rawInt j,di!],[]]) R s:=by
 intro n
 induction n with
 |zero=>
  intro i j s H M hn hi I m sub hM hf st ax hR;let#[its,rv,pl,hz]:=FU! (hq sub);let Y:=aL rl;let h2:=eW!;exact VB zQ ?_;exact KG (c7l hA st ax pl.isList bf_ λh' eb=>?_);let I':mX_ H {s with heap:=h',toks:=s.toks}:=iL I hf λc o hc eo=>eb c o iG! eo;let hx:KH! c=M:=by
   let ei:i=h_:=by omega
   subst ei;rw[List.take_length]at hM;show"#2";split
   .rename_i z;rw[z,hM]
   .rfl
  let:=hR H _ I';rw[hx]at this;exact Ia! (KJ (this (.refl sub) m))
 |succ n ih=>
  intro i j s H M hn hi I m sub hM hf st ax hR;let#[its,rv,pl,hz]:=FU! (hq sub);let ig:i<h_:=by omega
  let#[v,gv,rvx]:=gW rl (LL ig);let#[u,qr,ru]:=rv.get gv;exact VB zQ ?_;exact KG (c2f I st ax pl.isList (Ep! qr) hne λh' ac j6 hT kp=>?_);let I':mX_ H {s with heap:=h',toks:=s.toks+1}:=iL I hf kp;let#[fp,f1,f2,f3,f4]:=c2g ac j6 hf;let I2:=I'.pinned f2 f3;let hT':({s with heap:=h',toks:=s.toks+1}:zP!).TypeIs bv_ "tuple":=Jp! hT;exact Fu_ NB;exact Fu_ VO;exact FU_ UX hT';exact KG (PL hT χ Y_);exact NB (a9x hu I2 m sub hM #[_,Ao.int,O_] χ #[v,rvx,ru] (by rw[KP,TL,NV];exact LQ (show min i h_<1001 by omega) a_) λbc s' I3 c'=>?_);let sy:Hj i3_ (.int (i:δ)) i=i+1:=by delta Hj;rw[pV b0d];rfl
  rw[sy]at I3 c';rw[kE b0d,<-b6d ig]at c';let m':=m.write hM c';let x':EF! tA! G tA_:=XM.write m sub hM;let hcn:∀b∈fp,b≠c:=λb J z=>m.has (by rw[hM];simp:M c≠υ) (z▸(dT!).1);let fk:∀b∈fp,Fc! tA_ b:=λb J=>#[by rw[bC (hcn b J)];exact(dT!).1,(dT!).2];let pk:∀b∈fp,∀o,Es! b=ψ o->FW! b=ψ o:=λb J o eo=>(I3.pin (b,o) (KY _ (KY _ (jG J eo)))).1;let hit3:s'.heap.IsListIter it l al!:=by
   let#[o,q1,q2]:=j6;exact#[o,pk it (f1 it c_) o q1,q2]
  exact KJ #[TN zP _,ih al! I_ s' _ _ a! ig I3.unpinned m' x'.sub mup_same (λb J=>fk b (f1 b J)) (f4 _ _ pk fk) hit3 λH4 s4 I4 x4 m4=>?_];let iy:mup tA! c ca_=KH! c:=by
   show"#2";split<;>rfl
  rw[iy]at x4 m4;exact hR H4 s4 I4 (x'.trans x4 m') m4
end
def c8j:Es_ "dict"=ψ tC!:=by decide+kernel
section
def a6t(hc:aE!)(hu:as_)(I:d_)(m:bK_)(sub:J_)(q:Et X.K G l vs)(rl:tv!)(hl:h_<=1000)(he:Fb! IsEnum e it 0 .none)(ax:Jr! 0)(hf:tr!)(hne:if!)
  (k:∀p H' s',M p=υ->Kw! H'->EF! (KH! p) G H'->L4! (KH! p) H'->Q cD! s'):KA! (call tC! [.ref e]):=by
 let f8:=I.fresh;exact callType_codes (Q₁:=λobj al=>obj=.ref k_/\al={s with heap:=s.heap.push {cls:=.type "dict",data:=.dict #[]}}) F.kt_called_dict (F.kt_typeCall_dict_1 _) F.entry_dict_init (kt_code_dict_new _ aK_) ?_;rintro obj al ⟨rfl,rfl⟩;let D0:Lo_ 0:=qy!;let I1:mX_ dE! {s with heap:=s.heap.push {cls:=.type "dict",data:=.dict #[]}}:=by
  exact qy_;show"!Z"
 let x0:EF! h7_ G dE!:=.laid sub f8;let m0:o7_ MR h7_ G dE!:=m.laid f8 sub qz!;let wu:({s with heap:=s.heap.push {cls:=.type "dict",data:=.dict #[]}}:zP!).TypeIs bv_ "dict":=kK!;let WR:IsEnum lx_ e it 0 .none:=KL _ he;exact#[wu,F.args_dict_init_2 _ _,?_];exact KG ?_;exact FU_ RT wu;exact KJ ?_;exact FU_ UX #[_,WR,χ];exact KG (a9r WR aS_ λh' tk kp=>?_);exact KG fI_;let I2:mX_ dE! {s with heap:=h',toks:=tk}:=I1.kept kp;let jz:=kp _ _ WR;exact KG (wpAny_pyIter_enum jz (KJ #[TN zP _,?_]));let fk:∀b∈dG!,Fc! dE! b:=λb J=>by
  exact#[?_,(gr!).2];let:b≠k_:=λz=>by
   subst z;simp![KR,KN,SS]at J;obtain z|z:=J
   .exact Hj! he
   .let#[o,q1,_]:=ax;exact Hj! q1
  rw[bC this];exact(gr!).1
 let hit2:GG_ it 0:=by
  let#[o,q1,q2]:=ax;exact#[o,kp _ _ (KL _ q1),q2]
 exact c2j (A:=X.A.in1) hc aS_ (by let:=iT X.A;let:=iT X.A.in1;omega) hne (λsb=>sb.seq q) rl hl xs.length 0 0 _ _ _ a! co! I2 m0 x0.sub mup_same fk (.inl #[_,jz]) hit2 λH4 s4 I4 x4 m4=>?_;let iy:EA! mup h7_ ca_=EA! mup M ca_:=by
  show"#2";split<;>rfl
 rw[iy]at x4 m4;exact#[χ,k _ H4 s4 (m.nocell f8) I4 (x0.trans x4 m0) m4]
variable{pos vt p p2:Pos}
def Vc(f:WE):WE:=λρ M R=>f ρ M λd M1=>match d with
 |.lst xs=>h_<=1000/\∀p,M1 p=υ->R u! tE_
 |_=>False
def b5g(hu:as_)(hg:Gl X "dict")(hm:X.mg "dict"=υ)(ml:CQ_)(pz:CR!)(hc:aE!)(h:av_)(hs:CR_:=by rfl)(ay:IS! vt nA!=false:=by rfl)
  (bu:CG_ tG_=(θ,eval (.Call tF_ [a] [] vt) X.env)::Gc! starEach:=by rfl)(hpl2:CS!:=by rfl):
  ME X own (GF_ "dict" tG_ [] pos) (Vc fa):=⟨by
 rintro hb s Z H Q I ⟨G,ρ,M,R,st,e,k⟩;exact Fq_ c8j (OA ?_ bu hpl2);exact OY ?_;exact Call_ (jI I ml pz boot_enumerate (OA (dM (cX h.ok fM hs vt hb s Z H (λvs H1=>∃v xs M1 G1,vs=[v]/\(h_<=1000/\∀p,M1 p=υ->R u! tE_)/\XM M G H M1 G1 H1/\MR X.prog X.w X.K M1 G1 H1/\Ao X.K G1 V! v) I #[G,ρ,M,_,st,e,qT!]) λus s1 ⟨vs,H1,I1,r1,v,xs,M1,G1,q1,t1,x1,m1,rr⟩=>?_) hs ay))
 .cases d<;>first|exact r1.elim|skip
  exact#[v,_,M1,G1,χ,r1,x1,m1,q1]
 subst q1;let#[l,ys,rfl,q,rl]:=bW rr;let#[u,rfl,ru]:=oR r1;subst ru;let#[its,rv,pl,hz]:=I1.list (x1.sub.seq q);exact H9_ call_enumerate_list λh' he ax bi hk=>?_;let ll:∀b∈[B!+1,B!],B!<=b:=λb J=>by
  simp![KR,KN,SS]at J;obtain rfl|rfl:=J<;>omega
 exact RC ?_;exact a6t hc hu (I1.kept hk) m1 x1.sub q rl t1.1 he ax (λb J=>I1.fpOk (ll b J) CT_) CT! λp H' s' hp I2 x2 m2=>#[.ref p,H',I2,χ,k _ _ _ G1 H' (t1.2 p hp) cr! m2 Ao.fn]⟩
end
def IG:μ D->ι D
 |[.int i,.int j]=>BA! (if j>i then j else i)
 |_=>υ
section
variable{pos p2:Pos}
def Rx(fs:WA)(fb:WE):WE:=λρ M R=>fs ρ M λds M1=>f_<=1000/\fb ρ M1 λy M2=>match y with
 |.int k=>C7!/\R C7_ M2
 |_=>False
def c6l(ha:fV!)(J:cr_):En_ C8_ (Rx fs fb):=
 fF C9! λZ G H Q ρ M R st e k=>⟨G,ρ,M,_,st,e,λds M1 vs G1 H1 r1 x1 m1 q1=>⟨by rw[<-aL q1];exact fG r1.1,λp hp=>by
  let xj:Bz G1 H1 G1 C9_:=a6d x1.sub hp;let hM:=JH_ hp;exact Da!;cases y<;>first|exact r2.elim|skip
  rename_i n;obtain rfl:=bA q2;let#[#[hn,ji,hl],r2]:=r2;let tz:=x2.keep p _ cC hM;exact Da_;let zz:=Fq! Db_ x2 q4!;let xl:Bz G2 H2 (upd G2 c tK!) (upd H2 c tK!):=Bz.laid x2.sub hc;exact Hu_ k _ r2 (zz.trans (.ext xl) m2) (m2.ext xl) (dW (x2.sub.free hc) (uQ b6! _))⟩⟩
end
end DL
namespace L2
open PySem PySem.Spec PyProof.Rows
def AS(lo c:Int)(n:δ):It:=Gi_ ni_
def a3j(it:sS!)(lo c:Int)(n:δ):CF! Qk tg (AS lo c n) [it] it (IO! ni_ c) where
 mem:=by simp
 obj:=λi h st b J=>by
  let e:b=it:=by simpa using J
  subst e;exact⟨_,st,λv z=>by
   let z':Data.fields _=Data.cell v:=z;cases z'⟩
 keep:=λi h h' st k=>k it c_ _ st
 item:=by
  show"!0";let W:=Walks.range (prog:=X.prog) (w:=X.w) aS_ it lo c n;show"!8";exact#[_,χ,b2u ac χ χ a_ #[.int ni_,H,I1,dl_,aK_,ac,iW_]]
 done:=by
  show"!0";exact Iu! st (by let:n<=i:=hg;omega) λh' eb=>CN_
 self:=λ_ _ _ _ _ st h=>Iz_ h
nonrec def szS(lo hi c:Int):Nat:=if lo<hi then((hi - lo - 1) / c+1).toNat else 0
def c2r{x c:Int}(hx:0<=x)(hc:0<c):0<=x / c/\x / c<=x/\x / c*c<=x:=by let Y:=Int.ediv_nonneg hx (VV hc);let h2:=Int.ediv_mul_le x (Int.ne_of_gt hc);exact#[Y,?_,h2];let:x / c*1<=x / c*c:=Int.mul_le_mul_of_nonneg_left a! Y;omega
def d4x{lo hi c:Int}(hc:0<c):FS! lo c=tL_:=by
 delta Builtin.Range.rangeSize szS;rw[KQ hc];by_cases h:lo<hi
 .rw[KQ h,KQ h];let:=(c2r (x:=hi - lo - 1) a! hc).1;omega
 .rw[LB h,LB h];rfl
def c4l{lo hi c:Int}(Y:0<=lo)(h2:lo<2 ^ 40)(h3:0<=hi)(h4:hi<2 ^ 40)(hc:0<c)(i':c<2 ^ 40):Builtin.Range.small lo hi c=true:=by
 delta Builtin.Range.small Builtin.Range.rangeSize;rw[KQ hc];rw[KQ hc];simp![Builtin.Range.rangeFitsLong,LS,Bool.or_eq_true,LV,OT];by_cases h:lo<hi
 .let#[d1,d2,d3]:=c2r (x:=hi - lo - 1) a! hc;rw[KQ h];generalize (hi - lo - 1) / c=q at *;generalize q*c=m at *;omega
 .rw[LB h];omega
def b4e{lo hi c:Int}(I:d_)(Y:0<=lo)(h2:lo<2 ^ 40)(h3:0<=hi)(h4:hi<2 ^ 40)(hc:0<c)(i':c<2 ^ 40)
  (q:R (AS lo c (szS lo hi c)) H):LE! E {s with heap:=s.heap.push {cls:=.type "range",data:=Cd! c},toks:=tk}:=by
 exact IA! (c4l Y h2 h3 h4 hc i');let I1:mX_ H {s with heap:=s.heap.push {cls:=.type "range",data:=Cd! c},toks:=tk}:=I.kept λb o e=>KL _ e;exact⟨(nk!).objs.size,[(nk!).objs.size],_,_,H,χ,
  I1.kept λb o e=>KL _ e,a3j _ lo c (szS lo hi c),?_,λb J=>?_,q⟩
 .let e1:lo+eX!*c=lo:=by simp
  let e2:tL_ - eX!=FS! lo c:=by rw[d4x hc];rfl
  rw[e1,e2];exact LP _ χ
 .let e:b=(nk!).objs.size:=by simpa using J
  show"!U"
def EF(ta:TA):TI:=λZ H R=>ta Z H λvs H1=>∃i j c:Int,vs=[bN_,cz_,.int c]/\(0<=i/\i<2 ^ 40/\0<=j/\j<2 ^ 40/\0<c/\c<2 ^ 20)/\R (AS i c (szS i j c)) H1
def b4k(hg:eX_)(hm:eY!)(ha:PA X dM_ ta)(hs:tN_:=by rfl)(bu:tO_:=by rfl):
  PI X tg tP! (EF ta):=by
 intro hb s Z H R I h;exact K1_ hs;let#[i,j,k,e,#[q1,q2,q3,q4,q5,q6],q]:=q1;subst e;cases r1 with
 |cons r rr=>
  cases rr with
  |cons r' rr=>
   cases rr with
   |cons r'' rr=>
    cases rr;show"#%";let#[t',rfl]:=r';let#[t'',rfl]:=r'';exact call_range_3 a! (b4e I1 q1 q2 q3 q4 q5 a! q) (Or.inl to_)
end L2
namespace DL
open PySem PySem.Spec PyProof.Rows L2
def Og(a c:Int)(n:δ):μ D:=(hl_).map λi=>.int (a+(i:δ)*c)
def Pn(f g h:p!):Ag->ι aG!:=λρ=>(af_).bind λx=>(g ρ).bind λy=>(h ρ).bind λz=>match x,y,z with|.int i,.int j,.int c=>if 0<=i/\i<=100000/\0<=j/\j<=100000/\0<c/\c<=1000 then ψ (Og i c (szS i j c))else υ|_,_,_=>υ
def zR(hg:eX_)(hm:eY!)(ha:X!)(J:cj_)(hc:px!)(hs:tN_:=by rfl)(bu:tO_:=by rfl)
  (dh:starEach (a::[b,c]) X.env=cA!::CG_ [b,c]:=by rfl)(jo:starEach (b::[c]) X.env=eY_::CG_ [c]:=by rfl)(lj:starEach (c::[]) X.env=tO!::Gc! starEach:=by rfl):Gc_ DI tP! (Pn fa fb fc):=
 zT (b4k hg hm (IV_ (cX hc.ok fM lj)) hs bu) λZ G H R ρ ds er e k=>by
  let#[x,e1,e3]:=KH.mp e;let#[y,e2,e5]:=KH.mp e3;let#[z,e6,e4]:=KH.mp e5;clear e e3 e5;split at e4
  .rename_i i j c;split at e4
   .rename_i h;rcases e4;exact#[G,ρ,_,er,e1,λv G1 H1 s1 r1=>#[G1,ρ,_,cP!,e2,λw G2 H2 s2 r2=>#[G2,ρ,_,(er.grow s1).grow s2,e6,λw3 G3 H3 s3 r3=>?_]]];show"!x";obtain rfl:=bA r3;exact#[i,j,c,χ,i!,k _ G3 H3 (Fq! cP_ s3) ?_];intro n G' H' g1 g2;delta Og;show"!O";subst he;show"!p"
   .rcases e4
  .rcases e4
def c5n(l:o!)(a:δ):∀m:Nat,((gA!).map λk=>a+k).filterMap (λk=>l[k]?)=(l.drop a).take m:=λm=>by
 induction m with
 |zero=>rfl
 |succ m ih=>
  rw[WD,LG,List.filterMap_append,ih,List.take_succ,VD];cases e:l[a+m]?<;>simp[e]
def c6u{i j n:δ}(h:i<=j):Fm! tQ_ n=(Fv_ (min j n - min i n)).map λk=>min i n+k:=by
 rw[<-StrLaws.strSliceIndices_plain (len:=n) a! a!];delta Builtin.Str.strSliceIndices;let e:∀k:Nat,max (0:Int) (min (if(k:Int)<0 then(k:Int)+n else k) n)=max 0 (min (if nm_<0 then nm_+n else nm_) n):=λk=>by
  rw[d3_,d3_];omega
 simp![jH_,NR];rw[e i,e j]
def a3p{i j:δ}(h:i<=j):Hj_ z tQ_=#[((nn!).take gt!).toArray]:=by
 let hl:aL_=nY!:=by rfl
 let e:((z.cps.toList.drop (min i aL_)).take (min j aL_ - min i aL_))=(nn!).take gt!:=by
  rw[hl];generalize z.cps.toList=l;obtain c|c:=Nat.le_total i K!
  .rw[WC c];obtain d|d:=Nat.le_total j K!
   .rw[WC d]
   .rw[Nat.min_eq_right d,tR_,tR_]
  .rw[Nat.min_eq_right c,UJ v!,UJ c,List.take_nil,List.take_nil]
 delta Txt.slice;rw[c6u h];split
 .rename_i c;simp![NH,VF,OT,KP,NI]at c;let h0:min i aL_=0:=by omega
  rw[<-e,c,h0,List.drop_zero,hl,List.take_length]
 .rw[<-e,<-c5n];congr 2;exact congrArg (λf=>List.filterMap f _) (funext λk=>?_);simp
def c4m{i:δ}:Hj_ z υ=#[(nn!).toArray]:=by
 let hl:aL_=nY!:=by rfl
 let e:Hj_ z υ=Hj_ z tS!:=by
  delta Txt.slice;let e2:Fm! υ aL_=Fm! tS! aL_:=by
   delta Builtin.Str.strSliceIndices;simp![jH_,NR];congr 1;rw[d3_];omega
  rw[e2]
 rw[e,a3p (Nat.le_max_left _ _),OX (by rw[OL,<-hl];omega)]
section
variable{pos p2:Pos}{lo hi:Option Expr}
def GM:V->Em! Int->Em! Int->Hp->VK->Prop:=λx lo hi H Q=>∃z i,x=.str z/\lo=ψ i/\aL_<=sizeLine/\Q (.str tS_) H
def b4n(he:PE X a te)(hl:PO X lo tl)(hu:PO X hi th):PE X oY_ (IB GM te tl th):=by
 intro hb s Z H Q I h;exact IQ! cy_;rintro v s1 ⟨x,H1,I1,r1,q1⟩;exact wpAny_Slice uJ!;rintro vu s3 ⟨u,H3,I3,pu,q3⟩;rw[evalPart_none];exact KJ ?_;let#[z,i,rfl,rfl,hz,q]:=q3;let#[t,rfl]:=r1;cases pl;let kp:KeptH λh=>mX_ H3 {s3 with heap:=h}:=λh ob p=>p.kept λb u q=>KL _ q;let fin:∀(h':Heap) (t':Tok) (k:δ),mX_ H3 {s3 with heap:=h'}->E7! (.str (Txt.slice z d5! u) t') {s3 with heap:=h',toks:=k}:=λh' t' k p=>#[.str _,H3,p.tok k,O_,q];cases pu with
 |none=>
  let#[T,id,hT,ht,hg]:=PySem.SBH.sliceItem_sn kp I3 fin hz;exact tail_any ht hT hg nR_
 |int j tj=>
  let#[T,id,hT,ht,hg]:=PySem.SBH.sliceItem_ss kp I3 fin hz;exact tail_any ht hT hg nR_
def Uv(z:Str)(i:Int)(hi:aF_):ι D:=if 0<=i/\aL_<=big then(match hi with
 |none=>FN! #[(tU!).toArray]
 |some j=>if i<=j then FN! #[((tU!).take (j.toNat - i.toNat)).toArray] else υ)else υ
def c8d{hi:aF_}(h:Uv z i hi=ψ d):d=.str tS_/\aL_<=big:=by
 delta Uv at h;split at h
 .rename_i c;obtain⟨n,hn⟩:∃n:Nat,(n:Int)=i:=#[i.toNat,i!];subst hn;exact#[?_,c.2];cases hi with
  |none=>rw[c4m];exact(MQ h).symm
  |some j=>
   let h:(if(n:Int)<=j then ψ (D.str #[((z.cps.toList.drop ((n:Int)).toNat).take (j.toNat - ((n:Int)).toNat)).toArray])else υ)=ψ d:=h;split at h
   .rename_i c2;obtain⟨m,hm⟩:∃m:Nat,(m:Int)=j:=#[j.toNat,i!];subst hm;rw[a3p a!];exact(MQ h).symm
   .rcases h
 .rcases h
def Nc(d:D)(l h:aF_):ι D:=match d,l with
 |.str z,some i=>Uv z i h
 |_,_=>υ
def Nj(f:p!)(ol oh:oX_):Ag->ι D:=λρ=>(af_).bind λd=>(ol ρ).bind λl=>(oh ρ).bind λh=>Nc d l h
def rW(ha:X!)(hl:yd_)(hh:ye_):Ek! oY_ (Nj fa ol oh):=
 eW (b4n ha.ok hl hh) λZ G H Q ρ d er e k=>by
  show"!;";show"!C";delta Nc at e;show"!:"
  .obtain rfl:=cH r3;let#[c1,c2]:=c8d e;rw[c1]at k;exact#[_,_,χ,χ,LX c2 g!,k _ _ _ s4 Ao.str]
  .rcases e
end
end DL
namespace K21
open PySem L2 DL
nonrec def top(i:δ):Stmt:=PySem.Challenge.pw_manyhands_k21_own_texts.main.body.getD i tW!
def Jc(i j:δ):Stmt:=match top i with
 |.ClassDef _ _ _ b _ _ _ _ _ _ _=>b.getD j tW!
 |s=>s
structure Bo where
 mk::
 A0:Addr
 A7:Addr
 A8:Addr
 A9:Addr
 B0:Addr
 B1:Addr
 B2:Addr
 B3:Addr
 B4:Addr
 B5:Addr
 B6:Addr
 B7:Addr
 HandsError:Addr
 NotThere:Addr
abbrev Sc:Stmt:=top 12
abbrev Sf:Stmt:=top 13
abbrev Ou:Stmt:=top 14
abbrev Tz:Stmt:=top 15
abbrev Nt:Stmt:=top 16
abbrev Ua:Stmt:=top 17
abbrev Qa:Stmt:=top 18
abbrev Qs:Stmt:=top 19
abbrev Tw:Stmt:=top 20
abbrev Ot:Stmt:=top 21
abbrev Se:Stmt:=top 22
abbrev Mj:Stmt:=top 24
abbrev Ub:Stmt:=top 25
abbrev Nu:Stmt:=top 26
abbrev Mz:Stmt:=top 27
abbrev Sg:Stmt:=top 28
abbrev Vo:Stmt:=Jc 30 0
abbrev Qu:Stmt:=Jc 30 1
abbrev Ml:Stmt:=Jc 30 2
abbrev Nv:Stmt:=Jc 30 3
abbrev Qb:Stmt:=Jc 30 4
abbrev Qc:Stmt:=Jc 31 0
abbrev Oz:Stmt:=Jc 31 1
abbrev Lc:Stmt:=Jc 31 2
abbrev Kd:Stmt:=Jc 31 3
abbrev Oy:Stmt:=Jc 31 4
abbrev Ld:Stmt:=Jc 31 5
abbrev Ny:Stmt:=Jc 31 6
abbrev Nb:Stmt:=Jc 31 7
abbrev Pa:Stmt:=Jc 31 8
abbrev Jq:Stmt:=Jc 31 9
abbrev Gp:Stmt:=Jc 31 12
abbrev Gz:Stmt:=Jc 31 13
abbrev Ls:Stmt:=top 33
abbrev Pz:Stmt:=top 34
abbrev Vl:Stmt:=top 35
abbrev Ys:Stmt:=top 36
abbrev Vm:Stmt:=top 37
abbrev Ud:Stmt:=Jc 40 0
abbrev Qw:Stmt:=Jc 40 1
abbrev Qt:Stmt:=top 41
abbrev Py:Stmt:=top 42
abbrev Qq:Stmt:=top 43
abbrev Tx:Stmt:=top 44
abbrev Qr:Stmt:=top 45
abbrev Na:Stmt:=top 46
abbrev Ox:Stmt:=top 47
abbrev Ii:Stmt:=top 48
abbrev Vn:Stmt:=top 49
abbrev Fk:Stmt:=top 50
abbrev Tv:Stmt:=top 51
abbrev Yr:Stmt:=top 52
abbrev Vd:Stmt:=top 53
abbrev Kc:Stmt:=top 55
abbrev Yq:Stmt:=top 56
abbrev Wv:Stmt:=top 57
abbrev Os:Stmt:=top 58
abbrev Mi:Stmt:=top 60
abbrev Yt:Stmt:=top 61
abbrev Sb:Stmt:=top 62
abbrev Sa:Stmt:=top 63
abbrev Ov:Stmt:=top 64
abbrev Tu:Stmt:=top 65
abbrev Ww:Stmt:=top 66
abbrev Xb:Stmt:=top 68
abbrev Yv:Stmt:=top 69
abbrev Qm:Stmt:=top 72
abbrev Vq:Stmt:=top 73
abbrev Sh:Stmt:=top 74
abbrev Wz:Stmt:=top 75
abbrev So:Stmt:=top 76
abbrev Vp:Stmt:=top 77
abbrev Si:Stmt:=top 78
abbrev Uc:Stmt:=top 79
abbrev Sk:Stmt:=top 80
abbrev Sj:Stmt:=top 81
abbrev Xa:Stmt:=top 82
abbrev Qv:Stmt:=top 83
abbrev Wx:Stmt:=top 84
abbrev Ke:Stmt:=top 86
abbrev Sl:Stmt:=top 88
abbrev Pb:Stmt:=top 90
abbrev Yu:Stmt:=top 91
abbrev Vr:Stmt:=top 92
abbrev Lr:Stmt:=top 93
def dU:Eu tY! [a0!] (Aj Lr):=h!
def Ug:Ag->ι Fl:= (By (Hu (Jh "int" l_) (Hu (AL (Jh "bool" l_)) (f2 Pj (HK! Zr) t0_))))
def Fx:μ D->ι D:=FO_ Ug
def Ui:Ag->ι Fl:= (By (Hu (HK! Fx) (El Ki Pj B_ l_ u_)))
def Hg:μ D->ι D:=Ef np_ 2 (Ui)
def Qe:Ag->ι Fl:= (By (Hu (HK! Fx) (f2 IP l_ r!)))
def Dr:μ D->ι D:=FO_ Qe
def Vy:Ag->ι Fl:= (sSeq (Fg_ ar!) (By (Hu (f1 Hg (Eh_ ay_ bx_)) (G4_ Dr nq_))))
def Ey:μ D->ι D:=FO_ Vy
def Pc:Ag->ι Fl:= (Lf_ (Fg_ aE_) (Hu t4! (f1 Hg (Eh_ df_ bx_))))
def Ea:μ D->ι D:=FO_ Pc
def Vz:Ag->ι Fl:= (By (Ms (HK! Ey) (Ms (f2 Au l_ jh!) (f2 Au l_ (fC gD_)))))
def Ky:μ D->ι D:=FO_ Vz
def Rg:Ag->ι Fl:= (By (Ms t4_ (HK! Ey)))
def Gv:μ D->ι D:=FO_ Rg
def Sx:Ag->ι Fl:= (By (Ms t4_ (HK! Ea)))
def Hq:μ D->ι D:=FO_ Sx
def Vw:Ag->ι Fl:= (By (Hu (Ix! El) (f2 Ye (HK! BR) (ED_ 37))))
def Cp:μ D->ι D:=Ef e5_ 1 (Vw)
def Vv:Ag->ι Fl:= (sSeq (JL! (Xu (Dy nt_) (Dy nu!))) (By (KY! l_)))
def Kx:μ D->ι D:=FO_ Vv
def Uh:Ag->ι Fl:= (By (f1 Hg (Eh_ l_ e6!)))
def Jd:μ D->ι D:=FO_ Uh
def Dq(t:Bo):μ cm_:=[("put",.tup [dY_,.fn t.A7]),("move",.tup [dY_,dY_,.fn t.A7]),("drop",.tup [dY_]),("write",.tup [dY_,.fn t.A8,.fn t.A9]),("cut",.tup [dY_,.fn t.B0,.fn t.B1]),("set",.tup [dY_,.fn t.B2,.fn t.B3]),("undo",.tup [.fn t.B4]),("redo",.tup [.fn t.B4])]
def Iq(t:Bo):Addr->ι pA!:=λa=>if a=t.A0 then ψ Ky else if a=t.A7 then ψ Gv else if a=t.A8 then ψ Hq else if a=t.A9 then ψ Kx else if a=t.B0 then ψ Ea else if a=t.B1 then ψ Dr else if a=t.B2 then ψ Jd else if a=t.B3 then ψ Fx else if a=t.B4 then ψ Ey else υ
def Sy(t:Bo):Ag->ι Fl:= (sSeq (JL! (fT (f2 Ye de_ ny!))) (By (f1 Pv (Ac (Il! 2) Ae))))
def Ez(t:Bo):μ D->ι D:=Ef ny_ 2 (Sy t)
def Wa(t:Bo):Ag->ι Fl:= (sSeq (Iz (Xu je_ (Eu_ de_ B_)) df! Fm) (sSeq (JL! (Xu t8_ ua!)) (Lf_ (JL! (Dy uc!)) (Ms ud! ud_))))
def Io(t:Bo):μ D->ι D:=Ef C_ 1 (Wa t)
def Pd(t:Bo):Ag->ι Fl:= (sSeq (Fg_ e6!) (By (Hu t4! (Hu (G4_ Dr df_) (G4_ (Io t) nB_)))))
def Cb(t:Bo):μ D->ι D:=Ef C_ 1 (Pd t)
def Nz:Ag->ι Fl:= (By (L4_ df_ ay_))
def Cv:μ D->ι D:=Ef dh_ 1 (Nz)
def Pe:Ag->ι Fl:= (By (Ut Cv l_))
def Cs:μ D->ι D:=Ef cE! 1 (Pe)
def Xm(t:Bo):WS:= (Af (Fu t.B7 "following" i_ uh_) (Fu t.B7 "preceding" i_ uh_))
def Fp(t:Bo):WF:=Gv! [L!] Xm
def Kg(t:Bo):WS:= (Bd (Ih (wl jm_) (Il_ bR!)))
def Fb(t:Bo):WF:=EE! bR_ Kg
def Nf(t:Bo):WS:= (Af (Ak 3 (FE uk! D_ bQ_)) (Af (Jr_ 4 am!) (Af (Bt bR! am! o_) (Af (Bt e9_ o_ am!) (Af (Bt bR! o_ aL!) (Bt e9_ aL! o_))))))
def Ce(t:Bo):WF:=Bs [L!,ae_,cE_,"ahead","follower"] 3 (Nf t)
def Pf(t:Bo):WS:= (Af (Ak 2 (Tt e9_ o_)) (Af (Ak 3 (Tt bR! o_)) (Af (Bt bR! D_ am!) (Bt e9_ am! D_))))
def Hh(t:Bo):WF:=EE! [L!,ae_,"ahead","follower"] Pf
def Mn(t:Bo):WS:= (Af nD_ (Af (Jr_ 2 bQ_) (Af (Fj uo_ up!) cF!)))
def Je(t:Bo):WF:=Gv! [L!,jn_,ae_] Mn
def Rh(t:Bo):WS:= (Af (Fu t.B6 "parents" i_ (IG_ bQ_ bQ_)) (Af (Fu t.B6 "rows" i_ (IG_ gJ! gJ!)) (Af (Hk! "texts") (Af (Hk! "numbers") (Af (Hk! "written") (Hk! "hidden"))))))
def Gw(t:Bo):WF:=Gv! [L!] Rh
def Lm(t:Bo):WS:= (Bd (Il_ d2_))
def Ds(t:Bo):WF:=EE! bR_ Lm
def Ha(t:Bo):WS:= (Bd (Il_ fa_))
def Bk(t:Bo):WF:=EE! bR_ Ha
def Lf(t:Bo):WS:= (Af (Fj gJ_ gK!) (Bd (wl jm_)))
def Ek(t:Bo):WF:=Bs nH_ 3 (Lf t)
def Qg(t:Bo):WS:= (Af (Ak 4 (FE (wT us_) D_ jo!)) (Af ut! (Af ut_ (Af ur_ (Af us! uw!)))))
def Ic(t:Bo):WF:=J8! [L!,ar_,"parent","sibling",cG!] Qg
def Hb(t:Bo):WS:= (Bd (Ih nM! (Ih us_ (Wt (Ba t.B6 "is_within" 3 (Ek t) i_ (Ab D_ a2!))))))
def Dm(t:Bo):WF:=Bs nN! 3 (Hb t)
def Pg(t:Bo):WS:= (Af uy! (Af (Bb (Ba t.B7 "take_out" 2 (Hh t) (w2 Bl d2_ nG_) a2!)) (Af (Bb (F4! D_)) (Bt nG! o_ D_))))
def Fq(t:Bo):WF:=J8! gL! Pg
def Jm(t:Bo):WS:= (Af (Ap (Kb (HR! i_ bz!)) Nl Bi) (Af (Ak 5 am!) (Cu (Hm (Ur S!)) (Vi 6 7) (Af nO! (Af uA! (Af uB! (Ak 5 d4!)))))))
def Gk(t:Bo):WF:=Bs [L!,uC_,ar_,"behind","text","ahead","k","sign",ae_] 5 (Jm t)
def Ln(t:Bo):WS:= (Af (Ap (Kb (wT nM!)) Nl Bi) (Cu (Hm (Ma fb_ uD!)) gN! (Af uE! uG_)))
def Ie(t:Bo):WF:=J8! [L!,ar_,"first",fc!,"k",ae_] Ln
def Kh(t:Bo):WS:= (Ap (wT nM!) (Bt (w2 Bl nJ_ o_) D_ am!) Bi)
def Eb(t:Bo):WF:=J8! nP_ Kh
def Lw(t:Bo):WS:= (Bd (Bf 1 [0] (Br (Ba t.B7 "listed" 1 (Je t) uG! Ad)) t_ (wT (w2 jx_ i_ (As t.B6 "hidden" o_))) i_))
def Cf(t:Bo):WF:=EE! fc_ Lw
def Mo(t:Bo):WS:= (Bd (Oo "" (Bf 1 [0] uI! t_ d5_ (w2 Bl (As t.B6 "written" o_) i_))))
def Dv(t:Bo):WF:=EE! fc_ Mo
def Mm:Ag->ι Fl:= (By (Ms (f2 Au jy! jy_) (f2 Au jy! (fC nR!))))
def At:μ D->ι D:=Ef dh_ 1 (Mm)
def Rf:WS:= (Af (Ak 1 Fw) (IX_ (Hm (Dx jz!)) uK_))
def Fo:WF:=Bs [gH!,"words",cd_] 1 (Rf)
def Xi:WS:= (Af (Ak 1 (FJ_ Fo)) (Af nT_ (Af (Cu jz_ az_ jB_) fe!)))
def Kl:WF:=Bs [gH!,"words",jn_,cd_,ae_] 1 (Xi)
def BL(t:Bo):WS:= (Ap uP_ (Bb (Ba t.B6 "put" 4 (Ic t) i_ (Ab o_ (Kh! dj! jD_)))) (Ap uQ_ (F7_ "move" Fq) (Ap uR_ (Bb (Ba t.B6 "move" 4 (Fq t) i_ uS_)) (Ap uV! (Bb (Ba t.B6 "write" 5 (Gk t) i_ (Ab o_ gQ_))) (Ap uX! (F7_ "cut" Ie) (Ap uY! (F7_ "set_number" Eb) Bi))))))
def Mb(t:Bo):WF:=Bs nY_ 3 (BL t)
def Xj(t:Bo):WS:= (Af u0_ (Af (Ak 2 (FJ_ Kl)) (Af (Cu (Hm (Dx jz!)) az_ (Af gQ! u3_)) cF!)))
def Km(t:Bo):WF:=Gv! [gH!,nZ!,"left_out",cd_,ae_] Xj
def Wc(t:Bo):WS:= (Af (JL_ "ours" o_) (Af (JL_ "taken" Fw) (Af (JL_ "waiting" bU!) u5_)))
def Ip(t:Bo):WF:=EE! n0! Wc
def Ta(t:Bo):WS:= (Bd (H3_ Jw (Ev dk_ o_ n0_)))
def Fc(t:Bo):WF:=EE! n1! Ta
def Sz(t:Bo):WS:= (Af nD_ (IY! (Ym 1 n1_)))
def Fa(t:Bo):WF:=Gv! [z!,gH!,cE_] Sz
def Re(t:Bo):WS:= (Af (Ap (wT (w2 (λ_=>Pl) u7_ bQ_)) (JL_ "outline" (LA! 1)) Bi) (Bd u7_))
def Eg(t:Bo):WF:=Gv! [z!] Re
def Su(t:Bo):WS:= (Bd (w2 (λ_=>Ki) jJ_ vb!))
def Ex(t:Bo):WF:=EE! bU_ Su
def Vx(t:Bo):WS:= (Bd (w2 jA! jJ_ (w2 Li vb! d7!)))
def Gx(t:Bo):WF:=EE! bU_ Vx
def Sw(t:Bo):WS:= (Af (Ap (wT (w2 jA! (Jh! a2!) aF!)) (Bd aF!) Bi) (Bd (w2 Bl (w2 Bl (w2 Bl dk_ o_) jK_) (wl ar!))))
def Dz(t:Bo):WF:=EE! n4_ Sw
def Oa(t:Bo):WS:= (Af nT_ (Af (Cu (Br (w2 Li gS! o_)) az_ (Af gQ! (Af vf_ vg_))) fe!))
def Dp(t:Bo):WF:=EE! [z!,n7_,jL!,cd_,ae_,"same"] Oa
def Qf(t:Bo):WS:= (Af nT_ (Cu (Br (w1 Qy a2!)) az_ (Af vi_ (Af vm! vl_))))
def Ib(t:Bo):WF:=EE! [z!,jL!,"times",ae_,"time"] Qf
def Ob(t:Bo):WS:= (Af (LV! vo! Hy) (Bb (Am 2 (Ib t) (Kh! i_ (LW_ Dp)))))
def Er(t:Bo):WF:=EE! ea! Ob
def Xl(t:Bo):WS:= (Af (Bb (Em (Iy dk_ (wl n3_) bU!) o_)) u5_)
def Kn(t:Bo):WF:=EE! bU_ Xl
def Nd(t:Bo):WS:= (Af (Ak 1 aF!) (Af vq_ (Af (Fj (GH! (Lp_ (f1 Be cf_))) (Af Hy (Af (Bb (LR! Kn (wl bA_))) (Af (Rz 1 d7!) vq_)))) cF!)))
def Fy(t:Bo):WF:=Gv! [z!,fc!,cJ_] Nd
def Vu(t:Bo):WS:= (Af (Ap vr_ (Af (Bb (LW_ Kn)) (Bd (w2 Li d7! (FJ_ (Fy t))))) Bi) (Af (Ak 2 (Ws (LW_ Ex) (Il_ gS!))) (Af (Ap (Ee (Cc (Dy (fT x_))) (wT (w2 (λ_=>Pj) (H3_ Jw gS!) (wl (ED_ 8))))) (Bb (Em gS! o_)) Bi) (Bd aF!))))
def Im(t:Bo):WF:=EE! [z!,cd_,"known"] Vu
def BK(t:Bo):WS:= (FT! (Rz 2 vt_))
def Pp(t:Bo):WF:=EE! [z!,n7_,fc!,cd_] BK
def BN(t:Bo):WS:= (Af (Ak 2 (Vc o_)) (Bd (Bf 1 [2] (Br n3!) t_ (wT (w2 (λ_=>Rm) jN_ (Ev o_ cK! aF!))) i_)))
def Pq(t:Bo):WF:=EE! [z!,"have",oc_] BN
def Kf(t:Bo)(E:EK):WS:= (Af (Ak 2 (FJ_ (Eg t))) (Af (Ap vv! (GS_ (gN 1 g0)) Bi) fe!))
def Cy(t:Bo):BY:=λds M R E=>Bs [z!,ar_,nZ!] 2 (Kf t E) ds M R
def Cm(t:Bo):WF:=λds M R=>Cy t ds M R λ_ _=>False
def BJ(t:Bo):WS:= (Bd vy_)
def Rn(t:Bo):WF:=EE! bC! BJ
def Zb(t:Bo):WS:= (Bd (Fy_ vz!))
def Kw(t:Bo):WF:=EE! bC! Zb
def Vs(t:Bo):WS:= (Bd vA_)
def Kv(t:Bo):WF:=EE! bC! Vs
def Sv(t:Bo):WS:= (Bd (w2 Li d7! (H3_ (λ_=>Uk (ψ 0)) vB_)))
def Ho(t:Bo):WF:=Gv! [z!] Sv
def BM(t:Bo):WS:= (Af (Ak 2 (Mx (Kh! n6! (w2 Li (Jh! (Ab n6! Ad)) d7!)))) (Af (Bb (LR! Kn vC!)) fe!))
def Mc(t:Bo):WF:=EE! [z!,"deed",ae_] BM
def Ss(t:Bo)(E:EK):WS:= (Af (Ak 3 (Fy_ (Gi 2 (Cy t) E cJ!))) (Af (LV! vE! (GS_ vF!)) (Bd am!)))
def Hn(t:Bo):BY:=λds M R E=>Bs [z!,ar_,cG!,cJ_] 3 (Ss t E) ds M R
def Sr(t:Bo)(E:EK):WS:= (Af vG! (Af (LV! (fT (KY! Q!)) Hy) (Af (HR_ 5 S!) (Af (Ak 6 bU!) (Af (Cu vI! gV_ (Af vL! (Af vL_ vM!))) (Bd gW_))))))
def Po(t:Bo):BY:=λds M R E=>Bs [z!,ar_,cG!,"text",cJ_,"behind",jn_,"start",ae_] 4 (Sr t E) ds M R
def Gc:Ag->ι Fl:= (By (f2 Au u_ vN_))
def Da:μ D->ι D:=Ef oi! 2 (Gc)
def Vt:WS:= (Af (Ak 1 bU!) (IX_ jz_ vR_))
def Ni:WF:=Bs [cJ_,"rows",ae_] 1 (Vt)
def Xh(t:Bo)(E:EK):WS:= (Af vG! (Af (Ap (GH! (f2 Rm bW! dm!)) (GS_ (gN 3 vF!)) Bi) (Af (Ak 5 bU!) (Af (Cu (Br (Am 1 Ni (EV! (KY_ 1)))) gX_ vV_) (Bd ce!)))))
def Us(t:Bo):BY:=λds M R E=>Bs [z!,ar_,cG!,fc!,cJ_,jn_,"row"] 4 (Xh t E) ds M R
def Zj:Ag->ι Fl:= (Lf_ (Iz (J8_ l_) vW_ Fm) B_)
def Rp:μ D->ι D:=Ef gY! 2 (Zj)
def BP:Ag->ι Fl:= (sSeq (Fd 2 (f2 Cw (f2 Al (f1 Rp (Ac l_ dZ!)) (f2 Ej (ED_ 104729) vY_)) (ED_ 4294967291))) (sSeq (Fd 2 (f2 Cw (f2 Ej x_ (ED_ 48271)) (ED_ 4294967279))) (By (f2 Cw (f2 Al (f2 Ej (f2 Ir x_ (ED_ 64)) (ED_ 69621)) x_) (ED_ 4294967231)))))
def Aw:μ D->ι D:=Ef [a0!,a0_,dn!] 2 (BP)
def Xp:Ag->ι Fl:= (By (f2 Al (f2 Al (Hk_ [jg_]) (HK_ 1)) (Hk_ [gD_,(.tup [gZ!,gZ!])])))
def Eo:μ D->ι D:=Ef bW_ 1 (Xp)
def Xo:Ag->ι Fl:= (sSeq (Qd 1 (Eh_ bl! (fC (.tup [gZ!,gZ!,by!])))) (Lf_ (Uf fd_ bi_ (Iz v3_ v6! Fm)) u_))
def Mq:μ D->ι D:=Ef [bx!,jV_,cg_,a0_] 1 (Xo)
def Zc:Ag->ι Fl:= (sSeq (Fd 2 (fC (.str " abcXYZ.,;!019~[]\\\"'|{}<>@#$&*()-+/=_^:?`"))) (By (Xv (fC g1!) (Im! 1))))
def Hr:μ D->ι D:=Ef [dn!,g1_,wb_] 2 (Zc)
def Zd:Ag->ι Fl:= vW_
def Co:μ D->ι D:=Ef or! 2 (Zd)
def Oi:Ag->ι Fl:= (sSeq wc! (sSeq (Fd 5 jW!) (sSeq wc_ (sSeq wd_ (sSeq we! (sSeq we_ (sSeq wg! (sSeq wh! (sSeq wi! (sSeq wi_ (sSeq wk! (sSeq wk_ (sSeq wn! (sSeq wp_ (sSeq wq_ wr!)))))))))))))))
def Jg:μ D->ι D:=Ef [a0!,fn_,bx!,g1_,dn!,"_law_items_here",cb_,ow!,"_law_kinds","_law_kind","_law_sign","_law_names"] 4 (Oi)
def Xn:Ag->ι Fl:= (sSeq (Qd 3 Ae) (sSeq (Qd 4 wt_) (sSeq (Qd 5 wt_) (sSeq (Uf (Ft x_) gX_ (sSeq wv! (sSeq wv_ (sSeq ww! (sSeq ww_ (sSeq wx_ wz!)))))) (By Q!)))))
def Ko:μ D->ι D:=Ef [a0!,fn_,j1_,bx!,"_law_counts","_law_times",a0_,dn!,cB_,dd_] 3 (Xn)
def Uj:WS:= (Af nD_ (Af (Cu jz_ bi_ (HS! (Ep wA_ wB_))) cF!))
def Db:WF:=Bs [bx!,jV_,cg_,cB_] 1 (Uj)
def Wb:WS:= (Af (Ak 1 Fw) (IX_ oy_ (Ap wF_ wG! Bi)))
def Kz:WF:=Bs [bx!,"_law_last",cg_] 1 (Wb)
def Zh:WS:= (Af (Ak 4 (Bf 1 [1] wJ_ t_ (GH! oz!) i_)) (Af (Ak 5 aF!) (Af (Fj (Cc (Ep wL! wM_)) wO_) (Af (Cu (Hm (Ft dm!)) gX_ (Ap wS_ wT! Bi)) (Bt i_ j2_ (LA_ wV! wW_))))))
def Ht:WF:=Bs [cc!,cb_,wX_,wY_,e2_,cB_,a0_] 4 (Zh)
def Zg:WS:= (Af (Fj (Cc jp!) (Af wY! (Af wZ! (Ak 1 gS_)))) (Bd gN_))
def Lb:WF:=Bs [cc!,cb_,ow!,"_law_above"] 3 (Zg)
def Zf:WS:= (Ap (Ee (wT (Il_ bD!)) (Yj (wT (w2 by_ D_ bD!)) (wT (w2 by_ D_ w3!)))) (Ap w4_ w6! Bi) Bi)
def Hs:WF:=Bs hb_ 4 (Zf)
def Xr:WS:= (Af oB_ (Af oC! (Ap uP_ (Af w7_ (Af w8! (Af xa! xa_))) (Ap uQ_ oD_ (Ap uR_ oE! (Ap (Ee uY! (wT hc!)) xc! (Ap (Ee uV! (wT hc!)) (Af j9_ (Af (Ak 6 aF!) (Af (Cu xd_ gV_ xf_) (Af (Ak 8 oG_) xh!)))) (Ap (Ee uX! (wT hc!)) (Af (Ak 9 oJ_) (Af j9_ xj_)) Bi))))))))
def Vh:WF:=Bs [cc!,cg_,dd_,ka_,"_law_good",e2_,cB_,a0_,"_law_new",oK!] 2 (Xr)
def Vf:WS:= (Af xl! (Af xl_ (Af (Cu oy_ az_ (Ap (Ee xm! xn!) xo! Bi)) cF!)))
def La:WF:=Bs [bx!,cc!,"_law_undone_here",cg_] 1 (Vf)
def Qh:WS:= (Bd (Oo "" (Bf 1 [] xp! t_ fs! jN_)))
def Gd:WF:=Bs oL! 2 (Qh)
def Zi(t:Bo):WS:= (Af (Ak 4 xq_) (Af (Ak 5 (KS! bz!)) (Af (Bb (EH! Pp xr_)) (Bd (Mx xr_)))))
def Oj(t:Bo):WF:=J8! [a0!,fn_,hf_,j1_,bx!,jc_] Zi
def Ze:WS:= (Af (Ak 3 xs_) (Bd (wl (Ay (Ac u_ (Ac (Jh_ xu!) (Ac (Jh_ xw_) cf_)))))))
def Jf:WF:=Bs [bx!,hf_,dd_,"_law_times"] 3 (Ze)
def BO(t:Bo):WS:= (Af (Ak 5 bQ_) (Af (AW 7 5 (EJ t.NotThere "refused") λE=>(Ap (Cc (Eu_ u_ B_)) (JM_ Po) (JM_ Us))) (Bd ce!)))
def Ro(t:Bo):WF:=Bs [jc_,gA_,cb_,cB_,gB!,jV_,"e"] 5 (BO t)
def Xs:WS:= (Af (Rt (Qd 4 Ae)) (Af (Ap (Cc (Eu_ l_ B_)) (Af (HR_ 6 u_) (Af (Cu vI! (Bu 5) (Af xD! xF!)) (Bd aL!))) Bi) (Af (Ak 5 D_) (Af (Fj xG_ (Af (Ak 7 d7!) (Af (Fj (Cc xJ_) oP_) (Af xM! xN!)))) (Bd aL!)))))
def Kq:WF:=Bs [gA_,e2_,cB_,gB!,jV_,a0_,"_law_behind","_law_size"] 4 (Xs)
def Xk(t:Bo):WS:= (Af xQ_ (Af xS! (Af xS_ (Af xU! (Af (J9! (Af xX_ (Af (Ak 6 kh_) (Af xZ_ (Af x1! (Af x2! (Af x3_ (Af (Ak 11 oT_) (Af x8_ (Af x9_ (Af (Ap kj_ (Af (Ak 12 bU!) (Cu oW_ hj! (Af yb_ (Af yc_ (Af oY! yf_))))) Bi) (Af yk! (Ap kj_ (Af (Ak 14 kh_) (Af yk_ (Af yl_ (Af yo! yo_)))) Bi))))))))))))) (Bd gN_))))))
def AK(t:Bo):WF:=Gv! tY! Xk
structure Txt(P:zH!)(w:zF!)(K:zR!)(mg:U!)(t:Bo):Prop where
 D3:Aw! "is_whole" Sc C_
 D4:Aw! "is_below" Sf np_
 D5:Aw! "is_from_one" Ou C_
 D6:Aw! "is_name" Tz C_
 D7:Aw! "is_sign_name" Nt C_
 D8:Aw! "is_item" Ua C_
 D9:Aw! "is_sibling" Qa C_
 E1:Aw! "is_behind" Qs C_
 E2:Aw! "is_sign" Tw e5_
 E3:Aw! "is_text" Ot C_
 E4:Aw! "is_place" Se C_
 E5:Aw! "are_parts" Mj ny_
 E6:Aw! "is_deed" Ub C_
 E7:Aw! "is_operation" Nu C_
 E8:Aw! "time_and_hand" Mz dh_
 E9:Aw! "in_order" Sg cE!
 F6:Tn K mg "Row" t.B7 "Row.__init__" Vo [L!]
 F7:JN! Ct "holds" "Row.holds" Qu bR_
 F8:JN! Ct "put_behind" "Row.put_behind" Ml [L!,ae_,cE_]
 F9:JN! Ct "take_out" "Row.take_out" Nv bR_
 G6:JN! Ct "listed" "Row.listed" Qb [L!]
 G7:Tn K mg "Outline" t.B6 "Outline.__init__" Qc [L!]
 G8:Fm_ "has" "Outline.has" Oz bR_
 G9:Fm_ "has_item" "Outline.has_item" Lc bR_
 H9:Fm_ "is_within" "Outline.is_within" Kd nH_
 J0:Fm_ "put" "Outline.put" Oy gL!
 J4:Fm_ "can_move" "Outline.can_move" Ld nN!
 J5:Fm_ "move" "Outline.move" Ny gL!
 J6:Fm_ "write" "Outline.write" Nb yq!
 J7:Fm_ "cut" "Outline.cut" Pa yq_
 J8:Fm_ "set_number" "Outline.set_number" Jq nP_
 J9:Fm_ "signs_of" "Outline.signs_of" Gp fc_
 K0:Fm_ "text_of" "Outline.text_of" Gz fc_
 K3:Aw! "is_undo_or_redo" Ls dh_
 K4:Aw! "last_words" Pz cE!
 K5:Aw! "undone" Vl cE!
 K6:Aw! "play" Ys nY_
 K7:Aw! "played" Vm cE!
 K8:Tn K mg "Hand" t.B5 "Hand.__init__" Ud n0!
 K9:Ct K t.B5 "have" "Hand.have" Qw n1!
 L4:Aw! "all_taken" Qt [z!]
 L5:Aw! "outline_of" Py [z!]
 L6:Aw! "was_taken" Qq bU_
 L7:Aw! "is_next" Tx bU_
 L8:Aw! "last_time" Qr n4_
 L9:Aw! "not_yet_taken" Na ea!
 M9:Aw! "check_times" Ox [z!,jL!]
 N0:Aw! "check_message" Ii ea!
 N3:Aw! "accept" Vn bU_
 N4:Aw! "accept_waiting" Fk [z!]
 N5:Aw! "receive" Tv bU_
 N6:Aw! "take" Yr ea!
 N7:Aw! "give" Vd [z!,"have"]
 N8:Aw! "outline_with_item" Kc bC!
 N9:Aw! "text" Yq bC!
 O0:Aw! "signs" Wv bC!
 O3:Aw! "writers" Os bC!
 O4:Aw! "next_time" Mi [z!]
 O5:Aw! "make" Yt [z!,"deed"]
 O7:Aw! "signs_at" Sb [z!,ar_,cG!]
 O8:Aw! "write" Sa yr_
 O9:Aw! "is_followed" Ov oi!
 P0:Aw! "rows_of" Tu [cJ_]
 P1:Aw! "cut" Ww ys!
 P2:Aw! "_law_cell" Xb gY!
 P3:Aw! "_law_mix" Yv gY!
 P4:Aw! "_law_items" Qm bW_
 P5:Aw! "_law_signs" Vq bW_
 P6:Aw! "_law_text" Sh [dn!,g1_]
 P7:Aw! "_law_pick" Wz or!
 P8:Aw! "_law_deed" So ys_
 P9:Aw! "_law_world" Vp yt_
 Q0:Aw! "_law_ordered" Si bW_
 Q1:Aw! "_law_undone" Uc bW_
 Q2:Aw! "_law_hang" Sk hb_
 Q3:Aw! "_law_lies" Sj yu!
 Q4:Aw! "_law_move" Xa hb_
 Q5:Aw! "_law_do" Qv [cc!,cg_]
 Q6:Aw! "_law_play" Wx bW_
 Q7:Aw! "_law_shown_text" Ke oL!
 Q8:Aw! "_law_hand" Sl yu_
 Q9:Aw! "_law_next" Pb yv!
 R0:Aw! "_law_try" Yu yv_
 R3:Aw! "_law_deeds" Vr yw!
 R4:Aw! "law" Lr [a0!]
 R5:mg "abs"=υ
 R6:mg "all"=υ
 R7:mg "bool"=υ
 R8:mg "dict"=υ
 R9:mg "enumerate"=υ
 S1:mg "int"=υ
 S2:mg "isinstance"=υ
 S3:mg "len"=υ
 S4:mg "max"=υ
 S5:mg "ord"=υ
 S6:mg "range"=υ
 S7:mg "sorted"=υ
 S8:mg "str"=υ
 S9:mg "tuple"=υ
 T0:mg "zip"=υ
 T1:∃tk,mg "HANDS"=Fd_ 16
 T2:∃tk,mg "SIGNS"=Fd_ 16
 T3:∃tk,mg "PLACES"=Fd_ 4
 T4:∃tk,mg "LEFT_OUT"=Fd_ 37
 T5:∃tk,mg "MOST_WAITING"=Fd_ 8
 T6:mg "is_item"=EI_ t.A0
 T7:mg "is_sibling"=EI_ t.A7
 T8:mg "is_behind"=EI_ t.A8
 T9:mg "is_text"=EI_ t.A9
 U0:mg "is_sign_name"=EI_ t.B0
 U1:mg "is_from_one"=EI_ t.B1
 U2:mg "is_place"=EI_ t.B2
 U3:mg "is_whole"=EI_ t.B3
 U4:mg "is_name"=EI_ t.B4
 U5:To K t.B5
 U6:To K t.B6
 U7:JN! To
 U8:mg "HandsError"=EI_ o4!
 U9:mg "NotThere"=ψ yx!
 V0:XS.CM K t.NotThere
 V1:XS.Zw K o4!
 V2:W.subIn K yx! (.ref o4!)=ψ τ
 V3:JN! Dg "following"
 V4:JN! Dg "preceding"
 V5:Hl! "parents"
 V6:Hl! "rows"
 V7:Hl! "texts"
 V8:Hl! "numbers"
 V9:Hl! "written"
 W3:Hl! "hidden"
 W4:JN_ "ours"
 W5:JN_ "taken"
 W6:JN_ "waiting"
 W7:JN_ "outline"
 W8:∀X:Cx,X.prog=P->X.w=w->X.K=K->X.mg=mg->Tk X "PARTS" e9!
open Classical
def jR:∀(l:q!) (d v:D),JG_ hk!=ψ v
 |[],d,v=>by simp[Bq,kget]
 |(k,x)::r,d,v=>by
  delta Bq;by_cases h:k=d
  .rw[KQ h];simp[kget,h]
  .rw[LB h];simp[kget,h,jR r d v]
def mL(h:d≠e):∀(l:q!) (v:D),kget hk! e=kget l e
 |[],v=>by simp[Bq,kget,h]
 |(k,x)::r,v=>by
  delta Bq;show"#$"
  .rw[bg_];subst hk;simp[kget,h]
  .rw[bh!];dsimp only[kget];rw[mL h r v]
def c0w(h:d≠e):∀(l:q!),kget hk_ e=kget l e
 |[]=>rfl
 |(k,x)::r=>by
  delta He;show"#$"
  .rw[bg_];subst hk;simp[kget,h]
  .rw[bh!];dsimp only[kget];rw[c0w h r]
def a9e:∀{l:q!} {d:D},kget l d≠υ↔d∈l.map b_
 |[],d=>by simp[kget]
 |(k,x)::r,d=>by
  delta kget;show"#$"
  .subst hk;simp
  .rw[bh!,a9e];simp[MD hk]
def a5m:∀{l:q!} {d:D},(es!).Nodup->JG_ hk_=υ
 |[],d,_=>rfl
 |(k,x)::r,d,h=>by
  rw[LA,LO]at h;delta He;show"#$"
  .rw[bg_];subst hk;cases e:kget r k with
   |none=>rfl
   |some v=>exact Ei_ (a9e.mp qh!) h.1
  .rw[bh!];delta kget;rw[bh!];exact a5m h.2
def b2k:∀{l:q!} {d v:D} {e:D},e∈Ej_ hk!↔e=d\/e∈l.map b_
 |[],d,v,e=>by simp[Bq]
 |(k,x)::r,d,v,e=>by
  delta Bq;show"#$"
  .rw[bg_];subst hk;simp
  .rw[bh!];simp![LA,KR];rw[b2k];constructor<;>(rintro(h|h|h)<;>simp[h])
def kU:∀{l:q!} {d v:D},(es!).Nodup->(Ej_ hk!).Nodup
 |[],d,v,_=>by simp[Bq]
 |(k,x)::r,d,v,h=>by
  rw[LA,LO]at h;delta Bq;show"#$"
  .rw[bg_];simp![LA,LO];exact h
  .rw[bh!];simp![LA,LO];exact#[bJ_,kU h.2];obtain z|z:=b2k.mp z
   .exact hk z
   .exact h.1 z
def c0y:∀{l:q!} {d e:D},e∈Ej_ hk_->e∈l.map b_
 |[],d,e,h=>by simp[He]at h
 |(k,x)::r,d,e,h=>by
  delta He at h;show"#$"
  .rw[bg_]at h;simp![LA,KR];exact .inr h
  .rw[bh!]at h;simp![LA,KR]at h ⊢;obtain h|h:=h
   .exact .inl h
   .exact .inr (c0y h)
def c0z:∀{l:q!} {d:D},(es!).Nodup->(Ej_ hk_).Nodup
 |[],d,_=>by simp[He]
 |(k,x)::r,d,h=>by
  rw[LA,LO]at h;delta He;show"#$"
  .rw[bg_];exact h.2
  .rw[bh!];simp![LA,LO];exact#[λz=>h.1 (c0y z),c0z h.2]
def jX:kget hk! z=if z=d then ψ v else kget l z:=by
 by_cases h:z=d
 .rw[KQ h,h,jR]
 .rw[LB h,mL (MD h)]
def c0x(nd:o5!):kget hk_ z=if z=d then υ else kget l z:=by
 by_cases h:z=d
 .rw[KQ h,h,a5m nd]
 .rw[LB h,c0w (MD h)]
def Rj:D->μ D->D->ι D
 |a,[],z=>if z=a then ψ .non else υ
 |a,x::r,z=>if z=a then ψ x else Rj x r z
nonrec def lst:D->μ D->D
 |a,[]=>a
 |_,x::u=>lst x u
def tN:∀{u:d!} {a:D},lst a u∈a::u
 |[],_=>KM
 |_::_,_=>KI _ tN
def a1l:∀{u:d!} {a:D},lst a (u++[x])=x
 |[],_=>rfl
 |_::u,_=>a1l (u:=u)
def pR:∀{u:d!} {a:D},u.reverse.headD a=lst a u
 |[],_=>rfl
 |x::u,a=>by
  rw[List.reverse_cons];exact Eq.trans ?_ (pR (a:=x));cases u.reverse<;>rfl
def c0h:∀{l:d!},Rj a l a=ψ (l.headD .non)
 |[]=>KQ χ
 |_::_=>KQ χ
def d2i(h:z≠a)(g:z≠b):∀{l:d!},Rj a l z=Rj b l z
 |[]=>(LB h).trans (LB g).symm
 |_::_=>(LB h).trans (LB g).symm
def a1n:∀{l:d!} {a z:D},Rj a l z≠υ↔z∈a::l
 |[],a,z=>by delta Rj;by_cases h:z=a<;>simp[h]
 |x::r,a,z=>by
  delta Rj;by_cases h:z=a
  .simp[h]
  .rw[LB h,a1n,KR];simp[h]
def d2h(h:z∉a::l):Rj a l z=none:=QO λe=>h (a1n.mp e)
def tO:∀{l:d!} {a z v:D},Rj a l z=ψ v->v=.non\/v∈l
 |[],a,z,v,h=>by
  delta Rj at h;split at h
  .rcases h;exact .inl χ
  .rcases h
 |x::r,a,z,v,h=>by
  delta Rj at h;split at h
  .rcases h;exact .inr KM
  .exact(tO h).imp_right (KI _)
def a1o:∀{u:d!} {a:D},(a::u).Nodup->Rj a S_ (lst a u)=ψ fu_
 |[],_,_=>c0h
 |x::u,a,nd=>by
  rw[LO]at nd;exact(LB λe:lst x u=a=>nd.1 (Ev! e tN)).trans (a1o nd.2)
def tP:∀{u:d!} {a:D},n∉a::u->(a::u).Nodup->∀z,Rj a cR! z=if z=n then ψ fu_ else if z=lst a u then ψ n else Rj a S_ z
 |[],a,hn,_,z=>by
  show(if z=a then ψ n else Rj n v z)=if z=n then _ else if z=a then _ else Rj a v z
  by_cases c:z=n
  .subst c;rw[LB λe:z=a=>hn fv!,y_,c0h]
  .rw[LB c];by_cases d:z=a
   .rw[KQ d,KQ d]
   .rw[LB d,LB d];exact d2i c d
 |x::u,a,hn,nd,z=>by
  rw[KR,SZ]at hn;rw[LO]at nd;show(HL! cR!)=if z=n then _ else if z=lst x u then _ else(HL! S_)
  rw[tP hn.2 nd.2];by_cases c:z=a
  .rw[KQ c,KQ c,LB λe:z=n=>hn.1 (e.symm.trans c),LB λe:z=lst x u=>nd.1 (by rw[<-c,e];exact tN)]
  .rw[LB c,LB c]
structure Fz(xs:d!)(k:q!):Prop where
 f:∀z,kget k z=Rj .non xs z
 kn:(k.map b_).Nodup
 nd:(D.non::xs).Nodup
 hk:∀x∈xs,∃k,Cj x=ψ k
def b9p:∀{l m:aa_},l.Nodup->(∀a∈l,a∈m)->K!<=m.length
 |[],_,_,_=>ML _
 |a::l,m,h,hs=>by
  rw[LO]at h;let ha:=hs a KM;let:=b9p h.2 λb J=>(List.mem_erase_of_ne λz:b=a=>h.1 (z▸J)).mpr (hs b (KI _ J));rw[List.length_erase_of_mem ha]at this;let:=List.length_pos_of_mem ha;rw[KW];omega
def Fz.has(h:Fz xs k):kget k z≠υ↔z∈D.non::xs:=by rw[h.f];exact a1n
def Fz.len(h:Fz xs k):kq!<=h_+1:=by let:=b9p h.kn λa ha=>h.has.mp (a9e.mpr ha);simpa using this
def Fz.key(h:Fz xs k)(hz:z∈D.non::xs):∃k,Cj z=ψ k:=by
 obtain rfl|hz:=KR.mp hz
 .exact O_
 .exact h.hk z hz
def Fz.ins(h:Fz S_ k)(hn:n∉D.non::S_)(hm:∃k,Cj n=ψ k)(kn:yC_)(e:∀z,kget k' z=if z=n then ψ fu_ else if z=Ji! u then ψ n else kget k z):Fz cR! k':=by
 let nd:=h.nd;show"!o";exact#[bJ_,kn,p.nodup_iff.mpr (LO.mpr #[hn,nd]),aA!]
 .rw[<-PM,KS,SZ]at hn;rw[e,h.f,tP hn.1 (o8_).1]
 .obtain z|z:=KS.mp hx
  .exact h.hk x dP!
  .obtain rfl|z:=KR.mp z
   .exact hm
   .exact h.hk x iZ!
def Fz.out(h:Fz cR! k)(kn:yC_)(e:∀z,kget k' z=if z=Ji! u then ψ fu_ else if z=n then υ else kget k z):Fz S_ k':=by
 show"!o";let nd:=Gq! h.nd;show"#F";rw[<-PM]at n2;let nu:=(o9!).1;exact#[bJ_,kn,nd.2,λx hx=>h.hk x (KS.mpr ((o9_).imp_right (KI _)))];rw[e,h.f,tP n1.1 nu];by_cases c:z=Ji! u
 .rw[KQ c,c,a1o nu]
 .rw[LB c];by_cases d:z=n
  .rw[KQ d,d,d2h nd.1]
  .rw[LB d,LB d,LB c]
def a3u:Fz [] pa_:=#[λz=>by show(GM! D.non z)=if z=D.non then _ else _;simp![eq_comm];rfl,H_,H_,λ_ h=>by exact(cX!).elim]
def jJ:∀{l:IM! α β} {a:α} {b c:β},(es!).Nodup->(a,b)∈l->(a,c)∈l->b=c
 |[],_,_,_,_,h,_=>by exact(cX!).elim
 |(x,y)::r,a,b,c,nd,Y,h2=>by
  rw[LA,LO]at nd;obtain z|z:=KR.mp Y<;>obtain w|w:=KR.mp h2
  .cases z;cases w;rfl
  .cases z;exact Ei_ (LK w) nd.1
  .cases w;exact Ei_ (LK z) nd.1
  .exact jJ nd.2 z w
def Xt(n a:D):μ D->μ D
 |[]=>[]
 |x::r=>if x=a then x::n::r else x::Xt n a r
def Lx(n a:D)(xs:d!):μ D:=if a∈xs then Xt n a xs else n::xs
def kY:∀{u v:d!},a∉u->Xt n a (u++a::v)=u++a::n::v
 |[],v,_=>by simp[Xt]
 |x::u,v,h=>by
  rw[KR,SZ]at h;dsimp only[List.cons_append,Xt];rw[lz!,kY h.2]
def kA:∀{l:aa_},a∈l->∃u v,l=u++a::v/\a∉u
 |x::r,h=>by
  by_cases e:a=x
  .exact#[[],r,by rw[e];rfl,H_]
  .let#[u,v,rfl,hu]:=kA (Js! e);exact#[x::u,v,χ,by simp[e,hu]]
def nV(n o:D)(xs:d!):∃u v,xs=u++v/\Lx n o xs=u++n::v/\Ji! u=if o∈xs then o else .non:=by
 delta Lx;by_cases h:o∈xs
 .let#[u,v,rfl,hu]:=kA h;exact#[u++[o],v,H_,by rw[KQ h,kY hu];simp,by rw[KQ h,a1l]]
 .exact#[[],xs,χ,yF!,yF!]
def d8g:(Ej! "preceding" "following")=false:=by decide+kernel
def b2x:(Ej! "following" "following")=true:=by decide+kernel
def lkP:zQ_ "preceding" [(Str.ofString "following",a),(Str.ofString "preceding",b)]=ψ b:=by rfl
structure Gr(t:Bo)(M:Mh)(r f p:sS!)(xs:d!):Prop where
 ob:M r=ψ pb_
 dc:∃kf ef kp ep,M f=CF_ kf ef/\M p=Lg! kp/\Fz xs kf/\Ji_ Fz
 ne:f≠p
def zF:Il d=τ↔d=.non:=by cases d<;>simp[Il]
def kH(hd:d≠.non):Il d=false:=by cases q:Il d with|false=>rfl|true=>exact Ei_ (zF.mp q) hd
def a5v(h:ks!)(hk:br!)(hR:R (FD_ (d∈xs)) M):Fb t [.fn r,d] M R:=by
 let#[kf,ef,kp,ep,hf,hp,K,_]:=h.dc;exact j!;by_cases hd:d=.non
 .subst hd;rw[LD (LO.mp K.nd).1]at hR;simpa[Kg,Bd,Ih,wT,wl,f2,Aa,fC,Bn,Il]using hR
 .let e3:(JG_ kf).isSome=decide (d∈xs):=by
   let:=K.has (z:=d);cases q:JG_ kf with
   |none=>rw[q]at this;simp[hd]at this;simp[this]
   |some v=>rw[q]at this;simp[hd]at this;simp[this]
  rw[<-e3]at hR;simpa[Kg,Bd,Ih,wT,wl,f2,Aa,fC,Bn,kH hd,w2,As,Gm,h.ob,Di,Hk,hf,hk,b2x]using hR
structure RW(t:Bo)(M0 M:Mh)(r f p:sS!)(kf kp:q!):Prop where
 ob:M r=ψ pb_
 hf:∃e,M f=CF_ kf e
 hp:∃e,M p=CF_ kp e
 ne:f≠p/\r≠f/\r≠p
 fr:∀b,b≠f->b≠p->M b=M0 b
section
variable{M0:Mh}
def RW.upF(h:cR_):FK! (Lw! f c) c kp:=by let#[n1,n2,n3]:=h.ne;let#[ep,hp]:=h.hp;exact#[(Eo! n2).trans h.ob,yJ!,#[ep,(Lq! n1).trans hp],h.ne,λb b1 b2=>(Eo! b1).trans yJ_]
def RW.upP(h:cR_):FK! (Lw! p c) kf c:=by let#[n1,n2,n3]:=h.ne;let#[ef,hf]:=h.hf;exact#[(Eo! n3).trans h.ob,#[ef,(Eo! n1).trans hf],yJ!,h.ne,λb b1 b2=>(Eo! b2).trans yJ_]
def RW.fol(h:cR_)(h0:fx_)(K:Y!):As t.B7 "following" i_ ρ M K=K (.fn f) M:=by simp[As,wl,h0,Gm,h.ob,b2x,Di]
def RW.pre(h:cR_)(h0:fx_)(K:Y!):As t.B7 "preceding" i_ ρ M K=K u! M:=by simp[As,wl,h0,Gm,h.ob,lkP,Di]
def RW.pf(h:cR_)(h0:fx_)(hi:fy!)(hv:fv ρ=ψ v)(hk:aX_)(hl:kf.length<big)(q:∀M',FK! M' (Bq kf y v) kp->Q Z! M'):Ix_ bR! fv Q:=by let#[e,hf]:=h.hf;simpa[Bt,wl,hv,hi,h.fol h0,Jt,hf,hk,hl,Di]using q _ h.upF
def RW.pp(h:cR_)(h0:fx_)(hi:fy!)(hv:fv ρ=ψ v)(hk:aX_)(hl:kp.length<big)(q:∀M',FK! M' kf (Bq kp y v)->Q Z! M'):Ix_ e9_ fv Q:=by let#[e,hp]:=h.hp;simpa[Bt,wl,hv,hi,h.pre h0,Jt,hp,hk,hl,Di]using q _ h.upP
def RW.popF(h:cR_)(h0:fx_)(hi:fy!)(hk:aX_)(hv:kget kf y=ψ v)(q:∀M',FK! M' (He kf y) kp->K v M'):Tt bR! hn! ρ M K:=by let#[e,hf]:=h.hf;simpa[Tt,wl,hi,h.fol h0,Dd,hf,hk,hv,Di]using q _ h.upF
def RW.popP(h:cR_)(h0:fx_)(hi:fy!)(hk:aX_)(hv:kget kp y=ψ v)(q:∀M',FK! M' kf (He kp y)->K v M'):Tt e9_ hn! ρ M K:=by let#[e,hp]:=h.hp;simpa[Tt,wl,hi,h.pre h0,Dd,hp,hk,hv,Di]using q _ h.upP
def RW.of(h:ks!):∃kf kp,RW t M M r f p kf kp/\Fz xs kf/\Ji_ Fz:=by let#[kf,ef,kp,ep,hf,hp,K,Kp]:=h.dc;exact#[kf,kp,#[h.ob,#[ef,hf],#[ep,hp],#[h.ne,(λz=>by let:=h.ob;rw[z,hf]at this;rcases this),λz=>by let:=h.ob;rw[z,hp]at this;rcases this],yL!],K,Kp]
def RW.at(h:cR_)(K:Fz xs kf)(Kp:Ji_ Fz):GP_ M xs:=by let#[ef,hf]:=h.hf;let#[ep,hp]:=h.hp;exact#[h.ob,#[kf,ef,kp,ep,hf,hp,K,Kp],h.ne.1]
def sq(h:q1 ρ M λr M1=>match r with|.nx bf=>q2 bf M1 Q|.rt d=>Q ag! M1):Af q1 q2 ρ M Q:=h
end
def jU(h:ks!)(hn:Cj n=ψ kn)(ho:Cj o=ψ ko)(nx:n∉D.non::xs)(hl:h_<5000)
  (hR:∀M',GP_ M' (Lx n o xs)->yO!->Fl! M'):Ce t [.fn r,n,o] M R:=by
 let#[kf,kp,w,K,Kp]:=RW.of h;let#[u,v,rfl,c2,ea]:=nV n o xs;let nd:=K.nd;let lu:=(K.f _).trans (a1o (o8_).1);let ma:lst D.non u∈D.non::S_:=by rw[<-PM];exact LN _ tN
 let mb:v.headD D.non∈D.non::S_:=by
  obtain z|z:=tO yP!
  .rw[z];exact KM
  .exact KI _ z
 let#[ka,xi]:=K.key ma;let#[kb,nq]:=K.key mb;let nb:v.headD D.non≠n:=λz=>nx (z▸mb);let ev:v.headD D.non=lst .non pg_:=by rw[<-pR,List.reverse_reverse]
 let eu:lst D.non u=u.reverse.headD .non:=pR.symm;let L:=K.len;let L':=Kp.len;rw[List.length_reverse]at L';rw[List.reverse_append]at Kp;generalize jq:lst D.non u=a0 at *;generalize xk:v.headD D.non=b0 at *;let K1:=K.ins nx #[kn,hn] (kU (kU K.kn)) λz=>by rw[jX,jX,xk,jq]
 let K2:=Kp.ins (k':=Bq (Bq kp n a0) b0 n) (λz=>nx (by simpa[or_comm]using z)) #[kn,hn] (kU (kU Kp.kn)) λz=>by
  rw[jX,jX,<-ev,<-eu];by_cases c:z=b0
  .rw[KQ c,LB (c▸nb),KQ c]
  .rw[LB c,LB c]
 let l1:kf.length<big:=by delta big;omega
 let l2:kp.length<big:=by delta big;omega
 let l3:(Bq kf a0 n).length<big:=NK ho! an!;let l4:(Bq kp n a0).length<big:=NK ho! an!;exact j!;let#[ef,hf]:=w.hf;let hm:Cz t.B7 "holds" M ks_:=by simp[Cz,h.ob];exact#[gB_,gB_]
 let e1:∀K:D->Mh->Prop,K a0 M->FE uk! D_ bQ_ [fz_,bE!,ψ o,υ,υ] M K:=λK hK=>by
  exact#[hm,χ,a5v h ho ?_];rw[ea]at hK;by_cases c:o∈u++v
  .rw[KQ c]at hK;rw[LM c];exact hK
  .rw[LB c]at hK;rw[LD c];exact hK
 exact e1 _ ?_;let e2:Bl M (.fn f) a0=ψ b0:=by simp[Bl,hf,xi,lu]
 let e3:∀K:D->Mh->Prop,K b0 M->w2 Bl bR! am! [fz_,bE!,ψ o,ψ a0,υ] M K:=λK hK=>by
  delta w2;rw[w.fol χ];simpa[wl,Aa,e2]using hK
 exact e3 _ ?_;exact sq (w.pf (ρ:=[fz_,bE!,ψ o,ψ a0,ψ b0]) χ χ χ xi l1 λM1 w=>?_);exact sq (w.pp χ χ χ hn l2 λM2 w=>?_);exact sq (w.pf χ χ χ hn l3 λM3 w=>?_);exact E7_ w.pp χ nq l4 λM4 w=>hR M4 (by rw[c2];exact w.at K1 yS!) w.fr
def a3m(h:GP_ M cR!)(hn:Cj n=ψ kn)(hl:(cR!).length<5000)
  (hR:∀M',GP_ M' S_->yO!->Fl! M'):Hh t [.fn r,n] M R:=by
 let#[kf,kp,w,K,Kp]:=RW.of h;let e1:(cR!).reverse=pg_++n::u.reverse:=by simp
 let at_:∀{u v:d!} {k:q!},Fz cR! k->kget k n=ψ fu_/\n∉D.non::S_:=λ{u v k} K=>by
  show"!o";let nd:=Gq! K.nd;exact#[?_,nd.1];show"#F";rw[K.f,tP n1.1 (o9!).1,y_]
 let L:=K.len;let L':=Kp.len;rw[List.length_reverse]at L';rw[e1]at Kp;let ev:v.headD D.non=lst .non pg_:=by rw[<-pR,List.reverse_reverse]
 let lu:=(at_ K).1;let WU:=(at_ Kp).1;let#[kb,nq]:=K.key (z:=v.headD .non) (F4_ yP!);let#[ka,xi]:=Kp.key (z:=u.reverse.headD .non) (F4_ ((Kp.f _).symm.trans WU));let eu:lst D.non u=u.reverse.headD .non:=pR.symm;let K1:=K.out (kU (c0z K.kn)) λz=>by rw[jX,c0x K.kn]
 let K2:=Kp.out (kU (c0z Kp.kn)) λz=>by rw[jX,c0x Kp.kn]
 rw[<-ev]at K2;rw[eu]at K1;generalize u.reverse.headD D.non=a0 at *;generalize v.headD D.non=b0 at *;let dl:∀{l:q!},(He l n).length<=K!:=λ{l}=>by
  induction l with
  |nil=>exact LJ _
  |cons q l ih=>delta He;split;exact OO _;exact UF ih
 let l1:(He kf n).length<big:=NK dl an!;let l2:(He kp n).length<big:=NK dl an!;exact j!;exact sq ?_;delta Ak;exact El_ w.popP hn WU λM1 w=>sq ?_;exact El_ w.popF hn lu λM2 w=>sq ?_;exact w.pf (ρ:=[fz_,bE!,ψ a0,ψ b0]) χ χ χ xi l1 λM3 w=>?_;exact E7_ w.pp χ nq l2 λM4 w=>hR M4 (w.at K1 yS!) w.fr
abbrev root:D:=.str "root"
abbrev Cq:D:=.str "bin"
def b7t:root≠Cq:=by intro z;simp![D.str.injEq]at z;exact Hg_ g!
def Gs(x:D):Prop:=∃a b,x=.tup yV!
def Oc(x:D):Prop:=∃a b c,x=.tup yU_
def Gs.key(h:Gs x):∃k,Cj x=ψ k:=by let#[a,b,rfl]:=h;exact O_
def Oc.key(h:Oc x):∃k,Cj x=ψ k:=by let#[a,b,c,rfl]:=h;exact O_
def Gs.nn(h:Gs x):x≠.non/\x≠root/\x≠Cq:=by let#[a,b,rfl]:=h;exact#[?_,?_,?_]<;>(intro z;cases z)
def Oc.nn(h:Oc x):x≠.non:=by let#[a,b,c,rfl]:=h;intro z;cases z
structure OW where
 rows:μ av!
 its:μ D
 txt:D->μ bm_
 num:D->μ D
open Classical in
def Fi(rows:q!)(x:D):μ D:=(rows.filter λq=>q.2=x).map b_
open Classical in
nonrec def wo(rows:q!)(i:D):μ av!:=rows.filter λq=>q.1≠i
inductive Wn(rows:q!)(i:D):D->Prop
 |here:HL_ Wn i
 |up {x p:D}:a4_∈rows->HL_ Wn p->HL_ Wn x
def Om(rows:q!)(i p s:D)(rows':q!):Prop:=∃u v,HL_ wo=u++v/\rows'=u++b1!::v/\((s∉Fi du! p/\Fi u p=[])\/∃u',u=u'++[du_])
def Hi(W:OW)(x:D):Prop:=x∈W.its\/x=root\/x=Cq
structure Bv(W:OW):Prop where
 nd:W.its.Nodup
 nm:∀x∈W.its,Gs x
 rnd:(pi!).Nodup
 ri:∀x,x∈W.rows.map b_↔x∈W.its
 rp:∀i p,b1!∈W.rows->Hi W p
 rk:∃rk:D->Nat,∀i p,b1!∈W.rows->rk p<rk i
 snd:∀x∈W.its,(pi_).Nodup
 sg:∀x∈W.its,∀q∈W.txt x,Oc q.1
 su:∀x∈W.its,∀y∈W.its,∀q∈W.txt x,∀q'∈W.txt y,q.1=q'.1->x=y
 nl:∀x∈W.its,(W.num x).length=4
section
def jW:q∈HL_ wo↔q∈rows/\q.1≠i:=by delta wo;rw[MX];simp
def gP:c∈Fi rows x↔(c,x)∈rows:=by
 delta Fi;rw[LC];show"#<"
 .rintro⟨⟨a,b⟩,h,rfl⟩;rw[MX]at h;let:=h.2;simp at this;rw[<-this];exact h.1
 .intro h;exact#[(c,x),MX.mpr #[h,H_],χ]
def eU:Fi S_ x=Fi u x++Fi v x:=by delta Fi;rw[QM,LG]
def jZ:Fi (b1!::v) p=i::Fi v p:=by delta Fi;rw[NM c_];rfl
def sV(h:p≠x):Fi (b1!::v) x=Fi v x:=by delta Fi;rw[NS kz_]
def tX:(Ej_ du!).Sublist p1!:=by delta wo;exact(SF).map _
def Om.chl_same(h:hp_)(nd:fO!):Fi rows' p=Lx i s (Fi du! p):=by
 let#[u,v,e,rfl,hc]:=h;rw[eU,jZ];let nv:(Ej_ S_).Nodup:=by rw[<-e];exact nd.sublist tX
 obtain⟨Y,h2⟩|⟨u',rfl⟩:=hc
 .delta Lx;rw[LB Y,e,eU,h2];rfl
 .rw[e];let hs:s∈Fi yX_ p:=gP.mpr c_;delta Lx;let h2:Fi (u'++[du_]) p=Fi u' p++[s]:=by rw[eU,jZ];rfl
  let h3:Fi yX_ p=Fi u' p++s::Fi v p:=by rw[eU,h2];simp
  rw[KQ hs,h2,h3];let hu:s∉Fi u' p:=λz=>by
   let:=gP.mp z;simp![LG,LA,RH,LZ]at nv;rw[MB]at nv;exact nv.2.2 _ (LK this) s c_ χ
  rw[kY hu];simp
def Om.chl_ne(h:hp_)(hx:p≠x):Fi rows' x=Fi du! x:=by let#[u,v,e,rfl,hc]:=h;rw[eU,sV hx,e,eU]
def Om.mem(h:hp_):q∈rows'↔q=b1!\/q∈HL_ wo:=by
 let#[u,v,e,rfl,hc]:=h;rw[e];simp![KS,KR];show"#<"
 .rintro(z|z|z)<;>simp[z]
 .rintro(z|z|z)<;>simp[z]
def Om.nd(h:hp_)(nd:fO!):(rows'.map b_).Nodup:=by
 let#[u,v,e,rfl,hc]:=h;let nv:(Ej_ S_).Nodup:=by rw[<-e];exact nd.sublist tX
 let ni:i∉Ej_ S_:=λz=>by
  let#[q,hq,hi]:=LC.mp z;rw[<-e]at hq;exact(pj_).2 hi
 simp![LG,LA]at nv ni ⊢;rw[MB]at nv ⊢;rw[KS,SZ]at ni;exact#[nv.1,LO.mpr #[ni.2,nv.2.1],λa ha b J=>?_];obtain rfl|J:=KR.mp J
 .exact λz=>ni.1 (z▸ha)
 .exact nv.2.2 a ha b J
def zW(h:(i,x)∉rows):Fi du! x=Fi rows x:=by delta Fi wo;rw[PJ];congr 1;apply PB;intro q hq;simp![ne_eq,decide_not,Bool.and_eq_left_iff_imp,LV,UM,QZ,PN];rintro rfl z;exact h pl!
def a9z(nd:fO!)(h:(i,x)∈rows):∃u v,Fi rows x=u++i::v/\Fi du! x=u++v:=by
 let#[a,b,e,_]:=kA h;let n1:i∉(a++b).map b_:=by
  rw[e]at nd;simp![LG,LA]at nd ⊢;rw[MB,LO]at nd;rw[KS,SZ];exact#[λz=>nd.2.2 _ z i c_ χ,nd.2.1.1]
 let e2:HL_ wo=a++b:=by
  delta wo;rw[e,QM,NS c_];let keep:∀l:List av!,i∉l.map b_->l.filter (λq=>decide (q.1≠i))=l:=λl hl=>MY.mpr λq hq=>by
   simp![ne_eq,decide_not,UM,QZ,PN];exact λz=>hl pm!
  rw[LG,KS,SZ]at n1;rw[keep a n1.1,keep b n1.2]
 exact#[Fi a x,Fi b x,?_,?_]
 .rw[e,eU,jZ]
 .rw[e2,eU]
def a7g(nd:fO!)(h:a4_∈rows)(hx:x≠i):HL_ Wn x↔HL_ Wn p:=by
 show"#<"
 .intro z;cases z with
  |here=>exact Ew! hx
  |up h2 z=>rw[jJ nd h h2];exact z
 .exact λz=>.up h z
def b6h(h:∀p,a4_∉rows)(hx:x≠i):¬HL_ Wn x:=λz=>by
 cases z with
 |here=>exact hx χ
 |up h2 _=>exact h _ h2
def Om.winv(h:KS_ i)(w:Bv W)(hi:aN!)(hp:Hi W p)(hw:¬Lq_ p):Bv {W with rows:=rows'}:=by
 exact#[w.nd,w.nm,h.nd w.rnd,ky!,ky_,?_,w.snd,w.sg,w.su,w.nl]
 .show x∈rows'.map b_↔x∈W.its;rw[<-w.ri x];show"#<"
  .intro z;let#[q,hq,rfl]:=LC.mp z;obtain rfl|hq:=H4_ hq
   .exact(w.ri i).mpr hi
   .exact LK (pj_).1
  .intro z;by_cases hx:x=i
   .subst hx;exact LC.mpr y3!
   .let#[q,hq,rfl]:=LC.mp z;exact LB! (jW.mpr #[hq,hx])
 .show Hi W b;obtain z|z:=H4_ hm
  .cases z;exact hp
  .exact w.rp _ _ (jW.mp z).1
 .let#[rk,jg]:=w.rk;exact#[λx=>if Wn W.rows i x then rk x+rk p+1 else rk x,ky_];obtain z|z:=H4_ hm
  .cases z;dsimp only;rw[LB hw,KQ .here];omega
  .let#[z1,z2]:=jW.mp z;let:=jg _ _ z1;let q:=a7g w.rnd z1 z2;dsimp only;by_cases c:Lq_ a
   .rw[KQ c,KQ (q.mp c)];omega
   .rw[LB c,LB (λz=>c (q.mpr z))];show"#;"
def Ij(W:OW)(n:D)(rows':q!):OW:=#[rows',W.its++[n],y4!,y4_]
def Om.winv_put(h:KS_ n)(w:Bv W)(hn:n∉W.its)(ht:Gs n)(hp:Hi W p):Bv fA_:=by
 let nn:n∉W.rows.map b_:=λz=>hn ((w.ri n).mp z);let xm:Fe! wo n=W.rows:=by
  exact MY.mpr λq hq=>?_;simp![ne_eq,decide_not,UM,QZ,PN];exact λz=>nn pm!
 let pn:p≠n:=λz=>by
  obtain q|q|q:=hp
  .exact hn (z▸q)
  .exact ht.nn.2.1 (z▸q)
  .exact ht.nn.2.2 (z▸q)
 let im:∀x,x∈(fA_).its↔x∈W.its\/x=n:=λx=>by simp[Ij]
 exact#[?_,aA!,h.nd w.rnd,ky!,ky_,?_,aA!,aA!,hq_,aA!]
 .show(hr!).Nodup;rw[MB];exact#[w.nd,H_,λa ha b J=>by simp at J;subst J;exact λz=>hn (z▸ha)]
 .obtain z|rfl:=(im x).mp hx
  .exact w.nm x z
  .exact ht
 .rw[im,<-w.ri x];show"#<"
  .intro z;let#[q,hq,rfl]:=LC.mp z;obtain rfl|hq:=H4_ hq
   .exact .inr χ
   .rw[xm]at hq;exact .inl (LK hq)
  .rintro(z|rfl)
   .let#[q,hq,rfl]:=LC.mp z;exact LB! (zG_ xm hq)
   .exact LC.mpr y3!
 .let up:∀y,Hi W y->Hi fA_ y:=λy hy=>by
   obtain q|q:=hy
   .exact .inl ((im y).mpr (.inl q))
   .exact .inr q
  obtain z|z:=H4_ hm
  .cases z;exact up _ hp
  .rw[xm]at z;exact up _ (Jj! z)
 .let#[rk,jg]:=w.rk;exact#[λx=>if x=n then rk p+1 else rk x,ky_];obtain z|z:=H4_ hm
  .cases z;dsimp only;rw[LB pn,y_];omega
  .rw[xm]at z;let ha:a≠n:=λq=>nn (q▸LK z);let J:b≠n:=λq=>by
    obtain y|y|y:=Jj! z
    .exact hn (q▸y)
    .exact ht.nn.2.1 (q▸y)
    .exact ht.nn.2.2 (q▸y)
   dsimp only;rw[LB ha,LB J];exact jg _ _ z
 .show(Ej_ hr_).Nodup;split
  .decide
  .rename_i q;exact w.snd x pn!
 .show∀q∈hr_,Oc q.1;split
  .intro q hq;exact(ei_).elim
  .rename_i q;exact w.sg x pn!
 .show∀q∈hr_,∀q'∈y6_,q.1=q'.1->x=y;split
  .intro q hq;exact(ei_).elim
  .rename_i q1;split
   .intro q hq q' aj;exact(KN aj).elim
   .rename_i q2;exact w.su x ((pm_).resolve_right q1) y (((im y).mp hy).resolve_right q2)
 .show(if x=n then[.int 0,.int 0,.int 0,.int 0]else W.num x).length=4;split
  .rfl
  .rename_i q;exact w.nl x pn!
def We(b:D)(nw:ab_):μ bm_->μ bm_
 |[]=>[]
 |x::r=>if x.1=b then x::(nw++r)else x::We b nw r
nonrec def wrT(b:D)(nw l:ab_):μ bm_:=if b∈l.map b_ then We b nw l else nw++l
def oC(hq:q.1=b):b∉u.map b_->We b nw (u++q::v)=u++q::(nw++v):=by
 induction u with
 |nil=>intro _;simp[We,hq]
 |cons x u ih=>
  intro h;rw[LA,KR,SZ]at h;dsimp only[List.cons_append,We];rw[lz!,ih h.2]
def iS(b:D)(nw l:ab_):∃u v,l=u++v/\wrT b nw l=u++nw++v/\(y8!\/∃u' q,u=u'++[q]/\q.1=b/\b∉u'.map b_):=by
 by_cases h:b∈l.map b_
 .let#[u,v,e,hu]:=kA h;let#[u',r,e1,e2,e3]:=List.map_eq_append_iff.mp e;let#[q,v',e4,e5,e6]:=List.map_eq_cons_iff.mp e3;subst e4;exact#[u'++[q],v',by simp[e1],?_,.inr #[u',q,χ,e5,by rw[e2];exact hu]];delta wrT;rw[KQ h,e1,oC e5 (zG_ e2 hu)];simp
 .exact#[[],l,χ,by delta wrT;rw[LB h];rfl,.inl cT!]
nonrec def setT(W:OW)(a:D)(l:ab_):OW:={W with txt:=λx=>if x=a then l else W.txt x}
def qT(w:Bv W)(ha:fB_)(Y:o5!)(h2:∀q∈l,Oc q.1)(h3:∀q∈l,∀y∈W.its,∀q'∈W.txt y,q.1=q'.1->y=a):Bv pr!:=by
 exact#[w.nd,w.nm,w.rnd,w.ri,w.rp,w.rk,aA!,aA!,hq_,w.nl]
 .show(Ej_ pq_).Nodup;split
  .exact Y
  .exact w.snd x hx
 .show∀q∈pq_,Oc q.1;split
  .exact h2
  .exact w.sg x hx
 .show∀q∈pq_,∀q'∈(if y=a then l else W.txt y),q.1=q'.1->x=y;split
  .rename_i e1;subst e1;split
   .rename_i e2;intro _ _ _ _ _;exact e2.symm
   .intro q hq q' aj e;exact(h3 q hq y hy q' aj e).symm
  .split
   .rename_i e2;subst e2;intro q hq q' aj e;exact h3 q' aj x hx q hq e.symm
   .exact w.su x hx y hy
def Yw(W:OW)(a:D)(l:d!):OW:={W with num:=λx=>if x=a then l else W.num x}
def b3z(w:Bv W)(hl:K!=4):Bv (Yw W a l):=by
 exact#[w.nd,w.nm,w.rnd,w.ri,w.rp,w.rk,w.snd,w.sg,w.su,aA!];show(if x=a then l else W.num x).length=4;split
 .exact hl
 .exact w.nl x hx
end
nonrec def oF(a1 a2 a3 a4 a5 a6:sS!):μ cm_:=[dv_,fD!,pr_,x5!,("written",.fn a5),("hidden",.fn a6)]
def oF1:K7! "parents"=Fz! a1:=by kernel_rfl
def oF2:Fu! ps! bn_=Fz! a2:=by kernel_rfl
def oF3:Fu! ps_ bn_=Fz! a3:=by kernel_rfl
def oF4:Fu! pt! bn_=Fz! a4:=by kernel_rfl
def oF5:K7! "written"=Fz! a5:=by kernel_rfl
def oF6:K7! "hidden"=Fz! a6:=by kernel_rfl
def oM1:K7! "has"=none:=by kernel_rfl
def oM2:K7! "has_item"=none:=by kernel_rfl
def rM:zQ_ "put_behind" kB_=υ/\zQ_ "take_out" kB_=υ/\zQ_ "listed" kB_=υ/\zQ_ "holds" kB_=none:=#[ht_,ht_,ht_,ht_]
inductive Uy
 |ob|par|dir (b:Bool)|nums|wri|hid|row (x:D) (b:Bool)|fol (x:D) (b:Bool)|pre (x:D) (b:Bool)|nm (x:D)
structure Ix where
 pr:D->D->ν
 dm:Bool->D->ν
 nd:D->ν
 ls:D->Bool->μ D
 wr:D->D->ν
 hi:D->ν
 nu:D->μ D
def Iw(V:Ix):Uy->ν
 |.row x b=>V.dm b x
 |.fol x b=>V.dm b x
 |.pre x b=>V.dm b x
 |.nm x=>V.nd x
 |_=>True
def Dc(B:δ)(c:Dh)(P:μ av!->ν):Prop:=∃k e,c=.dct k e/\kq!<=B/\P k
def TF(B:δ)(c:Dh)(l:d!):Prop:=K!<=B/\∃k e,c=.dct k e/\Fz l k
def Ty(t:Bo)(ad:pu_)(V:Ix)(B:δ)(c:Dh):Uy->ν
 |.ob=>c=JO! zg!
 |.par=>Dc B c λk=>kget k root=ψ .non/\kget k Cq=ψ .non/\∀i p,V.pr i p->kget k i=ψ p
 |.dir b=>Dc B c λk=>∀x,pw!/\pw_
 |.nums=>Dc B c λk=>∀x,V.nd x->kget k x=ψ Bw_
 |.wri=>Dc B c λk=>∀s v,V.wr s v->kget k s=ψ v
 |.hid=>Dc B c λk=>∀s,(kget k s).isSome=τ↔V.hi s
 |.row x b=>c=.obj t.B7 (Fp! (ad cT_) (ad cU!))
 |.fol x b=>TF B c kE_
 |.pre x b=>TF B c (kE_).reverse
 |.nm x=>c=.lst (V.nu x)
structure Du(t:Bo)(M:Mh)(ad:pu_)(V:Ix)(B:Nat):Prop where
 ty:∀r,Iw V r->∃c,M hw!=ψ c/\Ty t ad V B c r
 inj:∀r r',Iw V r->Iw V r'->ad r=ad r'->r=r'
def Wk(ad:pu_)(V:Ix)(b:sS!):Prop:=∃r,Iw V r/\ad r=b
def Sm(V V':Ix):Uy->ν
 |.par=>V'.pr=V.pr
 |.dir b=>V'.dm b=V.dm b
 |.nums=>V'.nd=V.nd
 |.wri=>V'.wr=V.wr
 |.hid=>V'.hi=V.hi
 |.fol y b=>V'.ls y b=V.ls y b
 |.pre y b=>V'.ls y b=V.ls y b
 |.nm x=>V'.nu x=V.nu x
 |_=>0=0
def Sm.rfl{V:Ix}:Sm V V r:=by cases r<;>exact Eq.refl _
section
variable{ad bg:Uy->Addr}{V V':Ix}
def Dc.mono(h:Dc B c P)(hB:cU_)(q:∀k,P k->Q k):Dc B' c Q:=by let#[k,e,Y,h2,h3]:=h;exact#[k,e,Y,LX h2 hB,q k h3]
def Ty.tr(hB:cU_)(old:kF!)(l:Iw V r)(s:Sm V V' r)(ty:Ty t ad V B c r):HM! bg r:=by
 cases r with
 |ob=>exact ty.trans (by rw[old .par ο,old (.dir τ) ο,old (.dir θ) ο,old .nums ο,old .wri ο,old .hid ο])
 |par=>let s:=s;exact Hz! ty λk h=>by rw[s];exact h
 |dir b=>let s:=s;exact Hz! ty λk h x=>by rw[s];exact#[λz=>by rw[old fD_ z];exact(h x).1 z,(h x).2]
 |nums=>let s:=s;exact Hz! ty λk h x z=>by rw[s]at z;rw[old hv_ z];exact h x z
 |wri=>let s:=s;exact Hz! ty λk h=>by rw[s];exact h
 |hid=>let s:=s;exact Hz! ty λk h=>by rw[s];exact h
 |row x b=>exact ty.trans (by rw[old cT_ l,old cU! l])
 |fol x b=>let s:=s;exact zm!
 |pre x b=>let s:=s;exact zm!
 |nm x=>let s:=s;exact J9_ ty.trans s
def Du.go(h:a6!)(hB:cU_)(old:kF!)(inj:∀r r',Iw V' r->Iw V' r'->bg r=bg r'->r=r')
  (k:∀r,Iw V' r->(∃c,M' (bg r)=ψ c/\Ty t bg V' B' c r)\/(Iw V r/\M' hw!=M hw!/\Sm V V' r)):IY_ V' B':=⟨λr hr=>by
 obtain z|⟨l,e,s⟩:=k r hr
 .exact z
 .let#[c,e1,e2]:=h.ty r l;exact#[c,by rw[old r l,e];exact e1,e2.tr hB old l s],inj⟩
def Du.cv(h:a6!)(hB:cU_)(hL:∀r,Iw V' r->Iw V r/\Sm V V' r):JO_ V' B':=
 h.go hB k! (λr r' a b=>h.inj r r' (hL r a).1 (hL r' b).1) λr l=>.inr #[(hL r l).1,χ,(hL r l).2]
def Du.up(h:a6!)(hB:cU_)(l0:Iw V r0)(hc:HM! ad r0)(s:∀r,r≠r0->Iw V' r->Iw V r/\Sm V V' r):Du t (Ig_ (ad r0)) ad V' B':=by
 let hL:∀r,Iw V' r->Iw V r:=λr l=>by
  by_cases e:r=r0
  .rw[e];exact l0
  .exact(s r e l).1
 exact h.go hB k! (λr r' a b=>h.inj r r' (hL r a) (hL r' b)) λr l=>?_;by_cases e:r=r0
 .subst e;exact .inl #[c,mup_same,hc]
 .exact .inr #[hL r l,mup_ne λz=>e (h.inj r r0 (hL r l) l0 z),(s r e l).2]
def uB(l0:Iw V r0)(ha:¬Wk ad V a):Ig_ (ad r0) a=M a:=mup_ne λz=>ha #[r0,l0,z.symm]
def Du.ob(h:a6!):M (ad .ob)=ψ (JO! zg!):=by let#[_,e,rfl]:=h.ty .ob ο;exact e
def Du.row(h:a6!)(hd:V.dm b x):Hz_ M kE_/\(kE_).length<=B:=by let#[_,e,rfl]:=h.ty fD_ hd;let#[_,e1,l1,kf,ef,rfl,K]:=h.ty cT_ hd;let#[_,e2,l2,kp,ep,rfl,K2]:=h.ty cU! hd;exact#[#[e,#[kf,ef,kp,ep,e1,e2,K,K2],λz=>by let:=h.inj cT_ cU! hd hd z;cases this],l1]
nonrec def Ix.sl(V:Ix)(x:D)(b:Bool)(l:d!):Ix:={V with ls:=λy c=>if y=x/\c=b then l else V.ls y c}
def yF:(V.sl x b l).ls x b=l:=KQ aK_
def Du.sl(h:a6!)(hB:cU_)(hd:V.dm b x)(hr:Hz_ M' xs)(fr:∀a,a≠ad cT_->a≠ad cU!->M' a=M a)(hl:h_<=B'):Du t M' ad (V.sl x b xs) B'/\∀a,¬Wk ad V a->M' a=M a:=by
 let#[kf,ef,kp,ep,hf,hp,K,Kp]:=hr.dc;exact#[h.go hB k! h.inj λr l=>?_,λa ha=>fr a (λz=>ha #[.fol x b,hd,z.symm]) λz=>ha #[.pre x b,hd,z.symm]];let l':Iw V r:=l;by_cases e1:r=.fol x b
 .subst e1;exact .inl #[_,hf,by rw[yF];exact hl,kf,ef,χ,by rw[yF];exact K]
 by_cases e2:r=.pre x b
 .subst e2;exact .inl #[_,hp,by rw[yF];simpa using hl,kp,ep,χ,by rw[yF];exact Kp]
 exact .inr #[l',fr _ (λz=>e1 zr_) (λz=>e2 zr_),?_];cases r with
 |fol y c=>exact LB λz=>e1 el_
 |pre y c=>exact LB λz=>e2 el_
 |_=>rfl
def Jy(W:OW):Ix where
 pr:=λi p=>b1!∈W.rows
 dm:=λb x=>match b with|true=>Hi W x|false=>x∈W.its
 nd:=λx=>x∈W.its
 ls:=λx b=>match b with|true=>Fe! Fi x|false=>Ej_ a5!
 wr:=λs v=>∃x∈W.its,∃q∈W.txt x,q.1=s/\q.2.1=v
 hi:=λs=>∃x∈W.its,∃q∈W.txt x,q.1=s/\q.2.2=θ
 nu:=W.num
def Bm(t:Bo)(M:Mh)(o:sS!)(O:bE_)(W:OW)(B:δ):Prop:=∃ad,ad .ob=o/\(∀b,O b↔Wk ad bo! b)/\JO_ bo! B
def Fr(M:Mh)(O:bE_)(M':Mh)(O':bE_):Prop:=∀b,M b≠υ->¬O b->M' b=M b/\¬O' b
def Fr.refl:Fr M O M O:=λb _ h=>cT!
def Fr.trans{M2:Mh}(Y:EA_ O1)(h2:Fr M' O1 M2 O2):Fr M O M2 O2:=λb J hr=>by
 let#[e1,e2]:=Y b J hr;let#[e3,e4]:=h2 b kH! e2;exact#[e3.trans e1,e4]
def Bm.mono(h:aO_)(hB:cU_):Fa_ M W B':=by let#[ad,e,hO,hI]:=h;exact#[ad,e,hO,hI.cv hB λr l=>#[l,Sm.rfl]]
def Bm.live(h:aO_)(J:O b):M b≠none:=by let#[ad,e,hO,hI]:=h;let#[r,l,rfl]:=(hO b).mp J;let#[c,e,_]:=hI.ty r l;rw[e];simp
def Bm.keep(h:aO_)(k:zu!):Fa_ M' W B:=by let#[ad,e,hO,hI]:=h;exact#[ad,e,hO,hI.go v! k! hI.inj λr l=>.inr #[l,k _ ((hO _).mpr #[r,l,χ]),Sm.rfl]]
def a2h(w:Bv W)(h:hy!):∃k,Cj x=ψ k:=by
 obtain h|rfl|rfl:=h
 .exact(w.nm x h).key
 .exact O_
 .exact O_
def Du.noOb(h:a6!)(hm:pB!):Cz t.B6 m M kI_:=by simp[Cz,h.ob,hm]
def Bm.noOb(h:aO_)(hm:pB!):Cz t.B6 m M ao_:=by let#[ad,rfl,hO,hI]:=h;exact hI.noOb hm
def Du.dirV(h:a6!):∃k e,M (ad hy_)=CF_ k e/\kq!<=B/\∀x,pw!/\pw_:=by let#[_,e,k,ep,rfl,q]:=h.ty hy_ ο;exact#[k,ep,e,q]
def a6i(h:∀x,pw!/\pw_):(kget k x).isSome=decide (V.dm b x):=by
 by_cases z:V.dm b x
 .rw[(h x).1 z,LM z];rfl
 .rw[(h x).2 z,LD z];rfl
def c1q(h:aO_)(hk:aX!)(hR:R (FD_ (Hi W x)) M):JP! Ds:=by let#[ad,rfl,hO,hI]:=h;let#[k2,e2,h2,_,q]:=hI.dirV (b:=τ);let e3:=a6i (x:=x) q;exact j!;rw[show decide (Hi W x)=(F3! k2).isSome from e3.symm]at hR;simpa[Lm,Bd,w2,wl,As,Gm,Di,Aa,hI.ob,oF2,Hk,h2,hk]using hR
def fV(h:aO_)(hk:aX!)(hR:R zx_ M):JP! Bk:=by let#[ad,rfl,hO,hI]:=h;let#[k2,e2,h2,_,q]:=hI.dirV (b:=θ);let e3:=a6i (x:=x) q;exact j!;rw[show decide em!=(F3! k2).isSome from by rw[e3];congr]at hR;simpa[Ha,Bd,w2,wl,As,Gm,Di,Aa,hI.ob,oF3,Hk,h2,hk]using hR
def Du.numV(h:a6!)(hx:V.nd x):∃k e,M (ad .nums)=CF_ k e/\kget k x=ψ Bw_/\M (ad hv_)=o8! (V.nu x):=by let#[_,e,k,ep,rfl,_,q]:=h.ty .nums ο;let#[_,e2,rfl]:=h.ty hv_ hx;exact#[k,ep,e,q x hx,e2]
end
def zL:∀(xs ys:s_),Ig (xs.map D.int) (ys.map D.int)=(xs==ys)
 |[],[]=>by rfl
 |[],y::ys=>by rfl
 |x::xs,[]=>by rfl
 |x::xs,y::ys=>by simp[Ig,Dt,zL xs ys]
def Sd(d:D):Prop:=d=.non\/(∃x,d=.str x)\/(∃i,d=.int i)\/∃ns:List Int,d=.tup jP_
def a5s:∀{xs ys:s_},xs.map D.int=ys.map D.int->xs=ys
 |[],[],_=>rfl
 |[],_::_,h=>by simp at h
 |_::_,[],h=>by simp at h
 |x::xs,y::ys,h=>by
  simp![LA,NX,D.int.injEq]at h;rw[h.1,a5s h.2]
def mP(hx:Sd x)(hy:Sd y):Dt x y=(open Classical in decide (x=y)):=by
 obtain rfl|⟨a,rfl⟩|⟨i,rfl⟩|⟨ns,rfl⟩:=hx<;>obtain rfl|⟨b,rfl⟩|⟨j,rfl⟩|⟨ms,rfl⟩:=hy<;>simp[Dt,zL]
 all_goals
  rw[NY]
  first
   |(simp![OT,LV,D.tup.injEq];exact#[λz=>by rw[z],a5s])
   |(simp![OT,LV])
   |simp
def yU:∀(ns:s_),Ca pY_=τ
 |[]=>by rfl
 |n::ns=>by simp[Ca,Az,yU ns]
def fJ(h:Sd x):Az x=true:=by obtain rfl|⟨a,rfl⟩|⟨i,rfl⟩|⟨ns,rfl⟩:=h<;>simp[Az,yU]
def a6k:∀(ns:s_),De pY_<=1
 |[]=>by simp[De]
 |n::ns=>by let:=a6k ns;simp[De,Go];omega
def oJ(h:Sd x):Go x<=5:=by
 obtain rfl|⟨a,rfl⟩|⟨i,rfl⟩|⟨ns,rfl⟩:=h<;>simp[Go]
 let:=a6k ns;omega
def Gs.sd(h:Gs x):Sd x:=by let#[a,b,rfl]:=h;exact .inr pC!
def Oc.sd(h:Oc x):Sd x:=by let#[a,b,c,rfl]:=h;exact .inr zz_
def iV(x:Str):Sd bO!:=FL! #[x,χ]
def a9g(w:Bv W)(h:hy!):Sd x:=by
 obtain h|rfl|rfl:=h
 .exact(w.nm x h).sd
 .exact iV _
 .exact iV _
def a1f(hx:Sd x)(hy:Sd y):Do x y=C2! (!(open Classical in decide (x=y))):=by delta Do;let:=oJ hx;rw[fJ hx,fJ hy,mP hx hy];rw[KQ bf_]
def tS(hx:Sd x)(hy:Sd y):Au x y=ψ (.bl (open Classical in decide (x=y))):=by delta Au;let:=oJ hx;rw[fJ hx,fJ hy,mP hx hy];rw[KQ bf_]
def vP(hR:∀r f p M',M r=υ->M f=υ->M p=υ->r≠f->r≠p->GP_ M' []->f≠p->(∀b,b≠r->b≠f->b≠p->M' b=M b)->R ks_ M'):Fv t.B7 1 (Fp t) Ad ρ M R:=by
 exact#[χ,λr hr=>j!];let nf:∀{f:sS!},mup M r (.obj t.B7 []) f=υ->f≠r/\M f=none:=λ{f} z=>by
  by_cases e:f=r
  .rw[e,mup_same]at z;rcases z
  .rw[mup_ne e]at z;exact#[e,z]
 intro f hf;let#[f1,f2]:=nf hf;exact#[mup_same,T!,by simp[Cj],H_,?_];simp[wl,Aa,mup_ne,mup_same,MD f1,Hc];intro p hp;let p1:p≠r:=λe=>by rw[e,mup_same]at hp;rcases hp
 rw[pC_]at hp;let p2:p≠f:=λe=>by rw[e,mup_same]at hp;rcases hp
 rw[Eo! p2,Eo! p2,pC_]at hp;simp[Dk,Mf,wl,fC,Aa,mup_ne,mup_same,MD f1,MD p1,Hc,Cj];exact hR r f p _ hr f2 hp (MD f1) (MD p1) #[mup_same,#[pa_,1,pa_,1,?_,?_,a3u,a3u],MD p2] (MD p2) λb Y h2 h3=>?_
 .rw[Eo! f1,zE!,zE!,Eo! f1,mup_same]
 .rw[pC_,mup_same]
 .rw[fG!,Eo! h3,Eo! h3,fG!,hB!,hB!,fG!]
def a7t(w:Bv W)(h:bp!):∃p,a4_∈W.rows:=by let#[#[a,p],hq,rfl]:=LC.mp ((w.ri x).mpr h);exact#[p,hq]
def mB(w:Bv W)(h:x∉W.its):∀p,a4_∉W.rows:=λp z=>h ((w.ri x).mp (LK z))
def b0y(w:Bv W):root∉W.its:=λz=>(w.nm _ z).nn.2.1 χ
def c3u(w:Bv W):Cq∉W.its:=λz=>(w.nm _ z).nn.2.2 χ
def d5e(h:Gs x\/x=root\/x=Cq):x≠.non:=by
 obtain h|rfl|rfl:=h
 .exact h.nn.1
 .intro z;cases z
 .intro z;cases z
def d2s(w:Bv W)(h:hy!):x≠.non:=d5e (h.imp_left (w.nm x))
def sA(h:JO_ bo! B)(w:Bv W)(hi:Gs i){rk:D->δ}(jg:zG!):
  ∀(n:δ) (x:D),rk x<n->Hi W x->∀(R':p_),(Wn W.rows i x->R' (.nx [dy!,A_,A_]) M)->(JP_ (.nx [dy!,ψ .non,A_]))->
   ∃m,HA! pE_
 |0,x,hn,_,_,_,_=>by omega
 |n+1,x,hn,hx,R',r1,r2=>by
  let#[_,Y,k1,e1,rfl,_,p0,p1,pr]:=h.ty .par ο;let x0:=d2s w hx;let ne:=a1f (a9g w hx) hi.sd;by_cases e:x=i
  .subst e;let:=r1 .here;exact fG_;simpa[Bx,Cc,Ep,fT,f2,Aa,fC,Bn,kH x0,ne]using this
  .let st:∀(p:D) (m:δ),F3! k1=ψ p->HA! [dy!,cW!,A_]->
     Bx gJ_ gK! aC! pE_ M R':=λp m hp hw=>by
    let#[k,hk]:=a2h w hx;rw[Bx];simpa[Cc,Ep,fT,f2,Aa,fC,Bn,kH x0,ne,e,Ak,w2,wl,As,Gm,Di,h.ob,oF1,Bl,Y,hk,hp]using hw
   let top:F3! k1=ψ .non->zI_->∃m,HA! pE_:=λhp hr=>by
    let:=r2 (b6h hr e);exact#[1+1,st .non 1 hp ?_];simpa[Bx,Cc,Ep,fT,f2,Aa,fC,Bn,Il]using this
   obtain hx|rfl|rfl:=hx
   .let#[p,hp]:=a7t w hx;let q:=a7g w.rnd hp e;let:=jg _ _ hp;let#[m,hm]:=sA h w hi jg n p a! (Jj! hp) R' zJ! (λz=>r2 λy=>z (q.mp y));exact#[m+1,st p m (pr _ _ hp) hm]
   .exact top p0 (mB w (b0y w))
   .exact top p1 (mB w (c3u w))
def a2g(h:aO_)(w:Bv W)(hx:hy!)(hi:Gs i)(hR:R (FD_ (Wn W.rows i x)) M):Ek t [bo_,x,i] M R:=by
 let#[ad,rfl,hO,h]:=h;let#[rk,jg]:=w.rk;let#[m,hm]:=sA h w hi jg (rk x+1) x a! hx (FG_ (wl jm_))
  (λz=>by simp![z,UA]at hR;simpa[Bd,wl,f2,Aa,fC,Bn,kH hi.nn.1]using hR)
  (λz=>by simp![z,VS]at hR;simpa[Bd,wl,f2,Aa,fC,Bn,Il]using hR)
 exact j!;exact#[m,hm]
def a6s(h:aO_)(w:Bv W)(dt:fH!)(hkx:pF!)(hR:∀b:Bool,(b=τ↔en_)->R aJ! M):Dm t [bo_,i,x] M R:=by
 exact j!;dsimp only[Hb,Bd,Ih,wT,Ba,wl,Ab,Ad,Aa];simp[pF_];exact fV h dt ?_;show"!{"
 .simp only[c1,UA,NR];exact#[h.noOb oM1,?_];exact c1q h hkx ?_;by_cases c2:Hi W x
  .simp only[c2,UA,NR,Wt,wT,Ba,wl,Ab,Ad,Aa];exact#[h.noOb cW_,χ,?_];exact a2g h w c2 (w.nm i c1) ?_;exact hR _ (by simp[c1,c2])
  .simp only[c2,VS];exact hR _ (ES! c2)
 .simp only[c1,VS];exact hR _ (ES! c1)
def xG(h:aO_)(w:Bv W)(dt:fH!)(p0:0<=p)(p3:p<=3)
  (hR:∀M',Fa_ M' (IZ! Yw zP_) B->EA_ O->Fl! M'):Eb t [bo_,i,.int p,aW!] M R:=by
 exact j!;exact#[pF_,χ,fV h dt ?_];show"!{"
 .simp only[c1,NR]at hR;let#[ad,rfl,hO,hI]:=h;let#[k4,e4,h4,e,hq]:=hI.numV c1;let hq:M (ad (.nm i))=o8! fH_:=hq;let hx:IH! Jz fH_ p=ψ p.toNat:=by
   rw[w.nl i c1];delta Jz;rw[KQ p0,ad!]
  let fin:Fl! (mup M (ad (.nm i)) (.lst zP_)):=by
   exact hR _ #[ad,χ,hO,hI.up v! c1 (by show _=Dh.lst fJ!;rw[y_]) λr hn l=>pG!] λb _ hr=>#[uB (V:=Jy W) c1 λz=>hr kO_,hr];cases r with
   |nm y=>exact LB λz=>J9_ hn z
   |_=>rfl
  simpa[c1,Bt,w2,wl,As,Gm,Di,Aa,hI.ob,oF4,Bl,h4,dt,e,Jt,hq,hx]using fin
 .simp only[c1,NJ]at hR;let:=hR M h .refl;simpa[c1,Bi]using this
section
variable{t:Bo}{o:sS!}{O:Addr->Prop}
def mW(i:D):setT W i bF_=W:=by
 delta setT;cases W with
 |mk a b c d=>
  congr 1;funext x;split
  .rename_i e;rw[e]
  .rfl
nonrec def cutT(vw:d!)(l:ab_):μ bm_:=l.map λq=>(q.1,q.2.1,q.2.2&&!decide (q.1∈vw))
def c3c(l:ab_):cutT [] l=l:=by delta cutT;simp
def lF(g:d!)(l:ab_):Ej_ pG_=l.map b_:=by delta cutT;simp
def c3d(g:d!)(s:D)(l:ab_):cutT [s] pG_=cutT (g++[s]) l:=by delta cutT;rw[MH];apply NC;intro q _;dsimp only[Function.comp,List.mem_append];congr 2;rw[Bool.and_assoc];congr 1;by_cases Y:q.1∈g<;>by_cases h2:q.1∈[s]<;>simp[Y,h2]
def c8c(h:s∉l.map b_):cutT [s] l=l:=by
 conv=>rhs;rw[<-TB l]
 apply NC;intro q hq;let:q.1≠s:=λz=>h pm!;simp[this]
def b5x(w:Bv W)(hi:aN!)(g:d!):Bv kP_:=by
 exact qT w hi (by rw[lF];exact w.snd i hi) eo! pH_
 .show"!I";exact w.sg i hi q0 h0
 .show"!I";exact(w.su i hi y hy q0 h0 q' aj e).symm
def yH(i:D)(l l':ab_):setT hE! i l'=setT W i l':=by delta setT;congr 1;funext x;dsimp only;split<;>rfl
def tG(i:D)(l:ab_):(hE!).txt i=l:=by simp[setT]
def rQ{P:fJ_}(hi:aN!):(∃x∈W.its,∃q∈(hE!).txt x,P q)↔(∃q∈l,P q)\/∃x∈W.its,x≠i/\∃q∈W.txt x,P q:=by
 show"#<"
 .rintro⟨x,hx,q,hq,h⟩;let hq:q∈zY!:=hq;split at hq
  .exact .inl #[q,hq,h]
  .rename_i c;exact .inr #[x,hx,c,q,hq,h]
 .rintro(⟨q,hq,h⟩|⟨x,hx,c,q,hq,h⟩)
  .exact#[i,hi,q,by rw[tG];exact hq,h]
  .exact#[x,hx,q,by show q∈zY!;rw[LB c];exact hq,h]
def a2n{P:fJ_}:(∃q∈cutT g l,P q)↔∃q∈l,P zZ!:=
 #[by rintro⟨q,hq,h⟩;let#[q0,h0,rfl]:=LC.mp hq;exact#[q0,h0,h],by rintro⟨q,hq,h⟩;exact#[_,LK hq,h]]
def d0n(hi:aN!)(hn:l'.map b_=l.map b_)(hw:∀s v,(∃q∈l',q.1=s/\q.2.1=v)↔∃q∈l,q.1=s/\q.2.1=v)(h:r≠.hid):Sm (Jy hE!) z0_ r:=by
 let ls:∀(y:D) (b:Bool),(z0_).ls y b=(Jy hE!).ls y b:=λy b=>by
  cases b with
  |true=>rfl
  |false=>
   show Fn! l'=Fn! l;split
   .exact hn
   .rfl
 cases r with
 |hid=>exact Ew! h
 |wri=>exact funext λs=>funext λv=>propext (Fq! kR_ (Iff.trans (by rw[hw]) (kR_).symm))
 |fol y b=>exact ls y b
 |pre y b=>exact ls y b
 |_=>rfl
abbrev EO(t:Bo):WS:=(Af uE!
 uG_)
def a6m{x y z m:Int}(hi:aN!)(w:Bv W):∀(js:s_) (M:Mh) (g:d!) (B:δ) (vb WV:G_) (R:p_),B+js.length<4000->Fa_ M kP_ B->
  (∀M' ρ,Fa_ M' (setT W i (cutT (g++js.map λj=>.tup hG!) bF_)) (B+js.length)->EA_ O->R Z! M')->
  Fe gN! Q_ (EO t) (js.map .int) [ap!,A_,ψ fK!,ψ bG!,vb,WV] M R
 |[],M,g,B,vb,WV,R,hB,h,hR=>#[ο,hR M _ kz_ .refl]
 |j::js,M,g,B,vb,WV,R,hB,h,hR=>by
  exact aB!;let#[ki,dt]:=(kS!).key;let#[ad,eo,hO,hI]:=h;let ob:=hI.ob;rw[eo]at ob;let#[k3,e3,h3,_,g1]:=hI.dirV (b:=θ);let g1:=(g1 i).1 hi;let g2:Gr t M _ _ _ (HM_ kP_ b_):=(pK!).1;let#[_,h6,k6,e6,rfl,l6',hk6]:=hI.ty .hid ο;let l6:k6.length<big:=by delta big;simp at hB;omega
  dsimp only[List.length_cons]at hB hR;let xo:Al z3_ (.tup [cz_])=ψ hH!:=by rfl
  let xq:Ia fK! υ (ψ 2)=ψ z3_:=by rfl
  simp[Di,Bu,Af,Ak,wl,f2,Fh,Aa,Bc,Aq,fC,Ay,Ac,Ae,xq,xo,Ap,wT,Ba,DL.w2,As,Gm,ob,oF3,Bl,h3,dt,g1,Cz,g2.ob,Ab,Ad,rM,-List.lookup_eq_none_iff];exact a5v g2 fk_ ?_;let rc:=λM1 h h2 h3=>a6m (x:=x) (y:=y) (z:=z) (m:=m) hi w js M1 z4! a8_ (ψ aH_) (ψ hH!) R h h2 h3;by_cases c:D.tup hG!∈HM_ kP_ b_
  .simp only[c,UA,NR];let q1:Fa_ z5! z5_ a8_:=by
    rw[tG,lF]at c;exact#[ad,eo,hO,hI.up fK_ ο #[_,_,χ,kS_,λa=>?_] λr hn l=>#[l,d0n hi (by rw[lF,lF]) (λs v=>by rw[a2n,a2n]) hn]];let h0:=(hk6 a).trans kR_;exact Iff.trans ?_ (kR_).symm;rw[jX];by_cases e:a=.tup hG!
    .let#[q,hq,e2]:=LC.mp c;rw[KQ e];exact#[λ_=>.inl #[_,LK hq,e2.trans e.symm,by simp[e2]],cC!]
    .rw[LB e,h0];exact or_congr ?_ Iff.rfl;rw[a2n,a2n];exact exists_congr λq=>UL λ_=>UL λe2=>?_;let e2:q.1=a:=e2;simp[e2,e]
   let q2:Fr M O z5! O:=λb _ hr=>#[uB ο λz=>hr kO_,hr];let:=Gv_ (q2.trans f');simpa[Bt,wl,As,Gm,Di,Aa,fC,ob,oF6,Jt,h6,show Cj hH!=ψ _ from χ,l6]using this
  .simp only[c,VS];let q1:Fa_ M z5_ a8_:=by
    rw[<-c3d,c8c (by rw[tG]at c;exact c)];exact Bm.mono #[ad,eo,hO,hI] fK_
   let:=Gv_ f';simpa[Bi]using this
def d3r(h:aO_)(w:Bv W)(dt:fH!)(hB:hI_)(z0:0<=z)(m1:1<=m)(m16:z+m<=16)
  (hR:∀M',Fa_ M' (IZ! setT (cutT hJ_ bF_)) bH!->EA_ O->Fl! M'):
  Ie t [bo_,i,.tup hG_,cX_] M R:=by
 exact j!;dsimp only[Ln,Af,Ap,Kb,wT,Ba,wl,Ab,Ad,Aa];simp[pF_];exact fV h dt ?_;show"!{"
 .simp only[c1,NR]at hR;let hr:Ma fb_ uD! [ap!,A_,ψ fK!,ψ bG!,υ,υ]=ψ ((z9!).map D.int):=by
   let e1:Ah fK! cC_=BA! z:=χ;let e2:(z+m - z).toNat=m.toNat:=by congr 1;omega
   let b:-1000<=z/\z<=100000/\-1000<=z+m/\z+m<=100000:=by omega
   simp[Ma,f2,Aa,fC,e1,Al,b,e2,Oh,Function.comp]
  let:=a6m (z:=z) (m:=m) c1 w z9! M [] B υ υ hC! bf_ (by rw[c3c,mW];exact h) (λM' ρ h2 f2=>hR M' (by
   simp![LY,MH,KP,NI]at h2;exact h2.mono a!) f2)
  simp![c1,UA,QZ,MJ,NJ,Bi,Cu,Hm,Di,hr];show"#;"
 .simp only[c1,NJ]at hR;let:=hR M (h.mono a!) .refl;simpa[c1,Nl]using this
end
def HN(fq:D)(U l:ab_):Prop:=(U=[]/\fq∉l.map b_)\/∃u' q,U=u'++[q]/\q.1=fq/\fq∉u'.map b_
def HN.names(h:HN fq U (U++v)):Lx s fq ((U++v).map b_)=Ej_ kU!:=by
 obtain⟨rfl,h⟩|⟨u',q,rfl,e,h⟩:=h
 .delta Lx;rw[LB h];rfl
 .delta Lx;rw[KQ fv!];simp![LG,LA,RH,LZ,PM,LY];rw[e,kY h]
def a7d(w:Bv W)(hi:aN!)(hl:W.txt i=U++v)(hs:Oc s)(hf:Ac!):Bv kU_:=by
 let fi:=hf i hi;rw[hl]at fi;let p:(kU!).Perm (hK!::(U++v)):=SA;exact qT w hi ?_ eo! pH_
 .rw[(p.map _).nodup_iff,LA,LO];exact#[fi,by rw[<-hl];exact w.snd i hi]
 .obtain rfl|z:=KR.mp Ad!
  .exact hs
  .exact w.sg i hi q Ad_
 .obtain rfl|z:=KR.mp Ad!
  .exact Ei_ (LC.mpr #[q',aj,e.symm]) (hf y hy)
  .exact(w.su i hi y hy q Ad_ q' aj e).symm
def b6e(hI:JO_ Ae! B)(hk:∀a v,(bo!).wr a v->kget k5 a=ψ v)(h5:k5.length<B)(hi:aN!)(hl:W.txt i=U++v)(J:l=Ej_ kU!)(hf:Ac!):
  Du t (mup M pv_ (.dct (Bq k5 s c) e5)) ad (Jy kU_) B:=by
 let hm:∀{P:fJ_},(∃q∈U++hK!::v,P q)↔P hK!\/∃q∈W.txt i,P q:=λ{P}=>by
  rw[hl];simp![KS,KR];show"#<"
  .rintro⟨q,z|z|z,h⟩
   .exact .inr Ae_
   .exact .inl (z▸h)
   .exact .inr #[q,.inr z,h]
  .rintro(h|⟨q,z|z,h⟩)
   .exact#[_,kW!,h]
   .exact Ae_
   .exact#[q,.inr g3_,h]
 let hx:∀{P:fJ_},(∃x∈W.its,∃q∈(kU_).txt x,P q)↔P hK!\/∃x∈W.its,∃q∈W.txt x,P q:=λ{P}=>by
  let h0:=rQ (l:=W.txt i) (P:=P) hi;rw[mW]at h0;rw[rQ hi,hm,h0,or_assoc]
 exact hI.up v! ο #[_,_,χ,LX ho! h5,λa w hw=>?_] λr hn l'=>#[l',?_]
 .rw[jX];obtain⟨rfl,rfl⟩|z:=hx.mp hw
  .rw[y_]
  .let#[x,hx,q,hq,e,_]:=id z;rw[LB λy=>hf x hx (by rw[<-y,<-e];exact LK hq)];exact hk a w z
 .let ls:∀(y:D) (b:Bool),(Jy kU_).ls y b=(Ae!).ls y b:=λy b=>by
   cases b with
   |true=>exact(LB λz=>by exact Bool.noConfusion (z.2)).symm
   |false=>
    show Fn! _=if y=i/\θ=θ then l else(W.txt y).map b_
    by_cases z:y=i
    .rw[KQ z,KQ #[z,χ],J]
    .rw[LB z,LB λy=>z y.1]
  cases r with
  |wri=>exact Ew! hn
  |hid=>exact funext λa=>G5! (Iff.trans (hx) #[λz=>z.resolve_left λy=>Bool.noConfusion y.2,λz=>.inr z])
  |fol y b=>exact ls y b
  |pre y b=>exact ls y b
  |_=>rfl
section
variable{t:Bo}{o:sS!}{O:Addr->Prop}
def HP(t:Bo):WS:=(Af nO!
 (Af uA!
 (Af uB!
 (Ak 5 d4!))))
nonrec def sgn(h n:Int)(q:δ×δ):D×D×Bool:=(.tup [aP_,aW!,.int qX_],.str #[[q.1].toArray],τ)
nonrec def eN(q:δ×δ):D:=.tup CQ!
def tW:∀(cs:o!) (k0:δ) (M:Mh) (W:OW) (B:δ) (U v:ab_) (fq:D) (ka:MK) (WW WX ud:G_) (R:p_),B+cY!<4000->Fa_ M W B->Bv W->i∈W.its->W.txt i=U++v->HN fq U (U++v)->Cj fq=ψ ka->
  (∀x∈W.its,∀k':Nat,k0<=k'->D.tup Aj_∉Ej_ a5!)->
  (∀M' ρ,Fa_ M' Ak! (B+cY!)->Bv Ak!->EA_ O->R Z! M')->
  Fe (Vi 6 7) Q_ (HP t) ((pO_).map eN) [ap!,cY_,A_,bI_,ψ tx,ψ fq,WW,WX,ud] M R
 |[],k0,M,W,B,U,v,fq,ka,WW,WX,ud,R,hB,hO,w,hi,hl,J,hk,hf,hR=>by
  exact#[ο,hR M _ ?_ ?_ .refl]
  .simp only[List.zipIdx_nil,RH,LW,QT,VU];rw[<-hl,mW];exact hO
  .simp only[List.zipIdx_nil,RH,LW];rw[<-hl,mW];exact w
 |c::cs,k0,M,W,B,U,v,fq,ka,WW,WX,ud,R,hB,hO,w,hi,hl,J,hk,hf,hR=>by
  exact aB!;let#[ki,dt]:=(kS!).key;let#[ad,eo,hO,hI]:=hO;let ob:=hI.ob;rw[eo]at ob;let#[k3,e3,h3,_,g1]:=hI.dirV (b:=θ);let g1:=(g1 i).1 hi;let g2:Gr t M _ _ _ pP!:=(pK!).1;let lt:(pP!).length<=B:=(pK!).2;simp![KW]at hB hR;let hs:Oc b2_:=Ak_;let xr:∀x∈W.its,D.tup kY_∉Ej_ a5!:=λx hx=>hf x hx k0 v!;let xo:Al au_ (.tup [.int (k0:δ)])=ψ b2_:=by rfl
  let hm:Cz t.B7 "put_behind" M Am_:=by simp![Cz,g2.ob,rM.1,and_self]
  let hx:∀R',w2 Bl fa_ D_ pQ! M R'=R' Am_ M:=by
   intro R';simp[w2,wl,As,Gm,ob,oF3,Bl,h3,dt,g1,Di,Aa]
  show HP t pQ_ M _;show Ka! nO! pQ_;let e8:JQ! u_ nN_ pQ_=ψ b2_:=by
   rfl
  simp![Af,Ak,wl,e8,List.set_cons_succ,List.set_cons_zero,Bb,Ba,hx];exact#[hm,χ,?_];exact jU g2 fk_ hk (by rw[KR,SZ];exact#[hs.nn,xr i hi]) a! λM1 hr fr=>?_;let#[hJ,fj]:=hI.sl fK_ (b:=θ) hi hr fr (by let#[u,v,e1,e2,_]:=nV b2_ fq pP!;rw[e2];rw[e1]at lt;simp at lt ⊢;omega);let#[_,h5,k5,e5,rfl,l5',hk5]:=hI.ty .wri ο;let ne:∀{r:Uy},Iw bo! r->r≠.fol i θ->r≠.pre i θ->M1 hw!=M hw!:=λl Y h2=>fr _ (λz=>Y Ap!) λz=>h2 Ap!;let h5':=(ne (r:=.wri) ο nofun nofun).trans h5;let Z0:=(ne (r:=.ob) ο nofun nofun).trans hI.ob;rw[eo]at Z0;let l5:k5.length<big:=by delta big;omega
  let q1:=b6e (c:=d6_) (e5:=Hj k5 b2_ e5) hJ hk5 a! hi hl (zG_ hl J.names) xr;let q2:Fr M O Ap_ O:=λb _ hr=>#[(uB (r0:=.wri) ο λz=>hr kO_).trans (fj b λz=>hr kO_),hr];let q3:=a7d (c:=d6_) w hi hl hs xr;let hU:U++Aq!::v=(U++[Aq!])++v:=by simp
  let rc:=λka M2 Y h2 h3 h4 h5 h6 h7 h8 h9=>tW (i:=i) (b:=b) (tx:=tx) (h:=h) (n:=n) cs (k0+1) M2 Aq_ a8_ (U++[pS!]) v b2_ ka (ψ Ao!) (ψ dj_) (ψ b2_) R Y h2 h3 h4 h5 h6 h7 h8 h9;let:=rc _ _
   (a!) #[ad,eo,hO,q1] q3 hi (by rw[tG,hU]) (.inr #[U,_,χ,χ,λz=>xr i hi Ar!]) fk_
   (λx hx k' c9 z=>by
    let tx:(Aq_).txt x=if x=i then U++pS!::v else W.txt x:=χ
    rw[tx]at z;by_cases y:x=i
    .subst y;rw[y_]at z;simp![LG,LA,KS,KR]at z;obtain z|z|z:=z
     .exact hf x hi k' a! Ar!
     .simp at z;omega
     .exact hf x hi k' a! (by rw[hl,LG];exact KY _ z)
    .rw[LB y]at z;exact hf x hx k' a! z)
   (λM' ρ Y h2 f'=>hR M' ρ (by
    rw[yH]at Y;rw[show B+(cs.length+1)=B+1+cs.length by omega,VW];simpa[sgn]using Y) (by
    rw[yH]at h2;simpa[sgn]using h2) (q2.trans f'))
  let hp:∀R',Bt uA_ d4! (wl a2_) pQ! M1 R'=R' (.nx pQ!) Ap_:=by
   intro R';simp[Bt,wl,As,Gm,Di,Aa,fC,Z0,oF5,Jt,h5',show Cj b2_=ψ _ from χ,l5]
  simp![hp];show"#;"
def b6g(hO:aO_)(w:Bv W)(dt:fH!)(WY:Cj b=ψ kb)(hB:hI_)(hs:kZ_)
  (hf:∀x∈W.its,∀k':Nat,D.tup Aj_∉Ej_ a5!)
  (hR:∀M',Fa_ M' As! bH!->Bv As!->EA_ O->Fl! M'):
  Gk t [bo_,.tup bI!,i,b,b3!] M R:=by
 exact j!;simp![Jm,Af,Ap,Kb,wT,Ba,wl,Ab,Ad,Aa];simp[hO.noOb oM2];exact fV hO dt ?_;show"!{"
 .simp only[c1,NR]at hR;let#[U,v,e1,e2,e3]:=iS b hL_ bF_;let hl:cZ!<=16:=by simpa[Str.length]using hs
  let hi:Ur S! [ap!,cY_,A_,bI_,ψ aQ!,bI_,υ,υ,υ]=ψ (Ey! eN):=by
   rfl
  let:=tW (b:=b) (tx:=b3!) s.cps.toList 0 M W B U v b kb υ υ υ hC! a! hO w c1 e1 Au! WY (λx hx k' _=>hf x hx k')
   (λM' ρ Y h2 f'=>hR M' (by rw[<-e2]at Y;exact Y.mono a!) (by rw[<-e2]at h2;exact h2) f')
  simp![c1,UA,QZ,MJ,NJ,Bi,Ak,wl,Cu,Hm,Di];show"#;"
 .simp only[c1,NJ]at hR;let:=hR M pT! w .refl;simpa[c1,Nl]using this
end
def dH{N:Mh}(J:N b≠υ)(hq:N q=υ):b≠q:=λz=>J (zG_ z hq)
def c4r(h:f ρ M λv M1=>fo ρ M1 λd M2=>fi ρ M2 λy M3=>Di qL! λM4=>q ρ M4 R):ER! (Bt fo fi f) q:=by exact h
def oX(h:f ρ M λ_ M1=>Ge! q):ER! (Bb f) q:=h
def uS{Q:f2!}(h0:Au_)(Y:fy!)(hM:M o=ψ pT_)(hx:E6_ x=ψ u!)(hp:bJ!)(hk:aX_)(hl:c2!)
  (hQ:Q f1_):As C x cZ_ ρ M (λd M2=>wl fi ρ M2 λy M3=>Di qL! λM4=>Q M4):=by
 let e:Jt M u! y v=ψ f1_:=by simp[Jt,hp,hk,hl]
 simp![As,wl,h0,Gm,hM,NR,hx,Di,Y,e];exact hQ
def d6e{f1 f2:p!}(h0:∀K,fo ρ M K=K d M)(ho:lH!)(Y:fM_)(h2:hM_)(k:g [d,a,b] M K):Ba C m 3 g fo pU! ρ M K:=by delta Ba Ab Ad;rw[h0];simp![wl,Y,h2];exact pU_
def DU(t:Bo):WS:=Af ut!
 (Af ut_
 (Af ur_
 (Af us!
 uw!)))
section
variable{M M' M1:Mh}{V V':Ix}
def Du.lv(h:a6!)(l:Iw V q):M (ad q)≠none:=by let#[c,e,_]:=h.ty q l;rw[e];simp
def Du.alloc{N:Uy->ν}(h:a6!)(hB:cU_)(old:kF!)(cs:Av!)(nw:Av_)(ni:∀q q',N q->N q'->bg q=bg q'->q=q')
  (hd:∃c,M' (ad rd)=ψ c/\HM! bg rd)(nt:∀q,N q->∃c,M' (bg q)=ψ c/\HM! bg q)(k:∀q,Iw V q->q≠rd->M' (ad q)=M (ad q)/\Sm V V' q)(lr:Iw V rd):IY_ V' B':=by
 exact h.go hB old (λq q' l l' e=>?_) λq l=>?_
 .obtain l|l:=cs q l<;>obtain l'|l':=cs q' l'
  .rw[old q l,old q' l']at e;exact h.inj q q' l l' e
  .rw[old q l]at e;exact Ei_ (e▸nw q' l') (h.lv l)
  .rw[old q' l']at e;exact Ei_ (e▸nw q l) (h.lv l')
  .exact ni q q' l l' e
 .obtain l|l:=cs q l
  .by_cases e:q=rd
   .subst e;rw[old q l];exact .inl hd
   .exact .inr #[l,k q l e]
  .exact .inl (nt q l)
def b1o{N:Uy->ν}(lr:Iw V rd)(old:kF!)(cs:Av!)(nw:Av_)(k:∀a,M a≠υ->a≠ad rd->M' a=M a):G5_ V':=λa ha hn=>by
 exact#[k a ha λz=>hn #[rd,lr,z.symm],?_];rintro⟨q,l,e⟩;obtain l|l:=cs q l
 .exact hn #[q,l,by rw[<-old q l];exact e]
 .exact ha (e▸nw q l)
nonrec def Ix.nw(V:Ix)(x:D)(b:Bool):Ix:={V.sl x b []with dm:=λc y=>V.dm c y\/(c=b/\y=x)}
def yV(h:a6!)(hx:¬V.dm b x)(hk:aX!)(hB:B<3990)(hf:∀{a1 a2 a3 a4 a5 a6:sS!},HE_ bn_ f=ψ (.fn (match b with|true=>a2|false=>a3)))(e0:AB!)(e1:AB_)
  (hR:∀M' bg,bg .ob=ad .ob->G5_ pY!->IY_ pY! a8_->q ρ M' R):ER! (Bt (As t.B6 f i_) o_ gJ!) q:=by
 exact c4r (vP λr f p M1 z1 z2 z3 n1 n2 hr n3 fr=>?_);let#[kd,ed,hd,ld,kv]:=h.dirV;let m1:∀a,M a≠υ->M1 a=M a:=λa ha=>fr a (dH ha z1) (dH ha z2) (dH ha z3);let ob:=Fq! AC! h.ob;let WZ:=(m1 _ k2_).trans hd;exact uS (p:=ad hy_) e0 e1 ob (hf.trans (by cases b<;>rfl)) WZ hk an! ?_
 let -nondep bg:Uy->Addr:=λq=>if q=.row x b then r else if q=.fol x b then f else if q=.pre x b then p else ad q
 let a1:bg fD_=r:=KQ χ;let a2:bg cT_=f:=IH_ c_;let a3:bg cU!=p:=(LB c_).trans (IH_ c_);let old:∀q,Iw V q->bg q=ad q:=λq l=>Fq! pZ! (Mh! pZ! pZ!);let cs:∀q,Iw pY! q->Iw V q\/AD_:=λq l=>by
  cases q with
  |row y c=>exact l.imp_right λz=>.inl el_
  |fol y c=>exact l.imp_right λz=>FL! el_
  |pre y c=>exact l.imp_right λz=>Er_ el_
  |_=>exact .inl l
 let nw:∀q,AD_->M (bg q)=none:=by
  rintro q (rfl|rfl|rfl)
  .rw[a1];exact z1
  .rw[a2];exact z2
  .rw[a3];exact z3
 let#[kf,ef,kp,ep,hf,hp,K,Kp]:=hr.dc;let md:∀{c:Dh} {a:sS!},M a=υ->mup M1 (ad hy_) c a=M1 a:=λha=>Lq! (dH k2_ ha);exact hR _ bg AE_ (b1o (rd:=.dir b) ο old cs nw λa ha hn=>(p0!).trans (m1 a ha)) ?_;exact h.alloc fK_ old cs nw ?_ #[_,mup_same,_,_,χ,kS_,λy=>?_] ?_ (λq l hn=>Hs! (h.inj q hy_ l ο z)) ο
 .rintro q q' (rfl|rfl|rfl) (rfl|rfl|rfl) e
  .rfl
  .rw[a1,a2]at e;exact HZ_ n1
  .rw[a1,a3]at e;exact HZ_ n2
  .rw[a1,a2]at e;exact Lg_ n1
  .rfl
  .rw[a2,a3]at e;exact HZ_ n3
  .rw[a1,a3]at e;exact Lg_ n2
  .rw[a2,a3]at e;exact Lg_ n3
  .rfl
 .rw[jX];by_cases c:y=x
  .rw[KQ c,c,a1];exact#[cC!,λz=>ξ (.inr aK_) z]
  .rw[LB c];exact#[λz=>by let z:=z.resolve_right λw=>c w.2;rw[old (.row y b) z];exact(kv y).1 z,λz=>(kv y).2 λw=>z (.inl w)]
 .rintro q (rfl|rfl|rfl)
  .rw[a1];exact#[_,(md z1).trans hr.ob,by show Dh.obj _ _=Dh.obj _ (Js_ (bg cT_) (bg cU!));rw[a2,a3]]
  .rw[a2];exact#[_,(md z2).trans hf,by show TF _ _ AH_;rw[yF];exact#[ML _,_,_,χ,K]]
  .rw[a3];exact#[_,(md z3).trans hp,by show TF _ _ (AH_).reverse;rw[yF];exact#[ML _,_,_,χ,Kp]]
 .cases q with
  |dir c=>exact funext λy=>G5! #[λz=>z.resolve_right λw=>hn (by rw[w.1]),.inl]
  |fol y c=>exact LB λz=>hx AI_
  |pre y c=>exact LB λz=>hx AI_
  |_=>rfl
nonrec def Ix.nn(V:Ix)(x:D)(l:d!):Ix:={V with nd:=λy=>V.nd y\/y=x,nu:=λy=>if y=x then l else V.nu y}
def b5c(h:a6!)(hx:¬V.nd x)(hk:aX!)(hB:B<3990)(e0:AB!)(e1:AB_)
  (hR:∀M' bg,bg .ob=ad .ob->G5_ p3_->IY_ p3_ a8_->R Z! M'):Bt nJ_ o_ uu! ρ M R:=by
 exact#[T!,AJ_,λq z=>?_];let#[_,hd,kd,ed,rfl,ld,kv]:=h.ty .nums ο;let m1:∀{c:Dh} a,M a≠υ->Ig_ q a=M a:=λa ha=>Lb! ha z;exact uS e0 e1 (Fq! AC! h.ob) oF4 ((m1 _ k2_).trans hd) hk an! ?_
 let -nondep bg:Uy->Addr:=λr=>if r=.nm x then q else ad r
 let a1:bg hv_=q:=KQ χ;let old:∀r,Iw V r->bg r=ad r:=λr l=>LB λz=>hx AD!;let cs:∀r,Iw p3_ r->Iw V r\/r=.nm x:=λr l=>by
  cases r with
  |nm y=>exact l.imp_right λz=>by rw[z]
  |_=>exact .inl l
 let nw:∀r,r=.nm x->M (bg r)=none:=λr e=>by rw[e,a1];exact z
 exact hR _ bg AE_ (b1o (rd:=.nums) ο old cs nw λa ha hn=>(p0!).trans (m1 a ha)) ?_;exact h.alloc fK_ old cs nw (λr r' e e' _=>e.trans e'.symm) #[_,mup_same,_,_,χ,kS_,λy hy=>?_] (λr e=>?_) (λr l hn=>Hs! (h.inj r .nums l ο z)) ο
 .rw[jX];by_cases c:y=x
  .rw[KQ c,c,a1]
  .rw[LB c,old (.nm y) AK_];exact kv y AK_
 .subst e;rw[a1];exact#[_,(Lq! (dH k2_ z)).trans mup_same,by show Dh.lst _=Dh.lst (GM! x x);rw[y_];rfl]
 .cases r with
  |nums=>exact Ew! hn
  |nm y=>exact LB λz=>hx (Ev! z l)
  |_=>rfl
end
def b9c{V:Ix}(h:a6!)(hi:Gs i)(hl:kq!<=B)(h0:kget k root=ψ .non)(Y:kget k Cq=ψ .non)(hp:∀i p,V.pr i p->kget k i=ψ p):
  Du t (Lw! hu! (Bq k i x)) ad {V with pr:=λa p=>(V.pr a p/\a≠i)\/(a=i/\p=x)} a8_:=by
 exact h.up fK_ ο #[_,_,χ,kS_,?_,?_,?_] λr hn l=>pG!
 .rw[mL hi.nn.2.1];exact h0
 .rw[mL hi.nn.2.2];exact Y
 .rintro a p (⟨z,y⟩|⟨rfl,rfl⟩)
  .rw[mL (MD y)];exact hp a p z
  .rw[jR]
 .cases r with
  |par=>exact Ew! hn
  |_=>rfl
def a4d:(Lx n o xs).length=h_+1:=by let#[u,v,e1,e2,_]:=nV n o xs;rw[e1,e1.symm,e2,e1];simp;omega
def c1v(h:∀a,¬P a->M' a=M a):Fr M P M' P:=λa _ hn=>#[h a hn,hn]
def d0z(hO:aO_)(w:Bv W)(hn:n∉W.its)(ht:Gs n)(nh:dy_)(WY:Cj b=ψ kb)(hB:hI_)(hg:KH_ n)
  (hR:∀M' O',HN! fA_ bH!->EA_ O'->Fl! M'):Ic t [bo_,n,a,b] M R:=by
 let#[kn,g7]:=ht.key;let hp:Hi W fQ_:=by split;assumption;exact .inr k4_
 let nP:¬Hi W n:=λz=>z.elim hn λz=>z.elim ht.nn.2.1 ht.nn.2.2;exact j!;generalize hK:AL_=KK;let iq:∀ρ' M',R .non M'->KK bs_ M':=λρ' M' z=>by rw[<-hK];exact z
 let key:∀pl,pl=fQ_->DU t [ap!,bE!,ψ a,bI_,b3_] M KK:=by
  intro pl epl;rw[<-epl]at hg hp;let#[kpl,hkpl]:=a2h w hp;let#[ad,eo,hO,hI]:=hO;let pn:n∉D.non::Fe! Fi pl:=by
   rw[KR,SZ];exact#[ht.nn.1,λz=>mB w hn pl p4_]
  subst eo;let#[_,Y,k1,e1,rfl,l1,p0,p1,pr]:=hI.ty .par ο;let fv1:Aa 1 AM!=ψ n:=χ;let f0:Aa 0 AM!=ψ kI_:=χ;exact uS f0 fv1 hI.ob oF1 Y g7 an! ?_;let I1:=b9c (e:=Hj k1 n e1) (x:=pl) hI ht l1 p0 p1 pr;let F1:Fr M (Wk ad bo!) (mup M hu! (.dct (Bq k1 n pl) (Hj k1 n e1))) (Wk ad bo!):=c1v λa ha=>uB ο ha;let#[k2,e2,h2,_,kv]:=I1.dirV (b:=τ);let r1:=I1.row (b:=τ) hp;exact oX (d6e (λR'=>?_) (by simp![Cz,r1.1.ob,rM.1,and_self]) χ χ (jU r1.1 g7 WY pn (by let:=r1.2;omega) λM2 R2 K2=>?_))
  .simp[w2,wl,As,Gm,I1.ob,oF2,Bl,h2,hkpl,(kv pl).1 hp,Di,Aa]
  let#[I2,f2]:=I1.sl (b:=τ) (B':=B+2) a! hp R2 K2 AN!;exact yV (b:=τ) I2 nP g7 a! oF2 χ χ λM3 a3 o3 F3 I3=>?_;exact yV (b:=θ) I3 (λz=>z.elim hn λy=>by exact Eg_ (y.1)) g7 a! oF3 (GP! o3) χ λM4 a4 o4 F4 I4=>?_;exact b5c I4 hn g7 a! (by rw[o4,o3];rfl) χ λM5 a5 o5 F5 I5=>iq _ _ ?_;let F:=((F1.trans (c1v f2)).trans F3).trans (F4.trans F5);let hm:∀q,q∈rows'↔q=(n,pl)\/q∈W.rows:=λq=>by
   rw[hg.mem,jW];exact SU #[λz=>z.1,λz=>#[z,λe=>mB w hn q.2 (Ev! e z)]]
  let wn:Fe! wo n=W.rows:=MY.mpr λq hq=>by simpa using λz=>mB w hn q.2 pl!
  let cn:=List.eq_nil_iff_forall_not_mem.mpr λc hc=>nP (Jj! (gP.mp hc));let np:pl≠n:=λz=>nP (z▸hp);let et:∀{P:fJ_},(∃x∈W.its++[n],∃q∈hr_,P q)↔∃x∈W.its,∃q∈W.txt x,P q:=λ{P}=>by
   show"#<"
   .rintro⟨x,hx,q,hq,h⟩;by_cases c:x=n
    .rw[KQ c]at hq;exact(ei_).elim
    .rw[LB c]at hq;exact#[x,(o9_).resolve_right λz=>c p5!,q,hq,h]
   .rintro⟨x,hx,q,hq,h⟩;exact#[x,LN _ hx,q,by rw[LB λz:x=n=>hn (z▸hx)];exact hq,h]
  let hL:∀r,Iw k6! r↔Iw (AR!) r:=λr=>by
   let d:∀(c:Bool) (y:D),(k6!).dm c y↔((bo!).dm c y\/(c=τ/\y=n))\/(c=θ/\y=n):=λc y=>by
    cases c with
    |true=>
     show"#<"
     .rintro(z|z)
      .exact .inl ((KS.mp z).imp .inl λz=>#[χ,aI_])
      .exact .inl fR!
     .rintro((z|z)|z)
      .exact Or.imp_left (LN _) z
      .exact .inl (by rw[z.2];exact KY _ p6!)
      .exact Eg_ (z.1)
    |false=>show y∈W.its++[n]↔(y∈W.its\/_)\/_;simp
   cases r with
   |row y c=>exact d c y
   |fol y c=>exact d c y
   |pre y c=>exact d c y
   |nm y=>show y∈W.its++[n]↔y∈W.its\/y=n;simp
   |_=>exact Iff.rfl
  exact hR M5 (Wk a5 k6!) #[a5,o5.trans (o4.trans o3),AS!,I5.cv a! λr l=>#[(hL r).mp l,?_]] λc hc hr=>?_
  .let ls:∀(y:D) (c:Bool),(k6!).ls y c=(AR!).ls y c:=λy c=>by
    show _=if y=n/\c=θ then[]else if y=n/\c=τ then[]else if y=pl/\c=τ then Lx n b AQ! else(bo!).ls y c
    cases c with
    |true=>
     rw[aW_];show Fi rows' y=_;by_cases c1:y=n
     .rw[KQ p6_,c1,hg.chl_ne np,wn,cn]
     .rw[AS_];by_cases c2:y=pl
      .rw[KQ #[c2,χ],c2,AT_,wn]
      .rw[LB λz=>c2 z.1,hg.chl_ne (MD c2),wn];rfl
    |false=>
     show Ej_ y6_=_;by_cases c1:y=n
     .rw[KQ c1,KQ p6_];rfl
     .rw[LB c1,AS_,aW_,aW_];rfl
   cases r with
   |par=>exact funext λi=>funext λp=>G5! ((hm b1!).trans #[λz=>z.elim AU_ λz=>.inl #[z,λe=>mB w hn p (e▸z)],λz=>z.elim (λz=>.inr z.1) λz=>.inl el_])
   |dir c=>exact funext λy=>G5! (hL (.row y c))
   |nums=>exact funext λy=>G5! (hL (.nm y))
   |wri=>exact funext λs=>funext λv=>G5! et
   |hid=>exact funext λs=>G5! et
   |fol y c=>exact ls y c
   |pre y c=>exact ls y c
   |nm y=>rfl
   |_=>rfl
  .let#[f1,f2]:=F c hc λz=>hr k7!
   exact#[f1,by rintro⟨r,l,e⟩;exact f2 #[r,(hL r).mp l,e]]
 let hh:∀K:D->Mh->Prop,Ds t [bo_,a] M K->Ba t.B6 "has" 2 (Ds t) i_ bz! [ap!,bE!,ψ a,bI_,υ] M K:=λK vx=>#[hO.noOb cW_,χ,vx];exact hh _ (c1q hO nh ?_);by_cases c:Hi W a
 .rw[LM c];exact key a (by rw[KQ c])
 .rw[LD c];exact key Cq (by rw[LB c])
def tL(hO:aO_)(w:Bv W)(dt:fH!)(hkx:pF!)(qk:Cj s=ψ ks)(hB:hI_)
  (hR:∀M',(en_->∀rows',Om W.rows i x s rows'->Bm t M' o O {W with rows:=rows'} bH!)->(¬en_->Bm t M' o O W bH!)->EA_ O->Fl! M'):
  Fq t [bo_,i,x,s] M R:=by
 exact j!;show Af uy! (Af _ (Af _ _)) [ap!,A_,bq!,b4!] M _;dsimp only[Af,Ap,Kb,wT,Ba,wl,Ab,Ad,Aa,List.getElem?_cons_zero,List.getElem?_cons_succ,Option.join_some];exact#[hO.noOb cW_,χ,?_];exact a6s hO w dt hkx λb J=>?_;cases b with
 |false=>
  let hc:¬en_:=λz=>by let:=J.mpr z;exact Eg_ this
  let:=hR M (Hs_ z hc) (λ_=>hO.mono a!) .refl;simpa[Nl]using this
 |true=>
  let#[hi,hx,hw]:=J.mp χ;let#[p0,io]:=a7t w hi;let xt:=Jj! io;let#[WU,hkp0]:=a2h w xt;let#[uu,vv,c1,c2]:=a9z w.rnd io;let#[ad,rfl,hO,hI]:=hO;let#[_,Y,k1,e1,rfl,l1,q0,q1,pr]:=hI.ty .par ο;let#[k2,e2,h2,_,kv]:=hI.dirV (b:=τ);let r0:Gr t M AX! (ad (.fol p0 τ)) (ad (.pre p0 τ)) (uu++i::vv)/\(uu++i::vv).length<=B:=by rw[<-c1];exact hI.row xt
  let hx0:∀R',w2 Bl d2_ nG_ AX_ M R'=R' (.fn AX!) M:=by
   intro R';simp[w2,wl,As,Gm,hI.ob,oF1,oF2,Bl,Y,h2,dt,pr i p0 io,hkp0,(kv p0).1 xt,Di,Aa]
  simp![Bool.not_true,Bool.false_eq_true,if_false,Bi,Bb,Ba,hx0];exact#[by simp![Cz,r0.1.ob,rM.2.1,and_self],χ,?_];exact a3m r0.1 dt (by let:=r0.2;omega) λM1 R1 K1=>?_;rw[<-c2]at R1;let#[I1,f1]:=hI.sl (b:=τ) (Nat.le_refl B) xt R1 K1 (by let:=r0.2;rw[c2];simp at this ⊢;omega);let#[k2,e2,h2,_,kv]:=I1.dirV (b:=τ);let#[_,Y,k1,e1,rfl,l1,q0,q1,pr]:=I1.ty .par ο;let e1x:(AY!).ls x τ=Fi hT_ x:=by
   show(if x=p0/\τ=τ then _ else Fi W.rows x)=_;by_cases e:x=p0
   .rw[if_pos #[e,χ],e]
   .rw[if_neg λz=>e z.1,zW λz=>e AY_]
  let r1:=I1.row (b:=τ) hx;rw[e1x]at r1;let W9:∀R',w2 Bl d2_ D_ AX_ M1 R'=R' (.fn (II! x)) M1:=by
   intro R';simp[w2,wl,As,Gm,I1.ob,oF2,Bl,h2,hkx,(kv x).1 hx,Di,Aa]
  simp![W9];exact#[by simp![Cz,r1.1.ob,rM.1,and_self],χ,?_];exact jU r1.1 dt qk (by rw[List.mem_cons,not_or];exact#[(kS!).nn.1,λz=>(jW.mp p4_).2 χ]) (by let:=r1.2;omega) λM2 R2 K2=>?_;let#[I2,f2]:=I1.sl (b:=τ) (Nat.le_succ B) hx R2 K2 AN!;let j4:=(K2 hu! (λz=>by let:=I1.inj .par (.fol x τ) ο hx z;cases this) λz=>by let:=I1.inj .par (.pre x τ) ο hx z;cases this).trans Y;let fin:Fl! (mup M2 hu! (.dct (Bq k1 i x) (Hj k1 i e1))):=by
   let I3:=b9c (e:=Hj k1 i e1) (x:=x) I2 kS! (Nat.le_succ_of_le l1) q0 q1 pr;exact hR _ (λ_ rows' hg=>#[ad,χ,hO,I3.cv a! λr l=>pG!]) (Hs_ #[hi,hx,hw] z) λc hc hr=>#[(uB (r0:=.par) ο λz=>hr k7!).trans ((f2 c λz=>hr k7!).trans (f1 c λz=>hr k7!)),hr];let ls:∀(y:D) (c:Bool),(Jy {W with rows:=rows'}).ls y c=((AY!).sl x τ (Lx i s (Fi hT_ x))).ls y c:=λy c=>by
    show _=if y=x/\c=τ then _ else if y=p0/\c=τ then _ else(bo!).ls y c
    cases c with
    |false=>rw[if_neg nofun,if_neg nofun];rfl
    |true=>
     show Fi rows' y=_;by_cases c1:y=x
     .rw[if_pos p6_,c1,AT_]
     .rw[if_neg λz=>c1 z.1,hg.chl_ne (Ne.symm c1)];by_cases c2:y=p0
      .rw[if_pos #[c2,χ],c2]
      .rw[if_neg λz=>c2 z.1,zW λz=>c2 AY_];rfl
   cases r with
   |par=>exact funext λa=>funext λp=>G5! (hg.mem.trans #[λz=>z.elim AU_ λz=>.inl (jW.mp z),λz=>z.elim (λz=>.inr (jW.mpr z)) λz=>.inl el_])
   |fol y c=>exact ls y c
   |pre y c=>exact ls y c
   |dir c=>cases c<;>rfl
   |_=>rfl
  simpa[Bt,wl,As,Gm,Di,Aa,I2.ob,oF1,Jt,j4,dt,show k1.length<big by delta big;omega]using fin
nonrec def Bo.nd(t:Bo):Prop:=(p9!).Nodup
def Ja(c:δ):Bool:=decide k9_&&decide la!&&!(c==37)
def Ge(s:Str):Bool:=decide (E!<=1000)&&s.cps.toList.all Ja
def c0l(a c:δ):Ql (Lv_ a) ak!=decide (a<=c):=by
 delta Ql;simp![List.cons_lt_cons_iff,List.not_lt_nil,and_false,SS];by_cases h:c<a
 .simp[h]
 .simp[h];omega
def b5a:(" ":Str)=(Lv_ 32):=by decide+kernel
def b4z:("~":Str)=(Lv_ 126):=by decide+kernel
def sD(hn:f_=n)(h:q cS_=ψ ag!):Ef N n q ds=ψ d:=by delta Ef;rw[KQ hn,h]
def sE(h:bY!):By f ρ=ψ ag!:=by delta By;rw[h];rfl
def fD(hn:f_=n)(h:f cS_=ψ d):Ef N n (By f) ds=ψ d:=sD hn (sE h)
def sk(hc:p9_)(h:q2 ρ=r):IZ_ (Iz c q Fm)=r:=by delta sSeq Iz;rw[hc];exact h
def uM(hn:f_=n)(hc:c cS_=ψ θ)(h:f cS_=ψ d):Ef N n (Lf_ (Iz c q Fm) f) ds=ψ d:=sD hn (sk hc (sE h))
def d6m(hc:qa!)(h:bY!):IZ_ (Iz c (By f) q)=ψ ag!:=by delta sSeq Iz;rw[hc];show(By f ρ).bind _=_;rw[sE h];rfl
def bJ(h:q1 ρ=ψ bs_):IZ_ q1=q2 ρ':=by delta sSeq;rw[h];rfl
def nT(h:q1 ρ=ψ ag!):IZ_ q1=ψ ag!:=by delta sSeq;rw[h];rfl
def fX(h:bY!):Fd i f ρ=Fw! bX_:=by delta Fd;rw[h];rfl
def bI(h:bY!)(g:hV!):Ac f fs ρ=ψ dr_:=by delta Ac;rw[h,g];rfl
def iK(h:hV!)(e:g ds=ψ d):f1 g fs ρ=ψ d:=by delta f1;rw[h];exact e
def aT{f1 f3:p!}(h:f1 ρ=ψ x)(k:f3 ρ=ψ y)(e:g x y=ψ d):f2 g f1 f3 ρ=ψ d:=by delta f2;rw[h,k];exact e
def iH(h:0<j):Cw ay! aH_=BA! (i%j):=by show(KX_ (0<j))=_;rw[KQ (LM h)]
def wQ(h:f ρ=ψ aJ!):fT f ρ=ψ b:=by delta fT;rw[h];rfl
def a3e(h:fa ρ=ψ x!)(k:fb ρ=ψ d):Hu fa fb ρ=ψ d:=by delta Hu;rw[wQ h];exact k
def d8d(h:fa ρ=ψ I!):Hu fa fb ρ=ψ I!:=by delta Hu;rw[wQ h];rfl
def b9f(h:fa ρ=ψ x!):Ms fa fb ρ=ψ x!:=by delta Ms;rw[wQ h];rfl
def b4o(h:fa ρ=ψ I!)(k:fb ρ=ψ d):Ms fa fb ρ=ψ d:=by delta Ms;rw[wQ h];exact k
def nM(e:g [x]=ψ d)(h:f ρ=ψ x):f1 g qa_ ρ=ψ d:=iK (bI h χ) e
def xE(e:g [x,y]=ψ d)(h:f ρ=ψ x)(k:f' ρ=ψ y):f1 g (Eh_ f f') ρ=ψ d:=iK (I0! h k) e
def bT [Decidable p](h:p):KA_ p=ψ x!:=by rw[LM h]
def chn(Y:fa ρ=ψ x)(h2:fb ρ=ψ y)(e:g x y=ψ aJ!)(h3:b=τ->fc ρ=ψ z)(e2:b=τ->g' y z=ψ d)(e3:b=θ->d=.bl θ):El g g' fa fb fc ρ=ψ d:=by
 delta El;rw[Y,h2,NT,NT,e];cases b with
 |true=>show(fc ρ).bind _=_;rw[h3 χ];exact e2 χ
 |false=>rw[e3 χ];rfl
def d7a(Y:fa ρ=ψ ay!)(h2:fb ρ=ψ aH_)(h3:fc ρ=ψ bO_)(e1:i<=j)(e2:g aH_ bO_=ψ d):El Ki g fa fb fc ρ=ψ d:=chn Y h2 (bT e1) (λ_=>h3) (λ_=>e2) λz=>by exact Eg_ z
def at0(x:D)(r:d!):Ff (x::r) 0=ψ x:=by delta Ff Jz;rw[qb!,fS!];rfl
def d3e(c:δ):Cp [d6_]=C2! (Ja c):=by
 let e1:Ki ns_ dj_=CH! k9_:=by rw[b5a,<-c0l];rfl
 let e2:Ki dj_ nt!=CH! la!:=by rw[b4z,<-c0l];rfl
 let e3:((c:Int)==37)=(c==37):=by rw[NY,OT,OT];omega
 let e4:Ix! El [ψ dj_]=ψ (.bl (decide k9_&&decide la!)):=El_ chn e1 qb_ (λz=>by rw[e2,z];rfl) λz=>by rw[z];rfl
 exact Hl_ fD;delta Ja;cases h:decide k9_&&decide la! with
 |false=>rw[h]at e4;exact d8d e4
 |true=>
  rw[h]at e4;exact a3e e4 ?_;show Gg! (!((c:Int)==37))=_;rw[e3,VF]
def wU(cs:o!)(h:cs.all Ja=τ):Gm! A5_=ψ lb_:=by
 induction cs with
 |nil=>rfl
 |cons c cs ih=>
  rw[RK,LS]at h;let e:=d3e c;rw[h.1]at e;show((Cp [d6_]).bind λy=>(Gm! A5_).map fw_)=_;rw[ih h.2,e];rfl
def wY:∀(cs:o!),Jo lc!=ψ qc_
 |[]=>rfl
 |c::cs=>by simp![LA,Jo,wY cs,Option.map_some]
def b2y(a b:Str):Dt (.str a) (.str b)=gc!:=by delta Dt;rfl
def d7l(a b:Int):Dt (.int a) (.int b)=gc!:=by delta Dt;rfl
def a6x(s:Str):∀xs:List Str,A6_=xs.any (·==s)
 |[]=>rfl
 |x::xs=>by rw[LA,QN,QN,a6x s xs,b2y]
def c6y(s:Str)(xs:w_):Uq θ aQ! (.tup ld!)=ψ (.bl (xs.any (·==s))):=by
 let h:(ld!).all Jn=true:=by simp[OC,Jn]
 show(if Jn aQ!&&(ld!).all Jn then ψ (D.bl A6_)else υ)=_;rw[h,a6x];rfl
def nJ(a b:Str):Au (.str a) (.str b)=C2! gc!:=by rfl
def in2(k a b:Str):Uq θ ac_ qd_=C2! qe!:=by let:=c6y k aq!;simpa only[LA,RH,QN,List.any_nil,Bool.or_false]using this
def qD(a b:Int):Au (.int a) (.int b)=C2! gc!:=by rfl
abbrev scr(ns:s_):D:=.lst jP_
def a3a(h0:0<=i)(Y:i<h_):∃x,Ff xs i=ψ x/\x∈xs:=by exact#[xs[i.toNat]' a!,?_,OU _];delta Ff Jz;rw[KQ h0,KQ Y];simp
def c8h(ns:s_)(k:Int):∃c,Rp [cq!,es_]=ψ ld_:=by
 cases ns with
 |nil=>exact#[0,χ]
 |cons n r=>
  let hp:(0:Int)<A7!:=by simp![KP,KW];omega
  let#[x,e,hx]:=a3a (i:=k%A7!) (QC _ a!) (PK k hp);let#[c,_,rfl]:=LC.mp hx;exact#[c,sD χ (d6m χ A8!)]
def c9g(h:-gw!<j)(h2:j<2 ^ 64):Ej ay! aH_=BA! (i*j):=KQ (by delta Vg;rw[LM h,LM h2,Bool.and_self,Bool.or_true])
def gD(ns:s_):∃m,Aw [cq!,es_]=ψ bG!/\0<=m/\m<4294967231:=by let#[c,hc]:=c8h ns k;exact#[_,sD χ ((LL! (Ma_ (aT (xE hc χ χ) le! χ))).trans ((LL! (Ma_ (Kl_ (c9g a_ a_)))).trans (sE (Ma_ (Fh_ (aT et! χ (c9g a_ a_))))))),QC _ a_,PK _ a_]
def kN(h:xs≠[]):∃x,Co [.lst xs,aW!]=ψ x/\x∈xs:=by
 let hp:(0:Int)<(h_:δ):=by let:=SE.mpr h;omega
 let#[x,e,hx]:=a3a (i:=n%(h_:δ)) (QC _ a!) (PK n hp);exact#[x,fD χ A8!,hx]
def a3d(hf:bY!)(hl:qf_)(J:f_<big):Lu i f ρ=ψ yW!:=by delta Lu;rw[hf,hl];show(if f_<big then _ else _)=_;rw[KQ J]
def vW(P:δ->Ag->ν)(ds:d!):∀(i:δ) (ρ:Ag),P i ρ->
  (∀(j:δ) (d:D) (ρ:Ag),ds[j]?=ψ d->P (i+j) ρ->∃ak bf,bnd d ρ=ψ ak/\q ak=Fw! bf/\P (i+j+1) bf)->
  ∃ρ',No bnd q ds ρ=ψ bs_/\P (i+f_) ρ':=by
 induction ds with
 |nil=>exact λi ρ h _=>#[ρ,χ,h]
 |cons d ds ih=>
  intro i ρ h hs;let#[ak,bf,e1,e2,h2]:=hs 0 d ρ χ h;let#[ρ',e3,h3]:=ih al! bf h2 λj d ρ hd hp=>by
   let:=hs I_ d ρ hd;rw[<-Nat.add_assoc,Nat.add_right_comm]at this;exact this hp
  exact#[ρ',?_,by rw[KW,<-Nat.add_assoc,Nat.add_right_comm];exact h3];delta No;rw[e1,NT,e2];exact e3
def qI(R:D->ν)(ds:d!)(h:∀d∈ds,∃ak b,bnd d ρ=ψ ak/\ft ak=ψ b/\(b=τ->∃y,fe ak=ψ y/\R y)):
  ∃ys,FN_ ρ=ψ ys/\aj_<=f_/\∀y∈ys,R y:=by
 induction ds with
 |nil=>exact#[[],χ,LJ _,λy hy=>by exact(KN hy).elim]
 |cons d ds ih=>
  let#[ak,b,e1,e2,hy]:=h d KM;let#[ys,e3,hl,hr]:=ih λx hx=>h x a9_
  delta Ck;rw[e1,NT,e2,NT];cases b with
  |false=>exact#[ys,e3,Nat.le_succ_of_le hl,hr]
  |true=>
   let#[y,e4,r4]:=hy χ;exact#[y::ys,by rw[y_,e4,NT,e3];rfl,UF hl,ri!];obtain rfl|hz:=KR.mp hz
   .exact r4
   .exact hr z hz
def sS:∀{ds ys:d!},Ck bnd W! fe ρ ds=ψ ys->aj_=f_
 |[],ys,e=>by rcases e;rfl
 |d::ds,ys,e=>by
  delta Ck at e;let#[ak,e1,e]:=KH.mp e;dsimp only[Option.bind_some,if_true]at e;let#[y,e3,e]:=KH.mp e;let#[zs,e4,rfl]:=KZ.mp e;simp[sS e4]
def NameG(x:D):Prop:=∃a b,x=.tup yV!/\0<=a/\a<16/\1<=b/\b<=2000
def Bg(x:D):Prop:=x=.str "root"\/x=.str "bin"\/NameG x
def Lj(x:D):Prop:=x=.non\/NameG x
def Vj(x:D):Prop:=∃a b c,x=.tup yU_/\0<=a/\a<16/\1<=b/\b<=2000/\0<=c/\c<=15
def Hv(x:D):Prop:=x=.non\/Vj x
inductive DG:D->Prop
 |put {a b:D}:Bg a->Lj b->DG hW!
 |move {a b c:D}:Bg a->Bg b->Lj c->DG hW_
 |drop {a:D}:Bg a->DG hX!
 |write {a b:D} {s:Str}:Bg a->Hv b->Ge s=τ->1<=E!->E!<=16->DG fU!
 |cut {a:D} {x y z m:Int}:Bg a->Vj fK!->1<=m->z+m<=16->DG fU_
 |set {a:D} {p n:Int}:Bg a->0<=p->p<=3->n.natAbs<10 ^ 60->DG (.tup [lh!,a,.int p,aW!])
 |undo {a:D}:NameG a->DG (.tup [qi_,a])
 |redo {a:D}:NameG a->DG (.tup [qj!,a])
def Ti(o:D):Prop:=∃h n tm d,o=.tup [aP_,aW!,.int tm,d]/\0<=h/\h<16/\1<=n/\n<=2000/\DG d
def a6j(h:DG d):∃k r,d=.tup b5_/\(k="write"->∃a b s,r=[a,b,b3!]/\E!<=16):=by
 cases h with
 |write _ _ _ _ h5=>exact#[_,_,χ,λ_=>#[_,_,_,χ,h5]]
 |_=>exact#[_,_,χ,λz=>ξ z g!]
def a2c(h:f ρ=KN_ b5_):Eu_ (f2 Ah (f2 Ah f aE_) B_) li! ρ=ψ (k==s):=wQ (aT (aT (Fh_ h) χ (at0 _ _)) χ (nJ k s))
def a5o(h:hY_)(hl:hZ!):∃ys,Eo [lj!]=o8! ql_/\aj_<=100/\∀x∈ys,NameG x:=by
 let#[ys,e,l,hr]:=qI (ρ:=br_) (bnd:=Ar 0) (ft:=fT op!) (fe:=Ay gY_)
  NameG ops (by
   intro o ho;let#[h',n,tm,d,rfl,b1,b2,b3,b4,hd]:=h o ho;let#[k,r,rfl,_]:=a6j hd;exact#[_,_,χ,a2c χ,λ_=>F6_ Bi!])
 let hc:HK_ 1 [b6_]=ψ bT_:=by
  show Bj_;rw[dC!,e];rfl
 exact#[ys,fD χ (aT (aT χ hc (KQ (by show 1+aj_<=big;delta big;omega))) χ (KQ (by show aj_+1+2<=big;delta big;omega))),i!,hr]
def b2q(hr:∀x∈ys,NameG x):∀x∈D.str "root"::lk!,Bg x:=λx hx=>by
 simp at hx;obtain rfl|hx|rfl|rfl:=hx
 .exact cw!
 .exact Er_ (hr x hx)
 .exact kW!
 .exact Er_ #[9,9,χ,T!,T!,T!,T!]
def c1f(h:hY_)(hl:hZ!):∃its,Eo [lj!]=ψ qm_/\3<=gT!/\gT!<=200/\∀x∈its,Bg x:=by let#[ys,e,l,hr]:=a5o h hl;exact#[_,e,H_,by simp;omega,b2q hr]
def c9n(h:qa!):JQ_ b=a ρ:=by delta Iz;rw[h];rfl
def c9o(h:p9_):JQ_ b=b ρ:=by delta Iz;rw[h];rfl
def a9n(h:oI!)(e:No b q ds ρ=r):Uf f b q ρ=r:=by delta Uf;rw[h];exact e
def a7u(h:f ρ=ψ Bl_)(hm:m<=100000):Ft f ρ=ψ (Cr m):=by delta Ft;rw[h];show(if -1000<=h1!/\h1!<=100000 then ψ (Cr (h1!).toNat)else υ)=_;rw[ad!];rfl
def b2c(h:(Cr m)[j]?=ψ d):j<m/\d=.int (j:δ):=by delta Cr at h;rw[MO]at h;let#[i,hi,rfl]:=KZ.mp h;let#[av,he]:=LH.mp hi;rw[NI]at av;rw[TM]at he;subst he;exact#[av,χ]
/-- the signs ir so far -/
def CL(c:δ)(l:d!):Prop:=l≠[]/\K!<=c/\∀z∈l,Hv z
def CL.add(h:CL c l)(hx:Hv x):CL H! (l++[x]):=#[H_,by rw[KO];exact UF h.2.1,λz hz=>(KS.mp hz).elim (h.2.2 z) λy=>by rw[LF.mp y];exact hx]
def b7a(h:hY_)(hl:hZ!):∃ss,Mq [lj!]=o8! ss/\ss≠[]/\∀x∈ss,Hv x:=by
 let#[ρ',e,ir,x,y,rfl,f0,_,hf]:=vW (bnd:=Bu 2) (q:=Iz v3_ v6! Fm)
  (λi ρ=>∃ir x y,ρ=[b6_,Bo_,x,y]/\CL (2+16*i) ir) ops 0 [b6_,o8! [.non,.tup [.int 9,.int 9,.int 3]],υ,υ] #[_,_,_,χ,CL.add (l:=[.non]) #[H_,LJ _,λz hz=>by rw[LF.mp hz];exact .inl χ] (.inr #[9,9,3,χ,T!,T!,T!,T!,T!,T!])] (by
  rintro j d ρ hd ⟨ir,x,y,rfl,hf⟩;let hj:=(LH.mp hd).1;let#[h',n,tm,d',rfl,b1,b2,b3,b4,hdg]:=h d (QQ hd);let#[k,r,rfl,hw]:=a6j hdg;cases hk:k==("write":Str)with
  |true=>
   let c9:=OT.mp hk;let#[a,b,s,rfl,s16]:=hw c9;let#[bf,e2,found2,y2,rfl,uz]:=vW (bnd:=Bu 3) (q:=Lu 1 v5_) (λi ρ=>∃ir y,ρ=qp!/\CL (2+16*(0+j)+i) ir) (Cr E!) 0
    (qp!) #[ir,y,χ,hf] (by
     rintro i d ρ hd ⟨ir,y,rfl,hf⟩;let#[av,rfl]:=b2c hd;let J:=hf.2.1;exact#[_,_,χ,a3d χ χ an!,_,_,χ,hf.add (.inr #[_,_,_,χ,b1,b2,b3,b4,i!,i!])])
   let hr:f1 Be v4_ qp!=ψ Bq!:=nM (x:=b3!) (show Bq_=_ from KQ an!) χ;exact#[_,_,χ,(c9n Br!).trans (a9n (a7u hr a!) e2),found2,_,_,χ,uz.1,?_,uz.2.2];let:=uz.2.1;rw[show(Cr s.length).length=s.length from(KP _).trans NI]at this;omega
  |false=>exact#[_,_,χ,c9o Br!,ir,_,_,χ,hf.1,LX hf.2.1 a!,hf.2.2])
 exact#[ir,sD χ (L0! (a9n χ e)),f0,hf]
abbrev letters:Str:=" abcXYZ.,;!019~[]\\\"'|{}<>@#$&*()-+/=_^:?`"
def sM:qq_=41:=by decide+kernel
def a9d:letters.cps.toList.all Ja=true:=by decide+kernel
def b5u:(dD!).cps=#[]:=by decide+kernel
def zM:(dD!).length=0:=by decide+kernel
def Ng(c:δ):D:=.str ak!
def a3n:∀(xs:d!),(∀x∈xs,∃c,x=Ng c/\Ja c=τ)->∃cs:List Nat,xs=cs.map Ng/\cs.all Ja=τ
 |[],_=>Bt!
 |x::xs,h=>by
  let#[c,rfl,hc]:=h x KM;let#[cs,rfl,rq]:=a3n xs λy hy=>h y ec_
  exact#[c::cs,χ,by simp![RK,hc,rq,Bool.and_self]]
def qR:∀(cs:o!),Oq lp!=ψ h3!
 |[]=>rfl
 |c::cs=>by simp![LA,Ng,Oq];rw[show List.map Ng cs=List.map Ng cs from χ,qR cs];rfl
def a5y:∀(cs:o!) (σ:Array δ),(h3!).foldl (λσ p=>σ++(dD!).cps++p.cps) σ=σ++cs.toArray
 |[],σ=>by rfl
 |c::cs,σ=>by
  rw[LA,PZ,a5y cs,b5u];simp
def c1b(cs:o!):Txt.join dD! h3!=qr!:=by
 delta Txt.join Builtin.Str.glued;cases cs with
 |nil=>rfl
 |cons c cs=>
  simp![LA,List.drop_succ_cons,List.drop_zero,List.headD_cons];rw[a5y];simp
def a0i:∀(cs:o!),((h3!).map fF!).sum=cY!
 |[]=>rfl
 |c::cs=>by
  let ih:=a0i cs;simp![LA,List.sum_cons,KW];rw[ih];show 1+cY!=_;omega
def b0k(Y:1<=most)(Z1:most<=40):∃s,Hr [aW!,.int most]=ψ aQ!/\Ge s=τ/\1<=E!/\(E!:Int)<=most:=by
 let hm0:0<=n%most:=QC _ a!;let Z2:n%most<most:=PK _ a!;obtain⟨N,hN⟩:∃N:Nat,(N:Int)=1+n%most:=#[(1+n%most).toNat,i!];let hN1:1<=N:=by omega
 let hN2:N<=40:=by omega
 let#[ys,e,l,hr]:=qI (ρ:=Bu!) (bnd:=Ar 0) (ft:=qs!) (fe:=f2 Ah x_ v8_)
  (λy=>∃c,y=Ng c/\Ja c=τ) fW! (by
   intro d hd;delta Cr at hd;let#[i,hi,rfl]:=LC.mp hd;let ig:=RY.mp hi;let z1:(0:Int)<1+3*(i:Int):=by omega
   let z2:1+3*(i:Int)<1073741824:=by omega
   let az:qq_<=big:=by rw[sM];decide
   let bi:((Bv!:δ):Int)=41:=by
    let:Bv!=41:=by rw[<-sM];rfl
    omega
   let#[c,ec,hc]:=a3a (xs:=letters.cps.toList) (i:=n / (1+3*(i:Int))%41) (QC _ a_) (by rw[bi];exact PK _ a_);let hix:Ah qr_ (.int (n / (1+3*(i:Int))%41))=ψ (Ng c):=by
    show(if qq_<=big then(Ff letters.cps.toList _).map _ else υ)=_;rw[KQ az,ec];rfl
   exact Jt! #[Ng c,?_,c,χ,OC.mp a9d c hc];exact aT χ (Fh_ (aT χ le! (KQ (Bool.and_eq_true_iff.mpr #[LM z1,LM z2])))) hix)
 let l2:=sS e;let#[cs,rfl,rq]:=a3n ys hr;let b9:cY!=N:=by simpa[Cr]using l2
 let hc:Im! 1 qs_=o8! lp!:=by
  let hi:Ft oq_ qs_=ψ fW!:=by
   exact a7u ((L1_ a!).trans (by rw[hN])) a!
  delta Cn;rw[hi];show(El! fW! (KF_ Bu! fW!))=_;rw[KQ (by simp[Cr,big];omega),e];rfl
 let hj:Kk g1! (.lst lp!)=FN! qr!:=by
  delta Kk;simp![qR,NT,a0i,KP,zM,Nat.mul_zero,VU,c1b];rw[dC!]
 exact#[qr!,?_,?_,?_,?_]
 .exact sD χ (KF! (fX χ) (sE ?_));delta Xv;show((Cn 1 [0,2] _ _ _ _ qs_).bind λy=>Kk g1! y)=_;rw[hc];exact hj
 .simp only[Ge,Str.length,KU,rq,Bool.and_true,LV];omega
 .simp only[Str.length,KU];omega
 .simp only[Str.length,KU];omega
def JY:Ag->ι Fl:=wc!
def JX:Ag->ι Fl:=(Fd 5 jW!)
def JW:Ag->ι Fl:=wc_
def JV:Ag->ι Fl:=wd_
def IQ:Ag->ι Fl:=we!
def JU:Ag->ι Fl:=we_
def JT:Ag->ι Fl:=wg!
def JS:Ag->ι Fl:=wh!
def JR:Ag->ι Fl:=wi!
def JQ:Ag->ι Fl:=wi_
def EN:Ag->ι Fl:=wk!
def EL:Ag->ι Fl:=wk_
def BX:Ag->ι Fl:=wn!
def Zo:Ag->ι Fl:=wp_
nonrec def dq14:Ag->ι Fl:=wq_
nonrec def dq15:Ag->ι Fl:=wr!
def FN:Ag->ι Fl:=(sSeq JS (sSeq JR (sSeq JQ (sSeq EN By_))))
def b4g:Oi=(sSeq JY (sSeq JX (sSeq JW (sSeq JV (sSeq IQ (sSeq JU (sSeq JT FN))))))):=χ
abbrev kinds:μ D:=[hV_,hV_,hV_,qh_,qh_,dB_,dB_,c1!,lh!,qi_,qj!,.str "drop"]
def KindOk(k:Str):Prop:=k="put"\/k="move"\/k="write"\/k="cut"\/k="set"\/k="undo"\/k="redo"\/k="drop"
def a6o(h:x∈Iu xs lo hi):x∈xs:=RP (SY h)
def Tb:D->D
 |.str _=>.non
 |d=>d
def a5p(h:Bg d\/d=.non):(Tc "str" d=ψ τ/\Tb d=.non)\/(Tc "str" d=ψ θ/\Tb d=d/\Lj d):=by
 rcases h with(rfl|rfl|⟨a,b,rfl,h⟩)|rfl
 .exact .inl aK_
 .exact .inl aK_
 .exact .inr #[χ,χ,.inr #[a,b,χ,h]]
 .exact .inr (Je! cw!)
def d3l(ns:s_)(h:hY_)(hl:hZ!):∃m0 its item j7 k,0<=m0/\its≠[]/\(∀x∈its,Bg x)/\Bg item/\Lj j7/\KindOk k/\
  Oi BA_=FN qt_:=by
 let#[m0,e0,p0,_]:=gD ns (k:=base);let#[m1,e1,_,_]:=gD ns (k:=base+1);let#[m2,e2,_,_]:=gD ns (k:=base+2);let#[its,ei,i3,i200,qt]:=c1f h hl;let xu:its≠[]:=by intro z;subst z;simp at i3
 let rl:BB!≠[]:=by
  intro z;let z2:=Ki_ z;simp[Iu,HT.sIx]at z2;omega
 let b9:(BB_).length+(BC!).length<=big:=by
  simp[Iu,HT.sIx,big];omega
 let#[item,ep,mp]:=kN (n:=m1) rl;let qu:Bg item:=by
  obtain z|z:=KS.mp mp
  .exact qt _ (a6o z)
  .exact qt _ (a6o z)
 let a1:Al (.lst BB_) (.lst BC!)=o8! BB!:=by
  show h4!;rw[KQ b9]
 let a2:Al qm_ (.lst jX!)=o8! (its++jX!):=by
  show(JR! gT! 2)=_;rw[dC!]
 let#[cx,eo,mo]:=kN (n:=m2) (xs:=its++jX!) c_;let vy:Bg cx\/cx=.non:=by
  obtain z|z:=KS.mp mo
  .exact .inl (qt _ z)
  .simp at z;exact .inr z
 let km:Lj (Tb cx):=by
  obtain⟨_,z⟩|⟨_,z,y⟩:=a5p vy
  .rw[z];exact .inl χ
  .rw[z];exact y
 let#[kd,ek,mk]:=a3a (xs:=kinds) (i:=m0%12) (QC _ a_) (by show _<(12:Int);exact PK _ a_);obtain⟨k,rfl,hk⟩:∃k,kd=.str k/\KindOk k:=by
  simp[kinds]at mk;delta KindOk;obtain rfl|rfl|rfl|rfl|rfl|rfl|rfl|rfl:=mk<;>exact F6_ H_
 let ek':Ah (.lst kinds) (.int (m0%12))=ψ ac_:=ek;exact#[m0,its,item,Tb cx,k,p0,xu,qt,qu,km,hk,?_];let e4:IQ (Ks! cx)=Fw! (Ks! (Tb cx)):=by
  obtain⟨z1,z2⟩|⟨z1,z2,_⟩:=a5p vy
  .rw[z2];exact c9n BE_
  .rw[z2];exact c9o BE_
 rw[b4g];exact(LL! (xE e0 χ χ)).trans ((LL! (Im_ ei)).trans ((LL! (xE ep (Kl_ a1) (xE e1 χ et!))).trans ((LL! (xE eo (Kl_ a2) (xE e2 χ et!))).trans ((bJ e4).trans ((bJ (fX χ)).trans (LL! (aT χ (Kl_ fT_) ek')))))))
def b5o(h:qa!):JQ_ b=a ρ:=by delta Iz;rw[h];rfl
def iI(h:p9_):JQ_ Fm=ψ Z!:=by delta Iz;rw[h];rfl
def qC(h:Aa i ρ=ψ ac_)(e:(k==s)=b):Eu_ (Aa i) li! ρ=ψ b:=by delta fT f2 fC;rw[h];show(Au ac_ aQ!).bind _=_;rw[nJ,e];rfl
def nU(h:hV!)(hl:BF_):By (Ay fs) ρ=HA_ dr!:=by delta By Ay;rw[h];show Option.map _ BG!=_;rw[BG_];rfl
def a4w(h:qu_)(g:Aa 1 ρ=BA! base)(e:Hm! (base+j)=ψ bG!):Kg! u_ (fC aH_) ρ=ψ bG!:=
 iK (bI h (Mc_ (Fh_ g))) e
def b8o(a:f ρ=ψ V!)(b:h ρ=ψ bG!)(e:Co [.lst xs,cX_]=ψ p):f1 Co (Eh_ f h) ρ=ψ p:=
 iK (I0! a b) e
def Wi(d:D):Prop:=(∀a b s,d=.tup Bd!->E!<=5)/\∀b,d≠.tup [qi_,.tup fZ!]/\d≠.tup [qj!,.tup fZ!]
def yC{k:Str}(Y:k≠"write")(h2:k≠"undo")(h3:k≠"redo"):Wi c2_:=by
 exact BI!<;>(simp![D.tup.injEq,NX,D.str.injEq]at e)
 .exact GQ! Y
 .exact GQ! h2
 .exact GQ! h3
def c8t{k:Str}(Y:k≠"write")(h:∀b,d≠.tup fZ!):Wi (.tup [et_,d]):=by
 exact BI!<;>(simp![D.tup.injEq,NX,D.str.injEq,VC]at e)
 .exact GQ! Y
 .exact h b e.2
 .exact h b e.2
def d4y(h:E!<=5):Wi fU!:=by
 exact#[λa' b' s' e=>?_,λc=>BH!]<;>(simp![D.tup.injEq,NX,D.str.injEq,VC]at e)
 .rw[<-e.2.2.2];exact h
 .exact GQ! g!
 .exact GQ! g!
def c7t(ns:s_)(h:hY_)(h6:∀o∈ops,∀n tm d,o≠.tup [bs!,n,tm,d])(hl:hZ!)(Z2:1<=most)(hm5:most<=5):∃d,Jg BJ!=ψ d/\DG d/\Wi d:=by
 let#[m0,its,item,j7,k,p0,xu,qt,qu,vy,hk,hA]:=d3l ns (base:=base) (most:=most) h hl;let fin:∀d,FN qt_=ψ ag!->Jg BJ!=ψ d:=λd e=>by
  delta Jg Ef;rw[KQ fk_];show(match Oi BA_ with|some (.rt d)=>ψ d|some (.nx _)=>ψ .non|none=>υ)=_;rw[hA,e]
 clear hA;let#[m1,e1,_,_]:=gD ns (k:=base+1);let#[m3,e3,_,_]:=gD ns (k:=base+3);let#[m4,e4,_,_]:=gD ns (k:=base+4);let#[m5,e5,_,_]:=gD ns (k:=base+5);let#[p1,vm,mp1]:=kN (n:=m1) xu;let#[p3,ep3,mp3]:=kN (n:=m3) xu;let#[ss,es,XA,hss]:=b7a h hl;let#[sg,eg,mg]:=kN (n:=m4) XA;let Z3:=hss _ mg;let#[tx,et,jr,Z4,XB]:=b0k (n:=m5) Z2 a!;let vz:∀{k:Str},EN qt_=Fw! qv!:=
  fX (iK (bI (iK ev! es) (Mc_ (El_ a4w e4))) eg)
 let Z5:∀{k:Str},BJ_=τ->Zo qv!=HA_ qw!:=λ{k} e=>
  (b5o (Jj_ e)).trans (E7_ nU)
 let Z6:DG qw!/\Wi qw!:=#[.set qu a! a! a!,h5!];obtain⟨nm,nn,n6,hun⟩:∃nm,NameG nm/\(∀b,nm≠.tup [.int 6,b])/\∀{k:Str},("put"==k)=θ->sSeq dq14 dq15 [ψ (scr ns),ψ (.int base),ψ (.lst ops),ψ (.int most),ψ (.int m0),ψ (.lst its),ψ item,ψ j7,ψ (.lst kinds),ψ (.str k),ψ sg,υ]=HA_ (.tup [.str k,nm]):=by
  let#[ys,e,l,hr]:=qI (ρ:=br_) (bnd:=Ar 0) (ft:=qs!) (fe:=Ay gY_)
   (λy=>NameG y/\∀b,y≠.tup fZ!) ops (by
    intro o ho;let#[h',n,tm,d,rfl,b1,b2,b3,b4,_]:=h o ho;exact Jt! #[_,χ,Bi!,λb e=>by simp![D.tup.injEq,NX,D.int.injEq]at e;exact h6 _ ho dV! (.int tm) d (by rw[e.1])])
  let a1:Al bT_ (.lst qw_)=o8! (ys++qw_):=by
   show(JR! aj_ 1)=_;rw[dC!]
  let#[nm,en,mn]:=kN (n:=m1) (xs:=ys++qw_) c_;exact#[nm,?_,?_,λ{k} _=>(LL! (aT ?_ χ a1)).trans (LT_ en)]
  .obtain z|z:=KS.mp mn
   .exact(hr _ z).1
   .simp at z;subst z;exact#[_,_,χ,T!,T!,i!,i!]
  .obtain z|z:=KS.mp mn
   .exact(hr _ z).2
   .simp at z;subst z;intro b e;simp at e
  .show Bj_;rw[dC!,e];rfl
 let xv:∀{k:Str},("put"==k)=θ->(k=="write")=θ->(k=="cut")=θ->BJ_=θ->(By_) qv!=HA_ (.tup [et_,nm]):=λ{k} e0 w c s=>
  (bJ (iI (qC χ w))).trans ((bJ (iI (by delta Ep;rw[qC χ c];rfl))).trans (KF! (iI (Jj_ s)) (hun e0)))
 delta KindOk at hk;obtain rfl|rfl|rfl|rfl|rfl|rfl|rfl|rfl:=hk
 .exact#[_,fin _ (nT (Fq! lx! (LT_ vm))),.put (qt _ mp1) vy,h5!]
 .exact#[_,fin _ (L7! (LM! nU (Kr! (b8o χ (El_ a4w e3) ep3)))),.move qu (qt _ mp3) vy,h5!]
 all_goals first|(exact#[_,fin _ (Mh! aI! (L7! (E7_ nU))),.drop qu,h5!];done)|skip
 .exact⟨_,fin _ ((aI!).trans ((aI!).trans ((aI!).trans ((ly!).trans
   (nT (Mh! lx! (LM! nU (bI χ (Kr! (iK (Mc_ (El_ a4w e5)) et)))))))))),.write qu Z3 jr Z4 a!,d4y a!⟩
 .let go:FN [ba!,cs_,b6_,dD_,fW_,fX!,fX_,ls!,ls_,ψ d1_,υ,υ]=sSeq BX By! [ba!,cs_,b6_,dD_,fW_,fX!,fX_,ls!,ls_,ψ d1_,ψ sg,υ]:=EF_ aI!;obtain rfl|⟨a,b,c,rfl,Y,h2,h3,h4,c0,c15⟩:=Z3
  .exact#[_,fin _ (go.trans (KF! (iI BR!) (nT (Z5 χ)))),Z6]
  .let hc:0<16 - c:=by omega
   let q1:0<=m0 / 12%(16 - c):=QC _ a!;let q2:m0 / 12%(16 - c)<16 - c:=PK _ hc;exact#[_,fin _ (go.trans (nT ((b5o BR!).trans (nU (bI χ (bI χ (bI χ (Mc_ (L1_ hc))))) χ)))),.cut qu #[a,b,c,χ,Y,h2,h3,h4,c0,c15] a! a!,h5!]
 .exact#[_,fin _ (EF_ (Mh! aI! (KF! (iI (by delta Ep;rw[qC (b:=θ) χ g!];rfl)) (nT (Z5 g!))))),Z6]
 .exact#[_,BV!,.undo nn,c8t g! n6]
 .exact#[_,BV!,.redo nn,c8t g! n6]
def fQ(h:Bg d):Dj d=true:=by obtain rfl|rfl|⟨a,b,rfl,_⟩:=h<;>simp[Dj,Ei]
def yG(h:Lj d):Dj d=true:=by obtain rfl|⟨a,b,rfl,_⟩:=h<;>simp[Dj,Ei]
def vI(h:NameG d):Dj d=true:=by let#[a,b,rfl,_]:=h;simp[Dj,Ei]
def a7o(h:Hv d):Dj d=true:=by obtain rfl|⟨a,b,c,rfl,_⟩:=h<;>simp[Dj,Ei]
def a9u(h:DG d):Dj d=true:=by
 cases h with
 |put Y h2=>simp[Dj,Ei,fQ Y,yG h2]
 |move Y h2 h3=>simp[Dj,Ei,fQ Y,fQ h2,yG h3]
 |drop Y=>simp[Dj,Ei,fQ Y]
 |write Y h2=>simp[Dj,Ei,fQ Y,a7o h2]
 |cut Y=>simp[Dj,Ei,fQ Y]
 |set Y=>simp[Dj,Ei,fQ Y]
 |undo Y=>simp[Dj,Ei,vI Y]
 |redo Y=>simp[Dj,Ei,vI Y]
abbrev Ry:Ag->ι Fl:=(sSeq wv!
 (sSeq wv_
 (sSeq ww!
 (sSeq ww_
 (sSeq wx_
 wz!)))))
inductive Px(W:OW)(n:D):D->OW->Prop
 |put {a b:D} {rows':q!}:Bg a->Lj b->KH_ n->I0_ hW! fA_
 |mvY {a b c:D} {rows':q!}:Bg a->Bg b->Lj c->BW!->Fe! Om a b c rows'->I0_ hW_ {W with rows:=rows'}
 |mvN {a b c:D}:Bg a->Bg b->Lj c->¬BW!->I0_ hW_ W
 |drY {a:D} {rows':q!}:Bg a->BW_->Fe! Om a Cq .non rows'->I0_ hX! {W with rows:=rows'}
 |drN {a:D}:Bg a->¬BW_->I0_ hX! W
 |wrt {a b:D} {s:Str} {h m:Int}:Bg a->Hv b->E!<=16->n=.tup ct!->I0_ fU! (II_ setT BX!)
 |cut {a:D} {x y z m:Int}:Bg a->0<=z->1<=m->z+m<=16->Px W n (.tup [.str "cut",a,.tup [.int x,.int y,.int z],.int m]) (if a∈W.its then setT W a (cutT ((List.range m.toNat).map λk=>.tup kT_) ah!)else W)
 |set {a:D} {p v:Int}:Bg a->0<=p->p<=3->I0_ lz_ (II_ Yw qA!)
def cI(h:Bg x):∃k,Cj x=ψ k:=by
 obtain rfl|rfl|⟨a,b,rfl,_⟩:=h
 .exact O_
 .exact O_
 .exact O_
def uH(h:Lj x):∃k,Cj x=ψ k:=by
 obtain rfl|⟨a,b,rfl,_⟩:=h
 .exact O_
 .exact O_
def b3x(h:Hv x):∃k,Cj x=ψ k:=by
 obtain rfl|⟨a,b,c,rfl,_⟩:=h
 .exact O_
 .exact O_
structure Ru(W:OW)(pre:d!):Prop where
 inv:Bv W
 its:∀x∈W.its,x∈pre
 sgs:∀x∈W.its,∀q∈W.txt x,∃h n k,q.1=.tup qA_/\D.tup bI!∈pre
 chr:∀x∈W.its,∀q∈W.txt x,∃c:Nat,q.2.1=.str ak!
def oU{s:Str}(hq:q∈Ey! eq!):∃c k:Nat,q=(.tup qB!,.str ak!,τ):=by let#[#[c,k],_,rfl]:=LC.mp hq;exact#[c,k,χ]
def b0r(h n:Int):∀(cs:o!) (k0:δ),((Ej_ BY!)).Nodup/\∀k:Nat,k<k0->D.tup qB!∉Ej_ BY!
 |[],k0=>by simp
 |c::cs,k0=>by
  let#[Y,h2]:=b0r h n cs (k0+1);exact#[LO.mpr #[h2 k0 a!,Y],λk hk z=>?_];obtain z|z:=KR.mp z
  .simp[sgn]at z;omega
  .exact h2 k a! z
def a7l{h m:Int}(hs:Px W h7! d W')(w:lA_)(hn:BY_):Ru W' B0!:=by
 let keep:∀{V:OW},V.its=W.its->V.txt=W.txt->Bv V->Ru V B0!:=λ{V} e1 e2 wi=>by
  exact#[wi,aA!,lB!,lB!]
  .rw[e1]at hx;exact LN _ (w.its x hx)
  .rw[e1]at hx;rw[e2]at hq;let#[a,b,c,e,hm]:=JR_ w.sgs;exact#[a,b,c,e,LN _ hm]
  .rw[e1]at hx;rw[e2]at hq;exact JR_ w.chr
 cases hs with
 |put y1 y2 hg=>
  rename_i a b rows';let ni:D.tup ct!∉W.its:=λz=>hn (w.its _ z);let hp:Hi W fQ_:=by split;assumption;exact .inr k4_
  let im:∀x,x∈(B1!).its↔x∈W.its\/x=.tup ct!:=λx=>by simp[Ij]
  let tx:∀x,(B1!).txt x=if x=.tup ct! then[]else W.txt x:=λx=>χ
  exact#[hg.winv_put w.inv ni (Jp! _) hp,aA!,lB!,lB!]
  .obtain z|rfl:=(im x).mp hx
   .exact LN _ (w.its x z)
   .simp
  .rw[tx]at hq;by_cases e:x=.tup ct!
   .rw[KQ e]at hq;exact(ei_).elim
   .rw[LB e]at hq;let#[a,b,c,e',hm]:=w.sgs x B1_ q hq;exact#[a,b,c,e',LN _ hm]
  .rw[tx]at hq;by_cases e:x=.tup ct!
   .rw[KQ e]at hq;exact(ei_).elim
   .rw[LB e]at hq;exact w.chr x B1_ q hq
 |mvY _ _ _ hc hg=>exact Lr! B2_
 |mvN _ _ _ hc=>exact Lr! w.inv
 |drY _ hc hg=>exact Lr! B2_
 |drN _ hc=>exact Lr! w.inv
 |wrt y1 y2 y3 e=>
  rename_i a b s h' m';cases e;by_cases c:a∈W.its
  .rw[KQ c];let#[U,v,e1,e2,e3]:=In! iS;let mem:∀q,q∈In! wrT↔q∈W.txt a\/q∈s.cps.toList.zipIdx.map h6!:=λq=>by
    rw[e2,e1];simp![KS];constructor<;>(intro z;rcases z with(z|z)|z<;>simp[z])
   let fresh:∀x∈W.its,∀q∈W.txt x,∀k:Int,q.1≠.tup [aP_,cX_,es_]:=λx hx q hq k z=>by
    show"!]";rw[e']at z;cases z;exact hn hm
   let tx:∀x,(B3!).txt x=if x=a then In! wrT else W.txt x:=λx=>χ
   let all:∀(P:fJ_),(∀x∈W.its,∀q∈W.txt x,P q)->(∀q∈s.cps.toList.zipIdx.map h6!,P q)->∀x∈W.its,∀q∈(B3!).txt x,P q:=λP Y h2 x hx q hq=>by
    rw[tx]at hq;by_cases e:x=a
    .rw[KQ e]at hq;obtain z|z:=(mem q).mp hq
     .exact Y a c q z
     .exact h2 q z
    .rw[LB e]at hq;exact JR_ Y
   exact#[qT w.inv c ?_ eo! pH_,λx hx=>LN _ (w.its x hx),all _ (λx hx q hq=>?_) eo!,all _ w.chr eo!]
   .rw[e2];let nd:=w.inv.snd a c;rw[e1]at nd;let#[n1,_]:=b0r h m s.cps.toList 0;let dj:∀q∈W.txt a,∀q'∈s.cps.toList.zipIdx.map h6!,q.1≠q'.1:=λq hq q' aj=>by
     let#[c',k',rfl]:=oU aj;exact fresh a c q hq _
    simp![LG]at nd ⊢;rw[MB]at nd;rw[MB,MB];exact#[#[nd.1,n1,hq_],nd.2.1,hq_]
    .let#[q,hq,rfl]:=LC.mp hx;let#[q',aj,rfl]:=LC.mp hy;exact Hm_ LN
    .obtain hx|hx:=KS.mp hx
     .exact nd.2.2 x hx y hy
     .let#[q',aj,rfl]:=LC.mp hx;let#[q,hq,rfl]:=LC.mp hy;exact MD (Hm_ KY)
   .obtain z|z:=(mem q).mp hq
    .exact w.inv.sg a c q z
    .let#[c',k',rfl]:=oU z;exact Ak_
   .obtain z|z:=(mem q).mp hq
    .exact(w.inv.su a c y hy q z q' aj e).symm
    .let#[c',k',rfl]:=oU z;exact Lg_ (fresh y hy q' aj _)
   .show"!]";exact qC_
   .let#[c',k',rfl]:=oU hq;exact#[_,_,_,χ,H_]
   .let#[c',k',rfl]:=oU hq;exact O_
  .show"!~"
 |cut y1 y2 y3 y4=>
  rename_i a x y z m';by_cases c:a∈W.its
  .rw[KQ c];let tx:∀v,(setT W a (cutT B5_ ah!)).txt v=if v=a then cutT B5_ ah! else W.txt v:=λx=>χ
   exact#[b5x w.inv c _,λv hv=>LN _ (w.its v hv),B6_,B6_]
   .rw[tx]at hq;split at hq
    .show"!I";let#[a',b',c',e',hm]:=w.sgs a c q0 h0;exact qC_
    .let#[a',b',c',e',hm]:=w.sgs v hv q hq;exact qC_
   .rw[tx]at hq;split at hq
    .show"!I";exact w.chr a c q0 h0
    .exact w.chr v hv q hq
  .show"!~"
 |set y1 y2 y3=>
  rename_i a p v;by_cases c:a∈W.its
  .rw[KQ c];exact Lr! (b3z w.inv (by rw[PY];exact w.inv.nl a c))
  .show"!~"
def c0u:(Ej! "put" "put")=true:=by decide+kernel
def a2a:(Ej! "move" "move")=true:=by decide+kernel
def a2b:(Ej! "drop" "drop")=true:=by decide+kernel
def a5i:(Ej! "write" "write")=true:=by decide+kernel
def c0v:(Ej! "cut" "cut")=true:=by decide+kernel
def c0t:(Ej! "set" "set")=true:=by decide+kernel
def ifT{R:p_}(h:B8!)(k:IU! q1):EV_ (Cc ft):=by simp![Ap,Cc,h];exact k
def jM{R:p_}(h:B9!)(k:f1!):EV_ (Cc ft):=by simp![Ap,Cc,h];exact k
def bF:(Kt_ qE!) [ap!,bE!,ψ c2_]=ψ lC_:=by
 let e:Ah c2_ P!=ψ ac_:=by
  show qE_;show"#0";simp
 simp[fT,f2,Aa,fC,e,nJ]
def ix1:Ah qF! bi!=ψ a:=by show Ff (D.str k::a::r) 1=_;delta Ff Jz;rw[ad!,fS!];rfl
def ix2:Ah qF_ cC_=ψ b:=by show Ff (D.str k::a::b::r) 2=_;delta Ff Jz;rw[ad!,fS!];rfl
def ix3:Ah qG! by!=ψ c:=by show Ff (D.str k::a::b::c::r) 3=_;delta Ff Jz;rw[ad!,fS!];rfl
def ax1:Gw! r! qF!=ψ a:=ix1
def ax2:Gw! ar! qF_=ψ b:=ix2
def ax3:Gw! aE_ qG!=ψ c:=ix3
def av0:Aa 0 Ca_=ψ ao_:=χ
def av1:Aa 1 Ca_=ψ n:=χ
def iA{R:p_}(k:f ρ M λ_ M1=>R Z! M1):Bb f ρ M R:=k
def vS{fo f1 f2 f3:p!}(h0:fo ρ=ψ d)(Y:fM_)(h2:hM_)(h3:qH_)(ho:lH!)(k:g [d,a,b,c] M R):Ba C m 4 g cZ_ Cb_ ρ M R:=by simp![Ba,wl,Ab,Ad,h0,Y,h2,h3];exact pU_
def d6d{fo f1 f2 f3 f4:p!}(h0:fo ρ=ψ d)(Y:fM_)(h2:hM_)(h3:qH_)(h4:qI!)(ho:lH!)(k:g [d,a,b,c,e] M R):Ba C m 5 g cZ_ qI_ ρ M R:=by simp![Ba,wl,Ab,Ad,h0,Y,h2,h3,h4];exact pU_
def c5l{h m:Int}(hO:aO_)(w:lA_)(hn:BY_)(hs:Px W h7! d W')(hB:hI_)
  (hR:∀M' O',HN! W' bH!->EA_ O'->Fl! M'):Mb t [bo_,.tup ct!,d] M R:=by
 let fresh:∀x∈W.its,∀k':Nat,D.tup [aP_,cX_,.int (k':δ)]∉Ej_ a5!:=λx hx k' z=>by
  show"#O";show"!]";rw[e']at e;cases e;exact hn hm
 exact j!;cases hs with
 |put ha J hg=>
  show"!2";let#[kb,ny]:=uH J;exact Kj_ c0u;exact iA (vS av0 av1 ax1 ax2 dE_ (d0z hO w.inv (λz=>hn (w.its _ z)) (Jp! _) b6 ny hB hg hR))
 |mvY ha J cy hc hg=>
  show"!Q";exact E8! (tL hO w.inv b6 ny XC hB λM' f1 _ fr=>hR M' O (f1 hc _ hg) fr)
 |mvN ha J cy hc=>
  show"!Q";exact E8! (tL hO w.inv b6 ny XC hB λM' _ f1 fr=>hR M' O (f1 hc) fr)
 |drY ha hc hg=>
  show"!}";exact In_ (tL hO w.inv b6 χ χ hB λM' f1 _ fr=>hR M' O (f1 hc _ hg) fr)
 |drN ha hc=>
  show"!}";exact In_ (tL hO w.inv b6 χ χ hB λM' _ f1 fr=>hR M' O (f1 hc) fr)
 |wrt ha J dh e=>
  cases e;show"!2";let#[kb,ny]:=b3x J;show"!/";exact Kj_ a5i;exact iA (d6d av0 av1 ax1 ax2 ax3 dE_ (b6g hO w.inv b6 ny hB dh fresh λM' f1 _ fr=>hR M' O f1 fr))
 |cut ha b5 Y h2=>
  show"!2";show"!/";exact jM K_ ?_;exact Kj_ c0v;exact E8! (d3r hO w.inv b6 hB b5 Y h2 λM' f1 fr=>hR M' O f1 fr)
 |set ha Y h2=>
  show"!2";show"!/";exact jM K_ ?_;exact jM K_ ?_;exact Kj_ c0t;exact E8! (xG hO w.inv b6 Y h2 λM' f1 fr=>hR M' O (f1.mono a!) fr)
def c5m{k:Str}(hk:Cf!)(hR:R .non M):Mb t [bo_,n,.tup [et_,a]] M R:=by
 exact j!;obtain rfl|rfl:=hk
 .show"!/";show"!/";exact hR
 .show"!/";show"!/";exact hR
def cQ(b:D->Bool)(y:D->D)(jp:ck M):∀(ds:d!) (R:Be_),
  (∀d∈ds,∃ak,bnd d ρ=ψ ak/\(∀K:Bool->Mh->Prop,K (b d) M->ft ak M K)/\(b d=τ->∀K:D->Mh->Prop,K (y d) M->fe ak M K))->R ((ds.filter b).map y) M->Fl_ ρ ds M R
 |[],R,_,hR=>#[jp,hR]
 |d::ds,R,h,hR=>by
  let#[ak,e1,e2,e3]:=h d KM;exact#[jp,?_];rw[e1];exact e2 _ ?_;cases J:b d with
  |true=>
   exact e3 J _ (cQ b y jp ds _ Cg_ ?_);rw[NM J]at hR;exact hR
  |false=>
   exact cQ b y jp ds _ Cg_ ?_;rw[NS (ES! J)]at hR;exact hR
structure Op where
 h:Int
 n:Int
 tm:Int
 d:D
nonrec def Op.v(o:Op):D:=.tup lD_
nonrec def Op.nm(o:Op):D:=.tup (Jt_ o.h o.n)
nonrec def Op.key(o:Op):Int×Int:=(o.tm,o.h)
def Dl:D->Em! cm_
 |.tup [.str k,a]=>if qK_ then ψ (k,a)else υ
 |_=>υ
def yB(k:Str)(a:D):Dl (.tup [et_,a])=if qK_ then ψ (k,a)else none:=χ
def qG(h:DG d):(∃k a,d=.tup [et_,a]/\Ch!/\NameG a/\Dl d=ψ (k,a))\/(∃k r,d=.tup b5_/\h8_=θ/\(k=="redo")=θ/\Dl d=υ):=by
 cases h with
 |put Y h2=>exact .inr h9!
 |move Y h2 h3=>exact .inr h9!
 |drop Y=>
  exact .inr #[_,_,χ,g!,g!,?_];rfl
 |write Y h2 h3 h4 h5=>exact .inr h9!
 |cut Y h2 h3 h4=>exact .inr h9!
 |set Y h2 h3 h4=>exact .inr h9!
 |undo Y=>
  exact .inl #[_,_,χ,cw!,Y,?_];rfl
 |redo Y=>
  exact .inl #[_,_,χ,.inr χ,Y,?_];rfl
def a2d(o:Op):Cv [o.v]=ψ Ci!:=by rfl
def wF:∀ops:List Op,Lz Cv h9_=ψ qL_
 |[]=>rfl
 |o::r=>by
  rw[LA];delta Lz;rw[a2d,wF r];rfl
def d6j(o:Op):Ik Cv o.v=o.key:=by delta Ik;rw[a2d];rfl
def a5t{k:α->Int×Int}(h:Ci_)(x:α):∀l:List α,Pm k' (f x) f9!=(Pm k x l).map f
 |[]=>rfl
 |y::r=>by
  simp![LA,Pm,h];split
  .rfl
  .rw[a5t h x r];rfl
def uE{k:α->Int×Int}(h:Ci_):∀l:List α,Hz k' f9!=(Hz k l).map f
 |[]=>rfl
 |x::r=>by rw[LA];delta Hz;rw[uE h r,a5t h]
abbrev Gj(ops:j_):μ Op:=Io! Hz ops
def mM(nd:ew_)(hl:ex!):Cs ct_=o8! ia!:=by
 let e:BD Cv h9_=ψ ia!:=by
  delta BD;rw[wF];show(if(qL_).Nodup/\(h9_).length<64 then ψ _ else υ)=_;rw[KQ #[nd,by simpa using hl],uE d6j]
 simp[Cs,Pe,Ef,By,Ut,Aa,e]
def sB(h:a.Perm b)(nd:Cj_):Gj a=Gj b:=
 lO (gS nd) (gS ((h.map _).nodup_iff.mp nd)) ((bU a).trans (h.trans (bU b).symm))
def b6w(nd:Cj_):Gj (Gj a)=Gj a:=sB (bU a) (((bU a).map _).nodup_iff.mpr nd)
def c8q{o:Op}(h:ia_):At [o.v]=ψ qM!:=by
 let e3:GV_ by!=ψ o.d:=by
  rfl
 let main:∀(k:Str) (r:d!),o.d=.tup b5_->At [o.v]=C2! qK_:=λk r e=>by
  let e0:Ah c2_ P!=ψ ac_:=by
   show qE_;show"#0";simp
  let e1:∀s:Str,f2 Au jy! li! [T_]=C2! (k==s):=λs=>by
   show(qM_).bind Cl_=_;rw[e3,e];show((Ah c2_ P!)).bind Cl_=_;rw[e0];exact nJ k s
  show(match By (Ms _ _) [T_]with|some (.rt d)=>ψ d|some (.nx _)=>ψ .non|none=>υ)=_;delta By Ms fT;rw[e1,e1];cases (k==Str.ofString "undo")<;>rfl
 obtain⟨k,a,e,hk,_,hu⟩|⟨k,r,e,Y,h2,hu⟩:=qG h
 .rw[main k [a] e,hu];obtain rfl|rfl:=hk
  .rw[Cn!];rfl
  .rw[Cn_,(show(Ej! "redo" "undo")=θ by decide+kernel)];rfl
 .rw[main k r e,hu,Y,h2];rfl
def Jx(f:Str->D):μ Op->μ av!->μ av!
 |[],σ=>σ
 |o::os,σ=>match Dl o.d with
  |some (k,a)=>Jx f os (Bq σ a (f k))
  |none=>Jx f os σ
def tY:∀(os:j_) (A B:q!),(∀x,(Gm_ A B)\/∃k:Str,kget A x=ψ ac_/\kget B x=ψ f2_)->
  ∀x,(Gm_ Co! (Jx lF! os B))\/∃k:Str,F3! Co!=ψ ac_/\F3! (Jx lF! os B)=ψ f2_
 |[],A,B,h=>h
 |o::os,A,B,h=>by
  delta Jx;cases e:Dl o.d with
  |none=>exact tY os A B h
  |some q=>
   let#[k,a]:=q;exact tY os _ _ λx=>?_;by_cases c:a=x
   .subst c;rw[jR,jR];exact .inr #[k,χ,χ]
   .rw[mL c,mL c];exact h x
def iY(h:bJ!)(hk:aX_)(hl:c2!):Jt M u! y v=ψ f1_:=by simp[Jt,h,hk,hl]
def yW(h:NameG x):∃k,Cj x=ψ k:=by let#[a,b,rfl,_]:=h;exact O_
def d7e:Aa 1 qN_=ψ u!:=χ
def a1i:∀(os:j_) (x1:D) (y:G_) (σ:q!) (ep:δ) (M:Mh) (R:p_),qO!->aB_+aY!<1000->M p=ψ qO_->
  (∀M' bx y',M' p=CF_ Co_ bx->lF_->R Cp! M')->
  Fe bi_ Q_ uK_ aw! qN_ M R
 |[],x1,y,σ,ep,M,R,_,_,hp,hR=>Cp_
 |o::os,x1,y,σ,ep,M,R,hd,hl,hp,hR=>by
  exact aB!;show JS! (Cc _) b7_;let ho:=hd o KM;let et:fT (f1 At cf_) b7_=ψ (Dl o.d).isSome:=by
   let e:f1 At cf_ b7_=ψ qM!:=c8q ho;delta fT;rw[e];rfl
  dsimp only[List.length_cons]at hl;let e3:GV_ by!=ψ o.d:=by rfl
  obtain⟨k,a,e,hk,g6,hu⟩|⟨k,r,e,Y,h2,hu⟩:=qG ho
  .rw[hu]at et;exact ifT et ?_;let#[ka,nh]:=yW g6;let i0:Gg_ B_=ψ ac_:=by
    show qM_=_;rw[e3,e];show Ff [D.str k,a] 0=_;rfl
   let i1:Gg_ r!=ψ a:=by
    show Cq!;rw[e3,e];show Ff [D.str k,a] 1=_;rfl
   let qw:Jt M u! a ac_=ψ Cq_:=by
    exact iY hp nh an!
   let:=a1i os x1 ex_ (Bq σ a ac_) (Hj σ a ep) Cq_ R ib_ (by let:=Jd! σ a ac_;omega) mup_same (λM' bx y' Y h2=>hR M' bx y' Cr! λb J=>HS_ b);simp![Bt,wl,i0,i1,d7e,qw,Di];show"#;"
  .rw[hu]at et;exact jM et ?_;exact Hn! a1i
def tQ(h:f ρ=ψ ci!):Dx f ρ=ψ ds:=by delta Dx;rw[h];rfl
def xO(nd:ew_)(hl:ex!)(hd:ic!)
  (hR:∀p M' ep,M p=υ->M' p=Lg! ic_->lF_->R u! M'):Fo ct_ M R:=by
 exact j!;intro p hp;let hi:Dx jz! qQ!=ψ ia!:=tQ (mM nd hl);let bn:I1! ba_:=bU ops;let:=LB_ a1i (FG_ o_);show Af (Cu (Hm _) _ _) _ qQ! _ _;simp![Af,Cu,Hm,hi,Di];show"#;"
def t2(ha:∀K':D->Mh->Prop,K' d M->fa ρ M K')(J:fb ρ=ψ v)(hg:g d v=ψ aJ!)(k:K b M):wT (w2 (λ_=>g) fa (wl fb)) ρ M K:=by exact ha _ ?_;simp![wl,J,hg];exact k
def Undn(wd:q!)(o:Op):Prop:=Dl o.d=υ/\JT! wd=ψ cf!
def c8u(o:Op):Ia o.v υ (ψ 2)=ψ o.nm:=by rfl
def a8r(o:Op):∃k,Cj o.nm=ψ k:=O_
def b0i(ue:p≠q):∀(os:j_) (x1:D) (y z:G_) (σ:q!) (ep:δ) (M:Mh) (R:p_),qO!->aB_+aY!<1000->M p=LC! wd->M q=ψ qO_->(GH_ wd)->
  (∀M' bx y' z' cb,M' q=CF_ cb bx->(Jk! (kget σ x≠υ\/∃o∈os,o.nm=x/\Undn wd o))->Ct_->Kx! [ap_,N!,b8!,y',z'])->
  Fe az_ Q_ jB_ aw! [ap_,N!,b8!,y,z] M R
 |[],x1,y,z,σ,ep,M,R,_,_,hp,hq,nz,hR=>#[ο,hR M ep y z σ hq Cu! λb _=>χ]
 |o::os,x1,y,z,σ,ep,M,R,hd,hl,hp,hq,nz,hR=>by
  exact aB!;show Ka! (Ak 4 _) [ap_,N!,b8!,T_,z];let ho:=hd o KM;dsimp only[List.length_cons]at hl;let es:=c8u o;dsimp only[Af,Ak,wl,es];show JS! _ dF!;let et:Dy uN! dF!=ψ (!(Dl o.d).isSome):=by
   let e:f1 At di_ dF!=ψ qM!:=c8q ho;delta Dy fT;rw[e];rfl
  let#[kn,g7]:=a8r o;let next:∀(c:ν),(c↔Undn wd o)->∀cb bx M',M' q=CF_ cb bx->(Jk! (kget σ x≠υ\/(x=o.nm/\c)))->cb.length<=aB_+1->Ct_->
    Fe az_ Q_ jB_ aw! dF! M' R:=λc hc cb bx M' Y h2 h3 h4=>by
   exact b0i ue os x1 _ _ cb bx M' R ib_ a! ((h4 p ue).trans hp) Y nz λM2 m9 y2 z2 acc2 g1 g2 g3=>hR M2 m9 y2 z2 acc2 g1 qR! λb J=>(g3 b J).trans (h4 b J);rw[g2,h2];show"#<"
   .rintro((u|⟨u1,u2⟩)|⟨o',u1,u2,u3⟩)
    .exact .inl u
    .exact .inr #[o,KM,u1.symm,hc.mp u2]
    .exact .inr #[o',KI _ u1,u2,u3]
   .rintro(u|⟨o',u1,u2,u3⟩)
    .exact K3_ u
    .obtain rfl|u1:=KR.mp u1
     .exact K3! #[u2.symm,hc.mpr u3]
     .exact .inr #[o',u1,u2,u3]
  let no:(¬Undn wd o)->Fe az_ Q_ jB_ aw! dF! M R:=λh=>next False (ES! h) σ ep M hq Cu! a! λb _=>χ;cases hu:Dl o.d with
  |some u=>
   rw[hu]at et;simp![Ap,Ee,Cc,et];exact no λz=>by rw[z.1]at hu;rcases hu
  |none=>
   rw[hu]at et;simp![Ap,Ee,Cc,et];let hg:∀(K:Y!),K Cx_ M->My o_ aL! dF! M K:=λK hK=>by
    let c1:Dd M u!=ψ (p,wd,e0):=by simp[Dd,hp]
    show H0! M u! λ_=>H0! M u! λq=>Di (Cj o.nm) λ_=>K ((kget q.2.1 o.nm).getD .non) M;rw[c1,g7];exact hK
   let hsd:Sd Cx_:=by
    cases e:JT! wd with
    |none=>exact .inl χ
    |some v=>let#[k,rfl]:=nz _ _ e;exact iV k
   let Z7:K5_ qR_=.str "undo"↔Undn wd o:=by
    delta Undn;rw[hu];cases e:JT! wd with
    |none=>simp
    |some v=>simp
   exact t2 hg χ (tS hsd (iV _)) ?_;by_cases c:K5_ qR_=.str "undo"
   .rw[LM c];let qw:=iY (v:=eT!) hq g7 an!;let f2:Aa 2 dF!=ψ bt!:=χ;let f4:Aa 4 dF!=ψ o.nm:=χ;simp![Bt,wl,fC,f2,f4,qw,Di];exact next True (by simp[<-Z7,c]) _ _ _ mup_same qR! ho! λb J=>mup_ne J;by_cases e:o.nm=x
    .subst e;rw[jR];simp
    .rw[mL e];simp[MD e]
   .rw[LD c];exact no λz=>c (Z7.mpr z)
def a0g:∀(os:j_) (σ:q!),(GH_ σ)->∀x v,F3! Co_=ψ v->∃k:Str,v=.str k
 |[],σ,h=>h
 |o::os,σ,h=>by
  delta Jx;cases e:Dl o.d with
  |none=>exact a0g os σ h
  |some q=>
   let#[k,a]:=q;exact a0g os _ λx v hx=>?_;by_cases c:a=x
   .subst c;rw[jR]at hx;rcases hx;exact#[k,χ]
   .rw[mL c]at hx;exact h x v hx
def b3s(nd:ew_)(hl:ex!)(hd:ic!)
  (hR:∀q M' ep kq,M q=υ->M' q=Lg! kq->(∀x,kget kq x≠υ↔∃o∈ops,o.nm=x/\Undn ic_ o)->id_->R bt! M'):Kl ct_ M R:=by
 exact j!;let hc:∀(K:Y!),Fo ct_ M K->FJ_ Fo Cy_ M K:=λK h=>cT!;exact hc _ (xO nd hl hd λp M1 ep hp hM1 fr=>?_);intro q hq;let ue:p≠q:=λz=>by rw[<-z,hM1]at hq;rcases hq
 let qz:M q=none:=by rw[<-fr q (MD ue)];exact hq
 exact b0i ue ops id! υ υ [] 0 _ _ hd bf_ (Ko! ue hM1) mup_same (a0g _ [] λx v h=>by simp[kget]at h) λM' bx y' z' cb Y h2 h3=>?_;exact hR q M' bx cb qz Y qR! λb J=>?_
 .rw[h2];simp[kget]
 .let b1:b≠q:=λz=>J (zG_ z qz);let b2:b≠p:=λz=>J (zG_ z hp);rw[h3 b b1,Eo! b1,fr b b2]
def W0:OW:=#[[],[],λ_=>[],λ_=>[]]
def b3k:Ru W0 []:=by exact#[#[by simp[W0],dF_,by simp[W0],λx=>by simp[W0],CB_,#[λ_=>0,CB_],dF_,dF_,dF_,dF_],dF_,dF_,dF_]
section
def cD(h:bY!)(K:Y!):wl f ρ M K=K d M:=by simp![wl,h]
def FP(C:sS!)(x:Str)(fo:p!)(ρ:Ag)(y:D)(M:Mh)(Q:f2!):Prop:=wl fo ρ M λd M2=>match d with
 |.fn p=>(match M2 p with|some (.obj C' fs)=>C'=C/\bu_<100/\Q Ce_|_=>False)
 |_=>False
def oV{R:p_}(h:f ρ M λy M1=>IJ! M1 λM2=>R Z! M2):Fu C x cZ_ f ρ M R:=h
def lQ{R:p_}(h:f ρ M λy M1=>IJ! M1 λM2=>q ρ M2 R):ER! (Fu C x cZ_ f) q:=h
def gL(h0:lH_)(hM:M p=ψ pT_)(hl:bu_<100)(hf:Hc x y fs=fs')(k:Q (G2_ (.obj C fs'))):IJ! M Q:=by delta FP;rw[cD h0];show(match M p with|some (.obj C' fs)=>C'=C/\bu_<100/\Q (G2_ Ce!)|_=>False);rw[hM];subst hf;exact#[χ,hl,k]
def pc{R:BR_}(h:fa ρ=ψ x)(k:fb ρ M λy M2=>fp ρ M2 λh1 M3=>R ((x,y)::h1) M3):Dk ie! fb fp ρ M R:=by simp![Dk,wl,h];exact k
def a8s{α β:Type}{f:α->β}:∀{l:aa_},(f9!).Nodup->∀{x y:α},x∈l->y∈l->f x=f y->x=y
 |[],_,_,_,h,_,_=>by exact(cX!).elim
 |a::l,nd,x,y,hx,hy,e=>by
  rw[LA,LO]at nd;obtain Y|Y:=KR.mp hx<;>obtain h2|h2:=KR.mp hy
  .rw[Y,h2]
  .exact Ei_ (by rw[<-Y,e];exact LK h2) nd.1
  .exact Ei_ (by rw[<-h2,<-e];exact LK Y) nd.1
  .exact a8s nd.2 Y h2 e
structure HL(M0 M:Mh)(l:List qT_):Prop where
 cell:∀q∈l,M q.1=ψ q.2
 nd:(es!).Nodup
 fr:∀q∈l,M0 q.1=υ
 kp:∀b,M0 b≠υ->M b=M0 b
variable{M0:Mh}
def HL.new(h:qU!)(J:M b=υ):HL M0 qU_ ((b,c)::l):=by
 let h0:=QO λz=>z ((h.kp b z).symm.trans J);exact#[c4!,LO.mpr #[bJ_,h.nd],c4!,λa ha=>(Lb! ha h0).trans (h.kp a ha)]
 .obtain rfl|hq:=KR.mp hq
  .exact mup_same
  .exact Ko! (dH (by rw[h.cell q hq];simp) J) (h.cell q hq)
 .show"#O";let:=h.cell q hq;rw[e,J]at this;rcases this
 .obtain rfl|hq:=KR.mp hq
  .exact h0
  .exact h.fr q hq
def HL.put(h:HL M0 M (u++(b,c0)::v)):HL M0 qU_ (u++(b,c)::v):=by
 let nd:=h.nd;rw[LG,LA]at nd;let p:(u.map b_++b::v.map b_).Perm (b::(u.map b_++v.map b_)):=SA;let nb:=(Gq! nd).1;let ob:∀q,q∈u++v->Ig_ b q.1=M q.1:=λq hq=>mup_ne λz=>nb (by rw[<-z,<-LG];exact LK hq);let aj:∀{c q},q∈u++(b,c)::v->q=(b,c)\/q∈u++v:=λ{c q} hq=>by simpa[or_left_comm]using hq
 let oy:∀q,q∈u++v->q∈u++(b,c0)::v:=λq hq=>KS.mpr ((KS.mp hq).imp_right (KI _));let xk:=h.fr (b,c0) c_;exact#[c4!,by rw[LG,LA];exact nd,c4!,λa ha=>(Lb! ha xk).trans (h.kp a ha)]
 .obtain rfl|z:=aj hq
  .exact mup_same
  .exact(ob q z).trans (h.cell q (oy q z))
 .obtain rfl|z:=aj hq
  .exact xk
  .exact h.fr q (oy q z)
def HL.row(h:qU!)(z1:M r=υ)(z2:M f=υ)(z3:M p=υ)(n1:r≠f)(n2:r≠p)(hr:GP_ M' [])(fr:∀b,b≠r->b≠f->b≠p->M' b=M b):∃kf ef kp ep,Fz [] kf/\Fz [] kp/\HL M0 M' ((r,.obj t.B7 pb!)::(f,.dct kf ef)::(p,.dct kp ep)::l):=by
 let#[kf,ef,kp,ep,hf,hp,K,Kp]:=hr.dc;let h3:=((h.new (c:=.dct kp ep) z3).new (c:=.dct kf ef) (Ko! hr.ne z2)).new (c:=.obj t.B7 pb!) (Ko! n1 ((Eo! n2).trans z1));exact#[kf,ef,kp,ep,K,Kp,?_];let e:∀a,M' a=mup (mup (G2_ (.dct kp ep)) f (.dct kf ef)) r pb_ a:=λa=>by
  by_cases c1:a=r
  .rw[c1,mup_same];exact hr.ob
  .rw[Eo! c1];by_cases c2:a=f
   .rw[c2,mup_same];exact hf
   .rw[Eo! c2];by_cases c3:a=p
    .rw[c3,mup_same];exact hp
    .rw[Eo! c3];exact fr a c1 c2 c3
 rw[show M'=_ from funext e];exact h3
def c9e:[root,Cq].Nodup:=LO.mpr #[by rw[LF];exact b7t,H_]
def c8y:∀q∈qV_,(Cj q.1).isSome=true:=λq hq=>by
 obtain rfl|hq:=KR.mp hq
 .rfl
 .rw[LF.mp hq];rfl
def a7r{R:p_}(h:q1 ρ M λr M1=>match r with|.nx bf=>q2 bf M1 R|.rt d=>R ag! M1):ER! q1 q2:=h
def b0s{fs':Addr->μ cm_}{R:p_}(L:HL M0 M (u++[(o,.obj C fs)]))(h0:Au_)(hl:bu_<100)(hf:∀a,Hc x dq_ fs=fs' a)(k:∀a M',HL M0 M' ((a,.dct [] 0)::u++[(o,.obj C (fs' a))])->R Z! M'):Fu C x cZ_ Fw ρ M R:=oV λa ha=>by
 let L1:=L.new (c:=ie_) ha;exact gL h0 (L1.cell (o,_) c_) hl (hf a) (k a _ (L1.put))
def cY{α:Type}{l:aa_}{a:α}(i:δ)(h:l[i]?=ψ a):a∈l:=QQ h
def d2a{M':Mh}{f1 p1 f2 p2:sS!}{kf2:q!}{Z8 vm Z9 m9:δ}(L:HL M M' [(a6,.dct [] 0),(a5,.dct [] 0),(a4,.dct [] 0),(a3,.dct [] 0),(r2,.obj t.B7 (Fp! f2 p2)),(f2,.dct kf2 Z9),(p2,.dct ve m9),(r1,.obj t.B7 (Fp! f1 p1)),(f1,.dct Z' Z8),(p1,.dct kp1 vm),(a2,.dct CJ! 2),(a1,.dct CJ_ 2),(o,.obj t.B6 bn_)])(c1:Fz [] Z')(c2:Fz [] kp1)(c3:Fz [] kf2)(c4:Fz [] ve):∃O,Fa_ M' W0 2/\∀b,M b≠υ->M' b=M b/\¬O b:=by
 let -nondep ad:Uy->Addr
  |.ob=>o
  |.par=>a1
  |.dir true=>a2
  |.dir false=>a3
  |.nums=>a4
  |.wri=>a5
  |.hid=>a6
  |.row x _=>if x=root then r1 else r2
  |.fol x _=>if x=root then f1 else f2
  |.pre x _=>if x=root then p1 else p2
  |.nm _=>o
 let br:=MD b7t;let hl:(CK_).map ad=[a6,a5,a4,a3,r2,f2,p2,r1,f1,p1,a2,a1,o]:=by
  simp![LA,RH,ad,LB br,NR]
 let d:∀{x:D} {b:Bool},(Jy W0).dm b x->b=τ/\CL!:=λ{x b} l=>by
  cases b with
  |true=>exact#[χ,Or.resolve_left l λz=>by cases z]
  |false=>cases l
 let lm:∀r,Iw (Jy W0) r->r∈CK_:=λr l=>by
  cases r with
  |row x b=>obtain⟨rfl,rfl|rfl⟩:=d l;exact cY 7 χ;exact cY 4 χ
  |fol x b=>obtain⟨rfl,rfl|rfl⟩:=d l;exact cY 8 χ;exact cY 5 χ
  |pre x b=>obtain⟨rfl,rfl|rfl⟩:=d l;exact cY 9 χ;exact cY 6 χ
  |nm x=>cases l
  |dir b=>cases b;exact cY 3 χ;exact cY 10 χ
  |ob=>exact cY 12 χ
  |par=>exact cY 11 χ
  |nums=>exact cY 2 χ
  |wri=>exact cY 1 χ
  |hid=>exact cY 0 χ
 let nd:=L.nd;let l8:∀{l:μ qT_},HL M M' l->∀a∈l.map b_,M a=none:=λL a ha=>by let#[q,hq,rfl]:=LC.mp ha;exact L.fr q hq
 let A1:II! root=r1:=KQ χ;let A2:II! Cq=r2:=LB br;let A3:ad CL_=f1:=KQ χ;let A4:ad CM!=f2:=LB br;let A5:ad CM_=p1:=KQ χ;let A6:ad CN!=p2:=LB br;let kr:∀{y z:D},kget qV_ root=ψ y:=KQ χ;let kb:∀{y z:D},kget qV_ Cq=ψ z:=IH_ b7t;exact#[Wk ad (Jy W0),#[ad,χ,AS!,λr l=>?_,λr r' l l'=>a8s (zG_ hl nd) (lm r l) (lm r' l')],λb J=>#[L.kp b J,λ⟨r,l,e⟩=>?_]]
 .let hc:=L.cell;cases r with
  |ob=>exact#[_,hc _ (cY 12 χ),χ]
  |par=>exact#[_,hc _ (cY 11 χ),_,_,χ,LJ 2,kr,kb,λi p h=>by cases h]
  |dir b=>
   cases b with
   |true=>
    exact#[_,hc _ (cY 10 χ),_,_,χ,LJ 2,λx=>#[f3!,f3!]]
    .obtain⟨_,rfl|rfl⟩:=d h
     .rw[A1];exact kr
     .rw[A2];exact kb
    .exact(LB λz=>h (.inr qW_)).trans (LB λz=>h (Er_ z.symm))
   |false=>exact#[_,hc _ (cY 3 χ),_,_,χ,ML 2,λx=>#[λh=>(by cases h),cC!]]
  |nums=>exact#[_,hc _ (cY 2 χ),_,_,χ,ML 2,λx h=>by cases h]
  |wri=>exact#[_,hc _ (cY 1 χ),_,_,χ,ML 2,by rintro s v ⟨x,h,_⟩;cases h]
  |hid=>exact#[_,hc _ (cY 0 χ),_,_,χ,ML 2,λs=>#[λh=>(by exact Bool.noConfusion h),by rintro⟨x,h,_⟩;cases h]]
  |row x b=>
   show"#A"
   .exact#[_,by rw[A1];exact hc _ (cY 7 χ),by show _=Dh.obj _ (Js_ (ad CL_) (ad CM_));rw[A3,A5]]
   .exact#[_,by rw[A2];exact hc _ (cY 4 χ),by show _=Dh.obj _ (Js_ (ad CM!) (ad CN!));rw[A4,A6]]
  |fol x b=>
   show"#A"
   .exact#[_,by rw[A3];exact hc _ (cY 8 χ),ML 2,_,_,χ,c1]
   .exact#[_,by rw[A4];exact hc _ (cY 5 χ),ML 2,_,_,χ,c3]
  |pre x b=>
   show"#A"
   .exact#[_,by rw[A5];exact hc _ (cY 9 χ),ML 2,_,_,χ,c2]
   .exact#[_,by rw[A6];exact hc _ (cY 6 χ),ML 2,_,_,χ,c4]
  |nm x=>cases l
 .let:=LK (f:=ad) (lm r l);rw[hl,e]at this;exact J (l8 L b this)
def a1h(hR:∀o O M',M o=υ->Fa_ M' W0 2->qY!->R ao_ M'):Fv t.B6 1 (Gw t) Ad ρ M R:=by
 exact#[rfl,λo ho=>j!];let L:HL M (mup M o CS_) [(o,.obj t.B6 [])]:=HL.new qY_ ho;generalize mup M o CS_=M1 at L ⊢;exact lQ λa1 ha1=>#[mup_same,qZ!,c8y,c9e,?_]
 replace L:=(L.new (c:=ie_) ha1).put (u:=[]) (c:=.dct CJ_ 2)
 generalize mup (mup _ _ _) a1 _=M2 at L ⊢;exact gL (fs':=[dv_]) rfl (L.cell (o,_) (cY 1 rfl)) a_ ab! ?_
 replace L:=L.put (u:=[_]) (c:=JO! [dv_])
 generalize mup _ o _=M3 at L ⊢;exact lQ λa2 ha2=>?_
 replace L:=L.new (c:=ie_) ha2
 exact pc χ (vP λr1 f1 p1 N1 z1 z2 z3 n1 n2 R1 _ K1=>?_);let#[Z',Z8,kp1,vm,c1,c2,L]:=Ka_ R1 K1;clear z1 z2 z3 n1 n2 R1 K1;exact pc χ (vP λr2 f2 p2 N2 z1 z2 z3 n1 n2 R2 _ K2=>?_);let#[kf2,Z9,ve,m9,c3,c4,L]:=Ka_ R2 K2;exact#[L.cell (a2,_) (cY 6 χ),qZ!,c8y,c9e,?_]
 replace L:=L.put (u:=[_,_,_,_,_,_]) (c:=.dct CJ! 2)
 generalize mup _ a2 _=M4 at L ⊢;exact gL (fs':=[dv_,fD!]) rfl (L.cell (o,_) (cY 8 rfl)) CU! ab! ?_
 replace L:=L.put (u:=[_,_,_,_,_,_,_,_]) (c:=JO! [dv_,fD!])
 generalize mup _ o _=M5 at L ⊢;exact a7r (b0s (fs':=λa=>[dv_,fD!,("texts",.fn a)]) L rfl CU_ cW_ λa3 M6 L=>?_);exact a7r (b0s (fs':=λa=>[dv_,fD!,pr_,("numbers",.fn a)]) L rfl CV_ cW_ λa4 M7 L=>?_);exact a7r (b0s (u:=[_,_,_,_,_,_,_,_,_,_]) (fs':=λa=>[dv_,fD!,pr_,x5!,("written",.fn a)]) L rfl lK! cW_ λa5 M8 L=>?_);exact b0s (u:=[_,_,_,_,_,_,_,_,_,_,_]) (fs':=oF a1 a2 a3 a4 a5) L rfl (by show 5<100;decide) cW_ λa6 M' L=>?_;let#[O,Y,h2]:=d2a L c1 c2 c3 c4;exact#[rfl,hR o O M' ho Y h2]
end
inductive Hw:OW->List Op->OW->Prop
 |nil {W:OW}:Hw W [] W
 |cons {W W1 W2:OW} {o:Op} {os:j_}:Px W o.nm o.d W1->Hw W1 os W2->Hw W if_ W2
def Md(wd:q!)(os:j_):μ Op:=os.filter λo=>decide (Dl o.d=υ/\¬JT! wd=ψ cf!)
def GS(t:Bo):WS:=Af gQ! u3_
def b1g{ops:j_}(hq:∀x∈ops,GI! kq≠υ↔Undn wd x):∀(os:j_) (x1:D) (y z:G_) (M:Mh) (O:bE_) (W W':OW) (pre:d!) (B:δ) (R:p_),
  (∀x∈os,x∈ops/\DG x.d)->CX!->(lK_).Nodup->Fa_ M W B->Ru W pre->Hw W q0! W'->B+20*aY!<3900->M q=LC! kq->¬O q->
  (∀M' O' y' z',HN! W' (B+20*aY!)->CX_->EA_ O'->Kx! [ap_,ap!,b8!,y',z'])->
  Fe az_ Q_ (GS t) aw! [ap_,ap!,b8!,y,z] M R
 |[],x1,y,z,M,O,W,W',pre,B,R,_,_,_,hO,w,hr,_,_,_,hR=>by
  cases hr;exact#[ο,hR M O y z hO #[pre,w] .refl]
 |x::os,x1,y,z,M,O,W,W',pre,B,R,hd,hp,nd,hO,w,hr,hB,qz,xw,hR=>by
  exact aB!;let#[hx,ln]:=hd x KM;dsimp only[List.length_cons]at hB hR;rw[LA,LO]at nd;let#[kn,g7]:=a8r x;let XE:Hk τ M x.nm bt!=C2! (!(kget kq x.nm).isSome):=by simp[Hk,qz,g7]
  let f4:Aa 4 ez!=ψ x.nm:=χ;let v0:Aa 2 ez!=ψ bt!:=χ;let f1':Aa 1 ez!=ψ ao_:=χ;let f3':f2 Ah Q! aE_ ez!=ψ x.d:=by
   show Ah x.v by!=_;rfl
  show JS! u1! ez!;simp![Ap,wT,w2,wl,f4,v0,XE];let hu:=hq x hx;let rest:∀(M1:Mh) (uf:bE_) (W1:OW) (xx:d!),Bm t M1 o uf W1 bH!->Ru W1 xx->(∀y∈os,y.nm∉xx)->Hw W1 q0! W'->Fr M O M1 uf->Fe az_ Q_ (GS t) aw! ez! M1 R:=λM1 uf W1 xx Y h2 h3 h4 h5=>
   b1g hq os x1 q0_ (ψ x.nm) M1 uf W1 W' xx bH! R q1! h3 nd.2 Y h2 h4 a! ((CY!).1.trans qz) (CY!).2 (λM' O' y' z' g1 g2 g3=>hR M' O' y' z' (zG_ CY_ g1) g2 (h5.trans g3))
  by_cases c:GI! kq=υ
  .rw[c,KQ fk_];let hc:∀(K:Y!),Mb t [bo_,x.nm,x.d] M K->Am 3 (Mb t) u2_ ez! M K:=λK h=>by
    exact cT!
   exact iA (hc _ ?_);obtain⟨k,a,e,hk,_,xy⟩|⟨k,r,e,_,_,xy⟩:=qG ln
   .let:Md wd ig!=Md wd os:=by delta Md;rw[NS (ES! xy)]
    rw[this]at hr;rw[e];exact c5m hk (HB! M)
   .let hne:¬GI! wd=ψ cf!:=λz=>ξ c (hu.mpr #[xy,z]);let:Md wd ig!=x::Md wd os:=by delta Md;rw[NM (by simp[xy,hne])]
    rw[this]at hr;cases hr with
    |cons hs hr=>
     let w1:=a7l hs w lL_;exact c5l hO w lL_ hs a! λM1 uf Y h2=>rest M1 uf _ _ Y w1 CZ! hr h2;obtain z|z:=KS.mp z
     .exact hp y ec_ z
     .rw[LF]at z;exact nd.1 CZ_
  .let hU:=hu.mp c;let#[v,hv]:=Option.ne_none_iff_exists'.mp c;rw[hv,aW_];let:Md wd ig!=Md wd os:=by delta Md;rw[NS (by simp[hU.1,hU.2])]
   rw[this]at hr;exact HB! M
def b4j{ops:j_}(nd:ew_)(nn:C0!)(hl:ex!)(hd:ic!)(hr:Hw W0 (Md ic_ ba_) W')
  (hR:∀o M' O',M o=υ->HN! W' 1500->C0_->(∀b,M b≠υ->M' b=M b/\¬O' b)->R ao_ M'):Km t ct_ M R:=by
 exact j!;show Ka! u0_ Cy_;dsimp only[Af,Ak];exact a1h λo O M1 ho hO fr=>?_;let hc:∀(K:Y!),Kl ct_ M1 K->FJ_ Kl [lG!,ap!,υ,υ,υ] M1 K:=λK h=>cT!;exact hc _ (b3s nd hl hd λq M2 ep kq hq gw v4 l9=>?_);let hi:Dx jz! C1!=ψ ia!:=tQ (mM nd hl);show Cu (Hm _) _ (GS t) C1! M2 _;simp![Cu,Hm,hi,Di];let hp:I1! ba_:=bU ops;let xw:¬O q:=λz=>hO.live z hq;let hO2:=hO.keep λc hc=>l9 c (hO.live hc);let xv:∀x∈ops,GI! kq≠υ↔Undn ic_ x:=λx hx=>by
  rw[v4];show"#<"
  .rintro⟨y,hy,e,hu⟩;let:y=x:=a8s nn hy hx e;rw[<-this];exact hu
  .exact λh=>#[x,hx,χ,h]
 exact b1g xv ba_ id! υ υ M2 O W0 W' [] 2 _ (λx hx=>#[hp.mem_iff.mp hx,hd x q2_]) C1_ C2_ hO2 b3k hr lM_ gw xw λM' O' y' z' g1 g2 g3=>?_;exact hR o M' O' ho (g1.mono lM_) g2 λb J=>?_;let#[e1,e2]:=fr b J;let e3:=l9 b kH!;let g4:=g3 b C3! e2;exact#[by rw[g4.1,e3,e1],g4.2]
def Pu(f:WE)(ρ:Ag)(M:Mh)(d:D):Prop:=∀K:D->Mh->Prop,K d M->f ρ M K
def Od(f:WT)(ρ:Ag)(M:Mh)(b:Bool):Prop:=∀K:Bool->Mh->Prop,K b M->f ρ M K
def Th(g:WF)(ds:d!)(M:Mh)(d:D):Prop:=∀K:D->Mh->Prop,K d M->g ds M K
def eL(h:R x):Di (ψ x) R:=h
def aP(h:bY!):Eg! (wl f) d:=λK hK=>by rw[cD h];exact hK
def fL(h:Eg! fo dq_)(hM:M a=ψ pT_)(hv:E6_ x=ψ v):Eg! (As C x fo) v:=λK hK=>by
 exact h _ ?_;let:Gm C x M dq_=ψ v:=by simp![Gm,hM,NR,hv]
 rw[this];exact hK
def eG(ha:Eg! fa x)(J:Eg! fb y)(hg:C3_):Eg! (w2 g fa fb) d:=λK hK=>by
 exact ha _ (J _ ?_);rw[hg];exact hK
def pA(ho:lN!)(ha:Eg! fa y)(J:Eg! fb z)(hp:bJ!)(hk:aX_)(hd:(ih!).getD z=d):Eg! (Ev fo fa fb) d:=λK hK=>by
 let c:Dd M u!=ψ lv_:=by simp[Dd,hp]
 exact ho _ ?_;rw[c];exact ha _ (J _ ?_);rw[c,hk];show K ((ih!).getD z) M;rw[hd];exact hK
def a4e(h:Eg! f x)(hg:g M [x]=ψ d):Eg! (w1 g (Ab f Ad)) d:=λK hK=>by
 exact h _ ?_;show Di (g M [x]) λd=>K d M;rw[hg];exact hK
def lS{f1:WE}(Y:lN_)(hg:Th g [a] M d):Eg! (Am 1 g (Ab f1 Ad)) d:=λK hK=>by
 exact Y _ lO!
def fZ{f1 f2:WE}(Y:lN_)(h2:Eg! f2 b)(hg:Th g aq! M d):Eg! (Am 2 g C4!) d:=λK hK=>by
 exact HB_ lO!
def a4f{f1 f2 f3:WE}(Y:lN_)(h2:Eg! f2 b)(h3:Eg! f3 c)(hg:Th g dM_ M d):Eg! (Am 3 g (Ab f1 (Kh! f2 f3))) d:=λK hK=>by
 exact HB_ (h3 _ lO!)
def gX{fo f1:WE}(h0:Eg! fo ao_)(ho:Cz C m M ao_)(Y:lN_)(hg:Th g [bo_,a] M d):Eg! (Ba C m 2 g fo (Ab f1 Ad)) d:=λK hK=>by
 exact h0 _ #[ho,Y _ lO!]
def pB(h:Eg! f aJ!):G6! (wT f) b:=λK hK=>by delta wT;exact h _ hK
def dS(h:f ρ=ψ b):G6! (Cc f) b:=λK hK=>by delta Cc;rw[h];exact hK
def b8a(h:G6! f b):G6! (Kb f) (!b):=λK hK=>by delta Kb;exact h _ hK
def eO(h:ih_)(k:q bX_ M R):KO! f:=by exact h _ k
def dF(h:ih_)(k:R ag! M):Bd f ρ M R:=by delta Bd;exact h _ k
def kM(h:q3!)(k:IU! q1):EV_ ft:=by exact h _ ?_;rw[y_];exact k
def lN(h:ii!)(k:f1!):EV_ ft:=by exact h _ ?_;rw[bB_];exact k
def fA(h:ii!)(k:f1!):ER! (Ap ft q1 Bi) q2:=by exact lN h k
def kJ(h:hV!)(hl:BF_):Ay fs ρ=ψ dr!:=by delta Ay;rw[h];show BG!=_;rw[BG_]
def d1b(h:C5_)(h2:b=θ->Eg! fb lO_)(e:b=τ->c=τ):Eg! (Ws fa fb) lO_:=λK hK=>by
 exact h _ ?_;cases b with
 |true=>rw[e χ]at hK;exact hK
 |false=>exact h2 χ _ hK
def b7z(hv:Eg! fv v)(ho:lN!)(hi:Eg! fi y)(hp:bJ!)(hk:aX_)(hl:c2!)(q:R Z! f1_):Bt fo fi fv ρ M R:=by exact hv _ C6!;rw[iY hp hk hl];exact q
def b1c(h:C5_)(h2:b=τ->Eg! fb lO_)(e:b=θ->c=θ):Eg! (Ih fa fb) lO_:=λK hK=>by
 exact h _ ?_;cases b with
 |true=>exact h2 χ _ hK
 |false=>rw[e χ]at hK;exact hK
def c5e(Y:ih_)(h2:Eg! g e)(h3:Eg! h k):Eg! (Mx (Ab f (Kh! g h))) (.tup [d,e,k]):=λK hK=>HB_ (h3 _ #[C6_,hK])
def c5c(hv:Eg! fv v)(ho:lN!)(hi:Eg! fi aH_)(hp:q3_)(hx:GB_ j=ψ i)(q:R Z! C8!):Bt fo fi fv ρ M R:=by
 exact hv _ C6!;let:Jt M u! aH_ v=ψ C8!:=by simp[Jt,hp,hx]
 rw[this];exact q
def c1k(o:Op):∀{l:j_},Io! Mt l->∃u v,l=u++v/\Io! Pm o l=u++o::v/\(∀x∈u,Jv o.key x.key=θ)/\∀x∈v,Jk_ x.key=τ
 |[],_=>#[[],[],χ,χ,H_,H_]
 |y::l,h=>by
  delta Mt at h;rw[OG]at h;delta Pm;cases e:Jk_ y.key with
  |true=>
   exact#[[],y::l,χ,χ,H_,aA!];obtain rfl|hx:=KR.mp hx
   .exact e
   .exact kD e (h.1 x hx)
  |false=>
   let#[u,v,e1,e2,e3,e4]:=c1k o h.2;exact#[y::u,v,by rw[e1];rfl,by rw[e2];rfl,aA!,e4];obtain rfl|hx:=KR.mp hx
   .exact e
   .exact e3 x hx
def d7u(a b c d:Int):HT.lexLt aq! [c,d]=Jv (a,b) (c,d):=by
 rw[NY,pQ,HT.lexLt_cons];by_cases h:a=c
 .rw[KQ h,HT.lexLt_cons];by_cases h':b=d
  .rw[KQ h'];simp[HT.lexLt_nil_nil];omega
  .rw[LB h',LV];dsimp only;omega
 .rw[LB h,LV];dsimp only;omega
def AI(l:j_)(o:Op):δ->Bool
 |0=>θ
 |j+1=>match l[j]? with|some f=>Jk_ f.key|none=>θ
def DY:Ag->ι Bool:=Ep wA_ wB_
def b1q(hk:k<=K!):DY [R!,Db!,T_,ij!]=ψ (AI l o k):=by
 cases k with
 |zero=>simp[DY,Ep,fT,f2,Aa,fC,Rm,Hf,AI]
 |succ j=>
  let hj:j<K!:=hk;let e1:=LL hj;let e2:Ff (l.map Op.v) lP_=H5_ c4_:=by
   show"#0";simp[hj]
  let e3:Kr 1 j2! q4_=H5_ c4_:=by
   let:f4! - 1=(j:δ):=by omega
   simp[Kr,f2,Aa,fC,Gu,Hf,this,e2]
  let e4:Ah (c4_).v cC_=ψ (.int (c4_).tm):=by rfl
  let e5:Ah (c4_).v P!=ψ (.int (c4_).h):=by rfl
  let e6:GV_ cC_=ψ ij_:=by rfl
  let e7:GV_ P!=ψ dH!:=by rfl
  let e8:CJ (.tup [.int (c4_).tm,.int (c4_).h]) Ci!=C2! (Jv o.key (c4_).key):=by
   simp[CJ,Lp,d7u,Op.key]
  let e9:Rm lQ_ P!=ψ x!:=by simp[Rm,Hf]
  let f3:Aa 3 q4_=ψ lQ_:=χ;let v0:Aa 2 q4_=ψ o.v:=χ;simp![DY,Ep,fT,f2,f3,fC,NT,e9,Ay,Ac,Ae,e3,e4,e5,v0,e6,e7,NR,KW,QT,show(0+1+1:δ)<=1000 by omega,e8,AI,e1]
def a4k{o:Op}{u v:j_}(Y:∀x∈u,Jk_ x.key=θ)(h2:∀x∈v,Jk_ x.key=τ)(R:p_)(hR:EI! q7! M):
  ∀(m:δ),m<=lR!->∃n,Bx (Cc DY) oy! n [R!,q5_,T_,ψ (.int q7_)] M R
 |0,hm=>by
  exact fG_;let et:=b1q (x0:=x0) (o:=o) (l:=u++v) (k:=bt_) c_;let ef:AI S_ o bt_=false:=by
   cases hu:bt_ with
   |zero=>rfl
   |succ j=>
    let:S_[j]?=ψ (u[j]' a!):=by rw[OJ a!,LL a!]
    simp![AI,this];exact Y _ ik_
  rw[ef]at et;simp![Bx,Cc,VU,et];exact hR
 |m+1,hm=>by
  let#[n,hn]:=a4k Y h2 R hR m a!;exact#[n+1,?_];let et:=b1q (x0:=x0) (o:=o) (l:=u++v) (k:=bt_+aC!) bf_;let ef:AI S_ o (bt_+aC!)=true:=by
   show AI S_ o (bt_+m+1)=τ;let:S_[bt_+m]?=ψ (v[m]' a!):=by rw[MZ a!,show u.length+m - u.length=m by omega,LL a!]
   simp![AI,this];exact h2 _ ik_
  rw[ef]at et;let es:f2 Gu Q! r! [R!,q5_,T_,ψ (.int q8!)]=BA! q7_:=by
   let:q8! - 1=q7_:=by omega
   show Gu (.int q8!) bi!=_;simp![Gu,Hf,this]
  simp![Bx,Cc,et,NR,Ak,wl,es];exact hn
def JM:WS:=HS! DY
def b1r:∀(os:j_) (x0:D) (y z:G_) (σ:j_) (R:p_),Io! Mt σ->((σ++os).map Op.key).Nodup->aB_+aY!<1000->
  (∀cb y' z',Io! Mt cb->cb.Perm (σ++os)->EI! [R!,ψ (.lst (cb.map Op.v)),y',z'] M)->Fe bi_ Q_ JM aw! [R!,il!,y,z] M R
 |[],x0,y,z,σ,R,hs,nd,hl,hR=>#[ο,hR σ y z hs c_]
 |o::os,x0,y,z,σ,R,hs,nd,hl,hR=>by
  exact aB!;show Ka! (Ak 3 _) q8_;let#[u,v,e1,e2,e3,e4]:=c1k o hs;dsimp only[List.length_cons]at hl;let el:Ks ny! q8_=ψ q9!:=by
   let:f1 Be dZ! q8_=ψ q9!:=by
    show Be [.lst (σ.map Op.v)]=_;simp[Be]
   delta Ks;rw[this];rfl
  simp![Af,Ak,wl,el];let az:aB_=bt_+lR!:=by rw[e1,KO]
  rw[az,e1];exact a4k e3 e4 _ ?_ v.length v!;let ei:Xe 1 Q! x_ q7!=Fw! [R!,ψ (.lst ((lS!).map Op.v)),T_,Dc_]:=by
   let:(S_).length<big:=by delta big;rw[KO];omega
   let e2:Aa 2 q7!=ψ o.v:=χ;delta Xe;show(if 0<=(q6_:Int)/\(q6_:Int).toNat<=(q6!).length/\(q6!).length<big then _ else υ)=_;rw[KQ #[i!,H_,by rw[KP];exact this]];simp
  simp![Rt,ei,Di];let hp:(lS!).Perm (σ++[o]):=by rw[e1];simpa using(SA (l₁:=u) (l₂:=v)).trans (List.perm_append_comm (l₁:=[o]) (l₂:=u++v))
  let c7:Io! Mt lS!:=by
   rw[<-e2];exact wO hs λy hy=>?_;rw[LG,MB]at nd;exact λz=>nd.2.2 _ (LK hy) o.key c_ z.symm
  let qo:((u++o::v++os).map Op.key).Nodup:=by
   let:(u++o::v++os).Perm (σ++o::os):=by
    let:=hp.append_right os;simpa using this
   exact(this.map _).nodup_iff.mpr nd
  exact b1r os x0 _ _ lS! R c7 qo (by let:=hp.length_eq;simp at this;simp;omega) λcb y' z' Y h2=>hR cb y' z' Y (h2.trans (by let:=hp.append_right os;simpa using this))
def nX(nd:ew_)(hl:ex!)(hR:R (.lst ia!) M):Db ct_ M R:=by exact j!;exact b1r ops _ υ υ [] _ (jQ!) (Ep! nd) bf_ λcb y' z' Y h2=>?_;let:cb=Gj ops:=lO Y (gS nd) (by simpa using h2.trans (by simpa using(bU ops).symm));rw[this];exact hR
def a5u{neg:Bool}:Hk neg M ac_ qd_=C2! (if neg then ! qe! else qe!):=by show Hk.inS neg M ac_ qd_=_;simp[Hk.inS,Qz,Az,Ca,Go,De,b2y]
def IH:WS:=Ap wF_ wG! Bi
def d6x{o:Op}(ho:ia_):∃k r,o.d=.tup b5_/\(Dl o.d=υ->h8_=θ/\(k=="redo")=θ)/\(∀u,Dl o.d=ψ u->r=[u.2]/\k=u.1/\Ch!/\NameG u.2):=by
 obtain⟨k,a,e,hk,g6,hu⟩|⟨k,r,e,Y,h2,hu⟩:=qG ho
 .exact#[k,[a],e,(λz=>by rw[z]at hu;rcases hu),(λu qr=>by rw[hu]at qr;rcases qr;exact#[χ,χ,hk,g6])]
 .exact#[k,r,e,(λ_=>im!),(λu qr=>by rw[hu]at qr;rcases qr)]
def c1d{o:Op}(e:o.d=.tup b5_):qM_=ψ ac_:=by
 let e3:GV_ by!=ψ o.d:=by rfl
 rw[e3,e];show Ff (D.str k::r) 0=_;show"#0";simp
def b0h{k:Str}(hk:Cf!):ra!=true:=by
 obtain rfl|rfl:=hk
 .rw[Cn!];rfl
 .rw[Cn_];rfl
def a1j:∀(os:j_) (x1:D) (y:G_) (σ:q!) (ep:δ) (M:Mh) (R:p_),qO!->aB_+aY!<1000->M p=ψ qO_->
  (∀M' bx y',M' p=CF_ (Jx lF! os σ) bx->lF_->R Cp! M')->
  Fe bi_ Q_ IH aw! qN_ M R
 |[],x1,y,σ,ep,M,R,_,_,hp,hR=>Cp_
 |o::os,x1,y,σ,ep,M,R,hd,hl,hp,hR=>by
  exact aB!;show IH b7_ M _;show JS! _ b7_;let ho:=hd o KM;dsimp only[List.length_cons]at hl;let#[k,r,e,hn,hs]:=d6x ho;let i0:Gg_ B_=ψ ac_:=c1d e;simp![Ap,wT,w2,wl,i0,fC,a5u];cases hu:Dl o.d with
  |none=>
   let#[Y,h2]:=hn hu;let:ra!=false:=by rw[BEq.comm,Df!,Y,h2];rfl
   rw[this];exact Hn! a1j
  |some u=>
   let#[g1,g2,hk,g6]:=hs u hu;rw[b0h hk];let#[ka,nh]:=yW g6;let i1:Gg_ r!=ψ u.2:=by
    let e3:GV_ by!=ψ o.d:=by rfl
    show Cq!;rw[e3,e,g1];show Ff [D.str k,u.2] 1=_;rfl
   let i2:f2 Au gP_ jy_ b7_=ψ f2_:=by
    show(Gg_ B_).bind (λx=>Au x cf!)=_;rw[i0];exact nJ k _
   let qw:=iY (v:=.bl h8_) hp nh an!;let:=a1j os x1 ex_ Df_ Dg! (G2_ (.dct Df_ Dg!)) R ib_ (by let:=Jd! σ u.2 f2_;omega) mup_same (λM' bx y' Y h2=>hR M' bx y' (by
    delta Jx;rw[hu];let#[u1,u2]:=u;dsimp only at g2 Y ⊢;rw[<-g2];exact Y) λb J=>HS_ b)
   simp![Bt,wl,i1,i2,d7e,qw,Di];show"#;"
def a9c(nd:ew_)(hl:ex!)(hd:ic!)
  (hR:∀p M' ep,M p=υ->M' p=Lg! (Jx lF! ba_ [])->lF_->R u! M'):Kz ct_ M R:=by
 exact j!;intro p hp;let bn:I1! ba_:=bU ops;let hc:∀(K:Y!),Db ct_ ew! K->FJ_ Db qQ! ew! K:=λK h=>cT!;exact hc _ (nX nd hl ?_);exact LB_ a1j _
def Bj(q:D×D):D:=.tup [q.1,q.2]
def Ch(q:D×D×Bool):D:=.tup [q.1,q.2.1,.bl q.2.2]
nonrec def k3(rows wt wn:D):μ av!:=[(.str "rows",rows),(.str "texts",wt),(.str "numbers",wn)]
def c8w:¬(D.str ps!=D.str ps_):=λz=>Ei_ ra_ g!
def c8x:¬(D.str ps!=D.str pt!):=λz=>Ei_ ra_ g!
def c8s:¬(D.str ps_=D.str pt!):=λz=>Ei_ ra_ g!
def k3r:kget im_ g8_=ψ a:=by show fJ!=_;rw[y_]
def k3t:kget im_ w0_=ψ b:=by show Dg_=_;rw[LB c8w,y_]
def k3n:kget im_ w9_=ψ c:=by show(if _ then _ else Dg_)=_;rw[LB c8x,LB c8s,y_]
def k3p:Bq im_ g8_ v=k3 v b c:=by show fJ!=_;rw[y_];rfl
def kG{g:D->D}:∀{its:d!} {x:D},F3! lT_=if x∈its then ψ (g x)else υ
 |[],x=>by rfl
 |i::its,x=>by
  rw[LA];delta kget;by_cases e:i=x
  .subst e;simp
  .rw[LB e,kG];simp[MD e]
def a5f{g:D->D}:∀{its:d!},its.Nodup->x∈its->Bq lT_ x v=its.map λi=>(i,if i=x then v else g i)
 |[],_,h=>by exact(cX!).elim
 |i::its,nd,h=>by
  rw[LO]at nd;rw[LA,LA];delta Bq;by_cases e:i=x
  .subst e;simp![NR];congr 1;apply NC;intro j hj;rw[LB λz:j=i=>nd.1 (z▸hj)]
  .rw[LB e];simp![e,NJ];rw[a5f nd.2 (Js! (MD e))]
def zB{g:D->D}{its:d!}(h:x∉its):Bq lT_ x v=lT_++[(x,v)]:=kE (HG! MH h)
def FH(W:OW)(w wt wn:sS!)(qa:D->Addr)(e0 e1 e2:δ):μ qT_:=(w,.dct rb_ e0)::(wt,.dct Di! e1)::(wn,.dct Di_ e2)::W.its.map λi=>(qa i,.lst fH_)
structure Lk(M:Mh)(w:sS!)(O:bE_)(W:OW)(wt wn:sS!)(qa:D->Addr):Prop where
 L:∃e0 e1 e2,HL no_ M (FH W w wt wn qa e0 e1 e2)
 O:∀b,O b↔b=w\/b=wt\/b=wn\/∃i∈W.its,qa i=b
def Bw(M:Mh)(w:sS!)(O:bE_)(W:OW):Prop:=∃wt wn qa,Lk M w O W wt wn qa
section
variable{O:Addr->Prop}
section
variable{O:Addr->Prop}
def Lk.mw(h:eA!):∃e,M w=CF_ rb_ e:=by let#[e0,e1,e2,L]:=h.L;exact#[e0,L.cell _ KM]
def Lk.mt(h:eA!):∃e,M wt=CF_ Di! e:=by let#[e0,e1,e2,L]:=h.L;exact#[e1,L.cell _ in_]
def Lk.mn(h:eA!):∃e,M wn=CF_ Di_ e:=by let#[e0,e1,e2,L]:=h.L;exact#[e2,L.cell _ rc!]
def Lk.mq(h:eA!)(hi:aN!):M (qa i)=o8! fH_/\O (qa i):=by let#[e0,e1,e2,L]:=h.L;exact#[L.cell (qa i,_) (KI _ (KI _ (KI _ (LK hi)))),(h.O _).mpr (.inr Dk!)]
def Bw.live(h:ah_)(J:O b):M b≠none:=by
 let#[wt,wn,qa,hA]:=h;obtain rfl|rfl|rfl|⟨i,hi,rfl⟩:=(hA.O b).mp J
 .let#[e,h]:=hA.mw;rw[h];simp
 .let#[e,h]:=hA.mt;rw[h];simp
 .let#[e,h]:=hA.mn;rw[h];simp
 .rw[(hA.mq hi).1];simp
def Bw.keep(h:ah_)(k:zu!):FP! O W:=by
 let#[wt,wn,qa,hA]:=h;let#[e0,e1,e2,L]:=hA.L;exact GW! #[e0,e1,e2,c4!,L.nd,i0_,Dk_];exact(k _ ((hA.O _).mpr ?_)).trans (L.cell q hq);simp![FH,KR,LC]at hq;obtain rfl|rfl|rfl|⟨i,hi,rfl⟩:=hq
 .exact cw!
 .exact kW!
 .exact .inr io!
 .exact .inr Dk!
def Lk.fr(h:eA!)(J:b=w\/b=wt\/b=wn\/∃i∈W.its,qa i=b):Fr M O qU_ O:=c1v λa ha=>mup_ne λz=>ha (by rw[z];exact(h.O b).mpr J)
end
def fK(h:bJ!)(hk:aX_):Bl M u! y=kget h1 y:=by simp[Bl,h,hk]
def ixw(h0:Aa 0 ρ=ψ u!)(h:bJ!)(hv:Fx! aQ!=ψ v)(K:Y!):w2 Bl i_ (wl li!) ρ M K=K v M:=by let:Bl M u! aQ!=ψ v:=F8! h hv;simp![w2,wl,h0,fC,this]
def b2n:Ah (Bj q) P!=ψ q.1:=by rfl
def b2m:Ah (Bj q) bi!=ψ q.2:=by rfl
def a0o(w:Bv W):∀q∈W.rows,Gs q.1/\Sd q.2/\Hi W q.2:=λq hq=>#[w.nm _ ((w.ri q.1).mp (LK hq)),a9g w (w.rp q.1 q.2 hq),w.rp q.1 q.2 hq]
end
def b5t(ha:Sd a)(J:Sd b)(hc:Sd c)(hd:Sd d):Au lV! (.tup [c,d])=CH! (a=c/\b=d):=by
 delta Au;let d1:=oJ ha;let d2:=oJ J;let e:Dt lV! (.tup [c,d])=decide (a=c/\b=d):=by
  simp![Dt,Ig,mP ha hc,mP J hd,Bool.and_true];by_cases Y:a=c<;>by_cases h2:b=d<;>simp[Y,h2]
 rw[e];simp![Az,Ca,fJ ha,fJ J,fJ hc,fJ hd,Go,De,Bool.and_true,VF];rw[KQ bf_]
def c2z(h:k<=h_):Ia V! υ lW!=o8! (xs.take k):=by
 let e:Lk_ lW!=k:=by rw[HT.sIx_nat];omega
 dsimp only[Ia];congr 2;delta Iu;rw[e,HT.sIx_none];rfl
def a6n(h:k<=h_):Ia V! lW! υ=o8! (xs.drop k):=by
 dsimp only[Ia];congr 2;let e:Ff! 0 lW!=k:=by rw[HT.sIx_nat];omega
 let e2:Lk_ υ=h_:=χ;delta Iu;rw[e,e2,OX c_]
def FM:Ag->ι Bool:=Ep wL! wM_
def c7c{rs:q!}(hk:k<=aa!)(hl:aa!<5000)(j8:Dm!)(hp:Sd p):FM b8_=ψ Dm_:=by
 let el:f1 Be gM_ b8_=ψ lX!:=by
  show Dn!;simp[Be]
 by_cases c:k<aa!
 .let e1:=LL c;let ea:Ff eA_ bL_=ψ lX_:=by
   show"#0";simp[c]
  let e3:f2 Ah S! J! b8_=ψ lX_:=ea;let e4:Pj ii_ lX!=ψ x!:=by simp[Pj,Hf];exact c
  let e6:Do (f6!).2 p=ψ Dn_:=a1f (j8 _ ik_).2 hp;let e7:f2 Do wM! x_ b8_=ψ Dn_:=by
   show((f2 Ah S! J! b8_).bind λx=>Ah x bi!).bind (λz=>Do z p)=_;rw[e3];show(Ah lX_ bi!).bind _=_;rw[b2m];exact e6
  let e8:f2 Pj J! dm! b8_=ψ x!:=by
   show Do!;rw[el];exact e4
  simp![FM,Ep,fT,e8,e7,NT,NR,e1]
 .let e1:rs[k]?=none:=NQ a!;let e4:Pj ii_ lX!=ψ I!:=by simp[Pj,Hf];omega
  let e8:f2 Pj J! dm! b8_=ψ I!:=by
   show Do!;rw[el];exact e4
  simp![FM,Ep,fT,e8,NT,e1];rfl
def c3g{rs:q!}(hk:k<aa!)(h:Fi rd_ p=[])(hp:(f6!).2≠p):Fi (rs.take R_) p=[]:=by rw[QP hk,eU,h];rw[sV hp];rfl
def a5w{rs:q!}(hl:aa!<5000)(j8:Dm!)(hp:Sd p)(R:p_)(hR:∀k:Nat,k<=aa!->Fi rd_ p=[]->EI! b8_ M):
  ∀(m k:δ),aa! - k=m->k<=aa!->Fi rd_ p=[]->∃n,Bx (Cc FM) wO_ n b8_ M R
 |m,k,hm,hk,hc=>by
  let et:=c7c (x0:=x0) (i:=i) (s:=s) (y:=y) hk hl j8 hp;by_cases c:k<aa!/\(rs[k]?.map F!)≠ψ p
  .let#[c1,c2]:=c;let e1:=LL c1;rw[e1]at et c2;let c3:(f6!).2≠p:=λz=>c2 (by rw[<-z];rfl);rw[show(match(ψ rs[k]:ι av!)with|some q=>!decide (q.2=p)|none=>θ)=τ by simp[c3]]at et;cases m with
   |zero=>omega
   |succ m=>
    let#[n,hn]:=a5w hl j8 hp R hR m R_ a! a! (c3g c1 hc c3);exact#[n+1,?_];let es:FZ! J! b8_=ψ re_:=by
     show rf!;rfl
    simp![Bx,Cc,et,NR,Ak,wl,es];exact hn
  .exact fG_;let ef:Dm_=false:=by
    cases e:rs[k]? with
    |none=>rfl
    |some q=>
     let c1:=(LH.mp e).1;let:q.2=p:=by
      by_cases z:q.2=p
      .exact z
      .exact Ei_ #[c1,by rw[e];simp[z]] c
     simp[this]
   rw[ef]at et;simp![Bx,Cc,et];exact hR k hk hc
def IN:WS:=Ap wS_ wT! Bi
def JB(rs:q!)(s p:D)(k0 k at_:δ):Prop:=(at_=k0/\∀j<k,rs[j]?≠ψ du_)\/∃j<k,rs[j]?=ψ du_/\at_=j+1
def a9k(hl:aa!<5000)(j8:∀q∈rs,Sd q.1/\Sd q.2/\q.1≠.non)(hp:Sd p)(hs:Sd s)(R:p_)(hR:∀(a:δ) y,JB rs s p k0 rs.length a->EI! Dp! M):
  ∀(m k a:δ) (y:G_),aa! - k=m->k<=aa!->JB rs s p k0 k a->Fe gX_ Q_ IN Dp_ Dp! M R
 |0,k,a,y,hm,hk,ha=>(F1_ rs.length)
 |m+1,k,a,y,hm,hk,ha=>by
  let c1:k<aa!:=by omega
  exact aB!;show IN eB! M _;let e1:=LL c1;let#[q1,q2,q3]:=j8 rs[k] ik_;let ea:f2 Ah S! aT_ eB!=ψ lX_:=by
   show Ff eA_ bL_=_;show"#0";simp[c1]
  let et:f2 Au wQ_ wR! eB!=CH! ((f6!).1=s/\(f6!).2=p):=by
   show(f2 Ah S! aT_ eB!).bind (λz=>Au z (.tup [s,p]))=_;rw[ea];exact b5t q1 q2 hs hp
  let en:JT_ Q! eB!=C2! (!Il s):=χ;let cond:Ep wQ! wS! eB!=E2_ ψ (rs[k]=du_):=by
   simp![Ep,fT,en,et,NT];by_cases z:s=.non
   .rw[show Il s=τ from zF.mpr z];let:¬rs[k]=du_:=λy=>q3 (zG_ y z);simp[this]
   .rw[kH z];simp![Bool.not_false,NR];congr 1;rw[decide_eq_decide];exact#[λy=>Prod.ext y.1 y.2,λy=>by rw[y];exact aK_]
  let es:FZ! aT_ eB!=ψ re_:=by
   show rf!;rfl
  by_cases z:rs[k]=du_
  .exact Dq_;exact Hn_ R_ (.inr #[k,i!,by rw[e1,z],χ])
  .exact jM Dr! ?_;exact Hn_ a ?_;obtain⟨Y,h2⟩|⟨j,Y,h2,h3⟩:=ha
   .exact .inl #[Y,ku_];by_cases y:j=k
    .rw[y,e1];exact λx=>z (MQ x)
    .exact h2 j a!
   .exact Dr_
def a7b(h:ah_)(j8:∀q∈W.rows,Sd q.1/\Sd q.2/\q.1≠.non)(hi:Sd i)(hp:Sd p)(hs:Sd s)(hl:dI!<4000)
  (hR:∀M' rows',KS_ i->FP! O {W with rows:=rows'}->EA_ O->Fl! M'):Kb! Ht p R:=by
 let#[wt,wn,qa,hA]:=h;let#[e,et1,et2,L]:=hA.L;let hw:=L.cell _ KM;exact j!;show GW_ 4 Ds_ _ Dt! M _;simp![Af,Ak,Bf,Br,ixw (ρ:=Dt!) χ hw k3r];exact Dt_;let sub:∀q∈wo W.rows i,q∈W.rows:=λq hq=>(pj_).1;let lw:(hT_).length<=dI!:=NP _ _;exact cQ (λd=>match d with|.tup [a,_]=>!decide (a=i)|_=>θ) id ο _ _ bb! ?_
 .let#[q,hq,rfl]:=LC.mp hd;let#[Y,_,_]:=j8 q hq;exact#[rg!,χ,lY_,Du_];let e1:fT oz! rg!=ψ Dv!:=by
   let:JU! Do rg!=C2! Dv!:=by
    show(Dv_).bind (λz=>Do z i)=_;rw[b2n];exact a1f Y hi
   show"#:"
  simp![Cc,e1];exact hK
 let e2:((rb!).filter λd=>match d with|.tup [a,_]=>!decide (a=i)|_=>θ).map id=(hT_).map Bj:=by
  rw[TB,QB];congr 1;apply PB;intro q _;simp[Bj]
 rw[e2];generalize hrs':wo W.rows i=rs at *;let XG:∀q∈rs,Sd q.1/\Sd q.2/\q.1≠.non:=λq hq=>j8 q (sub q hq);exact a5w a! (λq hq=>#[(XG q hq).1,(XG q hq).2.1]) hp _ (λk0 hk0 hc0=>?_) rs.length 0 a! a! (by rw[List.take_zero];rfl);let hr:Ft dm! Dw_=some ((List.range' 0 aa!).map λj=>D.int lP_):=by
  let:f1 Be gM_ Dw_=ψ lX!:=by
   show Dn!;simp[Be]
  delta Ft;rw[this];show(if -1000<=rg_/\rg_<=100000 then ψ (Cr (rg_).toNat)else υ)=_;rw[ad!];simp[Cr,UP]
 simp![Cu,Hm,hr,Di];exact a9k a! XG hp hs _ (λa y ha=>?_) rs.length 0 k0 υ a! a! Dx!;let qq:a<=aa!:=by
  obtain⟨Y,_⟩|⟨j,Y,_,h3⟩:=ha<;>omega
 let ev:f2 Al wV! wW_ f6_=ψ lZ!:=by
  let s1:Fh S! Bc ee! f6_=ψ rh!:=c2z lZ_;let s2:Fh S! ee! Bc f6_=ψ Dy!:=a6n lZ_;let s3:Hl wU_ f6_=ψ rh_:=χ;let a1:Al rh! rh_=ψ Dy_:=by
   show h4!;rw[l0!]
  let a2:Al Dy_ Dy!=ψ lZ!:=by
   show h4!;rw[l0!];simp
  show((Fh S! Bc ee! _).bind λx=>(Hl _ _).bind λz=>Al x z).bind (λx=>(Fh S! ee! Bc _).bind λz=>Al x z)=_;rw[s1,s3,s2];show(Al rh! rh_).bind (λx=>Al x _)=_;rw[a1];exact a2
 let qw:Jt M c5! g8_ lZ!=ψ (mup M w (.dct Dz! Dz_)):=by
  rw[iY hw χ (by show 3<big;decide),k3p]
 let f0:Aa 0 f6_=ψ c5!:=χ;let fin:=hR _ Dx_ #[rs.take a,rs.drop a,by rw[hrs',QJ],χ,?_] (GW! #[_,et1,et2,L.put (u:=[]) (c:=.dct Dz! Dz_)]) (hA.fr aw_)
 .show Bt i_ j2_ (wl _) f6_ M _;simp![Bt,wl,ev,f0,fC,qw,Di];exact fin
 .rw[hrs'];obtain⟨Y,h2⟩|⟨j,Y,h2,h3⟩:=ha
  .exact .inl #[bJ_,by rw[Y];exact hc0];let#[j,hj]:=RG.mp p4_;exact h2 j (LH.mp hj).1 hj
  .exact .inr #[rs.take j,?_];let hj:=(LH.mp h2).1;rw[h3,QP hj,(LH.mp h2).2]
section
variable{W:OW}
def a9m{rows:q!}(nd:fO!):(rows.filter λq=>decide f7!)=match rows.find? DB! with|some q=>[q]|none=>[]:=by
 induction rows with
 |nil=>rfl
 |cons a r ih=>
  rw[LA,LO]at nd;by_cases e:a.1=x
  .rw[NM fv!,List.find?_cons_of_pos fv!];let:r.filter DB!=[]:=by
    rw[SO];intro q hq;simp![LV];exact λz=>nd.1 (by rw[e,<-z];exact LK hq)
   rw[this]
  .rw[NS fv!,List.find?_cons_of_neg fv!,ih nd.2]
def c8p{W:OW}(wi:Bv W)(h:a4_∈W.rows):ri_=[a4_]:=by
 rw[a9m wi.rnd];cases e:W.rows.find? λq=>decide f7! with
 |none=>let:=List.find?_eq_none.mp e a4_ h;simp at this
 |some q=>
  let Y:=List.find?_some e;let h2:=List.mem_of_find?_eq_some e;simp at Y;let:q.2=p:=jJ wi.rnd (Ev! Y h2) h;let#[a,b]:=q;dsimp only at Y this ⊢;rw[Y,this]
def d4g(wi:Bv W)(h:∀p,a4_∉W.rows):ri_=[]:=by rw[SO];rintro⟨a,b⟩ hq;simp![LV];exact λz=>h b pl!
def GT:WS:=Af wY!
 (Af wZ!
 (Ak 1 gS_))
def zA(h:ah_)(wi:Bv W)(hl:dI!<5000)(hi:Gs i){rk:D->δ}(jg:zG!):∀(n:δ) (x:D) (y:G_),rk x<n->Hi W x->∀(R':p_),(Wn W.rows i x->∀y',R' (.nx [ad_,A_,A_,y']) M)->(JP_ (.rt I!))->
   ∃m,JU_ f7_
 |0,x,y,hn,_,_,_,_=>by omega
 |n+1,x,y,hn,hx,R',r1,r2=>by
  let#[wt,wn,qa,hA]:=id h;let#[e0,hw]:=hA.mw;let sx:=a9g wi hx;let et:fT uf_ f7_=ψ rk!:=by
   let:f2 Do u_ x_ f7_=C2! rk!:=a1f sx hi.sd;show"#:"
  by_cases e:x=i
  .subst e;exact fG_;simp![Bx,Cc,et];exact r1 .here y
  .rw[show rk!=τ by simp[e]]at et;let body:∀(K:p_),(zI_->K (.rt I!) M)->(∀p,a4_∈W.rows->K (.nx [ad_,cW!,A_,ψ (.lst [p])]) M)->GT f7_ M K:=λK g1 g2=>by
    show GW_ 3 Ds_ _ f7_ M _;simp![Af,Ak,Bf,Br,ixw (ρ:=f7_) χ hw k3r];exact Dt_;exact cQ (λd=>match d with|.tup [a,_]=>decide (a=x)|_=>θ) (λd=>match d with|.tup [_,p]=>p|_=>.non) ο _ _ bb! ?_
    .show"!4";let#[Y,_,_]:=a0o wi q hq;exact#[l0_,χ,lY_,DC!]
     .let e1:fT ha! l0_=E2_ ψ f7!:=by
       let:JU! Au l0_=CH! f7!:=by
        show(Dv_).bind (λz=>Au z x)=_;rw[b2n];exact tS Y.sd sx
       show"#:"
      simp![Cc,e1];exact hK
     .let e1:Lr_ l_ l0_=ψ q.2:=b2m;exact hK
    .let e2:(((rb!).filter λd=>match d with|.tup [a,_]=>decide (a=x)|_=>θ).map λd=>match d with|.tup [_,p]=>p|_=>.non)=FJ! ri_:=by
      rw[QB,MH];rfl
     rw[e2];by_cases c:∃p,a4_∈W.rows
     .let#[p,hp]:=c;rw[c8p wi hp];exact Hl_ jM;exact g2 p hp
     .let c':∀p,a4_∉W.rows:=λp z=>c #[p,z];rw[d4g wi c'];exact Hl_ ifT;exact g1 c'
   obtain hx|hx:=hx
   .let#[p,hp]:=a7t wi hx;let q:=a7g wi.rnd hp e;let:=jg _ _ hp;let key:∀y',∃m,JU_ [ad_,cW!,A_,y']:=λy'=>zA h wi hl hi jg n p y' a! (wi.rp _ _ hp) R' zJ! (λz=>r2 λv=>z (q.mp v));let#[m,hm]:=key (o8! [p]);exact#[m+1,?_];simp![Bx,Cc,et,NR];exact body _ (λnt=>ξ hp (nt p)) λp' bn=>by rw[jJ wi.rnd bn hp];exact hm
   .let nt:∀p,a4_∉W.rows:=by
     obtain rfl|rfl:=hx
     .exact mB wi (b0y wi)
     .exact mB wi (c3u wi)
    exact fG_;simp![Bx,Cc,et,NR];exact body _ (λ_=>r2 (b6h nt e)) (λp hp=>ξ hp (nt p))
def c3x(h:ah_)(wi:Bv W)(hl:dI!<5000)(hx:hy!)(hi:Gs i)(hR:∀b:Bool,(b=τ↔Wn W.rows i x)->R aJ! M):Lb [.fn w,x,i] M R:=by let#[rk,jg]:=wi.rk;exact j!;exact zA h wi hl hi jg (rk x+1) x υ a! hx _ (λz y'=>hR τ iF_) (λz=>hR θ iF_)
def b2s(h:bJ!)(hk:aX_):Hk neg M y u!=C2! (Km_ ih! ih!):=by simp[Hk,h,hk]
def c7a(hx:Sd x)(ha:Sd a)(J:Sd b):Hk θ M x lV!=CH! (x=a\/x=b):=by
 let d1:=oJ ha;let d2:=oJ J;let e:((aq!).any λd=>Dt d x)=decide (x=a\/x=b):=by
  simp![QN,List.any_nil,Bool.or_false,mP ha hx,mP J hx];by_cases Y:a=x<;>by_cases h2:b=x<;>simp[Y,h2,MD]<;>first|exact .inl Y.symm|exact .inr h2.symm|exact⟨λz=>Y z.symm,λz=>h2 z.symm⟩|skip
 show(if Az x&&Ca aq!&&decide (De aq!<=40)then ψ (D.bl (if θ=τ then _ else[a,b].any λd=>Dt d x))else υ)=_;rw[KQ (by simp[fJ hx,Ca,fJ ha,fJ J,De];omega),e];rfl
def d7m(hx:iq!)(K:Y!):w2 g eC! fb ρ M K=fb ρ M λy M2=>match g M2 x y with|some d=>K d M2|none=>False:=by simp![w2,wl,hx]<;>rfl
def a3k:(F3! cu_).isSome=decide em!:=by rw[kG];by_cases h:x∈W.its<;>simp[h]
def pZ(h:ah_)(h0:eC_)(hx:iq!)(hk:aX!)(K:Y!):w2 by_ eC! bD! ρ M K=K zx_ M:=by let#[wt,wn,qa,hA]:=h;let#[e0,hw]:=hA.mw;let#[e1,ht]:=hA.mt;let hi:=ixw (ρ:=ρ) h0 hw k3t;let e:=b2s (neg:=θ) ht hk;rw[show(if θ=τ then _ else(F3! cu_).isSome)=decide em! from a3k]at e;rw[d7m hx,hi,e]
def a7a(h:ah_)(wi:Bv W)(hl:dI!<4000)(hi:Sd i)(hx:Sd x)(hs:Sd s)(dt:fH!)(hkx:pF!)
  (hR:∀M' W',(en_->∃rows',Om W.rows i x s rows'/\W'={W with rows:=rows'})->(¬en_->W'=W)->FP! O W'->EA_ O->Fl! M'):Kb! Hs x R:=by
 exact j!;show Ap (Ee (wT _) (Yj (wT _) (wT _))) _ Bi dI_ M _;let g1:=pZ (ρ:=dI_) (fx:=Aa 1) h χ χ dt;let g2:=pZ (ρ:=dI_) (fx:=Aa 2) h χ χ hkx;let g3:∀K:D->Mh->Prop,w2 by_ D_ w3! dI_ M K=K (FD_ CL!) M:=λK=>by
  let v0:Aa 2 dI_=ψ x:=χ;let:=c7a (M:=M) hx (iV "root") (iV "bin");simp![w2,wl,v0,fC,this]
 let no:(¬en_)->R .non M:=λc=>hR M W (Hs_ z c) qb_ h .refl;let inner:i∈W.its->Hi W x->Ap w4_ w6! Bi dI_ M hC!:=λc1 c2=>by
  let hc:∀(K:Y!),Lb [.fn w,x,i] M K->Am 3 Lb w4! dI_ M K:=λK h=>cT!;exact hc _ (c3x h wi a! c2 (wi.nm i c1) λb J=>?_);cases b with
  |true=>exact no λz=>z.2.2 (J.mp χ)
  |false=>
   let nw:¬Fe! Wn i x:=λz=>by let:=J.mpr z;exact Eg_ this
   let i':∀(K:Y!),Kb! Ht x K->Am 4 Ht w5_ dI_ M K:=λK h=>cT!;simp![Bool.not_false,NR];exact iA (i' _ (a7b h eo! hi hx hs hl λM' rows' hg hL hF=>?_))
   .let#[Y,h2,_]:=a0o wi q hq;exact#[Y.sd,h2,Y.nn.1]
   .exact hR M' _ (λ_=>#[rows',hg,χ]) (Hs_ #[c1,c2,nw] z) hL hF
 simp![Ap,Ee,Yj,wT,g1];show"!{"
 .rw[LM c1];simp![NR,g2];by_cases c2:x∈W.its
  .rw[LM c2];exact inner c1 (.inl c2)
  .rw[LD c2];simp![MJ,NJ,g3];by_cases c3:x=root\/x=Cq
   .rw[LM c3];exact inner c1 (.inr c3)
   .rw[LD c3];exact no λz=>z.2.1.elim c2 c3
 .rw[LD c1];exact no λz=>c1 z.1
end
def Xx:WS:=(Af w7_
 (Af w8!
 (Af xa!
 xa_)))
def Xw:WS:=xc!
def FD:WS:=xf_
def Rq:WS:=(Af j9_
 (GW_ 6 aF!
 (Af DE_
 (GW_ 8 oG_
 xh!))))
def Xy:WS:=(GW_ 9 oJ_
 (Af j9_
 xj_))
abbrev Tp(k:Str):Ag->ι Bool:=Kt_ ac_
abbrev Td:WT:=wT hc!
def c5a:Xr=Af oB_ (Af oC!
 (Ap DF! Xx (Ap DF_ oD_ (Ap DG! oE!
  (Ap DG_ Xw DH!))))):=χ
section
variable{O:Addr->Prop}
def c0s(h:rm!):Tp k' ρ=ψ lC_:=by
 let e:Ah c2_ P!=ψ ac_:=by
  show qE_;show"#0";simp
 let:f2 Au bA_ (fC qE!) ρ=C2! lC_:=by
  show((l1_).bind λx=>Ah x P!).bind (λx=>Au x qE!)=_;rw[h];show(Ah c2_ P!).bind _=_;rw[e];exact nJ k k'
 delta Tp fT;rw[this];rfl
def p1(h:DH_):Ip! r!=ψ a:=by show Gq_ bi!=_;rw[h];exact ix1
def p2(h:Aa 2 ρ=ψ qF_):Ip! ar!=ψ b:=by show Gq_ cC_=_;rw[h];exact ix2
def p3(h:Aa 2 ρ=ψ qG!):Ip! aE_=ψ c:=by show Gq_ by!=_;rw[h];exact ix3
def anF{R:p_}(h:B9!)(k:f1!):EV_ DI!:=by simp![Ap,Ee,Cc,h];exact k
def anT{R:p_}(h:B8!)(hu:∀K:Bool->Mh->Prop,K b M->fu ρ M K)(k1:DI_)(k2:DJ!):EV_ DI!:=by
 simp![Ap,Ee,Cc,h,NR];exact hu _ ?_;cases b with
 |true=>rw[y_];exact k1 χ
 |false=>rw[bB_];exact k2 χ
def a2k(h:ah_)(h0:eC_)(h2:DH_)(hk:dy_)(K:lh_)(hK:E2_ K (a∈W.its) M):Td ρ M K:=by delta Td wT;rw[pZ h h0 (p1 h2) hk];exact hK
def Bg.sd(h:Bg x):Sd x:=by
 obtain rfl|rfl|⟨a,b,rfl,_⟩:=h
 .exact iV _
 .exact iV _
 .exact .inr pC!
def Lj.sd(h:Lj x):Sd x:=by
 obtain rfl|⟨a,b,rfl,_⟩:=h
 .exact cw!
 .exact .inr pC!
def Hv.sd(h:Hv x):Sd x:=by
 obtain rfl|⟨a,b,c,rfl,_⟩:=h
 .exact cw!
 .exact .inr zz_
def Lk.tx(h:eA!)(h0:eC_):Eg! bD! in!:=by let#[e,hw]:=h.mw;exact eG l2_ e! rm_
def Lk.nb(h:eA!)(h0:eC_):Eg! oD! lU!:=by let#[e,hw]:=h.mw;exact eG l2_ e! (F8! hw k3n)
def c2o{R:p_}(h:ah_)(wi:Bv W)(ha:fB_)(hk:dy_)(h0:eC_)(h2:Aa 2 ρ=ψ lz_)(p0:0<=p)(p3':p<=3)
  (hR:∀M',FP! O (Yw W a qA!)->EA_ O->R Z! M'):IU! Xw:=by
 let#[wt,wn,qa,hA]:=h;let#[e0,e1,e2,L]:=hA.L;let#[e,hn]:=hA.mn;let hx:IH! Jz h6_ p=ψ p.toNat:=by
  rw[wi.nl a ha];delta Jz;rw[KQ p0,ad!]
 exact c5c (aP (p3 h2)) (eG (hA.nb h0) (aP (p1 h2)) ((fK hn hk).trans DL!)) (aP (p2 h2)) (hA.mq ha).1 hx ?_;exact hR _ (GW! #[e0,e1,e2,?_]) (hA.fr (.inr (Er_ #[a,ha,χ])));let#[u,v',ei,hu]:=kA ha;let nd:=wi.nd;rw[ei,MB,LO]at nd;let e1:∀l:List D,a∉l->(l.map λi=>rn_)=l.map λi=>eD_:=λl hl=>NC λi hi=>by rw[LB λz:i=a=>hl (z▸hi)]
 delta FH at L ⊢;show HL _ _ (_::_::_::W.its.map λi=>rn_);let ei':(W.its.map λi=>rn_)=DN!++(qa a,.lst qA!)::v'.map λi=>eD_:=by
  rw[ei,LG,LA,e1 u hu,e1 v' nd.2.1.1,y_]
 let ej:DN_=DN!++(qa a,.lst h6_)::v'.map λi=>eD_:=by rw[ei,LG,LA]
 rw[ej]at L;rw[ei'];exact L.put (u:=_::_::_::u.map λi=>eD_)
end
def b6q(h:ah_)(h0:eC_)(hx:fx ρ=ψ a)(hk:dy_)(ha:fB_):Eg! (w2 Bl bD! eC!) rp!:=by let#[wt,wn,qa,hA]:=h;let#[e1,ht]:=hA.mt;exact eG (hA.tx h0) l4! DO!
def d0p:Ah (Ch q) P!=ψ q.1:=by rfl
def d7o:Ah (Ch q) bi!=ψ q.2.1:=by rfl
def d7n:Ah (Ch q) cC_=ψ (.bl q.2.2):=by rfl
def c7b(hx:Sd x)(hl:∀d∈l,Sd d):Hk neg M x ir_=C2! (if neg then !decide (x∈l)else decide (x∈l)):=by
 let e:DO_=decide (x∈l):=by
  rw[NY,List.any_eq_true,LV];show"#<"
  .rintro⟨d,hd,he⟩;rw[mP (hl d hd) hx,LV]at he;rw[<-he];exact hd
  .intro h;exact#[x,h,by rw[mP hx hx];simp]
 let n:∀l:List D,(∀d∈l,Sd d)->Ca l=τ/\De l<=5:=λl=>by
  induction l with
  |nil=>intro _;simp[Ca,De]
  |cons a r ih=>
   intro h;let#[i1,i2]:=ih λd hd=>h d ga_
   let Y:=fJ (h a KM);let h2:=oJ (h a KM);exact#[by simp[Ca,Y,i1],by dsimp only[De];omega]
 let#[n1,n2]:=n l hl;show(if Az x&&Ca l&&decide (De l<=40)then ψ (D.bl (if neg=τ then ! DO_ else l.any λd=>Dt d x))else υ)=_;rw[KQ (by rw[fJ hx,n1];simp;omega),e]
def b7x{R:p_}(h:ah_)(nd:W.its.Nodup)(hB:c5_<5000)(h0:eC_)(hx:fx ρ=ψ a)(hk:dy_)(ha:fB_)(hv:Eg! fv l5_)
  (hR:∀M',FP! O pr!->EA_ O->R Z! M'):Bt bD! eC! fv ρ M R:=by
 let#[wt,wn,qa,hA]:=h;let#[e0,e1,e2,L]:=hA.L;exact b7z hv (hA.tx h0) l4! DQ_ hk c6! (hR _ (GW! #[e0,Hj cu_ a e1,e2,?_]) (hA.fr io!));let:=L.put (u:=[_]) (c:=.dct (Bq cu_ a l5_) (Hj cu_ a e1));rw[a5f nd ha]at this ⊢;let e:(W.its.map λi=>(i,if i=a then D.lst l5! else D.lst lU_))=W.its.map λi=>(i,D.lst (HM_ pr! Ch)):=NC λi _=>by
  show _=(i,D.lst ((if i=a then l else W.txt i).map Ch));split<;>rfl
 rw[e]at this ⊢;show"#;"
def a0p(h:f ρ=ψ (.int (n:δ)))(hn:n<=100000):Ft f ρ=ψ ((hl_).map λi=>D.int l7_):=by delta Ft;rw[h];show(if -1000<=rs!/\rs!<=100000 then ψ (Cr (rs!).toNat)else υ)=_;rw[ad!];rfl
def c2q{R:p_}(h:ah_)(wi:Bv W)(hB:c5_<5000)(ht:DU_)(ha:fB_)(hk:dy_)(m1:1<=m)(m16:m<=16)
  (hR:∀M' ρ',FP! O (setT W a (cutT hJ_ ah!))->EA_ O->R bs_ M'):
  Xy DX! M R:=by
 let hm:((m.toNat:δ):Int)=m:=by omega
 let ix2':Ah fU_ cC_=ψ fK!:=ix2;let hc:Pu oJ_ DX! M (.lst hJ_):=λK hK=>by
  delta Bf Hm;rw[a0p (by rw[hm];exact p3 χ) a!];exact eL #[by simp[big];omega,cQ eE_ (λd=>match d with|.int k=>.tup [hF!,hF_,.int (z+k)]|_=>.non) ο _ _ bb! (by rw[eF!,MH];exact hK)];let#[k,c9,rfl]:=LC.mp hd;exact#[[ψ rt_,ψ fU_],χ,eF_,λ_=>aP (aT (by delta Fh;rw[aT χ χ ix2'];rfl) (kJ (Mc_ (aT (aT (Kl_ ix2') χ χ) χ χ)) χ) χ)]
 exact eO hc ?_;generalize hg:(hJ!).map (λk=>D.tup kT_)=vw at hR;let N':∀d∈vw,Sd d:=λd hd=>by
  rw[<-hg]at hd;let#[k,_,rfl]:=LC.mp hd;exact KJ_ #[[x,y,z+(k:δ)],χ]
 exact Ju! h (b7x h wi.nd hB χ f9_ hk ha DZ! λM' g1 g2=>hR M' _ g1 g2);exact#[by simp[big];omega,cQ eE_ (λd=>match d with|.tup [s,c,.bl b]=>Ch (s,c,b&&!decide (s∈vw))|_=>.non) ο _ _ bb! ?_]
 .show"!4";exact#[[l8_,ψ (.lst vw)],χ,eF_,λ_=>c5e DZ_ (aP (Kl_ d7o)) (b1c (aP (Kl_ d7n)) (λe=>?_) λe=>by rw[e];rfl)];rw[e];exact eG DZ_ e! (c7b (D0!).sd N')
 .rw[eF!,MH];delta cutT at hK;rw[MH]at hK;exact hK
def FV(l:ab_)(b:D)(k a:δ):Prop:=(a=0/\∀j<k,D0_≠ψ b)\/∃j<k,D0_=ψ b/\a=j+1
def a7f{o4:D}(hl:K!<5000)(hs:∀q∈l,Sd q.1)(J:Sd b)(R:p_)(hR:∀(a:δ) y,FV l b l.length a->EI! D1_ M):
  ∀(m k a:δ) (y:G_),K! - k=m->k<=K!->FV l b k a->Fe gV_ Q_ FD Dp_ D1_ M R
 |0,k,a,y,hm,hk,ha=>(F1_ l.length)
 |m+1,k,a,y,hm,hk,ha=>by
  let c1:k<K!:=by omega
  exact aB!;show FD ru_ M _;let e1:=LL c1;let ea:Ff l5! bL_=ψ (Ch l[k]):=by
   show"#0";simp[c1]
  let cond:fT xe! ru_=E2_ ψ ((l[k]).1=b):=by
   delta fT;rw[aT (aT (Kl_ ea) χ d0p) (p2 χ) (tS (hs _ ik_) J)];rfl
  let es:FZ! a2_ ru_=ψ re_:=by
   show rf!;rfl
  by_cases z:(l[k]).1=b
  .exact Dq_;exact a7f (o4:=o4) hl hs J R hR m R_ R_ _ a! a! (.inr #[k,i!,by rw[e1];exact congrArg ψ z,χ])
  .exact jM Dr! ?_;exact a7f (o4:=o4) hl hs J R hR m R_ a _ a! a! ?_;obtain⟨Y,h2⟩|⟨j,Y,h2,h3⟩:=ha
   .exact .inl #[Y,ku_];by_cases y:j=k
    .rw[y,e1];exact λx=>z (MQ x)
    .exact h2 j a!
   .exact Dr_
def FV.wr(h:FV l b l.length a)(nd:o5!):wrT b nw l=l.take a++nw++l.drop a/\a<=K!:=by
 obtain⟨rfl,h2⟩|⟨j,Y,h2,rfl⟩:=h
 .let nb:b∉l.map b_:=λz=>by
   let#[j,hj]:=RG.mp z;rw[MO]at hj;let:j<K!:=by
    cases e:l[j]? with
    |none=>rw[e]at hj;rcases hj
    |some q=>exact(LH.mp e).1
   exact h2 j this hj
  delta wrT;rw[LB nb];simp
 .let hj:=LL Y;rw[hj]at h2;let J:=MQ h2;let e:l=l.take j++l[j]::l.drop I_:=by rw[<-OK Y,QJ]
  let nb:b∉(l.take j).map b_:=λz=>by
   rw[e]at nd;simp![LG,LA]at nd;rw[MB]at nd;exact nd.2.2 _ z _ c_ J.symm
  let XE:b∈l.map b_:=by rw[<-J];exact LK (OU Y)
  exact#[?_,i!];delta wrT;rw[KQ XE]
  conv=>lhs;rw[e]
  rw[oC J nb,QP Y];simp![LZ,PM,LY]
def b3y(h n:Int)(s:Str):Ey! eq!=(Fv_ E!).map λk=>(D.tup qB!,D.str D3_,τ):=by
 apply VM;intro i;rw[MO,MO,List.getElem?_zipIdx];by_cases c:i<cZ!
 .let c':i<E!:=by simpa[Str.length]using c
  rw[LL c,List.getElem?_range c'];simp[sgn,List.getD,LL c];simp at c;simp[c]
 .let c':¬i<E!:=by simpa[Str.length]using c
  rw[NQ a!,NQ bf_];rfl
def a9t{R:p_}(hL:ah_)(wi:Bv W)(hB:c5_<5000)(ht:DU_)(ha:fB_)(hk:dy_)(J:Sd b)(s16:kZ_)
  (hR:∀M' ρ',FP! O (setT W a (wrT b hL_ ah!))->EA_ O->R bs_ M'):
  Rq [ad_,R!,l9!,cY_,y4,υ,υ,υ,υ,υ] M R:=by
 exact Ju! hL (eO e! ?_);show Ka! DE_ D4!;let er:Ft xc_ D4!=ψ ((IH! List.range ah!).map λi=>D.int l7_):=a0p (by
  show Be [.lst ro_]=_;simp[Be]) a!
 delta Af Cu Hm;rw[er,UP];exact a7f (o4:=.non) ht (λq hq=>(D0!).sd) J _ (λat_ y XH=>?_) (ah!).length 0 0 υ a! a! Dx!;let#[ew,qq]:=XH.wr (nw:=Ey! eq!) (wi.snd a ha);let hnl:(hL_).length=E!:=by simp[Str.length]
 let hc:Pu oG_ [ad_,R!,l9!,cY_,y4,ψ rp!,ψ (.int (at_:δ)),y,υ,υ] M (Io_ hL_ Ch):=λK hK=>by
  delta Bf Hm;rw[a0p (n:=s.length) (by show Be [b3!]=_;simp[Be,big];omega) a!];exact eL #[by simp[big];omega,cQ eE_ (λd=>match d with|.int k=>Ch (.tup qA_,.str #[[s.cps.toList.getD k.toNat 0].toArray],τ)|_=>.non) ο _ _ bb! (by rw[b3y,MH]at hK;rw[eF!,MH];exact hK)];let#[k,c9,rfl]:=LC.mp hd;let hk2:=RY.mp c9;let hc:k<cZ!:=by simpa[Str.length]using hk2
  let e3:Ah aQ! rt_=FN! D3_:=by
   show(if E!<=big then(Ff s.cps.toList bL_).map _ else υ)=_;rw[dC!];show"#0";rw[ad!,ad!];dsimp only[Option.bind_some,Int.toNat_natCast];rw[LL hc,List.getD_eq_getElem?_getD,LL hc];rfl
  exact#[[ψ rt_,l9!,cY_],χ,eF_,λ_=>aP (LM! kJ (bI (aT (Kl_ ix3) χ e3) ev!))]
 exact eO hc ?_;generalize s.cps.toList.zipIdx.map eq!=nw at *;exact b7x hL wi.nd hB rfl f9_ hk ha (aP (aT (x:=.lst ((ro_).take at_++nw.map Ch)) (aT (c2z lZ_) rfl ?_) (a6n lZ_) ?_)) λM' g1 g2=>hR M' _ g1 g2
 .show h4!;rw[l0!]
 .show h4!;rw[l0!,ew];simp
def HL.perm{M0 M:Mh}(h:qU!)(p:l.Perm l'):HL M0 M l':=#[λq hq=>h.cell q D8!,(p.map _).nodup_iff.mp h.nd,λq hq=>h.fr q D8!,h.kp]
def a6u{f1 f2 f3 f4:p!}(Y:fM_)(h2:hM_)(h3:qH_)(h4:f4 ρ=ψ d)(k:g [a,b,c,d] M K):I1_ 4 qI_:=by delta Am Ab Ad;rw[cD Y,dK!,cD h3,cD h4];exact dK_
def c2p{R:p_}(hL:ah_)(wi:Bv W)(hB:c5_<4000)(hl:dI!<3900)(hn:D9_)(ha:Sd a)(hk:dy_)(J:Sd b)
  (hR:∀M' ρ' O' rows',KH_ au_->FP! O' (Ij W au_ rows')->EA_ O'->R bs_ M'):
  Xx [ad_,R!,ψ hW!,cY_,υ,υ,υ,υ,υ,υ] M R:=by
 let#[wt,wn,qa,hA]:=id hL;let#[e0,e1,e2,L]:=hA.L;let g7:Cj au_=some (some (.inr [.inl h,.inl n])):=rfl;exact eO (d:=.bl (decide Eb!)) (d1b (λK hK=>by rw[pZ hL rfl f9_ hk];exact hK) (λe=>aP (aT f9_ rfl ((tS ha (iV _)).trans (by simp[RD e])))) λe=>LM (.inl (NZ e))) ?_;generalize hg:decide Eb!=g;delta Af;let kt:=zB (g:=λi=>D.lst lU_) (v:=.lst []) hn;exact b7z e! (hA.tx rfl) e! DQ_ g7 c6! ?_;let L1:=L.put (u:=[_]) (c:=.dct Ec_ Ed!);exact#[Ed_,c4!];let L2:=L1.new (c:=.lst fP!) hq;let XI:=L2.cell (w,_) in_;let ji:=L2.cell (wn,_) (KI _ rc!);exact eG e! e! ((fK XI rfl).trans k3n) _ (aP rfl _ ?_);rw[iY ji g7 c6!];let L3:=L2.put (u:=[_,_,_]) (c:=.dct Ee_ Ef!);exact eL ?_;generalize hM3:mup (mup (mup M wt (.dct Ec_ Ed!)) q (.lst fP!)) wn (.dct Ee_ Ef!)=M3 at L3 ⊢;let qM:M q=none:=by
  by_cases z:q=wt
  .rw[z,mup_same]at hq;rcases hq
  .rw[mup_ne z]at hq;exact hq
 let ni:∀i∈W.its,i≠.tup bI!:=λi hi z=>hn (z▸hi)
 let -nondep gf:D->Addr:=λi=>if i=.tup bI! then q else qa i
 let aj:∀i∈W.its,gf i=qa i:=λi hi=>LB rz!;let xz:gf au_=q:=KQ χ;let du:Lk M3 w Ef_ rz_ wt wn gf:=by
  exact#[#[e0,Hj cu_ au_ e1,Hj ma_ au_ e2,?_],λb=>?_]
  .rw[kt,zB hn]at L3;exact L3.perm ?_;let m1:(iu_).map (λi=>(i,D.lst (HM_ rz_ Ch)))=cu_++[(.tup bI!,.lst [])]:=by
    rw[LG];congr 1
    .exact NC λi hi=>by show(i,D.lst ((if i=_ then[]else W.txt i).map Ch))=_;rw[LB rz!]
    .show[(_,D.lst ((if _=_ then[]else _).map Ch))]=_;rw[y_];rfl
   let m2:JV! (λi=>(i,D.fn (gf i)))=ma_++[(.tup bI!,.fn q)]:=by
    rw[LG];congr 1
    .exact NC λi hi=>by rw[aj i hi]
    .show[(_,D.fn (gf _))]=_;rw[xz]
   let m3:JV! (λi=>(gf i,Dh.lst ((rz_).num i)))=DN_++[(q,.lst fP!)]:=by
    rw[LG];congr 1
    .exact NC λi hi=>by show(gf i,Dh.lst (if i=_ then _ else W.num i))=_;rw[aj i hi,LB rz!]
    .show[(gf _,Dh.lst (GM! _ _))]=_;rw[xz,y_]
   show List.Perm _ (_::rC!::rC!::JV! _);rw[m1,m2,m3];exact(List.perm_append_singleton (q,Dh.lst fP!) (_::_::_::W.its.map λi=>eD_)).symm
  .show(O b\/b=q)↔_\/_\/_\/∃i∈W.its++[D.tup bI!],gf i=b;rw[hA.O,or_assoc,or_assoc,or_assoc];exact SU (SU (SU #[bJ_,λ⟨i,hi,e⟩=>?_]))
   .obtain⟨i,hi,e⟩|z:=z
    .exact#[i,LN _ hi,(aj i hi).trans e]
    .exact#[_,KY _ p6!,xz.trans z.symm]
   .obtain z|z:=KS.mp hi
    .exact .inl #[i,z,(aj i z).symm.trans e]
    .rw[aI_,xz]at e;exact .inr e.symm
 let F1:Fr M O M3 Ef_:=λc hc hr=>by
  let cq:=dH hc qM;exact#[?_,λz=>z.elim hr cq];rw[<-hM3,mup_ne λz=>Iy! wn (.inr io!),Eo! cq,mup_ne λz=>Iy! wt io!]
 exact iA (a6u χ χ ?_ (p2 χ) (a7b #[wt,wn,gf,du] eo! (.inr (Er_ #[[h,n],χ])) (by split;exact ha;exact iV _) J (by show dI!<_;omega) λM' rows' oq d7 hF'=>hR M' _ _ rows' oq d7 (F1.trans hF')))
 .delta Wf;rw[show fT S! _=ψ g from χ,p1 χ];show(if g=τ then ψ a else ψ Cq)=_;rw[<-hg];by_cases c:a∈W.its\/a=root
  .rw[KQ (LM c),KQ (c.elim .inl λz=>.inr cM_)]
  .rw[LB λz=>c (NZ z)];by_cases c2:Hi W a
   .rw[KQ c2,c2.resolve_left (λz=>c cM_) |>.resolve_left λz=>c g3_]
   .rw[LB c2]
 .let#[z1,z2,_]:=a0o wi q hq;exact#[z1.sd,z2,z1.nn.1]
structure Rv(W:OW)(B:Nat):Prop where
 rows:dI!<=B
 its:c5_<=B
 txt:∀x,(a5!).length<=B
def Om.len(h:hp_):rows'.length<=mg!+1:=by
 let#[u,v,e1,e2,_]:=h;let Y:(du!).length<=mg!:=by delta wo;exact NP _ _
 rw[e1,KO]at Y;rw[e2,KO,KW];omega
def Rv.stp(l:cv!)(h:Jl! W'):Rv W' bH!:=by
 let l1:=l.rows;let l2:=l.its;let l3:=l.txt;let same:Rv W bH!:=#[i!,i!,λx=>by let:=l3 x;omega];cases h with
 |put _ _ hg=>
  let:=hg.len;exact#[by show _<=_;delta Ij;simp only;omega,by delta Ij;simp![KO,PF];omega,ky!];delta Ij;simp only;split
  .simp
  .let:=l3 x;omega
 |mvY _ _ _ _ hg=>
  let:=hg.len;exact rF!
 |mvN=>exact same
 |drY _ _ hg=>
  let:=hg.len;exact rF!
 |drN=>exact same
 |@wrt a b s h m _ _ hs e=>
  split
  .exact rF_;delta setT;simp only;split
   .let#[u,v,e1,e2,_]:=In! iS;let:=l3 a;rw[e1,KO]at this;rw[e2];let c7:cZ!<=16:=hs;simp![KO,KP,TL];omega
   .let:=l3 x;omega
  .exact same
 |cut=>
  split
  .exact rF_;delta setT;simp only;split
   .delta cutT;rw[KP];exact same.txt _
   .exact same.txt x
  .exact same
 |set=>
  split
  .exact#[same.rows,same.its,same.txt]
  .exact same
def fB{R:p_}(h:bY!)(k:q bX_ M R):KO! (wl f):=by delta Af Ak;rw[cD h];exact k
def kT(h:rm!)(e:(k==k)=τ):Tp k ρ=ψ true:=by rw[c0s h,e]
def kF(h:rm!)(e:lC_=θ):Tp k' ρ=ψ false:=by rw[c0s h,e]
def JE:WS:=Ap DG_ Xw DH!
def JF:WS:=Ap DF_ oD_ (Ap DG! oE! JE)
def Zy:WS:=Ap DF! Xx JF
def c4z:Xr=Af oB_ (Af oC! Zy):=c5a
def Rr(w:sS!)(x0 d nm:D):Ag:=[ad_,R!,h8!,l8!,υ,υ,υ,υ,υ,υ]
def dv0:Aa 0 rG!=ψ c5!:=χ
def nS:Aa 2 rG!=ψ d:=χ
def AU(W:OW)(M:Mh)(w:sS!)(O:bE_)(n d:D)(R:p_):Prop:=∀M' O' W' ρ',Jl! W'->FP! O' W'->EA_ O'->R bs_ M'
def d3h{R:p_}(hL:ah_)(wi:Bv W)(bz:cv!)(hB:dN_)(hn:D9_)(ha:Bg a)(J:Lj b)
  (hR:F5! au_ hW!):Fi_ hW! au_:=by
 show"!2";let l1:=bz.rows;let l2:=bz.its;exact IJ_ c0u;exact Jl_ c2p a! hn ha.sd b6 J.sd λM' ρ' O' rows' hg d7 hF=>hR M' O' _ ρ' (.put ha J hg) d7 hF
def c7o{R:p_}(hL:ah_)(wi:Bv W)(bz:cv!)(hB:dN_)(ha:Bg a)(J:Bg b)(hc:Lj c)
  (hR:F5! nm hW_):Fi_ hW_ nm:=by
 show"!2";let#[kb,ny]:=cI J;let l1:=bz.rows;exact jM ax! ?_;exact IJ_ a2a;exact iA (a6u dv0 (p1 nS) (p2 nS) (p3 nS) ?_);exact Jl_ a7a ha.sd J.sd hc.sd b6 ny λM' W' Y h2 d7 hF=>?_;by_cases g:a∈W.its/\Hi W b/\¬Fe! Wn a b
 .let#[rows',hg,e]:=Y g;rw[e]at d7;exact EW! (.mvY ha J hc g hg)
 .rw[h2 g]at d7;exact EW! (.mvN ha J hc g)
def c7p{R:p_}(hL:ah_)(wi:Bv W)(bz:cv!)(hB:dN_)(ha:Bg a)
  (hR:F5! nm hX!):Fi_ hX! nm:=by
 show"!2";let l1:=bz.rows;show"!5";exact IJ_ a2b;exact iA (a6u dv0 (p1 nS) χ χ ?_);exact Jl_ a7a ha.sd (iV _) aw_ b6 χ λM' W' Y h2 d7 hF=>?_;by_cases g:a∈W.its/\Hi W Cq/\¬Fe! Wn a Cq
 .let#[rows',hg,e]:=Y g;rw[e]at d7;exact EW! (.drY ha g hg)
 .rw[h2 g]at d7;exact EW! (.drN ha g)
def d3g{R:p_}(hL:ah_)(wi:Bv W)(bz:cv!)(hB:dN_)(ha:Bg a)(h0:0<=p)(h3:p<=3)
  (hR:F5! nm lz_):Fi_ lz_ nm:=by
 show"!2";let st:=Px.set (W:=W) (n:=nm) (v:=v) ha h0 h3;show"!5";exact jM ax! ?_;exact Gh! c0t
 .show"#H";exact c2o hL wi c' b6 dv0 nS h0 h3 λM' d7 hF=>EW! st
 .show"#G";show"#-";show"#-";show"#I"
def c2n{R:p_}(hL:ah_)(wi:Bv W)(bz:cv!)(hB:dN_)(ha:Bg a)(J:Hv b)(hs:kZ_)
  (hR:F5! au_ fU!):Fi_ fU! au_:=by
 show"!2";let l2:=bz.its;let l3:=bz.txt a;let st:=Px.wrt (W:=W) (n:=.tup bI!) ha J hs χ;show"!5";exact jM ax! ?_;show"#-";exact Gh! a5i
 .show"#H";exact Jl_ a9t a! c' b6 J.sd hs λM' ρ' d7 hF=>EW! st
 .show"#G";show"#-";show"#I"
def d3i{R:p_}(hL:ah_)(wi:Bv W)(bz:cv!)(hB:dN_)(ha:Bg a)(h0:0<=z)(Y:1<=m)(h2:z+m<=16)
  (hR:F5! nm fU_):Fi_ fU_ nm:=by
 show"!2";let l2:=bz.its;let l3:=bz.txt a;let st:=Px.cut (W:=W) (n:=nm) (x:=x) (y:=y) ha h0 Y h2;show"!5";exact jM ax! ?_;show"#-";show"#-";exact Gh! c0v
 .show"#H";exact Jl_ c2q a! c' b6 Y a! λM' ρ' d7 hF=>EW! st
 .show"#G";show"#I"
def d1n(o:Op):GV_ by!=ψ o.d:=by rfl
def lT(o:Op):GV_ P!=ψ dH!:=by rfl
def uW(o:Op):GV_ bi!=BA! o.n:=by rfl
def c9s(Y:f ρ=ψ a)(h2:g ρ=ψ b):L4_ f g ρ=ψ lV!:=by simp[Ay,Ac,Ae,Y,h2]
def d4j{o:Op}(hL:ah_)(hw:lA_)(hn:o.nm∉pre)(hd:ia_)(hu:ix!)(bz:cv!)(hB:dN_)
  (hR:∀M' O' W',Px W o.nm o.d W'->FP! O' W'->EA_ O'->Fl! M'):Vh [.fn w,o.v] M R:=by
 exact j!;rw[c4z];let e3:=d1n o;exact fB (ρ:=[ad_,T_,none,none,none,none,none,none,none,none]) e3 ?_;let e0:Ay w7! rI_=some o.nm:=c9s gh_ (uW o);exact fB (ρ:=rI_) e0 ?_;generalize hK:AL_=K;let iq:AU W M w O o.nm o.d K:=λM' O' W' ρ' Y h2 h3=>by rw[<-hK];exact hR M' O' W' Y h2 h3
 let rj:o.nm∉W.its:=λz=>hn (hw.its _ z);clear hR hK e3 e0 hn;let#[h,n,tm,d]:=o;generalize Op.v #[h,n,tm,d]=v;change Zy (Rr w v d au_) M K;change AU W M w O au_ d K at iq;change D.tup bI!∉W.its at rj;change DG d at hd;change Dl d=none at hu;cases hd with
 |put ha J=>exact Fn_ d3h rj ha J iq
 |move ha J hc=>exact Fn_ c7o ha J hc iq
 |drop ha=>exact Fn_ c7p ha iq
 |write ha J _ _ hs=>exact Fn_ c2n ha J hs iq
 |cut ha hs Y h2=>
  let#[_,_,_,e,_,_,_,_,z0,_]:=hs;cases e;exact Fn_ d3i ha z0 Y h2 iq
 |set ha Y h2 _=>exact Fn_ d3g ha Y h2 iq
 |undo _=>rw[yB]at hu;exact Ei_ hu (Gw_ Cm!)
 |redo _=>rw[yB]at hu;exact Ei_ hu (Gw_ Cm_)
def Rv.mono(l:cv!)(h:cU_):Rv W B':=#[LX l.rows h,LX l.its h,λx=>LX (l.txt x) h]
def d6v(hp:bJ!)(h0:lH_)(Y:mk!)(h2:fb ρ=ψ z)(hk:aX_)(K:Y!)(hK:K ((ih!).getD z) M):Ju_ Ev:=by
 let c:Dd M u!=ψ lv_:=by simp[Dd,hp]
 simp![Ev,wl,h0,Y,h2,c,Di,hk];exact hK
def qL{f1 f2:p!}(Y:fM_)(h2:hM_)(k:g aq! M K):I1_ 2 pU!:=by delta Am Ab Ad;rw[cD Y,dK!];exact dK_
def wX{g:WF}{f1:p!}{K:Y!}(Y:fM_)(k:g [a] M K):I1_ 1 (Ab hN! Ad):=by delta Am Ab Ad;rw[cD Y];exact dK_
def II:WT:=Ee xm! xn!
def IJ:WS:=Ap II xo! Bi
def d6n{R:p_}(h:rM!)(k1:DI_)(k2:DJ!):EV_ ft:=by
 exact h _ ?_;cases b with
 |true=>rw[y_];exact k1 χ
 |false=>rw[aW_];exact k2 χ
def c4e(h:rM!)(h2:b=τ->∀K:Bool->Mh->Prop,K c M->fu ρ M K)(K:lh_)(hK:K (b&&c) M):Ee ft fu ρ M K:=by
 exact h _ ?_;cases b with
 |true=>rw[y_];exact h2 χ K (Ep! hK)
 |false=>rw[aW_];simpa using hK
def c6p{x:Op}(nz:rM_)(hd:DG x.d)(hp:M p=LC! kb)(K:lh_)
  (hK:E2_ K rO! M):II rO_ M K:=by
 let#[k,r,e,hn,hs]:=d6x hd;let i0:=c1d e;let hu:(! ra!)=decide mk_:=by
  cases hu:Dl x.d with
  |none=>
   let#[Y,h2]:=hn hu;rw[BEq.comm,Df!,Y,h2];rfl
  |some u=>
   let#[g1,g2,hk,g6]:=hs u hu;rw[b0h hk];rfl
 let#[kn,g7]:=a8r x;let hz:(∃b:Bool,(GI! kb).getD I!=.bl b/\(b=τ↔kget wd x.nm=ψ cf!)):=by
  obtain⟨Y,h2⟩|⟨k',Y,h2⟩:=nz x.nm
  .exact#[θ,by rw[h2];rfl,by rw[Y];simp]
  .exact#[k'=="undo",by rw[h2];rfl,?_];rw[Y];show"#<"
   .intro z;rw[eq_of_beq z]
   .intro z;rw[D.str.inj (MQ z)];exact NH _
 let#[b,hb1,hb2]:=hz;let e2:Ay xm_ rO_=ψ x.nm:=c9s (lT x) (uW x);exact c4e (b:=decide mk_) (c:=!b) (λK' vx=>?_) (λ_ K' vx=>?_) K ?_
 .delta wT w2;rw[cD i0,aD_,a5u];rw[hu];exact vx
 .delta Kb wT;exact d6v hp χ e2 χ g7 _ ?_;rw[hb1];exact vx
 .let:(decide mk_&&!b)=decide rO!:=by
   by_cases c1:Dl x.d=υ
   .by_cases c2:GI! wd=ψ cf!
    .rw[hb2.mpr c2];simp[c2]
    .let:b=false:=by
      cases b with
      |true=>exact Ei_ (hb2.mp χ) c2
      |false=>rfl
     rw[this,LM c1,LM (#[c1,c2]:_/\_)];rfl
   .rw[LD c1,LD λz:_/\_=>c1 z.1];rfl
  rw[this];exact hK
def a1m{e0:δ}(nz:rM_):
  ∀(os:j_) (x1:D) (y:G_) (M:Mh) (O:bE_) (W:OW) (pre:d!) (B:δ) (R:p_),(∀x∈os,DG x.d)->CX!->(lK_).Nodup->Bw M w O W->Ru W pre->Rv W B->B+20*aY!<3800->M p=LC! kb->¬O p->
   (∀M' O' W' y',Hw W q0! W'->FP! O' W'->CX_->Rv W' (B+20*aY!)->EA_ O'->Kx! [ap_,ad_,N!,y'])->
   Fe az_ Q_ IJ aw! [ap_,ad_,N!,y] M R
 |[],x1,y,M,O,W,pre,B,R,_,_,_,hL,hw,bz,_,_,_,hR=>#[ο,hR M O W y .nil hL #[pre,hw] (bz.mono a!) .refl]
 |x::os,x1,y,M,O,W,pre,B,R,hd,hp,nd,hL,hw,bz,hB,x5,ya,hR=>by
  exact aB!;dsimp only[List.length_cons]at hB hR;rw[LA,LO]at nd;let ln:=hd x KM;exact d6n (c6p nz ln x5) c7_ c7_
  .let c':=NZ c;let ee:Md wd ig!=x::Md wd os:=by delta Md;rw[NM rR_]
   exact iA (qL χ χ (d4j hL hw lL_ ln c'.1 bz a! λM1 O1 W1 hs hL1 hF=>?_));let hq:=hF p (EQ! x5) ya;exact a1m nz os x1 q0_ M1 O1 W1 (pre++[x.nm]) bH! R q1! CZ! nd.2 hL1 (a7l hs hw lL_) (bz.stp hs) a! (hq.1.trans x5) hq.2 (λM' O' W' y' g1 g2 g3 g4 g5=>hR M' O' W' y' (by rw[ee];exact .cons hs g1) g2 g3 rT_ (hF.trans g5));obtain z|z:=KS.mp z
   .exact hp y ec_ z
   .rw[LF]at z;exact nd.1 CZ_
  .let c':=RD c;let ee:Md wd ig!=Md wd os:=by delta Md;rw[NS rR_]
   exact a1m nz os x1 q0_ M O W pre bH! R q1! q1_ nd.2 hL hw (bz.mono a!) a! x5 ya (λM' O' W' y' g1 g2 g3 g4 g5=>hR M' O' W' y' (zG_ ee g1) g2 g3 rT_ g5)
def d4h:Rv W0 0:=#[LJ _,LJ _,λ_=>LJ _]
def d6l:(Ej_ im_).Nodup:=by
 exact LO.mpr #[?_,LO.mpr #[?_,rV_]]
 .intro z;obtain z|z:=KR.mp z
  .exact c8w z
  .exact c8x p5!
 .intro z;exact c8s p5!
def c6t:∀q∈k3 a b c,(Cj q.1).isSome=true:=λq hq=>by
 obtain rfl|hq:=KR.mp hq
 .rfl
 .obtain rfl|hq:=KR.mp hq
  .rfl
  .rw[LF.mp hq];rfl
def b4f:Vf=Af xl!
 (Af xl_
 (Af (Cu oy_ az_ IJ)
 cF!)):=χ
def c7r{f:WE->WS}{ρ:Ag}{K:Y!}(hK:∀w M' O,M w=υ->FP! O W0->qY!->K c5! M'):
  Nm xk_ ρ M K:=by
 intro w hw;exact Hl_ pc;rw[aD_];exact Hl_ pc;intro wt ht;exact Hl_ pc;intro wn hn;let L:=(((HL.new (l:=[]) qY_ hw).new ht).new (c:=ie_) hn).put (u:=[_,_]) (c:=.dct rW_ 3);let p:List.Perm [(wn,Dh.dct [] 0),(wt,.dct [] 0),(w,.dct rW_ 3)] (FH W0 w wt wn (λ_=>w) 3 0 0):=(List.reverse_perm _).symm;let L:=L.perm p;exact#[?_,C6_,c6t,d6l,hK w _ (λb=>b=w\/b=wt\/b=wn) hw #[wt,wn,λ_=>w,#[3,0,0,L.cell,L.nd,i0_,Dk_],λb=>?_] λb J=>#[L.kp b J,λz=>J ?_]]
 .let e1:=dH rY_ ht;rw[Lb! (by rw[mup_ne e1,mup_same];simp) hn,Eo! e1,mup_same]
 .exact SU (SU #[.inl,λz=>z.elim id λ⟨i,hi,_⟩=>by exact(KN hi).elim])
 .obtain rfl|rfl|rfl:=z
  .exact hw
  .exact L.fr (_,_) in_
  .exact L.fr (_,_) rc!
def a6y{ops:j_}(nd:ew_)(nn:C0!)(hl:ex!)(hd:ic!)
  (hR:∀w M' O W',M w=υ->Hw W0 (Md ic_ ba_) W'->FP! O W'->C0_->Rv W' 1500->qY!->R c5! M'):La ct_ M R:=by
 exact j!;rw[b4f];let hp:I1! ba_:=bU ops;delta Af Ak;exact c7r (f:=λ_=>Bi) λw M1 O hw hL fr=>?_;exact wX χ (a9c nd hl hd λp M2 ep io gw l9=>?_);let rp:¬O p:=λz=>hL.live z io;let ug:=hL.keep λc hc=>l9 c λz=>rp mp!;delta Cu Br;exact wX χ (nX nd hl ?_);exact a1m (tY ba_ [] [] λx=>.inl aK_) ba_ _ υ M2 O W0 [] 0 _ (λx hx=>hd x q2_) C1_ C2_ ug b3k d4h lM_ gw rp λM' O' W' y' g1 g2 g3 g4 g5=>?_;exact hR w M' O' W' hw g1 g2 g3 (g4.mono lM_) λb J=>?_;let#[e1,e2]:=fr b J;let e3:=l9 b λz=>by rw[<-e1,z,io]at J;exact J χ
 let#[e4,e5]:=g5 b C3! e2;exact#[e4.trans (e3.trans e1),e5]
abbrev Yi:Nat:=1000000000000000000000000000000000000000000000000000000000000
def a2o(h:dc_<Yi):Fx [bN_]=ψ x!:=fD χ (a3e ab! (a3e ab! (by
 let e:f2 Pj (HK! Zr) t0_ [ψ ay!]=CH! (i6_<1000000000000000000000000000000000000000000000000000000000000):=by kernel_rfl
 exact e.trans (bT (by delta Yi at h;split<;>omega)))))
def a2q(h:dc_<Yi)(h0:0<=i)(Y:i<k):Hg [bN_,es_]=ψ x!:=Lh_ (a3e rZ_ (d7a (i:=0) χ χ χ h0 (bT Y)))
def a2p(h:dc_<Yi)(Y:1<=i):Dr [bN_]=ψ x!:=Lh_ (a3e rZ_ (bT Y))
def rS(h:NameG x):Ey [x]=ψ x!:=by let#[a,b,rfl,Y,h2,h3,h4]:=h;exact uM χ ab! (a3e (Ha_ Y h2) (Im_ (a2p eJ_ h3)))
def sP(h:Vj x):Ea [x]=ψ x!:=by let#[a,b,c,rfl,Y,h2,h3,h4,h5,h6]:=h;exact uM χ ab! (a3e (Ls! a b) (Ha_ h5 a!))
def oI(h:Bg x):Ky [x]=ψ x!:=by
 obtain rfl|rfl|h:=h
 .exact Lh_ (b4o (Im_ ab!) (b9f ab!))
 .exact Lh_ (b4o (Im_ ab!) (b4o ab! ab!))
 .exact Lh_ (b9f r0!)
def zN(h:Lj x):Gv [x]=ψ x!:=by
 obtain rfl|h:=h
 .exact r0_
 .let#[a,b,rfl,_]:=id h;exact Lh_ (b4o χ r0!)
def c2i(h:Hv x):Hq [x]=ψ x!:=by
 obtain rfl|h:=h
 .exact r0_
 .let#[a,b,c,rfl,_]:=id h;exact Lh_ (b4o χ (Im_ (sP h)))
def c7n(h0:0<=i)(Y:i<=3):Jd [bN_]=ψ x!:=Lh_ (Ha_ h0 a!)
def zX{α:Type}(cs:aa_):Pv [.lst lb_]=ψ x!:=by
 let e:Jo lc!=ψ qc_:=by
  induction cs with
  |nil=>rfl
  |cons c cs ih=>show(Jo lc!).map (true::·)=_;rw[ih];rfl
 show JV_ lc!=_;rw[e];show Gg! ((qc_).all id)=_;rw[r3!]
def d3c(h:Ge s=τ)(Y:1<=E!)(h2:kZ_):Kx [b3!]=ψ x!:=by
 delta Ge at h;rw[LS,LV]at h;let hl:E!<=big:=by delta big;omega
 let hc:=wU s.cps.toList h.2;let hz:cZ!<=big:=by simpa[Str.length]using hl
 let v5:E3! (Rk l_) cD_ eK!=o8! (s.cps.toList.map λ_=>.bl τ):=by
  show(if(s.cps.toList.map λc=>D.str ak!).length<=big then Option.map D.lst (Gm! (s.cps.toList.map λc=>.str ak!))else υ)=_;rw[KP,KQ hz,hc];rfl
 let hn:HK! Be eK!=ψ Bq!:=by
  show Bq_=_;rw[KQ hl]
 exact r4_;let hk:El Ki Ki r! de_ bx_ eK!=ψ x!:=d7a χ hn χ a! (bT a!);show Xu (Dy nt_) (Dy nu!) eK!=_;let e0:Dy nt_ eK!=ψ false:=by kernel_rfl
 delta Xu;rw[e0];show Dy nu! eK!=_;delta Dy fT;rw[hk];rfl
def d2w(nd:t.nd):Iq t t.A0=ψ Ky/\Iq t t.A7=ψ Gv/\Iq t t.A8=ψ Hq/\Iq t t.A9=ψ Kx/\Iq t t.B0=ψ Ea/\
  Iq t t.B1=ψ Dr/\Iq t t.B2=ψ Jd/\Iq t t.B3=ψ Fx/\Iq t t.B4=ψ Ey:=by
 let p:∀(i j:δ) {a b:sS!} {x y:Em! pA!},i<j->p9![i]?=ψ a->p9![j]?=ψ b->(if b=a then x else y)=y:=λi j a b x y h e1 e2=>by
  let#[Y,rfl]:=LH.mp e1;let#[h2,rfl]:=LH.mp e2;exact LB (MD (RX.mp (RO.mp nd) i j Y h2 h))
 delta Iq;exact#[y_,(zF_ 0 1).trans bq_,(zF_ 0 2).trans (Kk! 1 2),(zF_ 0 3).trans (LP_ 3 (Kk! 2 3)),(zF_ 0 4).trans (LP_ 4 (L7_ 4 (Kk! 3 4))),(zF_ 0 5).trans (LP_ 5 (L7_ 5 (Mf! 5 (Kk! 4 5)))),(zF_ 0 6).trans (LP_ 6 (L7_ 6 (Mf! 6 ((zF_ 4 6).trans (Kk! 5 6))))),(zF_ 0 7).trans ((zF_ 1 7).trans (L7_ 7 (Mf! 7 ((zF_ 4 7).trans ((zF_ 5 7).trans (Kk! 6 7)))))),(zF_ 0 8).trans ((zF_ 1 8).trans ((zF_ 2 8).trans (Mf! 8 ((zF_ 4 8).trans ((zF_ 5 8).trans ((zF_ 6 8).trans (Kk! 7 8)))))))]
def a6p(cs:sb_)(h:sc_):
  Ck jj_ W! jj! [υ,υ] iH!=ψ lb_/\(iH!).length=cY!:=by
 induction cs with
 |nil=>exact aK_
 |cons c cs ih=>
  let#[i1,i2]:=ih λx hx=>h x a9_
  let#[g,Y,h2]:=h c KM;exact#[?_,congrArg (·+1) i2];show(((Iq t c.1).bind λg=>g [c.2]).bind λy=>(se!).map fw_)=_;rw[Y,i1,NT,h2];rfl
def jS(cs:sb_)(h:sc_)(hl:cY!<=1000):
  Ez t [.tup iG_,.tup mv!]=ψ x!:=by
 let hc:=a6p cs h;let hz:cY!<=big:=by delta big;omega
 let v5:Il! 2 [ψ (.tup iG_),ψ (.tup mv!)]=o8! lb_:=by
  show(El! iH! se!)=_;rw[hc.2,KQ hz,hc.1];rfl
 exact r4_;show ψ (!((((iG_).length:δ):Int)==(((cs.map λc=>D.fn c.1).length:δ):Int)))=_;rw[KP,KP,NH];rfl
def c3a(x:D)(r:d!):Ia (.tup (x::r)) eu_ υ=EB! r:=by
 let Y:HT.sIx (aS!+1) 0 eu_=1:=by
  rfl
 let h2:HT.sIx (aS!+1) (aS!+1) υ=aS!+1:=by rfl
 simp[Ia,Iu,Y,h2]
def b3a(hk:sg!)(hp:sh!)(he:Ms ud! ud_ eL_=ψ v):Io t [.tup b5_]=ψ v:=by
 let i0:H5! l_ eL_=ψ ac_:=by
  show Ff b5_ 0=_;show"#0";rw[qb!,fS!];rfl
 exact sD χ (sk ?_ (sk ?_ (sk ?_ (sE he))))
 .show ψ (((((aS!+1:δ):Int))==0))=_;rw[NN.mpr a!]
 .show Xu t8_ ua! eL_=_;delta Xu Dy fT Jh Zm;rw[i0];show ψ (!(HE_ e9! k).isSome)=_;rw[hk];rfl
 .show Dy uc! eL_=_;let e1:JW! l_ eL_=EB! r:=c3a _ _;let e2:Te e9! ay_ eL_=EB! fs:=by
   delta Te;rw[i0];exact hk
  delta Dy fT;rw[xE hp e1 e2];rfl
def jK(hk:sg!)(hp:sh!)(hc:k≠"cut"):Io t [.tup b5_]=ψ x!:=by exact b3a hk hp (b9f ?_);show((Ff b5_ 0).bind λx=>Ye x d1_)=_;delta Ff Jz;rw[qb!,fS!];show Gg! (!(k==("cut":Str)))=_;rw[NN.mpr hc];rfl
def d3f(nd:t.nd)(h:DG d):Io t [d]=ψ x!:=by
 let#[i1,i2,i3,i4,i5,i6,i7,i8,i9]:=d2w nd;let two:∀{a b:Addr×D} {P:my_},P a->P b->∀c∈aq!,P c:=λY h2 c hc=>by
  simp![KR,KN,SS]at hc;obtain rfl|rfl:=hc
  .exact Y
  .exact h2
 let yb:∀{a b c:Addr×D} {P:my_},P a->P b->P c->∀x∈dM_,P x:=λY h2 h3 c hc=>by
  simp![KR,KN,SS]at hc;obtain rfl|rfl|rfl:=hc
  .exact Y
  .exact h2
  .exact h3
 let one:∀{a:Addr×D} {P:my_},P a->∀x∈[a],P x:=λY c hc=>by rw[LF.mp hc];exact Y
 cases h with
 |@put a b Y h2=>exact GI_ (jS [eM!,(t.A7,b)] (two eM_ #[_,i2,zN h2]) c_)
 |@move a b c Y h2 h3=>exact GI_ (jS [eM!,(t.A0,b),(t.A7,c)] (yb eM_ #[_,i1,oI h2] #[_,i2,zN h3]) c_)
 |@drop a Y=>exact GI_ (jS [eM!] (one eM_) c_)
 |@write a b s Y h2 h3 h4 h5=>exact GI_ (jS [eM!,(t.A8,b),(t.A9,.str s)] (yb eM_ #[_,i3,c2i h2] #[_,i4,d3c h3 h4 h5]) c_)
 |@cut a x y z m Y h2 h3 h4=>
  let hz:0<=z:=by let#[_,_,_,e,_,_,_,_,q,_]:=h2;cases e;exact q
  let hp:=jS (t:=t) [eM!,(t.B0,.tup hG_),(t.B1,.int m)] (yb eM_ #[_,i5,sP h2] #[_,i6,a2p eJ_ h3]) c_;exact b3a χ hp (b4o ab! (bT (p:=z+m<=16) h4))
 |@set a p n Y h2 h3 h4=>exact GI_ (jS [eM!,(t.B2,.int p),(t.B3,.int n)] (yb eM_ #[_,i7,c7n h2 h3] #[_,i8,a2o h4]) c_)
 |@undo a Y=>exact GI_ sn_
 |@redo a Y=>exact GI_ sn_
def d8c(nd:t.nd)(Y:0<=h)(h2:h<16)(h3:1<=n)(h4:n<=2000)(h5:1<=m)(h6:m<=1000)(hd:DG d):Cb t [.tup [aP_,aW!,cX_,d]]=ψ x!:=uM χ ab! (a3e (Ls! h n) (a3e (Im_ (a2p eJ_ h5)) (Im_ (d3f nd hd))))
def tK(h:NameG x):Az x=τ/\Go x<=1:=by let#[a,b,rfl,_]:=h;simp[Az,Ca,Go,De]
def kW(h:Bg x):Az x=τ/\Go x<=1:=by
 obtain rfl|rfl|h:=h
 .simp[Az,Go]
 .simp[Az,Go]
 .exact tK h
def b7b(h:Lj x):Az x=τ/\Go x<=1:=by
 obtain rfl|h:=h
 .simp[Az,Go]
 .exact tK h
def b0q(h:Hv x):Az x=τ/\Go x<=1:=by obtain rfl|⟨a,b,c,rfl,_⟩:=h<;>simp[Az,Ca,Go,De]
def kL(s:Str):Az aQ!=τ/\Go aQ!<=1:=mE!
def a9i(i:Int):Az ay!=τ/\Go ay!<=1:=mE!
def iD(h:Az d=τ/\Go d<=1)(k:sq_):Ca (d::xs)=τ/\De (d::xs)<=1:=by delta Ca De;rw[h.1,k.1];exact#[χ,Nat.max_le.mpr #[h.2,k.2]]
def pln:Ca []=τ/\De []<=1:=mE!
def tpl(h:sq_):Az bc_=τ/\Go bc_<=2:=#[h.1,UF h.2]
def d6w(h:DG d):Az d=τ/\Go d<=2:=by
 cases h with
 |put Y h2=>exact LF_ (b7b h2) pln
 |move Y h2 h3=>exact LF_ (kW h2) (iD (b7b h3) pln)
 |drop Y=>exact EN_ pln
 |write Y h2=>exact LF_ (b0q h2) (iD db! pln)
 |cut Y h2=>exact LF_ (b0q (.inr h2)) ss_
 |set Y=>exact LF_ (a9i _) ss_
 |undo Y=>exact tpl su_
 |redo Y=>exact tpl su_
nonrec def hs(os:j_)(h:Int):μ Op:=os.filter λo=>decide (o.h=h)
structure CC(l:j_):Prop where
 num:∀(i:δ) (o:Op),l[i]?=ψ o->o.n=l7_+1
 tim:l.Pairwise λa b=>a.tm<b.tm
structure CA(o:Op):Prop where
 hh:o.h=0\/o.h=5\/o.h=15\/o.h=6
 t1:1<=o.tm
 t2:o.tm<=1000
 n1:1<=o.n
 n2:o.n<=2000
 dg:DG o.d
structure Hist(os:j_):Prop where
 ch:∀h,CC gl_
 op:∀o∈os,CA o
def CC.nil:CC []:=#[λi o e=>by simp at e,jQ!]
def CC.snoc{o:Op}(h:CC l)(e:o.n=(K!:δ)+1)(ht:∀x∈l,x.tm<o.tm):CC (l++[o]):=by
 exact#[λi x hx=>?_,?_]
 .obtain c|c:=PR i K!
  .rw[OJ c]at hx;exact h.num i x hx
  .rw[MZ c]at hx;obtain z|z:=Nat.eq_zero_or_pos (i - K!)
   .rw[z]at hx;simp at hx;subst hx;rw[e];omega
   .rw[NQ bf_]at hx;rcases hx
 .rw[SX];exact#[h.tim,UC _ _,λa ha b J=>by rw[l3_];exact ht a ha]
def eY:hs (a++b) h=hs a h++hs b h:=by delta hs;rw[QM]
def mO:hs [o] h=if o.h=h then[o]else[]:=by
 delta hs;by_cases c:o.h=h
 .rw[KQ c,NM sw_];rfl
 .rw[LB c,NS sw_];rfl
def jH{os:j_}:o∈hs os h↔o∈os/\o.h=h:=by delta hs;rw[MX];simp
def Hist.nil:Hist []:=#[λh=>CC.nil,λo ho=>by exact(KN ho).elim]
def Hist.snoc{os:j_}{o:Op}(h:Hist os)(hf:CA o)(e:o.n=((hs os o.h).length:δ)+1)(ht:∀x∈os,x.h=o.h->x.tm<o.tm):Hist (os++[o]):=by
 exact#[λk=>?_,aA!]
 .rw[eY,mO];by_cases c:o.h=k
  .rw[KQ c];subst c;exact(h.ch _).snoc e λx hx=>ht x (jH.mp hx).1 (jH.mp hx).2
  .rw[LB c,LW];exact h.ch k
 .obtain z|z:=KS.mp hx
  .exact h.op x z
  .rw[aI_];exact hf
structure HW(i:Nat)(os:j_)(c t:m9_):Prop where
 hist:Hist os
 len:aY!=i
 q:∀h,c h=((gl_).length:δ)
 u:∀x∈os,x.tm<=t x.h
 b:∀h,0<=t h/\t h<=3*i
 z:∀x∈os,x.h≠6/\Wi x.d
def CA.ok(h:CA o):Ti o.v:=#[o.h,o.n,o.tm,o.d,χ,by obtain z|z|z|z:=h.hh<;>omega,by obtain z|z|z|z:=h.hh<;>omega,h.n1,h.n2,h.dg]
def oE(os:j_)(h:Int):(gl_).length<=aY!:=NP _ _
def HW.step{os:j_}(hw:HW i os c t)(ha:a=0\/a=5\/a=15)(h0:0<=m)(hi:i<100)(hd:DG dd)(hz:Wi dd):HW al! sx_ sy_ sy!:=by
 let hc:=hw.q a;let J:=hw.b a;let hl:=oE os a;rw[hw.len]at hl;exact#[hw.hist.snoc #[by show a=0\/a=5\/a=15\/a=6;omega,by show 1<=t a+1+m / 3%3;omega,by show t a+1+m / 3%3<=1000;omega,by show 1<=c a+1;omega,by show c a+1<=2000;omega,hd] (by show c a+1=((hs os a).length:δ)+1;omega) (λx hx (hh:x.h=a)=>by let:=hw.u x hx;rw[hh]at this;show x.tm<t a+1+m / 3%3;omega),by rw[KO,hw.len];rfl,f3!,aA!,f3!,aA!]
 .show(if h=a then c a+1 else c h)=_;rw[eY,mO,KO];by_cases e:h=a
  .rw[KQ e,e,y_,hc];rfl
  .rw[LB e,LB (MD e),hw.q h];rfl
 .show _<=if x.h=a then t a+1+m / 3%3 else t x.h
  obtain z|z:=KS.mp hx
  .let:=hw.u x z;split
   .rename_i e;rw[e]at this;omega
   .show"#;"
  .rw[aI_,y_];exact OP _
 .show 0<=sA_/\sA_<=_;let:=hw.b h;split<;>omega
 .obtain z|z:=KS.mp hx
  .exact hw.z x z
  .rw[aI_];exact#[λe=>by let e:a=6:=e;omega,hz]
def b7y(hv:fv ρ=ψ d)(hx:sB!)(hl:qf_)(hk:Jz ds.length j=ψ k):Ue i fx fv ρ=Fw! yZ_:=by delta Ue;rw[hv,hx,hl];show(pl_).map _=_;rw[hk];rfl
def a2e(hx:sB!)(hl:qf_)(h:Ff ds j=ψ d):Kr i fx ρ=ψ d:=by delta Kr;rw[hx,hl];exact h
def b2v(h:bY!)(n:Dj d=τ):Ks f ρ=ψ d:=by delta Ks;rw[h];show(if Dj d=τ then _ else _)=_;rw[KQ n]
def b9u:Ej (.int 7) aH_=BA! (7*j):=χ
def b6f{os cs ts:d!}(em:Hm! (base+7*j)=ψ bG!)(ed:Jg [cq!,.int (base+7*j+1),.lst os,.int 5]=ψ dd)(nd:Dj dd=τ)(z:m%3=kk)
  (hc:Ff cs kk=ψ ld_)(ht:Ff ts kk=BA! t)(kc:Jz cs.length kk=ψ k)(kt:Jz ts.length kk=ψ k)(cy:Ff sD! kk=BA! H!)(ht':Ff sG! kk=ψ sE_)
  (ha:Ff [D.int 0,.int 5,gm_] kk=BA! a)(J:aY!<big):
  Ry [ba!,cs_,ψ N,o8! os,o8! cs,o8! ts,ψ aH_,x7,x8,x9]=Fw! [ba!,cs_,ψ N,ψ (.lst (os++[.tup [.int a,.int H!,.int (t+1+m / 3%3),dd]])),ψ (.lst sD!),ψ (.lst sG!),ψ aH_,ψ bG!,ψ (.int kk),ψ dd]:=by
 exact(LL! (iK (Kr! sI_) em)).trans ?_;exact(LL! (Kl_ (Mh! fT_ (by rw[z])))).trans ?_;exact Ls_ (b7y (L5! hc) χ χ kc);exact Ls_ (b7y (aT (L5! ht) (Ma_ et!) χ) χ χ kt);exact Ls_ (fX (b2v (iK (bI χ (bI (Fh_ sI_) gn_)) ed) nd));exact a3d (kJ (bI (Kl_ ha) (bI (El_ a2e cy) (bI (El_ a2e ht') ev!))) χ) χ J
abbrev wE(ns:s_)(base:Int)(N:δ)(os:j_)(c t:m9_)(x6 x7 x8 x9:G_):Ag:=[ba!,cs_,ψ (.int N),ψ (.lst aw!),ψ (GX! c),ψ (GX! t),x6,x7,x8,x9]
def d4p{os:j_}(hw:HW j os c t)(hj:j<100):∃jx c' t' y7 y8 y9,Ry mN_=ψ sN_/\HW I_ jx c' t':=by
 let ho:∀o∈os.map Op.v,Ti o:=λo ho=>by let#[x,hx,rfl]:=LC.mp ho;exact(hw.hist.op x hx).ok
 let hl:(aw!).length<=100:=by rw[KP,hw.len];exact QX hj
 let J:(aw!).length<big:=NK hl a_;let#[m,em,m0,_]:=gD ns;let#[dd,ed,hd,hz]:=c7t ns (most:=5) ho (λo ho n tm d e=>by let#[x,hx,rfl]:=LC.mp ho;simp![Op.v,D.tup.injEq,NX,D.int.injEq]at e;exact(hw.z x hx).1 e.1) hl a_ a_;let nd:=a9u hd;let go:∀{a k},(a=0\/a=5\/a=15)->Ry mN_=Fw! k->(∃y7 y8 y9,k=wE ns base N sx_ sy_ sy! mO_ y7 y8 y9)->∃jx c' t' y7 y8 y9,Ry mN_=ψ sN_/\HW I_ jx c' t':=λha e ⟨y7,y8,y9,ek⟩=>#[_,_,_,y7,y8,y9,ek▸e,hw.step ha m0 hj hd hz];let XH:m%3=0\/m%3=1\/m%3=2:=by omega
 obtain z|z|z:=XH
 .exact go aw_ mP! mP_
 .exact go io! mP! mP_
 .exact go (.inr k4_) mP! mP_
def b3o(ns:s_)(base:Int)(N:δ)(hN:N<=100):∃os:List Op,Ko [cq!,.int base,.int N]=o8! aw!/\aY!=N/\Hist os/\∀x∈os,x.tm<=3*N/\x.h≠6/\Wi x.d:=by
 let#[ρ',e,os,c,t,x6,x7,x8,x9,rfl,hw]:=vW (bnd:=Bu 6) (q:=Ry) (λi ρ=>∃os c t x6 x7 x8 x9,ρ=wE ns base N os c t x6 x7 x8 x9/\HW i os c t) fW! 0 (wE ns base N [] (λ_=>0) (λ_=>0) υ υ υ υ) #[[],_,_,υ,υ,υ,υ,χ,.nil,χ,cC!,λx h=>f3_,λ_=>by simp,λx h=>f3_] (by
  rintro j d ρ hd ⟨os,c,t,x6,x7,x8,x9,rfl,hw⟩;let#[av,rfl]:=b2c hd;rw[TJ]at hw ⊢;let hj:j<100:=by omega
  let#[jx,c',t',y7,y8,y9,e,hw']:=d4p (ns:=ns) (base:=base) (N:=N) (x7:=x7) (x8:=x8) (x9:=x9) hw hj;exact#[_,_,χ,e,jx,c',t',_,_,_,_,χ,hw'])
 rw[show 0+(fW!).length=N from(TJ _).trans ((KP _).trans NI)]at hw;exact#[os,sD χ ((ln_).trans (Mh! ln_ (L0! (a9n (a7u χ a!) e)))),hw.len,hw.hist,λx hx=>#[by let:=hw.u x hx;let:=(hw.b x.h).2;omega,hw.z x hx]]
def d5p(nd:t.nd)(h:CA o):Cb t [o.v]=ψ x!:=by
 let a1:0<=o.h/\o.h<16:=by obtain z|z|z|z:=h.hh<;>omega
 exact d8c nd a1.1 a1.2 h.n1 h.n2 h.t1 h.t2 h.dg
def b9q(hf:∀a b,f a=f b->a.h=b.h):∀(os:j_),(∀h,((gl_).map f).Nodup)->(os.map f).Nodup
 |[],_=>OB
 |o::os,H=>by
  let sub:∀h,(gl_).Sublist (hs if_ h):=λh=>by delta hs;exact(List.sublist_cons_self o os).filter _
  rw[LA,LO];exact#[bJ_,b9q hf os λh=>((sub h).map f).nodup (H h)];let#[x,hx,e]:=LC.mp z;let hh:=hf _ _ e;let H1:=H o.h;let:hs if_ o.h=o::hs os o.h:=by delta hs;rw[NM c_]
  rw[this,LA,LO]at H1;exact H1.1 (LC.mpr #[x,jH.mpr #[hx,hh],e])
def Hist.names{os:j_}(h:Hist os):(lK_).Nodup:=by
 exact b9q sP_ os λk=>?_
 .show"#J";exact e.1
 .let hn:=(h.ch k).num;rw[RO,VL,RX];intro i j hi hj ZM e;let e1:=hn i _ (LL hi);let e2:=hn j _ (LL hj);show"#J";omega
def Hist.keys{os:j_}(h:Hist os):(Io! os.map).Nodup:=by
 exact b9q sP_ os λk=>?_
 .simp only[Op.key,Prod.mk.injEq]at e;exact e.2
 .rw[RO,VL];exact(h.ch k).tim.imp λ{a b} oo e=>?_;simp![Op.key,Prod.mk.injEq]at e;omega
def a1e(h:cl!)(hd:Go d<=40):Do d d=ψ I!:=by delta Do;rw[h,qE d h,LM hd];rfl
def a8f(o:Op):GV_ cC_=ψ ij_:=by rfl
def nF:∀{ds:d!},(∀d∈ds,Az d=τ)->Ca ds=τ
 |[],_=>by rfl
 |d::ds,h=>by
  delta Ca;rw[h d KM,nF λx hx=>h x a9_];rfl
def qH:∀{ds:d!},(∀d∈ds,Go d<=n)->De ds<=n
 |[],_=>by simp[De]
 |d::ds,h=>by
  delta De;let Y:=h d KM;let h2:=qH λx hx=>h x (KI d hx);omega
def b1s{o:Op}(h:ia_):Az o.v=τ/\Go o.v<=5:=by
 let#[Y,h2]:=d6w h;show"#<"
 .show Ca lD_=τ;exact nF λd hd=>?_;simp![KR,KN,SS]at hd;obtain rfl|rfl|rfl|rfl:=hd
  .rfl
  .rfl
  .rfl
  .exact Y
 .show De lD_+1<=5;let:De lD_<=2:=qH λd hd=>by
   simp![KR,KN,SS]at hd;obtain rfl|rfl|rfl|rfl:=hd
   .simp[Go]
   .simp[Go]
   .simp[Go]
   .exact h2
  omega
nonrec def hF(yy:Int)(ta wa:sS!)(out:D):μ cm_:=[("ours",.int yy),("taken",.fn ta),("waiting",.fn wa),("outline",out)]
def hF1:Fu! sT! db_=ψ (D.int yy):=by kernel_rfl
def hF2:Fu! sT_ db_=Fz! ta:=by kernel_rfl
def hF3:Fu! sU! db_=Fz! wa:=by kernel_rfl
def hF4:Fu! mT! db_=ψ out:=by kernel_rfl
def hM1:zQ_ "have" db_=none:=by kernel_rfl
def hP1:Hc sT! mT_ []=[eU_]:=by kernel_rfl
def hP2:Hc sT_ (.fn ta) [eU_]=iS!:=by kernel_rfl
def hP3:Hc sU! (.fn wa) iS!=iT!:=by kernel_rfl
def hP4:Hc mT! .non iT!=hF yy ta wa .non:=by kernel_rfl
def hP5:Hc mT! o2 db_=hF yy ta wa o2:=by kernel_rfl
structure Bp(t:Bo)(M:Mh)(yy:Int)(a ta wa:sS!)(out:D)(S:j_)(kl:s_)(ca:bv!):Prop where
 ob:M a=ψ (Ip_ db_)
 tk:∃ep,M ta=Lg! go_
 wt:M wa=ψ aQ_
 cl:∀h∈kl,M gp!=Ky! eV! Op.v
 nk:kl.Nodup
 mem:∀h,h∈kl↔hs S h≠[]
 cw:∀h∈kl,ca h≠wa
 ci:∀h∈kl,∀h'∈kl,ca h=ca h'->h=h'
 len:iU_<=A!
def Tr(a ta:sS!)(kl:s_)(ca:bv!)(b:sS!):Prop:=b=a\/b=ta\/∃h∈kl,b=ca h
def IV(a ta:sS!)(M:Mh)(kl:s_)(ca:bv!)(M':Mh)(ao:s_)(ar:bv!):Prop:=∀b,M b≠υ->¬EQ_ a b->M' b=M b/\¬Tr a ta ao ar b
def gK{g:Int->D}:∀{kl:s_} {x:Int},kget (kl.map λh=>(D.int h,g h)) (.int x)=if x∈kl then ψ (g x)else υ
 |[],x=>by rfl
 |k::kl,x=>by
  rw[LA];delta kget;by_cases e:k=x
  .subst e;simp
  .rw[LB λz=>e mV_,gK];simp[MD e]
def Bp.nob(hA:al_)(hm:HE_ db_ m=υ):Cz t.B5 m M dq_:=by show(match M a with|some (.obj C' fs)=>C'=t.B5/\fs.lookup m=υ|_=>False);rw[hA.ob];exact#[χ,hm]
def Bp.nol(hA:al_)(hh:h∉kl):hs S h=[]:=QO λz=>hh ((mW!).mpr z)
def Bp.keep(hA:al_)(k:mW_):Km! M' out:=by let#[ep,ht]:=hA.tk;exact{hA with ob:=(k a gp_).trans hA.ob,tk:=#[ep,(k ta gq!).trans ht],wt:=(k wa iV!).trans hA.wt,cl:=λh hh=>(k _ iV_).trans iW!}
def tR(hA:al_):Th gR_ [aK!,aP_] M mX!:=λK hK=>by
 show"#'";exact j!;by_cases c:h∈kl
 .let hl:Jw M [.fn gp!]=ψ mX!:=by
   show((Qz M (.fn gp!)).map λxs=>D.int h_)=_;simp![Qz,Iq! c,Option.map_some,KP]
  exact FI! KQ
 .let hl:Jw M [.lst []]=ψ mX!:=by rw[hA.nol c];rfl
  exact FI! LB
def a0h{o:Op}(hA:al_):F5_ Ex lc_ (FD_ (o.n<=eV_)):=λK hK=>by
 exact j!;exact dF (eG mZ! s3_ χ) hK
def a9f{o:Op}(hA:al_):F5_ Gx lc_ (.bl (o.n==eV_+1)):=λK hK=>by
 exact j!;exact dF (eG mZ! (eG s3_ e! χ) iX_) hK
nonrec def lt(S:j_)(h:Int):Int:=((eV!).getLast?.map Op.tm).getD 0
def pX(h:xs.getLast?=ψ v):Ff xs (-1)=ψ v:=by
 let hl:0<h_:=by cases xs with|nil=>cases h|cons a l=>simp
 show"#0";rw[d3_,ad!];show xs[((-1:Int)+h_).toNat]?=_;rw[show((-1:Int)+xs.length).toNat=xs.length - 1 by omega,<-List.getLast?_eq_getElem?];exact h
def pT(hA:al_):F5_ Dz [aK!,aP_] (.int (lt S h)):=λK hK=>by
 show"#'";exact j!;let hv:=pB (eG (g:=λ_=>Au) (ρ:=[y!,iY!]) (gX mZ_ mY_ s5! (tR hA)) (aP (f:=fC P!) χ) iX_);by_cases c:hs S h=[]
 .rw[c]at hv;exact kM hv (dF e! ?_);delta lt at hK;rw[c]at hK;exact hK
 .let hl:=SE.mpr c;rw[show((sY_:Int)==0)=θ from by rw[NN];omega]at hv;exact fA hv ?_;let hk:=(mW!).mpr c;obtain⟨o,ho⟩:∃o,(hs S h).getLast?=ψ o:=by cases e:(eV!).getLast? with|some o=>exact#[o,χ]|none=>exact Ei_ (TQ.mp e) c
  let i1:=F8! ht (by rw[gK,bg_]);let i2:Bl M (.fn gp!) iY_=ψ o.v:=by
   simp![Bl,Iq! hk];exact pX (by rw[List.getLast?_map,ho];rfl)
  let e:lt S h=o.tm:=by delta lt;rw[ho];rfl
  rw[e]at hK;exact dF (eG (eG (eG gq_ e! i1) e! i2) e! (a8f o)) hK
def yY(hy:fy ρ=ψ mT_)(hR:∀a ta wa M',Eh! Bp M' .non [] [] (λ_=>a)->R dq_ M'):KS! (EV! fy) ρ M R:=by
 delta Fv Ab Ad;rw[cD hy];exact#[χ,λa ha=>j!];let L:HL M (mup M a (.obj t.B5 [])) [s7!]:=HL.new qY_ ha;exact lQ ?_;rw[aD_];exact gL χ (L.cell s7! c_) a_ hP1 ?_
 replace L:=L.put (u:=[]) (c:=Ip_ [eU_])
 exact lQ λta hta=>?_
 replace L:=L.new (c:=ie_) hta
 exact Fp_ [eU_] CU! hP2 ?_
 replace L:=L.put (u:=[_]) (c:=Ip_ iS!)
 exact lQ #[T!,λwa hwa=>?_]
 replace L:=L.new (c:=.lst []) hwa
 exact Fp_ iS! CU_ hP3 ?_
 replace L:=L.put (u:=[_,_]) (c:=Ip_ iT!)
 exact oV ?_;rw[aD_];exact Fp_ iT! CV_ hP4 ?_
 replace L:=L.put (c:=Ip_ s8_)
 exact#[χ,hR a ta wa _ #[L.cell (a,.obj t.B5 s8_) c_,#[0,L.cell (ta,.dct [] 0) c_],L.cell (wa,.lst []) c_,m1_,OB,λh=>by simp[hs],m1_,m1_,LJ _]]
def cV(hp:bJ!):Dd M u!=ψ lv_:=by simp[Dd,hp]
def iU(hp:q3_):Gq M u!=ψ (p,xs):=by simp[Gq,hp]
def JC(fa:p!)(ρ:Ag)(d:D)(M:Mh)(R:Y!):Prop:=Ih! M λ_=>wl fa ρ M λv M2=>Ih! M2 λq=>f0!<big/\Fl! BK_
def b0t(h:fo ρ M λd M1=>JC fa ρ d M1 λ_ M2=>q ρ M2 R):ER! (Bb (Em fo ie!)) q:=h
def wZ(hp:q3_)(hf:f ρ=ψ v)(hl:h_<big)(k:Fl! (mup M p (.lst (xs++[v])))):JC f ρ u! M R:=by exact eL ?_;rw[cD hf,iU hp];exact eL #[hl,k]
def c4o(ho:lN!)(Y:mk!)(hp:bJ!)(hk:aX_)(hl:c2!)
  (old:∀q v,M q=υ->Fx! y=ψ v->K v gu!)(new:∀q,M q=υ->Fx! y=υ->K bt! (mup gu! p (.dct (Bq h1 y bt!) cp_))):Iy fo ie! bU! ρ M K:=by
 exact ho _ ?_;rw[cV hp];exact eL ?_;rw[cD Y];exact#[T!,c4!];let pq:=dH m3! hq;show H0! gu! u! _;rw[cV (Ko! pq hp)];exact eL ?_;rw[hk];exact eL #[hl,?_];cases e:Fx! y with
 |some v=>exact old q v hq e
 |none=>exact new q hq e
def a0e(hA:al_)(hS:bw!)(hR:∀M' ao ar,Kp_ dS_->Jv! a->Fl! M'):Kn t lc_ M R:=by
 let#[ep,ht]:=hA.tk;exact j!;exact b0t ?_;let i0:=lT o;let hkl:iU_<64:=NK hA.len hS;let uh:(dR_).length<64:=NK (oE S o.h) hS;let at_:a≠ta:=λz=>by let:=hA.ob;rw[z,ht]at this;rcases this
 let aw:a≠wa:=λz=>by let:=hA.ob;rw[z,hA.wt]at this;rcases this
 let tw:ta≠wa:=λz=>by rw[z,hA.wt]at ht;rcases ht
 let cA:∀h∈kl,ca h≠a:=λh hh z=>by let:=Iq! hh;rw[z,hA.ob]at this;rcases this
 let cT:∀h∈kl,ca h≠ta:=λh hh z=>by let:=Iq! hh;rw[z,ht]at this;rcases this
 exact c4o gq_ i0 ht χ c6! (λq v hq e=>?_) (λq hq e=>?_)
 .let aq:=dH gp_ hq;let tq:=dH gq! hq;let wq:=dH iV! hq;let cq:∀h∈kl,ca h≠q:=λh hh=>dH iV_ hq;rw[gK]at e;let c:o.h∈kl:=by
   by_cases c:o.h∈kl
   .exact c
   .rw[LB c]at e;rcases e
  rw[KQ c]at e;rcases e;exact wZ ((mup_ne (cq _ c)).trans (hA.cl _ c)) rfl c6! ?_;generalize e2:mup gu! (ca o.h) te_=M2;let m2:∀b,b≠q->b≠ca o.h->M2 b=M b:=λb Y h2=>by rw[<-e2,hB!,fG!]
  let m2c:M2 (ca o.h)=ψ te_:=by rw[<-e2];exact mup_same
  exact oV ?_;rw[aD_];exact Gr! (MD (cA _ c));exact hR _ kl ca #[mup_same,#[ep,?_],?_,m4!,hA.nk,f3!,hA.cw,hA.ci,?_] λb J ho=>KO_ (Er_ #[_,c,z]) ho
  .rw[th_,m2 ta tq (MD (cT _ c))];exact ht
  .rw[ti_,m2 wa wq (MD (hA.cw _ c))];exact hA.wt
  .rw[Eo! (cA h hh),eY,mO];by_cases z:o.h=h
   .rw[KQ z,<-z,m2c,LG];rfl
   .rw[LB z,LW,m2 _ (cq h hh) λy=>z (hA.ci _ hh _ c y).symm];exact Iq! hh
  .rw[eY,mO];by_cases z:o.h=h
   .rw[KQ z];subst z;simp[c]
   .rw[LB z,LW];exact hA.mem h
  .rw[KO];let:=hA.len;omega
 .let aq:=dH gp_ hq;let tq:=dH gq! hq;let wq:=dH iV! hq;let cq:∀h∈kl,ca h≠q:=λh hh=>dH iV_ hq;rw[gK]at e;let c:o.h∉kl:=by
   by_cases c:o.h∈kl
   .rw[KQ c]at e;rcases e
   .exact c
  let r9:Bq go_ dH! bt!=go_++tj_:=kE (λz=>by
   rw[MH]at z;let#[x,hx,ex]:=LC.mp z;exact c (by rw[<-D.int.inj ex];exact hx))
  rw[r9];exact wZ ((mup_ne (MD tq)).trans mup_same) rfl a_ ?_;generalize e2:mup (mup gu! ta tk_) q (.lst ([]++[o.v]))=M2;let m2:∀b,b≠q->b≠ta->M2 b=M b:=λb Y h2=>by rw[<-e2,fG!,hB!,fG!]
  let m2q:M2 q=o8! [o.v]:=by rw[<-e2];exact mup_same
  let m2t:M2 ta=ψ tk_:=by rw[<-e2,Eo! tq];exact mup_same
  exact oV ?_;rw[aD_];exact Gr! at_;let nc:∀h∈kl,h≠o.h:=λh hh z=>c (z▸hh);let XA:=hA.nol c;exact hR _ (kl++[o.h]) (λh=>if h=o.h then q else ca h) #[mup_same,#[ep+1,?_],?_,m4!,?_,f3!,m4!,λh hh h' q8 ee=>?_,?_] λb J ho=>KO_ (.inr cM_) bJ_
  .rw[th_,m2t,LG];congr 3
   .apply NC;intro h hh;rw[LB (nc h hh)]
   .show _=[(D.int o.h,D.fn (if o.h=o.h then q else ca o.h))];rw[y_]
  .rw[ti_,m2 wa wq (MD tw)];exact hA.wt
  .show mup M2 a _ i2!=_;by_cases z:h=o.h
   .rw[KQ z,Lq! aq,m2q,z,eY,mO,y_,XA];rfl
   .let q8:h∈kl:=(m6_).resolve_right λy=>z i2_;rw[LB z,Eo! (cA h q8),m2 _ (cq h q8) (cT h q8),eY,mO,LB (MD z),LW];exact Iq! q8
  .rw[MB];exact#[hA.nk,rV_,λx hx y hy=>by rw[LF.mp hy];exact nc x hx]
  .rw[eY,mO,KS,LF];by_cases z:o.h=h
   .rw[KQ z];simp[z]
   .rw[LB z,LW,<-hA.mem h];simp[MD z]
  .show i2!≠wa;by_cases z:h=o.h
   .rw[KQ z];exact MD wq
   .rw[LB z];exact hA.cw h ((m6_).resolve_right λy=>z i2_)
  .let g:∀x,x∈kl++[o.h]->x≠o.h->x∈kl:=λx hx z=>(o9_).resolve_right λy=>z i2_;let ui:i2!=(if h'=o.h then q else ca h'):=ee;by_cases z:h=o.h
   .by_cases z':h'=o.h
    .rw[z,z']
    .rw[KQ z,LB z']at ui;exact Ei_ ui.symm (cq h' (g h' q8 z'))
   .by_cases z':h'=o.h
    .rw[LB z,KQ z']at ui;exact Ei_ ui (cq h (g h hh z))
    .rw[LB z,LB z']at ui;exact hA.ci h (g h hh z) h' (g h' q8 z') ui
  .rw[KO,KO];let:=hA.len;simp;omega
  .obtain z|z|⟨h,hh,e⟩:=z
   .exact ho cM_
   .exact ho (.inr cM_)
   .let e:b=i2!:=e;by_cases z:h=o.h
    .rw[KQ z]at e;exact dH J hq e
    .rw[LB z]at e;exact ho (Er_ #[h,(m6_).resolve_right λy=>z i2_,e])
def a8a(h:Eg! f u!)(hp:M p=ψ aQ_):Eg! (Bf nl ix (Br f) bnd ft fe) aQ_:=λK hK=>by
 exact h _ ?_;show(match M p with|some (.lst xs)=>_|_=>False);rw[hp];exact#[ML _,hp,hK]
def b3v(h:ii!)(k:f1!):ER! (Fj ft q) q2:=by exact fG_;exact h _ ?_;rw[aW_];exact k
def qQ(hA:al_):F5_ Fy dT_ P!:=λK hK=>by
 exact j!;exact eO e! ?_;exact eO (a8a (Iq_ hF3) hA.wt) ?_;exact b3v gw_ ?_;exact dF e! hK
def a7x{o:Op}(hA:al_)(hS:bw!)(hn:o.n=eV_+1)(hR:∀M' ao ar,Kp_ dS_->R bi! M'):Im t lc_ M R:=by
 exact j!;let hx:Od vr_ [y!,T_,υ] M true:=by
  let e:(o.n==eV_+1)=true:=by rw[hn];exact NH _
  let:=pB (fZ (ρ:=[y!,T_,υ]) mZ_ s5! (a9f hA));rw[e]at this;show"#;"
 exact kM hx ?_;exact iA (El_ qL (a0e hA hS λM' ao ar iu _=>?_));exact dF (eG e! (lS e! (qQ iu)) χ) tr_
def Hist.next{os:j_}(h:Hist (S++o::os)):o.n=eV_+1:=by
 let:=(h.ch o.h).num (dR_).length o;rw[eY]at this;let e:hs if_ o.h=o::hs os o.h:=by delta hs;rw[NM c_]
 rw[e]at this;exact this (by rw[MZ v!];simp)
def HY(t:Bo):WS:=Rz 2 vt_
def b0j:∀(os:j_) (x1:D) (k:Int) (y:G_) (M:Mh) (out:D) (S:j_) (kl:s_) (ca:bv!) (R:p_),Km! M out->Hist (S++os)->(S++os).length<64->
  (∀M' ao ar yc y',Eh! Bp M' yc (S++os) ao ar->((out=.non->yc=.non)/\(os≠[]->yc=.non))->Kx! [y!,ap_,ψ (.int (k+(aY!:δ))),y'])->
  Fe az_ Q_ (HY t) aw! [y!,ap_,ψ bO_,y] M R
 |[],x1,k,y,M,out,S,kl,ca,R,hA,_,_,hR=>⟨ο,by
  let:=hR M kl ca out y (zG_ LW hA) #[id,λz=>ξ χ z];simpa using this⟩
 |o::os,x1,k,y,M,out,S,kl,ca,R,hA,hH,hl,hR=>by
  exact aB!;show EH! Im n5! [y!,ap_,ψ bO_,T_] M _;let s9:A!<64:=by rw[KO]at hl;omega
  exact El_ qL (a7x hA s9 hH.next λM' ao ar iu=>?_);let e:S++o::os=S++[o]++os:=by simp
  exact b0j os x1 R_ ex_ M' .non dS_ ao ar R iu (Ev! e hH) tu! λM2 v6 v7 out2 y2 h2 hz=>?_;let h3:=hR M2 v6 v7 out2 y2 (zG_ e h2) #[tu_,tu_];let ek:k+((if_).length:δ)=k+1+(aY!:δ):=by rw[KW];omega
  rw[ek]at h3;exact h3
def a7p(h0:lH_)(Y:mk!)(h2:fb ρ=ψ z)(hp:bJ!)(hk:aX_)(hl:c2!)(hn:y∉h1.map b_)(hK:K z (G2_ (.dct (h1++[(y,z)]) cp_))):Ju_ Iy:=by delta Iy;rw[cD h0,cV hp];exact eL ?_;rw[cD Y,dK!,cV hp,hk];exact eL (eL #[hl,?_]);rw[pV hn,kE hn];exact hK
def b9n(o:Op):Ah o.nm P!=ψ dH!:=by rfl
def JO(t:Bo):WS:=Af gQ!
 (Af vf_
 vg_)
structure Nx(yy:Int)(S:j_)(o:Op):Prop where
 f:CA o
 y:o.h≠yy
 n:eV_<o.n
 t:lt S o.h<o.tm
def b1v{M0:Mh}(hA:tx!)(h0:M0 p=υ):∀(os dn:j_) (x1:D) (y3 y4 y5:G_) (ep:δ) (M:Mh) (R:p_),tx_->(∀o∈os,Nx yy S o)->((dn++os).map Op.nm).Nodup->(dn++os).length<64->M p=Lg! ty!->
  (∀M' bx XJ XO uj,M' p=CF_ ((dn++os).map λo=>ne!) bx->ty_->Kx! [y!,ap_,N!,XJ,XO,uj])->
  Fe az_ Q_ (JO t) aw! [y!,ap_,N!,y3,y4,y5] M R
 |[],dn,x1,y3,y4,y5,ep,M,R,fr,_,_,_,hp,hR=>#[ο,hR M ep y3 y4 y5 (zG_ LW hp) fr]
 |o::os,dn,x1,y3,y4,y5,ep,M,R,fr,hf,nd,hl,hp,hR=>by
  exact aB!;let ho:=hf o KM;let iu:=Jm! fr;let e:dn++o::os=dn++[o]++os:=by simp
  let es:=c8u o;exact eO (aP es) ?_;let Y:JW_ vd_ ne_:=by
   let:=pB (fZ (ρ:=ne_) mZ_ (aP (f:=Aa 3) χ) (a0h iu));rw[LD (by let:=ho.n;omega)]at this;show"#;"
  let h2:JW_ ve_ ne_:=by
   exact pB (eG (aP (b9n o)) (fL e! iu.ob hF1) ?_);let:(o.h==yy)=false:=NN.mpr ho.y;rw[qD,this]
  exact lN Y (lN h2 ?_);let hnn:o.nm∉Ej_ ty!:=λz=>by
   rw[MH]at z;rw[LG,MB]at nd;exact nd.2.2 o.nm z o.nm c_ χ
  exact E7_ a7p χ hp χ (by rw[KP];rw[KO]at hl;delta big;omega) hnn ?_;let h3:fT vg! tB!=ψ false:=by
   let#[n1,n2]:=b1s ho.f.dg;let:f2 Do J! Q! tB!=ψ I!:=a1e n1 a!;show"#:"
  exact lN (dS h3) ?_;exact b1v hA h0 os (dn++[o]) x1 ex_ (ψ o.nm) ex_ cp_ _ R tB_ (λx hx=>hf x a9_) (Ev! e nd) tu! (by rw[mup_same,LG];rfl) λM' bx z3 z4 z5 g1 g2=>?_;exact hR M' bx z3 z4 z5 (zG_ e g1) g2
def a8q{ms:j_}(hA:al_)(hN:tC_)(nn:(gy!).Nodup)(hl:dG_<64)
  (hR:∀M' p ep,M p=υ->M' p=Lg! gy_->id_->R u! M'):Dp t i6! M R:=by
 exact j!;intro p hp;let fr:∀b,M b≠υ->G2_ ev_ b=M b:=λb J=>Eo! nh!;let du:=Jm! fr;delta Af Cu Br;let xo:Li ew! (.fn wa) ng_=ψ ng_:=by
  simp![Li,du.wt];rw[KQ (by rw[KP];delta big;simp;omega)];rfl
 exact H6! (fL e! du.ob hF3) xo;exact b1v hA hp ms [] _ υ υ υ 0 _ _ fr hN (Ep! nn) iL! mup_same λM' bx y3 y4 y5 g1 g2=>dF e! (hR M' p bx hp g1 g2)
def KA(t:Bo):WS:=Af vi_
 (Af vm!
 vl_)
def d5i(h0:lH_)(Y:fy!)(h2:f ρ=ψ v)(hp:bJ!)(hk:aX_)(hl:c2!)(k':R Z! f1_):Ix_ cZ_ f R:=by delta Bt;rw[dK!,cD h0,cD Y,iY hp hk hl];exact k'
def b3e{M0:Mh}(hA:tx!)(io:M0 p=LC! h1)(h0:M0 q=υ):∀(qs:j_) (pb:q!) (ep:δ) (y3 y4:G_) (M:Mh) (R:p_),tx_->(∀o∈qs,kget h1 o.nm=ψ o.v/\Nx yy S o)->M q=Lg! pb->
  qs.Pairwise (λx y=>x.h=y.h->x.tm<y.tm)->(∀o∈qs,∀v,kget pb dH!=ψ v->∃m,v=.int m/\m<o.tm)->pb.length+qs.length<1000->
  (∀M' XJ XO,ty_->Kx! [y!,N!,b8!,XJ,XO])->
  Fe az_ Q_ (KA t) (qs.map Op.nm) [y!,N!,b8!,y3,y4] M R
 |[],pb,ep,y3,y4,M,R,fr,_,_,_,_,_,hR=>#[ο,hR M y3 y4 fr]
 |o::qs,pb,ep,y3,y4,M,R,fr,hk,hq,pw,ht,hl,hR=>by
  exact aB!;let iu:=Jm! fr;let hp:=(fr p (EQ! io)).trans io;let#[hko,ho]:=hk o KM;rw[OG]at pw;dsimp only[List.length_cons]at hl;let i1:=F8! hp hko;let i2:=a8f o;exact eO (eG tH! e! i2) ?_;let ix:=b9n o;obtain⟨m,em,hm⟩:∃m:Int,(kget pb (.int o.h)).getD (.int (lt S o.h))=.int m/\m<o.tm:=by
   cases e:kget pb dH! with
   |none=>exact (F6_ ho.t)
   |some v=>
    let#[m,e1,e2]:=ht o KM v e;exact#[m,e1,e2]
  let hc:JW_ vk_ [y!,N!,b8!,lG_,ψ ij_]:=by
   exact pB (eG e! (pA e! (aP ix) (fZ e! (aP ix) (pT iu)) hq χ em) ?_);show KA_ (o.tm<=m)=_;rw[LD a!]
  exact fA hc ?_;exact d5i χ ix χ hq χ an! ?_;exact b3e hA io h0 qs _ _ (ψ o.nm) (ψ ij_) _ R tB_ tJ_ mup_same pw.2 (λx hx v hv=>?_) (by let:=Jd! pb dH! ij_;omega) hR;by_cases c:o.h=x.h
  .rw[<-c,jR]at hv;rcases hv;exact#[_,χ,pw.1 x hx c]
  .rw[mL λz=>c mV_]at hv;exact ht x a9_ v hv
def b2l{g:Op->D}:∀{l:j_},(f9!).Nodup->∀{o:Op},o∈l->kget (l.map λo=>(f o,g o)) (f o)=ψ (g o)
 |[],_,o,h=>by exact(cX!).elim
 |x::l,nd,o,h=>by
  rw[LA,LO]at nd;rw[LA];delta kget;obtain rfl|h:=KR.mp h
  .rw[y_]
  .rw[LB λz=>nd.1 (by rw[z];exact LK h),b2l nd.2 h]
def Nh(o:Op):Int×Int:=(o.h,o.n)
def Hist.nkeys(h:Hist ms):(ms.map Nh).Nodup:=by let:=h.names;rw[RO,VL]at this ⊢;exact this.imp λ{x y} hxy e=>hxy ?_;simp![Nh,Prod.mk.injEq]at e;show D.tup (Jt_ x.h x.n)=D.tup (Jt_ y.h y.n);rw[e.1,e.2]
def Hist.rise(h:Hist ms)(hx:x∈ms)(hy:y∈ms)(e:x.h=y.h)(hn:x.n<y.n):x.tm<y.tm:=by let ql:x∈hs ms y.h:=JX! #[hx,e];let hy':y∈hs ms y.h:=JX! #[hy,χ];let#[i,hi,ei]:=RQ.mp ql;let#[j,hj,ej]:=RQ.mp hy';let Y:=(nj!).num i x (by rw[LL hi,ei]);let h2:=(nj!).num j y (by rw[LL hj,ej]);let:=RX.mp (nj!).tim i j hi hj a!;rw[ei,ej]at this;exact this
def c0e(h:Je_ Nh=τ)(e:x.h=y.h):x.n<y.n:=by simp![Jv,EA,Nh,e,NR,LV]at h;exact h
def wV(hA:al_)(hH:i7_)(hN:tC_)(hl:dG_<64)(hp:M p=LC! gy_)
  (hR:tM_):Ib t [aK!,.fn p] M R:=by
 exact j!;intro q hq;let qp:=MD (dH m3! hq);let d8:mup M q ev_ p=LC! gy_:=Ko! (MD qp) hp;let nn:(gy!).Nodup:=by let:=i8!;rw[LG,MB]at this;exact this.2.1
 let nk:(ms.map Nh).Nodup:=by let:=hH.nkeys;rw[LG,MB]at this;exact this.2.1
 delta Cu Br;let v8:(i8_).Perm ms:=bU ms;let hsort:Qy (mup M q ev_) lI!=Ky! i8_ Op.nm:=by
  show((Dd (mup M q ev_) u!).bind λq=>(Xc lJ_).map D.lst)=_;rw[cV d8];show(Xc (Ej_ gy_)).map D.lst=_;let e1:Ej_ gy_=ms.map Op.nm:=by rw[MH];rfl
  let e2:(gy!).map kf2=ms.map Nh:=by rw[MH];rfl
  rw[e1];delta Xc;rw[KQ #[OC.mpr λd hd=>by let#[o,_,rfl]:=LC.mp hd;rfl,by rw[e2];exact nk,vQ_]];show ψ (D.lst (Hz kf2 gy!))=_;rw[uE (k:=Nh) (k':=kf2) λo=>χ]
 exact a4e e! hsort _ ?_;exact b3e hA hp hq i8_ [] 0 υ υ _ _ (λb J=>mup_ne gv_) (λo ho=>#[b2l nn tP_,hN o tP_]) mup_same ?_ (λo _ v hv=>by rcases hv) (by rw[v8.length_eq];simp;omega) λM' y3 y4 h=>hR M' h;let c7:Mt Nh i8_:=gS nk;let:=List.Pairwise.and_mem.mp c7;exact this.imp λ{x y} h e=>hH.rise (KY _ (v8.mem_iff.mp h.1)) (KY _ (v8.mem_iff.mp h.2.1)) e (c0e (x:=x) (y:=y) h.2.2 e)
def a6v:∀{ys:d!},(∀y∈ys,y=D.bl τ)->Jo ys=ψ tQ!
 |[],_=>rfl
 |y::ys,h=>by
  rw[h y KM];show(Jo ys).map (true::·)=_;rw[a6v λx hx=>h x a9_];rfl
def oP(h:bY!):Ac f Ae ρ=ψ [d]:=by delta Ac;rw[h];rfl
def zK(h:hV!):f1 g fs ρ=g ds:=by delta f1;rw[h];rfl
def c8m{ms:j_}(nd:t.nd)(hH:∀o∈ms,CA o)(hl:dG_<64):Dy vo! i9!=ψ false:=by
 let#[ys,e,_,hr]:=qI (ρ:=br_) (bnd:=Ar 0) (ft:=qs!) (fe:=HK! (Cb t)) (λy=>y=D.bl τ) gz! (by
  intro d hd;let#[o,ho,rfl]:=LC.mp hd;exact#[[T_],τ,χ,χ,λ_=>#[eT!,d5p nd (hH o ho),χ]])
 let hc:E3! jM! vn! i9!=ψ bT_:=by
  show(El! gz! (KF_ br_ gz!))=_;rw[KQ c6!,e];rfl
 let ha:G4_ Pv n9_ i9!=ψ x!:=by
  let Y:Ac n9_ Ae i9!=ψ [.lst ys]:=by
   exact oP hc
  rw[zK Y];show JV_ ys=_;rw[a6v hr];show Gg! ((tQ!).all id)=_;rw[r3!]
 delta Dy fT;rw[ha];rfl
def Hist.nx(h:i7_)(hy:nl!):∀o∈ms,Nx yy S o:=λo ho=>by
 let hc:=h.ch o.h;rw[eY]at hc;let hm:=JX! nl_;exact#[h.op o nn_,hy o ho,?_,?_]
 .let#[i,hi,e]:=RQ.mp hm;let:=hc.num ((dR_).length+i) o (by rw[MZ a!,Nat.add_sub_cancel_left,LL hi,e]);omega
 .delta lt;cases e:(dR_).getLast? with
  |none=>show(0:Int)<o.tm;let:=(h.op o nn_).t1;omega
  |some x=>exact(SX.mp hc.tim).2.2 x tR! o hm
def rZ{ms:j_}(nd:t.nd)(hA:al_)(hH:i7_)(hy:nl!)(hl:dG_<64)(hR:tM_):Er t i6! M R:=by
 exact j!;exact I2! (c8m nd (λo ho=>hH.op o nn_) hl);exact iA ?_;let hn:∀K:D->Mh->Prop,Dp t i6! M K->EH! Dp cJ! [y!,nk_] M K:=λK h=>El_ qL h;let hN:=hH.nx hy;let nn:(gy!).Nodup:=by let:=i8!;rw[LG,MB]at this;exact this.2.1
 exact hn _ (a8q hA hN nn hl λM1 p ep h0 hp fr=>j!);exact wV (Jm! fr) hH hN hl hp λM' l9=>hR M' λb J=>(l9 b (by rw[fr b J];exact J)).trans e0_
def b0l(nd:t.nd)(hA:jb!)(hH:i7_)(hy:nl!)(hl:(S++ms).length<64)(hR:∀M' ao ar,Kp_ (S++ms)->R (.int (dG_:δ)) M'):Pp t i6! M R:=by
 exact j!;show FT! (HY t) [y!,nk_,υ,υ] M _;let s9:dG_<64:=by rw[KO]at hl;omega
 delta Af;exact iA (El_ qL (rZ nd hA hH hy s9 λM1 fr=>?_));exact aP χ _ ?_;delta Cu Hm;exact b0j ms _ 0 υ M1 .non S kl ca _ (Jm! fr) hH hl λM' ao ar yc y' iu hz=>?_;rw[hz.1 χ]at iu;exact dF (aP (by show ψ (D.int (0+(dG_:δ)))=_;rw[Int.zero_add])) tr_
def c5y(p q:α->Bool)(l:aa_)(h:∀x∈l,¬(p x=τ/\q x=τ)):(l.filter p++l.filter q).Perm tU_:=by
 let Y:=List.filter_append_perm p tU_;rw[PJ,PJ]at Y;let e1:(l.filter λx=>p x&&(p x||q x))=l.filter p:=PB λx _=>by cases p x<;>simp
 let e2:(l.filter λx=>(!p x)&&(p x||q x))=l.filter q:=PB λx hx=>by
  cases c:p x<;>cases d:q x<;>simp_all
 rw[e1,e2]at Y;exact Y
def zJ:∀{kl:s_},kl.Nodup->(tV!).Perm (S.filter λo=>decide (o.h∈kl))
 |[],_=>by simp
 |k::kl,nd=>by
  rw[LO]at nd;exact((zJ nd.2).append_left _).trans ?_;exact(c5y (λo:Op=>decide (o.h=k)) (λo=>decide (o.h∈kl)) S λx _ z=>?_).trans (List.Perm.of_eq (PB λx _=>by simp[KR]));simp![LV]at z;exact nd.1 (z.1▸z.2)
def Bp.perm(hA:al_):(tV!).Perm S:=by exact(zJ hA.nk).trans (List.Perm.of_eq (MY.mpr λo ho=>?_));rw[LV,hA.mem];intro z;let:o∈hs S o.h:=JX! nl_;rw[z]at this;exact(KN this).elim
def HC(t:Bo):WS:=Ym 1 n1_
def b3j(hA:al_)(jp:ck M)(hS:bw!):∀(ks:s_) (σ:j_) (y:G_) (R:p_),(∀h∈ks,h∈kl)->aB_+64*hR_<100000->
  (∀y',EI! [y!,ψ (.lst ((σ++ks.flatMap (hs S)).map Op.v)),y'] M)->
  Fe bi_ ck (HC t) rP! [y!,il!,y] M R
 |[],σ,y,R,_,_,hR=>#[jp,by let:=hR y;simpa using this]
 |h::ks,σ,y,R,hk,hl,hR=>by
  exact#[jp,?_];show"#'";let hh:=hk h KM;show HC t [y!,il!,iY!] M _;show Ym 1 n1_ [y!,il!,iY!] M _;let i1:=F8! ht (by rw[gK,KQ hh]);exact H6! gq_ i1;rw[iU iW!];exact eL ?_;let uh:(eV!).length<64:=NK (oE S h) hS;dsimp only[List.length_cons]at hl;exact tX!;rw[<-LG];exact b3j hA jp hS ks (σ++hs S h) (BA! h) R tJ_ xT! λy'=>?_;let:=hR y';rw[QU,<-LZ]at this;show"#;"
def qP(hA:al_)(hH:aq_)(hS:bw!):F5_ Fa dT_ no!:=λK hK=>by
 let#[ep,ht]:=hA.tk;exact j!;show IY! (HC t) [y!,ψ aQ_,υ] M _;delta Af Cu On;exact Iq_ hF2 _ ?_;rw[cV ht];exact eL ?_;let hkl:iU_<64:=NK hA.len hS;let ek:Ej_ go_=kl.map D.int:=by rw[MH];rfl
 rw[ek];exact b3j hA ht hS kl [] υ _ (λh hh=>hh) bf_ λy'=>?_;let hp:=hA.perm;let nd:=G6_ hH.keys;let he:f1 Cs dZ! [y!,ψ (.lst tZ!),y']=ψ no!:=by
  show Cs [.lst tZ!]=_;rw[LY,mM nd t1!,sB hp nd]
 exact dF (aP he) hK
structure OS(t:Bo)(M:Mh)(a o:sS!)(O:bE_)(W:OW):Prop where
 hob:∃yy ta wa,M a=ψ np!
 out:Fa_ M W 1500
def c5x(hA:jb!)(hH:aq_)(hS:bw!)(hr:JX_ W')
  (hR:∀M' o O',Ir! O' W'->Km! M' ao_->jd_->(∀b,M b≠υ->¬O' b)->R ao_ M'):Eg t dT_ M R:=by
 exact j!;exact kM (pB (eG (Iq_ hF4) e! χ)) ?_;exact oV ?_;let hp:(de!).Perm S:=bU S;let hc:∀K:D->Mh->Prop,Km t [.lst tY_] M K->LA! 1 [y!] M K:=λK h=>by
  show FJ_ (Fa t) [y!] M _;exact lS e! (qP hA hH hS) _ cT!
 exact hc _ (b4j (G6_ hH.keys) (G6_ i8!) t1! (λo ho=>(JY! hp.mem_iff.mp).dg) (by rw[b6w hH.keys];exact hr) λo M1 O' ho hO hw fr=>?_);let fa:=fr a gp_;exact gL χ (fa.1.trans hA.ob) lK! hP5 ?_;let h2:Bm t (mup M1 a np!) o O' W' 1500:=hO.keep λc hc=>mup_ne λz=>fa.2 mp!;let k:∀b,M b≠υ->b≠a->mup M1 a np! b=M b:=λb J hn=>(p0!).trans (e0_).1;show"#'";let uk:={hA with ob:=mup_same,tk:=#[ep,(k ta gq! λz=>by rw[z,hA.ob]at ht;rcases ht).trans ht],wt:=(k wa iV! λz=>by let:=hA.wt;rw[z,hA.ob]at this;rcases this).trans hA.wt,cl:=λh hh=>(k _ iV_ λz=>by let:=hA.cl h hh;rw[z,hA.ob]at this;rcases this).trans iW!};exact dF (fL e! mup_same hF4) (hR _ o O' #[#[yy,ta,wa,mup_same],h2] uk k λb J=>(e0_).2)
def b1p(h:e3!):F5_ Eg dT_ ao_:=λK hK=>by
 let#[yy,ta,wa,hob]:=h.hob;exact j!;exact fA (pB (eG t3_ e! χ)) ?_;exact dF t3_ hK
def OS.nob(h:e3!)(hm:pB!):Cz t.B6 m M ao_:=by exact h.out.noOb hm
inductive HQ(t:Bo)(M:Mh)(yy:Int)(a ta wa:sS!)(S:j_)(kl:s_)(ca:bv!)(W:OW):Prop
 |new (h:jb!) (hH:aq_) (hS:bw!) (hr:JX_ W):Ko_ M
 |old {o:sS!} {O:bE_} (h:Km! M ao_) (hO:e3!):Ko_ M
def eV(h:f ρ M λd M1=>q bX_ M1 R):KO! f:=h
def KD(t:Bo)(M:Mh)(yy:Int)(a ta wa:sS!)(S:j_)(kl:s_)(ca:bv!)(W:OW)(M':Mh)(o:sS!)(O:bE_):Prop:=Ir! O W/\Km! M' ao_/\∀b,M b≠υ->b≠a->M' b=M b
def d1k(h:jf!)(hR:∀M' o O,Eh! KD M S kl ca W M' o O->R ao_ M'):Eg t dT_ M R:=by
 cases h with
 |new h hH hS hr=>exact c5x h hH hS hr λM' o O Y h2 h3 _=>hR M' o O #[Y,h2,h3]
 |old h hO=>exact b1p hO _ (hR M _ _ #[hO,h,yL!])
def d3w{f1 f2:p!}(Y:jf_)(h2:jg!)(k:g [b,c] M K E):Kb_ 2 pU!:=by delta Gi Ab Ad;rw[cD Y,dK!];exact dK_
def c0f(h:n<=2000):n<10 ^ 60:=NK h (LQ (show 2000<10 ^ 4 by decide) (Nat.pow_le_pow_right a_ a_))
def Of(t:Bo)(M:Mh)(a:sS!)(W:OW)(Q:f2!):Prop:=∀K:D->Mh->Prop,(∀M' o O,OS t M' a o O W->Q M'->K ao_ M')->Eg t dT_ M K
def HQ.of(h:jf!):Of t M a W λM'=>Ko_ M'/\∀b,M b≠υ->b≠a->M' b=M b:=λK hK=>d1k h λM' o O hA=>hK M' o O hA.1 #[.old hA.2.1 hA.1,hA.2.2]
def b6j(h:nr_)(hk:aX!)(hs:x∉W.its->DB x)(hR:x∈W.its->∀M' o O,Ir! O W->Q M'->R ao_ M')(hE:x∉W.its->∀M',Q M'->Ho! E):Cy t gD! M R E:=by
 exact j!;exact eV (wX χ (h _ λM' o O hA hq=>?_));let ht:Od vv! [y!,bq!,ap!] M' (Lj! em!):=b8a (pB (gX e! (hA.nob oM2) e! λK hK=>fV hA.out hk hK));by_cases c:x∈W.its
 .rw[LM c]at ht;exact fA ht (dF e! (hR c M' o O hA hq))
 .rw[LD c]at ht;delta Af;exact kM ht #[#[#[x,χ,hs c],ο],λ_=>hE c M' hq]
def b5i(h:ks!)(hl:h_<5000)(hR:R V! M):Je t [.fn r] M R:=by
 let#[kf,ef,kp,ep,hf,hp,K,_]:=h.dc;let nx:∀{u v},xs=u++v->kget kf (Ji! u)=ψ fu_:=λ{u v} e=>by
  let nd:=K.nd;rw[e]at nd;rw[K.f,e];exact a1o (o8_).1
 let step:∀(rest done:d!),xs=done++rest->∀R':Fl->Mh->Prop,R' (.nx [fz_,gE_,ψ .non]) M->
   Bx uo_ up! (e5!+1) [fz_,ψ (.lst done),ψ (rest.headD .non)] M R':=by
  intro rest
  induction rest with
  |nil=>
   intro done e1 R' iq;rw[LW]at e1;rw[e1]at iq;simpa[Bx,Cc,fT,f2,Aa,fC,Bn,Il]using iq
  |cons y rest ih=>
   intro done e1 R' iq;let hy:y∈xs:=by rw[e1];simp
   let y0:y≠.non:=λz=>(LO.mp K.nd).1 (z▸hy);let#[k,ek]:=K.hk y hy;let lu:=nx (u:=done++[y]) (v:=rest) (ES! e1);rw[a1l]at lu;let J:done.length<big:=by rw[e1]at hl;simp at hl;delta big;omega
   let:=ih (done++[y]) (ES! e1) R' iq;rw[KW,Bx];simpa[Cc,fT,f2,Aa,fC,Bn,kH y0,Af,Rt,Di,Lu,J,Ak,w2,wl,As,Gm,h.ob,b2x,Bl,hf,ek,lu]using this
 let lu:kget kf .non=ψ (xs.headD .non):=nx (u:=[]) χ;exact j!;dsimp only[Mn,Af,Rt];simp[-List.headD_eq_head?_getD,Di,Qd,Ae,Ak,w2,wl,As,Gm,Aa,fC,h.ob,b2x,Bl,hf,lu,Cj,Fj];exact#[h_+1,step xs [] χ _ ?_];simpa[Bd,wl,Aa]using hR
nonrec def shn(W:OW)(x:D):μ bm_:=(a5!).filter (·.2.2)
def lP(hO:aO_)(w:Bv W)(hx:bp!)(hB:B<4000)(hR:R (.lst (Ej_ dY!)) M):JP! Cf:=by
 let#[ad,rfl,hO,hI]:=hO;let#[k3,e3,h3,_,q3]:=hI.dirV (b:=θ);let#[_,h6,k6,e6,rfl,_,q6]:=hI.ty .hid ο;let#[k,hk]:=(w.nm x hx).key;let#[hr,lt]:=hI.row (b:=θ) hx;let lt:=lt;let hr:Gr t M _ _ _ pi_:=hr;exact j!;let W9:∀R',w2 Bl fa_ o_ nu_ M R'=R' (.fn (ad (.row x θ))) M:=by
  intro R';simp[w2,wl,As,Gm,hI.ob,oF3,Bl,h3,hk,(q3 x).1 hx,Di,Aa]
 show Bd (Bf 1 [0] _ _ _ _) nu_ M _;simp![Bd,Bf,Br,Ba,W9,Ad];exact#[by simp![Cz,hr.ob,rM.2.2.1,and_self],χ,?_];exact b5i hr (NK lt a!) ?_;exact#[by delta big;exact LX lt a!,?_];exact cQ (λd=>!(JG_ k6).isSome) id ο _ _ bb! ?_
 .show"!4";let#[kq,v4]:=(JR_ w.sg).key;exact#[t6_,χ,lY_,Du_];simpa[wT,w2,wl,As,Gm,Aa,Di,hI.ob,oF6,Hk,h6,v4]using hK
 .let e:((pi_).filter λd=>!(JG_ k6).isSome).map id=Ej_ dY!:=by
   rw[TB,QB];congr 1;exact PB λq hq=>?_;show(!(kget k6 q.1).isSome)=q.2.2;cases c:q.2.2 with
   |false=>rw[(q6 q.1).mpr #[x,hx,q,hq,χ,c]];rfl
   |true=>
    cases z:(kget k6 q.1).isSome with
    |false=>rfl
    |true=>
     let#[y,hy,q',aj,e1,e2]:=(q6 q.1).mp z;cases w.su y hy x hx q' aj q hq e1;let e2':q'.2.2=false:=e2;rw[jJ (b:=q'.2) (w.snd x hx) (Ev! e1 aj) hq,c]at e2';exact Eg_ e2'
  rw[e];exact hR
def a7k(hO:aO_)(w:Bv W)(hx:bp!)(hB:B<4000)(hl:e6_)(hj:nw!)(hR:R v M):JP! Dv:=by
 let#[ad,rfl,_,hI]:=id hO;let#[_,h5,k5,e5,rfl,_,q5]:=hI.ty .wri ο;exact j!;show Bd (Oo _ (Bf 1 [0] uI! _ _ _)) nu_ M _;dsimp only[Bd,Oo,Bf,Br];exact gX e! (hI.noOb cW_) e! (λK hK=>lP hO w hx hB hK) _ ?_;let ls:(dY!).length<=(a5!).length:=NP _ _;exact e7_;let q5:∀q∈shn W x,kget k5 q.1=ψ q.2.1:=λq hq=>q5 _ _ #[x,hx,q,(cd!).1,χ,χ];exact cQ eE_ (λd=>(JG_ k5).getD .non) ο _ _ bb! ?_
 .show"!4";let#[kq,v4]:=(IK! w.sg).key;exact#[t6_,χ,eF_,DC!];simpa[w2,wl,As,Gm,Aa,Di,hI.ob,oF5,Bl,h5,v4,q5 q hq]using hK
 .rw[eF!,MH,NC (g:=(·.2.1)) λq hq=>by show(kget k5 q.1).getD .non=_;rw[q5 q hq];rfl,hj];exact hR
def a6q:∀(l:ab_),(∀q∈l,∃c:Nat,q.2.1=.str ak!)->∃cs:List Nat,l.map (·.2.1)=cs.map Ng/\cY!=K!
 |[],_=>Bt!
 |q::l,h=>by
  let#[cs,e1,e2]:=a6q l λx hx=>h x a9_
  let#[c,e]:=h q KM;exact#[c::cs,by rw[LA,LA,e1,e];rfl,by rw[KW,KW,e2]]
def c1c(hw:lA_)(hx:bp!)(hl:e6_):∃s,Kk g1! nv_=ψ aQ!:=by
 let#[cs,e1,e2]:=a6q dY! λq hq=>IK! hw.chr
 let ls:(dY!).length<=(a5!).length:=NP _ _;rw[e1];exact#[Txt.join dD! h3!,?_];show((Oq lp!).bind λys=>if(kJ_).sum+aj_*(dD!).length<=big then ψ (D.str (Txt.join dD! ys))else υ)=_;rw[qR];show fJ!=_;rw[I2_ a0i zM]
def xB(h:ah_)(hx:bp!)(hk:aX!)(hl:e6_)(hj:nw!):Th Gd [.fn w,x] M v:=λK hK=>by
 exact j!;show Bd (Oo _ (Bf 1 [] xp! _ _ _)) [ad_,bq!] M _;delta Bd Oo Bf Br;exact b6q (ρ:=[ad_,bq!]) h χ χ hk hx _ e7_;exact cQ t9_ (λd=>match d with|.tup [_,c,_]=>c|_=>.non) ο _ _ bb! ?_
 .show"!4";exact ub!
 .rw[QB,MH];show Di (Kk (.str dD!) nv_) _;rw[hj];exact hK
structure Wd where
 its:μ D
 txt:D->μ bm_
 num:D->μ D
 ch:D->μ D
def Qn(W:OW):Wd:=#[W.its,W.txt,W.num,Fi W.rows]
def c4j{W V:OW}(e:Qn W=Qn V):Jy W=Jy V:=by let Y:W.its=V.its:=Em_ Wd.its e;let h2:W.txt=V.txt:=Em_ Wd.txt e;let h3:W.num=V.num:=Em_ Wd.num e;let h4:Fe! Fi=Fi V.rows:=Em_ Wd.ch e;delta Jy Hi;rw[Y,h2,h3,h4];congr 1;exact funext λi=>funext λp=>G5! (by rw[<-gP,h4,gP])
def c3f:Fi du! x=(Fi rows x).filter λc=>decide (c≠i):=by delta Fi wo;rw[QB,PJ,PJ];congr 1;exact PB λq _=>Bool.and_comm _ _
def d0e(h:Fi r1=Fi r2)(w:Wn r1 i x):Wn r2 i x:=by
 induction w with
 |here=>exact .here
 |up Y _ ih=>exact .up (gP.mp (by rw[<-h];exact gP.mpr Y)) ih
nonrec def hC(i p s:D)(ch:D->μ D)(x:D):μ D:=if p=x then Lx i s ((ch x).filter λc=>decide (c≠i))else(ch x).filter λc=>decide (c≠i)
def c1n(h:Om r i p s r')(nd:(r.map b_).Nodup):Fi r'=hC i p s (Fi r):=funext λx=>by
 delta hC;split
 .rename_i c;subst c;rw[h.chl_same nd,c3f]
 .rename_i c;rw[h.chl_ne c,c3f]
def IK(l:d!)(a:D):Prop:=a∈l\/a=root\/a=Cq
nonrec def mv(W:Wd)(i p s:D):Wd:=if i∈W.its/\IK W.its p/\¬∃r,Fi r=W.ch/\Wn r i p then{W with ch:=hC i p s W.ch}else W
nonrec def sT:IM! Str (μ D->Wd->D->Wd):=[("put",λr W n=>match r with
 |[a,b]=>#[W.its++[n],y4!,y4_,hC n (if IK W.its a then a else Cq) b W.ch]
 |_=>W),("move",λr W _=>match r with
 |[a,b,c]=>mv W a b c
 |_=>W),("drop",λr W _=>match r with
 |[a]=>mv W a Cq .non
 |_=>W),("write",λr W n=>match r,n with
 |[a,b,.str s],.tup [.int h,.int m]=>if a∈W.its then{W with txt:=λx=>if x=a then In! wrT else W.txt x}else W
 |_,_=>W),("cut",λr W _=>match r with
 |[a,.tup [.int x,.int y,.int z],.int m]=>if a∈W.its then{W with txt:=λq=>if q=a then cutT hJ_ ah! else W.txt q}else W
 |_=>W),("set",λr W _=>match r with
 |[a,.int p,.int v]=>if a∈W.its then{W with num:=λx=>if x=a then(h6_).set p.toNat (.int v)else W.num x}else W
 |_=>W)]
nonrec def sF(W:Wd)(n d:D):Wd:=match d with
 |.tup (.str k::r)=>match sT.lookup k with
  |some f=>f r W n
  |none=>W
 |_=>W
def b1x(nd:nC!):(uf!->Om W.rows i p s rows'->Qn {W with rows:=rows'}=mv d2! i p s)/\(¬uf!->Qn W=mv d2! i p s):=by let e:Lq_ p↔∃r,Fi r=(d2!).ch/\Wn r i p:=#[λh=>F6_ h,by rintro⟨r,Y,h2⟩;exact d0e Y h2];rw[e];exact#[λc g=>?_,λc=>(LB c).symm];exact(ug_).trans (KQ c).symm
def b6u(h:Jl! W1)(nd:nC!):Qn W1=sF d2! n d/\(W1.rows.map b_).Nodup:=by
 cases h with
 |put _ _ g=>
  exact#[(ug_).trans ab!,g.nd nd]
 |mvY _ _ _ c g=>exact ui!
 |@mvN _ _ s _ _ _ c=>exact#[((b1x (s:=s) (rows':=[]) nd).2 c).trans ab!,nd]
 |drY _ c g=>exact ui!
 |drN _ c=>exact#[((b1x (s:=.non) (rows':=[]) nd).2 c).trans ab!,nd]
 |wrt _ _ _ e=>subst e;exact nC_
 |cut _ _ _ _=>exact nC_
 |set _ _ _=>exact nC_
def b7m{os:j_}(h:Hw W os W1):(pi!).Nodup->Qn W1=os.foldl uj_ d2!:=by
 induction h with
 |nil=>exact λ_=>χ
 |cons h _ ih=>exact λnd=>by rw[PZ,<-(nD!).1];exact ih (nD!).2
section
variable{W V:OW}
def a3r{os:j_}(Y:Hw W0 os W)(h2:Hw W0 os V):Qn W=Qn V:=(b7m Y OB).trans (b7m h2 OB).symm
def HQ.keep(h:jf!)(k:mW_):Ko_ M':=by
 cases h with
 |new Y h2 h3 h4=>exact .new (Y.keep k) h2 h3 h4
 |old h hO=>
  let#[y,p,q,hob]:=hO.hob;exact .old (h.keep k) #[#[y,p,q,(k a (EQ! hob)).trans hob],hO.out.keep λc hc=>k c (hO.out.live hc)]
structure HR(t:Bo)(M:Mh)(yy:Int)(a ta wa:sS!)(S:j_)(kl:s_)(ca:bv!):Prop where
 hd:∃out,Km! M out
 q:∀W,JX_ W->Ko_ M
def Bp.hr(h:jb!)(hH:aq_)(hS:bw!):KC_ M:=#[#[_,h],λ_ hr=>.new h hH hS hr]
def HQ.hr(h:jf!)(hr:JX_ W)(hH:aq_):KC_ M:=by
 cases h with
 |new h _ hS _=>exact h.hr hH hS
 |old h hO=>
  exact#[#[_,h],λV h2=>.old h #[hO.hob,(show Bm t M _ _ V 1500 from by let:=hO.out;delta Bm at this ⊢;rw[c4j (a3r h2 hr)];exact this)]]
def HR.keep(h:KC_ M)(k:mW_):KC_ M':=by let#[o,hA]:=h.hd;exact#[#[o,hA.keep k],λW hr=>(h.q W hr).keep k]
end
def a2l:∀(xs:s_) (a:Int),a<=FD! a/\∀x∈xs,x<=FD! a
 |[],a=>#[OP _,λx h=>by exact(cX!).elim]
 |y::xs,a=>by
  let#[Y,h2]:=a2l xs (max a y);rw[PZ];exact#[i!,aA!];obtain rfl|hx:=KR.mp hx
  .omega
  .exact h2 x hx
def b2w:∀(xs:s_) (a:Int),FD! a=a\/FD! a∈xs
 |[],a=>.inl χ
 |y::xs,a=>by
  rw[PZ,KR];obtain z|z:=b2w xs (max a y)
  .rw[z];omega
  .exact .inr g3_
def AJ:μ Int->Int:=Wr 0 υ
def b9s:∀{l:s_},l≠[]->AJ l∈l
 |[],h=>Ew! h
 |x::xs,_=>KR.mpr (b2w xs x)
def a8u:∀{l:s_} {x:Int},x∈l->x<=AJ l
 |y::xs,x,h=>by
  obtain rfl|h:=KR.mp h
  .exact(a2l xs x).1
  .exact(a2l xs y).2 x h
def Qi(S:j_):Int:=AJ un!
def vL(h:o∈S):o.tm<=Qi S:=a8u (LN _ (LK h))
def a8t(h0:bS_)(h:∀x∈S,x.tm<=B):Qi S<=B:=by
 obtain z|z:=KS.mp (b9s (l:=S.map Op.tm++[0]) c_)
 .let#[o,ho,e]:=LC.mp z;let:=h o ho;show AJ _<=B;omega
 .let h3:Qi S=0:=LF.mp z;omega
def d6g(hh:hs S h≠[]):∃o∈S,o.tm=lt S h:=by
 delta lt;cases e:(eV!).getLast? with
 |none=>exact Ei_ (TQ.mp e) hh
 |some o=>exact#[o,(jH.mp tR!).1,χ]
def d6h(hH:aq_)(ho:o∈S):o.tm<=lt S o.h:=by
 let hm:=JX! nl_;delta lt;cases e:(dR_).getLast? with
 |none=>rw[TQ.mp e]at hm;exact(KN hm).elim
 |some x=>
  let#[l,hl]:=List.getLast?_eq_some_iff.mp e;let hp:=(hH.ch o.h).tim;rw[hl]at hm hp;obtain z|z:=KS.mp hm
  .exact VV ((SX.mp hp).2.2 o z x c_)
  .rw[aI_];exact OP _
def a5r(f:α->Int):∀l:List α,Lp uq!=ψ f9!
 |[]=>rfl
 |x::l=>by
  show(Lp uq!).map (f x::·)=_;rw[a5r f l];rfl
def b2f(h:l=[]->k=ψ 0):Uk k [.lst (l.map D.int)]=BA! (AJ l):=by
 show(Lp (l.map λh=>D.int (id h))).bind _=_;rw[a5r,TB];show(H3! l (.int (AJ l)))=_;split
 .rename_i z;rw[h z,z];rfl
 .rfl
def b9r:0<=Qi S:=a8u (KY _ p6!)
def a1c(hA:al_)(hH:aq_)(hl:bw!):F5_ Ho dT_ (.int jo_):=λK hK=>by
 let#[ep,ht]:=hA.tk;let hk:∀x∈S,x.h∈kl:=λx hx=>(hA.mem x.h).mpr λy=>by let hm:x∈hs S x.h:=JX! #[hx,χ];rw[y]at hm;exact(KN hm).elim
 let e:AJ nE_=Qi S:=by
  let z:kl.map (lt S)=[]\/∃o∈S,o.tm=AJ nE_:=(Classical.em _).imp_right λkn=>by
   let#[h,hh,e]:=LC.mp (b9s kn);rw[<-e];exact d6g ((mW!).mp hh)
  exact Int.le_antisymm ?_ ?_
  .obtain z|⟨o,ho,e⟩:=z
   .rw[z];exact b9r
   .rw[<-e];exact vL ho
  .exact a8t ?_ λo ho=>Int.le_trans (d6h hH ho) (a8u (LK (hk o ho)));obtain z|⟨o,ho,e⟩:=z
   .rw[z];exact OP _
   .let:=(hH.op o ho).t1;omega
 exact j!;let hc:Pu vB_ [y!] M (Io_ nE_ D.int):=λK hK=>by
  delta Bf On;exact Iq_ hF2 _ ?_;rw[cV ht];let hkl:iU_<64:=NK hA.len hl;exact eL tX!;exact cQ eE_ (λd=>match d with|.int h=>.int (lt S h)|_=>.non) ht _ _ bb! ?_
  .rw[MH]at hd;let#[h,_,rfl]:=LC.mp hd;exact#[[iY!,y!],χ,eF_,λ_ K hK=>fZ e! e! (pT hA) _ hK]
  .rw[eF!,MH,MH];rw[MH]at hK;exact hK
 exact dF (eG e! (a4e hc ((b2f λ_=>χ).trans (by rw[e]))) χ) hK
def a2y{f1 f2:WE}(Y:Eg! f1 x)(h2:Eg! f2 y)(k:g [x,y] M K):I1_ 2 C4!:=by exact HB_ dK_
def a0r(h:ih_)(h2:Eg! g e):Eg! (Mx (Kh! f g)) (.tup [d,e]):=λK hK=>by
 exact h _ (h2 _ #[qZ!,hK])
def c6o(hA:al_)(hH:aq_)(hl:A!<63)
  (hR:∀M' ao ar,Kp_ (S++[uu_])->Jv! a->R uv! M'):Mc t [aK!,d] M R:=by
 let hT:=a1c hA hH a!;exact j!;exact eO (a0r uv_ (eG (gX e! mY_ uv_ (tR hA)) e! (d:=nK_) (GP! Int.add_comm))) ?_;let hv:Pu vC! [y!,h8!,ψ uv!] M (Op.mk yy (1+jq!) jo_ d).v:=eG e! (a0r (lS e! hT) e!) χ;exact oX (a2y e! hv (a0e hA a! λM' ao ar iu hK=>?_));exact dF e! (hR M' ao ar iu hK)
def c3p{f1 f2 f3:p!}(Y:jf_)(h2:jg!)(h3:nM_)(k:g [b,c,d] M K E):Kb_ 3 Cb_:=by delta Gi Ab Ad;rw[cD Y,dK!,cD h3];exact dK_
def c3o{f1 f2 f3 f4:p!}(Y:jf_)(h2:jg!)(h3:nM_)(h4:qI!)(k:g [b,c,d,e] M K E):Kb_ 4 qI_:=by delta Gi Ab Ad;rw[cD Y,dK!,cD h3,cD h4];exact dK_
def c1m(h:R aQ!):Di (EJ c s c) R:=by delta EJ;rw[y_];exact h
def wI(h:Bg x):DB x:=by
 obtain rfl|rfl|⟨a,b,rfl,Y,h2,h3,h4⟩:=h
 .show _<=1000;decide+kernel
 .show _<=1000;decide+kernel
 .exact#[c0f a!,c0f a!]
nonrec def acO(S:j_)(yy:Int)(d:D):Op:=uu_
def a5l:∀{xs:d!} {k:δ} {h:Int} {x:D},(k:Int)<=h->xs[(h - k).toNat]?=ψ x->kget ((xs.zipIdx k).map λq=>gx!) (.int h)=ψ x
 |[],k,h,x,_,e=>by simp at e
 |y::xs,k,h,x,hk,e=>by
  rw[VW,LA];delta kget;by_cases c:(k:Int)=h
  .rw[J9_ KQ c];rw[<-c,Int.sub_self]at e;exact e
  .rw[LB λz=>c mV_];exact a5l a! ?_;rw[show(h - (k:Int)).toNat=(h - re!).toNat+1 by omega,List.getElem?_cons_succ]at e;exact e
def c1r(hA:al_)(hH:aq_)(hS:bw!)
  (hR:∀M',id_->R no! M'):Pq t [aK!,.lst (jt!).flatten] M R:=by
 exact j!;exact eV ?_;exact#[T!,cv_];let fr:∀b,M b≠υ->G2_ (.dct uz! (jt!).flatten.length) b=M b:=λb J=>Eo! nh!;let du:=Jm! fr;delta Bd Bf Br;exact lS e! (qP du hH hS) _ ?_;let pm:(de!).Perm S:=bU S;exact#[by rw[KP,pm.length_eq];delta big;omega,?_];exact cQ (λd=>τ) id ο _ _ bb! ?_
 .let#[o,ho,rfl]:=LC.mp hd;let hf:=JY! pm.mem_iff.mp;let J:=hf.hh;let Y:=hf.n1;exact#[[T_,N!],χ,lY_,λ_ K hK=>by rw[aD_];exact hK];let hg:(kget uz! dH!).getD P!=.int 0:=by
   rw[a5l (x:=er!) a! (by obtain z|z|z|z:=J<;>rw[z]<;>rfl)];rfl
  let e:Rm (.int o.n) P!=ψ x!:=by
   show KA_ (0<o.n)=_;rw[LM a!]
  exact pB (eG mZ! (pA e! (aP gh_) e! mup_same χ hg) e) K hK
 .rw[TB,MY.mpr λ_ _=>χ];exact hR _ fr
def sU(hf:∀o:Op,ft gL_=ψ (p o)):∀(os:j_),Ck t_ ft l_ ju! aw!=ψ uB_
 |[]=>rfl
 |o::os=>by
  let ih:=sU hf os;let e1:Ar 0 o.v ju!=ψ gL_:=χ;let e2:Aa 0 gL_=ψ o.v:=χ;rw[LA];delta Ck;rw[e1];show((ft gL_).bind λb=>if b then(Aa 0 gL_).bind λy=>(Ck t_ ft l_ ju! aw!).map fw_ else Ck t_ ft l_ ju! aw!)=_;rw[hf,e2,ih];show(if p o=τ then ψ (o.v::(os.filter p).map Op.v)else ψ uB_)=_;cases c:p o with
  |true=>rw[y_,NM c];rfl
  |false=>rw[aW_,NS (ES! c)]
def a6z(hH:aq_)(hl:bw!):Th Jf [ju_,.int yy,d] M (.tup [.int yy,nK_,.int jo_,d]):=λK hK=>by
 exact j!;let hc:Pu xs_ [jv!,jv_,h8!,υ] M uD_:=λK hK=>by
  exact e7_;exact cQ eE_ (λd=>match d with|.tup [_,_,z,_]=>z|_=>.non) ο _ _ bb! ?_
  .let#[o,_,rfl]:=LC.mp hd;exact#[[T_],χ,eF_,λ_ K hK=>aP (ρ:=[T_]) (a8f o) _ hK]
  .rw[eF!,MH];rw[MH]at hK;exact hK
 exact eO hc ?_;let e1:IK_ 1 jw!=o8! uF_:=by
  let e:=sU (ft:=fT ha!) (λo=>by
   let:JU! Au [T_,jv_]=C2! (o.h==yy):=aT gh_ χ iX_;delta fT;rw[this];rfl) S
  show(El! d4_ (KF_ [υ,jv_] d4_))=_;rw[KQ c6!,e];rfl
 let e2:Jh_ xu! jw!=BA! (1+jq!):=Lh! ((zK (oP e1)).trans (show ψ (D.int ((uF_).length:δ))=_ by rw[KP]));let e3:Jh_ xw_ jw!=BA! jo_:=by
  let Y:f2 Al Q! xw! jw!=Ky! un! D.int:=E7_ aT (by
   show fJ!=_;rw[KQ (by simp![KP,KW,QT];delta big;omega),LG];rfl)
  exact Lh! ((zK (oP Y)).trans (b2f c_))
 exact dF (aP (LM! kJ (bI e2 (bI e3 ev!)))) hK
def Hist.fl(h:Hist U)(k0:Int):Hist uI_:=by
 exact#[λk=>?_,λo ho=>h.op o (nQ!).1];let e:hs uI_ k=if k=k0 then[]else hs U k:=by
  delta hs;rw[PJ];split
  .rename_i c;exact SO.mpr λo _=>by simp[c]
  .rename_i c;exact PB λo _=>by
    by_cases z:o.h=k
    .simp[z,c]
    .simp[z]
 rw[e];split
 .exact .nil
 .exact h.ch k
nonrec def sns(W:OW)(x:D):μ D:=Ej_ dY!
def gG(h:f ρ=ψ aJ!):fT f ρ=ψ b:=by delta fT;rw[h];rfl
def oMs:K7! "signs_of"=none:=by kernel_rfl
def c3h(Y:f ρ=ψ ay!)(h2:g ρ=ψ aH_)(h3:h ρ=ψ bO_):fT (El Ki Ki f g h) ρ=E2_ ψ (i<=j/\j<=k):=by
 exact gG ?_;delta El;rw[Y,h2,h3];show(match D.bl i3! with|.bl true=>Ki aH_ bO_|.bl false=>ψ I!|_=>υ)=_;by_cases c:i<=j
 .rw[LM c];show KA_ (j<=k)=_;congr 2;simp[c]
 .rw[LD c];congr 2;simp[c]
def uG{pl:Int}(h:nr_)(wi:Bv W)(hx:Bg x)(hp:wp!)(hR:x∈W.its->0<=pl/\pl<=(cG_).length->∀M',Q M'->R gP! M')(hE:¬(x∈W.its/\0<=pl/\pl<=(cG_).length)->∀M',Q M'->Ho! E):Hn t [aK!,x,.int pl] M R E:=by
 let#[k,hk]:=cI hx;exact j!;exact eV ?_;delta Ba;exact E7_ d3w (b6j h hk (λ_=>wI hx) (λhi M' o O hA hq=>?_) λc M' hq=>hE (λz=>c z.1) M' hq);exact#[hA.nob oMs,?_];delta Ab Ad;rw[aD_];exact#[χ,lP hA.out wi hi a_ ?_];let ec:=c3h (ρ:=uL!) (f:=fC P!) (g:=Aa 2) (h:=f1 Be di_) χ χ χ;let en:Dy vE! uL!=ψ (Lj! (0<=pl/\pl<=uM!)):=by
  delta Dy;rw[ec];rfl
 by_cases c:0<=pl/\pl<=uM!
 .rw[LM c]at en;exact fA (dS en) (dF e! (hR hi c M' hq))
 .rw[LD c]at en;delta Af;exact kM (dS en) #[#[#[x,χ,wI hx],#[.int pl,χ,c0f hp],ο],λ_=>hE uN_ M' hq]
structure Sn where
 h:Int
 n:Int
 k:Int
nonrec def Sn.v(s:Sn):D:=.tup uO!
nonrec def fol(s u:Sn):Bool:=(u.h==s.h)&&uO_
def a5x(s u:Sn):Da [s.v,u.v]=ψ jC!:=by
 let e:f2 Al nr! vN! jC_=H5_ uP!:=by
  rfl
 let e2:Au u.v (uP!).v=ψ jC!:=by
  show Au nU! uQ!=_;delta Au;exact(bq_).trans ?_;show Gg! (Dt nU! uQ!)=Gg! ((u.h==s.h)&&uO_);congr 2;simp[Dt,Ig,Bool.and_assoc]
 let e3:f2 Au u_ vN_ jC_=ψ jC!:=aT χ e e2;let e4:Gc jC_=HA_ jC!:=by
  delta Gc By;rw[e3];rfl
 show(match Gc jC_ with|some (.rt d)=>ψ d|some (.nx _)=>ψ .non|none=>υ)=_;rw[e4]
nonrec def runsF:μ nU_->μ Sn->μ nU_
 |σ,[]=>σ
 |σ,s::r=>match σ.getLast? with
  |some l=>match l.getLast? with
   |some u=>if fol u s then FP_ (σ.dropLast++[l++[s]]) else FP_ nV_
   |none=>FP_ nV_
  |none=>FP_ nV_
section
variable{s u:Sn}
structure Rw(M:Mh)(p:sS!)(σ:nW_):Prop where
 pc:M p=o8! (σ.map λq=>.fn q.1)
 ce:∀q∈σ,M q.1=ψ uS!
 nd:(p::σ.map b_).Nodup
def Rw.last(h:nX_):Bl M u! iY_=ψ (.fn c):=by delta Bl;simp![h.pc];exact pX c_
def Rw.lastc(h:uV_):Bl M (.fn c) iY_=ψ u.v:=by let e:=h.ce (c,l++[u]) c_;delta Bl;simp![e];exact pX c_
def Rw.add(h:nX_):Rw uW_ p (pre++[(c,l++[s])]):=by
 let nd:=h.nd;rw[LG,LO]at nd;let#[n1,n2]:=nd;let ul:p≠c:=λz=>n1 uX_;exact#[?_,c4!,?_]
 .rw[Eo! ul,h.pc];simp
 .obtain z|z:=KS.mp hq
  .let hne:q.1≠c:=λe=>by
    let:=(o9!).2.2 q.1 (LK z) c c_;exact this e
   rw[Eo! hne];exact h.ce q dP!
  .rw[aI_];exact mup_same
 .let:=h.nd;simpa using this
def Rw.new(h:jG!)(hc:M c=υ):Rw uZ_ p u0!:=by
 let ul:p≠c:=λz=>by let:=h.pc;rw[z,hc]at this;rcases this
 let ip:∀q∈σ,q.1≠c:=λq hq z=>by let:=h.ce q hq;rw[z,hc]at this;rcases this
 let nd:=h.nd;rw[LO]at nd;exact#[by rw[mup_same];simp,c4!,?_]
 .obtain z|z:=KS.mp hq
  .let XQ:q.1≠p:=λe=>nd.1 (by rw[<-e];exact LK z);rw[Eo! XQ,Eo! (ip q z)];exact h.ce q z
  .rw[aI_,Lq! ul,mup_same];rfl
 .rw[LG,LO];exact#[bJ_,MB.mpr #[nd.2,H_,qf!]]
  .obtain z|z:=KS.mp z
   .exact nd.1 z
   .exact ul u2!
  .let#[q,hq,rfl]:=LC.mp ha;exact ip q hq (HG! e J)
def DC:WS:=vR_
def Rw.len(h:jG!):Jw M lI!=ψ q9!:=by simp[Jw,Qz,h.pc]
def d0u(h:jG!)(hl:aB_<1000)(hR:∀c,M c=υ->EI! dk! uZ_):Bb vR! dk! M R:=by
 delta Bb Em Ew Ab Ad;rw[aD_];let e1:Gq M u!=ψ u4!:=by simp[Gq,h.pc]
 rw[e1];exact eL ?_;rw[aD_];exact#[u4_,kX!];let ul:p≠c:=λz=>by let:=h.pc;rw[z,hc]at this;rcases this
 let e2:Gq jG_ u!=ψ u4!:=by simp[Gq,Eo! ul,h.pc]
 show Di (Gq jG_ u!) _;rw[e2];exact eL #[nx_,hR c hc]
def d0t(h:nX_)(hl:K!<1000)(hR:EI! dk! uW_):Bb (Em oi_ D_) dk! M R:=by
 delta Bb Em;exact H6! e! h.last;let e:=h.ce (c,l) c_;let e1:Gq M (.fn c)=ψ (c,l.map Sn.v):=by simp[Gq,e]
 rw[e1];exact eL ?_;rw[aD_];rw[e1];exact eL e7_;let:(l.map Sn.v)++[s.v]=(l++[s]).map Sn.v:=by simp
 rw[this];exact hR
def c9p(h:jG!):Od vO! dk! M (decide ((aB_:Int)>0)):=by exact pB (eG (x:=.int (aB_:δ)) DZ! e! χ);delta w1 Ab Ad;rw[aD_];show Di (Jw M lI!) _;rw[h.len];exact hK
def d6q(h:uV_):Od vP_ dk! M (fol u s):=by exact pB λK hK=>?_;delta Am Ab Ad;exact H6! (eG e! e! h.last) h.lastc;rw[aD_];exact j!;show Di (Da [u.v,s.v]) _;rw[a5x];exact hK
end
def d7f(h:G6! f θ):G6! (Ee f g) false:=λK hK=>by
 delta Ee;exact h _ ?_;rw[bB_];exact hK
def c9z(h:G6! f τ)(h2:G6! g b):G6! (Ee f g) b:=λK hK=>by
 delta Ee;exact h _ ?_;rw[y_];exact h2 _ hK
def lG(l:aa_):l=[]\/∃a x,l=a++[x]:=by
 obtain h|⟨a,x,h⟩:=List.eq_nil_or_concat l
 .exact .inl h
 .exact .inr #[a,x,by rw[h,List.concat_eq_append]]
def b4b:∀(ss:af!) (σ:nW_) (y:G_) (M:Mh) (R:p_),Rw M p σ->(∀q∈σ,q.2≠[]/\f0!+aU!<900)->aB_+aU!<900->
  (∀cb M' y',Rw M' p cb->cb.map F!=runsF n2! ss->(∀q∈cb,q.2≠[])->(∀b,M b≠υ->b≠p->b∉σ.map b_->M' b=M b)->Kx! [R!,N!,y'])->
  Fe bi_ Q_ DC n2_ [R!,N!,y] M R:=by
 intro ss
 induction ss with
 |nil=>
  intro σ y M R h hq hl hR;exact#[ο,hR σ M y h χ (λq z=>(hq q z).1) λb _ _ _=>χ]
 |cons s ss ih=>
  intro σ y M R h hq hl hR;rw[KW]at hl;exact aB!;let new:(runsF n2! jI_=runsF (σ.map F!++[[s]]) ss)->JW_ vQ! dk!->
    DC dk! M λr M1=>match r with|.nx bf=>Fe bi_ Q_ DC n2_ bf M1 R|.rt d=>R ag! M1:=λer ht=>by
   delta DC;exact lN ht (d0u h a! λc hc=>?_);exact ih u0! _ _ R (h.new hc) (λq z=>?_) aU_ λcb M' y' h' e' n' fr=>hR cb M' y' h' (by rw[e',er,LG];rfl) n' λb Y h2 h3=>?_
   .obtain z|z:=KS.mp z
    .let:=hq q z;rw[KW]at this;exact u8!
    .rw[aI_];exact#[H_,u8_]
   .let yd:b≠c:=λz=>Y (z▸hc);let e2:mup jG_ p uZ! b=M b:=by rw[hB!,Eo! yd]
    exact(fr b va! h2 λz=>?_).trans e2;rw[LG]at z;obtain z|z:=KS.mp z
    .exact h3 z
    .exact yd u2!
  obtain ha|⟨pre,⟨c,l⟩,ha⟩:=lG σ
  .subst ha;exact new χ (d7f (c9p h))
  .subst ha;let XT:=c9p (x0:=x0) (s:=s) h;rw[LM aU_]at XT;let hc:=hq (c,l) c_;rw[KW]at hc;obtain XU|⟨l',u,XU⟩:=lG l
   .exact Ei_ XU hc.1
   .subst XU;let hf:=d6q (x0:=x0) (s:=s) h;cases ef:fol u s with
    |false=>
     rw[ef]at hf;exact new ?_ (c9z XT hf);rw[LG];simp[runsF,ef]
    |true=>
     rw[ef]at hf;delta DC;exact kM (c9z XT hf) (d0t h (by let:=hc.2;simp only at this;omega) ?_);exact ih (pre++[(c,l'++[u]++[s])]) _ _ R h.add (λq z=>?_) (by rw[KO]at hl ⊢;dsimp only[List.length_cons,List.length_nil]at hl ⊢;omega) λcb M' y' h' e' n' fr=>hR cb M' y' h' ?_ n' λb Y h2 h3=>?_
     .obtain z|z:=KS.mp z
      .let:=hq q dP!;rw[KW]at this;exact u8!
      .rw[aI_];exact#[H_,by let:=hc.2;rw[KO];dsimp only[List.length_cons,List.length_nil]at this ⊢;omega]
     .rw[e',LG,LG];simp[runsF,ef]
     .let yd:b≠c:=λz=>h3 uX_;let e2:mup M c (.lst ((l'++[u]++[s]).map Sn.v)) b=M b:=Eo! yd;exact(fr b va! h2 λz=>h3 ?_).trans e2;rw[LG]at z ⊢;exact z
def a0m(k:∀p,M p=υ->q (KW_ (ψ u!)) n4! R):KO! bU!:=by delta Af Ak Ew Ad;exact#[vc!,k]
def oW(h:oI!)(k:Fe b Q_ q ds ρ M λr M1=>match r with|.nx ak=>q2 ak M1 R|.rt d=>R ag! M1):ER! (Cu (Hm f) b q) q2:=by delta Af Cu Hm;rw[h];exact k
def a7s(hl:aU!<900)(hR:∀p σ M',Rw M' p σ->M p=υ->σ.map F!=H6_ ss->(∀q∈σ,q.2≠[])->id_->R u! M'):Ni [.lst n2_] M R:=by exact j!;exact a0m λp hp=>?_;exact oW (tQ χ) (b4b ss [] υ _ _ #[mup_same,λq h=>f3_,H_] (λq h=>f3_) iL! λcb M' y' h' e' n' fr=>?_);exact dF e! (hR p cb M' h' hp e' n' λb J=>?_);let XV:b≠p:=λz=>J (z▸hp);exact(fr b (by rw[mup_ne XV];exact J) XV c_).trans (Eo! XV)
nonrec def jn(a:Sn)(l:af!):Nat:=match l.head? with
 |some b=>if fol a b then 0 else 1
 |none=>0
nonrec def br:μ Sn->Nat:=List.rec 0 λa l r=>jn a l+r
def c3r(a:Sn)(l:af!):br (a::l)=jn a l+br l:=χ
def c9m(a:Sn)(l:af!):jn a l<=1:=by
 delta jn;split
 .split<;>omega
 .omega
def c3q(l:af!):br l<=K! - 1:=by
 induction l with
 |nil=>exact LJ _
 |cons a l ih=>
  rw[c3r];cases l with
  |nil=>exact LJ _
  |cons b l=>let:=c9m a (b::l);dsimp only[List.length_cons]at ih ⊢;omega
def jL(A B:af!):br A+br B<=br (A++B)/\br (A++B)<=br A+br B+1:=by
 induction A with
 |nil=>simp[br]
 |cons a A ih=>
  rw[PM,c3r,c3r];cases A with
  |nil=>let:=c9m a B;let e:jn a []=0:=χ;let e2:br []=0:=χ;rw[LY,e,e2];omega
  |cons b A=>let e:jn a (b::A++B)=jn a (b::A):=χ;rw[e];omega
def d3y(P B Q:af!):br (P++Q)+br B<=br (P++(B++Q))+1:=by let Y:=jL P (B++Q);let h2:=jL B Q;let h3:=jL P Q;omega
def d3x(P B Q:af!):br (P++(B++Q))<=br (P++Q)+br B+2:=by let Y:=jL P (B++Q);let h2:=jL B Q;let h3:=jL P Q;omega
def uK(σ:d8_)(l:af!)(u s:Sn)(r:af!):runsF n6_ (s::r)=if fol u s then FP_ (σ++[l++[u]++[s]]) else FP_ (σ++fg!++[[s]]):=by rw[runsF];simp
def uL(s:Sn)(r:af!):runsF [] (s::r)=FP_ [[s]]:=by rw[runsF];rfl
def b7l(r:af!):∀(σ:d8_) (l:af!) (u:Sn),FP_ n6_=σ++FP_ fg!:=by
 induction r with
 |nil=>intro σ l u;rfl
 |cons s r ih=>
  intro σ l u;let e2:=uK [] l u s r;rw[LY]at e2;rw[uK,e2];split
  .rw[LY,ih]
  .let i1:=ih n6_ [] s;let i2:=ih fg! [] s;rw[LY]at i1 i2;rw[i1,i2,LZ]
def d0v(r:af!):∀(l:af!) (u:Sn),(FP_ fg!).length=1+br (u::r):=by
 induction r with
 |nil=>intro l u;rfl
 |cons s r ih=>
  intro l u;let e2:=uK [] l u s r;rw[LY]at e2;rw[e2,c3r];delta jn;rw[List.head?_cons];show _=1+((if fol u s then 0 else 1)+br (s::r));split
  .rw[LY,ih];omega
  .let i2:=b7l r fg! [] s;let i3:=ih [] s;rw[LY]at i2 i3;rw[i2,KO,i3];rfl
def uI(B:af!):(n8_).length<=br B+1/\(n8_).length<=B.length:=by
 cases B with
 |nil=>exact#[ML _,LJ _]
 |cons s r=>
  let:=d0v r [] s;let h2:=c3q (s::r);rw[LY]at this;rw[uL,this];dsimp only[List.length_cons]at h2 ⊢;omega
nonrec def rn(s:Sn)(m:δ):μ Sn:=(gA!).map λj=>#[s.h,s.n,s.k+(j:δ)]
def a7v(s:Sn)(m:δ):rn s aC!=rn s m++[cI_]:=by delta rn;rw[WD,LG];rfl
def b4d(s:Sn):rn s 1=[s]:=by simp[rn]
def d2x{s u:Sn}(h:fol cI_ u=τ):u=d9!:=by cases u;simp![fol,LS,OT]at h;rw[h.1,h.2.1,h.2.2];congr 1;omega
def d2y{s u:Sn}(h:¬u=d9!):fol cI_ u=false:=by
 cases c:fol cI_ u with
 |true=>exact Ei_ (d2x c) h
 |false=>rfl
def d6p(s:Sn)(m:δ):fol cI_ d9!=true:=by simp![fol,LS,OT];exact#[ο,ο,?_];omega
def b0w(s:Sn)(m:δ)(r:af!):runsF jL_ (d9!::r)=FP_ [rn s (m+2)]:=by let:=uK [] gT_ cI_ d9! r;rw[LY,d6p,y_,LY,<-a7v,<-a7v]at this;exact this
def a3s(s:Sn)(m:δ)(r:af!)(h:∀u l,r=u::l->¬u=d9!):FP_ jL_=rn s aC!::runsF [] r:=by
 cases r with
 |nil=>rfl
 |cons u l=>
  let e:=uK [] gT_ cI_ u l;rw[LY,d2y (h u l χ),aW_]at e;let e2:=b7l l [rn s m++[cI_]] [] u;rw[LY]at e2;rw[a7v,e,e2,uL];rfl
def c4t(r:af!):∀(s:Sn) (m:δ),(FP_ jL_).flatten=rn s aC!++r/\∀l∈runsF jL_ r,∃s m,l=rn s aC!:=by
 induction r with
 |nil=>intro s m;exact#[by simp[runsF],λl hl=>#[s,m,by simpa[runsF]using hl]]
 |cons u r ih=>
  intro s m;by_cases c:u=d9!
  .subst c;rw[b0w];let#[Y,h2]:=ih s aC!;exact#[by rw[Y,a7v s aC!,LZ];rfl,h2]
  .rw[a3s s m (u::r) λu' l e=>by rw[<-(vo_).1];exact c,uL,<-b4d];let#[Y,h2]:=ih u 0;exact#[by rw[PU,Y,b4d];rfl,λl hl=>?_];obtain z|z:=KR.mp hl
   .exact#[s,m,z]
   .exact h2 l z
def uJ(B:af!):(n8_).flatten=B/\∀l∈runsF [] B,∃s m,l=rn s aC!:=by
 cases B with
 |nil=>exact#[χ,λl h=>by exact(cX!).elim]
 |cons s r=>
  rw[uL,<-b4d];let#[Y,h2]:=c4t r s 0;exact#[by rw[Y,b4d];rfl,h2]
def iX(s:Sn)(m:δ):(gT_).length=m:=by simp[rn]
def b4c(s:Sn)(m:δ):rn s aC!=s::rn vq! m:=by
 delta rn;rw[SN,LA,MH];congr 1
 .simp
 .apply NC;intro j _;show Sn.mk _ _ _=_;congr 1;show s.k+f4!=s.k+1+(j:δ);omega
def c9w(m:δ):∀s:Sn,br gT_=0:=by
 induction m with
 |zero=>exact λ_=>χ
 |succ m ih=>
  intro s;rw[b4c,c3r,ih,VU];cases m with
  |zero=>rfl
  |succ m=>
   rw[b4c];show(if fol s vq!=τ then 0 else 1)=0;rw[KQ (ES! fol)]
abbrev pS(S:j_):μ Op:=Md gC! de!
def b6v(hn:oa!)(ht:jN!):Gj dS_=Gj S++[o]:=by
 let hp:(de!).Perm S:=bU S;exact lO (gS ?_) ?_ ((bU _).trans (hp.symm.append_right _))
 .rw[LG,MB];exact#[hn,H_,qf!];let#[x,hx,rfl]:=LC.mp ha;let Y:=ht x hx;let J:b=Op.key o:=by simpa using J
  rw[J]at e;let:x.tm=o.tm:=Em_ Prod.fst e;omega
 .delta Mt;rw[SX];exact#[gS hn,UC _ _,hq_];rw[LF.mp hy,pQ];exact .inl (ht x q2_)
def b6l(hu:ix!)(os:j_):∀σ,Jx f (os++[o]) σ=Jx f os σ:=by
 induction os with
 |nil=>intro σ;rw[LY];delta Jx;rw[hu];delta Jx;rfl
 |cons x os ih=>intro σ;rw[PM];delta Jx;cases Dl x.d<;>exact ih _
def d0f(os:j_):∀σ,(∀o∈os,∀k,Dl o.d≠ψ (k,x))->F3! σ=υ->F3! (Jx f os σ)=none:=by
 induction os with
 |nil=>intro σ _ h;exact h
 |cons y os ih=>
  intro σ h h0;delta Jx;cases e:Dl y.d with
  |none=>exact ih _ vr! h0
  |some q=>exact ih _ vr! (by rw[mL λz=>h y KM q.1 (by rw[e,<-z])];exact h0)
def b9d(hn:oa!)(ht:jN!)(hu:ix!):pS dS_=pS S++Md gC! [o]:=by delta pS;rw[b6v hn ht,b6l hu];delta Md;rw[QM]
def c5w(hn:oa!)(ht:jN!)(hu:ix!)(h6:∀x∈S,∀k,Dl x.d≠ψ (k,o.nm)):pS dS_=pS S++[o]:=by
 rw[b9d hn ht hu];congr 1;delta Md;rw[NM]
 .rfl
 .rw[LV,d0f de! [] (λy hy=>h6 y (IW! S hy)) χ];exact#[hu,H_]
def a8e(h:o∈pS S):o∈S:=(bU S).mem_iff.mp (MX.mp h).1
nonrec def toSn:D->Sn
 |.tup [.int h,.int n,.int k]=>#[h,n,k]
 |_=>dl!
nonrec def sh(l:ab_):μ D:=(l.filter (·.2.2)).map b_
def jT(a b:ab_):sh (a++b)=sh a++sh b:=by delta sh;rw[QM,LG]
def TT(its:d!)(txt:D->μ bm_):μ Sn:=its.flatMap λx=>Gh_ (txt x)
def d0b:∀{its:d!},a∉its->TT its oa_=TT its txt:=λ{its} h=>by
 delta TT
 induction its with
 |nil=>rfl
 |cons y its ih=>
  rw[KR,SZ]at h;let e:(oa_) y=txt y:=LB (MD h.1);rw[QU,QU,ih h.2,e]
def xA(nd:its.Nodup)(ha:a∈its):∃P Q,TT its txt=P++(HT! (txt a))/\∀l,TT its oa_=P++vs!:=by
 let#[p,q,e]:=List.append_of_mem ha;subst e;rw[MB]at nd;let#[n1,n2,n3]:=nd;let Y:a∉p:=λz=>n3 a z a KM χ;let h2:=(LO.mp n2).1;let e:∀t:D->List bm_,TT (p++a::q) t=TT p t++((sh (t a)).map toSn++TT q t):=λt=>by
  delta TT;rw[List.flatMap_append,QU]
 exact#[TT p txt,TT q txt,e txt,λl=>?_];rw[e,d0b Y,d0b h2,y_]
def d4i{t1 t2:D->μ bm_}(h:∀x,(sh (t1 x)).length<=(sh (t2 x)).length):(TT its t1).length<=(TT its t2).length:=by
 delta TT
 induction its with
 |nil=>exact LJ _
 |cons y its ih=>
  rw[QU,QU,KO,KO,KP,KP];let:=h y;omega
section
variable{W V:OW}
def KB(d:D):Prop:=∀h n k:Int,d=.tup qA_->0<=k/\k<=15
def a0f{s:Str}(hq:q∈Ey! h6!):∃c k:Nat,k<E!/\q=(.tup [aP_,cX_,ig_],.str ak!,τ):=by
 let#[#[c,k],hz,rfl]:=LC.mp hq;let:=List.mem_zipIdx hz;exact#[c,k,?_,χ];let e:E!=cZ!:=by rfl
 omega
def c4b(h:q∈wrT b nw l):q∈nw\/q∈l:=by
 let#[u,v,e1,e2,_]:=iS b nw l;rw[e2,KS,KS]at h;rw[e1,KS];rcases h with(h|h)|h
 .exact .inr iM!
 .exact .inl h
 .exact Er_ h
def d5a(h:Jl! V)(hk:∀x,∀q∈W.txt x,KB q.1):∀x,∀q∈V.txt x,KB q.1:=by
 cases h with
 |put _ _ _=>
  intro x q hq;let hq:q∈hr_:=hq;split at hq
  .exact(ei_).elim
  .exact ob_
 |mvY _ _ _ _ _=>exact hk
 |mvN _ _ _ _=>exact hk
 |drY _ _ _=>exact hk
 |drN _ _=>exact hk
 |@wrt a b s hh m _ _ hl e=>
  split
  .intro x q hq;let hq:q∈(if x=a then wrT b oc! ah! else W.txt x):=hq;split at hq
   .obtain z|z:=c4b hq
    .let#[c,k,c9,rfl]:=a0f z;intro h n k2 e2;show"#5"
    .exact hk a q z
   .exact ob_
  .exact hk
 |@cut a x0 y0 z0 m _ _ _ _=>
  split
  .intro x q hq;let hq:q∈(if x=a then cutT vu_ ah! else W.txt x):=hq;split at hq
   .delta cutT at hq;show"!I";exact hk a q0 h0
   .exact ob_
  .exact hk
 |set _ _ _=>split<;>exact hk
def b7c{s:Str}:sh c3_=Ej_ c3_:=by delta sh;rw[MY.mpr];intro q hq;let#[c,k,_,rfl]:=a0f hq;rfl
def b7d(g:d!)(l:ab_):sh pG_=(sh l).filter λx=>!decide (x∈g):=by delta sh cutT;rw[QB,MH,QB,PJ];let:((λq:D×D×Bool=>q.2.2)∘λq:D×D×Bool=>zZ!)=λq=>q.2.2&&!decide pI!:=χ;rw[this];let e:(λq:D×D×Bool=>q.2.2&&!decide pI!)=λq=>((JY_ (x∈g))∘λx=>x.1) q&&q.2.2:=funext λq=>Bool.and_comm _ _;rw[e];rfl
def b0m(w:Bv W)(h:Jl! V)(hs:Wi d):(cK_).length+5*V.its.length<=(cL!).length+5*c5_+5/\(W.its=[]->(cK_).length=0):=by
 let w0:W.its=[]->(cL!).length=0:=λe=>by rw[e];rfl
 cases h with
 |put _ _ _=>
  let e:TT hr! fg_=TT W.its fg_:=by
   delta TT;let e0:(fg_) n=[]:=KQ χ;rw[List.flatMap_append,QU,e0];simp[sh]
  let l:(TT W.its fg_).length<=(cL!).length:=d4i λx=>by
   split
   .exact ML _
   .exact LJ _
  show(TT hr! fg_).length+5*(hr!).length<=_/\(_->(TT hr! fg_).length=0);rw[e,KO];exact#[u8_,λz=>by let:=w0 z;omega]
 |mvY _ _ _ _ _=>exact ea_
 |mvN _ _ _ _=>exact ea_
 |drY _ _ _=>exact ea_
 |drN _ _=>exact ea_
 |@wrt a b s hh m _ _ hl e=>
  split
  .rename_i ha;exact vw!;let#[P,Q,e1,e2]:=xA w.nd ha;let e3:TT (vA!).its (vA!).txt=_:=e2 vw_;rw[e3,e1];show _+5*c5_<=_;let#[u,v,f1,f2,_]:=iS b oc! ah!;let l5:=hs.1 a b s χ;let e:E!=cZ!:=by rfl
   rw[f2,f1,jT,jT,jT,b7c];simp![KO,KP,TL];omega
  .exact ea_
 |@cut a x0 y0 z0 m _ _ _ _=>
  split
  .rename_i ha;exact vw!;let#[P,Q,e1,e2]:=xA w.nd ha;let e3:TT (vy!).its (vy!).txt=_:=e2 vx_;rw[e3,e1,b7d];show _+5*c5_<=_;let:=NP (JY_ (x∈(hJ!).map λk=>D.tup vu!)) (sh ah!);simp![KO,KP];omega
  .exact ea_
 |set _ _ _=>split<;>exact ea_
def b0x{os:j_}(h:Hw W os V):∀{pre:d!},Ru W pre->(∀x,∀q∈W.txt x,KB q.1)->(lK_).Nodup->(∀o∈os,o.nm∉pre)->Ru V (pre++os.map Op.nm)/\(∀x,∀q∈V.txt x,KB q.1)/\
  ((∀o∈os,Wi o.d)->(cK_).length+5*V.its.length<=(cL!).length+5*c5_+5*aY!):=by
 induction h with
 |nil=>intro pre w k _ _;exact#[by simpa using w,k,λ_=>LJ _]
 |@cons W W1 W2 o os h _ ih=>
  intro pre w k nd hn;rw[LA,LO]at nd;let w1:Ru W1 (pre++fh!):=a7l h w (hn o KM);let#[Y,h2,h3]:=ih w1 (d5a h k) nd.2 λx hx z=>by
   obtain z|z:=KS.mp z
   .exact hn x a9_ z
   .exact nd.1 (by rw[<-LF.mp z];exact LK hx)
  exact#[by rw[LA,List.append_cons];exact Y,h2,λhs=>?_];let c1:=(b0m w.inv h (hs o KM)).1;let c2:=h3 λx hx=>hs x a9_;rw[KW];omega
end
def Jj(S:j_)(ds:d!):μ Op:=ds.foldl (λS d=>S++[od!]) S
structure O6(S:j_)(B:Int):Prop where
 hist:Hist S
 u6:∀x∈S,∀k b,Dl x.d≠ψ (k,.tup fZ!)
 tm:∀x∈S,x.tm<=B
structure Va(d:D):Prop where
 dg:DG d
 ur:Dl d=υ
def wP:(hs eb! 6).length=(O!).length+1:=by rw[eY,mO,KQ (show(acO S 6 d).h=6 from χ),KO];rfl
def O6.add(h:bV!)(b0:bS_)(b1:B<=900)(hl:A!<=900)(hd:Va d):O6 eb! a8_:=by
 let m1:=a8t b0 h.tm;let m0:=b9r (S:=S);let l:=oE S 6;exact#[h.hist.snoc #[.inr (.inr k4_),vC_,vD!,by show 1<=1+(gU!:Int);omega,by show 1+(gU!:Int)<=2000;omega,hd.dg] vD_ λo ho _=>by let:=vL ho;show o.tm<1+Qi S;omega,vE_,λo ho=>?_]
 .obtain z|z:=KS.mp hx
  .exact h.u6 x z k b
  .rw[aI_];show Dl d≠_;rw[hd.ur];simp
 .obtain z|z:=KS.mp ho
  .let:=h.tm o z;omega
  .rw[aI_];show 1+Qi S<=B+1;omega
def c3w(ds:d!):∀S:List Op,(og!).length=A!+f_:=by
 induction ds with
 |nil=>intro S;rfl
 |cons d ds ih=>intro S;show(Jj eb! ds).length=_;rw[ih,KO];dsimp only[List.length_cons,List.length_nil];omega
def c8o(ds:d!):∀(S:j_) (B:Int),O6 S B->0<=B->B+f_<=900->A!+f_<=900->vF_->O6 og! (B+f_):=by
 induction ds with
 |nil=>intro S B h _ _ _ _;show O6 S (B+0);rw[Int.add_zero];exact h
 |cons d ds ih=>
  intro S B h b0 b1 hl hd;rw[KW]at b1 hl;let:=GT! (hd d KM) λx hx=>hd x a9_;rw[KW,show B+((ds.length+1:δ):Int)=B+1+ds.length by omega];show"#;"
def AH(c:δ)(ds:d!)(w:Wd):Wd:=(ds.zipIdx H!).foldl (λw p=>sF w (Ir_ (p.2:δ)) p.1) w
def b8n(c:δ)(ds:d!)(w:Wd):AH c dr_ w=AH H! ds (sF w (Ir_ gU_) d):=by delta AH;rw[VW,PZ]
def DX(os:j_):Wd:=os.foldl uj_ (Qn W0)
def a0d(ds:d!):∀(S:j_) (B:Int),O6 S B->0<=B->B+f_<=900->A!+f_<=900->vF_->DX (pS og!)=IH! AH O! ds (DX eb_):=by
 induction ds with
 |nil=>intro S B _ _ _ _ _;rfl
 |cons d ds ih=>
  intro S B h b0 b1 hl hd;rw[KW]at b1 hl;let gd:=hd d KM;let:=GT! gd λx hx=>hd x a9_;show DX (pS (Jj eb! ds))=_;rw[this,wP,b8n,c5w (o:=od!) h.hist.keys vH_ gd.ur λx hx k=>h.u6 x hx k _];congr 1;delta DX;rw[List.foldl_append,PZ,List.foldl_nil];congr 2;show D.tup oh_=_;congr 4;omega
def Qx(w:Wd)(i:D)(l:ab_):Wd:={w with txt:=λx=>if x=i then l else w.txt x}
def a3o(w:Wd)(i:D):Is! gV!=w:=by
 delta Qx;let:(λx=>if x=i then w.txt i else w.txt x)=w.txt:=funext λx=>by
  split
  .rename_i e;rw[e]
  .rfl
 rw[this]
def b0n(w:Wd)(i:D)(l l':ab_):Qx (Qx w i l) i l'=Qx w i l':=by delta Qx;congr 1;funext x;show(if x=i then l' else if x=i then l else w.txt x)=_;split<;>rfl
def a7m(w:Wd)(i:D)(l:ab_):(Qx w i l).txt i=l:=KQ χ
def b7j(hi:i∈w.its):sF w h7! (.tup jS!)=Qx w i vJ_:=by
 let e:sF w h7! (.tup jS!)=if i∈w.its then Is! vJ_ else w:=by kernel_rfl
 rw[e,KQ hi]
def d0s(hi:i∈w.its):sF w n vJ!=Qx w i vK_:=by
 let e:sF w n vJ!=if i∈w.its then Is! vK_ else w:=by kernel_rfl
 rw[e,KQ hi]
nonrec def cds(i:D)(rs:d8_):μ D:=rs.map λl=>.tup [c1!,i,vK!,.int (K!:δ)]
def c4y(s:Sn)(m:δ):((List.range (h1!).toNat).map λk=>D.tup [jA_,jB!,.int (s.k+(k:δ))])=(gT_).map Sn.v:=by delta rn;rw[MH];rfl
def c3b(rs:d8_):∀(c:δ) (w:Wd),i∈w.its->(∀l∈rs,∃s m,l=rn s aC!)->∃L,AH c fi_ w=Qx w i L/\sh L=(sh gV!).filter λx=>!decide vM_:=by
 induction rs with
 |nil=>intro c w hi _;exact#[w.txt i,(a3o w i).symm,(MY.mpr λx _=>by simp).symm]
 |cons l rs ih=>
  intro c w hi hr;let#[s,m,rfl]:=hr l KM;let#[L,e1,e2]:=ih H! (Is! (cutT ((gX!).map Sn.v) gV!)) hi λl hl=>hr l (KI _ hl)
  exact#[L,?_,?_]
  .show AH c (.tup [c1!,i,((gX!).headD dl!).v,.int ((gX!).length:δ)]::cds i rs) w=_;let hd:(gX!).headD dl!=s:=by rw[b4c];rfl
   rw[b8n,hd,iX];show AH H! fi_ (sF w _ (.tup [c1!,i,.tup uO!,.int vk!]))=_;rw[d0s hi,c4y,e1,b0n]
  .rw[e2,a7m,b7d,PJ,PU,LG];exact PB λx _=>?_;rw[NY];simp![LS,VN,PN,KS,SZ];exact And.comm
nonrec def zs(c:δ)(s:Str):μ bm_:=Ey! vO_
nonrec def bh(c:δ):D:=.tup vP!
nonrec def wds(i:D)(ss:w_):D->δ->μ D:=ss.rec (λ_ _=>[]) λs _ r b c=>.tup jS!::r jT! H!
def b0g(s:Str)(ss:w_):wds i jI_ b c=.tup jS!::wds i ss jT! H!:=χ
def NW(ss:w_):δ->μ bm_:=ss.rec (λ_=>[]) λs _ r c=>zs H! s++r H!
def d7h(s:Str)(ss:w_):NW jI_ c=zs H! s++NW ss H!:=χ
def JA(b:D)(u l:ab_):Prop:=y8!\/∃u' q,u=u'++[q]/\q.1=b/\b∉u'.map b_
def d0d(h:JA b u S_):wrT b nw S_=u++nw++v:=by
 obtain⟨e,h⟩|⟨u',q,e,hq,hn⟩:=h
 .subst e;delta wrT;rw[LB h];rfl
 .subst e;delta wrT;rw[KQ (ES! hq),LZ];show We b nw (u'++q::v)=_;rw[oC hq hn];simp
def Wq(c:δ)(l:ab_):Prop:=∀q∈l,∀(k:δ) (j:Int),c<k->q.1≠.tup [bs!,ig_,cz_]
def d0c(s:Str):Wq H! (zs H! s):=λq hq k j hk e=>by
 let#[_,_,_,rfl]:=a0f hq;simp![D.tup.injEq,NX,D.int.injEq]at e;omega
def c3z(h:E!=16):∃z q,zs c s=z++[q]/\q.1=bh c/\bh c∉z.map b_:=by
 let e:cZ!=16:=by rw[<-h];rfl
 obtain⟨l,a,e1⟩:∃l a,oj!=l++[a]:=by
  obtain z|z:=lG oj!
  .rw[z]at e;cases e
  .exact z
 let hl:K!=15:=by rw[e1,KO]at e;dsimp only[List.length_cons,List.length_nil]at e;omega
 exact#[l.zipIdx.map vO_,sgn 6 (c:δ) (a,15),?_,χ,bJ_]
 .delta zs;rw[e1,List.zipIdx_append,LG,hl];rfl
 .let#[q,hq,e2]:=LC.mp z;let#[#[x,k],hk,rfl]:=LC.mp hq;let:=List.mem_zipIdx hk;let e2:D.tup [bs!,.int (c:δ),ig_]=.tup vP!:=e2;show"#5"
def Wq.mono(h:Wq c l)(hc:c<=c'):Wq c' l:=λq hq k j hk=>h q hq k j a!
def Wq.app(h:Wq c l)(h':Wq c l'):Wq c (l++l'):=λq hq=>(KS.mp hq).elim (h q) (h' q)
def HE(ss:w_):Prop:=∀u s v,ss=u++s::v->v≠[]->E!=16
def a7e(ss:w_):∀(c:δ) (b:D) (w:Wd) (u v:ab_),i∈w.its->w.txt i=u++v->JA b u S_->Wq c S_->HE ss->AH c oj_ w=Is! (u++NW ss c++v):=by
 induction ss with
 |nil=>intro c b w u v hi e _ _ _;show w=Is! (u++[]++v);rw[LW,<-e,a3o]
 |cons s ss ih=>
  intro c b w u v hi e J hf hw;rw[b0g,b8n,b7j hi,e,d0d J];let e2:(Ey! (sgn 6 gU_))=zs H! s:=χ;rw[e2,d7h];by_cases z:ss=[]
  .subst z;show Is! ok!=Is! (u++(zs H! s++[])++v);rw[LW]
  .let Z1:=hw [] s ss χ z;let#[z0,q,e3,e4,e5]:=c3z Z1;let hf1:Wq H! ok!:=by
    let f1:Wq c u:=λq hq=>hf q (LN _ hq);let f2:Wq c v:=λq hq=>hf q (KY _ hq);exact((f1.mono (OO c)).app (d0c s)).app (f2.mono (OO c))
   rw[ih H! jT! (Is! ok!) (u++zs H! s) v hi (a7m _ _ _) (.inr #[u++z0,q,by rw[e3,LZ],e4,λy=>?_]) hf1 (λu' s' v' e' h'=>hw (s::u') s' v' (GP! e') h'),b0n]
   .simp only[LZ]
   .rw[LG,KS]at y;obtain y|y:=y
    .let#[q',aj,e']:=LC.mp y;exact hf q' (LN _ aj) H! 15 (RZ c) e'
    .exact e5 y
section
variable{W V:OW}
def d4o(c:δ)(s:Str):Gh_ (zs c s)=rn #[6,(c:δ),0] E!:=by
 delta zs;rw[b7c,MH,MH];delta rn;let e:E!=cZ!:=by rfl
 rw[e];generalize oj!=l;let:(List.map ((toSn∘λx:D×D×Bool=>x.1)∘sgn 6 (c:Nat)) l.zipIdx)=(l.zipIdx.map Prod.snd).map λk=>(#[6,(c:Nat),bL_]:Sn):=by
  rw[MH];rfl
 rw[this,List.zipIdx_map_snd,UP];exact NC λk _=>?_;rw[Int.zero_add]
def d7g(ss:w_):∀c:Nat,(vX!).length=(ss.map fF!).sum/\br ((vX!).map toSn)<=aU! - 1:=by
 induction ss with
 |nil=>intro c;exact#[χ,LJ _]
 |cons s ss ih=>
  intro c;let#[Y,h2]:=ih H!;let e:=d4o H! s;let el:(sh (zs H! s)).length=E!:=by let:=Ki_ e;rw[KP,iX]at this;exact this
  rw[d7h,jT];exact#[by rw[KO,Y,el];rfl,?_];rw[LG,e];by_cases z:ss=[]
  .subst z;show br (rn _ _++[])<=_;rw[LW,c9w];exact ML _
  .let:=jL (rn #[6,gU_,0] E!) (Gh_ (NW ss H!));rw[c9w]at this;let l1:1<=aU!:=SE.mpr z;rw[KW];omega
def tI(h:aM!):Qn W=DX eb_:=b7m h OB
def gA(hH:aq_)(h:aM!):Ru W om_/\∀x,∀q∈W.txt x,KB q.1:=by
 let nd:(om_).Nodup:=(vZ!).nodup vZ_;let#[Y,h2,_]:=b0x h b3k (λx q hq=>by exact(ei_).elim) nd λo _ z=>by exact(KN z).elim
 exact im!
def b8m(hH:aq_)(h:aM!)(hi:aN!):IH! Wq O! bF_:=λq hq k j hk e=>by
 let#[h',n,k',e1,e2]:=(gA hH h).1.sgs i hi q hq;rw[e]at e1;simp![D.tup.injEq,NX,D.int.injEq,VC]at e1;let#[o,ho,eo]:=LC.mp e2;show"#4";let hm:o∈hs S 6:=JX! #[a8e ho,i!];let#[p,hp,ep]:=RQ.mp hm;let:=(hH.ch 6).num p o (by rw[LL hp,ep]);omega
def d0m(w:Bv W)(hi:aN!):(F_).Nodup:=((SF).map _).nodup (w.snd i hi)
def a7n(w:Bv W)(hi:aN!):(jU!).map Sn.v=sns W i:=by rw[MH];exact(NC λx hx=>?_).trans (TB _);let#[q,hq,rfl]:=LC.mp hx;let#[a,b,c,e]:=w.sg i hi q (cd!).1;rw[e];rfl
def d0a(e:w'=Qx w i L):w'.its=w.its/\w'.txt i=L/\(∀(_:∀l,TT w.its (λx=>if x=i then l else w.txt x)=P++vs!),TT w'.its w'.txt=P++v0_):=by subst e;exact#[χ,a7m _ _ _,λh=>h L]
def c4a(h:bV!)(b0:bS_)(b1:dn_)(hl:A!<=800)(dh:aU!<=3)(hg:∀d∈wds i ss b (O!).length,Va d)(hW:aM!)(hi:aN!)(hw:HE ss)
  (hV:GJ! (Jj S op_)):i∈V.its/\(g0!).length=(F_).length+(ss.map fF!).sum/\br cK_<=br cL!+aU!+1:=by
 let hd:(op_).length=aU!:=by
  let:∀(ss:w_) (b:D) (c:δ),(oj_).length=aU!:=λss=>by
   induction ss with
   |nil=>intro b c;rfl
   |cons s ss ih=>intro b c;rw[b0g,KW,KW,ih]
  exact this ss _ _
 let#[u,v,e1,_,e3]:=iS b [] bF_;let hf:=b8m h.hist hW hi;let ep:=a0d _ S B h b0 a! a! hg;rw[<-tI hV,<-tI hW,a7e ss _ b d2! u v hi e1 Au! (Ev! e1 hf) hw]at ep;let#[P,Q,t1,t2]:=xA (txt:=W.txt) (v2!).1.inv.nd hi;let#[i1,i2,i3]:=d0a ep;let#[n1,n2]:=Lb_ d7g;let i3:=i3 t2;let i1:V.its=W.its:=i1;let i2:V.txt i=u++Lb_ NW++v:=i2;let i3:TT V.its V.txt=P++(HT! (u++NW ss (O!).length++v)):=i3;exact v3!
 .show(sh oq!).length=(sh bF_).length+_;rw[i2,e1,jT,jT,jT];simp![KO];omega
 .rw[i3,t1,e1,jT,jT,jT];simp![LG,LZ];let:=d3x (P++(sh u).map toSn) (Gh_ (Lb_ NW)) (HT! v);simp![LZ]at this;by_cases z:ss=[]
  .subst z;let e0:Gh_ (NW [] (O!).length)=[]:=χ;rw[e0,LY];omega
  .let l1:=SE.mpr z;omega
def c1z{B':aa_}(h:(A++(B'++C)).Nodup):(A++(B'++C)).filter (JY_ (x∈B'))=A++C:=by
 rw[MB]at h;let#[Y,h2,h3]:=h;rw[MB]at h2;rw[QM,QM,v7!,SO.mpr λx hx=>by simp[hx],v7!,LY]
 .simp only[VN,PN];exact λz=>h2.2.2 x z x hx χ
 .simp only[VN,PN];exact λz=>h3 x hx x dP! χ
def c8e(h:bV!)(b0:bS_)(b1:dn_)(hl:A!<=800)(hm:m<=20)(hW:aM!)(hi:aN!)(hp:p+m<=(F_).length)(hr:rs=H6_ g0_)(hg:∀d∈cds i rs,Va d)
  (hV:GJ! (Jj S fi_)):i∈V.its/\(g0!).length+m=(F_).length/\br cK_+aa!<=br cL!+2:=by
 let w:=(v2!).1.inv;let#[r1,r2]:=uJ g0_;let#[r3,r4]:=uI g0_;rw[<-hr]at r1 r2 r3 r4;let hlB:(g0_).length=m:=by simp![NV,OL,KP];omega
 let hd:(fi_).length=aa!:=KP _;let ep:=a0d _ S B h b0 a! a! hg;let#[L,l1,l2]:=c3b rs (O!).length d2! hi r2;rw[<-tI hV,<-tI hW,l1]at ep;let#[P,Q,t1,t2]:=xA w.nd hi;let#[i1,i2,i3]:=d0a ep;let i3:=i3 t2;let i1:V.its=W.its:=i1;let i2:V.txt i=L:=i2;let i3:TT V.its V.txt=P++v0_:=i3;let l2:sh L=(F_).filter λx=>!decide vM_:=l2;generalize eA:(F_).take p=A;generalize eB:((F_).drop p).take m=B' at *;generalize eC:((F_).drop p).drop m=C;let es:sns W i=A++(B'++C):=by rw[<-eA,<-eB,<-eC,QJ,QJ]
 let hB:g0_=B'.map toSn:=by rw[<-eB,List.map_take,List.map_drop]
 let hBv:(B'.map toSn).map Sn.v=B':=by
  let:=a7n w hi;rw[<-hB,List.map_take,List.map_drop,this,eB]
 rw[r1,hB,hBv,es,c1z (by rw[<-es];exact d0m w hi)]at l2;rw[hB,KP]at hlB;rw[hB]at r3;exact v3!
 .show(sh oq!).length+m=_;rw[i2,l2,es];simp![KO];omega
 .let t1:TT W.its W.txt=P++v8!:=t1;rw[i3,t1,l2,es];simp![LG,LZ];let:=d3y (P++A.map toSn) (B'.map toSn) (C.map toSn++Q);simp![LZ]at this;omega
end
nonrec def pcs(l:o!):μ Str:=(v9!).map λj=>wb!
section
variable{l:List Nat}
def a8d(j:δ):(wa_).length=min 16 (K! - 16*j):=by simp[Str.length]
def c5u:((fl!).map fF!).sum=K!:=by
 let h:∀p,(((Fv_ p).map λj=>wa_).map fF!).sum=(l.take (16*p)).length:=λp=>by
  induction p with
  |zero=>rfl
  |succ p ih=>
   rw[WD,LG,LG,List.sum_append,ih,Nat.mul_succ,List.take_add,KO];congr 1
 delta pcs;rw[h,OX a!]
def c5t:HE fl!:=λu s v e hv=>by
 let Y:fl![bt_]?=ψ s:=by rw[e];simp
 let h2:(fl!).length=bt_+1+lR!:=by rw[e];simp![KO,KW];omega
 let h3:1<=lR!:=SE.mpr hv;delta pcs at Y h2;rw[KP,NI]at h2;rw[MO,List.getElem?_range a!]at Y;let Y:=MQ Y;rw[<-Y,a8d];omega
def a0u(hl:l.all Ja=τ)(hn:K!<=40):(fl!).length<=3/\∀s∈pcs l,Ge s=τ/\1<=E!/\E!<=16:=by exact#[by delta pcs;rw[KP,NI];omega,λs hs=>?_];let#[j,hj,rfl]:=LC.mp hs;let hj:=RY.mp hj;rw[a8d];exact#[?_,i!,i!];delta Ge;rw[a8d,LM a!,VF];rw[OC]at hl ⊢;exact λx hx=>hl x (RP (SY hx))
end
def FO(s:Sn):Prop:=0<=s.h/\s.h<16/\1<=s.n/\s.n<=2000/\0<=s.k/\s.k<=15
def FO.t(h:FO s):Vj s.v:=#[_,_,_,χ,h.1,h.2.1,h.2.2.1,h.2.2.2.1,h.2.2.2.2.1,h.2.2.2.2.2]
def b6y(hH:aq_)(hW:aM!)(hi:aN!):∀s∈(F_).map toSn,FO s:=λs hs=>by
 let#[x,hx,rfl]:=LC.mp hs;let#[q,hq,rfl]:=LC.mp hx;let hq:=(cd!).1;let#[w,kb]:=gA hH hW;let#[h,n,k,e1,e2]:=w.sgs i hi q hq;let hk:=kb i q hq h n k e1;let#[o,ho,eo]:=LC.mp e2;let f:=JY! a8e;show"#4";rw[e1];let Y:=f.hh;let h2:=f.n1;let h3:=f.n2;exact#[show 0<=h by omega,show h<16 by omega,show 1<=n by omega,show n<=2000 by omega,hk.1,hk.2]
def wds_gd(hi:Bg i)(ss:w_):∀(b:D) (c:δ),Hv b->c+aU!<=1990->(∀s∈ss,Ge s=τ/\1<=E!/\E!<=16)->∀d∈wds i ss b c,Va d:=by
 induction ss with
 |nil=>intro b c _ _ _ d hd;exact(KN hd).elim
 |cons s ss ih=>
  intro b c J hc hs d hd;rw[KW]at hc;let#[Y,h2,h3]:=hs s KM;rw[b0g]at hd;obtain z|z:=KR.mp hd
  .rw[z];exact#[.write hi J Y h2 h3,χ]
  .exact ih jT! H! (.inr #[6,gU_,15,χ,T!,T!,i!,i!,T!,T!]) a! (λs c7=>hs s (KI _ c7)) d z
def c3i(hi:Bg i)(h:∀l∈rs,(∃s m,l=rn s aC!)/\∀u∈l,FO u):∀d∈cds i rs,Va d:=λd hd=>by
 let#[l,hl,rfl]:=LC.mp hd;let#[#[s,m,rfl],J]:=h l hl;let Y:=J s (zG_ b4c KM);let h2:=J cI_ (EQ! a7v);let hd:(gX!).headD dl!=s:=by rw[b4c];rfl
 let h3:s.k+(m:δ)<=15:=h2.2.2.2.2.2;rw[hd,iX];exact#[.cut hi Y.t a! a!,χ]
nonrec def nmsL(c n:δ):μ D:=(hl_).map λj=>Ir_ (1+((c+j:δ):Int))
def a1b(c n:δ):nmsL c aV_=.tup [bs!,wg_]::nmsL H! n:=by delta nmsL;rw[SN,LA,MH];congr 1;exact NC λj _=>?_;show D.tup [bs!,.int (1+((c+I_:δ):Int))]=_;rw[show c+I_=c+1+j by omega]
def d7c(c:δ):D.tup [bs!,wg_,gm_]=bh H!:=by delta bh;rw[show gU_=1+(c:δ)by omega]
def Bp.upd(hA:al_)(hp:wh_)(hw:p≠wa):Km! qo_ out:=by let#[ep,ht]:=hA.tk;let k:∀b,b≠p->G2_ c b=M b:=λb J=>mup_ne J;exact{hA with ob:=(k a λz=>hp qW_).trans hA.ob,tk:=#[ep,(k ta λz=>hp (.inr qW_)).trans ht],wt:=(k wa (MD hw)).trans hA.wt,cl:=λh hh=>(k _ λz=>hp (Er_ #[h,hh,z.symm])).trans iW!}
def Yh(a ta p:sS!)(M:Mh)(kl:s_)(ca:bv!)(M':Mh)(ao:s_)(ar:bv!):Prop:=∀b,M b≠υ->¬EQ_ a b->b≠p->M' b=M b/\¬Tr a ta ao ar b
def b2a(q9:p≠wa)(h:ed!)(hO:bV!)(b0:bS_)(b1:B<=900)(hl:A!<63)(gd:Va d)(hp:M p=ψ ed_)(f7:wh_)
  (hR:∀M1 g8 g9,M1 p=ψ ed_->Ep_ wj_ eb! g8 g9->¬Tr a ta g8 g9 p->EG_ wj_ g8 g9->R (.tup oh_) M1):Mc t [aK!,d] M R:=by
 let#[out,hA]:=h.hd;exact c6o hA hO.hist hl λM1 g8 g9 du hK=>?_;let#[ep,um]:=hK p m3! f7;exact hR M1 g8 g9 (ep.trans hp) ((du.upd um q9).hr (hO.add b0 b1 a! gd).hist aU_) um λb J ho hne=>?_;let#[e,o]:=hK b J ho;exact#[(Eo! hne).trans e,o]
def Yh.trans{M1 M2:Mh}(Y:EG_ M1 g8 g9)(h2:Yh a ta p M1 g8 g9 M2 v6 v7):EG_ M2 v6 v7:=λb J ho hne=>by
 let#[e,o]:=Y b J ho hne;let#[e2,o2]:=h2 b (zG_ e J) o hne;exact#[e2.trans e,o2]
def JD(t:Bo):WS:=(Af vL!
 (Af vL_
 vM!))
def b6z(e1:ou_)(e2:g ρ=ψ aH_)(e3:h ρ=ψ bO_)(e:Nc fl_ (ψ j) lS_=ψ s):Nj f (Aq g) (Aq h) ρ=ψ s:=by delta Nj Aq;rw[e1,e2,e3];exact e
def c4d(q9:p≠wa)(ps:μ jY_):∀(S:j_) (kl:s_) (ca:bv!) (B:Int) (b:D) (bp:d!) (y7 y8:G_) (M:Mh) (R:p_),Kv_ M->O6 S B->0<=B->B+P_<=900->A!+P_<=63->(∀d∈wds i jZ! b (O!).length,Va d)->M p=ψ ed_->¬EQ_ a p->fm!+P_<1000->wm!->
  (∀M' ao ar b' pe XW,Kn! (JZ! jZ! b)->M' p=Kk_ P_->K7_ M'->Kx! [y!,A_,b3_,fm_,fn!,ψ b',N!,pe,XW])->
  Fe gV_ Q_ (JD t) wn_ (IL! y7) M R:=by
 induction ps with
 |nil=>
  intro S kl ca B b bp y7 y8 M R h hO _ _ _ _ hp f7 _ _ hR;exact#[ο,hR M kl ca b y7 y8 h wo! λb J ho _=>#[χ,ho]]
 |cons q ps ih=>
  intro S kl ca B b bp y7 y8 M R h hO b0 b1 hl hg hp f7 hn xq hR;show"#@";let e:Ay vI_ (IL! wo_)=EB! ov!:=LM! kJ (bI χ (Gx! xq));let oq:∀d∈D.tup ov!::wds i jZ! (bh jZ_) jZ_,Va d:=hg;let gd:=oq _ KM;exact eV (qL χ e wq!);exact b0t ?_;rw[aD_];exact wZ d8 χ an! ?_;delta Ak;exact aP (d:=.tup [bs!,.int (1+gU!),gm_]) χ _ ?_;rw[d7c];let e6:=wP (S:=S) (d:=.tup ov!);exact ih _ g8 g9 a8_ (bh jZ_) _ _ _ _ R Y j0! a! a! aU_ (HT_ oq) mup_same um aU_ (λq' aj=>xq q' (KI _ aj)) λM' ao ar b' pe XW h' bn k9=>?_;rw[e6]at h' bn;exact hR M' ao ar b' pe XW h' ?_ (j9.trans k9);rw[bn,KW,a1b,LZ];rfl
section
variable{t:Bo}{M:Mh}{ρ:Ag}{a ta wa p:sS!}{S:List Op}{kl:List Int}{ca:Int->Addr}{W:OW}{i:D}{tx:Str}{B pl:Int}
nonrec def bAt(xs:d!)(pl:Int):D:=if 0<pl then(xs[(j0_).toNat]?).getD .non else .non
def c3v{xs:d!}{fp fx:p!}(Y:fp ρ=BA! pl)(h2:fx ρ=ψ V!)(h:pl<=h_):Wf (fT (Lp_ fp)) (f2 Ah fx (f2 Gu fp r!)) bl! ρ=ψ (bAt xs pl):=by
 let e:Lp_ fp ρ=CH! (0<pl):=Fh_ Y;delta Wf bAt;rw[gG e];by_cases c:0<pl
 .rw[LM c,KQ c];exact aT h2 (Fh_ Y) ?_;show Ff xs j0_=_;show"#0";rw[ad!,ad!];show xs[(j0_).toNat]?=_;rw[LL a!];rfl
 .rw[LD c,LB c];rfl
def bAt_sg(hH:aq_)(hW:aM!)(hi:aN!):Hv ov_:=by
 delta bAt;split
 .cases e:F_[(j0_).toNat]? with
  |none=>exact .inl χ
  |some x=>
   let hx:=QQ e;let Y:=b6y hH hW hi (toSn x) (LK hx);let#[q,hq,rfl]:=LC.mp hx;let#[a,b,c,eq]:=(gA hH hW).1.inv.sg i hi q (cd!).1;exact .inr ?_;let:(toSn q.1).v=q.1:=by rw[eq];rfl
   let h2:=Y.t;rw[this]at h2;exact h2
 .exact cw!
def d4e(h:Ge tx=τ){f:p!}(hf:ou_):Dy (fT (f1 Pv ws!)) ρ=ψ false:=by
 delta Ge at h;rw[LS,LV]at h;let hl:bj_<=big:=by delta big;omega
 let hc:=wU tx.cps.toList h.2;let hz:dp_<=big:=by simpa[Str.length]using hl
 let hi:Rk f ρ=ψ ws_:=by
  delta Rk;rw[hf];rfl
 let v5:E3! (Rk f) cD_ ρ=o8! (tx.cps.toList.map λ_=>.bl τ):=by
  delta Cn;rw[hi];show(if(ws_).length<=big then Option.map D.lst (Gm! (tx.cps.toList.map λc=>.str ak!))else υ)=_;rw[KP,KQ hz,hc];rfl
 let ha:f1 Pv ws! ρ=ψ x!:=by
  rw[zK (oP v5)];show JV_ (tx.cps.toList.map λ_=>D.bl τ)=_;rw[wY];simp
 delta Dy;rw[gG ha];rfl
nonrec def prs(l:o!):μ jY_:=(v9!).map λj=>(0+(j:δ)*16,wb!)
def prs_2(l:o!):(prs l).map F!=pcs l:=by delta prs pcs;rw[MH];rfl
def b8k(hl:bj_<=big):∀q∈prs g5_,Nc fl_ (ψ q.1) wl_=ψ (.str q.2):=λq hq=>by
 let#[j,_,rfl]:=LC.mp hq;show Uv tx (0+(j:δ)*16) (ψ (0+(j:δ)*16+16))=FN! #[((tx.cps.toList.drop (16*j)).take 16).toArray];delta Uv;rw[KQ #[i!,hl]];show(if(0:Int)+(j:δ)*16<=0+(j:δ)*16+16 then _ else _)=_;rw[ad!,show((0:Int)+(j:δ)*16).toNat=16*j by omega,show((0:Int)+(j:δ)*16+16).toNat - 16*j=16 by omega]
def b7o{f:p!}(hf:ou_)(hl:bj_<=1000):Pn B_ (f1 Be qa_) bx_ ρ=ψ ((ow_).map λq=>.int q.1):=by
 let e:f1 Be qa_ ρ=BA! fo_:=by
  rw[zK (oP hf)];show wy!=_;rw[dC!]
 delta Pn;rw[e];show(Gn! (Og 0 16 (szS 0 fo_ 16)))=_;rw[ad!];let en:szS 0 fo_ 16=(dp_+15) / 16:=by
  let hl:bj_=dp_:=by rfl
  delta szS;rw[<-hl];split<;>omega
 rw[en];delta Og prs;rw[MH];rfl
def b1f(l:o!):(prs l).length=(fl!).length:=by delta prs pcs;rw[KP,KP]
def b3n{R:Y!}{E:EK}(h:ed!)(hO:bV!)(b0:bS_)(b1:dn_)(hW:aM!)(hi:Bg i)(hp:wp!)(p0:0<=pl)(ht:Ge tx=τ)(tl:bj_<=40)(hl:i∈W.its->pl<=(F_).length->A!+(dq!).length<=63)
  (hR:i∈W.its->pl<=(F_).length->∀p M' ao ar,M p=υ->Kn! (JZ! dq! ov_)->M' p=KL! dq!->K7_ M'->R u! M')
  (hE:¬(Jm_ pl)->∀M',Kv_ M'->jd_->Ho! E):Po t [aK!,i,.int pl,.str tx] M R E:=by
 let wi:=(ox!).1.inv;exact j!;exact Kc! (uG (h.q W hW).of wi hi hp wz_ λhn M1 hq=>hE (λz=>hn #[z.1,p0,z.2]) M1 ox_ hq.2);exact I2! (d4e ht χ);exact fB (c3v χ χ ay.2) ?_;exact a0m λp d8=>?_;let l8:∀b,M1 b≠υ->Jd_ aQ_ b=M1 b:=λb J=>Lb! J d8;let Y:=hq.1.hr hW hO.hist;let h2:=Y.keep l8;let#[out,du]:=Y.hd;let#[ep,jr]:=du.tk;let pa:p≠a:=λz=>by let:=du.ob;rw[<-z,d8]at this;rcases this
 let f7:¬EQ_ a p:=λz=>by
  obtain z|z|⟨h',hh,z⟩:=z
  .exact pa z
  .rw[<-z,d8]at jr;rcases jr
  .show"#D"
 let hM:=QO λz=>by let:=hq.2 p z pa;rw[d8]at this;exact z this.symm
 let l0:=hl hx ay.2;let b9:bj_=dp_:=by rfl
 let v9:=a0u (by delta Ge at ht;rw[LS]at ht;exact ht.2) a!;let pl3:=b1f g5_;exact oW (b7o χ a!) (c4d (λz=>by let:=du.wt;rw[<-z,d8]at this;rcases this) ow_ S kl ca B ov_ [] υ υ _ _ h2 hO b0 a! a! (by rw[prs_2];exact wds_gd hi _ _ _ (bAt_sg hO.hist hW hx) (by let:=oE S 6;omega) v9.2) mup_same f7 g6! (b8k an!) λM' ao ar b' y7 y8 h' bn k9=>?_);rw[prs_2]at h';rw[LY,pl3]at bn;exact dF e! (hR hx ay.2 p M' ao ar hM h' bn λb J ho hne=>?_);show"#=";let#[e3,o3]:=k9 b wB! ho hne;exact#[e3.trans (e2.trans e1),o3]
end
def c5d(Y:Eg! f d1)(h2:Eg! g d2)(h3:Eg! h d3)(h4:Eg! k d4):Eg! (Mx (Ab f (Ab g (Kh! h k)))) (.tup [d1,d2,d3,d4]):=λK hK=>by
 exact HB_ (h3 _ (h4 _ #[Ed_,hK]))
def c1e(h:j<h_):Ah V! mN!=ψ xs[j]:=by show Ff xs (j:δ)=_;delta Ff Jz;rw[ad!,ad!];show xs[(lP_).toNat]?=_;rw[QV,LL h]
def HB(t:Bo):WS:=vV_
def c8g(q9:p≠wa)(ya:pr≠p)(rest:nW_):∀(S:j_) (kl:s_) (ca:bv!) (B:Int) (bp:d!) (y6:G_) (M:Mh) (R:p_),Kv_ M->O6 S B->0<=B->B+e5!<=900->A!+e5!<=63->(∀d∈cds i (rest.map F!),Va d)->M p=ψ ed_->¬EQ_ a p->fm!+e5!<1000->M pr=o8! all->¬EQ_ a pr->
  (∀q∈rest,M q.1=ψ uS!/\¬EQ_ a q.1/\q.1≠p/\q.2≠[])->
  (∀M' ao ar ph,Kn! (Jj S (cds i (rest.map F!)))->M' p=Kk_ e5!->K7_ M'->Kx! (L0_ ph))->
  Fe gX_ (λM=>M pr=o8! all) (HB t) (rest.map λq=>.fn q.1) (L0_ y6) M R:=by
 induction rest with
 |nil=>
  intro S kl ca B bp y6 M R h hO _ _ _ _ hp f7 _ wb _ _ hR;exact#[wb,hR M kl ca y6 h wo! λb J ho _=>#[χ,ho]]
 |cons q rest ih=>
  intro S kl ca B bp y6 M R h hO b0 b1 hl hg hp f7 hn wb XX hq hR;rw[KW]at b1 hl hn;exact#[wb,?_];let#[c1,c2,c3,c4]:=hq q KM;let gd:=hg _ KM;show HB t wJ! M _;delta HB Bb Em;rw[aD_,iU hp];exact eL ?_;let e1:Bl M (.fn q.1) P!=H5_ wK!:=by
   simp![Bl,c1];cases e:q.2 with
   |nil=>exact HZ_ c4
   |cons s l=>exact c1e c_
  let e2:Jw M [.fn q.1]=ψ (.int (f0!:δ)):=by simp[Jw,Qz,c1]
  let hT:Pu vU_ wJ! M (.tup wL_):=c5d e! e! (eG e! e! e1) (a4e e! e2);exact a2y e! hT wq!;rw[iU d8];exact eL #[wN!,?_];let e6:=wP (S:=S) (d:=.tup wL_);let#[r1,r2]:=j9 pr (EQ! wb) XX ya;exact ih _ g8 g9 a8_ _ _ _ R Y j0! a! a! aU_ wP_ mup_same um aU_ (r1.trans wb) r2 (λq' aj=>?_) λM' ao ar ph h' bn k9=>?_
  .let#[g1,g2,g3,g4]:=hq q' (KI _ aj);let#[s1,s2]:=j9 q'.1 (EQ! g1) g2 g3;exact#[s1.trans g1,s2,g3,g4]
  .rw[e6]at bn;exact hR M' ao ar ph h' ?_ (j9.trans k9);rw[bn,KW,a1b,LZ];rfl
def c8f(m:δ):∀p:Nat,p+m<=h_->Ck t_ W! ok_ [υ,gE_] ((gA!).map λk=>.int wR_)=ψ (Jo_ p m):=by
 induction m with
 |zero=>intro p _;rfl
 |succ m ih=>
  intro p h;let e1:(Fv_ aC!).map (λk=>D.int wR_)=.int (p:δ)::(gA!).map λk=>.int wT_:=by
   rw[SN,LA,MH];exact Em_ (List.cons _) (NC λk _=>?_);show D.int ((p:Int)+re!)=_;congr 1;omega
  let e2:f2 Ah u_ l_ [oA!,gE_]=ψ xs[p]:=Kl_ (c1e a!);rw[e1];delta Ck;show((f2 Ah u_ l_ [oA!,gE_]).bind λy=>(KF_ [υ,gE_] ((gA!).map λk=>.int wT_)).map fw_)=_;rw[e2,ih (p+1) a!,OK (i:=p) a!];rfl
def c8b(h:ed!)(hO:bV!)(b0:bS_)(b1:dn_)(hW:aM!)(hi:Bg i)(hp:j4!)(hm:m0<=20)(hl:i∈W.its->p0+m0<=(F_).length->A!+(j4_).length<=63)
  (hR:i∈W.its->p0+m0<=(F_).length->∀p M' ao ar,M p=υ->Kn! (Jj S (cds i j4_))->M' p=KL! j4_->K7_ M'->R u! M')
  (hE:¬(Iy_ m0)->∀M',Kv_ M'->jd_->Ho! E):Us t [aK!,i,j5!,.int (m0:δ)] M R E:=by
 let wi:=(ox!).1.inv;exact j!;exact Kc! (uG (h.q W hW).of wi hi a! wz_ λhn M1 hq=>hE (λz=>hn #[z.1,i!,i!]) M1 ox_ hq.2);let eg:f2 Rm bW! dm! [y!,A_,ψ ha_,wZ_,j5_,υ,υ]=CH! (w0!<(p0:Int)+(m0:δ)):=Fh_ et!;by_cases c:p0+m0<=(F_).length
 .rw[LD a!]at eg;exact I2! (gG eg);exact a0m λp d8=>?_;let l8:∀b,M1 b≠υ->Jd_ aQ_ b=M1 b:=λb J=>Lb! J d8;let Y:=hq.1.hr hW hO.hist;let#[out,du]:=Y.hd;let#[ep,jr]:=du.tk;let pa:p≠a:=λz=>by let:=du.ob;rw[<-z,d8]at this;rcases this
  let f7:¬EQ_ a p:=λz=>by
   obtain z|z|⟨h',hh,z⟩:=z
   .exact pa z
   .rw[<-z,d8]at jr;rcases jr
   .show"#D"
  let q9:p≠wa:=λz=>by let:=du.wt;rw[<-z,d8]at this;rcases this
  let hM:=QO λz=>by let:=hq.2 p z pa;rw[d8]at this;exact z this.symm
  let ec:KY_ 1 w1!=Ky! oA_ Sn.v:=by
   let er:Ma x_ bW! w1!=ψ w2_:=by
    show(Gn! (Oh (p0:δ) (w3_).toNat))=_;rw[ad!,show(w3_).toNat=m0 by omega];rfl
   delta Cn;rw[er];show(if((w1_).map λk=>D.int w2!).length<=big then Option.map D.lst (KF_ [υ,j5_] w2_)else υ)=_;rw[I2_ KP NI,c8f m0 p0 c,List.map_take,List.map_drop,a7n wi hx];rfl
  delta Af Cu Br;exact wX ec (a7s (by simp![NV];omega) λpr σ M2 XY ye zc hne j9=>?_);let tz:=(j9 p rY_).trans mup_same;let rpp:pr≠p:=λz=>by rw[z,mup_same]at ye;rcases ye
  let h2:=(Y.keep l8).keep j9;let#[out2,uk]:=h2.hd;let#[m9,XB]:=uk.tk;let XX:¬EQ_ a pr:=λz=>by
   let XZ:∀b,M1 b≠υ->pr≠b:=λb J e=>by rw[e,l8 b J]at ye;exact J ye
   obtain z|z|⟨h',hh,z⟩:=z
   .exact XZ a (EQ! du.ob) z
   .exact XZ ta (EQ! jr) z
   .exact XZ _ (by rw[du.cl h' hh];simp) z
  let X0:=zc;let lacc:aB_=(j4_).length:=by rw[<-X0,KP]
  let l0:=hl hx c;let gds:∀d∈cds i n2!,Va d:=c3i hi λl hl=>by
   rw[X0]at hl;let#[f1,f2]:=uJ oA_;exact#[f2 l hl,λu hu=>b6y hO.hist hW hx u ?_];let:u∈(fp!).take m0:=by rw[<-f1];exact HU! l
   exact RP (SY this)
  show(match M2 pr with|some (.lst xs)=>_|_=>False);rw[XY.pc];exact c8g q9 rpp σ S kl ca B [] υ M2 _ h2 hO b0 a! a! gds tz f7 g6! XY.pc XX (λq aj=>?_) λM' ao ar y6 h' bn k9=>?_
  .let hc:=XY.ce q aj;let hn:=hne q aj;let#[s,l,es]:=List.exists_cons_of_ne_nil hn;rw[es]at hc;exact#[by rw[es];exact hc,bJ_,(λz=>by rw[z,tz]at hc;cases hc),hn];obtain z|z|⟨h',hh,z⟩:=z
   .rw[z,uk.ob]at hc;rcases hc
   .rw[z,XB]at hc;rcases hc
   .rw[z,uk.cl h' hh]at hc;let hc:=Dh.lst.inj (MQ hc);cases e:hs S h' with
    |nil=>rw[e]at hc;rcases hc
    |cons o l'=>
     rw[e,LA,LA]at hc;let:=(List.cons.inj hc).1;simp[Op.v,Sn.v]at this
  .rw[X0]at h';rw[LY,lacc]at bn;exact dF e! (hR hx c p M' ao ar hM h' bn λb J ho hne'=>?_);show"#=";let e3:=j9 b wB!;let#[e4,o4]:=k9 b (by rw[e3,e2,e1];exact J) ho hne';exact#[e4.trans (e3.trans (e2.trans e1)),o4]
 .rw[LM a!]at eg;delta Af;exact kM (dS (gG eg)) #[#[#[.int (m0:δ),χ,c0f a!],#[i,χ,wI hi],#[j5!,χ,c0f a!],ο],λ_=>hE uN_ M1 ox_ hq.2]
inductive Wy where
 |wr (tx:Str)
 |ct (m:δ)
nonrec def Wy.w:Wy->Int
 |.wr _=>0
 |.ct _=>1
nonrec def Wy.m:Wy->D
 |.wr tx=>.str tx
 |.ct m=>.int (m:δ)
nonrec def Wy.gd(W:OW)(i:D)(p0:δ):Wy->ν
 |.wr _=>i∈W.its/\p0<=(F_).length
 |.ct m=>i∈W.its/\p0+m<=(F_).length
nonrec def Wy.ds(W:OW)(i:D)(p0 c:δ):Wy->μ D
 |.wr tx=>wds i dq! xb! c
 |.ct m=>cds i hc_
nonrec def Wy.ok:Wy->ν
 |.wr tx=>Ge tx=τ/\bj_<=40
 |.ct m=>m<=20
def oQ(ss:w_):∀(b:D) (c:δ),(oj_).length=aU!:=by
 induction ss with
 |nil=>intro b c;rfl
 |cons s ss ih=>intro b c;rw[b0g,KW,KW,ih]
def qJ(rs:d8_):(fi_).length=aa!:=KP _
section
variable{y:Wy}
def d0i(h:ed!)(hO:bV!)(b0:bS_)(b1:dn_)(hW:aM!)(hi:Bg i)(hp:j4!)(hy:y.ok)(hl:xb_)
  (hR:Ho_ y.gd->∀p M' ao ar,M p=υ->Kn! mH_->M' p=ψ oE_->K7_ M'->R u! M')
  (hE:¬Ho_ y.gd->∀M',Kv_ M'->jd_->R oU_ M'):Ro t [aK!,.int y.w,i,j5!,y.m] M R:=by
 exact j!;exact Hl_ fB;delta Af AW;cases y with
 |wr tx=>
  let hl:i∈W.its->p0<=(F_).length->A!+(dq!).length<=63:=λY h2=>by let:=hl im!;rw[xd!]at this;exact this
  exact kM fr_ ?_;delta Ak;exact E7_ c3o χ χ (b3n h hO b0 b1 hW hi a! a! hy.1 hy.2 (λY h2=>hl Y a!) xe_ λhn M' g1 g2=>c1m (hE (λz=>hn #[z.1,by let:=z.2;omega]) M' g1 g2));exact HC! #[Y,i!] xd!
 |ct m=>
  exact lN fr_ ?_;delta Ak;exact E7_ c3o χ χ (c8b h hO b0 b1 hW hi hp hy (λY h2=>by let:=hl im!;rw[xg!]at this;exact this) xe_ λhn M' g1 g2=>c1m (hE hn M' g1 g2));exact HC! im! xg!
end
def CK(ss:w_):D->δ->μ D:=ss.rec (λ_ _=>[]) λs _ r b n=>.tup [b,b3!]::r xg_ aV_
def d6r(s:Str)(ss:w_)(b:D)(n:δ):CK jI_ b n=.tup [b,b3!]::CK ss xg_ aV_:=χ
def Uu(rs:d8_):μ D:=rs.map λl=>.tup [vK!,.int (K!:δ)]
section
def b7e(h:s ρ=ψ bs_)(k:q ρ' M R):ER! (Rt s) q:=by delta Af Rt;rw[h];exact k
def JZ:WS:=(Af xD!
 xF!)
def c7q(ps:μ jY_):∀(σ:d!) (b:D) (y5:G_) (R:p_),wm!->aB_+P_<1000->
  (∀b' uj,EI! [R!,ψ xs,b3_,fm_,ψ (.lst (σ++CK jZ! b aB_)),uj,ψ b',y7] M)->
  Fe (Bu 5) Q_ JZ wn_ (Is_ y5) M R:=by
 induction ps with
 |nil=>intro σ b y5 R _ _ hR;exact#[ο,by let:=hR b y5;rw[show σ++CK (List.map (λx=>x.2) ([]:μ jY_)) b σ.length=σ from LW _]at this;exact this]
 |cons q ps ih=>
  intro σ b y5 R hq hl hR;rw[KW]at hl;exact aB!;let e:Ay xC! (Is_ wo_)=EB! oI_:=kJ (Gx! hq) χ;exact Kc_ e;delta Ak;exact aP (E7_ b2v) _ ?_;exact ih (σ++[.tup oI_]) _ _ R (λq' h'=>hq q' (KI _ h')) aU_ λb' uj=>?_;let:=hR b' uj;rw[LA,d6r]at this;let el:(σ++[D.tup oI_]).length=aB_+1:=by rw[KO];rfl
  rw[el,LZ];show"#;"
def d5c(u v:Sn):Au u.v v.v=CH! (u=v):=by show Au nU! (.tup [.int v.h,.int v.n,.int v.k])=_;delta Au;exact(bq_).trans ?_;congr 2;rw[NY];cases u;cases v;simp[Dt,Ig]
def d5b{s:Sn}(Y:g ρ=ψ s.v)(h2:hh ρ=ψ aH_):f2 Al (FQ! g) (FI_ g hh) ρ=ψ (Sn.mk s.h s.n (s.k+j)).v:=by
 let e1:FQ! g ρ=EB! [jA_,jB!]:=by
  delta Fh;rw[Y];rfl
 let e2:LC_ g ρ=BA! s.k:=Fh_ Y;exact aT e1 (kJ (Mc_ (aT e2 h2 χ)) χ) χ
def b7k(s:Sn)(j:δ):∀rest:List Sn,H6_ (rn s I_++rest)=runsF [rn s I_] rest:=by
 induction j with
 |zero=>intro rest;rw[b4d];exact uL s rest
 |succ j ih=>intro rest;rw[show rn s (j+1+1)++rest=rn s I_++(oK_::rest)by rw[a7v s I_,LZ];rfl,ih];exact b0w s j rest
def IL:WT:=Cc xJ_
abbrev rE(F:af!)(p m:δ)(σ:d!)(k:δ)(y6 y7:G_):Ag:=[ψ bi!,ψ xn_,oA!,ψ Bl_,oH_,ij!,y6,y7]
variable{F:List Sn}
def d4d(h:F[j]?=ψ u):Ah xn_ mN!=ψ u.v:=by let#[hj,e]:=LH.mp h;rw[c1e (zG_ KP hj),List.getElem_map,e]
def b0f(h:q3!)(k:q ρ M Ck_):IF! aV_:=by exact h _ ?_;rw[y_];exact k
def tE(h:ii!)(k:R Z! M):IF! aV_:=by exact h _ ?_;rw[aW_];exact k
def c6z(hk:F[k]?=ψ s)(he:xo_)(rest:af!):∀(j:δ) (R:p_),(kb_).take hd_=rn s I_++rest->(∀j' rest',(kb_).take hd_=rn s (j'+1)++rest'->(∀u l,rest'=u::l->¬u=#[s.h,s.n,s.k+xp_])->R (.nx (rE F p m σ k y6 (BA! xp_))) M)->
  Bx IL oP_ (e5!+1) hf! M R:=by
 induction rest with
 |nil=>
  intro j R hB hR;let hl:=Ki_ hB;rw[KO,iX,NV,OL]at hl;dsimp only[List.length_nil]at hl;let e1:Hp! hh! hf!=ψ I!:=E7_ aT (by
   show xr!;rw[LD a!])
  exact tE (dS (by delta Ep;rw[gG e1];rfl)) (hR j [] hB λu l e=>by rcases e)
 |cons u rest ih=>
  intro j R hB hR;let hl:=Ki_ hB;rw[KO,iX,NV,OL,KW]at hl;let e1:Hp! hh! hf!=ψ x!:=E7_ aT (by
   show xr!;rw[LM a!])
  let hu:F[k+I_]?=ψ u:=by
   let e:xs![j+1]?=ψ u:=by rw[hB,MZ oL_,iX,Nat.sub_self];rfl
   rw[uo!,VD]at e;exact e
  let e2:f2 Au xI! xJ! hf!=CH! (u=oK_):=aT (Kl_ (d4d hu)) (d5b (Kl_ (d4d hk)) χ) (d5c _ _);by_cases c:u=oK_
  .rw[LM c]at e2;exact b0f xu_ ?_;delta Ak;exact aP χ _ ?_;exact ih I_ R (by rw[hB,c,a7v s I_,LZ];rfl) hR
  .rw[LD c]at e2;exact tE xu_ (hR j (u::rest) hB λu' l e=>?_);rw[<-(vo_).1];exact c
def JN:WS:=(GW_ 7 d7! (Af (Fj IL oP_)
 (Af xM!
 xN!)))
def b9e(he:xo_)(hm:m<=20)(n:δ):∀(k:δ) (σ:d!) (y6 y7:G_) (R:p_),p<=k->k<=p+m->p+m - k<=n->aB_+hd_<1000->(∀k' ph pe,R (.nx (rE F p m (σ++Uu (H6_ xs!)) k' ph pe)) M)->
  Bx xG_ JN aV_ oM_ M R:=by
 induction n with
 |zero=>
  intro k σ y6 y7 R Y h2 h3 h4 hR;let e1:Hp! J! oM_=ψ I!:=E7_ aT (by
   show xx_;rw[LD a!])
  show"!["
 |succ n ih=>
  intro k σ y6 y7 R Y h2 h3 h4 hR;let e1:Hp! J! oM_=CH! (k<p+m):=E7_ aT (by
   show xx_;congr 2;rw[NY,LV,LV];omega)
  by_cases c:k<p+m
  .rw[LM c]at e1;exact b0f oN! ?_;obtain⟨s,hs⟩:∃s,F[k]?=ψ s:=#[_,LL a!];exact Hl_ fB;let hB:(kb_).take hd_=rn s (0+1)++(F.drop R_).take (p+m - k - 1):=by
    let#[hk,e]:=LH.mp hs;rw[OK hk,e,show p+m - k=p+m - k - 1+1 by omega,List.take_succ_cons,b4d];rfl
   exact#[_,c6z hs he _ 0 _ hB λj rest X1 f7=>?_];let hl:=Ki_ X1;rw[KO,iX,NV,OL]at hl;let e2:Ay (Ac kf! g2!) hf!=EB! oN_:=kJ (bI (Kl_ (d4d hs)) ev!) χ;exact Kc_ e2;delta Ak;exact aP χ _ ?_;let zy:(F.drop (k+I_)).take (p+m - (k+I_))=rest:=by
    let:=Em_ (List.drop I_) X1;rw[List.drop_take,List.drop_drop,List.drop_append_of_le_length oL_,UJ (as:=rn s I_) oL_,LY]at this;rw[<-this,show p+m - (k+I_)=p+m - k - I_ by omega]
   exact ih (k+I_) (σ++[.tup oN_]) _ _ R a! a! a! aU_ λk' ph pe=>?_;let:=hR k' ph pe;rw[X1,b7k,a3s s j rest f7]at this;rw[zy,LZ];let eh:Uu (rn s I_::H6_ rest)=.tup oN_::Uu (H6_ rest):=by
    show D.tup [((rn s I_).headD dl!).v,.int ((rn s I_).length:δ)]::_=_;rw[iX,b4c];rfl
   rw[eh]at this;show"#;"
  .rw[LD c]at e1;show"!["
end
nonrec def Wy.es(W:OW)(i:D)(p0:δ):Wy->μ D
 |.wr tx=>CK dq! xb! 0
 |.ct m=>Uu hc_
def tF(h:q3!)(k:q1 ρ M (λr M1=>match r with|.nx bf=>q bf M1 R|.rt d=>R ag! M1)):ER! (Ap ft q1 Bi) q:=h _ k
def c2u{y:Wy}(w:Bv W)(hg:ke_)(hy:y.ok)(hR:R (.lst (Ho_ y.es)) M):Kq [.int y.w,.lst F_,j5!,y.m] M R:=by
 exact j!;exact b7e (ρ':=[ψ (.int y.w),j5_,ψ ha_,ψ y.m,ψ aQ_,υ,υ,υ]) χ ?_;cases y with
 |wr tx=>
  exact tF fr_ ?_;exact fB (c3v χ χ (by let:=hg.2;omega)) ?_;let hl:=hy.2;let b9:bj_=dp_:=by rfl
  let hp:=(a0u (l:=g5_) (by let:=hy.1;delta Ge at this;rw[LS]at this;exact this.2) a!).1;exact oW (b7o χ a!) (c7q ow_ [] _ υ _ (b8k an!) (by rw[b1f];dsimp only[List.length_nil];omega) λb' uj=>?_);rw[prs_2];exact dF e! hR
 |ct m=>
  exact fA fr_ ?_;exact Hl_ fB;let hm:m<=20:=hy;let ml:=hg.2;rw[<-a7n w hg.1];delta Af Fj;exact#[m+1,b9e (zG_ KP ml) hm m p0 [] υ υ _ v! a! a! g6! λk' ph pe=>?_];rw[show p0+m - p0=m by omega,LY];exact dF e! hR
abbrev lE(s:D)(y1:G_)(S:j_)(a:sS!)(y4:G_)(i:D)(y6 y7 y8:G_)(w:Int)(fz cm d9 bq bv bw bj be:G_):Ag:=[b4!,y1,jv!,y!,y4,A_,y6,y7,y8,ψ (.int w),fz,cm,d9,bq,bv,bw,bj,be]
def EB:WS:=(Af yb_
 (Af yc_
 (Af oY!
 (Af ye!
 yf!))))
def IZ(f fv:D)(bp:d!):Prop:=(Tc "int" f=ψ θ/\fv=f)\/∃(n:Int) (h k:Int),f=.int n/\bp.getLast?=ψ xK!/\fv=.tup xL!
def b2h(hH:aq_)(hl:bw!)(hq:M q=ψ ed_)(hn:fm!<1000)(hf:IZ f fv bp)(hk:Ah (.lst [dB_,c1!]) (.int w)=ψ kd)
  (hR:∀bj be,EI! (lE s y1 xO! a y4 i y6 y7 y8 w fz cm bD_ hh_ bv bw bj be) (mup M q wj!)):
  EB (EK_ bj) M R:=by
 exact Hl_ fB;let go:∀{dw},dw=ψ fv->Af oY! yf_ (EK_ dw) M R:=λ{dw} e=>by
  subst e;exact eO (a4f e! e! (aP (kJ (bI (Kl_ hk) (bI χ gn_)) χ)) (a6z hH hl)) ?_;let ea:f2 Al x_ yd! (lE s y1 S a y4 i y6 y7 y8 w fz cm bD_ hh_ bv bw (ψ fv) (H5_ oQ_))=Ky! xO! Op.v:=E7_ aT (by
   show(FZ_ (S.map Op.v++[(oQ_).v]))=_;rw[KQ c6!,LG];rfl)
  exact fB ea ?_;delta Bb Em;rw[aD_,iU hq];exact eL ?_;rw[aD_,iU hq];exact eL #[wN!,hR (ψ fv) (H5_ oQ_)]
 obtain⟨e1,e2⟩|⟨n,h,k,e1,e2,e3⟩:=hf
 .let:Jh "int" kk! (EK_ (ψ f))=ψ I!:=by
   show J5! "int" f=_;rw[e1];rfl
  exact fA xT_ (J9_ go e2)
 .subst e1;let:Jh "int" kk! (lE s y1 S a y4 i y6 y7 y8 w fz cm bD_ (EB! [aW!,x]) bv bw (ψ dV!) be)=ψ x!:=by kernel_rfl
  exact tF xT_ ?_;delta Ak;let i1:Bl M bt! iY_=ψ xK!:=by
   simp![Bl,hq];exact pX e2
  exact eG tH! e! (d:=.tup xL!) χ _ (J9_ go e3)
def c0m(ss:w_):∀(S:j_) (b bE:D) (n:δ) (bp:d!) (B:Int) (bq bj be:G_) (M:Mh) (R:p_),O6 S B->0<=B->B+aU!<=900->A!+aU!<=63->(∀d∈wds i ss b (O!).length,Va d)->M q=ψ ed_->fm!+aU!<1000->IZ bE b bp->
  (∀M' iw dw gi,M' q=Kk_ aU!->oS_->Kx! (lE s y1 (Jj S op_) a y4 i y6 y7 y8 0 fz cm bD_ iw bv bw dw gi))->
  Fe hj! Q_ EB (CK ss bE n) (KG! 0) M R:=by
 induction ss with
 |nil=>
  intro S b bE n bp B bq bj be M R _ _ _ _ _ hq _ _ hR;exact xX!
 |cons x ss ih=>
  intro S b bE n bp B bq bj be M R hO b0 b1 hl hg hq hn hf hR;show"#@";let gd:=hg _ KM;exact I3! hf λdw gi=>?_;let e6:=wP (S:=S) (d:=.tup [dB_,i,b,gl!]);exact ih _ (bh jZ_) _ aV_ _ a8_ _ _ _ _ R j0! a! a! aU_ (HT_ hg) mup_same aU_ (.inr #[_,6,1+gU!,χ,H_,(d7c _).symm]) λM' iw dw gi aj fr=>?_;rw[e6]at aj;let r:=GX_ xZ! λc hc=>Lw_ c;rw[e6];exact r
def c0n(rs:d8_):∀(S:j_) (bp:d!) (B:Int) (bq bj be:G_) (M:Mh) (R:p_),O6 S B->0<=B->B+aa!<=900->A!+aa!<=63->(∀d∈cds i rs,Va d)->M q=ψ ed_->fm!+aa!<1000->
  (∀M' iw dw gi,M' q=Kk_ aa!->oS_->Kx! (lE s y1 (Jj S fi_) a y4 i y6 y7 y8 1 fz cm bD_ iw bv bw dw gi))->
  Fe hj! Q_ EB (Uu rs) (KG! 1) M R:=by
 induction rs with
 |nil=>
  intro S bp B bq bj be M R _ _ _ _ _ hq _ hR;exact xX!
 |cons x rs ih=>
  intro S bp B bq bj be M R hO b0 b1 hl hg hq hn hR;show"#@";let gd:=hg _ KM;exact I3! (.inl #[ht_,χ]) λdw gi=>?_;let e6:=wP (S:=S) (d:=.tup [c1!,i,(x.headD dl!).v,.int (cB!:δ)]);exact ih _ _ a8_ _ _ _ _ R j0! a! a! aU_ wP_ mup_same aU_ λM' iw dw gi aj fr=>?_;rw[e6]at aj;exact GX_ xZ! λc hc=>Lw_ c
def c2m{y:Wy}(hO:bV!)(hl:A!<=900)(hW:aM!)(hi:Bg i)(hg:ke_)(hy:y.ok):(∀d∈y.ds W i p0 (O!).length,Va d)/\(a3_).length<=20:=by
 cases y with
 |wr tx=>
  let b9:bj_=dp_:=by rfl
  show"#E";let:=oE S 6;exact#[wds_gd hi _ _ _ (bAt_sg hO.hist hW hg.1) a! v9.2,by show(wds i _ _ _).length<=20;rw[oQ];omega]
 |ct m=>
  let hm:m<=20:=hy;exact#[c3i hi λl hl=>?_,?_]
  .let#[f1,f2]:=uJ j9!;exact#[f2 l hl,λu hu=>b6y hO.hist hW hg.1 u ?_];let:u∈(fp!).take m:=by rw[<-f1];exact HU! l
   exact RP (SY this)
  .show(cds i _).length<=20;rw[qJ];let:=(uI j9!).2;rw[NV]at this;omega
def c2k{y:Wy}(hO:bV!)(b0:bS_)(b1:dn_)(hW:aM!)(hi:Bg i)(hg:ke_)(hy:y.ok)(hl:A!+(a3_).length<=63)(hq:M q=ψ aQ_)
  (hR:∀M' iw dw gi,M' q=ψ oE_->oS_->Kx! (lE s y1 mH_ a y4 i y6 x5_ ds_ y.w dt! cm bD_ iw bv bw dw gi)):
  Cu oW_ hj! EB (Fh! x5_ ds_ y.w dt! cm bD_ bq bv bw bj be) M R:=by
 let#[g1,g2]:=Hp_ hg;delta Cu Br;exact E7_ a6u χ χ (c2u (ox!).1.inv hg hy ?_);cases y with
 |wr tx=>
  let el:(oF_).length=(dq!).length:=oQ _ _ _;rw[el]at g2 hl hR;exact c0m _ S _ _ 0 [] B _ _ _ M _ hO b0 a! hl g1 hq g6! (.inl #[?_,χ]) λM' iw dw gi Y h2=>GX_ Y h2;obtain e|⟨_,_,_,e,_⟩:=bAt_sg hO.hist hW hg.1
  .rw[e];kernel_rfl
  .rw[e];kernel_rfl
 |ct m=>
  let el:(oG!).length=(hc_).length:=qJ _;rw[el]at g2 hl hR;exact c0n _ S [] B _ _ _ M _ hO b0 a! hl g1 hq g6! λM' iw dw gi Y h2=>GX_ Y h2
def nes(h:cl!)(hd:Go d<=40):Ri M d d=ψ I!:=by
 let hr:Ra M d=d:=by cases d<;>first|rfl|cases h
 delta Ri Do;rw[hr,h,qE d h,LM hd];rfl
def d1l{S:j_}(hH:∀o∈S,DG o.d):Az gM!=τ/\Go gM!<=40:=by
 let h:∀d∈S.map Op.v,Az d=τ/\Go d<=5:=λd hd=>by let#[o,ho,rfl]:=LC.mp hd;exact b1s (hH o ho)
 exact x6_;show De d4_+1<=40;let:=qH λd hd=>(h d hd).2;omega
def nI(h:x7_):Az ir_=τ/\Go ir_<=40:=by exact x6_;show De l+1<=40;let:=qH λd hd=>(h d hd).2;omega
def FR(ft:WT)(q1 q2:WS)(ρ:Ag)(R:p_)(d:D)(M:Mh):Prop:=match d with
 |.bl b=>(if b then(if τ then q1 ρ M R else q2 ρ M R)else ft ρ M λb M1=>if b then q1 ρ M1 R else q2 ρ M1 R)
 |_=>False
def b2t(h:fa ρ M (IL_ R)):EV_ (Yj (wT fa) ft):=h
def d5m(h:ft ρ M λb M1=>if b then Ge! q1 else Ge! q2):IL_ R I! M:=h
def d5n(h:ii!)(k:f1!):IL_ R I! M:=by exact h _ ?_;rw[bB_];exact k
def HF(g:qm!)(fb:WE)(ρ:Ag)(K:Y!)(x:D)(M:Mh):Prop:=fb ρ M λy M2=>match g M2 x y with|some d=>K d M2|none=>False
def d4q{K:Y!}(h:fo ρ M (HF g fb ρ K)):w2 g fo fb ρ M K:=h
def b6n{K:Y!}(J:Eg! fb y)(hg:C3_)(k:K d M):HF g fb ρ K x M:=by exact J _ ?_;rw[hg];exact k
def d5j(h:oV!)(h0:oV_)(hx:iq!)(hk:aX!):Eg! (w2 (Hk n) eC! oW!) (.bl (if n then !decide em! else decide em!)):=by let#[wt,wn,qa,hA]:=h;let#[e0,hw]:=hA.mw;let#[e1,ht]:=hA.mt;exact eG l4! yb! ?_;rw[b2s ht hk,a3k]
def d1a:Eg! yj! (.lst (jt!).flatten):=λK hK=>#[T!,AJ_,hK]
def c9d(hc:ck M)(hR:R (sh l) M):Pr t_ ck fs! cK! br_ l5! M R:=by
 exact cQ t9_ (λd=>match d with|.tup [c,_,_]=>c|_=>.non) hc _ _ bb! ?_
 .show"!4";exact ub!
 .rw[QB,MH];exact hR
def d1z(h:oV!)(h0:oV_)(hx:iq!)(hk:aX!)(ha:bp!)(hl:e6_):Eg! (Bf 1 [] (Br (w2 Bl oW! eC!)) t_ fs! cK!) gP!:=λK hK=>by
 let#[wt,wn,qa,hA]:=h;let#[e0,hw]:=hA.mw;let#[e1,ht]:=hA.mt;delta Bf Br;exact eG (d:=Io_ a5! Ch) yb! l4! DO! _ e7_;exact c9d ο hK
nonrec def rws(W:OW)(x:D):μ D:=if x∈W.its then sns W x else[]
def b7n{K:Y!}(h:oV!)(h0:oV_)(hx:iq!)(hk:aX!)(hl:e6_)(hK:∀p,M p=υ->K (.lst (rws W x)) n4!):Gi! (Ev oW! eC! bU!) ρ M K:=by
 let#[wt,wn,qa,hA]:=h;let#[e0,hw]:=hA.mw;let#[e1,ht]:=hA.mt;delta Bf Br Ev;exact H6! l2_ rm_;rw[cV ht];exact eL ?_;rw[cD hx];exact#[vc!,cv_];let pt:=dH gq! hp;show H0! n4! in! _;rw[cV (Ko! pt ht)];exact eL ?_;rw[hk];exact eL ?_;let ek:F3! cu_=if x∈W.its then Ky! a5! Ch else none:=kG
 let r:=hK p hp;rw[ek];by_cases c:x∈W.its
 .rw[KQ c];delta rws at r;rw[KQ c]at r;exact#[nx_,c9d ο r]
 .rw[LB c];delta rws at r;rw[LB c]at r;show(match mup M p aQ_ p with|some (.lst xs)=>_|_=>_);rw[mup_same];exact#[by show 0<=big;delta big;omega,#[mup_same,r]]
def b6k(h:e3!)(hk:aX!)(hx:bp!):F5_ Cm gD! ao_:=λK hK=>by
 exact j!;exact eO (lS e! (b1p h)) ?_;exact fA (b8a (pB (gX e! (h.nob oM2) e! λK hK=>fV h.out hk (by rw[LM hx];exact hK)))) ?_;exact dF e! hK
def oMt:K7! "text_of"=none:=by kernel_rfl
def d0l(h:nr_)(wi:Bv W)(hk:aX!)(hx:bp!)(hl:e6_)(hj:nw!)(hR:∀M' o O,Ir! O W->Q M'->R v M'):Rn t gD! M R:=by exact j!;show Bd vy_ [y!,bq!] M _;delta Bd Ba;exact E7_ qL (b6j h hk (Ei_ hx) (λ_ M' o O hA hq=>#[hA.nob oMt,?_]) λz=>ξ hx z);exact#[χ,a7k hA.out wi hx a_ hl hj (hR M' o O hA hq)]
def b0p(h:e3!)(wi:Bv W)(hk:aX!)(hx:bp!):F5_ Kw gD! gP!:=λK hK=>by
 exact j!;exact dF (gX (Jn! (b6k h hk hx)) (h.nob oMs) e! λK hK=>lP h.out wi hx a_ hK) hK
nonrec def hds(l:d!):μ D:=l.map λd=>match d with
 |.tup (c::_)=>c
 |_=>.non
def b3m(h:e3!)(wi:Bv W)(hk:aX!)(hx:bp!)(hl:yg_):F5_ Kv gD! yh!:=λK hK=>by
 exact j!;show Bd vA_ [y!,bq!] M _;delta Bd Bf Br;exact Jn! (b0p h wi hk hx) _ #[yi!,?_];exact cQ eE_ (λd=>match d with|.tup (c::_)=>c|_=>.non) ο _ _ bb! ?_
 .show"!4";show"!S";exact#[oZ_,χ,eF_,λ_ K hK=>aP (ρ:=oZ_) χ _ hK]
 .rw[eF!];exact hK
def d6o(wi:Bv W)(hx:bp!)(hf:f ρ=ψ gP!)(hl:yg_):E3! (Dx f) ay_ ρ=ψ yh!:=by
 let e:∀l:List D,(∀d∈l,∃b c e:Int,d=.tup yi_)->Ck t_ W! ay_ br_ l=ψ (hds l):=λl=>by
  induction l with
  |nil=>intro _;rfl
  |cons d l ih=>
   intro h;let#[b,c,e,rfl]:=h d KM;delta Ck;show((f2 Ah l_ B_ oZ_).bind λy=>(KF_ br_ l).map fw_)=_;rw[ih λd hd=>h d ga_,E7_ aT χ];rfl
 let hi:=tQ hf;delta Cn;rw[hi];show(El! cG_ (KF_ br_ cG_))=_;rw[KQ an!,e _ λd hd=>by
  let#[q,hq,rfl]:=LC.mp hd;let#[b,c,e,eq]:=IK! wi.sg;exact#[b,c,e,eq]]
 rfl
def b6x(wi:Bv W)(hx:bp!):∀d∈sns W x,Az d=τ/\Go d<=5:=λd hd=>by
 show"!4";show"!S";exact yl!
def c1p(wi:Bv W)(hx:bp!):∀d∈hds cG_,Az d=τ/\Go d<=5:=λd hd=>by
 let#[d',me,rfl]:=LC.mp hd;let#[q,hq,rfl]:=LC.mp me;show"!S";exact#[χ,by simp[Go]]
section
variable{y:Wy}
def d7b{f1 f2 f3 f4 f5:p!}{K:Y!}(Y:jf_)(h2:jg!)(h3:nM_)(h4:qI!)(h5:f5 ρ=ψ f)(k:g [b,c,d,e,f] M K):Am 5 g (Ab hN! (Ab k0_ (Ab (wl f3) (KP! (wl f4) f5)))) ρ M K:=by delta Am Ab Ad;rw[cD Y,dK!,cD h3,cD h4,cD h5];exact dK_
nonrec def Wy.aft(W:OW)(i:D)(p0:δ)(S:j_)(y:Wy):μ Op:=if Ho_ y.gd then Jj S a3_ else S
def b9o(Y:M p=ψ ir_)(h2:M q=ψ ir_)(h:x7_):Ri M u! bt!=ψ I!:=by
 let e1:Ra M u!=.lst l:=by simp![Ra,Y]
 let e2:Ra M bt!=.lst l:=by simp![Ra,h2]
 delta Ri;rw[e1,e2];exact a1e (nI h).1 (nI h).2
def c6j(c n:δ):∀d∈nmsL c n,Az d=τ/\Go d<=5:=λd hd=>by
 let#[j,_,rfl]:=LC.mp hd;exact yl!
def GW(t:Bo):WS:=yk!
def c0p(h:ed!)(hO:bV!)(b0:bS_)(b1:dn_)(hW:aM!)(hi:Bg i)(hp:j4!)(hy:y.ok)(hl:xb_)
  (WZ:Ho_ y.gd->∃q,uq=.fn q/\M q=ψ oE_/\¬EQ_ a q)(jj:¬Ho_ y.gd->uq=.str "refused")(hS:Hist cQ!)(uh:(cQ!).length<64)
  (hR:∀M' ao ar,Kn! cQ!->Kx! km_):
  GW t km_ M R:=by
 let go:∀v M1 g8 g9,Ep_ M1 cQ! g8 g9->Ri M1 v uq=ψ I!->HF Ri kk_ km_ (FR yj_ fp_ Bi km_ R) v M1:=λv M1 g8 g9 Y hne=>by
  let#[o,hA]:=Y.hd;exact b6n e! hne (d5m ?_);delta wT w2;exact a2y e! d1a (c1r hA hS uh λM2 fr=>?_);exact wX χ (nX hS.keys uh ?_);let#[p1,p2]:=d1l λo ho=>(hS.op o (IW! _ ho)).dg
  rw[nes p1 p2];exact hR M2 g8 g9 (Y.keep fr)
 exact b2t (d4q (d7b χ χ χ χ χ (d0i h hO b0 b1 hW hi hp hy hl (λg p M' ao ar g1 g2 g3 g4=>?_) λg M' g1 g2=>?_)))
 .let#[q,e1,e2,e3]:=WZ g;let eA:LD! S=Jj S a3_:=KQ g;let XQ:q≠p:=λz=>by rw[z,g1]at e2;rcases e2
  let e4:=(g4 q (EQ! e2) e3 XQ).1.trans e2;exact go _ M' ao ar (zG_ eA g2) (by rw[e1];exact b9o g3 e4 (c6j _ _))
 .let eA:LD! S=S:=LB g;exact go _ M' kl ca (zG_ eA g1) (by rw[jj g];exact nes χ o2_)
nonrec def Wy.dl:Wy->Int
 |.wr tx=>fo_
 |.ct m=>- (m:δ)
def GV(t:Bo):WS:=(Ap kj_ (GW_ 14 kh_
 (Af yk_
 (Af yl_
 (Af yo!
 yo_)))) Bi)
def a0l(h:q1 ρ M (λr M1=>match r with|.nx ak=>q2 ak M1 R|.rt d=>R ag! M1)):ER! q1 q2:=h
def c0o(h:ed!)(hS:aq_)(uh:bw!)(hi:Bg i)(hy:y.ok)(hV:g=τ->∀V,Hw W0 eb_ V->i∈V.its/\yp!=(mg!:δ)+y.dl)
  (hR:∀M' ao ar X2 X3,Kn! S->Kx! (lE s y1 S a y4 i y6 o3! y8 y.w dt! yp_ d9 bq X2 X3 bj be)):
  GV t (Fh! o3! y8 y.w dt! yp_ d9 bq bv bw bj be) M R:=by
 cases g with
 |false=>exact lN gw_ (hR M kl ca bv bw h)
 |true=>
  exact kM gw_ ?_;let#[_,hA]:=h.hd;exact eV (wX χ (a6y hS.keys hS.names uh (λo ho=>(hS.op o ho).dg) ?_));rintro w M1 Ow V _ hr hL ⟨pre,hw⟩ bz fr;let#[hx,az]:=hV χ V hr;let wi:=hw.inv;let l2:=bz.txt i;let l3:(g0!).length<=(oq!).length:=by show((shn V i).map b_).length<=_;rw[KP];exact NP _ _
  let#[k,hk]:=cI hi;let#[v,hj]:=c1c hw hx a!;let ra:=(fr a gp_).2;let hQ:=(h.keep λb J=>(e0_).1).q V hr;exact eO (d1z hL χ χ hk hx a!) ?_;exact a0l (b2t (d4q (a2y e! e! (d0l hQ.of wi hk hx a! hj λM2 o O km q=>?_))));let ug:=hL.keep λc hc=>q.2 c (hL.live hc) λz=>ra mp!;exact b6n (Jn! (xB ug hx hk a! hj)) (nes χ o2_) (d5n (pB (eG (Jn! (b0p km wi hk hx)) e! (nes (yw_).1 (yw_).2))) ?_);let e1:Wf ym_ (Gn bX!) yn! o4_=BA! y.dl:=by
   let e:f2 Au am_ r! o4_=C2! (y.w==1):=Kl_ iX_;delta Wf;rw[gG e];cases y with
   |wr tx=>
    rw[show((Wy.wr tx).w==1)=θ from χ];rw[NT,aW_,zK (oP χ)];let:=hy.2;show wy!=_;rw[dC!];rfl
   |ct m=>rfl
  let e2:f2 Do ym! yn_ o4_=ψ I!:=by
   exact aT χ (Lh! e1) ?_;rw[az];exact a1e χ o2_
  exact I2! (gG e2);exact lN (pB (eG (Jn! (b3m km wi hk hx a!)) (aP (d6o wi hx χ a!)) (nes (yy!).1 (yy!).2))) ?_;exact hR M2 kl ca _ _ (q.1.hr hr hS)
def d6y(hH:aq_)(hW:aM!)(hi:aN!):(hc_).length<=br cL!+1:=by
 let#[P,Q,t1,_]:=xA (gA hH hW).1.inv.nd hi;let t1:TT W.its W.txt=P++v8!:=t1;let Y:=(uI j9!).1;let e:(F_).map toSn=(jU!).take p0++((fp!).take m++(fp!).drop m):=by rw[QJ,QJ]
 generalize (F_).map toSn=l at *;let a1:=jL P (l++Q);let a2:=jL l Q;let a3:=jL (l.take p0) ((ko!).take m++(ko!).drop m);let a4:=jL ((ko!).take m) ((ko!).drop m);rw[<-e]at a3;rw[t1];omega
def b6t(hO:bV!)(b0:bS_)(b1:dn_)(hW:aM!)(hi:Bg i)(hg:ke_)(hy:y.ok)(Y:yz_)(h2:yA!)(hj:tw+tc<=4):
  A!+(a3_).length<=63/\∃wc we,wc+we<=tw+tc+1/\A!+(a3_).length<=9+3*wc+20*we/\∀V,GJ! mH_->(i∈V.its/\yp!=w0!+y.dl)/\A!+(a3_).length+br cK_<=43+7*wc+2*we:=by
 let#[g1,g2]:=Hp_ hg;cases y with
 |wr tx=>
  let b9:bj_=dp_:=by rfl
  show"#E";let el:(oF_).length=(dq!).length:=oQ _ _ _;exact#[i!,tw+1,tc,i!,i!,ko_];let#[v1,v2,v3]:=c4a hO b0 b1 a! v9.1 g1 hW hg.1 c5t hV;rw[c5u]at v2;exact yA_;show _=_+(fo_:Int);omega
 |ct m=>
  let hm:=hy;let el:(oG!).length=(hc_).length:=qJ _;let hc:=d6y (p0:=p0) (m:=m) hO.hist hW hg.1;exact#[i!,tw,tc+1,i!,i!,ko_];let#[v1,v2,v3]:=c8e hO b0 b1 a! hm hW hg.1 hg.2 χ g1 hV;exact yA_;show _=_+-h1!;omega
def GX(t:Bo):WS:=(Af x9_
 (Af (Ap kj_ (GW_ 12 bU!
 (Cu oW_ hj! EB)) Bi)
 (Af (GW t) (GV t))))
abbrev lI(s:D)(y1:G_)(S:j_)(a:sS!)(y4 y5 y6 y7 y8 y9 fz cm d9 bq bv bw bj be:G_):Ag:=[b4!,y1,jv!,y!,y4,y5,y6,y7,y8,y9,fz,cm,d9,bq,bv,bw,bj,be]
structure LI(t:Bo)(s:D)(a ta wa:sS!)(j:Nat)(ρ:Ag)(M:Mh):Prop where
 e:∃S kl ca tw tc y1 y4 y5 y6 y7 y8 y9 fz cm d9 bq bv bw bj be,ρ=lI s y1 S a y4 y5 y6 y7 y8 y9 fz cm d9 bq bv bw bj be/\Kv_ M/\O6 S (25+A!)/\S≠[]/\A!<=63/\tw+tc<=j/\A!<=9+3*tw+20*tc/\∀W,Hw W0 eb_ W->A!+br cL!<=43+7*tw+2*tc
def d2j(h:ed!)(hO:O6 S (25+A!))(hne:S≠[])(hW:aM!)(hi:Bg i)(hp:j4!)(hy:y.ok)(Y:yz_)(h2:yA!)(hj:tw+tc<=4)
  (hR:∀ρ' M',(∀j,tw+tc+1<=j->LI t s a ta wa j ρ' M')->R bs_ M'):
  GX t (Fh! fv_ ds_ y.w dt! yB_ d9 bq bv bw bj be) M R:=by
 exact Hl_ fB;by_cases g:Ho_ y.gd
 .let hx:i∈W.its:=by cases y<;>exact g.1
  let er:rws W i=sns W i:=KQ hx;let#[c1,wc,we,c2,c3,c4]:=b6t hO a! a! hW hi g hy Y h2 hj;let#[g1,g2]:=Hp_ g;let eA:LD! S=Jj S a3_:=KQ g;let lA:(cQ!).length=A!+(a3_).length:=by rw[eA,c3w]
  let oA:O6 cQ! (25+(cQ!).length):=by
   let:=c8o _ S (25+A!) hO a! a! a! g1;rw[lA,eA,show(25:Int)+((S.length+(a3_).length:δ):Int)=25+S.length+(a3_).length by omega];show"#;"
  rw[er,LM g];exact tF gw_ ?_;exact a0m λq hq=>?_;let l8:∀b,M b≠υ->mup M q aQ_ b=M b:=λb J=>Eo! gv_;exact c2k hO a! a! hW hi g hy c1 mup_same λM1 iw dw gi hq1 j9=>?_;let frM:∀b,M b≠υ->M1 b=M b:=λb J=>(j9 b gv_).trans (l8 b J);let#[_,hA]:=h.hd;let#[_,ht]:=hA.tk;let f7:¬EQ_ a q:=λz=>by
   obtain z|z|⟨h',hh,z⟩:=z
   .let:=hA.ob;rw[<-z,hq]at this;rcases this
   .rw[<-z,hq]at ht;rcases ht
   .let:=hA.cl h' hh;rw[<-z,hq]at this;rcases this
  rw[<-eA];exact a0l (c0p (h.keep frM) hO a! a! hW hi hp hy (λ_=>c1) (λ_=>#[q,χ,hq1,f7]) (Hs_ g z) oA.hist a! λM2 v6 v7 jf=>?_);exact c0o jf oA.hist a! hi hy (λ_ V hV=>(yC!).1) λM3 X4 X5 X2 X3 h3=>hR _ M3 λj hj=>#[y.aft W i p0 S,X4,X5,wc,we,_,_,_,_,_,_,_,_,_,_,_,_,_,_,_,χ,h3,oA,?_,i!,LX c2 hj,i!,ko_]
  .intro z;let:=Ki_ z;rw[lA]at this;exact hne (QY.mp (by dsimp only[List.length_nil]at this;omega))
  .let:=(yC!).2;rw[lA];show"#;"
 .let eA:LD! S=S:=LB g;rw[LD g];exact fA gw_ ?_;let:Af (GW t) (GV t) (lE s y1 cQ! a y4 i y6 fv_ ds_ y.w dt! (ψ I!) (ψ oU_) bq bv bw bj be) M R:=by
   exact a0l (c0p h hO a! a! hW hi hp hy yD! yD! qb_ (zG_ eA hO.hist) (FV! eA) λM2 v6 v7 jf=>?_);rw[eA]at jf ⊢;exact c0o jf hO.hist a! hi hy (λz=>by exact Bool.noConfusion z) λM3 X4 X5 X2 X3 h3=>hR _ M3 λj hj=>#[S,X4,X5,tw,tc,_,_,_,_,_,_,_,_,_,_,_,_,_,_,_,χ,h3,hO,hne,i!,i!,Y,ko_];let ed:=a3r hV hW;let i1:V.its=W.its:=Em_ Wd.its ed;let i2:V.txt=W.txt:=Em_ Wd.txt ed;rw[i1,i2];exact h2
  rw[eA]at this;show"#;"
end
def c4x{V:OW}(h:Hw W (x++y) V):∃W1,Hw W x W1/\Hw W1 y V:=by
 induction x generalizing W with
 |nil=>exact#[W,.nil,h]
 |cons o x ih=>
  cases h with
  |cons Y h2=>
   let#[W1,g1,g2]:=ih h2;exact#[W1,.cons Y g1,g2]
def c4u{V:OW}(h:Hw W [o] V):Px W o.nm o.d V:=by
 cases h with
 |cons Y h2=>cases h2;exact Y
def c4v{V:OW}(h:Hw W [] V):V=W:=by cases h;rfl
def d6z(c:a+5*b<=0+5*0+5*n)(h:n<=8)(z:b=0->a=0):a<=35:=by
 obtain e|e:=Nat.eq_zero_or_pos b
 .rw[z e];decide
 .omega
def c5b{W V:OW}(h:I0_ hm! V)(nd:nC!):V.its=W.its++[n]:=(congrArg Wd.its (nD!).1).trans ab!
def c1l{V:OW}(hH:aq_)(hl:A!<=8)(hs:∀x∈S,Wi x.d)(ht:jN!)(od:o.d=.tup pa!)(h:GJ! dS_):(cK_).length<=35:=by
 rw[b9d hH.keys ht (GP! od)]at h;let#[W,Y,h2]:=c4x h;let nd:(om_).Nodup:=(vZ!).nodup vZ_;let#[w,_,c]:=b0x Y b3k (λx q hq=>by cases hq) nd λo _ z=>by cases z
 let lp:(eb_).length<=8:=LX (LX (NP _ _) (QI (bU S).length_eq)) hl;let c:=d6z (c λx hx=>hs x (a8e hx)) lp λe=>by rw[QY.mp e];rfl
 let c2:Md gC! [o]=[o]\/Md gC! [o]=[]:=by
  delta Md;rw[UG];split
  .exact cw!
  .exact .inr χ
 obtain c2|c2:=c2
 .rw[c2]at h2;let h3:=c4u h2;rw[od]at h3;let s1:=(b0m w.inv h3 (yC g! g! g!)).1;let l1:=Ki_ (c5b h3 w.inv.rnd);rw[KO]at l1;exact LX ?_ c;rw[l1]at s1;exact Nat.le_of_add_le_add_right (LX s1 (QI (GP! Nat.mul_add)))
 .rw[c2]at h2;rw[c4v h2];exact c
def GU(t:Bo):WS:=(Af xX_
 (GW_ 6 kh_
 (Af xZ_
 (Af x1!
 (Af x2!
 (Af x3_
 (GW_ 11 oT_
 (Af x8_
 (GX t)))))))))
def b7u:Xk t=(Af xQ_
 (Af xS!
 (Af xS_
 (Af xU!
 (Af (J9! (GU t))
 (Bd gN_)))))):=χ
def vO(h:f ρ=ψ bG!)(hk:0<k):f2 Cw f (fC bO_) ρ=BA! (m%k):=aT h χ (iH hk)
def d7t:Ej (.int 4) aH_=BA! (4*j):=χ
def vQ(h0:qu_)(h4:yF_)(e:Hm! (c+4*k)=ψ bG!):Kg! (fC ld_) hi! ρ=ψ bG!:=iK (I0! h0 (Lh! (aT χ h4 d7t))) e
def c6v(hH:aq_)(hne:S≠[])(hl:A!<=63)(h0:qu_)(h2:Aa 2 ρ=ψ gM!)(h4:yF_)(em:Hm! (30+4*k)=ψ bG!):
  ∃i,Bg i/\f1 Co xW_ ρ=ψ i:=by
 let ho:∀o∈S.map Op.v,Ti o:=λo ho=>by let#[x,hx,rfl]:=LC.mp ho;exact(hH.op x hx).ok
 let#[ys,ei,il,hy]:=a5o ho (FV! KP);let#[S',o,eS]:=(lG S).resolve_left hne;let hf:=hH.op o yI_;let e1:JW! jW! ρ=o8! lk!:=by
  let e:f1 Eo cf_ ρ=o8! ql_:=iK (Mc_ h2) ei;delta Fh;rw[e];show ψ (D.lst (Iu ql_ eu_ υ))=_;congr 2;dsimp only[Iu,HT.sIx];exact OX c_
 let e2:Ip! (Gn r!)=ψ o.v:=aT h2 χ (pX yI_);let e3:Hl xW! ρ=o8! fh!:=by
  let:FQ! xV_ ρ=ψ o.nm:=by
   delta Fh;rw[e2];rfl
  delta Hl;rw[oP this];rfl
 let#[i,ep,hi]:=kN (xs:=ys++ql!++fh!) c_;let e4:Al (.lst lk!) (.lst fh!)=o8! (ys++ql!++fh!):=by
  show(if(ys++[D.str "bin",za_]).length+(fh!).length<=big then _ else υ)=_;rw[KQ (by rw[KO];dsimp only[List.length_cons,List.length_nil];delta big;omega)]
 exact#[i,?_,iK (I0! (aT e1 e3 e4) (vQ h0 h4 em)) ep];obtain z|z:=KS.mp hi
 .exact b2q hy i (KI _ z)
 .rw[aI_];let Y:=hf.hh;exact Er_ #[o.h,o.n,χ,i!,i!,hf.n1,hf.n2]
def turn(hj:j<5)(h:HU_ j ρ M)(hR:∀ρ' M',HU_ I_ ρ' M'->R bs_ M'):GU t (ρ.set 4 fy_) M R:=by
 let#[S,kl,ca,tw,tc,y1,y4,y5,y6,y7,y8,y9,fz,cm,d9,bq,bv,bw,bj,be,rfl,h,hO,hne,hl,hj2,Y,h2]:=h.e;let#[m0,em0,_,_]:=gD ns;let#[m1,em1,_,_]:=gD ns;let#[m2,em2,_,_]:=gD ns;let#[m3,em3,_,_]:=gD ns;let#[i,hi,ei]:=c6v (ρ:=lI bL! y1 S a fy_ y5 y6 y7 y8 y9 fz cm d9 bq bv bw bj be) hO.hist hne hl rfl rfl rfl em0;exact fB ei ?_;let#[kk,hk]:=cI hi;exact eV (wX rfl (a6y hO.hist.keys hO.hist.names a! (λo ho=>(hO.hist.op o ho).dg) ?_));rintro w M1 Ow W _ hr hL ⟨pre,hw⟩ bz fr;let lt:=bz.txt i;let hh1:=h.keep λb J=>(e0_).1;exact eV (b7n hL rfl rfl hk a! λp hp=>?_);let l9:∀b,M1 b≠none->mup M1 p aQ_ b=M1 b:=λb J=>mup_ne nh!;let hh2:=hh1.keep l9;let ug:=hL.keep λc hc=>l9 c (hL.live hc);generalize mup M1 p aQ_=M2 at hh2 ug;let lr:(hl!).length<=1500:=by
  delta rws;split
  .show((shn W i).map b_).length<=_;rw[KP];exact LX (NP _ _) lt
  .exact ML _
 let q0:0<=m1%pe!:=QC _ a!;let q1:m1%pe!<(hl!).length+2:=PK _ a!;obtain⟨p0,ep0⟩:∃p0:Nat,(p0:Int)=m1%((rws W i).length+2):=#[(m1%pe!).toNat,i!];let e8:f2 Cw x0! x0_ (lI bL! y1 S a fy_ d5! hj_ fv_ y8 y9 fz cm d9 bq bv bw bj be)=ψ ha_:=by
  rw[ep0];exact aT (El_ vQ em1) et! (iH a!)
 exact fB e8 ?_;exact fB (vO (El_ vQ em2) a_) ?_;exact fB (vO yL_ a_) ?_;obtain⟨mo,emo⟩:∃mo:Nat,(mo:Int)=m3%21:=#[(m3%21).toNat,i!];rw[<-emo];let fin:∀{y:Wy} {X6 y12':G_},y.ok->X6=ψ y.m->GX t (lE bL! y1 S a fy_ i hj_ fv_ ds_ y.w X6 yB_ y12' bq bv bw bj be) M2 R:=λ{y X6 y12'} hy e=>by
  subst e;exact d2j hh2 hO hne hr hi a! hy Y (h2 W hr) a! λρ' M' h'=>hR ρ' M' (h' _ a!)
 let good:∀{c:Int} {b:Bool},f2 Ki x4_ ki_ yN_=CH! yO_->(b=decide (Fo! c))->Pu oT_ yN_ M2 aJ!:=λ{c b} e1 e2=>by
  exact b1c (d5j ug χ χ hk) (λz=>?_) λz=>?_
  .let z:=NZ z;let e3:b=decide yO_:=by rw[e2];simp[z]
   rw[e3];exact aP e1
  .let z:=RD z;rw[e2];simp[z]
 let XI:m2%2=0\/m2%2=1:=by omega
 obtain ew|ew:=XI
 .rw[ew];let#[tx,et,jr,Z4,XB]:=b0k (n:=m3) (most:=40) a_ a_;let n0:0<=kt!%3:=QC _ a_;let b9:bj_=dp_:=by rfl
  let okt:(Wy.wr ku!).ok:=by
   let YI:(Str.mk (pg!).toArray).length<=40:=by
    show(pg!).toArray.size<=40;rw[KU,OL];omega
   exact#[?_,YI];delta Ge at jr ⊢;rw[LS]at jr ⊢;exact#[LM a!,?_];let:=jr.2;rw[OC]at this ⊢;exact λx hx=>this x (RP hx)
  let eg:decide yR!=decide (Fo! 0):=by
   rw[NY,LV,LV];show(Jm_ p0)↔_;exact UL λz=>?_;rw[yR_];omega
  exact E5! 0 0;exact tF fr_ ?_;delta Ak;let esl:Nj (f1 Hr oU!) x8! Bc ph!=FN! ku!:=by
   let e1:f1 Hr oU! ph!=ψ fl_:=iK (bI yL_ ev!) et;let e2:JZ_ bX! ph!=BA! (kt!%3):=vO χ a_;delta Nj Aq;rw[e1,e2];show Uv tx (kt!%3) υ=_;delta Uv;rw[KQ #[n0,yi!]]
  exact aP esl _ ?_;exact fin (y:=.wr ku!) okt χ
 .rw[ew];let eg:decide ((Wy.ct mo).gd W i p0)=decide (Fo! 1):=by
   rw[NY,LV,LV];show(Iy_ mo)↔_;exact UL λz=>?_;rw[yR_];omega
  exact E5! 1 1;exact fA fr_ ?_;exact fin (y:=.ct mo) (show mo<=20 by omega) χ
def d2g(ks:s_):∀(j:δ) (ρ:Ag) (M:Mh) (R:p_),HU_ j ρ M->j+hR_<=5->(∀ρ' M',R bs_ M')->Fe gN! Q_ (GU t) rP! ρ M R:=by
 induction ks with
 |nil=>intro j ρ M R _ _ hR;exact#[ο,hR ρ M]
 |cons k ks ih=>
  intro j ρ M R h hj hR;rw[KW]at hj;exact#[ο,turn a! h λρ' M' h'=>ih I_ ρ' M' R h' a! hR]
def c3y{N:δ}{R:Y!}(nd:t.nd)(hN:N<=8)(hR:∀a S M',Hist S->A!<=8->(∀o∈S,o.tm<=24/\o.h≠6/\Wi o.d)->R (.tup [aK!,ju_]) M'):Oj t [cq!,er!,.int 5,.int N] M R:=by
 let#[os,ew,hl,hH,hB]:=b3o ns 0 N a!;exact j!;let hc:Pu xq_ yT! M (Io_ yT_ Op.v):=λK hK=>by
  let e:Dx xq! yT!=ψ aw!:=by
   delta Dx;rw[iK (bI χ gn_) ew];rfl
  delta Bf Hm;rw[e];exact eL e7_;exact cQ (λd=>match d with|.tup (.int h::_)=>!decide (h=5)|_=>θ) id ο _ _ bb! ?_
  .let#[o,ho,rfl]:=LC.mp hd;exact#[kw!,χ,λK hK=>dS (ρ:=kw!) ?_ _ hK,λ_ K hK=>aP (ρ:=kw!) χ _ hK];let:JU! Do kw!=C2! (Lj! (o.h=5)):=Fh_ gh_;exact gG this
  .rw[TB,QB];exact hK
 exact eO hc ?_;exact H7! M1;let hF:=hH.fl 5;let hlf:(yT_).length<=8:=by let:=NP (λo:Op=>!decide (o.h=5)) os;omega
 exact oX (qL χ χ (b0l nd hA (zG_ LY hF) (λo ho=>by simpa using(nQ!).2) yV_ λM2 kl ca uk=>?_));exact dF (a0r e! e!) (hR a _ M2 hF hlf λo ho=>by let:=hB o (nQ!).1;exact#[i!,this.2])
def c5f(h:ih_):Eg! (Yk (Ab f Ad)) (.lst [d]):=λK hK=>by
 exact h _ #[u4_,hK]
def d4t{o:Op}(h:ia_)(hs:Wi o.d)(k:Str)(b:D):Dl o.d≠ψ (k,.tup fZ!):=λz=>by
 obtain⟨k',x,e1,e2,_,e3⟩|⟨_,_,_,_,_,e3⟩:=qG h
 .rw[e3]at z;let z:=Prod.mk.inj (MQ z);rw[z.2]at e1;obtain e2|e2:=e2
  .rw[e2]at e1;exact(hs.2 b).1 e1
  .rw[e2]at e1;exact(hs.2 b).2 e1
 .rw[e3]at z;rcases z
def c0q{ns:s_}(nd:t.nd):AK t mf! M0 (λd _=>d=.bl τ):=by
 let#[m,em,m0,_]:=gD ns;obtain⟨N,hN⟩:∃N:Nat,(N:Int)=m%9:=#[(m%9).toNat,i!];let#[n,en,n0,_]:=gD ns;obtain⟨k,hk⟩:∃k:Nat,(k:Int)=n%6:=#[(n%6).toNat,i!];exact j!;rw[b7u];let e1:=vO (ρ:=[ba!,υ,υ,υ,υ,υ,υ,υ,υ,υ,υ,υ,υ,υ,υ,υ,υ,υ]) (f:=f1 Aw xP!) (iK gn_ em) (k:=9) a_;rw[<-hN]at e1;exact eV (a6u χ χ χ e1 (c3y nd a! λa5 S M1 hH hl hB=>?_));show Af _ _ [ba!,ψ kx!,υ,υ,υ,υ,υ,υ,υ,υ,υ,υ,υ,υ,υ,υ,υ,υ] M1 _;let m1:=a8t (S:=S) (B:=24) a_ λo ho=>(hB o ho).1;let m2:=b9r (S:=S);let l5:=oE S 5;let yf:Hist ei!:=hH.snoc #[kW!,vC_,vD!,by show 1<=1+yY_;omega,by show 1+yY_<=2000;omega,.put aw_ aw_] vD_ λo ho _=>by let:=vL ho;show o.tm<1+Qi S;omega
 let l0:(ei!).length=A!+1:=by rw[KO];rfl
 let ea:Li M1 gM! (.lst yZ!)=ψ y0!:=by
  show(FZ_ (S.map Op.v++yZ!))=_;rw[KQ c6!,LG];rfl
 exact eO (eG y1_ (c5f (a4f y1_ (aP (d:=.int 5) χ) (aP (d:=.tup pa!) χ) (a6z hH a!))) ea) ?_;show Af _ _ [ba!,ψ kx!,ψ y0!,υ,υ,υ,υ,υ,υ,υ,υ,υ,υ,υ,υ,υ,υ,υ] M1 _;exact H7! M2;let o6:O6 ei! (25+(ei!).length):=by
  exact#[yf,vE_,aA!]
  .obtain z|z:=KS.mp hx
   .exact d4t (hH.op x z).dg (hB x z).2.2 k b
   .rw[aI_];show Dl hm!≠_;rw[show Dl hm!=υ from χ];simp
  .obtain z|z:=KS.mp hx
   .let:=(hB x z).1;omega
   .rw[aI_];show 1+Qi S<=_;omega
 let n6:∀o∈S++pk!,o.h≠6:=λx hx=>by
  obtain z|z:=KS.mp hx
  .exact(hB x z).2.1
  .rw[aI_];show(5:Int)≠6;decide
 let cnt:∀V,GJ! ei!->(ei!).length+br cK_<=43+7*0+2*0:=λV hV=>by
  let c1:=c1l hH hl (λx hx=>(hB x hx).2.2) vH_ χ hV;let c2:=c3q cK_;omega
 generalize S++pk!=S0 at yf l0 o6 n6 cnt;exact oX (qL (a:=aK!) (b:=.lst (S0.map Op.v)) rfl rfl (b0l nd hA (by rw[LY];exact yf) n6 yV_ λM3 kl ca hA3=>?_));rw[LY]at hA3;let e2:=vO (ρ:=lI bL! (some kx!) S0 a none none none none none none none none none none none none none none) (f:=f1 Aw xU_) (iK gn_ en) (k:=6) a_;rw[<-hk]at e2;let e3:Ft oS! (lI bL! (some kx!) S0 a none none none none none none none none none none none none none none)=some (((uz_).map λi=>l7_).map D.int):=by
  delta Ft;rw[e2];show(Gn! (Cr k))=_;rw[ad!,MH];rfl
 exact oW e3 (d2g (ta:=ta) (wa:=wa) _ 0 _ M3 _ #[S0,kl,ca,0,0,_,_,_,_,_,_,_,_,_,_,_,_,_,_,_,χ,hA3.hr yf a!,o6,?_,i!,LJ _,i!,cnt] bf_ λρ' M'=>?_)
 .intro z;rw[z]at l0;simp at l0
 .exact dF (aP (d:=eT!) χ) χ
def lU(T:g_):gs! Ok 1 "is_whole" C_ (Fx):=
 eM T.D3 h! (Eq! (lC (KL_ C!) (lC (d3n (jY c1h χ T.S2 χ T.R7 cS c8k C!)) (iJ (fI yO yR (bK c3m d3u χ T.R5 d4b ck_) (aQ d1m d1s aB aB) m_)))))
def jE(T:g_):gs! Ok 2 "is_from_one" C_ (Dr):=
 eM T.D5 h! (Eq! (lC y6! (iJ (fI d5q d5s C! aB m_))))
def lV(T:g_):gs! Ok 2 "is_below" np_ (Hg):=
 eM T.D4 h! (Eq! (lC y6! (iJ (a6l jA jB yO yR aB C! L_))))
def jD(T:g_):gs! Ok 3 "is_name" C_ (Ey):=
 eM T.D6 h! (LK_ (lC (L6! lV (EE_ aO! (fH T.T1 χ))) (iJ za!)))
def lH(T:g_):LG! "is_sign_name" Ea:=
 eM T.D7 h! (LK_ (lC zc! (iJ (L6! lV (EE_ aO! fC!)))))
def a8m(T:g_):LG! "is_item" Ky:=
 eM T.D8 h! (Eq! (zU zd_ (zU Bz! (iJ Bz!))))
def xL(T:g_):LG! "is_sibling" Gv:=
 eM T.D9 h! (LG_ ze! zd_)
def a0w(T:g_):gs! Ok 5 "is_behind" C_ (Hq):=
 eM T.E1 h! (LG_ ze! (aU (lH T) c! χ ck_ aN_))
def vA(T:g_):gs! Ok 1 "is_sign" e5_ (Cp):=
 eM T.E2 h! (Eq! (lC (a6l jA jB jA jB aY C! aY) (iJ (fI yN yQ (bK c3j d3t χ T.S5 d4a ck_) (fH T.T4 χ) m_))))
def a8l(T:g_):gs! Ok 2 "is_text" C_ (Kx):=
 eM T.E3 h! (Kh_ (bG (L9_ (LR_ (gE (Fe_ C!)) (Kd! hs! fC!))) (bD (bY (LH_ (gR (NL:=e5_) χ a_ g! (Bz_ Ot) Cd.nil a_ χ (c2s C!) (Gr_ zg_) X_ dw_ zh!))))))
def a4m(T:g_):gs! Ok 3 "is_place" C_ (Jd):=
 eM T.E4 h! (Eq! (L6! lV (L2! (fH T.T3 χ) aI)))
def iM{g:bZ!}{ps:w_}{k:δ}(h:gs! Ok k x ps g)(hm:mg x=ψ bl_)(hp:P_=1)(hk:k<=5):∃fd ps,P_=1/\gs! Eh Nr 5 af fd ps (AD K ps.length g)/\EP_ K/\Lk! K=true:=by let#[f',fd,Y,h2,h3,h4]:=h;rw[hm]at h3;cases h3;exact#[fd,ps,hp,Y.mono hk,h2,h4]
protected def c7f(T:g_):gs! AT 5 1 (Iq t):=by
 intro af g e;delta Iq at e;show"!:"
 .show"!7";exact E3_ a8m T.T6
 show"!:"
 .show"!7";exact E3_ xL T.T7
 show"!:"
 .show"!7";exact E3_ a0w T.T8
 show"!:"
 .show"!7";exact E3_ a8l T.T9
 show"!:"
 .show"!7";exact E3_ lH T.U0
 show"!:"
 .show"!7";exact E3_ jE T.U1
 show"!:"
 .show"!7";exact E3_ a4m T.U2
 show"!:"
 .show"!7";exact E3_ lU T.U3
 show"!:"
 .show"!7";exact E3_ jD T.U4
 cases e
def iN(T:g_):gs! Df 1 t.B5 "have" n1! gR_:=
 dB T.U5 T.K9 h! (EB_ (mI bQ a2w χ T.S3 cU (aE (mH v_ ek! q_ px_ cl_) aO)))
def vG(T:g_):gs! Wl 1 "Hand" t.B5 n0! (Ip t):=
 a0z T.K8 h! (Kh_ (aF (J0! T.W4 q_) (aF (J0! T.W5 fO) (aF (J0! T.W6 ek_) zm_))))
def b9l(T:g_):gs! Ok 1 "_law_cell" gY! (Rp):=
 eM T.P2 h! (Kh_ (bG (iB (a6f C!) zn_ dZ) (LX! aB)))
def eE(T:g_):gs! Ok 2 "_law_mix" gY! (Aw):=
 eM T.P3 h! (Kf_ (bG (LO_ (Mh_ (L6! b9l (aD C! hw_)) (L8! aB zo!))) (bG (LO_ (L8! Z_ aB)) (LX! (It! (Mh_ (L8! (aQ mZ nA Z_ aB) aB) Z_))))))
def yS(T:g_):gs! Ok 1 "_law_items" bW_ (Eo):=
 eM T.P4 h! (Kh_ (LX! (aQ aK aW (aQ aK aW pz! (gR (NL:=dx!) χ a_ g! (Bz_ Qm) Cd.nil a_ χ kG_ zr! X_ (λ_ _ _ _ _=>c9b (F6! pz_ aY)) zt!)) (fS (n:=12) χ))))
def b4x(T:g_):gs! Ok 1 "_law_signs" bW_ (Mq):=
 eM T.P5 h! (Kf_ (bG (mS nd χ b! (EE_ dG pA_)) (bG (a9s MC χ kG_ nd χ b! (bD (iB (F6! kH_ aY) (bD (a9s MC χ (iC χ T.S6 (Ew_ kH_)) nd χ b! (bD (kI a_ (cP (aD a6_ (aD a6_ hx_))))))) dZ))) (a6h (LX! L_)))))
def a4n(T:g_):gs! Ok 1 "_law_text" [dn!,g1_] (Hr):=
 eM T.P6 h! (Kf_ (bG (fR nd χ a4! aY) (bD (bY (c7v aY (gR (NL:=[a0_]) χ a_ g! (Bz_ Sh) (Cd.cons dx_) a_ χ (iC χ T.S6 (FH! aB (Mi! C! L_))) (LQ_ [a0_,dn!,wb_]) X_ dw_ (LI! (aN aH aM Z_ (Mi! (aQ mZ nA L_ (FH! aB (L8! aB C!))) aB) k!))))))))
def jF(T:g_):gs! Ok 1 "_law_pick" or! (Co):=
 eM T.P7 h! (Kh_ zn_)
def b9k(T:g_):gs! Ok 3 "_law_deed" ys_ (Jg):=
 eM T.P8 h! (λhr nd=>(bG (EX! (KP_ hz_ (aD C! hw_))) (bG (EX! zz!) (bG (LN! (Ks_ (dA ag_ b1_ dN) (dA ag_ dN b1_))) (bG (LN! (Ks_ ag_ fF_)) (bG (iB (Fe_ bF!) (bD (EX! dG)) dZ) (bG (EX! (fS (n:=19) χ)) (bG (LQ! (Ez_ cV! zB_)) (bG (Fo_ zC_) (bG (Fo_ (aD bp_ zC_)) (bG (iB hA_ (KQ! (EE_ a7_ bp_)) dZ) (bG (LQ! (KP_ fE_ (aD (EK! b4x em_) hA!))) (bG (Fo_ (LX_ (KP_ (a4n T) (aD zA_ hx_)))) (bG (iB (sZ (rV hA_ (nK (GY! cV_)))) (KQ! (aD a7_ (LX_ (aQ aK aW aB (Mi! zK! (aQ kP kQ aB (Ez_ cV_ aB))))))) dZ) (bG (iB (bH b4s d5v a7_ fF_ χ) (KQ! (aD aY (aD bp_ (EE_ zM_ (aQ kP kQ zM_ aB))))) dZ) (bG (LQ! (aQ aK aW (gR (NL:=dx!) (ix:=[]) χ a_ g! (Bz_ So) Cd.nil a_ χ (eR Z_) (HV! zq_) X_ dw_ zt!) (Mf_ (Ma! aB (Ks_ aB zB_))))) (KQ! (aD a7_ (aD (HN_ fE_ (aD (aA 11) hA!)) aI)))))))))))))))))))
def b4y(T:g_):gs! Iv 1 "_law_deeds" yw! (Kq):=
 cM T.R3 h! (λhr nd=>(aF kP! (aF (cN (dX (F6! C! aB)) (aF (LY! (b3d zW! (aN aH aM L_ zW_ k!) dG)) (aF (eJ MC χ (Jn_ aB) aH! (cZ 5) (aF (a4z (kI a_ (Ma! bp_ (rW at! (cW ag_) (cW zX_))))) (Lt! (a2r kQ!)))) zZ_)) bR) (aF (x1_ M!) (aF (gZ MC (dX (bH yO yR ag_ kR! m_)) (aF hE_ (aF (gZ MC (dX (sZ (rV (bH yO yR pJ! kR! m_) (nK (bH ak_ cB (Ez_ L_ pJ!) (Mh_ (J1! pJ_) (Mb_ pJ_ bF!)) m_))))) z3!) (aF (a4z (kI a_ (LH! pJ_ pE!))) (Lt! pJ!))))) zZ_)))))
def a4r(T:g_):gs! Iv 1 "_law_hang" hb_ (Ht):=
 cM T.Q2 h! (λhr nd=>(aF (iO (NL:=dx!) nd χ b! χ a_ g! (Bz_ Sk) dx_ a_ χ (dY bG_) z4_ X_ z6! hH_) (aF hE_ (aF (gZ MC (dX (sZ (rV (bH yO yR ag_ kQ! m_) (nK (bH cn! oB (aN aH aM (Ez_ a7! ag_) aB k!) Z_ m_))))) (Lt! zX_)) (aF (eJ MC χ (HV_ kQ!) aH! (cZ 6) (aG (cN (dX (sZ (rV (GY! at!) (nK (bH ak_ cB (Ez_ a7! bp_) (LH! at! em_) m_))))) (aG (LY! (Ks_ bp_ aB))) bR))) (aG (dP v_ l! aP! (aC (aQ aK aW (aQ aK aW (dA a7! dN (cW ag_)) (Mf_ (LH! L_ em_))) (dA a7! (cW ag_) dN))))))))))
def b9i(T:g_):gs! Iv 1 "_law_lies" yu! (Lb):=
 cM T.Q3 h! (Kf_ (aF (gZ MC (dX Ab!) (aF (iO (NL:=dx!) nd χ b! χ a_ g! (Bz_ Sj) dx_ a_ χ (dY bG_) z4_ X_ (It_ (dX Ab_)) fL_) (aF (LS! (dX (gE (a6f at!)))) (aG (LY_ hK_))))) ep!))
def a4q(T:g_):gs! Iv 2 "_law_move" hb_ (Hs):=
 cM T.Q4 h! (Mg! (cN (vM (mD (Gx_ q_ bG_) (jP (vM (b9t (Gx_ M! bG_) (a8v (Gx_ M! (aC fF_)))))))) (aG (cN (rG (fP (LN_ b9i (aE M! a9!)))) (G7! (aE q_ (aE M! kW_))) bR)) bR))
def d1u(T:g_):gs! Iv 3 "_law_do" [cc!,cg_] (Vh):=
 cM T.Q5 h! (λhr nd=>(aF (LY_ ep_) (aF (LY_ (aC (Ma! fM! fM!))) (aG (cN cn_ (aF (x1_ (c9j (Ky_ bH_ bG_) (rH (Md! a6_)))) (aF (dP v_ bG_ au! px_) (aF (dP v_ bG_ au! (iQ (aE ac! (aE ac! (aE ac! kX_))))) (G7! (aE au! (aE (aC (b3d (eK a7!) a6_ aY)) kY!)))))) (aG (cN cn_ (Lc! hL!) (aG (cN cn_ (Lc! Ao_) (aG (cN pR! (aG (dP v_ pR_ bH_ bH_)) (aG (cN pR! (aF (x1_ pR_) (aF hE_ (aF (eJ MC χ (Lx! ag_) aH! (cZ 7) (aG (cN (dX (bH ak_ cB (aN aH aM (Ez_ ag_ bF!) aB k!) a6_ m_)) z3! bR))) (aF (iO (NL:=[a0_]) nd χ b! χ a_ g! pS_ (Cd.cons dx_) a_ χ (Lx! a6_) (KZ! [a0_,dd_,ka_]) X_ eq_ (LI! (aC (cP (aD (FH! Z_ (cP ck_)) (aD (Ez_ fM! C!) (aD fW aI))))))) (aG (dP v_ bG_ bH_ (aC (aQ aK aW (FH! (dA ag_ dN (cW bp_)) cV!) (dA ag_ (cW bp_) dN))))))))) (aG (cN pR! (aF (aV (i:=9) nd χ a4! (jQ (NL:=[a0_]) (NF:=[dd_]) (ix:=[2]) χ a_ g! pS_ At! a_ χ (HV_ a6_) (Kf! [a0_,dd_]) X_ eq_ (LI! (aC (Mh_ (J1! fM!) (Mb_ fM! C!)))))) (aF (G7_ pR_) (aG (dP v_ bG_ bH_ (jQ (NL:=hM!) (NF:=[oK!]) (ix:=[9]) χ a_ g! pS_ (Cd.cons (j:=9) Cd.nil) a_ χ (lL (eR ag_)) (Kf! ["_law_row",oK!]) X_ eq_ (J0_ (vU (aE eo_ (aE eo_ (aE (vV eo_ (rH (kR k0! fE eo_ q_ χ))) aO)))))))))) bR)))))))))))))))
def a0x(T:g_):gs! Ok 6 "are_parts" ny_ (Ez t):=
 eM T.E5 h! (Kh_ (bG (L9_ (bH yN yQ hs! Aw_ m_)) (bD (bY (LH_ (gR (NL:=Ax_) χ a_ g! (Bz_ Mj) Cd.nil a_ χ (d3j χ T.T0 d3z L_ C!) (λ_ _ _ _ _=>b8q χ (pC Az! (pC Az! b1i))) (c7e 0 1) dw_ (J0_ (c2w (c7f T) c! hw_ aN_))))))))
def a8n(T:g_):gs! Ok 7 "is_deed" C_ (Io t):=
 eM T.E6 h! (Kh_ (bG (L9_ (LR_ y7! (F6! hs! aB))) (bG (L9_ (LR_ (gE (Fe_ aO!)) (b5v AC_ χ aO!))) (bG (L9_ (gE (eK (aU (a0x T) c! χ (EE_ (dA C! b1_ dN) (c7x AC_ χ aO! k!)) an_)))) (LX! (zU (fI yN yQ aO! aY m_) (iJ (fI jA jB (FH! pz_ aO!) fC! m_))))))))
def sW(T:g_):gs! Ok 8 "is_operation" C_ (Cb t):=
 eM T.E7 h! (LK_ (lC zc! (lC za! (iJ (EK! a8n pq!)))))
def pH(T:g_):gs! Iv 2 "was_taken" bU_ (Ex t):=
 cM T.L6 h! (EB_ (kR jA (Gy.m jB) ep_ AH! m_))
def rB(T:g_):gs! Iv 3 "not_yet_taken" ea! (Dp t):=
 cM T.L9 h! (Kf_ (aF hO_ (aF (eJ MC χ (dY (Md_ hP! q_)) aH! fO_ (aF p2! (aF (cN (fP (LN_ pH kW_)) (Mb! (cG M_ bL (LJ! ek! (aC p2_)) (aC (aQ kP kQ p2_ aB)) k!)) (aG (cN (L5_ (aC p2_) p3!) k3_ (Mb! (yZ v_ M! a8! au! cl_))))) (aG (cN (dX (bH cn! oB ag_ at! m_)) k3_ bR))))) hQ!)))
def pI(T:g_):gs! Iv 2 "last_time" n4_ (Dz t):=
 cM T.L8 h! (Kh_ (aF (cN (L5_ (EZ! iN a9!) ac!) (GK! ac!) bR) (aG (bM (cG M_ bL (LJ! (EM! ek! q_) k4!) ac! k!)))))
def vC(T:g_):gs! Iv 3 "check_times" [z!,jL!] (Ib t):=
 cM T.M9 h! (Kf_ (aF hO_ (aG (eJ MC χ (dY (mI (xX χ) c3e χ T.S7 zY a9!)) aH! fO_ (aF (x1_ (cG M_ bL (LJ! q_ au!) ac! k!)) (aF (cN (dQ jA (Gy.m jB) a8! (mH v_ M! hK_ (LN_ pI (aE hK_ aO)) cl_) m_) k3_ bR) (aG (dP v_ M! hK_ a8!))))))))
def rC(T:g_):gs! Iv 9 "check_message" ea! (Er t):=
 cM T.N0 h! (Kh_ (aF (cN (L8_ (LH_ (gR (NL:=C_) χ a_ g! (Bz_ Ii) Cd.nil a_ χ (eR L_) (Gr_ (show(C_:μ Str).Nodup by decide+kernel)) X_ dw_ (λ_ _ _ _ _=>(EK! sW ck_))))) k3_ bR) (LI_ (Me! vC (aE l! (aE (Cc! rB dz_) aO))))))
def nY(T:g_):gs! Iv 2 "is_next" bU_ (Gx t):=
 cM T.L7 h! (EB_ (kR ak_ k3! ep_ (Md_ AH! ac!) m_))
def rD(T:g_):gs! Iv 1 "accept" bU_ (Kn t):=
 cM T.N3 h! (Kh_ (aF (cF (kS (yZ v_ ek! ep_ ek_ cl_) q_)) zm_))
def pK(T:g_):gs! Iv 3 "accept_waiting" [z!] (Fy t):=
 cM T.N4 h! (Kf_ (aF hE_ (aF AO_ (aF (gZ MC (dX (bH uX uZ (bK bQ dD χ T.S3 cU em_) aB m_)) (aF kC (aF (cF (LN_ rD kY!)) (aF (b9v nd χ b! ac!) (aG AO_))))) dA_))))
def a8k(T:g_):gs! Iv 4 "receive" bU_ (Im t):=
 cM T.N5 h! (Kf_ (aF (cN (fP (Cc! nY dz_)) (aF (cF (Cc! rD dz_)) (LZ! (Md_ ac! (Cc! pK co_)))) bR) (aF (x1_ (c9j (Me! pH dz_) (rH (kR b2! fE q_ hP! χ)))) (aF (cN (vM (mD (L8_ Z_) (jP (dQ yO (Gy.m yR) (GJ_ (aE hP! aO)) (aC (fH T.T5 χ)) m_)))) (LI_ (kS hP! q_)) bR) (GK! ac!)))))
def b1t(T:g_):gs! Iv 10 "take" ea! (Pp t):=
 cM T.N6 h! (Kf_ (aF (cF (Cc! rC dz_)) (aF hE_ (aF (eJ MC χ (lL (eR L_)) aH! fO_ (aG (b9v nd χ b! (LN_ a8k kW_)))) hQ!))))
def b4w(T:g_):gs! Ok 4 "_law_world" yt_ (Ko):=
 eM T.P9 h! (λhr nd=>(bG zV_ (bG AV_ (bG AV_ (bG (a9s MC χ (iC χ T.S6 Z_) nd χ b! (bG (LQ! (KP_ hz_ (EE_ C! AW!))) (bG (LO_ bF!) (bG (c2l a_ cV! AW_) (bG (c2l a_ cV! (Ks_ AW_ (It! (aQ mZ nA bF! aB)))) (bG (EX! (a2r (aU (b9k T) c! χ (L2! (Ks_ AW! aB) (aD at! k8!)) (aJ (aJ an_))))) (bD (kI a_ (LH! (Ez_ pA_ cV!) (aD p7_ (EE_ p7_ a7_))))))))))) (a6h (LX! at!)))))))
def b9j(T:g_):gs! Iv 11 "_law_hand" yu_ (Oj t):=
 cM T.Q8 h! (Kf_ (aF (iO (NL:=dx!) nd χ b! χ a_ g! (Bz_ Sl) dx_ a_ χ (lL (eR (aU (b4w T) c! χ (L2! L_ hx_) (aJ an_)))) AZ_ X_ z6! hH_) (aF (x1_ (b2d (vG T) c! χ b4_)) (aF (cF (Cc! b1t A0!)) (GK! (vU A0!))))))
def a4p(T:g_):gs! Iv 1 "_law_next" yv! (Jf):=
 cM T.Q9 h! (Kf_ (aF (iO (NL:=dx!) nd χ b! χ a_ g! A0_ Cd.nil a_ χ k9! zr! X_ eq_ fL_) (aG (bM (aC (cP (aD L_ (aD (aQ aK aW aB (Ew_ (gR (NL:=dx!) χ a_ g! A0_ dx_ a_ χ kG_ AZ_ X_ (λ_ _ _ _ _=>c9b Ab_) (LI! C!)))) (aD (aQ aK aW aB (bK (b5y χ) c8i χ T.S4 c3s (aD (FH! at! pz!) aI))) em_)))))))))
def lZ(T:g_):gs! Iv 1 "_law_ordered" bW_ (Db):=
 cM T.Q0 h! (Mg_ (aF (eJ MC χ k9! aH! hU_ (aF (LY! (a2r Aw_)) (aF (gZ MC (dX (sZ (rV (bH uX uZ at! aB m_) (nK (bH (d1q (Ai.units0 hr)) d1y (Ma! A3! A3!) (Ma! a6_ a6_) m_))))) (aG (LY! A2_))) (aG (a4z (b5w a_ at! Z_)))))) (mE dA_)))
def a8o(T:g_):gs! Iv 2 "_law_undone" bW_ (Kz):=
 cM T.Q1 h! (L2_ (eJ MC χ A5! aH! hU_ (aG (cN (Gx_ la_ (aC fF_)) (aG (dP v_ q_ la_ (Md! kH_))) bR))))
def a4o(T:g_):gs! Iv 4 "_law_play" bW_ (La):=
 cM T.Q6 h! (Kf_ (aF (x1_ (pP v_ (iP aP! px_ (iP aP! fO (iP aP! fO vN))))) (aF (LK! a8o) (aF (eJ MC χ A5! aH! fO_ (aG (cN (vM (mD (Me_ (aC (Ez_ kV_ aB)) (aC fF_)) (jP (rG (fP (mH v_ M! (aC (Ma! kV_ kV_)) kV! cl_)))))) (LI_ (Cc! d1u qc!)) bR))) dA_))))
def vF(T:g_):gs! Iv 1 "_law_shown_text" oL! (Gd):=
 cM T.Q7 h! (Kh_ (LZ! (b2e (jQ (NL:=hM!) χ a_ g! (Bz_ Ke) Cd.nil a_ χ (dY (EM! bG_ q_)) (Gr_ A6!) X_ qd! fL_))))
def a0v(T:g_):gs! Iv 3 "next_time" [z!] (Ho t):=
 cM T.O4 h! (Mg! (bM (sK aK jN ac! (c6n χ T.S4 χ (jQ (NL:=[cE_]) χ a_ g! (Bz_ Mi) dx_ a_ χ (b9y ek!) (LQ_ [cE_,z!]) X_ eq_ (LI! (Cc! pI (aE q_ co_))))))))
def b1u(T:g_):gs! Iv 4 "make" [z!,"deed"] (Mc t):=
 cM T.O5 h! (Kf_ (aF (x1_ (vU (aE p3! (aE (sK aK jN (cJ (iN T) c! l! (aE p3! aO)) ac!) aO)))) (aF (cF (aS (rD T) c! χ (aE l! (aE (Md_ M! (vU (aE (Cc! a0v co_) a9!))) aO)))) hQ!)))
def xM(T:g_):gs! Df 1 t.B7 "listed" [L!] (Je t):=
 dB T.U7 T.G6 h! (Mg_ (aF (x1_ (LJ! dB! cm!)) (aF (gZ MC (dX (GY! Z_)) (aF (a4z (kI a_ Z_)) (Mb! (LJ! dB! M!)))) (mE dA_))))
def fN(T:g_):gs! Df 2 t.B6 "signs_of" fc_ (Cf t):=
 dB T.U6 T.J9 h! (Kh_ (LZ! (jQ (NL:=[ae_]) (NF:=[L!]) (ix:=[0]) χ a_ g! (Bz_ Gp) A8_ a_ χ (dY (c0a (xM T) c! A9!)) Ba! X_ (It_ (Me_ l! (bN T.U6 T.W3 q_))) hH_)))
def dO(T:g_):gs! Df 1 t.B6 "has_item" bR_ (Bk t):=
 dB T.U6 T.G9 h! (EB_ (Ky_ q_ le_))
def rA(T:g_):gs! Ok 1 "time_and_hand" dh_ (Cv):=
 eM T.E8 h! (Eq! zs!)
def lW(T:g_):gs! Ok 4 "in_order" cE! (Cs):=
 eM T.E9 h! (Eq! (c2v (rA T) (Ai.in1 (Ai.in1 c!)) χ χ T.S7 C!))
def nB(T:g_):gs! Wl 1 "Row" t.B7 [L!] (Fp t):=
 a0z T.F6 h! (Kh_ (aF (gC T.U7 T.V3 l! Bc!) (aG (gC T.U7 T.V4 l! Bc!))))
def xN(T:g_):gs! Wl 3 "Outline" t.B6 [L!] (Gw t):=
 a0z T.G7 h! (Kh_ (aF (gC T.U6 T.V5 l! (Jo! cm! cm!)) (aF (gC T.U6 T.V6 l! (Jo! lg_ lg_)) (aF (Hq! T.V7) (aF (Hq! T.V8) (aF (Hq! T.V9) (aG (Hq! T.W3))))))))
def jC(T:g_):gs! Ok 1 "is_undo_or_redo" dh_ (At):=
 eM T.K3 h! (LG_ Bf! Bf!)
def xK(T:g_):gs! Iv 5 "last_words" cE! (Fo):=
 cM T.K4 h! (L2_ (eJ MC χ Bg_ aH! hU_ (aG (cN (dX (eK (EK! jC em_))) (aG (dP v_ q_ la_ la_)) bR))))
def b4u(T:g_):gs! Iv 6 "undone" cE! (Kl):=
 cM T.K5 h! (Kf_ (aF (LK! xK) (aF hO_ (aF (eJ MC χ k9! aH! fO_ (aF p2! (aG (cN (vM (mD (L8_ (EK! jC hx_)) (jP (L5_ (c0b v_ q_ a8! cl_) aP!)))) (aG (dP v_ M! a8! kV!)) bR)))) hQ!))))
def pL(T:g_):gs! Df 1 t.B7 "holds" bR_ (Fb t):=
 dB T.U7 T.F7 h! (EB_ (vV Bj! (rH (Ky_ q_ dB!))))
def gB(T:g_):gs! Df 2 t.B7 "put_behind" [L!,ae_,cE_] (Ce t):=
 dB T.U7 T.F8 h! (Kf_ (aF (x1_ (c9k (fP (cJ (pL T) c! l! b4_)) M! cm!)) (aF (x1_ (LJ! dB! au!)) (aF (dP v_ dB! au! q_) (aF (HO! ll_ au!) (aF (HO! dB! a8!) (aG (dP v_ ll_ a8! q_))))))))
def lY(T:g_):gs! Df 1 t.B6 "has" bR_ (Ds t):=
 dB T.U6 T.G8 h! (EB_ (Ky_ q_ h0_))
def vD(T:g_):gs! Df 3 t.B6 "put" gL! (Ic t):=
 dB T.U6 T.J0 h! (Kf_ (aF (x1_ (c9k (fP Bm_) M! aP!)) (aF (HO! qn_ a8!) (aF (LP! a8!) (aF (HO! h0_ lg_) (aF (HO! le_ lg_) (aG (HO! Bo! (c6m kX_ (aC (fH T.T3 χ)))))))))))
def sX(T:g_):gs! Df 1 t.B7 "take_out" bR_ (Hh t):=
 dB T.U7 T.F9 h! (Kf_ (aF (x1_ (b9z v_ ll_ q_ cl_)) (aF (x1_ (b9z v_ dB! q_ cl_)) (aF (dP v_ dB! M! au!) (aG (dP v_ ll_ au! M!))))))
def lX(T:g_):gs! Df 1 t.B6 "is_within" nH_ (Ek t):=
 dB T.U6 T.H9 h! (Kf_ (aF (gZ MC (dX (sZ (rV (GY! L_) (nK Ab!)))) (Mb! Bp_)) (GK! Bj!)))
def nN(T:g_):gs! Df 2 t.B6 "can_move" nN! (Dm t):=
 dB T.U6 T.J4 h! (EB_ (vV qp_ (vV Bm_ (rH (d2d (cJ (lX T) c! l! (aE M! a9!)))))))
def lJ(T:g_):gs! Df 3 t.B6 "move" gL! (Fq t):=
 dB T.U6 T.J5 h! (Kh_ (aF (LJ_ (EZ! nN (aE q_ b4_))) (aF (cF (cJ (sX T) c! (EM! h0_ Bp_) a9!)) (aF (LP! M!) (aG (HO! qn_ M!))))))
def rF(T:g_):gs! Df 3 t.B6 "write" yq! (Gk t):=
 dB T.U6 T.J6 h! (Kf_ (aF (LJ_ (EZ! dO b4_)) (aF (x1_ au!) (aG (eJ MC χ (lL (c2t χ T.R9 a7!)) (b8q χ (pC aH! (pC aH! b1i))) (c1t 6 7) (aF (x1_ (aC (LM_ L_ bp_))) (aF (cF (cJ (gB T) c! (EM! le_ M!) (aE h3_ lp_))) (aF (dP v_ (bN T.U6 T.V9 l!) h3_ (aC bF!)) (Mb! h3_)))))))))
def vE(T:g_):gs! Df 2 t.B6 "cut" yq_ (Ie t):=
 dB T.U6 T.J7 h! (Kf_ (aF (LJ_ qp_) (aG (eJ MC χ (lL (zS χ T.S6 a6_ (FH! a6_ at!))) aH! (cZ 4) (aF (x1_ (aC (LM_ (dA Z_ dN b1_) a7!))) (aG (cN (fP (cJ (pL T) c! A9! lp_)) (aG (dP v_ (bN T.U6 T.W3 l!) cp! kV!)) bR)))))))
def lK(T:g_):gs! Df 2 t.B6 "set_number" nP_ (Eb t):=
 dB T.U6 T.J8 h! (Mg! (cN (fP qp_) (aG (dP v_ (EM! Bo! q_) M! au!)) bR))
def c6e(T:g_):gs! Iv 4 "play" nY_ (Mb t):=
 cM T.K6 h! (Mg! (cN cn_ (L9! vD (aE q_ (aE bH_ kY!))) (aG (cN cn_ (L9! lJ hL!) (aG (cN cn_ (L9! lJ Ao_) (aG (cN cn_ (L9! rF (aE q_ hL!)) (aG (cN cn_ (L9! vE hL!) (aG (cN cn_ (L9! lK hL!) bR))))))))))))
def b4v(T:g_):gs! Iv 7 "played" cE! (Km t):=
 cM T.K7 h! (Kf_ (aF (x1_ (mG (xN T) c! χ)) (aF (LK! b4u) (aF (eJ MC χ Bg_ aH! fO_ (aF p2! (aG (cN (Me_ a8! M!) (LI_ (Me! c6e (aE q_ (G8! a8! hK_)))) bR)))) dA_))))
def pJ(T:g_):gs! Iv 5 "all_taken" [z!] (Fa t):=
 cM T.L4 h! (Mg_ (aF (eJ MC χ (b9y ek!) aH! hU_ (aG (b5f a_ (EM! ek! M!)))) (mE (LZ! (aC (EK! lW hw_))))))
def xJ(T:g_):gs! Iv 8 "outline_of" [z!] (Eg t):=
 cM T.L5 h! (Kh_ (aF (cN (dQ a8g (Gy.m a8p) BC_ cm! m_) (aG (gC T.U5 T.W7 l! (Cc! b4v (aE BD_ aO)))) bR) (GK! BC_)))
def gF(T:g_):KQ_ AR Cy:=
 a0y T.N8 h! (λhr hX nd=>(jO (d6b (x1_ (Kz! xJ co_))) (jO (a4y (rG (fP (cJ (dO T) c! M! a9!))) (KZ_ a9o) lu_) (a4x hQ!))))
def pG(T:g_):gs! AR 10 "signs_at" [z!,ar_,cG!] (Hn t):=
 a0y T.O7 h! (λhr hX nd=>(jO (vJ nd χ b! (c6k (fN T) c! (pM hX (gF T) c! χ dz_) a9!)) (jO (a4y (dX (Kd! Z_ pH!)) (KZ_ (b5s hr χ b! a_ a9o)) lu_) (a4x (GK! au!)))))
def b4t(T:g_):gs! AR 11 "write" yr_ (Po t):=
 a0y (q:=Sr t) T.O8 h! (λhr hX nd=>(jO (Kd_ b!) (jO (a4y (L8_ (LH_ (gR (NL:=e5_) (NF:=[]) (ix:=[]) χ a_ g! (Bz_ Sa) Cd.nil a_ χ (c2s at!) (HV! zg_) X_ dw_ zh!))) (gM (d6b kC)) lu_) (a4x (aF (aV (i:=5) nd χ b! (aC (b3d zW! (Ez_ a7! zW_) dG))) (aF (aV (i:=6) nd χ b! ek_) (aF (eJ MC χ (Jn_ fC!) (Hq_ 7 nd) (cZ 7) (aF (aV (i:=8) nd χ b! (KI! (aC (cP (aD aY (aD L_ (aD ag_ (aD (rW at! (cW bF!) (cW (FH! bF! fC!))) aI)))))))) (aF (cF (kS h4_ h3_)) (aG (G7_ (aC (Mh_ cV! (LH! (aQ kP kQ fC! aB) aI)))))))) (GK! h4_))))))))
def vB(T:g_):gs! Ok 1 "is_followed" oi! (Da):=
 eM T.O9 h! (Eq! (fI ak_ cB L_ (LM_ zd! (Ks_ aO! aB)) m_))
def a8j(T:g_):gs! Iv 2 "rows_of" [cJ_] (Ni):=
 cM T.P0 h! (Kf_ (aF (x1_ ek_) (aF (eJ MC χ k9! aH! hU_ (aG (cN (vM (mD (dQ uX (Gy.m uZ) (GJ_ a9!) ac! m_) (jP (fP (aS (Ok.m (vB T)) c! χ (aE (EM! BK! k4!) b4_)))))) (LI_ (kS BK! M!)) (LI_ (kS q_ (iQ b4_)))))) dA_)))
def c6c(T:g_):gs! AR 11 "cut" ys! (Us t):=
 a0y (q:=Xh t) T.P1 h! (λhr hX nd=>(jO (Kd_ a4!) (jO (a4y (dX (bH uX uZ kR! kQ! m_)) (EZ_ (b5s (i:=3) hr χ b! a_ (a9p (b5s (i:=1) hr χ b! a_ (a9p (b5s (i:=2) hr χ b! a_ a9o)))))) lu_) (a4x (aF (G7_ ek_) (aF (eJ MC χ (dY (aS (a8j T) c! χ (aE (aC (gR (NL:=["k"]) (NF:=[cJ_]) (ix:=[4]) χ a_ g! (Bz_ Ww) (Cd.cons (j:=4) Cd.nil) a_ χ (zS χ T.S6 Z_ kR!) (Kf! ["k",cJ_]) X_ dw_ (LI! (Ez_ L_ C!)))) aO))) (Hq_ 6 nd) (cZ 6) (LI_ (kS cp! (KI! (vU (aE aP! (aE q_ (aE (EM! h4_ ac!) (aE (GJ_ (aE h4_ aO)) aO))))))))) (GK! cp!)))))))
def c6g(T:g_):gs! Iv 12 "_law_try" yv_ (Ro t):=
 cM T.R0 h! (Kf_ (aF (x1_ cm!) (aF (d2b (ie:=6) #[χ,χ,λ_=>hr.hd,nd,χ,χ,T!,χ,χ,χ,T.U8,T.V1] (c5r χ χ χ T.S2 cS χ T.U9) (d7y T.V2) (λpn f M0 G0 F0 E hX=>(gM (a4y (dX (F6! L_ aB)) (Gy! b4t) (Gy! c6c))))) (GK! cp!))))
def nZ(T:g_):gs! Df 3 t.B6 "text_of" fc_ (Dv t):=
 dB T.U6 T.K0 h! (Mg! (bM (b2e (jQ (NL:=[ae_]) (NF:=[L!]) (ix:=[0]) χ a_ g! (Bz_ Gz) A8_ a_ χ (dY (EZ! fN a9!)) Ba! X_ eq_ (LI! (EM! (bN T.U6 T.V9 q_) l!))))))
def c6f(T:g_):gs! Iv 6 "give" [z!,"have"] (Pq t):=
 cM T.N7 h! (λhr nd=>(aF (aV (i:=2) nd χ a4! (b5g v_ χ T.R8 χ T.R9 χ q_)) (LZ! (jQ (NL:=dh_) (NF:=[oc_]) (ix:=[2]) χ a_ g! (Bz_ Vd) At! a_ χ (dY BD_) (Kf! [cd_,oc_]) X_ (It_ (dQ uX (Gy.m uZ) eo_ (mH v_ q_ eo_ ac! cl_) m_)) hH_))))
def gY(T:g_):KQ_ Iv Cm:=(gF T).m
def a4l(T:g_):gs! Iv 10 "signs" bC! (Kw t):=
 cM T.O0 h! (Lt_ fN)
def c6d(T:g_):gs! Iv 10 "text" bC! (Rn t):=
 cM T.N9 h! (Lt_ nZ)
def a8i(T:g_):gs! Iv 11 "writers" bC! (Kv t):=
 cM T.O3 h! (λhr _=>(LZ! (jQ (NL:=[ae_]) (NF:=[]) (ix:=[]) χ a_ g! (Bz_ Os) Cd.nil a_ χ (dY (Cc! a4l dz_)) (Kf! [ae_]) X_ eq_ fL_)))
def Xd(K:zR!):Sp:=λvs H Q E=>∀(P:zH!) (w:zF!) (t:Bo),t.nd->BE P w K 1 (AK t) vs H Q E
section
variable{P:zH!}{w:zF!}{K:zR!}{mg:Str->Option Value}{h:Heap}
def c8n{A:Bo}(gg:BT_)(dl:BU!)(T:Txt P w K mg A)(nd:Bo.nd A):
  ∃fd:FuncData,BU_/\∀base:Heap,K.In base->EG! base.Ns->KT! K:=by
 let#[fd,Y,h2]:=c6s (df:=[]) (k:=12) (P:=P) (w:=w) (q:=Xk A) dl dU gg (λbase af ah A outer s H E hr=>(aF (aV (i:=1) dU.nd χ b! (aS (b9j T) c! χ (aE l! (aE ac! (G8! ac! (aC BV_))))))
   (LS_ (sK aK jN ep_ (d2e (aE (Kz! a4p (aE ep_ (G8! ac! (aC pA_)))) aO)))
   (Eq_ 3 (b2d (vG T) c! χ kX_)
   (aF (cF (Cc! b1t (aE au! b4_)))
   (aF (eJ MC χ (HV_ BV_) (Hq_ 4 dU.nd) (cZ 4) (aF (aV (i:=5) dU.nd χ b! (aC (aU fE_ c! χ (aD (aQ aK aW (dA zz! b1_ dN) (Mf_ (dA (Ez_ Z_ (oK aB)) dN b1_))) (aD lA! aI)) an_)))
   (Eq_ 6 BZ!
   (aF (iO (i:=7) (NL:=hM!) (NF:=[]) (ix:=[]) dU.nd χ b! χ a_ g! qB_ Cd.nil a_ χ (dY (mH v_ BZ_ cp! ek_ cl_)) B0_ X_ qd! fL_)
   (aF (aV (i:=8) dU.nd χ b! (aC (Mi! lA! (FH! qC! aB))))
   (Eq_ 9 B2!
   (Eq_ 10 B2!
   (aF (aV (i:=11) dU.nd χ b! (vV (Ky_ cp! BZ_) (rH (aC (fI jA jB (FH! cV! (L8! a7_ cV_)) qC! m_)))))
   (aF (cN (dX B3_) (aG (aV (i:=10) dU.nd χ b! (aC (rW (HN_ (a4n T) (aD lA! k8!)) (cW (It! cV_)) dN)))) bR)
   (Eq_ 12 aP!
   (aF (cN B5! (Eq_ 12 ek_
   (aG (eJ MC χ (dY (Kz! b4y (Ke! (aC bF!)))) (Hq_ 13 dU.nd) (cZ 13) (Eq_ 16 (aC B7!)
   (aF (cN (dX (eK (KL_ (aA 16)))) (aG (aV (i:=16) dU.nd χ b! (Md_ (EM! qD! k4!) (aC pz!)))) bR)
   (aF (aV (i:=17) dU.nd χ b! (aS (a4p T) c! χ (aE M! (aE ac! (aE (aC (LH! (Ez_ fF_ a7_) (aD ag_ (EE_ (aA 16) B7!)))) aO)))))
   (LS_ (aC (FH! Z_ (Mf_ (aA 17))))
   (LI_ (kS qD! (aC (J1! (aA 17)))))))))))) bR)
   (aF (LS! (vM (b9t (dQ cn! uY (Kz! c6g (aE au! (Ke! cp!))) qD! m_) (a8v (dQ cn! uY (Kz! c6f (G8! au! (c6l kX_ ac!))) (Cc! lZ b4_) m_)))))
   (aG (cN B5! (Eq_ 14 BZ!
   (aF (iO (i:=15) (NL:=hM!) (NF:=[]) (ix:=[]) dU.nd χ b! χ a_ g! qB_ Cd.nil a_ χ (dY (LJ! (EM! (aC (aA 14)) aP!) cp!)) B0_ X_ qd! fL_)
   (aF (LS! (vM (b9t (dQ cn! uY (Cc! c6d qJ!) (Cc! vF (aE (aC (aA 14)) lp_)) m_) (a8v (dQ cn! uY (Cc! a4l qJ!) (aC (aA 15)) m_)))))
   (aF (LS! (dX (bH cn! oB (Ew_ (aA 15)) (Ks_ qC! (b3d B3_ (oK cV_) (Ew_ cV_))) m_)))
   (aG (LS! (dQ cn! uY (Cc! a8i qJ!) (aC (gR (NL:=[ka_]) (NF:=[]) (ix:=[]) χ a_ g! qB_ Cd.nil a_ χ (eR (aA 15)) (Kf! [ka_]) X_ dw_ (J0_ aO!))) m_))))))) bR))))))))))))))
   ep!))))))
 exact#[fd,Y,λbase i g=>(h2 base i g).imp λvs H Q E z=>z P w _ nd]
def d4f(gg:BT_)(dl:BU!)(T:Txt P w K mg qK!)(nd:Bo.nd qK!):
  ∃fd:FuncData,BU_/\∀base:Heap,K.In base->EG! base.Ns->KT! K:=c8n gg dl T nd
def b5r{ad:sS!}{k3:Tok}{o0 o1 o2 o3 o4 o5 o6 o7:ec!}{n0 n1 n2 n3 n4 n5 n6 n7 ep:δ}{s0 s1 s2 s3 s4 s5 s6 s7:ol!}(X:K.In h)(G:fN_)
  (ga:FW_ K "PARTS"=GY_ kG!)(gl:E8_ ad=ψ {cls:=.type "dict",data:=.dict [#[PyData.keyHash w.params "put",.str "put" k0,.ref r0],#[PyData.keyHash w.params "move",.str "move" k1,.ref r1],#[PyData.keyHash w.params "drop",.str "drop" k2,.ref r2],#[PyData.keyHash w.params "write",.str "write" k3,.ref r3],#[PyData.keyHash w.params "cut",.str "cut" k4,.ref r4],#[PyData.keyHash w.params "set",.str "set" k5,.ref r5],#[PyData.keyHash w.params "undo",.str "undo" k6,.ref r6],#[PyData.keyHash w.params "redo",.str "redo" k7,.ref r7]].toArray ep})(gs:py!=θ)
  (l0:E8_ r0=ψ #[c0!,o0,.seq [.ref B8,.ref B9].toArray n0,s0])
  (l1:E8_ r1=ψ #[c0!,o1,.seq [.ref B8,.ref B8,.ref B9].toArray n1,s1])
  (l2:E8_ r2=ψ #[c0!,o2,.seq [.ref B8].toArray n2,s2])
  (l3:E8_ r3=ψ #[c0!,o3,.seq [.ref B8,.ref C2,.ref C3].toArray n3,s3])
  (l4:E8_ r4=ψ #[c0!,o4,.seq [.ref B8,.ref C4,.ref C5].toArray n4,s4])
  (l5:E8_ r5=ψ #[c0!,o5,.seq [.ref B8,.ref C6,.ref C7].toArray n5,s5])
  (l6:E8_ r6=ψ #[c0!,o6,.seq [.ref C8].toArray n6,s6])
  (l7:E8_ r7=ψ #[c0!,o7,.seq [.ref C8].toArray n7,s7])
  :∀X:Cx,X.prog=P->X.w=w->X.K=K->X.mg=mg->Tk X "PARTS" (Dq qK!):=λjl e1 e2 e3 e4=>
 c1u (rows:=[("put",k0,r0),("move",k1,r1),("drop",k2,r2),("write",k3,r3),("cut",k4,r4),("set",k5,r5),("undo",k6,r6),("redo",k7,r7)]) (w:=w) e2 e3 e4 (eQ X G ga) gs gl (o7! ["put","move","drop","write","cut","set","undo","redo"]) #[χ,gU (fs:=[B8,B9]) l0 (by show 2<=1000;decide),χ,gU (fs:=[B8,B8,B9]) l1 lE_,χ,gU (fs:=[B8]) l2 qN!,χ,gU (fs:=[B8,C2,C3]) l3 lE_,χ,gU (fs:=[B8,C4,C5]) l4 lE_,χ,gU (fs:=[B8,C6,C7]) l5 lE_,χ,gU (fs:=[C8]) l6 qN!,χ,gU (fs:=[C8]) l7 qN!,ο]
end
end K21
open PySem PySem.W PyProof.Rows
set_option tactic.hygienic true in
set_option maxRecDepth 100000 in
set_option maxHeartbeats 0 in
theorem PySem.Challenge.cw_manyhands_k21_own_texts_holds : PySem.Challenge.rw_manyhands_k21_own_texts.Holds := by
 w_on;o_law;k_head;(case hw=>w_witness2)
 k_fill
 exact L2.b6m (l:=PySem.Challenge.rw_manyhands_k21_own_texts) (n:=63) (k:=13) (x:="_law_script") (CX:=L2.Nr) (sp:=K21.Xd) rfl (by decide) rfl #[rfl,by decide,by decide,rfl] (λw h Y=>W.kIn_of Y) ?F (λK H a ns hl _ hS P w t nd=>DL.c6r hS (K21.c0q nd)) (λ_ _ _ _ z=>z)
 case F=>
  intro w mg fa h KX G hmg;refine' K21.d4f hmg ?dl #[?D3,?D4,?D5,?D6,?D7,?D8,?D9,?E1,?E2,?E3,?E4,?E5,?E6,?E7,?E8,?E9,?F6,?F7,?F8,?F9,?G6,?G7,?G8,?G9,?H9,?J0,?J4,?J5,?J6,?J7,?J8,?J9,?K0,?K3,?K4,?K5,?K6,?K7,?K8,?K9,?L4,?L5,?L6,?L7,?L8,?L9,?M9,?N0,?N3,?N4,?N5,?N6,?N7,?N8,?N9,?O0,?O3,?O4,?O5,?O7,?O8,?O9,?P0,?P1,?P2,?P3,?P4,?P5,?P6,?P7,?P8,?P9,?Q0,?Q1,?Q2,?Q3,?Q4,?Q5,?Q6,?Q7,?Q8,?Q9,?R0,?R3,?R4,?R5,?R6,?R7,?R8,?R9,?S1,?S2,?S3,?S4,?S5,?S6,?S7,?S8,?S9,?T0,?T1,?T2,?T3,?T4,?T5,?T6,?T7,?T8,?T9,?U0,?U1,?U2,?U3,?U4,?U5,?U6,?U7,?U8,?U9,?V0,?V1,?V2,?V3,?V4,?V5,?V6,?V7,?V8,?V9,?W3,?W4,?W5,?W6,?W7,?gp] ?nd
  (case F6=>show"!!")
  (case G7=>show"!!")
  (case K8=>(dsimp only;refine' DL.b9w (DL.eQ KX G ?g) ?a ?i ?l ?c ?k ?mm ?kc ?b;(case g=>k_is);(case a=>k_is);(case i=>k_is);(case l=>k_is);(case c=>k_is);(case k=>k_is);(case mm=>k_is);(case kc=>k_is);(case b=>exact λ_ _ _ _ _ _=>DL.nL λ_ _=>rfl)))
  (case D3=>show"!#")
  (case D4=>show"!$")
  (case D5=>show"!#")
  (case D6=>show"!#")
  (case D7=>show"!#")
  (case D8=>show"!#")
  (case D9=>show"!#")
  (case E1=>show"!#")
  (case E2=>show"!#")
  (case E3=>show"!#")
  (case E4=>show"!#")
  (case E5=>show"!$")
  (case E6=>show"!#")
  (case E7=>show"!#")
  (case E8=>show"!#")
  (case E9=>show"!#")
  (case F7=>show"!%")
  (case F8=>show"!&")
  (case F9=>show"!%")
  (case G6=>(dsimp only;refine' DL.eF ?a ?i ?l ?c ?k ?b;(case a=>k_is);(case i=>k_is);(case l=>k_is);(case c=>k_is);(case k=>k_is);(case b=>exact λ_ _ _ _ _ _=>DL.mV λ_=>rfl)))
  (case G8=>show"!%")
  (case G9=>show"!%")
  (case H9=>show"!&")
  (case J0=>show"!'")
  (case J4=>show"!&")
  (case J5=>show"!'")
  (case J6=>(dsimp only;refine' DL.eF ?a ?i ?l ?c ?k ?b;(case a=>k_is);(case i=>k_is);(case l=>k_is);(case c=>k_is);(case k=>k_is);(case b=>exact λ_ _ _ _ _ _=>DL.us5 λ_ _ _ _ _=>rfl)))
  (case J7=>show"!'")
  (case J8=>show"!'")
  (case J9=>show"!%")
  (case K0=>show"!%")
  (case K3=>show"!#")
  (case K4=>show"!#")
  (case K5=>show"!#")
  (case K6=>show"!(")
  (case K7=>show"!#")
  (case K9=>show"!%")
  (case L4=>show"!#")
  (case L5=>show"!#")
  (case L6=>show"!$")
  (case L7=>show"!$")
  (case L8=>show"!$")
  (case L9=>show"!$")
  (case M9=>show"!$")
  (case N0=>show"!$")
  (case N3=>show"!$")
  (case N4=>show"!#")
  (case N5=>show"!$")
  (case N6=>show"!$")
  (case N7=>show"!$")
  (case N8=>show"!$")
  (case N9=>show"!$")
  (case O0=>show"!$")
  (case O3=>show"!$")
  (case O4=>show"!#")
  (case O5=>show"!$")
  (case O7=>show"!(")
  (case O8=>show"!)")
  (case O9=>show"!$")
  (case P0=>show"!#")
  (case P1=>show"!)")
  (case P2=>show"!$")
  (case P3=>show"!$")
  (case P4=>show"!#")
  (case P5=>show"!#")
  (case P6=>show"!$")
  (case P7=>show"!$")
  (case P8=>show"!)")
  (case P9=>show"!(")
  (case Q0=>show"!#")
  (case Q1=>show"!#")
  (case Q2=>show"!)")
  (case Q3=>show"!(")
  (case Q4=>show"!)")
  (case Q5=>show"!$")
  (case Q6=>show"!#")
  (case Q7=>show"!$")
  (case Q8=>show"!)")
  (case Q9=>show"!(")
  (case R0=>(refine' DL.aZ KX G ?a ?l ?c ?k ?b;(case a=>k_is);(case l=>k_is);(case c=>k_is);(case k=>k_is);(case b=>exact λ_ _ _ _ _ _=>DL.us5 λ_ _ _ _ _=>rfl)))
  (case R3=>show"!)")
  (case R4=>show"!#")
  (case dl=>(refine' DL.c7s KX G ?a ?l ?c ?k ?b;(case a=>k_is);(case l=>k_is);(case c=>k_is);(case k=>k_is);(case b=>exact λ_ _ _ _ _ _=>DL.mV λ_=>rfl)))
  (case R5=>show"!*")
  (case R6=>show"!*")
  (case R7=>show"!*")
  (case R8=>show"!*")
  (case R9=>show"!*")
  (case S1=>show"!*")
  (case S2=>show"!*")
  (case S3=>show"!*")
  (case S4=>show"!*")
  (case S5=>show"!*")
  (case S6=>show"!*")
  (case S7=>show"!*")
  (case S8=>show"!*")
  (case S9=>show"!*")
  (case T0=>show"!*")
  (case T1=>show"!+")
  (case T2=>show"!+")
  (case T3=>show"!+")
  (case T4=>show"!+")
  (case T5=>show"!+")
  (case T6=>show"!,")
  (case T7=>show"!,")
  (case T8=>show"!,")
  (case T9=>show"!,")
  (case U0=>show"!,")
  (case U1=>show"!,")
  (case U2=>show"!,")
  (case U3=>show"!,")
  (case U4=>show"!,")
  (case U5=>show"!-")
  (case U6=>show"!-")
  (case U7=>show"!-")
  (case U8=>show"!,")
  (case U9=>show"!,")
  (case V0=>(dsimp only;refine' XS.d3a ?xqa ?xqb ?xqc ?xqd ?xqe ?xqf ?xqg ?xqh;(case xqa=>k_is);(case xqb=>k_is);(case xqc=>k_is);(case xqd=>rfl);(case xqe=>k_is);(case xqf=>k_is);(case xqg=>rfl);(case xqh=>k_is)))
  (case V1=>(dsimp only;refine' XS.d3v ?ta ?tb ?tc;(case ta=>k_is);(case tb=>k_is);(case tc=>k_is)))
  (case V2=>(dsimp only;k_is))
  (case V3=>show"!.")
  (case V4=>show"!.")
  (case V5=>show"!.")
  (case V6=>show"!.")
  (case V7=>show"!.")
  (case V8=>show"!.")
  (case V9=>show"!.")
  (case W3=>show"!.")
  (case W4=>show"!.")
  (case W5=>show"!.")
  (case W6=>show"!.")
  (case W7=>show"!.")
  (case gp=>(refine' K21.b5r KX G ?ga ?gl ?gs ?l0 ?l1 ?l2 ?l3 ?l4 ?l5 ?l6 ?l7;(case ga=>k_is);(case gl=>k_is);(case gs=>decide);(case l0=>k_is);(case l1=>k_is);(case l2=>k_is);(case l3=>k_is);(case l4=>k_is);(case l5=>k_is);(case l6=>k_is);(case l7=>k_is)))
  (case nd=>(delta K21.Bo.nd;decide))
