import PyProof.Rows.All
import Wide.All
import OpenK.AllK
import Wide.FinOn
import Lean
import PyProof.EqAt
import PyProof.EqKinds
import PyProof.TupleCall
import KE.KIntText
import PyProof.Rows.SortShell
import PyProof.Rows.CallKwBuiltin
import KE.KSortKey
import KE.KDictSum
import KE.KRevIter
import PyProof.ExcBaseAll.ValueError
import PyProof.ReprRoads
import PyProof.DictTruth
import PyProof.Rows.SeqRoads
import KE.KMinBuiltin
import KE.KDictOf
import PyProof.AttrMissHeap
import PyProof.EnumStmt
import PyProof.EnumMake
import PySem.Challenge.RW_manyhands_k20_own_places
set_option linter.all false
set_option genSizeOf false
set_option Elab.async false
set_option maxRecDepth 100000
set_option maxHeartbeats 4000000
def JY:=@PySem.wpAny_bind
def JZ:=@Option.bind_eq_some_iff
def KA:=@List.mem_cons_of_mem
def KB:=@PySem.wpAny_pure
def KC:=@PySem.Heap.get?_push_of_some
def KD:=@List.mem_cons_self
def KG:=@List.mem_cons
def KH:=@List.size_toArray
def KI:=@Option.map_eq_some_iff
def KJ:=@List.mem_append_right
def KL:=@List.map_cons
def KM:=@if_pos
def KN:=@if_neg
def KO:=@List.length_cons
def KP:=@decide_eq_false
def KQ:=@List.length_map
def KR:=@List.mem_append
def KS:=@List.getElem?_eq_some_iff
def KU:=@Nat.le_refl
def KW:=@List.mem_map_of_mem
def KY:=@List.mem_map
def KZ:=@List.getElem?_eq_getElem
def LA:=@List.nodup_cons
def LB:=@List.mem_singleton
def LC:=@PySem.Heap.get?_push_size
def LD:=@List.mem_append_left
def LF:=@PySem.Heap.lt_size
def LG:=@decide_eq_true
def LH:=@Bool.false_ne_true
def LJ:=@Nat.lt_of_lt_of_le
def LK:=@List.length_append
def LL:=@List.map_append
def LM:=@Bool.false_eq_true
def LN:=@Bool.and_eq_true
def LO:=@decide_eq_true_eq
def LP:=@List.getElem?_set_ne
def LQ:=@Ne.symm
def LR:=@List.append_nil
def LS:=@PySem.Heap.get?_update_other
def LU:=@Nat.ne_of_lt
def LV:=@Nat.le_trans
def LW:=@PySem.PassesOwn.never
def LX:=@List.nodup_append
def LY:=@Nat.zero_le
def LZ:=@List.getElem?_map
def MB:=@Array.getElem?_eq_getElem
def MC:=@List.getElem?_set_self
def MD:=@List.map_map
def MF:=@PySem.wpAny_call_entry
def MH:=@PySem.wpAny_holding
def MJ:=@if_false
def ML:=@List.getElem?_append_right
def MM:=@PySem.wpAny_truthy_bool
def MN:=@Option.some.inj
def MO:=@List.not_mem_nil
def MQ:=@PySem.wpAny_callSpecial?_slot
def MU:=@if_true
def MV:=@PySem.wpAny_field
def MX:=@Array.length_toList
def MY:=@PySem.sizeLine_eq
def MZ:=@List.lookup_cons
def NA:=@Nat.lt_of_le_of_lt
def NB:=@List.getElem?_eq_none
def NC:=@beq_eq_false_iff_ne
def ND:=@List.filter_eq_self
def NE:=@List.filter_cons_of_pos
def NG:=@List.filter_cons_of_neg
def NH:=@List.mem_filter
def NI:=@of_decide_eq_true
def NJ:=@List.append_assoc
def NK:=@Int.emod_lt_of_pos
def NM:=@PyProof.Rows.callWith_type1
def NN:=@List.nil_append
def NO:=@List.map_congr_left
def NP:=@PyProof.Rows.wpS_bind
def NQ:=@PySem.wpAny_mono
def NR:=@Array.getElem?_eq_some_iff
def NS:=@List.pairwise_cons
def NT:=@PySem.wpAny_newObj_type
def NU:=@List.nodup_nil
def NV:=@List.length_zip
def NW:=@List.getElem?_append_left
def NX:=@PySem.F.slot_dict_keyiterator_next
def NY:=@Int.emod_nonneg
def NZ:=@PySem.Heap.get?_update_self
def OA:=@Bool.eq_iff_iff
def OB:=@List.getElem_mem
def OC:=@PySem.wpAny_setField_rec
def OD:=@PySem.Calls.spliced_cons
def OE:=@PySem.wpAny_rule
def OF:=@Nat.lt_irrefl
def OG:=@List.length_singleton
def OH:=@List.length_nil
def OI:=@PySem.Heap.SameBut.update
def OJ:=@PySem.wpAny_seqItems
def OK:=@beq_self_eq_true
def OL:=@Nat.le_succ
def OM:=@List.cons_append
def ON:=@List.all_eq_true
def OO:=@List.getElem?_replicate
def OP:=@Bool.not_true
def OQ:=@PySem.wpAny_Call_Name_kw
def OT:=@PySem.Obj.data_mapFields
def OU:=@Nat.lt_or_ge
def OV:=@List.length_range
def OX:=@List.filter_congr
def OY:=@PySem.mem_of_lookup
def OZ:=@List.replicate_succ
def PB:=@List.length_set
def PD:=@List.forIn_cons
def PF:=@List.find?_cons
def PH:=@Int.le_refl
def PJ:=@PySem.F.plain_max_loop
def PK:=@PyProof.Rows.wpS_pure
def PL:=@PySem.wpAny_dictEntries
def PM:=@PySem.wpAny_dictEpoch
def PN:=@Nat.ne_of_gt
def PP:=@List.length_replicate
def PQ:=@List.length_filter_le
def PR:=@List.getElem?_toArray
def PU:=@List.any_cons
def PV:=@List.drop_eq_getElem_cons
def PX:=@List.take_succ_eq_append_getElem
def PY:=@PySem.Obj.isFreed_of_fields
def PZ:=@List.filter_map
def QA:=@Int.toNat_natCast
def QB:=@PySem.Heap.size_push
def QC:=@List.map_nil
def QD:=@Bool.and_self
def QE:=@PySem.Calls.evalArgs_plain
def QF:=@Option.bind_some
def QG:=@List.length_take
def QH:=@PySem.Calls.spliced_nil
def QI:=@of_decide_eq_false
def QJ:=@List.mem_filterMap
def QK:=@List.filter_filter
def QL:=@PySem.Paired.length
def QM:=@PySem.wpAny_typeNameOfWhole_keyiter
def QN:=@Nat.le_of_lt
def QO:=@List.mem_iff_getElem?
def QP:=@List.foldl_cons
def QQ:=@Array.getElem?_toList
def QR:=@or_false
def QS:=@beq_iff_eq
def QT:=@List.flatten_cons
def QU:=@List.all_cons
def QV:=@PySem.Heap.size_after_update
def QW:=@PySem.Calls.callWith_builtin
def QX:=@PySem.F.slot_NoneType_hash
def QY:=@List.mem_of_getElem?
def QZ:=@PySem.wpAny_passesOwn
def RA:=@PySem.wpAny_notOrdered_dict
def RB:=@PySem.wpAny_letGo
def RC:=@List.mem_range
def RD:=@List.perm_middle
def RE:=@PySem.wpAny_attempt
def RF:=@List.filterMap_cons
def RG:=@Nat.le_of_eq
def RH:=@PySem.F.slot_tuple_iterator_next
def RI:=@PySem.wpAny_setField
def RJ:=@PySem.F.plainAttrs_list
def RK:=@PySem.F.plainAttrs_dict
def RL:=@PyProof.Rows.get?_update_seq
def RM:=@PySem.wpAny_typeNameOf_keyiter
def RN:=@PyProof.Rows.slot_tuple_getitem
def RO:=@or_congr_right
def RP:=@List.forIn_nil
def RQ:=@List.Perm.refl
def RS:=@PySem.F.slot_dict_get
def RT:=@Nat.lt_succ_self
def RU:=@List.mem_iff_getElem
def RX:=@Option.map_some
def RY:=@List.map_id
def RZ:=@PySem.F.slot_enumerate_next
def SA:=@PyProof.Rows.listUpdate_at
def SC:=@List.nodup_iff_pairwise_ne
def SD:=@PySem.F.slot_enumerate_getattribute
def SE:=@not_or
def SF:=@List.zip_cons_cons
def SG:=@List.getElem_range
def SH:=@PySem.plainId_quiet
def SI:=@List.pairwise_iff_getElem
def SJ:=@List.getLast?_eq_none_iff
def SK:=@Classical.byContradiction
def SL:=@Bool.not_false
def SM:=@PySem.wpAny_specialOf
def SN:=@PySem.wpAny_execs_nil
def SO:=@PySem.slot_dict_contains
def SQ:=@PySem.F.args_tuple_add_2
def SS:=@Option.isSome_iff_exists
def SU:=@Nat.lt_succ_of_lt
def SV:=@decide_true
def SW:=@decide_eq_false_iff_not
def SX:=@PySem.F.entry_tuple_add
def SY:=@List.length_eq_zero_iff
def SZ:=@PySem.codeAny_mono
def TB:=@PySem.SeqAt.EqAt.int_int
def TC:=@List.zipIdx_cons
def TD:=@List.drop_length
def TH:=@PySem.F.slot_tuple_add
def TJ:=@List.filter_eq_nil_iff
def TK:=@PySem.wpAny_Call_method
def TL:=@List.zipIdx_nil
def TM:=@List.cons.injEq
def TN:=@Bool.not_eq_eq_eq_not
def TQ:=@true_and
def TR:=@PySem.wpAny_standAt
def TU:=@PySem.wpAny_newList
def TV:=@List.pairwise_append
def TW:=@PySem.wpAny_forIn_list
def TY:=@PySem.F.args_dict_keyiterator_next_1
def TZ:=@Bool.and_false
def UA:=@PyProof.Rows.wpS_forRange
def UB:=@PyProof.Rows.listItems_at
def UC:=@PySem.F.entry_dict_keyiterator_next
def UD:=@PySem.wpAny_typeOf
def UE:=@PySem.wpAny_loadPart'
def UF:=@PySem.wpAny_isTrue_Compare1
def UG:=@PySem.wpAny_isOneOf_keyiter
def UH:=@PySem.codeAny_builtin
def UI:=@List.length_zipIdx
def UJ:=@List.filter_append
def UK:=@PySem.F.slot_zip_next
def UL:=@PySem.call_meets
def UM:=@PySem.wpAny_updateSeq_pair
def UN:=@PySem.wpAny_updateDictKeys
def UO:=@bne_self_eq_false
def UP:=@List.pairwise_map
def UQ:=@List.ext_getElem?
def UR:=@Iff.rfl
def US:=@PySem.wpAny_tryCatch
def UT:=@PySem.wpAny_newTuple
def UU:=@PySem.wpAny_loadPart
def UV:=@PySem.wpAny_fieldsOf
def UW:=@decide_false
def UX:=@Nat.zero_add
def UY:=@List.length_drop
def UZ:=@List.filter_cons
def VA:=@PySem.F.slot_dict_setdefault
def VB:=@PySem.wpAny_onRaise
def VC:=@PySem.strLen_append
def VD:=@PySem.W.kia_one
def VE:=@List.of_mem_zip
set_option hygiene false
section open Lean
def z'E:Nat->Syntax->String
|0,_=>""
|n+1,s=>match s with
 |.node _ k a=>a.foldl (λr x=>r++z'E n x) s!"n{a.size} {(toString k).replace "Lean.Parser." "~"}\n"
 |.atom _ v=>s!"a{v}\n"
 |.ident _ _ v _=>s!"i{v}\n"
 |_=>"m\n"
def z'D(f:SourceInfo):Nat->List String->Syntax×List String
|n+1,x::l=>let r:=(x.drop 1).toString;match x.front with
 |'n'=>let c:=(r.takeWhile Char.isDigit).toString;let (a,l):=c.toNat!.fold (λ_ _ (a,l)=>let (y,l):=z'D f n l;(a.push y,l)) (#[],l);(.node f ((r.drop (c.length+1)).toString.replace "~" "Lean.Parser.").toName a,l)
 |'a'=>(.atom f r,l)
 |'i'=>(.ident f r.toRawSubstring r.toName [],l)
 |_=>(.missing,l)
|_,l=>(.missing,l)
def z'K:List (String×String):=[("P","n3 ~Term.paren\nn2 ~Term.hygienicLParen\na(\nn1 hygieneInfo\ni[anonymous]"),("D","n1 ~Tactic.tacticSeq\nn1 ~Tactic.tacticSeq1Indented"),("E","n2 ~Term.dotIdent\na."),("A","n2 ~Term.app"),("B","n1 null"),("C","n0 null"),("F","n2 null"),("G","n3 null"),("H","n1 ~Tactic.rcasesPatMed"),("I","n1 ~Tactic.rcasesPat.one"),("J","n2 ~Tactic.rcasesPatLo"),("K","n1 ~Tactic.optConfig"),("L","n4 ~Term.basicFun"),("M","n1 ~Term.hole\na_"),("N","n2 ~Term.byTactic\naby")]
def z'Z(r:SourceInfo)(f:String):Syntax:=(z'D r 999 (((f.takeWhile (·≠'\r')).toString.splitOn "\n").flatMap λs=>match z'K.lookup s with|some x=>x.splitOn "\n"|_=>[s])).1
local macro_rules|`(z [$x,*])=>do let a:=x.getElems;let mut r:="";for i in [0:a.size/2] do {r:=s!"{r}\r{match a[2*i]!.raw.isStrLit? with|some s=>s|_=>a[2*i]!.raw.getId.toString}\r{z'E 999 a[2*i+1]!}"};return (Syntax.mkStrLit (z'K.foldl (λr p=>r.replace (p.2++"\n") (p.1++"\n")) r)).raw
def z't't:String:=z ["pc!",(by simp[Ce,Bd,sSeq,Gc,Ck,Co,Cp,Ex,Dt,Cw,Lw,Dd,fT,Ei,Aa,Fs,f2,Jk,Jy,Jz,Nk,Lf,Cd,Dy,f1,Ac,Ae,Fy,fC,Ge,Ca,An,Dq,Dk,Bv,Cg,Bj,Ai,De,Ec,As,Dh,Ey,Bf,Ay,Au,Bw,Ao,Ci,Ln,Dm,HT.sIx,List.getElem?_cons_zero,List.getElem?_cons_succ]),"!8",(by split at e),"!$",(by refine' DL.aU KX G ?a ?l ?c ?k ?b;(case a=>k_is);(case l=>k_is);(case c=>k_is);(case k=>k_is);(case b=>exact λ_ _ _ _ _ _=>DL.jF λ_ _=>rfl)),"!#",(by refine' DL.aU KX G ?a ?l ?c ?k ?b;(case a=>k_is);(case l=>k_is);(case c=>k_is);(case k=>k_is);(case b=>exact λ_ _ _ _ _ _=>DL.mI λ_=>rfl)),"!w",(by constructor),"!*",(by refine' DL.dH KX G ?a;(case a=>k_is)),"!2",(by obtain⟨ka,bn⟩:=bT ha),"!1",(by intro x y dx dy d G H Q sub rx ry e k),"!.",(by dsimp only;(show W.findIn _ _ _=_);k_is),"!,",(by dsimp only;refine' DL.dZ KX G ?a;(case a=>k_is)),"#1",(by unfold De Ec),"!%",(by dsimp only;refine' DL.dM ?a ?i ?l ?c ?k ?b;(case a=>k_is);(case i=>k_is);(case l=>k_is);(case c=>k_is);(case k=>k_is);(case b=>exact λ_ _ _ _ _ _=>DL.jF λ_ _=>rfl)),"!?",(by intro hb s Z H Q I h),"!(",(by refine' DL.aU KX G ?a ?l ?c ?k ?b;(case a=>k_is);(case l=>k_is);(case c=>k_is);(case k=>k_is);(case b=>exact λ_ _ _ _ _ _=>DL.us3 λ_ _ _=>rfl)),"!6",(by rename_i h;cases e;subst h),"!A",(by obtain⟨t,rfl⟩:=rx),"!G",(by rename_i hl;cases e),"!0",(by intro X hP hw hK hc i hb s Z H E I hf st hg;subst hP hw hK),"!|",(by by_cases hk:k=d),"!/",(by refine iT E_ ?_;refine iT E_ ?_;refine iT E_ ?_),"!3",(by obtain⟨f0,f1,f2,f3,f4,f5⟩:=hf it c!),"!9",(by obtain⟨q,hq,rfl⟩:=KY.mp hd),"!=",(by obtain⟨x,e1,e⟩:=JZ.mp e),"!J",(by unfold fT;rw[this];rfl),"!}",(by simp only[LM,MJ]),"!E",(by obtain⟨v,rfl,rv⟩:=fG r),"#(",(by refine anF au_ ?_),"!)",(by refine' DL.aU KX G ?a ?l ?c ?k ?b;(case a=>k_is);(case l=>k_is);(case c=>k_is);(case k=>k_is);(case b=>exact λ_ _ _ _ _ _=>DL.us4 λ_ _ _ _=>rfl)),"!+",(by refine' DL.oY KX G ?a;(case a=>k_is)),"!:",(by obtain⟨o',e1⟩:=I.base.there b o e hx),"!l",(by exact k _ G H aH! Aq.bl),"!v",(by by_cases c1:i∈W.its),"#,",(by funext b;unfold mup),"#2",(by rw[fB_];exact PH _),"!'",(by dsimp only;refine' DL.dM ?a ?i ?l ?c ?k ?b;(case a=>k_is);(case i=>k_is);(case l=>k_is);(case c=>k_is);(case k=>k_is);(case b=>exact λ_ _ _ _ _ _=>DL.us4 λ_ _ _ _=>rfl)),"!4",(by refine iT au_ ?_;refine iT au_ ?_),"!@",(by obtain⟨sl,e1⟩:=I.base.slot b o e n J hx),"!H",(by obtain⟨ds,e1,e⟩:=JZ.mp e;show"!8"),"!N",(by obtain⟨e,n,ne,nf,d⟩:=I.pin p hp),"!O",(by obtain⟨its,r,pl,hz⟩:=I.list hq),"!Q",(by obtain⟨a,vs,rfl,qa,ra⟩:=bR rx),"!R",(by intro vs ds d M G H Q sub m r e k),"!X",(by obtain⟨q0,h0,rfl⟩:=KY.mp hq),"!Y",(by obtain⟨p,vs,rfl,q,rr⟩:=bR r),"!]",(by cases aZ rx;cases aZ ry;cases e),"!b",(by intro vs ds d G H Q sub r e k),"!h",(by subst e;exact I1.fpOk r! (I1.hok.fresh r!)),"!o",(by rename_i h;rw[LN,LN,LO]at h),"!s",(by subst J;rw[bY]at e;cases e),"#!",(by obtain⟨ep,ht⟩:=hA.tk),"#)",(by refine JY P_;dsimp only),"#*",(by obtain⟨a,rfl,q⟩:=hx),"!&",(by dsimp only;refine' DL.dM ?a ?i ?l ?c ?k ?b;(case a=>k_is);(case i=>k_is);(case l=>k_is);(case c=>k_is);(case k=>k_is);(case b=>exact λ_ _ _ _ _ _=>DL.us3 λ_ _ _=>rfl)),"!-",(by dsimp only;refine'⟨?pg,?hd,?po,?sa⟩;(case pg=>k_is);(case hd=>k_is);(case po=>k_is);(case sa=>k_is)),"!5",(by obtain⟨v1,t1,rfl,r1,rr⟩:=bM rr;obtain⟨v2,t2,rfl,r2,rr⟩:=bM rr;cases cM rr),"!C",(by obtain⟨oc,od,kV,bo,pm,an,ag,ct,ik,rfl,lk,bq⟩:=F.ex),"!M",(by unfold Am at h;obtain⟨u,r,e1,q,t⟩:=h;subst e1),"!P",(by unfold At;exact go hq.1 hg rfl rfl λM' r=>r),"!S",(by unfold Aq at h ⊢;obtain⟨a,vs,e,q,r⟩:=h),"!T",(by obtain⟨⟨o,z1,z2,z3⟩,z4⟩:=z;exact kJ_),"!W",(by obtain⟨a',b',c',e',hm⟩:=w.sgs x hx q hq),"!_",(by intro x y dx dy d M G H Q sub m rx ry e k),"!f",(by cases wJ I n r ru<;>cases wJ I n' r' ay),"!k",(by have p:((D.non::cB_)).Perm (n::D.non::aa_):=((List.Perm.cons _ RD)).trans (List.Perm.swap _ _ _)),"!p",(by obtain⟨_,vs,Y,h2⟩:=m.cell a _ hM),"!t",(by obtain⟨its,r,pl,hz⟩:=I.tuple hq),"!y",(by rw[KN c];exact keep rfl rfl w.inv),"!z",(by obtain⟨o,e,c,d⟩:=st;exact ⟨o,e,λv z=>by rw[d]at z;cases z⟩),"!{",(by obtain⟨a,vs,rfl,qa,ra⟩:=bP rx),"!~",(by obtain⟨sl,j7⟩:=so.2.2 b o eb),"#%",(by obtain⟨ae,fd,Y,h2,h3,h4⟩:=F),"#&",(by subst J;rw[mup_same]at e;cases e),"#+",(by simp only[LM,MJ,MZ,hx]at h ⊢),"#3",(by obtain⟨rfl,rfl|rfl⟩:=d l),"#4",(by obtain⟨od,af,hl⟩:=I.look),"#5",(by obtain⟨o,es,ep,ho,r⟩:=hm),"#7",(by have c':=QI c;rw[KN c']at st),"#8",(by have c':=NI c;rw[KM c']at st),"#9",(by exact hR M O _ _ st hL .refl),"#?",(by obtain⟨q,hq,e⟩:=KY.mp z),"#@",(by obtain⟨hp,g,d,tk,os⟩:=s),"!!",(by dsimp only;refine' DL.b6o (DL.dZ KX G ?g) ?a ?i ?l ?c ?k ?mm ?kc ?b;(case g=>k_is);(case a=>k_is);(case i=>k_is);(case l=>k_is);(case c=>k_is);(case k=>k_is);(case mm=>k_is);(case kc=>k_is);(case b=>exact λ_ _ _ _ _ _=>DL.mI λ_=>rfl)),"!7",(by refine W.methodCall_KW (pl:=pl) cT! ht;rintro u s1 ⟨x,H1,I1,rx,a,dx,fs,ex,ea,l,q⟩;subst ex;obtain rfl:u=Value.ref a:=rx;refine nG I1 ea c hm l ?_),"!;",(by refine dF ck_ ?_;rintro v s1 ⟨x,H1,I1,r1,q1⟩;refine dF fU! ?_;rintro u s2 ⟨y,H2,I2,r2,q2⟩;exact hf v u s2 x y H2 I2 r1 r2 q2),"!<",(by obtain⟨ob,eo,ec,ed⟩:=id g1;obtain⟨ot,xc,_,nt,xg⟩:=g2;unfold Builtin.SmallTypes.nextOf;refine JY (MQ (name:=fc_) g1.typeIs RH (MF RH g1.typeIs F.entry_tuple_iterator_next ?_ (F.args_tuple_iterator_next_1 _)));show wpAny _ _ (field (.ref jt) 0>>=_) _ _ s),"!>",(by obtain⟨v,rfl,r1⟩:=fG r;obtain⟨rfl,rfl,hM⟩:=cN r1 e1;obtain⟨es,Y,h2⟩:=((m.cell q.1 _ hM)).2;obtain⟨ys,g1,g2⟩:=xE h2),"!B",(by obtain⟨us,rv,p1,_⟩:=I.list qa;obtain⟨us',av,p2,_⟩:=I.list qb;have Y:=aJ rd;have h2:=aJ re;have h3:=ew!),"!D",(by unfold Builtin.SmallTypes.ownedTupleIsFree;refine JY (MV gz rfl (x:=bU_) rfl P_);simp only[MU];refine JY fd_;refine JY (MV gz rfl (x:=.ref TO) rfl ?_)),"!F",(by rintro⟨⟨⟩,σ⟩ s' ⟨rfl,a1,a2,a3⟩;dsimp only;obtain⟨L',b1,b2,b3⟩:=qV ig hk ny a1 a3),"!I",(by intro hb s Z H x y v u Q I rx ry h;obtain⟨i,j,rfl,rfl,q⟩:=h;show"!A";obtain⟨t',rfl⟩:=ry),"!K",(by obtain⟨i,hi,q⟩:=mF J;obtain⟨p,ds,vs,Y,h2,h3,h4,h5⟩:=er.own_ i hi;rw[q]at h2;cases h2),"!L",(by show"!2";obtain⟨kb,kh⟩:=bT J;obtain⟨kc,yt⟩:=sX bz;refine iT E_ ?_;refine ifT (bB.trans (congrArg some a0b)) ?_),"!U",(by simp only[(show Builtin.Dict_items.ownsTuple "dict_keyiterator"=false by decide),LM,MJ];show wpAny C! A.in1 (if(Value.ref d==ci_)=true then _ else _) _ _ s;rw[(KN (λz:(Value.ref d==Value.none)=true=>LH z))];refine JY (KB (JY (PL sv sw ?_)));rw[Q!]),"!V",(by exact a0r (s:=({s with heap:=Y})) (fo:=none) a3 hn a1 λh2 b1 b2 b3 b4=>k h2 T hT_ b1 (a2.skip b2 (by intro x hx;simp at hx;subst hx;exact .inr (WX a0))) b3),"!Z",(by have hT:=am.typeIs;obtain⟨o,ho,hc,hd⟩:=id am;obtain⟨od,sv,_,sw⟩:=id D),"![",(by have I1:Inv X hb Z H {s with heap:=h',toks:=tk}:=I.turned mA! f0 f1 f3 f4 f5),"!^",(by obtain⟨cl,b6⟩:=b0g (X:=X) (scope:=scope) λp hp hf=>I.ok.has p.1 (g6 p hp hf)),"!`",(by refine JY (NQ fin (?_) λ_ _ z=>z);rintro old s' ⟨e1,o,q1,q2,q3⟩;subst q1 q2;exact JY (RB (KB ⟨_,rfl,q3⟩))),"!a",(by obtain⟨gg,H3,I3,n3⟩:=q3;obtain⟨m',hm,w3⟩:=hN gg H3 n3;exact ⟨m',hm,gg,H3,I3,w3⟩),"!c",(by obtain⟨i,hi⟩:=QO.mp hv;obtain⟨d,_,p⟩:=gB z hi;exact⟨_,_,p⟩),"!d",(by have:X.env.scope.names.lookup x=some .free:=hk;rw[k]at this;cases this),"!e",(by have hf:=a3y x k;have hl:∀i∈plc es df_,i<es.size:=λi hi=>b4z hi),"!g",(by obtain⟨hi,r1⟩:=r1;obtain⟨p,dx,vs,rfl,rfl,hH,hl⟩:=a3n m1 q1 hi),"!i",(by simp only[sliceBounds,HT.sIx,Option.getD_none,(show(1:Int)>0 by decide),MU];by_cases h:i<0),"!j",(by obtain⟨v,rfl,r1⟩:=fG r;obtain⟨p,ys,rfl,q,rr⟩:=yM sub m r1 e1),"!m",(by show"!=";obtain⟨q,e2,e⟩:=JZ.mp e;obtain⟨Z8,e3,rfl⟩:=KI.mp e),"!n",(by refine JY (MV eo ed (x:=.ref tt) rfl ?_);rw[(KN (show¬((Value.ref tt==Value.none)=true)from LH))];refine JY (MV eo ed (x:=.int n 0) rfl ?_);refine JY (OJ xc xg ?_);simp only[QA,g3]),"!q",(by show (wpAny _ _ (field kl! 2>>=_) _ _ _);refine JY (MV gz rfl (x:=.bool false) rfl ?_);refine JY (MV gz rfl (x:=.ref TI) rfl ?_);refine JY (OJ gI rfl ?_);refine JY ?_),"!r",(by cases cM rr;obtain⟨l,vs,rfl,sq,rx⟩:=bP rv;rw[jK rx e2]at sq),"!u",(by obtain⟨e,he,hv⟩:=hi.2 i acc[i] (by rw[MB Y]);rw[he,QQ,MB Y,hv];rfl),"!x",(by show"!2";refine iT E_ ?_;refine iT E_ ?_;refine ifT (bB.trans (congrArg some a0c)) ?_),"##",(by obtain⟨_,_,_,_,o,_,_,e,ex,_⟩:=I.hok p _ hk;exact ⟨o,e,ex⟩),"#$",(by have rs:∀j∈rest,j<es.size:=λj hj=>h2 j (KA _ hj)),"#'",(by subst hj;rw[hi]at e1;cases e1;rw[MC zq]at e2;cases e2),"#-",(by rw[KH,KH,<-h3,<-h4,<-Y,<-h2];by_cases hl:g!=ab!),"#.",(by rintro a pn oe c hp hc hb s Z H Q I ⟨e1,v,e2,q⟩),"#/",(by obtain⟨its,rv,⟨o,Y,h2,n,h3⟩,_⟩:=I.tuple kb!),"#0",(by have ne:∀{b u},H b=some u->b≠p:=λe=>cK e hp),"#6",(by have n1:=nd.1;have n2:=nd.2;rw[<-OM,KR,SE]at n1),"#:",(by cases dW ry;cases e;refine h!;rw[wK rx];show"!l"),"#;",(by simp only[Op.nm,D.tup.injEq,TM,D.int.injEq]at e),"#<",(by rw[oU lr_,oU ls!];exact a8j (mm p hp) (mm q a7)),"#=",(by rename_i h1 ep hM;obtain⟨kk,e1,e2⟩:=JZ.mp e),"#>",(by have hi:i=fb!:=Nat.le_antisymm st.1 hg;subst hi),"#A",(by obtain⟨ad,h1,vs,ju,VP,xa,xb,hn,hs⟩:=hd.ex),"#B",(by cases e;refine ⟨G,ρ,_,er,?_,k⟩;show((Option.some ds)).bind _=_;simp[hl])]
def z'0:String:=z [a!,(by omega),b!,(by decide),c!,(by simp),d!,Inv X hb Z H s,e!,List D,g!,ds.length,h!,⟨rfl,?_⟩,i!,xs.length,j!,aB B!,k!,λ_ _=>rfl,l!,model prog w,n!,aS _,o!,List Nat,p!,(by omega),q!,List V,r!,KU _,u!,some b3!,v!,List Int,w!,arrOf σ,x!,s1.heap.objs.size,y!,(x==l9!)=false,z!,arrOf st,A!,KM rfl,B!,aA 0,C!,model P w,D!,some i,E!,Bc G H,F!,.ref a,G!,some bw!,H!,"hand",I!,.int 0,J!,s2.heap.objs.size,K!,⟨_,rfl⟩,L!,Aa 5,M!,.lst xs,N!,Aa 4,O!,some x1,P!,ps.length,Q!,KN c!,R!,(·.2),S!,DE X own a fa,T!,.str k,U!,Bp M w O W,V!,cO 0,W!,.fn o,X!,Option D,Y!,some x0,Z!,.bl false,Aa!,m1 _ (h.lv l),Ab!,bootBuiltins "zip"=some pu!,Ac!,(backTo pos (starEach [b] X.env)).any c_=false,Ad!,(V.sl x b []).ls x b,Ae!,⟨W_,W_,W_⟩,Af!,hy.resolve_right c,Ag!,(λ(r:Fl) (M':Mh)=>match r with|.rt d=>R d M'|.nx _=>R .non M'),Ah!,(by rw[a2b];have:=r1.2;omega),Aj!,W.nsIn KF mainGlobals x=some eA_,Ak!,KF.lookup f=some ⟨oc,od,.func Aj_,ik⟩,Al!,∀(kV bo pm:Value) (an:dM!) (ag ct:Value) (us:k_),ad_=P!->bindArgs Aj_ cY_=pure cY!,Am!,(((({Jr W with pr:=λa p=>((bg!).pr a p/\a≠n)\/(a=n/\p=pl)}:Ix).sl pl true (Mu n b Al_)).nw n true).nw n false).nn n ff_,An!,(Sum.inr r.1:L2.Key)=Sum.inr y,Ao!,KN λz=>c1 z.1,Ap!,hg.chl_same w.rnd,Aq!,(λz=>by cases z;exact .inr aJ_),Ar!,fs.map D.fn,As!,fs.map Value.ref,At!,List L2.Key,Au!,[de!,D!,ay!,b9_],Av!,iQ w.rnd z f9,Aw!,Md ks k=some j,Ax!,es[i]?=some e,Ay!,s.heap.get? d=some o,Az!,dictWalkPlain d u df_ es ku!,AA!,Nv P w s.heap es ks,AB!,(kv!).any λd=>Ej d aZ!,AC!,λe=>hh (by rw[q3,e];simp),AD!,ks[i]?=some k',AE!,(by rw[<-e];exact q1),AF!,oZ (s:=d3!) hu x hk ho hd ?_,AG!,dictGet a u,AH!,(if kx_<=big then Option.map D.lst (Ef _ _ _ dg! ops)else none)=_,AI!,.lst (.str "root"::ys),AJ!,sK ho hc hd (by simp[AA]),AK!,some (.tup [.int h',aO!,.int tm,.tup AE_]),AL!,[as!,pP!,AK!,y],AM!,Builtin.Dict.takeOut a u,AN!,⟨[],rfl,rfl⟩,AO!,Paired F l m,AP!,1+3*(i:Int),AQ!,sSeq AF (sSeq dq14 dq15),AR!,(by rw[cz,i1];rfl),AS!,.lst kinds,AT!,Dm its d4_ none,AU!,.ins C dx vs,AV!,Gz P w KF G H a c,AW!,a.free hM z,AX!,⟨?_,h2.mono x.g ?_⟩,AY!,List D->Mh->Prop,AZ!,Nat.ble ds.length 1000=true,A0!,KM (Nat.le_of_ble_eq_true hl),A1!,⟨λhb s Z H Q I ⟨G,ρ,M,R,st,e,k⟩=>h hb s Z H Q I pW!⟩,A2!,⟨_,Ah_,h⟩,A3!,Sx X.prog X.w X.K own G H Z ρ M,A4!,Ck 5 (f1 Hh bD!),A5!,⟨_,rfl,k _ M' G' H' r' x' m'⟩,A6!,mW rfl rfl,A7!,k _ M1 G1 H1 r1 x1 m1,A8!,a2u rfl rfl e1,A9!,x1.trans (.ext A8_) m1,Ba!,x1.sub.free hp,Bb!,λY h2 z q=>?_,Bc!,.dct pS! Bb_,Bd!,(by unfold Cw;rw[pA rfl (OK _)];rfl),Be!,⟨_,rfl,MM h⟩,Bf!,.builtin "dict.get",Bg!,a∈W.its/\Et W binn/\¬Wn W.rows a binn,Bh!,⟨o,rfl,h ho⟩,Bi!,(pq!).map d1!,Bj!,a0x I Y D' cm h4 ?_,Bk!,.tup cd_,Bl!,D.tup cd_∉pre,Bm!,w.its x hx,Bn!,⟨_,_,rfl⟩,Bq!,(List.range m'.toNat).map λk=>.tup kf_,Br!,ft ρ=some true,Bs!,ft ρ=some false,Bt!,[ab_,bf!,ho_],Bu!,Ab kp_ (Ab (wl f2) (Ab (wl f3) Ad)),Bx!,Ro X.prog X.w X.K r g,By!,k="undo"\/k="redo",Bz!,Ch.laid sub hl,BA!,λx hx=>h x ca_,BB!,mup M2 q.1 (.lst (q.2++[v])),BC!,α->Int×Int,BD!,(a.map Op.key).Nodup,BE!,QE (OD (ha.run I1 ft_ r1 λy M2 yv G2 H2 iv s2 r2 x2 m2 q2 I2 ry=>QH ?_)),BF!,Ib fo fa fb,BG!,λx=>Ax x aZ!,BH!,⟨yv,BJ!,ry⟩,BI!,⟨zv,q3,rz⟩,BJ!,q2.mono x3.g,BK!,(show qa_=true by decide+kernel),BL!,Na .str os A,BM!,Na .str os acc,BN!,⟨trivial,hR M ep y hp λb _=>rfl⟩,BO!,((BI_).bind λx=>Ai x a7_)=_,BP!,Ir acc a ep,BQ!,(by unfold Na;rw[hu];exact Y),BR!,List am!->Mh->Prop,BS!,(by rw[bu.length_eq];simp;omega),BT!,MP X own pos keys j3 fp,BU!,(∀b,b≠q->M' b=M b),BV!,mup M c (.dct (acc++h1) (n+av!)),BW!,acc++[d4!],BX!,(qk_).getD .non,BY!,λi p h=>(by simp[W0]at h),BZ!,λj hj p e=>?_,B0!,Ch G kY! G' H',B1!,KN (λhr=>by rw[(s.root hr).2]at e;cases e),B2!,⟨G,ρ,M,_,sr,e,λρ' M' G' ac H' r de=>⟨G',ρ',M',R,de,r,k1,k2⟩,λd M' v G' H' r x m q=>k2 d M' v G' H' r x m q⟩,B3!,λd M' v G' H' r x m q=>k1 _ M' G' _ H' r ((qr!).set bp q),B4!,Ap ft q1 q2,B5!,λd M' v G' H' r x m q=>k1 ρ M' G' Z H' r qr!,B6!,mup M2 p B5_,B7!,(B6_).grow x2 m2,B8!,[(root,.non),(binn,.non)],B9!,([.hid,.wri,.nums,.dir false,.row binn true,.fol binn true,.pre binn true,.row root true,.fol root true,.pre root true,.dir true,.par,.ob]:List Vq),Ca!,.fol root true,Cb!,.pre root true,Cc!,.write m3 x3.sub hM,Cd!,Ut X own own body q1,Ce!,.obj t.B6 [],Cf!,(by show 1<100;decide),Cg!,(by show 2<100;decide),Ch!,(∀x∈os,x.nm∉pre),Ci!,(∃yu,Us W' yu),Cj!,AN X.prog X.w X.K [] ft,Ck!,∀cl C aj bd fp,ME b2! [] dw fe,Cl!,⟨pi.or.cap NL.length ix hix,m1,ar!⟩,Cm!,(show B+20*(os.length+1)=B+20+20*os.length by omega),Cn!,(by rw[<-aJ q1];exact r1.1),Co!,(by rw[show Op.nm x=Op.nm y from z.symm];exact KW hy),Cp!,λd M1 v G1 H1 r1 x1 m1 q1=>?_,Cq!,(ops.map Op.nm).Nodup,Cr!,(∃pre,Us W' pre),Cs!,hp.mem_iff.mp hx,Ct!,(λx _=>by simp),Cu!,(by rw[e3,e1];exact J),Cv!,g M x y=some d,Cw!,Xh X.prog X.w X.K X.mg X.base k x C ps g,Cx!,Ab f1 (Ab f2 Ad),Cy!,Ny h d es ep,Cz!,b=true->c=true,CA!,Ap ft q1 Bg,CB!,Pu fv ρ M v,CC!,s.heap.IsKeyIter it d i es.length ep,CD!,RE (MQ (name:=fc_) hT NX (MF NX hT UC ?_ (TY _))),CE!,mup M p (.lst (xs.set i v)),CH!,(show¬((i:Int)<0)from by omega),CI!,l.map Op.v,CJ!,Obj.mapFields (·.setIfInBounds 1 qA!),CK!,∀h',Heap.ExtBut it s.heap h'->Q none {s with heap:=h'},CL!,acc.map Op.v,CM!,s0.heap.objs.size,CN!,(u++o::v++os),CO!,[d9!,none,none,none],CP!,D X.A.in1 hh,CQ!,[.int qG_,.str CP_],CR!,BEq.comm (a:=Str.ofString "undo"),CS!,BEq.comm (a:=Str.ofString "redo"),CT!,(nd_).any c_=false,CU!,Ir acc u.2 ep,CV!,Nat.succ_ne_self _,CW!,if _ then _ else dY_,CX!,IntsAre items.toList ns,CY!,W.its.map λi=>(i,.lst la!),CZ!,W.its.map λi=>(i,.fn (qa i)),C0!,.inr (.inr ⟨i,hi,rfl⟩),C1!,.bl (if neg then !(b==c)else b==c),C2!,.tup [c,d],C3!,∀q∈rs,Sd q.1/\Sd q.2,C4!,Bj [.lst ec_]=_,C5!,List.take_of_length_le c!,C6!,.Call (.Attribute bf_ "insert" a8) [ek,e] [] ah,C7!,[Y!,D!,cE!,b9_,hB!,hB_,y],C8!,.Call (.Attribute bf_ "extend" a8) [e] [] ah,C9!,(by rw[cond,KP z]),Da!,.lst (List.replicate k.toNat ds).flatten,Db!,.BinOp oZ! .Mult b pos,Dc!,a8r b5r (pT ha.ok) J.ok,Dd!,⟨G1,ρ,M1,_,(ft_).grow (.ext xj) qN!,r1.2,λy M2 v G2 H2 r2 x2 m2 q2=>?_⟩,De!,x1.trans (.ext xj) m1,Df!,!decide (q.1=i),Dg!,mirror xs i j ((j - i) / 2),Dh!,.inl ⟨rfl,λj hj=>by omega⟩,Di!,.lst ((ec_).drop a),Dj!,getElem?_pos _ k cz,Dk!,Ir qI_ eW! e,Dl!,λi j h3 h4=>?_,Dm!,(show x - 1<a0.size by omega),Dn!,⟨cg_,rfl,ld!,qS_⟩,Do!,W.txt i=U++v,Dp!,λi j h5 h6=>?_,Dq!,.bl (decide qs!),Dr!,(none,lo,hi),Ds!,Dp wR_ (Cj 7) FL,Dt!,Db (knd "move"),Du!,Gq (Db (knd "set")) Ud,Dv!,Aa 2 ρ=some p4!,Dw!,Gq (Db ft) fu,Dx!,b=true->q1 ρ M R,Dy!,some (.inl (.inr "texts")),Dz!,(by rw[lN,KM ha]),DA!,u.map λi=>eg!,DB!,fx ρ=some a,DC!,l.any λd=>Ej d x,DD!,L.cell (wt,_) hz_,DE!,ys.toArray.filterMap id,DF!,(Value.type "int"::r),DG!,some (.lst me),DH!,wi.sg a ha q hq,DI!,l.filter λx=>Kr x q,DJ!,some (.tup [kw_,a0,b,tx]),DK!,λp=>Jd q0! (Lh h p.1),DL!,⟨#[s.cps.toList.getD k 0]⟩,DM!,[G!,Y!,lo!,b8_,y4,some qV_,some I!,none,none,none],DN!,p.mem_iff.mpr hq,DO!,D.tup bL!∉W.its,DP!,a∈W.its\/a=root,DQ!,Ir cL_ al_ e1,DR!,aQ (d:=DQ_) rfl,DS!,Br lp! al_ cK_,DT!,λb=>O b\/b=q,DU!,∀H':Hp,H' c=none->Fu X hb H' c,DV!,Inv X (hb++[lp_,DU_]) Z H s,DW!,ksk_tail a false e1 ch! st,DX!,(_,Es.dct ((hG!).map _) _),DY!,List.map_fst_zip q6!,DZ!,λv hv=>?_,D0!,Lh s.heap p.1,D1!,⟨Array.Perm.refl _,rfl,rfl,rfl⟩,D2!,(by rw[hsz];exact nv),D3!,Jd hH_ (Lh s.heap p.1.1)<Jd hH_ (Lh s.heap q.1.1),D4!,s.heap.get? a=some (seqObj "list" us.toArray n),D5!,UB ha rfl ?_,D6!,⟨by show _<=_;simp only;omega,q8!,same.txt⟩,D7!,UT ?_ (by show ad_<=_;rw[MY];omega),D8!,Ss w x0 d nm,D9!,KC _ ((D8_).trans q),Ea!,[G!,J_,some o.d,none,none,none,none,none,none,none],Eb!,fb ρ=some z,Ec!,∀x,(kget wd x=none/\kget kb x=none)\/∃k:Str,kget wd x=some T!/\kget kb x=some fu!,Ed!,Hd x.d=none/\¬kget wd x.nm=some bV!,Ee!,(by rw[MY];omega),Ef!,(by rw[h2];rfl),Eg!,ba.mono a!,Eh!,(by simpa using c'),Ei!,seqObj "list" its.toArray 0,Ej!,(by rw[Cm!];exact g4),Ek!,LA.mpr ⟨MO,NU⟩,Em!,.str "texts",En!,Paired.mapP ok.1 λ_ _ z=>z.1,Eo!,(λb J=>by rw[lq!];exact gb),Ep!,L'.map (·.1.2)]
def z'00:String:=z [a_,hr.mono b!,b_,Or.inl rfl,c_,(·.1),d_,model X.prog X.w,e_,Txt P w K mg t,f_,⟨rfl,rfl,rfl,f6_,rfl,f6_,f6_⟩,g_,wl j_,h_,s.heap.objs.size,i_,(by decide+kernel),j_,Aa 0,k_,List Value,l_,List Op,m_,wl r_,n_,List am!,o_,Ag->Option D,p_,aB R_,q_,Fl->Mh->Prop,r_,Aa 1,s_,List eo_,t_,Ah.units hr,u_,fC a7_,v_,.fn a,w_,.bl true,x_,.fn p,y_,wl A_,z_,["thing"],A_,Aa 2,B_,Bb 0,C_,Aa 3,D_,aB aq!,E_,bB.trans (congrArg some i_),F_,fC I!,G_,List Str,H_,Gl X x,I_,bG t_,J_,some o.v,K_,Value->Shared->Prop,L_,Cj 3,M_,k+1,N_,ys.length,O_,Str->Option Value,P_,KB ?_,Q_,(by simp),R_,aA 1,S_,.nx ρ,T_,D->Mh->Prop,U_,.ref C,V_,aB aD,W_,(by decide),X_,.ref e,Y_,X.N[i]?=some x,Z_,i+1,Aa_,X.mg "zip"=none,Ab_,starEach ag_ X.env=dv_::starEach [b] X.env,Ac_,.Call (.Name "zip" p) ag_ [] pos,Ad_,(by rw[<-z.1,<-z.2];exact l),Ae_,⟨G,ρ,_,er,e1,λv G1 H1 s1 r1=>⟨G1,ρ,_,c6_,e2,zj!⟩⟩,Af_,(λx y H Q=>Sa (λi j=>.bl mT_) x y H Q\/∃i j,x=.str i/\y=.str j/\Q x1_ H),Ag_,[de!,bf!,some a,cF_,some pl],Ah_,(by assumption),Aj_,W.fnOf x x kB! bp_ bb! .none kV bo pm an ag ct,Ak_,W.codeIn KF ag x=true,Al_,chl W.rows pl,Am_,rows.map (BR w),An_,(λz=>by simp at z),Ao_,⟨c2,rfl⟩,Ap_,Sum.inr.inj z,Aq_,⟨rfl,rfl,rfl⟩,Ar_,fs.map V.ref,As_,ad (.row p0 true),At_,(show v=.none from hx),Au_,(bg!).sl p0 true (chl hd! p0),Av_,SM hT QX.lookup ?_,Aw_,λi hi=>?_,Ax_,List.filter_sublist,Ay_,cs.map λ_=>D.bl true,Az_,cs.map λ_=>true,AA_,o.data=.dict es ep,AB_,(by simpa using hne),AC_,(n::r).map D.int,AD_,am=none/\rest.find? df!=Md ks k,AE_,[kw_,a,b,d1_],AF_,λy=>NameG y,AG_,⟨_,_,rfl,b1,b2,b3,b4⟩,AH_,[.str "root"],AI_,dictSet a u v,AJ_,Option Value,AK_,PL (s:=d3!) ho hd ?_,AL_,es.eraseIdx j,AM_,(by simpa using al),AN_,[none,some f5_,some pR!],AO_,letters.cps.toList.length,AP_,[some f5_,bh_,some pR!],AQ_,sSeq EV (sSeq CK AQ!),AR_,[ac!,am_,as!,bh_,none,none,none,none,none,none,none,none],AS_,Dm its d4_ none++Dm its none d4_,AT_,Dm its none d4_,AU_,oj _ (a4l z),AV_,MR P w KF M1 G1 H1,AW_,(by rw[hM];simp),AX_,MR P w KF M' G' H',AY_,List D->Mh->Prop,AZ_,if g!<=1000 then _ else _,A0_,AN X.prog X.w X.K own f,A1_,∀Z G H Q ρ M R,Sx X.prog X.w X.K own G H Z ρ M->ft ρ M R->(∀d M' G' H',R d M'->XM M G H M' G' H'->MR X.prog X.w X.K M' G' H'->Q d H')->t Z H Q,A2_,[ca!,.int base,ky!,.int most],A3_,("cut"==k||"set"==k),A4_,.tup [kx!,item,.int (m0 / 12%4),.int (m0 / 48%2000 - 1000)],A5_,bV (g:=Vl false) (x:=.str k) rfl rfl (in2 k "cut" "set"),A6_,⟨G1,ρ,M1,R,kH!,r1,λd M2 G2 H2 r2 x2 m2=>k d M2 G2 H2 r2 cc! m2⟩,A7_,k _ M1 _ G1 H1 r1 x1 m1 Aq.bl,A8_,Ch.laid x1.sub hp,A9_,m1.ext A8_,Ba_,⟨Y,h2.mono (Bc.refl G) (aY J)⟩,Bb_,Ir h1 d ep,Bc_,∀az s',Inv X hb Z kK_ s'->Gz X.prog X.w X.K G kK_ a Bc!->Q () s',Bd_,kget h1 d=some x,Be_,fin _ ((ay_).trans ((ay_).trans ((ay_).trans ((kJ!).trans (vk i_ i_ i_ i_))))),Bf_,a∈W.its/\Et W b/\¬Wn W.rows a b,Bg_,wrT b fq! af!,Bh_,[aP!,aO!,hf_],Bi_,Builtin.Dict.keyAndDefault,Bj_,⟨_,bY,?_⟩,Bk_,Sv W Bk! d W',Bl_,pre++[.tup cd_],Bm_,Jj W Bk! rows',Bn_,(oY!).resolve_right e,Bo_,hg.winv w.inv hc.1 hc.2.1 hc.2.2,Bp_,setT W a Bg_,Bq_,λv hv q hq=>?_,Br_,rE (A:=X.A) a! I m sub e ⟨_,r,rx⟩ hk λs' I'=>KB ⟨.bl _,H,I',rfl,q⟩,Bs_,(D.str k::r),Bt_,fo ρ=some d,Bu_,f4 ρ=some e,Bv_,f1 hc _ hg,Bw_,Mh->List D->Option D,Bx_,x1.trans kR! m1,By_,⟨ys,z,rfl⟩,Bz_,sub.free hl,BA_,k="undo"\/k="redo",BB_,.tup [kR_,hp!],BC_,∀a,k' (f a)=k a,BD_,.Attribute o "get" a8,BE_,⟨yv,q2,ry⟩,BF_,J.run I2 BG_ r2 λz M3 zv G3 H3 jv s3 r3 x3 m3 q3 I3 rz=>QH ?_,BG_,(ft_).grow x2 m2,BH_,(bN_).mono x3.g,BI_,Ai o.v bA_,BJ_,(show qa!=true by decide+kernel),BK_,Ai fs! I!,BL_,Na qe_ os B,BM_,.nx [O!,ac_,y'],BN_,dE s.heap.objs.size [] 0,BO_,Br acc a T!,BP_,mup M p (.dct BO_ BP!),BQ_,λM' bf y' Y h2=>hR M' bf y' BQ! h2,BR_,λo ho=>hd o (bu.mem_iff.mp ho),BS_,λM' ep y Y h2=>hR p M' ep hp Y λb J=>(qi_).trans qi!,BT_,.dct dq bf,BU_,(λx=>by simp),BV_,[O!,ac_,bi!,J_,z],BW_,(by rw[LK,OG];omega),BX_,[d9!,none,none,none,none],BY_,CU X.prog X.w X.K M0 G0 F0 own cg f,BZ_,LP (ne j hj),B0_,λb o e J=>?_,B1_,h2.ok M0 G0 F0,B2_,((r,.obj t.B7 oM_)::(f,.dct kf ef)::(p,.dct kp ep)::l),B3_,(a,.dct [] 0),B4_,⟨G,ρ,M,_,sr.st,e,λb M' G' H' r x m=>?_⟩,B5_,.obj C (Ih x y fs),B6_,sr.grow x1 m1,B7_,[(root,.fn r1),(binn,.fn r2)],B8_,.Subscript o i p2,B9_,Cb fo fi f,Ca_,.fol binn true,Cb_,.pre binn true,Cc_,λd M' v G' H' r x m q=>?_,Cd_,(λx h=>by cases h),Ce_,λ_ h=>k0_,Cf_,[_,_,_,_,_,_,_,_],Cg_,(by show 3<100;decide),Ch_,⟨m7,cx.mr,ar!⟩,Ci_,[O!,ab_,bi!,qw!,z],Cj_,∀cl C aj bd fp,Pi b2! c9 Cj!,Ck_,h5 q (by rw[oq];simp) vm,Cl_,Bi NL.length ix fi bnd ft fe,Cm_,λds M1 vs G1 H1 r1 x1 m1 q1=>?_,Cn_,λy hy z=>?_,Co_,Ds X.prog X.w X.K X.mg X.base k C m ps g,Cp_,⟨G,ρ,M,_,st,e',Cp!⟩,Cq_,Pg kV! a0!,Cr_,[d9!,ab_,bi!,none,none],Cs_,(D.fn p::[]),Ct_,(k2_).nodup_iff.mpr nn,Cu_,mup M1 x qy_,Cv_,(k4!).getD z,Cw_,Pu f2 ρ M b,Cx_,⟨G,_,M,_,⟨⟨er,m,ar!⟩,.refl sub,ar!⟩,e.2,λρ' M' G' ac H' r sr=>kk _ M' _ G' H' r sr.x sr.st.mr Aq.non,λd M' v G' H' r x m q=>kk d M' v G' H' r x m q⟩,Cy_,(d==sysModules)=false,Cz_,Sw ft ρ M true,CA_,Pu fa ρ M bk!,CB_,ho _ (hi _ ?_),CC_,(by show 3<=1000;decide),CD_,KB (JY iB_),CG_,KB (JY (PM sv sw ?_)),CH_,KB (JY (UG hT ?_)),CI_,some (.lst CI!),CJ_,((j+1:Nat):Int),CK_,⟨n+1,?_⟩,CL_,.int (cL!:Nat),CM_,(λi v=>∃c u,x.cps[i]?=some c/\v=.str aj! u),CN_,(∃old,IsEnum h e it i old),CO_,[d9!,hy!,none,none],CP_,⟨#[q.1]⟩,CQ_,Gl X "enumerate",CR_,starEach [a] X.env=dv_::starEach [] X.env,CS_,X.mg "enumerate"=none,CT_,Br acc u.2 fu!,CU_,mZ nd hl ?_,CV_,I1.hok.fresh qH_,CW_,λi h ⟨o,ho,_,hd⟩=>⟨o,ho,λv z=>by rw[hd]at z;cases z⟩,CX_,IntsAre j4.toList ms,CY_,lexLt ms ns,CZ_,.dct CY! e,C0_,λb z=>absurd rfl z,C1_,Value.bool b==Value.bool c,C2_,.int (k:Nat),C3_,(match rs[k]? with|some q=>!decide (q.2=p)|none=>false),C4_,.bl (!decide ((fy_).2=p)),C5_,(f1 Bj gm! bQ!).bind (λz=>Jk hw! z)=_,C6_,((k+1:Nat):Int),C7_,((List.range' k m)).map λj=>D.int qA_,C8_,ifT (by rw[cond,LG z]) ?_,C9_,0<=k/\k<=1000/\g!*k.toNat<=1000,Da_,.inr ⟨j,p!,h2,h3⟩,Db_,[G!,D!,cE!,b9_,none,none,none],Dc_,upd H1 p cy_,Dd_,⟨p,n,vs,rfl,rfl,xr,p!,p!,by rw[<-aJ q1];exact eU hl,pA!⟩,De_,λ_ K hK=>hK,Df_,Ai hA! I!,Dg_,[G!,D!,cE!,b9_,hB!,pr_,none],Dh_,(rs.take a++bJ_::rs.drop a),Di_,.lst ((ec_).take a++[Be bJ_]),Dj_,k3 le! fx_ fy!,Dk_,some (.inl (.inr "rows")),Dl_,λq=>decide hD_,Dm_,(λi h4 h5=>by rw[show i=x+1 - 1 by omega]),Dn_,(Df_).bind (λz=>Ax z x)=_,Do_,h m st b h3 h4 u,Dp_,kget cL_ x,Dq_,(∀i,i<lo->rk r w! i<=rk r w! k),Dr_,⟨rfl,lo,lo,rfl,g2,g4,g5⟩,Ds_,Db (knd "put"),Dt_,Db (knd "drop"),Du_,Ap (Gq (Db (knd "write")) Ud) Sr (Ap (Gq (Db (knd "cut")) Ud) Yr Bg),Dv_,pendingOf σ,Dw_,b=false->q2 ρ M R,Dx_,(none,a0.size),Dy_,(eL (k:=Dy!) hw rfl).trans k3t,Dz_,λ_ _ z=>z,DA_,W.its.map λi=>eg!,DB_,wP (KB pK!),DC_,(∀x∈xs,∀(R:β->Shared->Prop),(∀y,F x y->R y s)->wpAny l! A (f x) R E s),DD_,λv hv R hR=>?_,DE_,(af!).length<5000,DF_,[G!,Y!,some fl!,lm_,o4,o5,o6,o7,o8,o9],DG_,aQ (bV rfl rfl c5q),DH_,l.filter λx=>Kr x p,DI_,l[j]?.map c_,DJ_,[G!,Y!,DJ!,lm_,y4,some ll_,hB_,y,none,none],DK_,.Pass ⟨0,0,0,0⟩,DL_,Y.mem_iff.mp (OB cz),DM_,⟨[a],[(Str.ofString "key",v)]⟩,DN_,Fk X.prog X.w X.K X.mg X.base Pj k f fd ps xI_,DO_,(c,seqObj "list" ku.toArray n),DP_,Br cL_ al_ eb!,DQ_,.str "numbers",DR_,λ_ _ q=>e.seq q,DS_,Ir lp! al_ e2,DT_,Paired dm_ kd ku,DU_,(c,seqObj "list" ku.toArray e),DV_,.ret .none,DW_,Obj.mapSeq λ_=>(#[]:Array Value),DX_,ds.map fF!,DY_,Array.toList_inj.mp,DZ_,(lr!).map R!,D0_,λx y F Q hx hy hq=>?_,D1_,(by rw[hsz];omega),D2_,⟨a1,a2,a3⟩,D3_,(by rw[b3,hd]),D4_,⟨_,RL ha λ_=>#[]⟩,D5_,SA ha rfl ?_ lo_ b9!,D6_,seqEpoch_at tj rfl ?_,D7_,⟨same.rows,q8!,jU_⟩,D8_,LS _ _ (λz=>J (by rw[z];exact LB.mpr rfl)),D9_,[G!,J_,none,none,none,none,none,none,none,none],Ea_,s.heap.IsList l cx!,Eb_,∀K:Bool->Mh->Prop,K b M->ft ρ M K,Ec_,.dct kb e0,Ed_,checkCount "sorted" 1 1 _,Ee_,⟨_,km,rfl⟩,Ef_,kws_nil ?_,Eg_,x1.sub.seq sq,Eh_,(s1.heap.push ci!).update s1.heap.objs.size (Obj.mapSeq (·++a0_)),Ei_,(Eh_).push Ei!,Ej_,(by rw[(cI _).length_eq,MY];omega),Ek_,ItemsOf qE! acc ab!,El_,NB (by rw[MX,hi.1];omega),Em_,λq e=>Cu KF G q.1 e.key,En_,k3 eb! fx_ fy!,Eo_,λv d=>Hj h3 v (lv_).1 (lv_).2,Ep_,seqEpoch_at l9 rfl ?_]
def z'a:String:=z [aa!,h_+1,ab!,es.length,ac!,some aZ_,ad!,λ_=>True,ae!,aI ap!,af!,W.txt a,ag!,Bt t M yy a ta wa out S kl ca,ah!,starEach aA_ X.env=dA!::starEach es X.env,ai!,"name",aj!,⟨#[c]⟩,ak!,Bl t M o O W B,al!,X.A.units+64<cLine,am!,D×D,an!,ME X own a fa,ao!,List Env,ap!,aI (λ_ _ h=>aW h),aq!,aA 2,ar!,λi hi=>(by cases hi),as!,some (.lst ops),at!,l.length,au!,os.map Op.v,av!,h1.length,aw!,fC bA_,ax!,wl C_,ay!,some x,az!,rs.length,aA!,EP X hb Z Q,aB!,aQ (d:=v_) rfl,aC!,fC bz_,aD!,Aa 6,aE!,λx hx=>?_,aF!,aA 3,aG!,aB aF!,aH!,Ch.refl sub,aI!,KM a!,aJ!,r.length,aK!,Hist S,aL!,"_law_k",aM!,(r2!).any c_=false,aN!,wl F_,aO!,.int n,aP!,.int h,aQ!,os.length,aR!,X.N.Nodup,aS!,I.ok.hd hc,aT!,Gr false,aU!,Ab g_ Ad,aV!,aN aH aL aq! aD k!,aW!,(x,p),aX!,Ep t M ad V B,aY!,x∈W.its,aZ!,.str s,a0!,Hz ops,a1!,Lp P w H h,a2!,some v,a3!,Bn v u,a4!,(by simp;omega),a5!,vs.length,a6!,KM hk,a7!,Ac j_ Ae,a8!,[bA!],a9!,.Call (.Name x p) aA_ [] pos]
def z'aa:String:=z [aa_,u++v,ab_,some W!,ac_,some x_,ad_,us.length,ae_,f ρ,af_,.ref f,ag_,[a,b],ah_,"self",ai_,List α,aj_,Aa 9,ak_,A.units<cLine,al_,.tup bL!,am_,some kD!,an_,.inl rfl,ao_,X.calm=true,ap_,bZ t_,aq_,aA 5,ar_,s.length,as_,Da x=some k,au_,kF mS i_,av_,(by kernel_rfl),aw_,[ah_,ai!],ax_,[H!,aM_],ay_,bK (gV (pA rfl i_)),az_,aQ rfl,aA_,(e::es),aB_,"_law_item",aC_,Ab m_ Ad,aD_,.lst ys,aE_,aB aR,aF_,aC p_ aM,aG_,List D,aH_,.rt d,aI_,.ref C0,aJ_,⟨rfl,rfl⟩,aK_,"_law_ops",aL_,f2 Ai j_ F_,aM_,"item",aN_,i∉own,aO_,⟨trivial,?_⟩,aP_,Da y=some k,aQ_,λd hd=>?_,aR_,PE X a ta,aS_,λ_=>some true,aT_,Option Int,aU_,aN aH aL B! aD k!,aV_,Or.inr rfl,aW_,List c9_,aX_,.fn o,aY_,(λ_ _ e=>by cases e),aZ_,scr ns,a0_,its.toArray,a1_,List Addr,a2_,Xj X.env.scope x,a3_,I.tok _,a4_,OS t M a o O W,a5_,"_law_script",a6_,KN hk,a7_,.int 1,a8_,Ah k X.A,a9_,wl N!]
def z'b:String:=z [ba!,Aa 7,bb!,Ak st,bc!,aA 6,bd!,λb h=>?_,be!,.ref ae,bf!,some n,bg!,Jr W,bh!,Da d=some k,bi!,some cK_,bj!,fs.length,bk!,.bl b,bl!,g i j,bm!,"_law_world_here",bn!,f2 Ai A_ F_,bo!,[H!],bp!,fD t_,bq!,aA 9,br!,(by unfold big;omega),bs!,Addr->Prop,bt!,B+20,bu!,ME X own e f,bv!,[e,it],bw!,.fn w,bx!,k _ _ an_ e,by!,cQ!<64,bz!,eI I q c!,bA!,.ref a,bB!,wl bH_,bC!,A.handled=none,bD!,Ac A_ Ae,bE!,its.toArray.size,bF!,[aK_],bG!,aB aV!,bH!,Ag->Option Bool,bI!,.type "int",bJ!,.type "str",bK!,W.num x,bL!,[aP!,aO!],bM!,Cu X.K G d u,bN!,some kA_,bO!,[O!,ac_,J_],bP!,.nx ρ',bQ!,[Y!,D!,cE!,b9_,hB!,k7_,y],bR!,.int i,bS!,j+1,bT!,"_law_hand_here",bU!,"operation",bV!,.str "undo",bW!,ns.map V.int,bX!,aE B! aK,bY!,gU t_,bZ!,"_law_one",b0!,List eT_,b1!,X.pn++hb,b2!,Mx X scope cl C gF_ aj bd fp,b3!,.fn a,b4!,OR KF own G H Z ρ,b5!,List D->Option D,b6!,⟨rfl,h⟩,b7!,Str×D,b8!,.int j,b9!,LY _]
def z'bb:String:=z [ba_,some i,bb_,aA 4,bc_,w2 Bs g_ gJ_,bd_,Ag->Option aG_,be_,.type "tuple",bf_,.Name x b8,bg_,.int 0,bh_,some (.int most),bi_,mixKind P w,bj_,(env::outer),bk_,.ref h_,bl_,"_law_deed_here",bm_,f2 Ai A_ aw!,bn_,⟨_,e⟩,bo_,bU I_ bF j! aE_ k!,bp_,Cy st,bq_,aB bb_,br_,W.txt x,bs_,(by intros;kernel_rfl),bt_,M p=some hn_,bu_,MR X.prog X.w X.K M G H,bv_,.fn w,bw_,.tup xs,bx_,.str x,by_,aQ (d:=x) rfl,bz_,.int 2,bA_,.int 3,bB_,Ar t.B7 "following" g_,bC_,Aa 8,bD_,Cj 2,bE_,[H!,bU!],bF_,KF w.params,bG_,ρ.set i cz!,bH_,fC .non,bI_,.type "bool",bJ_,(i,p),bK_,oF a1 a2 a3 a4 a5 a6,bL_,.tup kn!,bM_,some (.int m0),bN_,q1.mono x2.g,bO_,Ja P w KF own M0 G0 F0 M G H Z ρ,bP_,u.length,bQ_,h.objs.size,bR_,[ah_],bS_,Gk X (compareOp op) r,bT_,λ_=>rfl,bU_,.none,bV_,aft W S c,bW_,some g,bX_,aB dB,bY_,[bZ!],bZ_,aA 7,b0_,scope.names,b1_,eH (bJ ap_ cB aV! aR n!),b2_,At of_,b3_,.lst ds,b4_,aC j! aM,b5_,D->Ag->Option Ag,b6_,Ba d=true,b7_,.int m,b8_,some al_,b9_,some s]
def z'c:String:=z [ca!,scr ns,cb!,ep+1,cc!,x1.trans x2 m1,cd!,M a=some hn_,ce!,[qb_],cf!,.int o.h,cg!,SB kd a0 st,ch!,.ref c,ci!,seqObj "list" #[] 0,cj!,Array Value,ck!,PE X b tb,cl!,Xe X.env.scope x,cm!,.int i,cn!,.ref it,co!,y.length,cp!,.lst eE_,cq!,[gc_],cr!,vs.toArray,cs!,Ab g_ aC_,ct!,backToKw ah tS!,cu!,dO aD,cv!,(by rw[q];simp),cw!,aA 8,cx!,us.toArray,cy!,H p=none,cz!,some d,cA!,Aq KF G d v,cB!,DE X own b fb,cC!,RW t M0 M r f p kf kp,cD!,("parents",.fn a1),cE!,some p,cF!,cs.length,cG!,wl fo,cH!,List DictEntry,cI!,some item,cJ!,av!<big,cK!,.dct [] 0,cL!,acc.length,cM!,lo+hi,cN!,(by simpa using e),cO!,upd H a o,cP!,λp hp=>?_,cQ!,S.length,cR!,List Expr,cS!,X.mg x=none,cT!,dF ie! ?_,cU!,i.natAbs,cV!,x.length,cW!,[u!,O!,G!,ay!],cX!,Au aC!,cY!,ps.zip us,cZ!,[bU!],c0!,items.size,c1!,wl i4!,c2!,aG (bA eQ_),c3!,Fq N ps bb!,c4!,scope.kind=.function,c5!,dI 3,c6!,aC j! aF_,c7!,DE X own e f,c8!,bH T.V5 T.W4 j!,c9!,.Name x p2]
def z'cc:String:=z [ca_,KA _ hx,cb_,MR P w KF M G H,cc_,ME X own b fb,cd_,[aP!,d0_],ce_,l[j],cf_,((k:Nat):Int),cg_,[some hA!,ay!],ch_,(s.heap.update a DW_).push (seqObj "tuple" us.toArray 0),ci_,Value.none,cj_,.inl rfl,ck_,ha hb s Z H _ I h,cl_,(x==r6_)=false,cm_,PE X e te,cn_,λb J=>?_,co_,fC m8!,cp_,.ref p,cq_,At m_,cr_,[ah_,aM_],cs_,λx=>!x.1,ct_,λx=>x.1.isSome,cu_,⟨rfl,rfl,rfl,rfl⟩,cv_,"_law_number_here",cw_,aB dN_,cx_,Am KF H ds vs,cy_,.lst vs,cz_,some or!,cA_,f ρ=some d,cB_,(u++n::v),cC_,Ag->Option Fl,cD_,B<=B',cE_,W.txt i,cF_,some b,cG_,.type "tuple",cH_,KM br!,cI_,mup_ne J,cJ_,ME X own o fo,cK_,.fn q,cL_,W.its.map λi=>(i,D.lst la!),cM_,Rn W B,cN_,Str×V,cO_,LF e,cP_,hF yy ta wa out,cQ_,List V->Hp->Prop,cR_,.Name x pos,cS_,x≠"__name__",cT_,∀x,foldedSetIterable iter X.env x=pure x,cU_,.dct (xs.zipIdx.map λq=>f4_) i!,cV_,ns.length,cW_,Bd (fC Z!),cX_,f2 Ai j_ aC!,cY_,⟨us,[]⟩,cZ_,Ar t.B6 "rows" g_,c0_,At y_,c1_,.ref h_,c2_,aE aq! aK,c3_,Cq X scope NF ix,c4_,∀y∈b0_,y.2≠.cell,c5_,.tup ds,c6_,er.grow s1,c7_,s1.trans s2,c8_,v.headD .non,c9_,D×D×Bool]
def z'd:String:=z [da!,wo rows i,db!,i∈W.its,dc!,n+1,dd!,x∈W.its,de!,some j5!,df!,Hf ks k,dg!,[none],dh!,Str.ofString "",di!,kget h1 d,dj!,[O!,ac_,bi!,J_,kW_],dk!,λx hx=>(by simp[W0]at hx),dl!,Uk prog w A s a0 kd r,dm!,λ_=>true,dn!,aQ (d:=bv_) rfl,do!,.int i t,dp!,a==sysModules,dq!,X.s₀.heap.objs.size,dr!,hs S h,ds!,Bool->Hp->Prop,dt!,.Compare a [op] [b] pos,du!,eval o X.env,dv!,LC _ rfl,dw!,f2 b J,dx!,xs.isEmpty,dy!,.int (i:Nat),dz!,f1 Bj a7!,dA!,(false,eval e X.env),dB!,vs++dvs,dC!,Eu X.K fd ps ds,dD!,Az dvs ds,dE!,.type T,dF!,λρ M R=>R true M,dG!,Ac C_ Ae,dH!,wl uY_,dI!,.type "list",dJ!,([]:List Keyword),dK!,⟨_,e,rfl⟩,dL!,aB aU_,dM!,Option Addr,dN!,KA _ hy,dO!,λ_ _ _ _ _=>tZ,dP!,(d::ds),dQ!,i∈own,dR!,"_law_ours",dS!,k _ G H aH! Aq.int,dT!,k _ G H aH! Aq.bl,dU!,some jP_,dV!,.fol x b,dW!,(by rw[z.1,z.2]),dX!,[aX_,x],dY!,i∈W.its/\Et W x/\¬Wn W.rows i x,dZ!,λq hq=>?_,d0!,OI ..,d1!,sgn h n,d2!,Jx P w s.heap k u,d3!,{s with toks:=tk},d4!,(d,x),d5!,A.units+1<cLine,d6!,[o.v],d7!,(qb!).Nodup,d8!,mup M p cK!,d9!,some hs_]
def z'dd:String:=z [da_,(s,p),db_,λb h=>.inl h,dc_,Et W x,dd_,Ej d d',de_,Da a=some ka,df_,mkHash P w k,dg_,(.str k::r),dh_,λz=>?_,di_,hO.noOb bs_,dj_,upd H s.heap.objs.size BN_,dk_,dE d es ep,dl_,[G!,D!,ay!,b9_],dm_,Cu X.K G,dn_,λc=>?_,do_,Az xs us,dp_,OF _,dq_,(Str.ofString "ours",.int yy),dr_,hs S o.h,ds_,behindInMarks op b=false,dt_,.bl true,du_,ms.map Op.v,dv_,(false,eval a X.env),dw_,rawInt T,dx_,.dK h1,dy_,Uo X.K C,dz_,.fn t.A0,dA_,Ac r_ Ae,dB_,Fk X.prog X.w X.K X.mg X.base CX k f fd ps sp,dC_,Kc CX X E,dD_,"other",dE_,.ref b,dF_,some c.d,dG_,some ir_,dH_,Ab g_ gi_,dI_,[H!,nI!],dJ_,nJ!=true,dK_,bH T.V3 T.X3 j!,dL_,⟨t,rfl⟩,dM_,fV T,dN_,aN aH aL R_ aD k!,dO_,Mx X scope cl G2.objs.size gF_ s2 H2 fp,dP_,aG (bA D_),dQ_,aG (bA p_),dR_,Hs X.K r g,dS_,(λz=>nomatch z),dT_,λd hd=>?_,dU_,LP cy,dV_,.pre x b,dW_,Aq X.K H d v,dX_,Sum.inr y,dY_,if _ then _ else _,dZ_,B+1,d0_,.int m,d1_,.str s,d2_,(by simp;omega),d3_,l.map c_,d4_,some 1,d5_,q2 ρ M R,d6_,ops.map Op.v,d7_,kx_<64,d8_,some o.v,d9_,λq hq=>?_]
def z'e:String:=z [ea!,.dct [] 0,eb!,.lst [],ec!,.inr an_,ed!,[Y!,D!,cE!,b9_,hB!,hB_,k7_],ee!,j - 1,ef!,Aa 0 ρ=some bw!,eg!,(qa i,Es.lst fa_),eh!,λK hK=>hK,ei!,(a,oa),ej!,⟨rfl,k⟩,ek!,LB.mp z,el!,xs++ys,em!,⟨_,i1,nI Y⟩,en!,eM Y,eo!,∀b∈frA bj_,∃o,n.get? b=some o,ep!,Z.length,eq!,Z.set i a2!,er!,BC X pn f,es!,eval e X.env,et!,.BoolOp .And si! pos,eu!,.BoolOp .Or si! pos,ev!,Nq i,ew!,rv.length,ex!,.int j,ey!,HQ t M yy a ta wa S kl ca W,ez!,[v_,x],eA!,shn W x,eB!,s.heap.push iC!,eC!,.ins C dx fs,eD!,I.tok _,eE!,backToKw pos tS!,eF!,(x::xs),eG!,PA X aA_ t,eH!,Ar t.B7 "preceding" g_,eI!,Ar t.B6 "texts" g_,eJ!,.builtin id,eK!,Xd S 5 c.d,eL!,some b7_,eM!,fC nw_,eN!,(D.str "root"::kz_),eO!,some kA_,eP!,if(dJ!).isEmpty then 0 else 1,eQ!,[H!,aM_,"place"],eR!,aB nS!,eS!,.ref fa,eT!,Bc H H',eU!,List v2!,eV!,λ_ _ _ _ _=>j!,eW!,.str "rows",eX!,bE (i:=3) nd rfl b_,eY!,aG iM,eZ!,(a,oe),e0!,[bm!,aB_],e1!,fa ρ,e2!,bH T.V4 T.W7 j!,e3!,[jO_],e4!,fi ρ=some y,e5!,SR KF own G0 F0 G H Z ρ,e6!,a∈W.its,e7!,V.ref p,e8!,.lst bK!,e9!,mup_ne Y]
def z'ee:String:=z [ea_,[O!,ab_,bi!,qw!,some x.nm],eb_,Mf M w O W wt wn qa,ec_,rs.map Be,ed_,W.rows.length,ee_,ed_<5000,ef_,arrOf bg,eg_,(by rw[KQ];unfold big;omega),eh_,(a,b),ei_,cR h2,ej_,B<3800,ek_,(by unfold Za;omega),el_,(t.A0,a),em_,List α->Prop,en_,s.heap.FunFrames base bj_,eo_,Addr×Obj,ep_,some (.int N),eq_,((dr_).length:Nat),er_,Az vs us,es_,.BoolOp .And (b::rest) pos,et_,.BoolOp .Or (b::rest) pos,eu_,.UnaryOp .Not a pos,ev_,[v,ov,iv],ew_,⟨_,dv!,rfl,rfl⟩,ex_,(b,o),ey_,binaryOp .Add,ez_,(show false=true from hs),eA_,some af_,eB_,[u!,ay!,some iA_],eC_,Bp M w Ow W,eD_,fC (.int 16),eE_,S.map Op.v,eF_,us++ds,eG_,Ab y_ Ad,eH_,I.hok.fresh r!,eI_,ML uh!,eJ_,f2 Ai A_ aC!,eK_,Ek j_,eL_,fC i3_,eM_,Ar t.B5 "taken" g_,eN_,.str aj!,eO_,⟨.bl _,H,I,rfl,?_⟩,eP_,bD (bX eW),eQ_,aB eW,eR_,.bool true,eS_,aE aF! aK,eT_,Str×Addr,eU_,(n,k),eV_,"_law_base",eW_,Au L!,eX_,aC j! gG!,eY_,upd H p o,eZ_,Bc.refl G,e0_,Km own Z G H,e1_,fs ρ,e2_,(by simp[e]),e3_,Aa 0 ρ=some jP_,e4_,⟨G,ρ,_,er,e1,xy!⟩,e5_,Jj W n rows',e6_,("rows",.fn a2),e7_,Ba d'=true,e8_,(by show A.units+1+Di xs<cLine;omega),e9_,⟨1,?_⟩]
def z'f:String:=z [fa!,Da i=some ki,fb!,x.cps.size,fc!,.tup kd_,fd!,OL B,fe!,⟨hp,g,d,tk,os⟩,ff!,.Tuple pz n1 tp,fg!,if Et W a then a else binn,fh!,h.Ns mainGlobals mg,fi!,LG rfl,fj!,ks.length,fk!,.inl gG_,fl!,.tup [.str "cut",a,.tup kd_,d0_],fm!,Hk P w KF G h1 es,fn!,Ij h1,fo!,MA X own es fs,fp!,cV h5,fq!,s.cps.toList.zipIdx.map kM!,fr!,Us W pre,fs!,.tup dg_,ft!,MA X own aA_ fs,fu!,.bl hp_,fv!,λh=>?_,fw!,e rfl,fx!,.int o.tm,fy!,.fn wn,fz!,[G!,D!,cE!,b9_,hB!,hB_,y],fA!,n<=a0.size,fB!,[G!,ay!,D!,y],fC!,wl fx,fD!,ND.mpr k!,fE!,L'.length,fF!,Ii g,fG!,Cu KF G,fH!,(rc_).map kf2,fI!,a==b,fJ!,tupleKind bi_,fK!,.ref x,fL!,aY (cK q hn),fM!,hs os h,fN!,env.frame=some L,fO!,frA bj_,fP!,λz=>J hX_,fQ!,[dq_,rO!],fR!,kl.map λh=>(D.int h,D.fn (ca h)),fS!,(by rw[hA.ob];simp),fT!,aQ (d:=aP!) rfl,fU!,J hb s1 Z H1 _ I1 q1,fV!,mup M q eb!,fW!,X.wish E,fX!,ms.map Op.nm,fY!,.int _,fZ!,hf b J,f0!,2 ^ 62,f1!,(∀b∈fp,H' b=none),f2!,Value->Value->Sem Value,f3!,.lst mR!,f4!,i != 0,f5!,Ur W,f6!,KF.In s.heap,f7!,f2 Ai j_ u_,f8!,aQ (d:=q1) rfl,f9!,a8.atName]
def z'ff:String:=z [fa_,W.num i,fb_,D×D×Bool->Prop,fc_,Str.ofString "__next__",fd_,OE ?_,fe_,f1 ρ=some a,ff_,[bg_,bg_,bg_,bg_],fg_,KF.In h,fh_,(pI!).Nodup,fi_,KP c!,fj_,(none,()),fk_,.tup [hg_,a,b],fl_,h1.map c_,fm_,Dj N,fn_,some AS!,fo_,bL rfl rfl,fp_,h3.typeIs,fq_,W.num a,fr_,Uq X.K H dx,fs_,Da y,ft_,st.grow x1 m1,fu_,mup M p (.dct (Br h1 y v) (Ir h1 y ep)),fv_,Mh->Prop,fw_,(i:Int)+1,fx_,.fn wt,fy_,rs[k],fz_,wpS_get ?_,fA_,1<=m,fB_,(show i=j by omega),fC_,((i:Nat):Int),fD_,p1 rfl,fE_,KJ _ (KJ _ c!),fF_,l.map f,fG_,es.map kv_,fH_,.str x t,fI_,h'.objs.size,fJ_,.own a,fK_,λ_ q=>q,fL_,.frz o u,fM_,A.frames=some bj_,fN_,∀b,h_<=b->n.get? b=none,fO_,.int 5,fP_,λb o e n J hx=>?_,fQ_,[dq_,rO!,(Str.ofString "waiting",.fn wa)],fR_,Int->Addr,fS_,fB az_ hA.ob hF2,fT_,.int h,fU_,(xC==l9!)=false,fV_,PT X a tA,fW_,fr b J,fX_,some x,fY_,PassesOwn d_ X.A X.env X.xe,fZ_,(by simpa using J),f0_,((0:Nat):Int),f1_,Hz S,f2_,hp.objs.size,f3_,⟨by rw[KQ];unfold big;omega,?_⟩,f4_,(D.int qG_,q.1),f5_,.int n,f6_,(by decide+kernel),f7_,fC iH!,f8_,["sign"],f9_,getMethod ov m pl]
def z'g:String:=z [ga!,Ah k A,gb!,Hy t,gc!,.str "cut",gd!,Ah M_ X.A,ge!,X.mg x=some U_,gf!,envOfC qual scope s.heap.objs.size f cd,gg!,Mi N vs,gh!,Db (Cw (fT t1_) (fT ng_)),gi!,Bz t,gj!,(some o.v::r),gk!,[ah_,aM_,nk!,iS_],gl!,wl bC_,gm!,Ac N! Ae,gn!,Gr true,go!,f2 Ai bm_ F_,gp!,Ug xs lo hi,gq!,.str aj!,gr!,Fe t,gs!,Ar t.B5 "waiting" g_,gt!,[.ref p],gu!,wl u8_,gv!,its.length,gw!,Om t,gx!,jL t_,gy!,aE R_ aK,gz!,.int 9,gA!,dX T,gB!,W.keepIn KF af_=true,gC!,aA 10,gD!,Aa 10,gE!,(by rfl),gF!,Cj 6,gG!,aC aG! aM,gH!,aC bG! wk!,gI!,f1 Bj gm!,gJ!,G2.objs.size,gK!,(λv z=>by cases z),gL!,∀y∈b0_,y.2=.free->wG_,gM!,d9 _ I2.lt,gN!,Aq KF H d v,gO!,ρ.length,gP!,λ_ _ _ h=>h,gQ!,r1.mono s2.g,gR!,aC D_ aM,gS!,DT X own a ft,gT!,Br l d v,gU!,wl fi,gV!,Pn rows i p s rows',gW!,starEach (e::[]) X.env=dA!::starEach [] X.env,gX!,ad .par,gY!,Qq F0 G1,gZ!,.dir b,g0!,Am X.K H es ws,g1!,Aq X.K H d' v',g2!,List b7!,g3!,setT W i (cutT g cE_),g4!,setT W i l,g5!,[g4_,g5_,ex!],g6!,.tup g5!,g7!,B<3900,g8!,s.heap.IsTuple l2 ys,g9!,CT s.heap l1 l2]
def z'gg:String:=z [ga_,PA X es t,gb_,Au u_,gc_,"operations",gd_,cQ!<63,ge_,wl f7_,gf_,Hn t.B7 1 (Gg t) Ad,gg_,gX av_,gh_,Al 1 iQ_,gi_,Ab ax! Ad,gj_,some lZ!,gk_,.int a t,gl_,Cj 4,gm_,[G!,D!,some g],gn_,Wk W S c,go_,Al 4 (wl (Ey C_ Ay cX!)),gp_,Ab c1! (Ab i5! (Ab (wl bm_) Ad)),gq_,LQ J,gr_,wl u_,gs_,AE x,gt_,.inr rfl,gu_,cF cU eJ rfl T.T0 eC bX!,gv_,λ_ _ _ _ _=>a2f,gw_,aB jj_,gx_,[a5_,aL!],gy_,Sl ai.heap H,gz_,"_law_most",gA_,aE vT! aK,gB_,bJ ap_ cB bq! aR n!,gC_,NameKind.free,gD_,fC jp_,gE_,b6.sub x c h,gF_,NL++NF,gG_,.inr z,gH_,wl (fC eW!),gI_,.ListComp dw wr! scope pos,gJ_,wl (fC og!),gK_,[bm!,aB_,wz!,m3_],gL_,∀cl C aj bd fp,PG b2! tg g,gM_,bH T.V3 T.X4 j!,gN_,V.ref a,gO_,Ch.refl er.sub,gP_,D->D->Option D,gQ_,s2.trans s3,gR_,ft ρ,gS_,sub.free hp,gT_,Hl l d,gU_,kput_len _ _ _,gV_,Ch.laid x.sub hp,gW_,(backTo ah ne!).any c_=false,gX_,ad r,gY_,ds.map some++List.replicate (iQ! - g!) none,gZ_,Am X.K H ds vs,g0_,Et W x,g1_,Bn v' u',g2_,(λr M'=>match r with|.rt d=>R d M'|.nx _=>R .non M'),g3_,.Name y py,g4_,.int x,g5_,.int y,g6_,(by size_fits),g7_,s.heap.IsTuple l1 xs,g8_,(s,c,true),g9_,s.cps.toList.zipIdx.map d1!]
def z'h:String:=z [ha!,.tup bL!,hb!,f2 ρ=some b,hc!,List Vp,hd!,wo W.rows i,he!,List MK,hf!,Md ks k,hg!,(aJ!:Int),hh!,.tup [kw!,a,b,c],hi!,.tup AE_,hj!,∀o∈ops,Ui o,hk!,cs.map λc=>(aj!:Str),hl!,Sx P w KF own G H Z ρ M,hm!,fs ρ=some ds,hn!,MT X own a ft,ho!,pQ I sub r hk,hp!,.int o.h,hq!,⟨_,_,rfl,i_,i_,rfl⟩,hr!,Dx M1 d,hs!,∀o∈ops,DG o.d,ht!,mup M s.heap.objs.size cK!,hu!,Gd own Z H1,hv!,(x::os),hw!,.int (k:Nat),hx!,q.2.1.map c_,hy!,some eb!,hz!,W.rows.map Be,hA!,Be q,hB!,some (.lst ec_),hC!,a0.toList,hD!,x - 1,hE!,Int×Int,hF!,.lst [],hG!,W.its++[D.tup bL!],hH!,.done DV_,hI!,kY o,hJ!,us.zip us,hK!,Kj lB_ lC!,hL!,o.ExactDict,hM!,[a,b,c],hN!,∀b u,h.get? b=some u->h'.get? b=some u,hO!,H a=none,hP!,Sl h H,hQ!,s.heap.update T ry_,hR!,LF ho,hS!,b∈X.ex\/dq!<=b,hT!,Lp X.prog X.w H' h',hU!,(λz=>by cases z),hV!,I.base.keep b o e n J hx,hW!,frs X.stack,hX!,λb J=>?_,hY!,λz=>hc hX_,hZ!,LD _ z,h0!,(by rw[ht];simp),h1!,(by rw[hA.cl h hh];simp),h2!,[v_,o.v],h3!,pB _ _,h4!,TP X hb Z Q,h5!,.int yy,h6!,(X.env::X.outer),h7!,some (.inl (.inl o.h)),h8!,∀du,isTrue e X.env du=(do let v <-du;standAt e.pos;holding [v] mf!),h9!,.bl false]
def z'hh:String:=z [ha_,s.cps.toList.length,hb_,some F!,hc_,(show v=.none from hy),hd_,(show u=.none from hx),he_,ks.Nodup,hf_,.int k,hg_,.str "put",hh_,.tup [pM!,a],hi_,Ny s.heap a es ep,hj_,kx_<=100,hk_,(if _<=big then _ else none)=_,hl_,f ρ M R,hm_,Yz X.prog X.w X.K r gm,hn_,.dct h1 ep,ho_,some d,hp_,k=="undo",hq_,(a0!).map Op.v,hr_,λx hx=>hd x ca_,hs_,.lst d6_,ht_,wl fa,hu_,(o::os),hv_,Pu f ρ M d,hw_,OB _,hx_,e≠it,hy_,k3 a b c,hz_,KA _ KD,hA_,.tup ag_,hB_,some (.int (a:Nat)),hC_,m - 1,hD_,q.1=x,hE_,aQ (d:=bg_) rfl,hF_,ku.zip us,hG_,seqObj "list" us'.toArray n',hH_,(DZ_).map fF!,hI_,us.toArray.zip cx!,hJ_,(hJ!).zip ds,hK_,seqObj "list" (fG_).toArray 0,hL_,(show h.get? a=some _ from x),hM_,.ListComp dw wr! scope ah,hN_,.own x,hO_,Y.objs.size,hP_,X.A.handled,hQ_,I.ok.bs b o e,hR_,(∀x c,X.env.cells.lookup x=some c->c≠b),hS_,bL rfl fo_,hT_,.inr a0,hU_,uj b o e hx,hV_,[ac!,am_,ep_,hy!,lT!,lT!,none,none,none,none],hW_,out b o e hx,hX_,(by simp[z]),hY_,Kb lV! P w KF mg base N qual scope f cd A outer s H E,hZ_,kl.length,h0_,(by rw[hA.wt];simp),h1_,.fn (ca h),h2_,aQ (d:=.int 1) rfl,h3_,some fT_,h4_,List Stmt,h5_,Uf X a pn,h6_,X.pn++hb++[eZ!],h7_,PE X e t,h8_,dF ck_ ?_,h9_,its.toList]
def z'i:String:=z [ia!,TX X M0 G0 F0 own be q1,ib!,ok.above,ic!,⟨ok.mod,ok.kind,ok.glob,ok.blt,ib!,ok.inj,ok.has,ok.cab,ok.hd,ib_,ok.stk,ok.exf,ok.bs,ok.bsz,ok.noex,ok.exfs,ok.funs,ok.frf⟩,id!,(st::rest),ie!,he hb s Z H _ I h,if!,St->Hp->Prop,ig!,Uf X a pn,ih!,ms.map λo=>mp_,ii!,[v_,.lst du_],ij!,⟨fY!,H,a3_,K!,q⟩,ik!,pyNext cn!,il!,full.length,im!,full.toArray,in!,some ms_,ip!,X.mg "range"=none,iq!,(false,eval b X.env),ir!,LD _ hp,is!,I7.unpinned,it!,CV r ta tb,iu!,Of t M a W Q,iv!,Int->Int,iw!,(br_).length<5000,ix!,lastMarks [op,ij] [b,c]=false,iy!,[G!,ay!],iz!,(xs.take i).zipIdx.map λq=>f4_,iA!,r'.length,iB!,⟨_,h⟩,iC!,W.emptyDict,iD!,Kq f v fs,iE!,(show False from r),iF!,Dd (fT (Ei "tuple" j_)),iG!,.str "root",iH!,.str "bin",iI!,NH.mp ho,iJ!,List tU_,iK!,Oo (Ks t) 0 dA_,iL!,some iK_,iM!,1+Vh S,iN!,.Call t2_ [] [] pos,iO!,Xl (Ma 1 Ae),iP!,((p,w)::P.zip vs),iQ!,N.length,iR!,NW uh!,iS!,W.codeIn KF ag qual=true,iT!,(none::r),iU!,Ac aD! Ae,iV!,wl L!,iW!,(by simpa using hv),iX!,wl ba!,iY!,wl (fC w_),iZ!,f2 Ai na! F_,i0!,lE s y1 a bV_ y4 y5 y6 y7 y8 y9 dF_ y11 y12 (some gn_) y14,i1!,KB ⟨_,rfl,KB h⟩,i2!,λ_=>Ax,i3!,if m=3 then binn else g,i4!,f2 Ai A_ u_,i5!,wl eJ_,i6!,.str "set",i7!,(i!:Int),i8!,λW=>UR,i9!,bL rfl (bL (bV rfl (bV rfl rfl c2b) rfl) rfl)]
def z'ii:String:=z [ia_,.inl h,ib_,ok.frames,ic_,PS X st t,id_,λj hj=>(by cases hj),ie_,some e,if_,.Name xC p3,ig_,la_<64,ih_,.Name x pos',ii_,aQ (d:=.fn p) rfl,ij_,Nat->Heap->Prop,ik_,It->Hp->Prop,il_,Hist (S++ms),im_,Jc Ol ms,in_,[Y!,in!],io_,Bt t M yy a ta wa .non S kl ca,ip_,Gl X "range",iq_,KJ _ z,ir_,.int k,is_,List V->Hp->VK->Prop,it_,2 ^ 64,iu_,aQ (d:=aX_) rfl,iv_,λ_ _=>rfl,iw_,Gk X (compareOp ij) r',ix_,.Compare a [op,ij] [b,c] pos,iy_,(by simp only[KH];omega),iz_,if i<0 then -i else i,iA_,.int (i:Nat),iB_,JY ?_,iC_,W.instObj C h_,iD_,h d hd,iE_,H a=some eC!,iF_,True.intro,iG_,fC iG!,iH_,f1 Gs a7!,iI_,A.under (.builtin "type.__call__" ⟨.ref C::us,kw⟩),iJ_,Qr 0 1,iK_,.lst eE_,iL_,.List es pos,iM_,.Call t2_ aA_ [] pos,iN_,((hs S yy).length:Nat),iO_,Str->Option NameKind,iP_,LA.mp nd,iQ_,w2 Bs nh_ m_,iR_,List.replicate 16 [D.int 0],iS_,"sibling",iT_,[iL!,gj_,ho_,some up_],iU_,.ref t,iV_,⟨_,ho,rfl⟩,iW_,⟨_,jh,rfl⟩,iX_,((sIx n 0 lo:Nat):Int),iY_,.ref sl,iZ_,fC bV!,i0_,Builtin.Tuple.tupleExact _,i1_,Ip eK_,i2_,Af go_ (Ap (Gq (Db (Dd uG!)) (wT (w2 i2! (Nz m_ a9_) (wl iZ_)))) (Cb y_ a9_ iY!) Bg),i3_,.str "put",i4_,some bw!,i5_,fC uJ_,i6_,"outline",i7_,z.length,i8_,N_<=sizeLine,i9_,f2 Ai r_ F_]
def z'j:String:=z [ja!,wl i9_,jb!,o.h=5,jc!,compareOp .In,jd!,upd H l aD_,je!,.dT h1,jf!,wl f7!,jg!,Aj 2 (Cn t) cs!,jh!,Cq.cons (j:=1) Cq.nil,ji!,λ_ _ _ _ _=>bE (i:=0) (show([bZ!,aB_]:List Str).Nodup by decide+kernel) rfl b_,jj!,l.most=some n,jk!,ns.map .int,jl!,⟨[u],[]⟩,jm!,λ_ _ _=>False,jn!,Array DictEntry,jo!,Cq.cons (j:=2) Cq.nil,jp!,[.non,.non],jq!,ForInStep.yield r,jr!,KM gE!,js!,flt b J,jt!,aC D_ gG!,ju!,"_law_at",jv!,f2 Ax aL_ r_,jw!,"_law_row",jx!,Ab y_ gi_,jy!,Al 5 (w2 Bs bc_ c1!),jz!,Hs.m cB,jA!,.str i,jB!,λ_ h=>.inl h,jC!,Ch G H G' H',jD!,∀j∈ix,j∉own,jE!,fb ρ,jF!,f2 g fa fb,jG!,f2 Dk co_ N!,jH!,⟨x,rfl,?_⟩,jI!,DA X own es fs,jJ!,pT h.ok,jK!,Eu X.K fd ps [],jL!,lK (lZ T) a_ rfl,jM!,bH T.V5 T.W5 j!,jN!,k.length,jO!,.type "NoneType",jP!,Hr t M r f p xs,jQ!,List Bool,jR!,v.reverse,jS!,Ch.refl s2,jT!,bnd d ρ,jU!,(br_).map c_,jV!,λa b hm=>?_,jW!,λx hx y hy=>?_,jX!,Am KF G ds vs,jY!,if x=n then[]else W.txt x,jZ!,KS.mp Y,j0!,[(Str.ofString "following",D.fn f),(Str.ofString "preceding",D.fn p)],j1!,.row x b,j2!,ad j1_,j3!,[.Subscript bf_ ix p2],j4!,⟨B8,B9,C2,C3,C4,C5,C6,C7,C8,C9,D1,D2,zk,zl⟩,j5!,.fn o8_,j6!,Ej pc! pc_,j7!,∀(us us':k_),Az vs us->Az ws us'->∀(j:Nat) u u',us[j]?=some u->us'[j]?=some u'->SeqAt.EqAt A.in1 s u u' j6!,j8!,λj=>Ej pc! pc_,j9!,lU ds es hl]
def z'jj:String:=z [ja_,(show false=true from fx),jb_,[J_,some jp_],jc_,.ref l,jd_,"fresh",je_,⟨e,?_⟩,jf_,wl aL_,jg_,JY fin,jh_,backTo ah vA!,ji_,λ_ _ _ _ _=>dL!,jj_,aN aH aL aF! aD k!,jk_,List.Pairwise.nil,jl_,λv _=>v=.bl true,jm_,eZ B!,jn_,aN aH aL aV! aD k!,jo_,.str "",jp_,.int 5,jq_,KA _ hp,jr_,names.map λ(n,k)=>if n7! then(n,NameKind.cell)else eU_,js_,Ac F_ (Ac F_ (Ac F_ Ae)),jt_,"_law_many",ju_,f2 Dq C_ u_,jv_,fT jv!,jw_,wl (fC (.tup [iG!,iH!])),jx_,d9 _ (rn p hp),jy_,∀a vs,Fz KF H a vs->Fz KF H' a vs,jz_,f2 Ai r_ aC!,jA_,upd H p cy_,jB_,λb u e=>?_,jC_,Cq.cons (j:=0) Cq.nil,jD_,jT hN hv hd bq,jE_,(∀v G' H',Ch G H G' H'->Aq KF G' d v->Q v H'),jF_,aB aq_,jG_,bE (i:=2) nd rfl b_,jH_,⟨G1,ρ,d,c6_,e,xx_⟩,jI_,aB jn_,jJ_,DA X own aA_ fs,jK_,cC sub qa,jL_,Ch.laid sub hp,jM_,bH T.V4 T.W8 j!,jN_,.builtin "isinstance",jO_,.Name x p2,jP_,.fn r,jQ_,bs.map Value.bool,jR_,λx gu hy=>?_,jS_,starEach (a::[]) X.env=dv_::starEach [] X.env,jT_,W.rows.map c_,jU_,λx=>?_,jV_,er.grow x,jW_,bU I_ bF D_ aE_ k!,jX_,λj hj=>?_,jY_,some gN_,jZ_,eval bf_ X.env,j0_,(by kernel_rfl),j1_,.nm x,j2_,V.ls x b,j3_,∀q,Js V q->a9 q=ad q,j4_,Fz X.K H a vs,j5_,(by simpa using h),j6_,us.toArray.size,j7_,av.length,j8_,oV rd re rv av (h us us' rv av),j9_,lQ ds es hl]
def z'k:String:=z [ka!,⟨.bl _,H,I,rfl,q⟩,kb!,cC sub q,kc!,(hO b).mpr z,kd!,ys.map (·.length),ke!,w.nm i hi,kf!,⟨_,dv!,rfl⟩,kg!,(po_).map λk=>.tup kf_,kh!,IsZip s.heap z TI TO .none,ki!,IsPair s.heap TO p q,kj!,s.heap.IsTupleIter i2 l2 k2,kk!,(U++g8_::v),kl!,.ref z,km!,.inr an_,kn!,[aP!,aO!,zM_],ko!,α->Prop,kp!,λc o e=>?_,kq!,(by rw[hd];simp),kr!,A.deeper (envOfC x bb! s.heap.objs.size ae ag),ks!,nH l c k,kt!,(hO c).mpr z,ku!,plc es df_,kv!,xs.map D.str,kw!,.str "move",kx!,.str "set",ky!,.lst ops,kz!,[.int 9,.int 9],kA!,(by simpa using hl),kB!,Fp st,kC!,Bc G G',kD!,.int base,kE!,dE a es ep,kF!,Ki KF G fs vs,kG!,.refl st.or.sub,kH!,st.grow x1 m1,kI!,MT X own c ft,kJ!,bK ue,kK!,Cu X.K G x v,kL!,dictGet a u>>=_,kM!,sgn h m,kN!,.int v,kO!,λx hx q hq=>?_,kP!,λw hw=>oK I r1 rx n1 r2 r n2 (by have:=iE X.A;omega) w nq!,kQ!,pH I r2 r n2,kR!,.ext x2,kS!,[hp!,.int o.n,kR_,o.d],kT!,ho.run I st e λd M1 v G1 H1 u s1 r1 x1 m1 q1 I1 rx=>?_,kU!,(∀b,b≠p->M' b=M b),kV!,Na .str a0! [],kW!,KN (LQ h.1),kX!,(∀b,M b≠none->M' b=M b),kY!,Gd own Z H,kZ!,[root,binn],k0!,[.Subscript o i p2],k1!,(by show 4<100;decide),k2!,Dr C m M d,k3!,(by rw[hp.length_eq];omega),k4!,kget h1 y,k5!,⟨rfl,hg _ hK⟩,k6!,Sw ft ρ M false,k7!,KB (JY (UV ho hd ?_)),k8!,[Y!,qC_,J_,some qD_],k9!,(u++o::v)]
def z'kk:String:=z [ka_,mup_ne h2,kb_,.ref ad,kc_,(by show 3<=1000;decide),kd_,[g4_,g5_,.int z],ke_,LV gU_ a!,kf_,[g4_,g5_,.int (z+(k:Nat))],kg_,ZipApart z TI TO i1 i2 l1 l2,kh_,IsPair s.heap TI (.ref i1) (.ref i2),ki_,s.heap.IsTupleIter i1 l1 k1,kj_,(∀c ob,c≠z->c≠TO->c≠i1->c≠i2->s.heap.get? c=some ob->h'.get? c=some ob),kk_,setT W i kk!,kl_,JY (VB ?_),km_,LC _ rfl,kn_,ar_<=16,ko_,λc hc=>?_,kp_,wl f1,kq_,Kj xs ys,kr_,LB.mp z,ks_,Jr e5_,kt_,Nv P w h es ks,ku_,cs.map λ_=>.bl true,kv_,(·.key),kw_,.str "write",kx_,ops.length,ky_,Nv P w s.heap es.toArray ks,kz_,ys++pN!,kA_,.lst its,kB_,(ar_:Int),kC_,cs.map Oj,kD_,some jc,kE_,XM M G H M' G' H',kF_,Bool->Mh->Prop,kG_,w2 gm fa fb,kH_,⟨G1,ρ,M1,R,kH!,r1,pZ!⟩,kI_,b2q (pA rfl (OK _)),kJ_,⟨⟨o,q o z1,z2,z3⟩,z4⟩,kK_,upd H a (dE a az Bb_),kL_,a0z (A:=A.in1) hu I m sub e r hk λo s' I' ho=>?_,kM_,.tup [kx!,a,.int p,.int v],kN_,upd H a (dE a az cb!),kO_,!Ej d d',kP_,(show its.toArray.any fr_=its.any fr_ by simp),kQ_,k==k',kR_,.int o.tm,kS_,(p,h1,ep),kT_,⟨t1,t2,?_⟩,kU_,s.heap.push {cls:=.type "dict",data:=.dict #[]},kV_,wl fb,kW_,some o.nm,kX_,fo ρ=some x_,kY_,s.root J,kZ_,⟨G',ρ,M',R,sr.grow x m,r,k1,k2⟩,k0_,(by cases h),k1_,hp x KD,k2_,hp.map _,k3_,Pu fo ρ M x_,k4_,Pu f1 ρ M a,k5_,Bo N ps.length q,k6_,.bl c,k7_,some hw!,k8_,some (.lst CL!),k9_,its.map λi=>(i,g i)]
def z'l:String:=z [la!,(cE_).map Cr,lb!,some cf_,lc!,Be rs[k],ld!,λK hK=>?_,le!,.lst ((Dh_).map Be),lf!,KM (by simp[big];omega),lg!,W.rows.filter λq=>decide hD_,lh!,decide hD_,li!,Aa 2 ρ,lj!,setPending σ ((Dv_).push li_),lk!,aQ hx,ll!,W.its.length,lm!,Value.int a t,ln!,λz hz=>?_,lo!,some hi!,lp!,W.its.map λi=>(i,D.fn (qa i)),lq!,LB.mp J,lr!,(hF_).zip ds,ls!,hk q a7,lt!,(s.heap.push ci!).update s.heap.objs.size (Obj.mapSeq (·++cx!)),lu!,[.ref l],lv!,acc.toList,lw!,(by rw[<-z];exact hc),lx!,kf2 q.2,ly!,.inr x,lz!,(nomatch e),lA!,⟨_,rfl,r⟩,lB!,List (Addr×D),lC!,cs.map R!,lD!,H b=none,lE!,sJ F S λag A outer s H E hr=>J hr S.nd,lF!,W.instObj C dx,lG!,Em P w H h a o,lH!,FC (H x),lI!,∃u,h'.get? e=some u,lJ!,upd H x o,lK!,ρ[i]?=some os!,lL!,FN h H,lM!,X.env.scope.kind,lN!,p.2.data,lO!,I.ok.stk,lP!,LJ cO_ I.ok.above,lQ!,.lst au!,lR!,λx c e=>?_,lS!,I.base.free b o e n hx,lT!,some (.lst [bg_,bg_,bg_]),lU!,(by rw[LL];rfl),lV!,BB base P w,lW!,λ_ _ e=>e,lX!,⟨#[],by rw[e];simp⟩,lY!,I.hok b u e,lZ!,.int yy,l0!,D.int.inj z,l1!,∀b,M b≠none->M' b=M b,l2!,hA.cl h hh,l3!,⟨u',r',?_⟩,l4!,some (.inl ia_),l5!,aQ (tM o),l6!,aQ (f:=Aa 0) rfl,l7!,PW X e t,l8!,SP X hb D,l9!,("__debug__":Str)]
def z'll:String:=z [la_,ms.length,lb_,.int (az!:Nat),lc_,.Constant (.str s0) n0 p0,ld_,Array Keyed,le_,(by simpa using nz),lf_,aW!∈W.rows,lg_,mirror_perm _ _ _ _,lh_,fx ρ=some x,li_,(0,a0.size,0),lj_,(af!).map Cr,lk_,KA _ hz,ll_,.lst qW_,lm_,some nm,ln_,some (Cr q),lo_,(by rw[KH,MY];omega),lp_,(a,seqObj "list" #[] e1),lq_,ku.toArray.zip cx!,lr_,hk p hp,ls_,.builtin "sorted",lt_,seqObj "list" us.toArray 0,lu_,(by rw[he];rfl),lv_,kf2 d,lw_,.inl i,lx_,(Sum.inl a:Key),ly_,(Sum.inr a:Key),lz_,(by simpa using Y),lA_,[none,none],lB_,cs.map λc=>.fn c.1,lC_,List Key×V,lD_,List Key×Addr×Value,lE_,Addr×D->Prop,lF_,fs.map c_,lG_,[.lst jk!],lH_,e=x\/H e=some hN_,lI_,rawInt L,lJ_,aY (hm b _ q λz=>z),lK_,hx b z,lL_,noteFrame X_ env,lM_,MV he hd Y ?_,lN_,X.N.length,lO_,AllBare g',lP_,I.freeC x c e,lQ_,λb o e hx=>?_,lR_,Xq n h e cls L ar,lS_,⟨o,ho⟩,lT_,b3i em ed nd z rfl rfl rfl rfl rfl rfl rfl J,lU_,Kp ar (frA X.stack) s.heap h',lV_,λ_ _ _ _ n=>n,lW_,λ_ _ _ e=>e,lX_,λm hm=>?_,lY_,Str.ofString "outline",lZ_,.fn ta,l0_,hA.mem h,l1_,hP_=none,l2_,.int rT_,l3_,LP (LQ hj),l4_,.inl hk,l5_,hA.nob hM1,l6_,Inv X hb Z H' s',l7_,starEach es X.env,l8_,eval a X.env,l9_,cR (f:=fC .non) (d:=.non) rfl]
def z'm:String:=z [ma!,CL X xC en xn C0 L ie ix,mb!,swapsWith he (some (.Name xn xp)) ap.line X.env=pure false,mc!,.bool b,md!,(by simpa using hp),me!,ac.set ie jY_,mf!,truthy v,mg!,.BoolOp .And [a] pos,mh!,.BoolOp op [a] pos,mi!,.IfExp c a b pos,mj!,LB.mp y,mk!,[u!,J_,none],ml!,⟨ac,H',I.unwish,q⟩,mm!,swapsWith e none pos.line X.env=pure false,mn!,some ir_,mo!,(by simpa using hl),mp!,[.Name en p2,if_],mq!,assignEach es X.env,mr!,setItem ov iv v,ms!,PG X tg g,mt!,Ag->Prop,mu!,wl t1_,mv!,(∀b∈fp,Fu X hb H b),mw!,(by simpa using b1),mx!,hH.names,mz!,λb J=>(fZ!).1,mA!,λb o J e=>kk b o fZ_ e,mB!,∀o∈ms,o.h≠yy,mC!,KJ _ ho,mD!,s.heap.push {cls:=.type "range",data:=.fields #[.int lo t,.int hi u,.int 1 v]},mE!,[cm!,ex!],mF!,ha pos hb s Z H _ I h,mG!,kl.flatMap (hs S),mH!,.lst s5_,mI!,Pg (Na .str f1_ []) f1_,mJ!,s.heap.IsListIter it l i,mK!,Gk X (binaryOp op) r,mL!,⟨h₁,g,d,tk,os⟩,mM!,Uh W0 mI! W,mN!,f2 ρ=some c,mO!,LQ hne,mP!,rI (λ_ j=>0<j) λi j=>.int (i%j),mQ!,rI CQ λi j=>.int mP_,mR!,chl W.rows x,mS!,decide (i<j),mT!,compareOp .LtE,mU!,decide (j<i),mV!,decide (j<=i),mW!,.lst ((eA!).map mX!),mX!,(·.2.1),mY!,NH.mp hq,mZ!,its.toArray.isEmpty,m0!,Vr s.heap x dx C mA,m1!,W.plainGet_of hg,m2!,{s with toks:=s.toks+1},m3!,show Kq f v ((k,x)::r)=(if k=f then(k,v)::r else(k,x)::Kq f v r)from rfl,m4!,aQ (d:=dy!) rfl,m5!,hx x KD,m6!,[D.tup [x,p]],m7!,PE X o ta,m8!,.int 4,m9!,["parts","checks"]]
def z'mm:String:=z [ma_,⟨v,H,I,r,h⟩,mb_,λh hh=>(by cases hh),mc_,Qj X.N.length ix v,md_,S++[o],me_,h hb s Z H _ I hw,mf_,λh hh=>?_,mg_,.BoolOp .Or [a] pos,mh_,⟨bt,H1,u8 af,q⟩,mi_,if h=o.h then q else ca h,mj_,XR X.prog X.w X.K M0 G0 F0 E,mk_,gX rfl,ml_,hR M' bh bi d7,mm_,.Expr e pos,mn_,.Return ie_ pos,mo_,Hp->Prop,mp_,(o.nm,o.v),mq_,[u!,O!,ac_,J_,kW_,y5],mr_,toString i,ms_,.lst du_,mt_,Int->Int->Int,mu_,I.pin p hp,mv_,Int×Tok,mw_,h.ch y.h,mx_,this.2.1,my_,{s with heap:=h'},mz_,⟨rfl,I.turned (t':=s.toks) (λb o J e=>eb b o J e) f0 f1 f3 f4 f5⟩,mA_,I1.kept (t':=s1.toks) λb o e=>KC _ e,mB_,⟨ho,rfl⟩,mC_,hi - lo,mD_,(la_:Nat),mE_,.builtin "max",mF_,dF mF! ?_,mG_,PI X tg iter wi,mH_,.obj t.B5 (hF yy ta wa W!),mI_,V->Hp->VK->Prop,mJ_,s.heap.IsList l items,mK_,.BinOp a op b pos,mL_,(f do! (.int j u)),mM_,f1 ρ=some b,mN_,rI Yw λi j=>.int (i*j),mO_,rI CS λi j=>.int (i / j),mP_,i ^ j.toNat,mQ_,.type "enumerate",mR_,[de!,ay!],mS_,Sa λi j=>.bl mS!,mT_,decide (i<=j),mU_,Sa λi j=>.bl mU!,mV_,Sa λi j=>.bl mV!,mW_,Mo jo_ mW!=some v,mX_,ho hb s2 Z H2 x y v u _ I2 r1 r2 q2,mY_,h1.isEmpty,mZ_,⟨H,I,q⟩,m0_,⟨(apply_ite Ur _ _ _).trans av_,by split<;>exact nd⟩,m1_,W.isFn KF af_=true,m2_,h.nob bs_,m3_,"_law_sibling",m4_,["thing","limit"],m5_,.lst tN_,m6_,λ_=>none,m7_,.fn (qa q1),m8_,f1 Bj dA_,m9_,fC gc!]
def z'n:String:=z [na!,f2 Ai j_ aw!,nb!,e.frames,nc!,upd tZ! x nb_,nd!,kl.map (lt S),ne!,starEach [] X.env,nf!,.int (1+iN_),ng!,Xd S yy c.d,nh!,hB hg M1 hq.1,ni!,[ah_,ai!,aM_],nj!,Ar t.B6 "numbers" g_,nk!,"parent",nl!,Av t.B6 "has_item" 2 (Cf t) g_ aC_,nm!,Ab m_ eG_,nn!,bootBuiltins x=some eJ!,no!,.int c u,np!,ws.length,nq!,(by simpa using hw),nr!,v+(n:Int),ns!,Et W g,nt!,(items.toList.drop (sIx items.size 0 lo)).take uA_,nu!,.str "redo",nv!,Al 2 Gm,nw!,HT.sIx xs.length xs.length hi - HT.sIx xs.length 0 lo,nx!,c.gd W,ny!,.str "write",nz!,lE s y1 a S y4 y5 ba_ bW_ y8 eL! dF_ i4_ (some (.bl wg!)) y13 y14,nA!,V->List V->Hp->VK->Prop,nB!,.Subscript a b pos,nC!,wl (Dh Ae),nD!,w2 Bs eM_ y_,nE!,Ar t.B5 "outline" g_,nF!,sliceBounds lo hi none n,nG!,[H!,dD_],nH!,(u4!).map Op.v,nI!,"message",nJ!,a8.endLine==ah.line,nK!,acc++its,nL!,aE aU_ aK,nM!,gS T.U0 rfl,nN!,"numbers",nO!,Al 2 nN_,nP!,ks.map kV,nQ!,dY bo_,nR!,[H!,"above",iS_],nS!,eV (n:=9) rfl,nT!,d.params.defaults=[],nU!,.call eS! nT_,nV!,λf vs=>PySem.call f vs,nW!,Ah k callerA,nX!,λ_ _ _ _ _=>bE (i:=0) (show(bY_:List Str).Nodup by decide+kernel) rfl b_,nY!,CZ X.K C,nZ!,Ac aL_ (Ac f7! Ae),n0!,"_law_found",n1!,"_law_letters",n2!,[n1_,cv_],n3!,Ac (f1 Bh (Ac j_ (Ac vH_ Ae))) Ae,n4!,Option.none,n5!,aY (ne b _ e),n6!,aY (by simpa using hc),n7!,k==gC_&&env.scope.kind==.function&&env.kindOf n==some .cell,n8!,Inv X hb Z H2 s2,n9!,"_law_other"]
def z'nn:String:=z [na_,Qt P w KF mg base A outer s H,nb_,.ins C dx [],nc_,iD I hg hm ?_ ax,nd_,backTo pos ne!,ne_,Mk X.K C f,nf_,[h5!,nf!],ng_,f2 Ev r_ A_,nh_,Ar t.B6 "parents" g_,ni_,Ab m_ gi_,nj_,Ab aN! Ad,nk_,Kb CX P w KF mg base N qual scope f ag A outer s H E,nl_,[ah_,aM_,nk!],nm_,Io X eJ! r,nn_,bootBuiltins x=some dE!,no_,Al 8 (wl (f2 An r_ (As iU!))),np_,vs++ws,nq_,SQ _ _,nr_,[ah_,aM_,"place","number"],ns_,(i:Int)+(m:Int)*1,nt_,[Xd S 5 c.d],nu_,f1 Dl a7!,nv_,.Slice lo hi none p2,nw_,.str "move",nx_,λb ob q=>KC _ q,ny_,fC ny!,nz_,[i6_,ai!,"deed"],nA_,f2 Ai C_ aw!,nB_,[ah_,"ours"],nC_,[ah_,dD_],nD_,Kt eM_,nE_,Aj 1 (Fa t) aU!,nF_,some b,nG_,.tup [v_,cp!],nH_,Ar t.B5 "ours" g_,nI_,Fx 1 [] (Ek r_) B_ aS_ vc_,nJ_,λx1 x2=>x1++x2,nK_,gR (uY (xQ vh_ (qO (bJ wO wQ gu_ aD n!)))) eP_ dN,nL_,n<=sizeLine,nM_,Ip (Ek r_),nN_,Aj 1 (Cc t) aU!,nO_,vE rfl,nP_,aB (lS aK),nQ_,λ_ _ _ _ _=>mP (eH vA_),nR_,[H!,aM_,"above"],nS_,[H!,aM_,"above",iS_],nT_,⟨a8!,[]⟩,nU_,λr s'=>r=.ok (.ret eR_)/\OldK ai.heap s'.heap/\s'.os=ai.os/\AllBare s'.gens,nV_,.bool true,nW_,eV (n:=8) rfl,nX_,aN aH aL aU_ aD k!,nY_,f2 Ax iZ! eL_,nZ_,As nZ!,n0_,f2 An u_ (f2 Bv j_ r_),n1_,"_law_rows",n2_,Array AJ_,n3_,W.fnOf x qual kB! bp_ bb! .none kV bo pm an ag ct,n4_,aE bc! aK,n5_,λm hm=>hm,n6_,λ_ _ _ q=>q,n7_,AL X scope cl,n8_,∀b∈fp,Fu X hb H2 b,n9_,Ov NL.length ix Z]
def z'o:String:=z [oa!,.inl z,ob!,aC bG! aM,oc!,Cv (Aj 1 Dw aU!),od!,Cv (w2 Bs g_ gH_),oe!,Cq.cons (j:=3) Cq.nil,of!,Db (fT ng_),og!,.str "texts",oh!,Al 2 (wl oh_),oi!,Al 3 (wl (As wF_)),oj!,.str "numbers",ok!,w2 Bs g_ oj_,ol!,Bq (Aj 4 Iw (Ab g_ uM!)),om!,L2.Key×V,on!,aV (i:=2) nd rfl b_ fJ,oo!,aV (i:=4) nd rfl b_ (aB (dJ aF! eA cu!)),op!,bH T.V3 T.X2 j!,oq!,Bi 1 [2] (Ip (Ew bm_)) B_ dF! (wl (f2 An (Ey jz_ Ay cX!) (As (Ac (f2 An (f2 Ai jz_ aC!) j_) Ae)))),or!,V.ref p,os!,some b3_,ot!,λi d q _=>?_,ou!,hw Z G H Q ρ d er e k,ov!,aE aD aK,ow!,fC bR!,ox!,mK jm_,oy!,b6m (nJ (i:=1) nd rfl b_ aK),oz!,⟨G,ρ,.bl x,er,kD e1,xy!⟩,oA!,f1 g fs,oB!,vs++[],oC!,(by rw[KH,KH];omega),oD!,Aj 2 (Ll t) jx!,oE!,t.HandsError,oF!,Option Int,oI!,sub.seq q,oJ!,KR.mp hx,oK!,bU I_ bF oF_ p_ k!,oL!,bS (dG T) a_ j! aF_,oM!,Gl X "isinstance",oN!,bootBuiltins "isinstance"=some jN_,oO!,.obj t.B7 oM_,oP!,aB bZ_,oQ!,bs[i]?,oR!,List.range n,oS!,aP (eR T) a_ rfl c6!,oT!,jA.mp hq,oU!,(by rw[<-z];exact hq),oV!,x.sub.free hp,oW!,Y.ok G0 F0,oX!,.If c b1 b2 pos,oY!,(im x).mp hx,oZ!,.List es p2,o0!,if x=a then l else W.txt x,o1!,z▸hi,o2!,Str.ofString "texts",o3!,Vq->Addr,o4!,ad .wri,o5!,ad j1!,o6!,¬V.dm b x->kget k x=none,o7!,ad dV!,o8!,hL r l,o9!,⟨na ir,?_⟩]
def z'oo:String:=z [oa_,aC V_ aM,ob_,Al 3 (wl ju_),oc_,rR (nE b1_ (jX (cY bp! dP bG! bo_ rfl))),od_,bQ (sc:=Ak Rv) rfl i_,oe_,(J!,Uc us n),of_,wl (fC Z!),og_,Ab g_ um_,oh_,f2 Ai r_ aw!,oi_,w2 aT! c1! bc_,oj_,wl (fC oj!),ok_,Bq (Aj 4 Iw (Ab g_ gp_)),ol_,wT oi_,om_,aC cw_ aM,on_,Bi 1 [2,3] (Ip (Ew (f1 Bj (Ac bm_ Ae)))) B_ dF! (wl (As (Ac (f2 An A_ (As a7!)) (Ac (f2 Ai oh_ j_) (Ac (fC w_) Ae))))),oo_,aN aH aL bb_ aD k!,op_,ds.drop n,oq_,"_law_name",or_,"_law_gone",os_,w2 Bs y_ gJ_,ot_,AG nl ix ρ,ou_,if b∈Ji own Z then none else G' b,ov_,[bm!,aB_,"_law_goal"],ow_,k G' H' s',ox_,⟨G,ρ,x,er,e1,λG1 H1 s1=>?_⟩,oy_,fT fa ρ,oz_,Ac (As (Ac eL_ xC!)) (Ac (As (Ac eM! (Ac aD! xC!))) (Ac (As (Ac eM! (Ac aD! (Ac ba! (Ac bH_ Ae))))) (Ac (As (Ac i5_ iU!)) Ae))),oA_,aC p_ gG!,oB_,Al 13 (wl (fC xL!)),oC_,cC sub qb,oD_,[H!,ai!],oE_,(d3_).Nodup,oF_,bH T.V4 T.W6 j!,oI_,LX.mp nd,oJ_,⟨o,Y,h2⟩,oK_,[(.non,.non)],oL_,aC p_ gR!,oM_,[("following",.fn f),("preceding",.fn p)],oN_,X.mg "isinstance"=none,oO_,aB cw!,oP_,bs.all id,oQ_,lst .non u,oR_,aP (gG T) a_ rfl b4_,oS_,λv H2 hy=>?_,oT_,GD X.K g bnd,oU_,z▸KW (f:=c_) hq,oV_,z▸hj,oW_,swapsWith e (some c9!) pos.line X.env=pure false,oX_,ρ.set i os!,oY_,(oY!).resolve_right q,oZ_,setT W a l,o0_,("texts",.fn a3),o1_,Str.ofString "rows",o2_,Str.ofString "numbers",o3_,.inl ⟨rfl,vs,Fm.of h3⟩,o4_,h5.mono x.g,o5_,V.dm b x->kget k x=some (.fn o5!),o6_,Ec ds.length j,o7_,ad dV_,o8_,ad .ob,o9_,A.deeper (envOfC qual bb! s.heap.objs.size ae ag)]
def z'p:String:=z [pa!,Kb Pj P w KF mg base N qual bb! ae ag A outer s H E,pb!,∀{a1 a2 a3 a4 a5 a6:Addr},(bK_).lookup m=none,pc!,ds.getD j .non,pd!,us'.toArray.size,pe!,Fm X.K H a vs,pf!,mup_ne p1,pg!,ad==sysModules,ph!,Sum.inr z,pi!,Sum.inr z,pj!,(fa_).set p.toNat f5_,pk!,A'.handled,pl!,(by show 1<=1000;decide),pm!,backTo ah (starEach [a] X.env),pn!,some b7_,po!,[g4_,g5_],pp!,h5.objs.size,pq!,cs.zipIdx k0,pr!,"StopIteration",ps!,[ab_,b8_,D!,cF_,some tx,some dh,pr_,some gq!,some bL_],pt!,FG s.heap l1 l2,pu!,.type "zip",pv!,hO.mono a!,pw!,Ab kp_ (Ab (wl f2) Ad),px!,⟨ho,rfl,k⟩,py!,aY (ne c _ e),pz!,aY (ne d _ q),pA!,λc hc=>?_,pB!,mup_ne hn,pC!,⟨_,_,rfl,rfl,dT!⟩,pD!,Er KF mg x st ps,pE!,Vj n es,pF!,W.mg_of X G a,pG!,LB.mpr rfl,pH!,Vy rows,pI!,rows.map c_,pJ!,.int a,pK!,KB (KB h),pL!,(a==k||b==k),pM!,.str "drop",pN!,[.str "bin",.tup kz!],pO!,JY (rZ hu hk λtk=>JY AF!),pP!,some (.lst c6),pQ!,letters.length,pR!,.str letters,pS!,Br h1 d x,pT!,hH.trans Y,pU!,(by rw[e];simp),pV!,D->Mh->Prop,pW!,hw Z G H Q ρ M R st e k,pX!,st.mr.ext x,pY!,[ac!,am_,as!,bh_,bM_,bN!,cI!,kD_,fn_,some T!,some sg,none],pZ!,λd M2 v G2 H2 r2 x2 m2 q2=>k d M2 v G2 H2 r2 cc! m2 q2,p0!,(fq_).set p.toNat kN!,p1!,JY (RA hT P_),p2!,Fm KF H p ys\/Fz KF H p ys,p3!,.str k',p4!,.tup (.str k::a::r),p5!,.tup (.str k::a::b::r),p6!,f3 ρ=some c,p7!,some (.inl (.inr "bin")),p8!,⟨d6,?_⟩,p9!,.dct q.2.1 q.2.2]
def z'pp:String:=z [pa_,Zo KF ps.length g,pb_,aT gA! a_ rfl (aE B! (aE (aX aO bI aD (aX iY iZ aD bb_)) aK)) ae!,pc_,es.getD j .non,pd_,us'.toArray,pe_,.inr (.inr ⟨ag_,rfl⟩),pf_,[de!,ay!,D!],pg_,bw.lookup y,ph_,Da x=some kx,pi_,h.noOb oM2,pj_,⟨l,?_⟩,pk_,λq hq y hy q' a7 e=>?_,pl_,dn++os,pm_,[a].length+(dJ!).length+eP!<30,pn_,hI.row (x:=i) (b:=false) hi,po_,List.range m.toNat,pp_,⟨_,rfl,?_⟩,pq_,(cE_).map c_,pr_,some zN_,ps_,[ab_,b8_,D!,cF_,some tx,some dh,pr_,some gq!,qu],pt_,(.tup kn!,.str aj!,true),pu_,KC _ km_,pv_,.obj C fs,pw_,(λv y=>by cases y),px_,Xg ad V,py_,V.nw x b,pz_,KM rfl,pA_,KN λz=>hx z8_,pB_,V.nn x ff_,pC_,fY.mp z,pD_,Kb Pj P w KF mg base N x bb! ae ag A outer s H E,pE_,(nH l c k).binds b,pF_,ns.map D.int,pG_,To rows,pH_,⟨c1,rfl⟩,pI_,Jx P w s.heap x u,pJ_,PM ho hd (JY (b6p hu q2 hk (JY (PM ho hd ?_)))),pK_,.tup [.str a,.str b],pL_,.int c,pM_,.str "undo",pN_,.lst (.str "root"::kz_),pO_,ab!<=sizeLine,pP_,c6.length,pQ_,⟨cs.toArray⟩,pR_,λ_=>some true,pS_,[ac!,am_,as!,bh_,bM_,bN!,cI!,kD_,fn_,some T!,none,none],pT_,h2.mono e,pU_,some (Qi bx),pV_,fC aZ!,pW_,.ext x,pX_,Mh->D->D->Option D,pY_,[.tup [bg_,.int (1+m0%5)]],pZ_,⟨o,h⟩,p0_,[aP!,aO!,C2_],p1_,⟨a',b',c',e',LD _ hm⟩,p2_,compareOp .NotIn,p3_,De Bs_ 0=_,p4_,KM (by simp only[KO];omega),p5_,.tup (.str k::a::b::c::r),p6_,Ab kp_ (Ab (wl f2) (Ab (wl f3) (Ab (wl f4) Ad))),p7_,[.str k,a],p8_,(k=="undo"||k=="redo"),p9_,q.2.length]
def z'q:String:=z [qa!,Str.ofString "undo"==Str.ofString "undo",qb!,ops.map Op.key,qc!,kget q.2.1 y,qd!,.bl (qc_).isSome,qe!,(cc!).trans x3 m2,qf!,[O!,ac_,y],qg!,.dct acc ep,qh!,I.laid (t':=s.toks) vk_ r! ⟨⟨D0,NC.mpr (LQ (LU I.big)),LY _⟩,let⟨o,h,_⟩:=D0;pZ_,Bb!⟩,qi!,mup_ne J,qj!,Value×Value,qk!,λx=>?_,ql!,Da q.1,qm!,λ_=>0,qn!,HL M0 M l,qo!,.inr (s.noF z),qp!,Y.ok M0 G0 F0,qq!,[(root,y),(binn,z)],qr!,sr.grow x m,qs!,x=root\/x=binn,qt!,Ja P w KF own M0 G0 F0 M1 G1 H1 Z ρ,qu!,(by show 2<=1000;decide),qv!,os.map Op.nm,qw!,some x.v,qx!,some x.v,qy!,λy hy=>hp y dN!,qz!,Ny s.heap d es ep,qA!,rawInt fw_,qB!,.int CJ_,qC!,(aa_).map Op.v,qD!,(bP_:Nat),qE!,(λi v=>∃e,es[i]?=some e/\v=e.key),qF!,((bP_+(m+1):Nat):Int),qG!,(by simpa using qg),qH!,(Str.ofString "undo"==k||Str.ofString "redo"==k),qI!,D.str.inj z,qJ!,.bool CY_,qK!,HT.lexLt ms ns,qL!,rs.take k,qM!,An hw! a7_=_,qN!,m1.ext xj,qO!,[some hA!,D!],qP!,((az!:Nat):Int),qQ!,.lst [Be bJ_],qR!,∀k σ,SB kd a0 σ->1<=k->k<=n->Up r w! k->Q qQ_ σ,qS!,.lst [p],qT!,J.mp rfl,qU!,Aa 2 ρ=some fs!,qV!,(qa i,Es.lst (if i=a then(fq_).set p.toNat kN! else W.num i)),qW!,ll!<5000,qX!,((n:Nat):Int),qY!,.int cf_,qZ!,[G!,Y!,DJ!,lm_,y4,some ll_,hB_,k7_,none,none],q0!,(qZ_).map kf,q1!,Ah k X.A.in1.in1,q2!,λd q=>Me d=some q,q3!,ni i hi,q4!,∀H':Hp,H' a=none->Fu X hb H' a,q5!,Paired dm_ ds us,q6!,(by rw[NV];omega),q7!,Ii g q.2,q8!,same.its,q9!,a0m hL dv0 mS bn]
def z'qq:String:=z [qa_,Str.ofString "redo"==Str.ofString "redo",qb_,.lst d6_,qc_,Hd o.d,qd_,(BI_).bind λx=>Ai x I!,qe_,λk=>.bl hp_,qf_,(∀o∈os,DG o.d),qg_,⟨_,dv!,Aq_,rfl⟩,qh_,⟨[],bY,.nil,NU⟩,qi_,h2 b J,qj_,[d9!,ac_,none],qk_,kget wd o.nm,ql_,Na .str a0! [],qm_,Addr×Es,qn_,mup M b c,qo_,MS X own be st q1,qp_,sr.st.mr,qq_,Al i f,qr_,Ko M3 d y v,qs_,(∀b,M b≠none->M' b=M b/\¬O b),qt_,⟨Ce_,NU,Ce_,iv_⟩,qu_,MI X own tg iter fi,qv_,Pg wd os,qw_,λy hy=>hd y dN!,qx_,Yx P w KF ps.length g,qy_,.obj C [],qz_,M p=some M!,qA_,((j:Nat):Int),qB_,[Y!,CI_,J_,some qB!],qC_,some (.lst qC!),qD_,.int qD!,qE_,((bP_+m:Nat):Int),qF_,[Y!,k8_,J_,z],qG_,(q.2:Nat),qH_,jo b J,qI_,k3 (.lst hz!) fx_ fy!,qJ_,KA _ hz_,qK_,az!<5000,qL_,.int C6_,qM_,Bi 1 [1] _ _ _ _,qN_,⟨by simp[big];omega,?_⟩,qO_,Keyed->Int,qP_,.lst ((ec_).take a),qQ_,some k,qR_,!decide (x=i),qS_,λ_ K hK=>?_,qT_,cM! / 2,qU_,some (.inl (.inr "numbers")),qV_,.lst lj_,qW_,l.map Cr,qX_,Int×Int,qY_,List hE!,qZ_,L.map R!,q0_,hb++[ei!],q1_,ku.length,q2_,aQ (d:=hF!) rfl,q3_,Jj W al_ W.rows,q4_,seqObj "list" #[] e1,q5_,Jc fF! ds,q6_,List (Keyed×D),q7_,TU ?_ b9!,q8_,(ch_).push ci!,q9_,fa ρ=some y]
def z'r:String:=z [ra!,[O!,G!,ac_,qw!],rb!,ds.all λd=>(Me d).isSome,rc!,Jc kf2 ds,rd!,Jd fH! (Lh h3 p.1.1)<Jd fH! (Lh h3 q.1.1),re!,mixKind prog w,rf!,(show Em X.prog X.w H s.heap d dk_ from I.hok d _ e2),rh!,.tup (p.1.map kV),ri!,W.fnOf "__init__" qual kB! bp_ bb! .none kV bo pm an ag ct,rj!,[u!,O!,G!,y],rk!,W.methodObj af_ (.ref y),rl!,∀b u,b≠e->h.get? b=some u->h'.get? b=some u,rm!,Kp ar fr Y h2,rn!,a.old x o l m e,ro!,Un fs ex H H1 h Y,rp!,∀h' T,h_<=T->XF n h' e T cls lI_->Kp [e] fO! s.heap h'->h'.FunFrames base bj_->Q () {s with heap:=h'},rq!,if h=a then t a+1+m / 3%3 else t h,rr!,Obj.mapFields rq_,rs!,(Y.push ob).update e rr!,rt!,(by simp[hsz]),ru!,.int (c+1),rv!,t+1+m / 3%3,rw!,ts.set k rv_,rx!,X.env.kindOf x=some .cell\/X.env.kindOf x=some .free,ry!,KM (show(Value.ref T != Value.none)=true by simp),rz!,I.ok.noex b o e,rA!,PY (OT j8 _),rB!,bx b (λz=>by subst z;rw[ht]at eb;cases eb;exact tu _ j8),rC!,fo.elim Value.none λf=>rawInt f,rD!,T∈ar\/h_<=T,rF!,[ac!,am_,ep_,some lQ!,some (.lst [.int (c 0),.int (c 5),.int (c 15)]),some (.lst [.int (t 0),.int (t 5),.int (t 15)]),x6,x7,x8,x9],rG!,(λ_ z=>nomatch z),rH!,⟨_,az,bf,hL,r'⟩,rI!,⟨J b h,x.ge b h⟩,rJ!,.type "ValueError",rK!,∀b u,s.heap.get? b=some u->h'.get? b=some u,rL!,.type "object",rM!,fs.lookup f,rN!,Option Value,rO!,(Str.ofString "taken",.fn ta),rP!,storeName X.env x u,rQ!,λc w' hc q=>(hs.2 c ?_).trans q,rR!,λj y v' e1 e2 e3=>?_,rS!,(by simpa using I.len),rT!,Value->Hp->Prop,rU!,starEach [ex] X.env=rU_,rV!,.Raise (some (.Call vN_ [ex] [] ah)) none pos,rW!,z.sameBut hs (cne y c e),rX!,fH az_ l5_ (aQ hI!) (sH hA),rY!,o.n==eq_+1,rZ!,hs.2 b (ne b o e),r0!,(rZ!).trans e1,r1!,.type "BaseException",r2!,backTo pos l7_,r3!,ta Z H λx H1=>tb Z H1 λy H2=>R x y H2,r4!,(a,.obj t.B5 []),r5!,eval b X.env,r6!,List.replicate n none,r7!,∀a pn oe c,eZ!∈pn->oe.cls=.ref c->PE h5_ he λZ H Q=>Z[ie]?=some hb_/\∃v,hv c=some v/\Q v H,r8!,.Constant bR! j pos,r9!,[.Assign [.Name xn xp] he ap]]
def z'rr:String:=z [ra_,Hd x.d=none,rb_,ds.map kf2,rc_,(hJ_).map R!,rd_,(λq=>nomatch q),re_,(Xz λys Q H=>∀l,H l=none->Q jc_ jd!),rf_,s.cps.toList.map λ_=>.bl true,rg_,⟨u,lz_,h2⟩,rh_,∀{ae:Addr} {ag:Value} {A:Around} {outer:ao!} {s:Shared} {H:Hp} {E:XK},Ah k o9_->N.Nodup->Ut (pa!).nox [] [] bp_ q,ri_,(∀f,Nu rM! (mA f)),rj_,∀b xs,H b=some bw_->H' b=some bw_,rk_,iV [(t.B4,a)] (one ⟨_,i9,qN Y⟩) c!,rl_,upd H x o',rm_,(by simpa using c),rn_,.tbl (ps++oy),ro_,n.get? e=none,rp_,[WU,.ref L,bU_,rawInt L,bU_]++(if pl.isEmpty then List.replicate 6 ci_ else pl),rq_,(·.setIfInBounds 1 (Value.ref hO_)),rr_,fx ρ=some b8!,rs_,List.range bQ_,rt_,h.get? b=some o,ru_,cs.set k ru!,rv_,.int rv!,rw_,X.env.globals,rx_,XF n s.heap e T cls fl,ry_,Obj.mapFields (·.setIfInBounds 3 ci_),rz_,⟨o.slots,by rw[bx b (λz=>yb (z▸J))];exact eb⟩,rA_,bV rfl (bV rfl rfl b6l) rfl,rB_,bx e (LQ qm),rC_,Obj.mapFields (·.setIfInBounds 3 rC!),rD_,I.cne x c e,rF_,λi x v e1 e2 e3=>?_,rG_,[ac!,am_,ep_,none,none,none,none,none,none,none],rH_,λa b e=>?_,rI_,λb u e=>?_,rJ_,.type "BaseException",rK_,.type "Exception",rL_,Str.ofString "ours",rM_,Str.ofString "taken",rN_,Str.ofString "waiting",rO_,e1.trans e2.symm,rP_,I.hok b ob e,rQ_,⟨fP_,fP_,I.base.free,lQ_,I.base.tups,I.base.frzs,I.base.tbls⟩,rR_,λy c e=>?_,rS_,hs.2 b (LU lP!),rT_,((dr!).length:Nat),rU_,[(false,eval ex X.env)],rV_,λ_ Z H=>te Z H λ_ H1=>R U_ H1,rW_,⟨(hs.2 p.1 ne).trans e,n,ne,nf,d⟩,rX_,hs.2 b (LU (LJ cO_ (I.ok.cab x c vy hc))),rY_,(rX_).trans e1,rZ_,Bool->Hp->Prop,r0_,eL (k:=l4!) ht rfl,r1_,aQ (d:=.int 2) rfl,r2_,V->V->Hp->Prop,r3_,UU (k _ _ he) (KB (hc▸q)),r4_,∀v u s2 x y H2,Inv X hb Z H2 s2->Bn x v->Bn y u->R x y H2->wpAny d_ X.A (f v u) Q X.xe s2,r5_,λv ai=>wpAny d_ X.A r5! (λu aj=>wpAny d_ X.A (f v u) Q X.xe aj) X.xe ai,r6_,("__classdict__":Str),r7_,hF yy ta wa .non,r8_,some (.Name xC cp),r9_,BC X b1! (xT X hb D (.ExceptHandler r8_ (some en) r9! hp))]
def z's:String:=z [sa!,.Constant .none j pos,sb!,(by rw[I.ok.glob];exact I.mod.glob.keeps I.bk),sc!,bootBuiltins x=some u,sd!,Uf X a h6_,se!,op==CmpOp.In,sf!,⟨H1,I1,q⟩,sg!,hF yy ta wa out,sh!,dF (ha hb s Z H Q I h) λc s1 e=>?_,si!,(a::b::rest),sj!,dF ck_ λc s1 ⟨H1,I1,q1⟩=>?_,sk!,[(.int o.h,.fn q)],sl!,.dct (fR!++sk!) cb!,sm!,Kb lV! P w KF mg base N x bb! ae ag A outer s H E,sn!,Fm X.K H a xs,so!,I.kIn a o hk,sp!,Fz X.K H a xs,sq!,⟨Z,H,I,h⟩,sr!,(by rw[<-e];exact hl),ss!,St->Hp->Prop,st!,X.N[ie]?=some en,su!,Bt t M0 yy a ta wa out S kl ca,sv!,(en==r6_)=false,sw!,dn.map λo=>mp_,sx!,(∀b,M0 b≠none->M' b=M0 b),sy!,starEach [if_] X.env,sz!,W.subIn X.K (.ref C1) aI_=some true,sA!,eval i X.env,sB!,dF (ho hb s Z H _ I h) ?_,sC!,λb J=>(mup_ne (dU J h0)).trans fW_,sD!,toString j,sE!,[.Name x pos'],sF!,(by rw[VC];omega),sG!,[u!,ac_,bi!,kW_,some fx!],sH!,Ox X body tb,sI!,(v1::v2::es),sJ!,(by rw[z];exact J),sK!,pyIter cn!,sL!,.dct ih! e0,sM!,["enumerate","zip","dict_itemiterator","dict_reverseitemiterator","odict_iterator","itertools.zip_longest","itertools.pairwise"],sN!,mup M q cK!,sO!,Around.under_plainId PJ,sP!,(by simpa using t3),sQ!,ui.mem_iff.mp ho,sR!,(toString "max"++toString ".loop":String),sS!,RL jq λ_=>#[.int x t,.int x t],sT!,⟨o,(LS _ _ yf).trans e1,e2⟩,sU!,List.mem_of_getLast? e,sV!,hA.keep fr,sW!,(Str.ofString "default",v),sX!,[u!,in!,some I!,none],sY!,.Name "range" p,sZ!,dv.map λv=>sW!,s0!,starEach ag_ X.env=[dv_,iq!],s1!,.Call sY! ag_ [] pos,s2!,(by rw[e];rfl),s3!,ks.map D.int,s4!,[u!,k8_,h3_],s5!,.For tg iter body [] pos,s6!,λb J=>(dw!).1,s7!,(by rw[hp.length_eq];exact hS),s8!,step x H5 y5,s9!,I7.pin ex_ s8_]
def z'ss:String:=z [sa_,eval cR_ X.env,sb_,X.mg x=some u,sc_,(by rw[hp];simp),sd_,Xi X.K C m f,se_,op==CmpOp.NotIn,sf_,.lst ((dr_).map Op.v++d6!),sg_,mup_ne (LQ at_),sh_,mup_ne (LQ aw),si_,⟨I2.kIn,?_⟩,sj_,⟨H1,I1,q1⟩,sk_,.Try body [.ExceptHandler r8_ (some en) r9! hp] [] [] tp,sl_,h hb s Z H Q I hw,sm_,dF (hc hb s Z H _ I h) λd s1 ⟨H1,I1,q1⟩=>?_,sn_,g h' ow z',so_,(by simpa using hs),sp_,PE X e (BL X.prog X.w X.K M0 G0 F0 own f),sq_,.Return none pos,sr_,λ_=>hz.1 rfl,ss_,(λ_ s'=>∃ac H',Inv X hb ac H' s'/\Q ac H'),st_,X.mg xC=some (.ref C1),su_,(∀b,M0 b≠none->M b=M0 b),sv_,(en==l9!)=false,sw_,starEach mp! X.env=(false,eval (.Name en p2) X.env)::starEach [if_] X.env,sx_,starEach [if_] X.env=(false,eval (.Name xC p3) X.env)::starEach [] X.env,sy_,.Name "isinstance" p1,sz_,.Subscript o i pos,sA_,some (.inr [.inl o.h,.inl o.n]),sB_,[u!,O!,ac_,J_,kW_,J_],sC_,PyData.tuple mE!,sD_,∀o∈ms,Nx yy S o,sE_,FJ X own n es g,sF_,(by rw[VC];omega),sG_,.While c body [] pos,sI_,λx hx=>hk x ca_,sJ_,letOwnedTupleGo tg cn! u,sK_,FY X hb Z tg R,sL_,∀M',kX!->R .non M',sM_,(∀b o,b≠I->b≠S->h.get? b=some o->h'.get? b=some o),sN_,.builtin "max.loop" ⟨[.ref I,bU_,.ref S],kw⟩,sO_,OJ hS rfl ?_,sP_,(by simpa using hu),sQ_,λb o J e=>(sb.2 b J).trans e,sR_,ys.map λ_=>true,sS_,⟨o,(LS _ _ t3).trans e1,e2⟩,sT_,hl hb s Z H _ I h,sU_,(by simp[Xm];omega),sV_,(((mC_).toNat:Nat):Int),sW_,(∀b o,s.heap.get? b=some o->h'.get? b=some o),sX_,starEach [a] X.env=[dv_],sY_,.Call sY! [a] [] pos,sZ_,(l.filter λx=>p x||q x),s0_,starEach [b] X.env=[iq!],s1_,.int (AZ l),s2_,.int (Xm 0 none xs),s3_,(λz=>by cases z),s4_,⟨by simp only[KQ];unfold big;omega,?_⟩,s5_,(f1_).map Op.v,s6_,([]++kl.flatMap (hs S)).map Op.v,s7_,T.obj _ _ mj,s8_,KJ _ (KJ _ (iN J e)),s9_,aQ (d:=.non) rfl]
def z't:String:=z [ta!,Int->Int->Prop,tb!,(∀b o,b≠e->b≠it->s.heap.get? b=some o->h'.get? b=some o),tc!,items[i]?=some x,td!,mup M1 a mH_,te!,.int bl! s.toks,tf!,⟨.int bl!,H,a3_,K!,q⟩,tg!,intBits_le_64 Y h2,th!,Sa λi j=>.int (i - j),ti!,(by simp[e1]),tj!,⟨_,hx,rfl⟩,tk!,[some q.1,de!],tl!,kget k6 q.1,tm!,compareOp .IsNot,tn!,DB X hb H s.heap e it i,to!,(by rw[show(((i+1:Nat):Nat):Int)=(i:Int)+1 by omega];exact a),tp!,Xo r r' ta tb tc,tq!,F.args_enumerate_next_1 _,tr!,∀b∈bv!,Fu X hb H b,ts!,⟨H,a3_,q⟩,tt!,(xs.take Z_).zipIdx.map λq=>f4_,tu!,Am X.K G xs vs,tv!,mup M c cU_,tw!,(λxs H Q=>∃i,xs=[cm!]/\Q (.int iz_) H),tx!,.builtin "ord",ty!,(λxs H Q=>∃x,xs=[.str x]/\cV!=1/\Q tx_ H),tz!,congrArg (Wd.mk _ _ _) (b7y g nd),tA!,mup M c (.dct tt! Z_),tB!,⟨((a9g nd).1 c g).trans av_,g.nd nd⟩,tC!,W.hasDictIn KF C=true,tD!,mup M p cU_,tE!,HR t M yy a ta wa S kl ca,tF!,mup M1 p cU_,tG!,[.Call tF_ [a] [] ua],tH!,W.findIn KF U_ "__init__"=some eA_,tI!,.lst (List.replicate n.toNat vs).flatten,tJ!,"_law_items_here",tK!,(show∃t,u=Value.int i t from r),tL!,fC (.int 60),tM!,λz hz=>hx z lk_,tN!,(by rw[e];exact iF_),tO!,if g=f then some u else mA g,tP!,wi.nm x hx,tQ!,λb u q=>KC _ q,tR!,eval e env,tS!,keywordEach [] X.env,tT!,.Call (.Attribute e m a8) args [] pos,tU!,[dz_,.fn t.B0,.fn t.B1],tV!,.lst W.its,tW!,.Tuple es x1 pos,tX!,I1.laid (t':=s1.toks) (λb u e=>KC _ e) r! ?_,tY!,λb z=>absurd z c!,tZ!,upd H1 dx hN_,t0!,l.map λh=>D.int (f h),t1!,Ot (Eg bB! bB! Mz),t2!,dF mF! λus s1 ⟨vs,H1,I1,r,q⟩=>⟨I1.kIn,?_⟩,t3!,starEach aA_ X.env,t4!,wT (Av t.B7 "holds" 2 (Fb t) g_ eG_),t5!,.cons rfl .nil,t6!,I.hok.fresh (OL _),t7!,Al 2 (Ta eH! m_),t8!,.Call (.Name x p) [] [] pos,t9!,(∀v,(x,v)∉binds)]
def z'tt:String:=z [ta_,Int->Int->V,tb_,c8x ha J I h λv u s2 x y H2 I2 rx ry q=>ho hb s2 Z H2 x y v u Q I2 rx ry q,tc_,field X_ 2>>=_,td_,MV he rfl (x:=.ref it) rfl ?_,te_,fB az_ hob hF4,tf_,Int->Int->Bool,tg_,hH.op o ho,th_,binaryOp .Mult,ti_,compareOp .NotEq,tj_,compareOp .Gt,tk_,compareOp .Is,tl_,λx y H Q=>y=.non/\Q (.bl (decide (x=.non))) H,tm_,λx y H Q=>y=.non/\Q (.bl (!decide (x=.non))) H,tn_,λx y H Q=>r x y H Q\/r' x y H Q,to_,⟨_,he,rfl⟩,tp_,hc hb s3 Z H3 _ I3 q3,tq_,⟨_,_,_,he⟩,tr_,⟨_,he,gK!⟩,ts_,⟨H,a3_,by rw[uQ r];exact q⟩,tt_,(show False from e),tu_,.str (i++j),tv_,.builtin "abs",tw_,i∈W.its/\Et W p/\¬Wn W.rows i p,tx_,.int (x.cps.getD 0 0:Nat),ty_,.builtin "len",tz_,⟨.int i!,H,a3_,⟨_,by simp only[KH];rw[ao]⟩,q⟩,tA_,upd H c (dE c az Z_),tB_,W.plainGet KF C name=true,tC_,.type "dict",tD_,some (.builtin "object.__setattr__"),tE_,cV_<=sizeLine,tF_,.Name "enumerate" p2,tG_,W.makesIn KF C=true,tH_,sN h hk hx,tI_,dR aB! by_ tH_,tJ_,[a5_,"_law_made",bT!,aK_,aL!,tJ!,aB_,"_law_goal",m3_,"_law_way",bl_,bm!,"_law_good","_law_due","_law_operation"],tK_,(show∃t,u=Value.str x t from r),tL_,(∀y',R (.nx [u!,O!,G!,y']) M),tM_,.ins C dx (Kq f y fs),tN_,[.tup [x,p]],tO_,f1 Ea (Ac (Ey j_ Ay cX!) Ae),tP_,(List.range 4).map λi=>D.int fC_,tQ_,f2 Bw j_ bH_,tR_,.Attribute e f pos,tS_,backTo pos (starEach args X.env),tT_,h.keep λb J=>(fW_).1,tU_,Str×Value,tV_,aQ (d:=Em!) rfl,tW_,dF (h pos hb s Z H _ I hq) λus s1 ⟨xs,H1,I1,r,z,q⟩=>⟨by rw[<-r.length];exact z,?_⟩,tX_,S.map Op.tm++[0],tY_,(.ref x::dB!),tZ_,λv H2=>v=.non/\Q fK! H2,t0_,call af_ us,t1_,f2 Ao r_ bH_,t2_,.Attribute o m a8,t3_,backTo pos t3!,t4_,Al 3 (DC t4! y_ bB!),t5_,(Value.ref aa!::eF_),t6_,⟨yy,1+iN_,1+Vh S,d⟩,t7_,fB az_ hA.ob hF1,t8_,aQ (d:=.tup nf_) rfl,t9_,Db (fT (f2 Ao A_ bH_))]
def z'u:String:=z [u0!,Addr,ua!,f3 ρ=some d,ub!,(by simpa using Y),uc!,Fq N ps scope,ud!,Kb CX P w KF mg base N qual scope f cd A outer s H E,ue!,([]:List Addr),uf!,λb z=>absurd z (rh b),ug!,Av t.B6 "has" 2 gi! g_ eG_,uh!,(by simpa using hi),ui!,Bq (Av t.B7 "put_behind" 3 (Cs t) (w2 Bs cZ_ a9_) ni_),uj!,(iR_).flatten.zipIdx.map λq=>f4_,uk!,Cb nj! m_ uj_,ul!,W.fnOf name qual params body scope dV kV bo pm an ag ct,um!,e0.bs b o e,un!,(un_).map Op.v,uo!,Ap (Hu (wT (Av t.B6 "can_move" 3 (Ct t) g_ nm!))) Os Bg,up!,dF mF! λus s1 ⟨vs,H1,I1,r1,q1⟩=>hc hb s1 Z H1 vs us Q I1 r1 q1,uq!,(hs S yy).map Op.v,ur!,Cb ur_ gl! iX!,us!,KM (by simp only[KQ,KO,OH];unfold big;omega),ut!,if v<0 then(nr!).toNat else min v.toNat n,uu!,if v<0 then max nr! 0 else min v (n:Int),uv!,((sIx n n hi:Nat):Int),uw!,w2 Bs eI! m_,ux!,Ap (wT (Av t.B7 "holds" 2 (Fb t) uw! (Ab iV! Ad))) (Cb (Ar t.B6 "hidden" g_) iV! iY!) Bg,uy!,IsPart vu hi,uz!,i∈W.its/\Et W g,uA!,Cv (Av t.B6 "signs_of" 2 (Eh t) g_ aC_),uB!,Str.ofString "__getitem__",uC!,((sIx items.size 0 lo:Nat):Int),uD!,wl (f2 Ai bm_ u_),uE!,Option Int->Hp->Prop,uF!,V->Option Int->Option Int->Hp->VK->Prop,uG!,fT (f1 Aw dG!),uH!,HT.sIx xs.length 0 lo,uI!,lE s y1 a S y4 y5 ba_ bW_ y8 eL! dF_ i4_ y12 y13 y14,uJ!,Db (fT (f2 Ax bn! eM!)),uK!,LV (rF xs lo hi) hz,uL!,Db (fT (f2 Ax bn! i5_)),uM!,Ab c1! (Ab ge_ (Ab bB! Ad)),uN!,Db (fT (f2 Ax bn! m9_)),uO!,Al 1 (Hn t.B6 1 (Hw t) Ad),uP!,wT (w2 gn! a9_ y_),uQ!,Ab m_ (Ab a9_ (Ab (wl nA_) Ad)),uR!,Ap uP! (Bq (Aj 3 (Mw t) uQ!)) Bg,uS!,(by rw[hj];simpa using ew),uT!,λr s'=>r=w/\EP X hb Z Q r s',uU!,(by rw[KH]<;>omega),uV!,.str "root"::kz_,uW!,(·.setIfInBounds j u),uX!,Ap (wT (w2 (λ_=>Bw) nE! bB!)) (Ga t.B5 "outline" g_ (Aj 1 (Jm t) (Ab nE_ Ad))) Bg,uY!,upd H p (.lst (xs.set j v)),uZ!,Av t.B5 "have" 2 gr! g_ (Ab ja! Ad),u1!,Ap (wT (w2 i2! (Av t.B5 "have" 2 gr! g_ aC_) aN!)) (At aN!) Bg,u2!,if a then 1 else 0,u3!,wT (Aj 2 (Fv t) dH_),u4!,os.filter λo=>!decide jb!,u5!,wT (w2 i2! u4_ nH_),u6!,λw hw=>uB rx fx r fs w nq!,u7!,(show its.toArray.any gs_=its.any gs_ by simp),u8!,λh' c' kp e=>fin its r' hz h' c' kp e,u9!,Al 4 (w2 Bs (w2 Bs m_ ax!) (wl aC!))]
def z'uu:String:=z [ua_,Af (Xl (Pd 1 A_)) (Al 2 (w2 Bs bB_ y_)),ub_,(by simpa using h2),uc_,cellsFrom aa! scope.names [],ud_,(show b∈ue! from z),ue_,λy hy=>?_,uf_,λhg M1 hq=>?_,ug_,x.above y c (OY h),uh_,Cb nh_ m_ a9_,ui_,Cb cZ_ m_ gf_,uj_,Vs nj_ (wl co_),uk_,Cb eI! m_ gf_,ul_,∀vs H Q E,sp vs H Q E->a5!=P!,um_,Ab y_ aC_,un_,os.filter p,uo_,iP I hg hm hv ?_ hn ax,up_,.lst ((S.map Op.tm).map D.int),uq_,Bq (Av t.B7 "put_behind" 3 (Cs t) (w2 Bs eI! y_) (Ab gl! (Ab iV! Ad))),ur_,Ar t.B6 "written" g_,us_,"operation_name",ut_,f2 An eJ_ C_,uu_,U.filter λo=>!decide (o.h=k0),uv_,Al 5 (wl (f2 An (Ey A_ Ay cX!) (As gm!))),uw_,s.heap.IsSliceOf sl vl vu .none,ux_,IsPart vl lo,uy_,w2 Bs nj! m_,uz_,List.range k,uA_,sIx items.size items.size hi - sIx items.size 0 lo,uB_,Ip (Ek nu_),uC_,uC!==0&&(1:Int)==1&&uA_==c0!,uD_,Ap (Db (fT (f1 Aw bD!))) (Cb m_ uD! (wl go!)) Bg,uE_,(((hs S 5).length:Nat):Int),uF_,∀o∈S,o.tm<=B,uG_,s3.heap.objs.size,uH_,Db (fT (f2 Ax bn! eL_)),uI_,.bl (decide nx!),uJ_,.str "drop",uK_,(r.drop uH!).take nw!,uL_,IsTup.new _ _,uM_,Db (fT (f2 Ax bn! ny_)),uN_,Db (fT (f2 Ax bn! (fC i6!))),uO_,getItem o i,uP_,call eJ! (v::us),uQ_,.lst [(Rg.put g b).d,(Rg.mov i g b).d,(Rg.mov i g .non).d,(Rg.drp i).d],uR_,⟨z,H,I,av,q⟩,uS_,Ga t.B5 "outline" g_ bB!,uT_,slot_list_getitem.lookup,uU_,⟨rfl,fin⟩,uV_,-2+((eN!).length:Int),uW_,At (wl (f1 Dl dA_)),uX_,LS _ _ gq_,uY_,f2 Ai r_ u_,uZ_,(by rw[hk];exact⟨_,I',q⟩),u0_,some (.int (m4%4)),u1_,At (w2 Bs (w2 Bs (w2 Bs eM_ m_) (wl (Xc u_))) (wl aC!)),u2_,if b then 1 else 0,u3_,[ac!,some I!,some jp_,ep_,none,none],u4_,wl (f2 Ai N! F_),u5_,Ap u3! (Al 5 (w2 Bs (w2 Bs eM_ u4_) (wl (f2 Dq (f2 Ai N! u_) u_)))) (Ap u5! Go (Al 5 (Jt y_ a9_ ax!))),u6_,f2 Ev L! C_,u7_,Ap (Db (fT u6_)) Go Bg,u8_,f2 Ai C_ F_,u9_,(by simp only[KH]<;>omega)]
def z'v:String:=z [va!,wT (w2 (λ_=>Jy) a9_ (Ib y_ gu! (Aj 2 (Ez t) (Ab g_ (Ab gu! Ad))))),vb!,Cb y_ gu! a9_,vc!,(λ_ e=>nomatch e),vd!,fT (f1 Qs (Ac nI_ Ae)),ve!,⟨⟨o,e,ex.1⟩,λa e2=>?_⟩,vf!,aT (lB T) a_ rfl bX! ap!,vg!,Ab m_ aU!,vh!,List.replicate k xs,vi!,List.replicate k its,vj!,wT (Aj 2 (Gu t) cs!),vk!,aT (iL T) a_ rfl nL! ap!,vl!,Ap vj! (Af (Bq (Aj 2 (Jo t) cs!)) (At (w2 My gr_ (Aj 1 (Fg t) aU!)))) Bg,vm!,aT (iK T) a_ rfl (aE (dJ B! eA cu!) aK) ap!,vn!,.cons ru .nil,vo!,fN ap_ cB B! aR n!,vp!,gh.toArray.size,vq!,fN a5u a6d B! dB n!,vr!,r.append r2,vs!,2 ^ 63 - 1,vt!,List (κ×V),vu!,fT (f1 Du bD!),vv!,gS T.U1 rfl,vw!,Av t.B6 "children_of" 2 (Do t) (Aj 2 (Ik t) cs!) aC_,vx!,upd H a ob,vy!,Bi 1 [0] nD_ B_ dF! (Aj 2 (Ez t) vg!),vz!,bJ bY! qC R_ aq! n!,vA!,starEach [e] X.env,vB!,starEach [e,f] X.env,vC!,Ac r_ bD!,vD!,Hu (wT (Av t.B6 "can_move" 3 (Ct t) nN_ nm!)),vE!,rR (a2v (cY bp! dP D_ bo_ rfl) (tV (cY bp! dP D_ eR! rfl))),vF!,aC D_ aF_,vG!,bD (bX (aN aH aL B! (aX eP eQ R_ gu_) k!)),vH!,Ac j_ dA_,vI!,aX aO bI R_ aD,vJ!,aE B! gy!,vK!,λ_ _ _ _ _=>vJ_,vL!,eV (n:=10) rfl,vM!,As (Ac bn! (Ac i4! dG!)),vN!,λb z=>?_,vO!,(by rw[KQ];exact hl),vP!,World->Heap->Prop,vQ!,∀(w:World) (h:Heap),YP w h->(bF_).In h,vR!,f2 Bv (f2 Cg r_ (f2 An u_ (f2 Dk aw! j_))) (fC (.int 41)),vS!,Ck 4 (f1 Bh vH!),vT!,aT gA! a_ rfl (aE B! (aE vI! aK)) ae!,vU!,∀(kV bo pm:Value) (an:dM!) (ag ct:Value) (us:k_),ad_=P!->bindArgs n3_ cY_=pure cY!,vV!,Ck 7 (f1 Cm (Ac (f2 An L! (fC (.lst jp!))) (Ac (f1 Bh (Ac j_ (Ac (f2 An r_ aC!) Ae))) Ae))),vW!,Ck 8 (fC (.lst [i3_,i3_,i3_,nw_,nw_,ny!,ny!,gc!,i6!,bV!,nu!,uJ_])),vX!,aX eP eQ bb_ aD,vY!,Ck 9 (f2 Ai bC_ (f2 Bv N! vZ!)),vZ!,fC (.int 12),v0!,⟨o.slots,e⟩,v1!,Gc (fT (f2 Ax aj_ i5_)) (Bd (As (Ac aj_ iU!))) Co,v2!,Str×NameKind,v3!,aX lX lY bb_ aD,v4!,ForInStep (List eT_),v5!,(by simpa using hk),v6!,((n,c)::acc),v7!,f2 Cg N! vZ!,v8!,Gc (Cw (fT (f2 Ax aj_ m9_)) (fT (f2 Ao gD! bH_))) (Bd (As (Ac aj_ (Ac aD! (Ac gD! (Ac (f2 An u_ (f2 Bv v7! (f2 Dq eD_ (f2 Ai gD! aC!)))) Ae)))))) Co,v9!,Gc (fT (f2 (Vl false) aj_ (fC (.tup [gc!,i6!])))) (Bd (As (Ac (fC i6!) (Ac aD! (Ac (f2 Bv v7! co_) (Ac (f2 Dq (f2 Bv (f2 Cg N! (fC (.int 48))) (fC (.int 2000))) (fC (.int 1000))) Ae)))))) Co]
def z'vv:String:=z [va_,Ap va! Go Bg,vb_,lE aZ_ (some nG_) a S none none none none none none none none none none none,vc_,f1 (By t) a7!,ve_,⟨o,e,ex.2.1⟩,vf_,backTo ah l7_,vg_,Al 2 (Bi 1 [0] (Cv gs!) B_ (wT (Aj 2 (Gu t) vg!)) g_),vh_,gE (fF (kG mG rfl T.S9 rfl T.T7 cQ pG B!)),vi_,Obj.mapSeq f,vj_,(rS_).trans e1,vk_,λ_ _ q=>KC _ q,vl_,xs.drop uH!,vm_,(by rw[KH];omega),vn_,aT (iK T) a_ rfl bX! ap!,vo_,.lst (xs++zs),vp_,Bq (Aj 2 (Fo t) cs!),vq_,Aj 2 (Jl t) dH_,vr_,⟨e,e2,?_⟩,vs_,Hu (wT (Av t.B6 "has" 2 gi! y_ aC_)),vt_,Af (Ap vs_ (Pp t.NotThere E (Xn (gN 1 g0))) Bg) c0_,vu_,Ap (Db (Dd vu!)) Go Bg,vv_,Av t.B6 "has" 2 gi! nN_ aC_,vw_,Heap.SameBut a s.heap h',vx_,Ab g_ nm!,vy_,aG (fW T.V3 T.X5 j! bX_),vz_,w2 My y_ (Po (Ab (Aj 1 (Iv t) aU!) aC_)),vA_,bJ ap_ cB aU_ R_ n!,vB_,ns.map WData.int,vC_,pre_splitW uv,vD_,Pp t.NotThere E (Xn (gN 1 (gN 2 g0))),vE_,true==true,vF_,aP (a2n T) a_ rfl (aC j! vF!),vG_,Bd (f2 Ai j_ (f2 Bv r_ dz!)),vH_,f2 An r_ u_,vI_,IntsAre vs ns,vJ_,cL (aE aU_ nL!),vK_,.tup [gz!,gz!],vL_,fT (f2 Ax go! ny_),vM_,Rb (Ew (f1 Bj (Ac (f2 Ai bm_ aw!) Ae))) L_ (Pd 1 vM!),vN_,.Name x np,vO_,(Str->Option Value)->Heap->Prop,vP_,Params->W.Frag,vQ_,(∀(s:Shared) (u:Value),BindsTo s fd jl! [(x,u)]),vR_,f2 Ai A_ vR!,vS_,Yu KF x qual st f fd,vT_,Ck 6 (f1 Cm (Ac (f2 An (Ey L! gb_ Ay) (Ey L! Ay gb_)) n3!)),vU_,KF.lookup f=some ⟨oc,od,.func n3_,ik⟩,vV_,Gc (fT (Ei "str" ba!)) (Ck 7 bH_) Co,vW_,.inl (.inl (e _ _ h)),vX_,aE (aT dM_ a_ rfl (aE aq_ gA_) ae!) (aE bZ_ aK),vY_,.inl (.inr ⟨o,e _ _ h⟩),vZ_,Gc (fT (f2 Ax aj_ eL_)) (Bd (As (Ac aj_ (Ac (f1 Cm (Ac L! n3!)) (Ac ba! Ae))))) Co,v0_,Gc (fT (f2 Ax aj_ eM!)) (Bd (As (Ac aj_ (Ac aD! (Ac (f1 Cm (Ac L! (Ac (f1 Bh (Ac j_ (Ac (f2 An r_ aw!) Ae))) Ae))) (Ac ba! Ae)))))) Co,v1_,aY (ne c _ q),v2_,Ck 10 (f1 Cm (Ac (f1 Lk bD!) (Ac (f1 Bh (Ac j_ (Ac (f2 An r_ co_) Ae))) Ae))),v3_,ForInStep.yield ((name,a)::r),v4_,aX eP eQ v3! aD,v5_,Gc (fT (f2 Ax aj_ ny_)) (Bd (As (Ac aj_ (Ac aD! (Ac gD! (Ac (f1 Nm (Ac (f1 Bh (Ac j_ (Ac (f2 An r_ gD_) Ae))) dG!)) Ae)))))) Co,v6_,(if(k==gC_)=true then _ else _)=_,v7_,λp hp=>hn p jq_,v8_,nL cells r _ x h,v9_,λ_ _ _ _ _=>mP (eH (bJ bY! qC aU_ R_ n!))]
def z'w:String:=z [wa!,Ck 11 (f2 An (Fx 1 [] (Ek A_) B_ aS_ nZ_) (Dh (Ac (As (Ac F_ (Ac (f2 An u_ (f2 Bv N! gD_)) Ae))) Ae))),wb!,Bd (As (Ac aj_ (Ac (f1 Cm (Ac (Aa 11) n3!)) Ae))),wc!,bE (i:=6) nd rfl b_,wd!,aE R_ c2_,we!,Ck 7 (f1 Bh (Ac j_ (Ac wd_ Ae))),wf!,Ve 4 bC_ (f2 An (Lm 4 bC_) u_),wg!,decide ns!,wh!,Pd 3 (As (Ac (f2 Ai (fC (.lst [I!,jp_,(.int 15)])) bC_) (Ac (Lm 4 bC_) (Ac (Lm 5 bC_) (Ac aj_ Ae))))),wi!,Al 3 (wl (Nr m8_)),wj!,ForInStep.yield ok,wk!,aC bG! ob!,wl!,aC bG! (aC aE_ (aC bX_ aM)),wm!,wl (fC wm_),wn!,aV (i:=5) nd rfl b_ wl_,wo!,Cb m_ uD! (wl (f2 Ax go! iZ_)),wp!,f2 Ev aL_ r_,wq!,fT (f2 Jk L! gI!),wr!,[⟨tg,iter,c9,0⟩],ws!,Al 5 (wl (f2 An L! u_)),wt!,fT (f2 Ao C_ bH_),wu!,As (Ac C_ bD!),wv!,([]:List tU_),ww!,(λv z=>by cases z),wx!,Ac (As vC!) Ae,wy!,Ey N! eW_ Ay,wz!,"_law_parent_here",wA!,Al 3 (Bi 1 [1] od! B_ (Db jv_) jf!),wB!,I8.pin ex_ s8_,wC!,Aj 3 Hc og_,wD!,Hu (wT wC!),wE!,Bq (Aj 4 Iy wD_),wF!,(show(wE_:List Str).Nodup by decide+kernel),wG!,Ov nl ix Z,wH!,∀cl C aj bd fp,Pi b2! c9 tt,wI!,∀cl C aj bd fp,PE b2! dw te,wJ!,AT NL.length ix wi g tt te,wK!,λh' cm=>?_,wL!,Cb ok! ax! (Ri (Ab aN! (Ab aN! (Ab aN! nj_)))),wM!,T.X6 _ rfl rfl rfl rfl,wN!,λb o J e=>(cm.2 b J).trans e,wO!,.inr (LV I2.sz hC),wP!,λx c h=>(wO_).1,wQ!,λx c h=>(wO_).2,wR!,f1 Bj (Ac L! Ae),wS!,∀a h1,Rd H a dx_->Rd H' a dx_,wT!,f2 Ax (f2 Ai (f2 Ai L! ba!) F_) eJ_,wU!,Ap (Db (fT wT!)) (Al 6 (wl (f2 An ba! u_))) Bg,wV!,λ_ _ q=>cC e q,wW!,Cb bc_ c1! (wl (f2 An (f2 An (Ey L! Ay (Au aD!)) bC_) (Ey L! (Au aD!) Ay))),wX!,Cb bc_ c1! (Bi 1 [9] (Ip (Ek L!)) B_ dF! (Po (Ab jf_ (Ab jf! (Ab (Mg (wl cX_) (w2 gn! jf_ m_)) Ad))))),wY!,r.mono (iG h),wZ!,Al 1 (Ot wY_),w0!,wT (w2 gn! (wl (f2 Ai nA_ F_)) wm!),w1!,Hu (wT (Ib y_ (wl (As w0_)) of_)),w2!,⟨v,Y,h2.mono x.g⟩,w3!,Al 2 (Aj 1 Lu aC_),w4!,Z[i]?=some cz_,w5!,Vt (wT (w2 (λ_=>CW true) (Aj 2 (Lr t) dH_) iY!)) w4_,w6!,jZ (i:=2) (NL:=cZ!) (NF:=bo!) (ix:=[0]) nd rfl b_ rfl b! i_ (bQ (sc:=Ak Gb) rfl i_) jC_ b! rfl (dY gM_) (λ_ _ _ _ _=>bE (i:=0) (show([bU!,H!]:List Str).Nodup by decide+kernel) rfl b_) V! (λ_ _ _ _ _=>mP (fE (aP (nA T) a_ rfl w5_))) eV!,w7!,Bi 1 [3] (Cv (w2 Bs y_ gH_)) B_ (Db jv_) g_,w8!,Bi 1 [0,3] (Ip (Ew co_)) B_ dF! (Aj 3 (Lj t) (Ab m_ (Ab y_ aU!))),w9!,BK X.K own f]
def z'ww:String:=z [wa_,cF cU eJ rfl T.T0 eC (aE bb_ aK),wb_,X.N[j]?=some x,wc_,∀b∈fp,b<J!,wd_,f2 An r_ (f2 Dk (fC (.int 7)) aD!),we_,Ck 8 (f2 Bv ba! aw!),wf_,Ve 5 bC_ (f2 An (f2 An (Lm 5 bC_) u_) (f2 Bv (f2 Cg ba! aw!) aw!)),wg_,Ck 9 (Nr (f1 Ka (Ac j_ (Ac (f2 An wd_ u_) (Ac C_ (Ac gD_ Ae)))))),wh_,"_law_times",wi_,fT (f2 Jz C_ F_),wj_,fT (f2 CY (As (Ac (f2 Ai (Lm 1 ju_) aC!) (Ac (f2 Ai (Lm 1 ju_) F_) Ae))) (As (Ac eJ_ (Ac bn! Ae)))),wk_,Xl (Xx 1 C_ A_),wl_,bU I_ bF bo_ bG! k!,wm_,.tup [bV!,nu!],wn_,wT (w2 aT! (wl go!) wm!),wo_,bE (i:=7) nd rfl b_,wp_,Db (fT wp!),wq_,f2 Ai (f2 Ai N! L!) u_,wr_,fT (f2 Ev wq_ A_),ws_,([]:List Value),wt_,f2 Ai N! aD!,wu_,fT (f2 Ax wt_ wu!),wv_,Db (Cw wt! wu_),ww_,Al 5 (wl (f2 An aD! u_)),wx_,f2 An (Ey N! Ay eW_) (Dh wx!),wy_,λ_ _=>False,wz_,b1!++[oe_],wA_,Ap (Db (Dd (λρ=>((C_) ρ).bind Wo))) b2_ Bg,wB_,Vt (wT (w2 aT! y_ bc_)) (wT (w2 aT! y_ jw_)),wC_,cF cU eJ rfl T.T0 eC gy!,wD_,Ab g_ (Ab m_ jx!),wE_,["check","part"],wF_,Ac i9_ (Ac uY_ Ae),wG_,X.env.kindOf y.1=some .cell\/X.env.kindOf y.1=some .free,wH_,Al 4 (Uu oi_ (wl (f2 Ax i4! iG_))),wI_,dF (am hb s Z H _ I h) λv s1 Y=>dF Y λum s2 h2=>?_,wJ_,Cb bc_ ax! nC!,wL_,⟨LU (LJ J hC),LU (LJ J hD)⟩,wM_,I2.pin p hp,wN_,Bq (Aj 4 Iy (Ab g_ (Ab ax! (Ab (wl (Ln (fT N!) i4! f7_)) (Ab i5! Ad))))),wO_,d9 c (pj x c h),wP_,LV I2.sz hD,wQ_,Cb (w2 Bs ok! c1!) i5! (wl bm_),wR_,Ip (Ew wR!),wS_,∀a vs,Fm KF H a vs->Fm KF H' a vs,wT_,Am.map ht hl hd xs vs r,wU_,bS (iB T) a_ j! om_,wV_,λ_ _ q=>a8e e q,wW_,⟨a,vs,rfl,h,r⟩,wX_,aG (bA V_),wY_,Eg gH_ nC! (Eg gJ_ Gm (Eg oj_ Gm Mz)),wZ_,Al 2 (Aj 1 Ls aU!),w0_,Ac u8_ (Ac (f2 Ai C_ u_) Ae),w1_,Bq (Aj 2 Wi ni_),w2_,Cv (w2 Bs bc_ m_),w3_,Cv (w2 My (wl (fC (.lst [iG!,iH!]))) (w1 Ql (Ab os_ Ad))),w4_,wT (w2 Sh (Aj 2 (Il t) dH_) (Aj 2 Hi jx!)),w5_,aC p_ b4_,w6_,Ap (wT (w2 Sh (Aj 2 (Sn t) dH_) (Aj 2 Hb jx!))) b2_ Bg,w7_,Ap (wT (w2 Sh (Zb (Ab (Po (Ab ax! (Ab (Aj 2 (Nl t) dH_) Ad))) Ad)) w7!)) b2_ Bg,w8_,Ap (wT (w2 Sh w8! (w2 Bs (w2 Bs y_ oj_) ax!))) b2_ Bg,w9_,At (w2 (λ_=>CW false) (Aj 2 (Lr t) (Ab g_ (Ab (wl (fC vK_)) Ad))) of_)]
def z'x:String:=z [xa!,⟨λhb s Z H Q I ⟨G,ρ,d,er,e,k⟩=>h hb s Z H Q I ou!⟩,xb!,f1 Jp (Ac j_ (Ac r_ dG!)),xc!,Ab iV! (Ab a9_ Ad),xd!,Bi 1 [] i1_ B_ dF! (wl cX_),xe!,f1 Bj (Ac (Fx 1 [1] eK_ B_ jv_ j_) Ae),xf!,fC (.lst [I!]),xg!,qQ (i:=4) b! cw! k!,xh!,Ap (Vt (wT (w2 gn! m_ bc_)) (Hu wB_)) b2_ Bg,xi!,a8r ho ha.ok J.ok,xj!,b5m hr ha.ok J.ok hs,xk!,λ_ _ _ _ _=>bE (i:=0) (show([bZ!,dR!]:List Str).Nodup by decide+kernel) rfl b_,xl!,Ac j_ (Ac tL! Ae),xm!,a5r h.ok he,xn!,Al 1 (Aj 4 (Pl t) (Ab g_ (Ab aN! (Ab (wl gD_) (Ab (wl (f2 Bv (f1 Bh xl!) (fC gz!))) Ad))))),xo!,f2 Bv (f1 Bh xn_) (fC (.int 6)),xp!,Al 5 (wl (f1 Hh dG!)),xq!,Ip (Ew xo!),xr!,b4k ha.ok J.ok,xs!,Al 6 (wl (f1 Cm (Ac L! (Ac (f1 Bh (Ac j_ (Ac (f2 An (fC (.int 30)) jG!) Ae))) Ae)))),xt!,c4k ha.ok J.ok,xu!,Al 7 (wl (f1 Cm (Ac L! (Ac (f1 Bh (Ac j_ (Ac (f2 An (fC (.int 31)) jG!) Ae))) Ae)))),xv!,.lst [.non],xw!,aX pU qB aF! aD,xx!,aN aH aL (qQ (i:=1) b! xw! k!) aD k!,xy!,λv G1 H1 s1 r1=>?_,xz!,c4o ha.ok J.ok,xA!,k _ G1 H1 s1 Aq.bl,xB!,tK hc.ok ha.ok J.ok,xC!,Ac ba! (Ac bC_ Ae),xD!,aV (i:=1) nd rfl b_ fJ,xE!,(by rw[<-aJ r1];exact eU hl),xF!,s1.sub.free hp,xG!,Al 11 (Aj 1 Lu gi_),xH!,Al 12 (Uu (w2 aT! iX! (w2 Bs xG_ gJ_)) (w2 aT! iX! jw_)),xI!,f2 Jz aj_ F_,xJ!,fT (f2 Ax aj_ aw!),xK!,∀ρ ds,fs ρ=some ds->g!=P!,xL!,.str "refused",xM!,Db (fT (Aa 12)),xN!,Al 14 (Aj 3 No (Ab ax! (Ab (wl gD_) xM_))),xO!,(by rw[LK];omega),xP!,Ap xM! (Af xN! (Af xN_ xO_)) Bg,xQ!,Sz nj_ (wl eD_),xR!,Vt (wT (w2 Sh (Aj 2 (So t) (Ab y_ xM_)) (wl (Aa 13)))) xQ_,xS!,oM t_ (iC bX_ bX_ tX),xT!,[ah_,us_,aM_,"behind","text"],xU!,[a5_,eV_,aK_,gz_],xV!,[bm!,aB_,n9!],xW!,Int->Int->D,xX!,∀i j H,Aq KF H bl! (gv i j),xY!,.int 16 tk,xZ!,mK (eZ (aT (lD T) a_ rfl bX! ap!)),x0!,.ref t.NotThere,x1!,λi j=>decide (0<=j)&&decide (j<=1000000)&&decide (cU!<2 ^ 64),x2!,aB (fN lW mB R_ dB n!),x3!,Ag->Option oF!,x4!,Dm xs lo hi,x5!,(k'.map c_).Nodup,x6!,a1x rr l h,x7!,(by rw[KN h];rfl),x8!,.dct kp ep,x9!,λa z=>(by subst z;cases e2)]
def z'xx:String:=z [xa_,∀Z G H Q ρ d,OR X.K own G H Z ρ->ft ρ=some d->(∀G' H',Ch G H G' H'->Q d H')->t Z H Q,xb_,Bi 1 [2] (Ip (Ek xb!)) B_ wp_ g_,xc_,λb o z=>?_,xd_,aE aD (aE aD ov!),xe_,aX aO bI R_ (aX iY iZ aD bc!),xf_,f1 AC (Ac (f2 An C_ xf!) Ae),xg_,qQ (i:=5) b! cw! k!,xh_,At (Rh wC!),xi_,a8u ho ha.ok J.ok hm,xj_,a8m ho ha.ok J.ok hm,xk_,λx H'=>∃k,x=.bl k/\Q k H',xl_,⟨d,rfl,ow_⟩,xm_,aC jF_ (aC bq_ aM),xn_,Ac j_ (Ac (fC (.int 61)) Ae),xo_,bQ (sc:=Ak Pz) rfl i_,xp_,⟨a8l h.ok⟩,xq_,⟨b4j h.ok⟩,xr_,⟨G1,ρ,d,c6_,e,λG2 H2 s2=>k G2 H2 c7_⟩,xs_,k G1 H1 s1,xt_,⟨h.ok.pt⟩,xu_,⟨b5i h.ok⟩,xv_,b5o ha.ok J.ok,xw_,Au (Xc aC!),xx_,λv G2 H2 s2 r2=>k v G2 H2 c7_ r2,xy_,k _ G1 H1 s1 Aq.bl,xz_,Al 8 (wl (f1 Cm (Ac (f2 An (fC xv!) (Ey L! gb_ xw_)) (Ac (f1 Bh (Ac j_ (Ac (f2 An (fC (.int 32)) jG!) Ae))) Ae)))),xA_,DT X own c ft,xB_,Al 9 (wl (f2 Bv (f1 Bh (Ac j_ (Ac (f2 An (fC (.int 33)) jG!) Ae))) co_)),xC_,dC h.ok hs.ok hst,xD_,dY (aP (lH T) a_ rfl b4_),xE_,s1.trans (Ch.laid s1.sub hp),xF_,Al 10 (wl (f2 Ai (Dh oz_) aj_)),xG_,wl (Aa 11),xH_,nY hc hg hm hv ha.ok hn ax he au,xI_,Zo X.K ps.length g,xJ_,(aA_).length=P!,xK_,Ap (Db (fT xI!)) (Al 12 (Aj 3 Sq (Ab xG_ (Ab (wl aD!) (Ab (wl (Ln xJ! f7_ ba!)) Ad))))) Bg,xL_,∀ρ ds,fs ρ=some ds->g!=n,xM_,Ab (wl gD!) Ad,xN_,Al 13 (wl (Ey (Aa 14) Ay cX!)),xO_,Al 3 (wl (f2 An C_ (Dh (Ac (Aa 14) Ae)))),xP_,(by rw[MY];decide),xQ_,wT (w2 Sh (Aj 2 (Qo t) (Ab y_ (Ab xQ! Ad))) (Aj 1 Dw gi_)),xR_,k _ G H aH! Aq.str,xS_,[ah_,ai!,dD_],xT_,[ah_,aM_,"first","many"],xU_,[a5_,eV_,jt_],xV_,fN ap_ cB nX_ aR n!,xW_,[a5_,eV_,dR!,jt_],xX_,[aK_,dR!,bl_],xY_,k _ G H aH! (hg _ _ G),xZ_,λ_ j=>decide (0<j),x0_,λ_ j=>decide (0<j)&&decide (j<1073741824),x1_,.bl (Rj i j),x2_,k v G H aH! h2,x3_,bS (fU T) a_ j! gR!,x4_,bH T.V4 T.W9 j!,x5_,s4.trans jL_,x6_,KW (f:=c_) z,x7_,.dct kf ef,x8_,LA.mp K.nd,x9_,⟨_,mup_same⟩]
def z'y:String:=z [ya!,h.fr b b1 b2,yb!,bU I_ bF jM_ p_ k!,yc!,fv ρ=some v,yd!,bU I_ bF x4_ p_ k!,ye!,Da n=some kn,yf!,i=g!->af.stop i H',yg!,PI X tg e wi,yh!,Am KF G1 ds vs,yi!,Br kp n a0,yj!,Dj j.toNat,yk!,⟨hl,jR_⟩,yl!,bH T.V3 T.X5 j!,ym!,CI KF 2 (Ue ev! (Ue (Nq j) CJ)),yn!,aV (i:=2) nd rfl b_ oR_,yo!,AK KF af ds G1,yp!,⟨go,oS_⟩,yq!,av.mono x2.g,yr!,((yq!).mono x3.g).mono x4.g,ys!,(yq!).mono x3.g,yt!,λx0 x1 x2 x3 x4=>(he x0 x1 x2 x3 x4).ok,yu!,λaf G1 H1 x1 eh=>?_,yv!,FM X.K G0 F0 own cg f,yw!,DS X own be st q1,yx!,h2.ok G0 F0,yy!,λx=>if x=n then[.int 0,.int 0,.int 0,.int 0]else W.num x,yz!,tJ hN hi hx h.ok hs hf,yA!,⟨G',ρ,r,er.grow x',e2,k⟩,yB!,s.or.sub.trans wz,yC!,λj d q n=>?_,yD!,(by rw[MC wy]),yE!,λz=>absurd z.symm cy,yF!,(λb u e=>by rw[aY (hG e)];exact s.or.sub b u e),yG!,.nx (ρ.set i (some (.lst (ds++[d])))),yH!,.Call (.Attribute bf_ "append" a8) [e] [] ah,yI!,.dir false,yJ!,ρ.set i (some (.lst (ds.set k d))),yK!,.Subscript bf_ ix p2,yL!,er.or.grow x,yM!,(x.trans x2).h _ _ h3,yN!,⟨by rw[s];exact LV ty.1 hB,by rw[s];exact ty.2⟩,yO!,Ch G0 F0 G1 H1,yP!,aC cw_ om_,yQ!,Yu KF x qual st ae fd,yR!,h.inj _ _ l' hd z,yS!,J ag A outer s H E hr,yT!,(by rw[e1];exact J),yU!,tG I xs ys vs n n' rr bv,yV!,(by unfold Ba at h;exact h),yW!,.bl (decide g0_),yX!,aE bZ_ (aE cw! aK),yY!,(List.range (min us.toArray.size pd!)).all (λj=>Ej pc! pc_)&&j6_==pd!,yZ!,(by rw[KH,KH,<-h3,<-h4,<-Y,<-h2];simpa using hl),y0!,.inr (.inr ⟨hM!,rfl⟩),y1!,A.units+Gx d<cLine,y2!,DE X own c fc,y3!,aC (aB gC!) aM,y4!,⟨G,ρ,x,er,e1,λv G1 H1 s1 r1=>⟨G1,ρ,y,c6_,e2,λw G2 H2 s2 r2=>hg s2.sub gQ! r2 e3 λt G3 H3 s3 r3=>?_⟩⟩,y5!,mup_ne (LQ p2),y6!,nh.trans (s4.trans s5),y7!,.bl (if neg then !(ds.any λd=>Ej d x)else ds.any λd=>Ej d x),y8!,λz=>r1 (q.mpr z),y9!,λhb s Z H Q I h=>?_]
def z'yy:String:=z [ya_,(λxs H Q=>∃x n,xs=[x]/\CN KF x H n/\Q f5_ H),yb_,bs.map V.bl,yc_,.builtin "all",yd_,λ_ _ _=>rfl,ye_,(∀d,ds[i]?=some d->af.go i H'/\∀x gu,af.yld i H' x gu->∃rq,Ch G' H' rq gu/\Aq KF rq d x),yf_,(∀b,b≠f->b≠p->M' b=M b),yg_,(K.f _).symm.trans jr,yh_,Br kf a0 n,yi_,[dU!,bf!,some o,none,none],yj_,⟨dT_,λhi=>by rw[KQ,OV]at hi;exact RG hi.symm⟩,yk_,(by simpa using K2),yl_,aP (oC T) a_ rfl b4_,ym_,[.int a,.int b],yn_,[.int a,.int b,.int c],yo_,⟨cV (by rw[<-aJ av];omega),?_⟩,yp_,cu.grow x2,yq_,u'++[da_]++v,yr_,(aa_).map c_,ys_,BK X.K [] ft,yt_,a8t cj ce jx g6 cap calm am.ok hg hi yt! hs,yu_,er.grow x1,yv_,λ_ _ _ _ _=>bE (i:=0) (show([ai!,ah_]:List Str).Nodup by decide+kernel) rfl b_,yw_,⟨_,h.mem.mpr an_,rfl⟩,yx_,λx=>if x=n then[]else W.txt x,yy_,.Assign e3! e pos,yz_,aC j! oL_,yA_,Z.set i cz_,yB_,bE (i:=3) nd rfl aV_,yC_,if y=n then[]else W.txt y,yD_,if x=n then[.int 0,.int 0,.int 0,.int 0]else W.num x,yE_,bQ (sc:=Ak Od) rfl i_,yF_,("numbers",.fn a4),yG_,[e].length+(dJ!).length+eP!<30,yH_,dC h.ok fK hst,yI_,oF gX! (ad (.dir true)) (ad yI!) (ad .nums) o4! (ad .hid),yJ_,DE X own ix fx,yK_,jT hN w5 hd bq,yL_,λiv G2 H2 x2 r2=>?_,yM_,(jV_).grow x2,yN_,λi hi p e=>?_,yO_,eH (bJ ap_ cB dN_ aR n!),yP_,ds.drop dc!,yQ_,λvs H Q E h=>h.1,yR_,F.ok S yQ_ (λag A outer s H vs Q E hr h=>?_),yS_,⟨er,Ch.refl sub,ar!⟩,yT_,aX eP eQ (aT gA! a_ rfl (aE B! ov!) ae!) aD,yU_,∀c,O c->M' c=M c,yV_,aB (aT dM_ a_ rfl (aE aq_ (aE pb_ aK)) ae!),yW_,Fz X.K H b ws,yX_,.bl (decide dd!),yY_,Fm X.K H b ws,yZ_,aB (aA 11),y0_,a1u I _ _ _ n n' r r',y1_,⟨dx,dy,rx.mono sub,ry.mono sub,h.1.1,h.1.2,h.2,dT!⟩,y2_,Ca g g' fa fb fc,y3_,Hs X.K r' g',y4_,⟨bb,rfl,?_⟩,y5_,(r2.mono s3.g).mono s4.g,y6_,∀a p,(a,p)∈W.rows->rk p<rk a,y7_,(∀p,aW!∉W.rows),y8_,L2.Key×Value,y9_,ha.ok hb s Z H _ I h]
def z'z:String:=z [zm!,Around,zp!,Value,zx!,World,zy!,Program,zz!,Shared,zA!,W.Frag,za!,b7n (k:=pi!) r1,zb!,Ok X.prog X.w X.K X.mg X.base k x ps g,zc!,Addr->Option zb_,zd!,λi _=>i<fb!,ze!,x.cps.toList.map λc=>.str aj!,zf!,∀i h,St' i h->∃o,h.get? it=some o/\∀v,o.data≠.cell v,zg!,if x=i then l else W.txt x,zh!,Jr (setT W i l'),zi!,.str (Txt.join z ys),zj!,λw G2 H2 s2 r2=>?_,zk!,s.heap.IsTuple tt xs,zl!,g++[.tup g5!],zn!,mup M (ad .hid) (.dct (Br k6 g6! w_) (Ir k6 g6! e6)),zo!,setT W i (cutT zl! cE_),zq!,firstArgMember _ _,zr!,(by first|rfl|(simp only[firstArgMember];rfl)),zs!,show A.in1.handled=none from hh,zt!,KB (wpAny_throw ?_),zu!,(po_).map λk=>z+cf_,zv!,ys[k2]?=some y,zw!,(λfin s'=>∃v,fin=.done (.ret v)/\Q v s'),zB!,p.mem_iff.mp hq,zC!,ic.extBut b7.extBut D.l1z,zD!,b7.extBut _ _ D.TOz gO,zE!,UM sh λh3 u0 db=>?_,zF!,cE (cE (cE g2 b7.extBut D.i2z) bj.extBut D.i12.symm) db.extBut D.TOi2.symm,zG!,((iu.extBut b7.extBut D.l2z).extBut bj.extBut D.l2i1).extBut db.extBut D.l2TO,zH!,rawInt pp!,zI!,[aP!,aO!,zI_],zJ!,b7.extBut _ _ c1 x,zK!,pyNext kl!,zL!,F.entry_zip_next,zM!,⟨_,_,_,rfl⟩,zN!,.fn (ad (.row i false)),zO!,FI h l1 l2,zP!,hI.inj _ _ l hi z,zQ!,⟨_,rfl,h⟩,zR!,setT W i (U++pt_::v),zS!,FI s.heap l1 l2,zT!,FK s.heap l1,zU!,.tup [x,y],zV!,λc o _ _ hc e _=>kp c o hc e,zW!,λc o hc e=>⟨o,kp c o hc e⟩,zX!,⟨o,es,ep,kp _ o (λz=>(hf _ z).2.1 rfl) ho,r⟩,zY!,λd o' hd e'=>kp d o' (λhm=>?_) e',zZ!,I.hok c o e,z0!,[z,TI,TO,i1,i2],z1!,∀q,N q->M (a9 q)=none,z2!,[z,TO,i1,i2],z3!,λc o _ _ _ e _=>v0!,z4!,λc o _ e=>⟨o,e⟩,z5!,(λc o u e=>by rw[py!];exact e),z6!,Aa 0 ρ=some j5!,z7!,I1.hok c o e,z8!,m1 _ (h.lv (q:=.ob) trivial),z9!,q=.row x b\/q=.fol x b\/q=.pre x b]
def z'zz:String:=z [za_,mixKind X.prog X.w,zb_,List D->Option D,zc_,ad (.nm i),zd_,λi _=>fb!<=i,ze_,⟨(NR.mp hc).1,λv gu hy=>?_⟩,zf_,λi h=>i<=fb!/\St' i h,zg_,λi h st=>VQ _ i h st,zh_,ys.map V.str,zi_,dC ha.ok fK hs,zj_,s.heap.IsTupleIter jt tt n,zk_,Builtin.SmallTypes.nextOf (.ref jt),zp_,Obj.cls_mapFields ..,zq_,(by rw[show B+(js.length+1)=B+1+js.length by omega];simpa using h'),zr_,wpAny_handled ?_,zs_,q2.trans f',zt_,((d0!).extBut.push _).push _,zu_,xs[k1]?=some x,zv_,Builtin.«zip.__next__» ⟨[.ref z],[]⟩,zw_,∀x∈W.its,s∉(br_).map c_,zz_,(by rw[hl];exact z),zA_,OC gz c! λY lj b7=>?_,zB_,cE g1 b7.extBut D.i1z,zC_,zB zB_ zC! gx λh2 VR bj=>KB ?_,zD_,(bg!).sl i false l,zE_,OJ sh rfl ?_,zF_,⟨q,.inl z,h⟩,zG_,db.extBut _ _ D.TOz.symm (bj.extBut _ _ D.i1z.symm lj),zH_,xs[k1]?=none\/ys[k2]?=none,zI_,.int (k':Nat),zJ_,setT W i (U++(pq!).map d1!++v),zK_,⟨_,gz,rfl⟩,zL_,F.args_zip_next_1 _,zM_,.int (k0:Nat),zN_,.int (k0:Nat),zO_,FH h l1 l2,zP_,mup M1 o4! (.dct (Br k5 bL_ gq!) (Ir k5 bL_ e5)),zQ_,(D.tup kn!,D.str aj!,true),zR_,(by rw[hl,LL];exact LD _ z),zS_,FH s.heap l1 l2,zT_,Da b=some kb,zU_,if i∈W.its then setT W i (wrT b g9_ cE_)else W,zV_,λc o _ _ hc e _=>⟨o.slots,kp c o hc e⟩,zW_,λc ps e=>lX!,zX_,fo ρ=some W!,zY_,λ_ e'=>e',zZ_,[a1,a2,a3,a4],z0_,∀q,Js V' q->Js V q\/N q,z1_,e▸nw q l,z2_,λc o _ _ _ e _=>e,z3_,λc o hc e n=>?_,z4_,(λc xs e=>by rw[py!];exact e),z5_,λc ps e=>⟨#[],by rw[py!,e];simp⟩,z6_,Aa 1 ρ=some x,z7_,(λd q=>by rw[pz!];exact q),z8_,(by rw[z]at l;exact l),z9_,old .ob trivial]
end
open Lean in
local macro_rules|`($s:ident)=>match s.getId with|.str .anonymous t=>let c:=t.back;if c=='!'||c=='_' then match (let b:=c=='!';if t.length<3 then if b then z'0 else z'00 else match t.front with|'a'=>if b then z'a else z'aa|'b'=>if b then z'b else z'bb|'c'=>if b then z'c else z'cc|'d'=>if b then z'd else z'dd|'e'=>if b then z'e else z'ee|'f'=>if b then z'f else z'ff|'g'=>if b then z'g else z'gg|'h'=>if b then z'h else z'hh|'i'=>if b then z'i else z'ii|'j'=>if b then z'j else z'jj|'k'=>if b then z'k else z'kk|'l'=>if b then z'l else z'll|'m'=>if b then z'm else z'mm|'n'=>if b then z'n else z'nn|'o'=>if b then z'o else z'oo|'p'=>if b then z'p else z'pp|'q'=>if b then z'q else z'qq|'r'=>if b then z'r else z'rr|'s'=>if b then z's else z'ss|'t'=>if b then z't else z'tt|'u'=>if b then z'u else z'uu|'v'=>if b then z'v else z'vv|'w'=>if b then z'w else z'ww|'x'=>if b then z'x else z'xx|'y'=>if b then z'y else z'yy|'z'=>if b then z'z else z'zz|_=>if b then z'0 else z'00).splitOn ("\r"++t++"\r") with|[_,f]=>do return z'Z (.fromRef (<-getRef)) f|_=>Macro.throwUnsupported else Macro.throwUnsupported|_=>Macro.throwUnsupported
open Lean in
local macro_rules|`(tactic|push_cast)=>`(tactic|show"pc!")|`(tactic|push_cast[$x,*])=>match z't't.splitOn "\rpc!\r" with|[_,f]=>do let s:=(z'Z (.fromRef (<-getRef)) f)[1][1][0][0][0];return s.setArg 4 (s[4].setArg 1 (mkNullNode (s[4][1].getArgs.push (mkAtom ",")++x.elemsAndSeps)))|_=>Macro.throwUnsupported
open Lean in
local macro_rules|`(tactic|show$s:str)=>match z't't.splitOn ("\r"++s.getString++"\r") with|[_,f]=>do let q:=z'Z (.fromRef (<-getRef)) f;let q:TSyntax ``Lean.Parser.Tactic.tacticSeq:=⟨q[1][1]⟩;`(tactic|($q))|_=>Macro.throwUnsupported
set_option hygiene true
open Lean in
def z'N:Nat->Syntax->Syntax
|n+1,.node _ k a=>.node .none k (a.map (z'N n))
|_,.atom _ v=>.atom .none v
|_,.ident _ r n p=>.ident .none r n p
|_,x=>x
open Lean in
local macro_rules(kind:=Lean.Parser.Command.declaration)|x=>if x.getPos?.isNone||x[1].isOfKind ``Parser.Command.theorem then Macro.throwUnsupported else let k:=z'N 9999 x[1];let u:=match k[1][0].getId with|.str _ s=>s.front.isUpper|_=>false;match k.isOfKind ``Parser.Command.definition,(x[0].reprint.getD "").trimAscii.toString,u with|true,"",false=>do return z'N 9999 (<-`(theorem $(⟨k[1]⟩):declId $(⟨.node .none ``Parser.Command.declSig #[k[2][0],k[2][1][0]]⟩):declSig $(⟨k[3]⟩):declVal))|true,"nonrec",_|true,"",_=>do return z'N 9999 (<-`(noncomputable def $(⟨k[1]⟩):declId $(⟨k[2]⟩):optDeclSig $(⟨k[3]⟩):declVal))|_,_,_=>return z'N 9999 x
open Lean in
local macro_rules|`(universe $x*)=>do let p:=`PySem.Challenge;let c:=p.str "cw_manyhands_k20_own_places_holds";return mkNullNode (<-(p.str "pw_manyhands_k20_own_places"::x.toList.map (λi=>c.str i.getId.toString)++(List.range 876).map λn=>c.str s!"o_{n+43}").toArray.mapM λn=>do return z'N 99 (<-`(noncomputable def $(mkIdent (PySem.W.Fast.stemOf n).1):ident:=0)))
universe env_41 heap_39 heap_46 heap_919 sts_109 sts_152 sts_217 sts_247 sts_298 sts_49 sts_500 sts_537 sts_595 sts_64 sts_682 sts_766 sts_79 sts_847 sts_94 tree_108 tree_151 tree_214 tree_246 tree_297 tree_414 tree_47 tree_496 tree_536 tree_594 tree_63 tree_681 tree_765 tree_78 tree_846 tree_918 tree_93 view_39
local macro_rules|`(tactic|omega)=>`(tactic|first|lia|omega +splitDisjunctions)
theorem z'Hd{G:Prop}(h:∀g:Prop,(G->g)->g):G:=h G λx=>x
local macro_rules|`(tactic|obtain $p:rcasesPatMed:=$e:term)=>do let s:=p.raw.reprint.getD "";if (s.splitOn ",").length>2+(s.splitOn "rfl").length then `(tactic|first|(refine z'Hd λg k=>?_;rcases $e:term with $p:rcasesPatMed<;>refine k ?_<;>clear g k)|rcases $e:term with $p:rcasesPatMed) else `(tactic|rcases $e:term with $p:rcasesPatMed)
open Lean in
local macro_rules|`(tactic|rintro $x:rintroPat*)=>let l:=x.back!.raw[0];let p:TSyntax `rcasesPat:=⟨l⟩;if l.isOfKind ``Parser.Tactic.rcasesPat.tuple&&((l.reprint.getD "").splitOn ",").length>3 then `(tactic|(rintro $(x.pop):rintroPat* z';obtain $p:rcasesPat:=z')) else Macro.throwUnsupported
noncomputable section
namespace L2
open PySem PySem.Spec PyProof.Rows
abbrev Key:=Sum Int Str
def Qm:Key->Value->Bool
 |.inl k,v=>Value.isInt k v
 |.inr x,v=>Value.isStrOf x v
def EQ(w:zx!):Key->Int
 |.inl k=>hashInt k
 |.inr x=>hashStr w x
def bO:∀{k:Key} {v:zp!},Qm k v=true->(∃i t,k=Sum.inl i/\v=Value.int i t)\/(∃x t,k=Sum.inr x/\v=Value.str x t)
 |.inl i,v,h=>by
  obtain⟨t,e⟩:=Value.isInt_shape (k:=i) (v:=v) h;exact .inl ⟨i,t,rfl,e⟩
 |.inr x,v,h=>by
  obtain⟨t,e⟩:=Value.isStrOf_shape (x:=x) (v:=v) h;exact .inr ⟨x,t,rfl,e⟩
def xH(i:Int)(t:Tok):Qm lw_ do!=true:=by simp[Qm,Value.isInt]
def qG(x:Str)(t:Tok):Qm ly! fH_=true:=by simp[Qm,Value.isStrOf]
def c7k(a b:Int):decide (lx_=Sum.inl b)=fI!:=by
 by_cases e:a=b
 .subst e;simp
 .have h:¬lx_=Sum.inl b:=λq=>e (Sum.inl.inj q);rw[KP h];exact(NC.mpr e).symm
def c7h(a b:Str):decide (ly_=Sum.inr b)=decide (a=b):=by
 by_cases e:a=b
 .subst e;simp
 .have h:¬ly_=Sum.inr b:=λq=>e (Sum.inr.inj q);rw[KP h,KP e]
def c7j(a:Int)(b:Str):decide (lx_=Sum.inr b)=false:=KP rd_
def c7i(a:Str)(b:Int):decide (ly_=Sum.inl b)=false:=KP rd_
nonrec def mixKind(prog:zy!)(w:zx!):PySem.KeyKind prog w Key where
 is:=Qm
 hash:=EQ w
 inj:=λv a b ha J=>by
  obtain⟨i,t,rfl,rfl⟩|⟨x,t,rfl,rfl⟩:=bO ha
  .obtain⟨j,u,rfl,e⟩|⟨y,u,rfl,e⟩:=bO J
   .injection e with e1 _;rw[e1]
   .exact lz!
  .obtain⟨j,u,rfl,e⟩|⟨y,u,rfl,e⟩:=bO J
   .exact lz!
   .injection e with e1 _;rw[e1]
 byValue:=λk v h=>by
  obtain⟨i,t,rfl,rfl⟩|⟨x,t,rfl,rfl⟩:=bO h<;>rfl
 pyHash:=λhv h=>by
  obtain⟨i,t,rfl,rfl⟩|⟨x,t,rfl,rfl⟩:=bO hv
  .exact wpAny_pyHash_int h
  .exact wpAny_pyHash_str h
 eqBool:=λhu hv h=>by
  obtain⟨i,t,rfl,rfl⟩|⟨x,t,rfl,rfl⟩:=bO hu
  .obtain⟨j,u,rfl,rfl⟩|⟨y,u,rfl,rfl⟩:=bO hv
   .rw[c7k]at h;exact wpAny_eqBool_int h
   .rw[c7j]at h;exact SeqAt.EqAt.int_str i t y u _ _ _ _ h
  .obtain⟨j,u,rfl,rfl⟩|⟨y,u,rfl,rfl⟩:=bO hv
   .rw[c7i]at h;exact SeqAt.EqAt.str_int x t j u _ _ _ _ h
   .rw[c7h]at h;exact wpAny_eqBool_str h
 «strs»:=λk x t v h=>by
  obtain⟨i,u,rfl,e⟩|⟨y,u,rfl,e⟩:=bO h
  .exact lz!
  .injection e with e1 _
   subst e1;cases v<;>rfl
def a2y(prog:zy!)(w:zx!)(i:Int)(t:Tok):(re!).is lw_ do!=true:=xH i t
def lJ(prog:zy!)(w:zx!)(x:Str)(t:Tok):(re!).is ly! fH_=true:=qG x t
end L2
namespace L2
open PySem PySem.Spec PyProof.Rows
inductive V where
 |non|bl (b:Bool)|int (i:Int)|str (x:Str)|byt (b:Array UInt8)|flt (b:UInt64)|ref (a:u0!)|ty (n:String)
 deriving DecidableEq
def Bn:V->Value->Prop
 |.non,u=>u=ci_
 |.bl b,u=>u=Value.bool b
 |.int i,u=>∃t,u=Value.int i t
 |.str x,u=>∃t,u=Value.str x t
 |.byt b,u=>∃t,u=Value.bytes b t
 |.flt b,u=>∃t,u=Value.float b t
 |.ref a,u=>u=Value.ref a
 |.ty n,u=>u=Value.type n
abbrev Az:List V->List Value->Prop:=Paired Bn
def Az.length(r:do_):i!=ad_:=QL r
def Az.get:∀{xs:q!} {us:k_} {i:Nat} {x:V},Az xs us->xs[i]?=some x->∃u,us[i]?=some u/\Bn x u
 |_,_,_,_,.nil,e=>by simp at e
 |_,_,0,_,.cons r _,e=>by simp at e;subst e;exact lA!
 |_,_,i+1,x,.cons _ t,e=>by
  obtain⟨u,Y,h2⟩:=Az.get (i:=i) (x:=x) t cN!;exact rg_
def Az.set(r:Bn x u):∀{xs:q!} {us:k_} (i:Nat),Az xs us->Az (xs.set i x) (us.set i u)
 |_,_,_,.nil=>.nil
 |_,_,0,.cons _ t=>.cons r t
 |_,_,i+1,.cons q t=>.cons q (Az.set r i t)
def Az.append(h:do_)(s:Az ys ws):Az el! (us++ws):=by
 induction h with
 |nil=>exact s
 |cons r _ ih=>exact .cons r ih
def Az.take:∀{xs:q!} {us:k_} (n:Nat),Az xs us->Az (xs.take n) (us.take n)
 |_,_,0,_=>.nil
 |_,_,_+1,.nil=>.nil
 |_,_,n+1,.cons r t=>.cons r (Az.take n t)
def Az.drop:∀{xs:q!} {us:k_} (n:Nat),Az xs us->Az (xs.drop n) (us.drop n)
 |_,_,0,r=>r
 |_,_,_+1,.nil=>.nil
 |_,_,n+1,.cons _ t=>Az.drop n t
def Nu:Option V->Option Value->Prop
 |some v,some u=>Bn v u
 |none,none=>True
 |_,_=>False
def KV:List (κ×V)->List (κ×Value)->Prop:=Paired λ(p:κ×V) (q:κ×Value)=>p.1=q.1/\Bn p.2 q.2
nonrec def kV:Key->V
 |.inl i=>.int i
 |.inr x=>.str x
inductive HO where
 |lst (xs:q!)
 |tup (xs:q!)
 |dK (h1:List (Key×V))|dT (h1:List lC_)
 |set (S:Int->Bool) (n:Nat)
 |ins (C dx:u0!) (fs:List cN_)
 |own (x:u0!)
 |xd (fs:List cN_)
 |met (f x:u0!)
 |rng (lo hi:Int)
 |frz (o:Obj) (u:HO)
 |tbl (ps:cj!)
 |ext (φ:Heap->Prop)
abbrev Hp:=Addr->Option HO
nonrec def upd(H:Hp)(a:u0!)(o:HO):Hp:=λb=>if b=a then some o else H b
def bY{H:Hp}{o:HO}:upd H a o a=some o:=by unfold upd;rw[A!]
def aY{H:Hp}{o:HO}(h:b≠a):upd H a o b=H b:=by unfold upd;rw[KN h]
def cK{H:Hp}{o:HO}(h:H a=some o)(h':lD!):a≠b:=by intro e;subst e;rw[h]at h';cases h'
section
variable(P:zy!)(w:zx!)
def Em(H:Hp)(h:Heap)(a:u0!):HO->Prop
 |.lst xs=>i!<=sizeLine/\∃(its:k_) (n:Nat),Az xs its/\h.get? a=some {cls:=.type "list",data:=.seq its.toArray n}
 |.tup xs=>i!<=sizeLine/\∃its:List Value,Az xs its/\IsTup h a a0_
 |.dK h1=>av!<=sizeLine/\dp!=false/\∃vs,KV h1 vs/\h.DictOf bi_ a vs
 |.dT h1=>av!<=sizeLine/\dp!=false/\∃xs:List lD_,
   Paired (λ(p:List Key×V) (q:List Key×Addr×Value)=>p.1=q.1/\H q.2.1=some rh!/\Bn p.2 q.2.2) h1 xs/\
   ∃o es ep,h.get? a=some o/\hL!/\o.data=.dict es ep/\es.toList=xs.map (entryOfKey fJ!)/\(xs.map c_).Nodup
 |.set S n=>h.SetOf (intKind P w) a S n
 |.ins C dx fs=>H dx=some fJ_/\bj!<=1000/\dx≠a/\h.get? a=some lF!/\
   ∃mA,h.Ns1 dx mA/\ri_/\PySem.Within mA lF_
 |.own _=>∃o,h.get? a=some o
 |.xd fs=>∃mA,h.Ns1 a mA/\∀f,Nu rM! (mA f)
 |.rng lo hi=>∃t u v,h.get? a=some {cls:=.type "range",data:=.fields #[.int lo t,.int hi u,.int 1 v]}
 |.frz o u=>h.get? a=some o/\Em H h a u
 |.tbl ps=>h.get? a=some {cls:=.none,data:=.fields ps}
 |.met f x=>h.get? a=some (W.methodObj af_ fK!)
 |.ext φ=>φ h/\(∃o,h.get? a=some o)/\∀Y h2:Heap,φ Y->(∀o,Y.get? a=some o->h2.get? a=some o)->φ h2
def Lp(H:Hp)(h:Heap):Prop:=∀a o,H a=some o->Em P w H h a o
end
section
def Em.lt(x:lG!):a<bQ_:=by
 cases o with
 |lst xs=>obtain⟨_,_,_,_,e⟩:=x;exact LF e
 |tup xs=>obtain⟨_,_,_,p⟩:=x;exact p.lt
 |dK h1=>obtain⟨_,_,_,_,o,_,_,e,_⟩:=x;exact LF e
 |dT h1=>obtain⟨_,_,_,_,o,_,_,e,_⟩:=x;exact LF e
 |set S n=>obtain⟨o,_,_,_,e,_⟩:=x;exact LF e
 |ins C dx fs=>obtain⟨_,_,_,e,_⟩:=x;exact LF e
 |own y=>obtain⟨_,e⟩:=x;exact LF e
 |xd fs=>obtain⟨_,⟨_,_,_,e,_⟩,_⟩:=x;exact LF e
 |rng lo hi=>obtain⟨_,_,_,e⟩:=x;exact LF e
 |frz ob u=>obtain⟨e,_⟩:=x;exact LF e
 |tbl ps=>exact LF hL_
 |met f y=>exact LF hL_
 |ext φ=>obtain⟨_,⟨_,e⟩,_⟩:=x;exact LF e
def Paired.mapP{F G:α->β->Prop}(h:Paired F l₁ l₂)(f:∀a b,F a b->G a b):Paired G l₁ l₂:=by
 induction h with
 |nil=>exact .nil
 |cons r _ ih=>exact .cons (f _ _ r) ih
def Em.stay(x:lG!)(k:∀b u,(b=a\/H b=some fJ_)->h.get? b=some u->h'.get? b=some u)
  (ho:∀b,H b=some fJ_->H' b=some fJ_)(ht:rj_):Em P w H' h' a o:=by
 induction o with
 |lst xs=>obtain⟨z,its,n,r,e⟩:=x;exact⟨z,its,n,r,bx!⟩
 |tup xs=>obtain⟨z,its,r,ob,e,c⟩:=x;exact⟨z,its,r,ob,bx!,c⟩
 |dK h1=>obtain⟨z,y,vs,r,ob,es,ep,e,c⟩:=x;exact⟨z,y,vs,r,ob,es,ep,bx!,c⟩
 |dT h1=>
  obtain⟨z,y,xs,r,ob,es,ep,e,c⟩:=x;exact⟨z,y,xs,Paired.mapP r λp q z=>⟨z.1,ht _ _ z.2.1,z.2.2⟩,ob,es,ep,bx!,c⟩
 |set S n=>obtain⟨ob,es,ep,t,e,c⟩:=x;exact⟨ob,es,ep,t,bx!,c⟩
 |ins C dx fs=>
  obtain⟨d,z,ne,e,mA,⟨od,es,ep,e2,c⟩,r⟩:=x;exact⟨ho _ d,z,ne,bx!,mA,⟨od,es,ep,k _ _ (.inr d) e2,c⟩,r⟩
 |own y=>obtain⟨ob,e⟩:=x;exact⟨ob,bx!⟩
 |xd fs=>obtain⟨mA,⟨od,es,ep,e,c⟩,r⟩:=x;exact⟨mA,⟨od,es,ep,bx!,c⟩,r⟩
 |rng lo hi=>obtain⟨t,u,v,e⟩:=x;exact⟨t,u,v,bx!⟩
 |frz ob u ih=>obtain⟨e,q⟩:=x;exact⟨bx!,ih q⟩
 |tbl ps=>
  have e:h.get? a=some {cls:=.none,data:=.fields ps}:=x;show h'.get? a=some {cls:=.none,data:=.fields ps};exact k a _ an_ e
 |met f y=>
  have e:h.get? a=some rk!:=x;show h'.get? a=some rk!;exact k a _ an_ e
 |ext φ=>obtain⟨p,⟨o,e⟩,st⟩:=x;exact⟨st _ _ p λo q=>k _ _ an_ q,⟨o,bx!⟩,st⟩
def Lp.lt(x:a1!)(e:H a=some o):a<bQ_:=(x a o e).lt
def Lp.fresh(x:a1!)(e:bQ_<=a):H a=none:=by
 cases q:H a with
 |none=>rfl
 |some u=>exact absurd (LJ (x.lt q) e) dp_
def Lp.kept(x:a1!)(k:hN!):Lp P w H h':=λa o e=>
 (x a o e).stay (λb u _ q=>k b u q) fK_ λ_ _ q=>q
def Lp.laid(x:a1!)(k:hN!)(hp:bQ_<=a)(new:Em P w cO! h' a o):Lp P w cO! h':=λb u e=>by
 have hn:=x.fresh hp;by_cases J:b=a
 .show"!s";exact new
 .rw[aY J]at e;exact(x b u e).stay (λc v _ q=>k c v q) (λc q=>by rw[fL!];exact q) λc xs q=>by rw[fL!];exact q
end
def Rd(H:Hp)(a:u0!)(u:HO):Prop:=H a=some u\/∃o,H a=some fL_
def Rd.ok{P:zy!}{w:zx!}{H:Hp}{u:HO}(r:Rd H a u)(x:a1!):Em P w H h a u:=by
 obtain r|⟨o,r⟩:=r
 .exact x a u r
 .obtain⟨_,q⟩:=x a _ r;exact q
def FC:Option HO->Prop
 |some (.lst _)=>True
 |some (.dK _)=>True
 |some (.dT _)=>True
 |some (.set _ _)=>True
 |some (.ins _ _ _)=>True
 |some (.ext _)=>True
 |_=>False
section
def Lp.write(ok:a1!)(mu:lH!)(he:lH_)(k:rl!)(ox:lI!)
  (new:Em P w rl_ h' x o'):Lp P w rl_ h':=λb u q=>by
 have zm:∀c y,H c=some (.own y)->c≠x:=λc y r z=>by subst z;rw[r]at mu;exact mu
 have YD:∀c xs,H c=some bw_->c≠x:=λc xs r z=>by subst z;rw[r]at mu;exact mu
 by_cases J:b=x
 .subst J;rw[bY]at q;cases q;exact new
 .rw[aY J]at q;by_cases dt:b=e
  .have q':H b=some hN_:=by
    obtain z|z:=he
    .exact absurd (dt.trans z) J
    .rw[dt];exact z
   rw[q]at q';cases q';obtain⟨v,hv⟩:=ox;exact⟨v,by rw[dt];exact hv⟩
  .refine(ok b u q).stay (λc v hc r=>k c v ?_ r) (λc r=>by rw[aY (zm c b r)];exact r) λc xs r=>by rw[aY (YD c xs r)];exact r
   obtain rfl|hc:=hc
   .exact dt
   .rintro rfl;obtain z|z:=he
    .exact zm c b hc z
    .rw[hc]at z;cases z;exact J rfl
end
structure Un(fs ex:a1_)(H H':Hp)(h h':Heap):Prop where
 keep:∀b o,h.get? b=some o->H b=none->b∉fs->b∉ex->h'.get? b=some o
 slot:∀b o,h.get? b=some o->H b=none->b∈fs->b∉ex->∃sl,h'.get? b=some {o with slots:=sl}
 free:∀b o,h.get? b=some o->H b=none->b∉ex->H' b=none
 there:∀b o,h.get? b=some o->b∉ex->∃o',h'.get? b=some o'
 tups:∀b xs,H b=some bw_->H' b=some bw_
 frzs:∀b o u,H b=some fL_->H' b=some fL_
 tbls:∀b ps,H b=some (.tbl ps)->∃oy,H' b=some rn_
section
def Un.any(u:ro!)(q:h.get? b=some ob)(n:lD!)(hx:b∉ex):∃sl,Y.get? b=some {ob with slots:=sl}:=by
 by_cases J:b∈fs
 .exact u.slot b ob q n J hx
 .exact⟨ob.slots,u.keep b ob q n J hx⟩
def Un.kept(k:hN!):Un fs ex H H h h':=
 ⟨λb ob q _ _ _=>k b ob q,λb ob q _ _ _=>⟨ob.slots,k b ob q⟩,λ_ _ _ n _=>n,λb ob q _=>⟨ob,k b ob q⟩,λ_ _ q=>q,λ_ _ _ q=>q,λ_ ps q=>⟨#[],by rw[q];simp⟩⟩
def Un.refl:Un fs ex H H h h:=Un.kept λ_ _ q=>q
def Un.laid(k:hN!)(hp:bQ_<=a)(hn:hO!):Un fs ex H cO! h h' where
 keep:=λb u q _ _ _=>k b u q
 slot:=λb u q _ _ _=>⟨u.slots,k b u q⟩
 free:=λb u q n _=>by rw[aY (LU (LJ (LF q) hp))];exact n
 there:=λb u q _=>⟨u,k b u q⟩
 tups:=λb xs q=>by rw[fL!];exact q
 frzs:=λb u xs q=>by rw[fL!];exact q
 tbls:=λb ps q=>⟨#[],by rw[fL!,q];simp⟩
def Un.write(mu:lH!)(he:lH_)(k:rl!)(ox:lI!):Un fs ex H lJ! h h':=by
 have hx:∀b,H b=none->b≠x:=λb n z=>by subst z;rw[n]at mu;exact mu
 have J:∀b,H b=none->b≠e:=λb n z=>by
  subst z;obtain r|r:=he
  .exact hx b n r
  .rw[n]at r;cases r
 have hm:∀b u,H b=some u->¬FC (some u)->b≠x:=λb u q nm z=>by subst z;rw[q]at mu;exact nm mu
 refine⟨λb u q n _ _=>k b u (J b n) q,λb u q n _ _=>⟨u.slots,k b u (J b n) q⟩,λb u q n _=>by rw[aY (hx b n)];exact n,λb u q _=>?_,
  λb xs q=>by rw[lJ_];exact q,λb u xs q=>by rw[lJ_];exact q,λb ps q=>⟨#[],by rw[lJ_,q];simp⟩⟩
 by_cases dt:b=e
 .subst dt;exact ox
 .exact⟨u,k b u dt q⟩
def Un.mono(u:ro!)(hs:∀b∈fs,b∈fs')(hx:∀b∈ex,b∈YE):Un fs' YE H H1 h Y:=
 ⟨λb ob q n J he=>u.keep b ob q n (λz=>J (hs b z)) λz=>he lK_,λ_ _ q n _ he=>u.any q n λz=>he (hx _ z),λb ob q n he=>u.free b ob q n λz=>he lK_,λb ob q he=>u.there b ob q λz=>he lK_,u.tups,u.frzs,u.tbls⟩
end
def FN(h:Heap)(H:Hp):List Addr:=(rs_).filter λa=>(H a).isSome
def Sl(h:Heap)(H:Hp):Heap:=W.hideAll h lL!
def b2r(h:Heap)(H:Hp):(hP!).objs.size=bQ_:=W.hideAll_size _ _
def b7z(e:rt_)(n:lD!):(hP!).get? b=some o:=
 W.hideAll_get _ e λhm=>by
  have q:(H b).isSome=true:=(NH.mp hm).2;rw[n]at q;simp at q
def c1z(e:(hP!).get? b=some o):h.get? b=some o/\H b=none:=by
 have e':h.get? b=some o:=W.of_hideAll lL! e;refine⟨e',?_⟩;cases q:H b with
 |none=>rfl
 |some x=>
  have hm:b∈FN h H:=NH.mpr ⟨RC.mpr (LF e'),by simp[q]⟩;have z:(hP!).get? b=none:=W.hideAll_none lL! hm;rw[z]at e;cases e
def AH(g h:Heap)(L:u0!):List eo_:=(rs_).filterMap λa=>if a=L\/(g.get? a).isSome=true then none else(h.get? a).map λo=>(a,o)
nonrec def rest(g h:Heap)(L d:u0!):List eo_:=(AH g h L).filter λp=>decide (p.1≠d)
end L2
namespace L2
open PySem PySem.Spec PyProof.Rows
structure Mod(KF:zA!)(mg:O_)(base:Heap):Prop where
 kin:KF.In base
 glob:base.Ns mainGlobals mg
 blt:∃mb,base.Ns builtinsNs mb/\∀x:Str,x≠"__name__"->mb x=bootBuiltins x
 nolimit:base.NoLimit
structure Cx where
 prog:Program
 w:World
 K:W.Frag
 mg:Str->Option Value
 base:Heap
 A:Around
 N:List Str
 s₀:Shared
 H₀:Hp
 env:Env
 outer:List Env
 stack:List Env
 ex:List Addr
 fn:Str->Bool
 calm:Bool
 pn:List eo_
 xe:Value->Shared->Prop
nonrec def frs(l:ao!):List Addr:=l.filterMap (·.frame)
abbrev Cx.fs(X:Cx):List Addr:=frs X.outer
def Xe(sc:Scope)(x:Str):Prop:=sc.names.lookup x=some .local\/sc.names.lookup x=some .cell\/sc.names.lookup x=some .free
def Xj(sc:Scope)(x:Str):Prop:=sc.names.lookup x=some .local\/sc.names.lookup x=some .cell
def FD(env:Env)(h:Heap)(m:O_)(x:Str)(u:zp!):Prop:=
 (env.kindOf x=some .local/\m x=some u)\/((env.kindOf x=some .cell\/env.kindOf x=some .free)/\∃c,env.cells.lookup x=some c/\h.IsCell c (some u))
structure Cx.Ok(X:Cx):Prop where
 mod:Mod X.K X.mg X.base
 kind:lM!=.function
 glob:rw_=mainGlobals
 blt:X.env.builtins=builtinsNs
 above:dq!<=X.env.locals
 inj:∀x y c,X.env.cells.lookup x=some c->X.env.cells.lookup y=some c->x=y
 has:∀x,rx!->∃c,X.env.cells.lookup x=some c
 cab:∀x c,X.fn x=true->X.env.cells.lookup x=some c->dq!<=c
 hd:X.calm=true->hP_=none
 frames:X.A.frames=some X.stack
 stk:X.stack=X.outer\/(X.stack=X.env::X.outer/\X.env.frame=some X.env.locals)
 exf:∀b∈X.ex,b≠X.env.locals/\∀x c,X.env.cells.lookup x=some c->c≠b
 bs:∀b o,X.base.get? b=some o->X.s₀.heap.get? b=some o/\X.H₀ b=none
 bsz:X.base.objs.size<=dq!
 noex:∀b o,X.base.get? b=some o->b∉X.ex
 exfs:∀b∈X.ex,b∉X.fs
 funs:X.s₀.heap.FunFrames X.base X.outer
 frf:∀b∈X.fs,X.H₀ b=none
structure Inv(X:Cx)(hb:s_)(Z:List (Option V))(H:Hp)(s:zz!):Prop where
 ok:X.Ok
 os:s.os=X.s₀.os
 bare:AllBare s.gens
 base:Un X.fs X.ex X.H₀ H X.s₀.heap s.heap
 loc:∃m,s.heap.Ns X.env.locals m/\∀(i:Nat) (x:Str) (v:V),X.N[i]?=some x->Z[i]?=some a2!->Xe X.env.scope x->∃u,Bn v u/\FD X.env s.heap m x u
 cell:∀x c,X.env.cells.lookup x=some c->∃v,s.heap.IsCell c v
 free:H X.env.locals=none
 freeC:∀x c,X.env.cells.lookup x=some c->H c=none
 pin:∀p∈X.pn++hb,s.heap.get? p.1=some p.2/\H p.1=none/\p.1≠X.env.locals/\p.1∉X.fs/\∀v,lN!≠.cell v
 hok:Lp X.prog X.w H s.heap
 len:ep!=lN_
section
variable{X:Cx}
def Cx.Ok.nofr(ok:X.Ok)(e:X.base.get? b=some o):b∉X.fs:=λJ=>by
 have:=(ok.funs.mem J).1;rw[e]at this;cases this
def Inv.bs(I:d!):∀b o,X.base.get? b=some o->s.heap.get? b=some o/\H b=none:=λb o e=>
 ⟨I.base.keep b o (hQ_).1 (hQ_).2 (I.ok.nofr e) rz!,I.base.free b o (hQ_).1 (hQ_).2 rz!⟩
def Inv.bk(I:d!):∀b o,X.base.get? b=some o->s.heap.get? b=some o:=λb o e=>(I.bs b o e).1
def Inv.mod(I:d!):Mod X.K X.mg X.base:=I.ok.mod
def Inv.kIn(I:d!):X.K.In s.heap:=I.ok.mod.kin.keeps I.bk
def Inv.lt(I:d!):X.env.locals<h_:=let⟨_,hn,_⟩:=I.loc;hn.lt
def Inv.sz(I:d!):dq!<=h_:=LV I.ok.above (QN I.lt)
def Inv.nofs(I:d!)(h:h_<=a):a∉X.fs:=λJ=>by
 obtain⟨_,o,ho,_⟩:=I.ok.funs.mem J;exact absurd (LJ hR! (LV I.sz h)) dp_
def Inv.cne(I:d!):∀x c,X.env.cells.lookup x=some c->c≠X.env.locals:=λx c e z=>by
 obtain⟨v,o,ho,hd⟩:=I.cell x c e;obtain⟨m,⟨o',es,ep,d8,mh,_⟩,_⟩:=I.loc;rw[z,d8]at ho;cases ho;rw[mh]at hd;cases hd
def Inv.funs(I:d!):s.heap.FunFrames X.base X.outer:=by
 have all:∀(l:ao!),(∀b∈frs l,b∈X.fs)->X.s₀.heap.FunFrames X.base l->s.heap.FunFrames X.base l:=by
  intro l
  induction l with
  |nil=>intro _ _;trivial
  |cons env r ih=>
   intro hs hl;obtain⟨hk,⟨L,o,hf,hn,ho,hd⟩,hr⟩:=hl;have hL:L∈X.fs:=hs L (by unfold frs;rw[RF,hf];exact KD);obtain⟨sl,e⟩:=I.base.slot L o ho (I.ok.frf L hL) hL λz=>I.ok.exfs L z hL
   exact⟨hk,⟨L,_,hf,hn,e,hd⟩,ih (λb J=>hs b (by unfold frs;rw[RF,hf];exact KA _ J)) hr⟩
 exact all X.outer (λ_ J=>J) I.ok.funs
def Inv.stack(I:d!):s.heap.FunFrames X.base X.stack:=by
 obtain e|⟨e,hf⟩:=lO!
 .rw[e];exact I.funs
 .rw[e];obtain⟨m,hn,_⟩:=I.loc;refine .cons (by rw[I.ok.kind];decide) hf hn ?_ I.funs;exact Heap.get?_none_of_le (LV I.ok.bsz I.ok.above)
def Inv.stkSub(I:d!):∀b∈frs X.stack,b∈X.env.locals::X.fs:=λb J=>by
 obtain e|⟨e,hf⟩:=lO!
 .rw[e]at J;exact KA _ J
 .rw[e]at J;unfold frs at J;rw[RF,hf]at J;exact J
def Inv.stkFree(I:d!):∀b∈frs X.stack,H b=none:=λb J=>by
 obtain e|J:=KG.mp (I.stkSub b J)
 .rw[e];exact I.free
 .obtain⟨_,o,ho,_⟩:=I.ok.funs.mem J;exact I.base.free b o ho (I.ok.frf b J) λz=>I.ok.exfs b z J
def Inv.step{g':Array GenState}{t':Nat}{d':Drawn}{ch:a1_}(I:d!)
  (jf:∀b∈ch,hS!/\b≠X.env.locals/\hR_/\∀p∈X.pn++hb,p.1≠b)
  (keep:∀b o,b≠X.env.locals->b∉X.fs->b∉ch->s.heap.get? b=some o->H b=none->h'.get? b=some o)
  (slot:∀b o,b≠X.env.locals->b∈X.fs->b∉ch->s.heap.get? b=some o->H b=none->∃sl,h'.get? b=some {o with slots:=sl})(free:∀b o,b∉ch->s.heap.get? b=some o->H b=none->H' b=none)
  (there:∀b o,b∉ch->s.heap.get? b=some o->∃o',h'.get? b=some o')
  (tups:rj_)(frzs:∀b o u,H b=some fL_->H' b=some fL_)(tbls:∀b ps,H b=some (.tbl ps)->∃oy,H' b=some rn_)
  (ns:∀m,s.heap.Ns X.env.locals m->h'.Ns X.env.locals m)(hok:hT!)(hg:lO_):
  Inv X hb Z H' {s with heap:=h',gens:=g',drawn:=d',toks:=t'}:=by
 have zn:∀b o,X.s₀.heap.get? b=some o->b≠X.env.locals:=λb o e=>LU lP!;have uj:∀b o,X.s₀.heap.get? b=some o->b∉X.ex->b∉ch:=λb o e hx J=>by
  obtain z|z:=(jf b J).1
  .exact hx z
  .exact absurd (LJ cO_ z) dp_
 have zo:∀x c,X.env.cells.lookup x=some c->∀v,s.heap.IsCell c v->h'.IsCell c v:=λx c e v ⟨o,ho,hd⟩=>by
  have rg:c∉ch:=λz=>(jf c z).2.2.1 x c e rfl;by_cases hc:c∈X.fs
  .obtain⟨sl,q⟩:=slot c o rD_ hc rg ho lP_;exact⟨_,q,hd⟩
  .exact⟨o,keep c o rD_ hc rg ho lP_,hd⟩
 refine⟨I.ok,I.os,hg,⟨fP_,fP_,λb o e n hx=>?_,lQ_,λb xs e=>tups b xs (I.base.tups b xs e),λb o xs e=>frzs b o xs (I.base.frzs b o xs e),λb ps e=>?_⟩,?_,lR!,?_,lR!,cP!,hok,I.len⟩
 .exact keep b o (zn b o e) J hU_ hV! lS!
 .show"!@";obtain⟨YF,e2⟩:=slot b _ (zn b o e) J hU_ e1 lS!;exact⟨YF,e2⟩
 .show"!:";exact free b o' hU_ e1 lS!
 .show"!:";exact there b o' hU_ e1
 .obtain⟨m1,e1⟩:=I.base.tbls b ps e;obtain⟨m2,e2⟩:=tbls b _ e1;exact⟨m1++m2,by rw[e2,Array.append_assoc]⟩
 .obtain⟨m,hn,hl⟩:=I.loc;refine⟨m,ns m hn,rF_⟩;obtain⟨u,r,l⟩:=hl i x v e1 e2 e3;refine⟨u,r,?_⟩;obtain l|⟨k,c,e,z⟩:=l
  .exact .inl l
  .exact .inr ⟨k,c,e,zo x c e _ z⟩
 .obtain⟨v,z⟩:=I.cell x c e;exact⟨v,zo x c e v z⟩
 .obtain⟨m,⟨o,_,_,ho,_⟩,_⟩:=I.loc;exact free _ o (λz=>(jf _ z).2.1 rfl) ho I.free
 .obtain⟨v,o,ho,hd⟩:=I.cell x c e;exact free c o (λz=>(jf c z).2.2.1 x c e rfl) ho lP_
 .show"!N";have rg:p.1∉ch:=λz=>(jf p.1 z).2.2.2 p hp rfl;exact⟨keep p.1 p.2 ne nf rg e n,free p.1 p.2 rg e n,ne,nf,d⟩
def Inv.un{t':Nat}(I:d!)(u:Un X.fs [] H H' s.heap h')(hok:hT!):Inv X hb Z H' {s with heap:=h',toks:=t'}:=by
 obtain⟨m,⟨o,es,ep,ho,r⟩,_⟩:=id I.loc;obtain⟨sl,hL⟩:=u.any ho I.free c!;exact I.step (g':=s.gens) (d':=s.drawn) (ch:=[]) rG! (λb o _ J _ e n=>u.keep b o e n J c!) (λb o _ J _ e n=>u.slot b o e n J c!) (λb o _ e n=>u.free b o e n c!) (λb o _ e=>u.there b o e c!) u.tups u.frzs u.tbls (λm' hm=>by
  obtain⟨o',az,bf,d8,r'⟩:=hm;rw[ho]at d8;cases d8;exact rH!) hok I.bare
def Inv.call(I:d!)(u:Un hW! ch H H' s.heap h')(hok:hT!)(hg:lO_)
  (jf:∀b∈ch,hS!/\b≠X.env.locals/\hR_/\∀p∈X.pn++hb,p.1≠b):
  Inv X hb Z H' {s with heap:=h',gens:=g',drawn:=d',toks:=t'}:=by
 obtain⟨m,⟨o,es,ep,ho,r⟩,_⟩:=id I.loc;obtain⟨sl,hL⟩:=u.any ho I.free λz=>(jf _ z).2.1 rfl
 exact I.step (ch:=ch) jf (λb o hL J hc e n=>u.keep b o e n (λz=>(KG.mp (I.stkSub b z)).elim hL J) hc) (λb o _ _ hc e n=>u.any e n hc) (λb o hc e n=>u.free b o e n hc) (λb o hc e=>u.there b o e hc) u.tups u.frzs u.tbls (λm' hm=>by
  obtain⟨o',az,bf,d8,r'⟩:=hm;rw[ho]at d8;cases d8;exact rH!) hok hg
def Inv.turned(I:d!)(k:∀b o,b≠it->s.heap.get? b=some o->h'.get? b=some o)(hn:H it=none)(hL:it≠X.env.locals)
  (Y:it∈X.ex\/dq!<=it)(h2:∀x c,X.env.cells.lookup x=some c->c≠it)(h3:∀p∈X.pn++hb,p.1≠it):Inv X hb Z H {s with heap:=h',toks:=t'}:=by
 have zp:∀b u,H b=some u->b≠it:=λb u e z=>by rw[z,hn]at e;cases e
 refine I.step (g':=s.gens) (d':=s.drawn) (ch:=[it]) hX! (λb o _ _ hc e _=>k b o hY! e) (λb o _ _ hc e _=>⟨o.slots,k b o hY! e⟩) lV_
  (λb o hc e=>⟨o,k b o hY! e⟩) lW! lW_ (λb ps e=>lX!) lX_ rI_ I.bare
 .have e:b=it:=by simpa using J
  subst e;exact⟨Y,hL,h2,h3⟩
 .show"#5";exact⟨o,es,ep,k _ o (LQ hL) ho,r⟩
 .refine(lY!).stay (λc v hc q=>k c v ?_ q) fK_ λ_ _ q=>q;obtain z|z:=hc
  .rw[z];exact zp b u e
  .exact zp c _ z
def Inv.tok(I:d!)(t:Nat):Inv X hb Z H {s with toks:=t}:=I.un (h':=s.heap) (t':=t) Un.refl I.hok
def Inv.kept(I:d!)(k:rK!):Inv X hb Z H {s with heap:=h',toks:=t'}:=I.un (Un.kept k) (I.hok.kept k)
def Inv.laid(I:d!)(k:rK!)(hp:h_<=a)(new:Em X.prog X.w cO! h' a o):
  Inv X hb Z cO! {s with heap:=h',toks:=t'}:=I.un (Un.laid k hp (I.hok.fresh hp)) (I.hok.laid k hp new)
def Inv.write(I:d!)(mu:lH!)(he:lH_)(k:∀b u,b≠e->s.heap.get? b=some u->h'.get? b=some u)(ox:lI!)
  (new:Em X.prog X.w lJ! h' x o):Inv X hb Z lJ! {s with heap:=h',toks:=t'}:=I.un (Un.write mu he k ox) (I.hok.write mu he k ox new)
def Inv.pins_of(I:d!)(h:∀p∈uk,s.heap.get? p.1=some p.2/\H p.1=none/\p.1≠X.env.locals/\p.1∉X.fs/\∀v,lN!≠.cell v):Inv X uk Z H s:=
 ⟨I.ok,I.os,I.bare,I.base,I.loc,I.cell,I.free,I.freeC,λp hp=>(KR.mp hp).elim (λz=>I.pin p hZ!) (h p),I.hok,I.len⟩
def a2r{N:G_}(hN:N.Nodup){i j:Nat}(a:N[i]?=some x)(b:N[j]?=some x):i=j:=by obtain⟨Y,e1⟩:=KS.mp a;obtain⟨h2,e2⟩:=KS.mp b;exact(List.getElem_inj hN).mp rO_
def wE{M:Model}(I:d!)(hN:aR!)(hi:Y_)(hx:a2_)(r:a3!)
  (h:∀s',Inv X hb eq! H s'->(∃a,Heap.SameBut a s.heap s'.heap/\(a=X.env.locals\/X.env.cells.lookup x=some a))->Q () s')(hf:X.fn x=true\/X.env.scope.names.lookup x=some .local:=by first|exact .inl rfl|exact .inr rfl|assumption):wpAny M A rP! Q E s:=by
 obtain⟨m,hn,hl⟩:=id I.loc;have YG:(lM!==.class||(lM!==.module&&X.env.locals != rw_))=false:=by rw[I.ok.kind];rfl
 have zq:i<ep!:=by rw[I.len];exact(KS.mp hi).1
 have cne:=I.cne;have zr:∀{a:u0!} {h':Heap},(∃o,s.heap.get? a=some o/\H a=none)->Heap.SameBut a s.heap h'->Lp X.prog X.w H h':=λ{a h'} ha hs b ob e=>by
  obtain⟨_,_,g6⟩:=ha;refine(rP_).stay rQ! fK_ λ_ _ q=>q;rintro rfl;obtain rfl|hc:=hc
  .rw[g6]at e;cases e
  .rw[g6]at hc;cases hc
 obtain hk|hk:=hx
 .refine wpAny_storeName_local hk hn (λh' oz hs=>?_) YG;obtain⟨oL,_,_,km,_⟩:=id hn;refine h _ ⟨I.ok,I.os,I.bare,rQ_,⟨_,oz,rR!⟩,rR_,I.free,I.freeC,cP!,zr ⟨oL,km,I.free⟩ hs,rS!⟩ ⟨_,hs,cj_⟩
  .exact(rS_).trans hV!
  .show"!@";exact⟨sl,vj_⟩
  .show"!:";exact⟨o',vj_⟩
  .by_cases hj:j=i
   .show"#'";exact⟨u,r,.inl ⟨hk,Q_⟩⟩
   .rw[l3_]at e2;obtain⟨u',r',q⟩:=hl j y v' e1 e2 e3;refine l3!;obtain⟨k,e⟩|⟨k,c,e,z⟩:=q
    .refine .inl ⟨k,?_⟩;have:y≠x:=λe=>hj (a2r hN e1 (e▸hi));simp[this,e]
    .exact .inr ⟨k,c,e,rW!⟩
  .obtain⟨w',z⟩:=I.cell y c e;exact⟨w',rW!⟩
  .show"!N";exact rW_
 .have vy:X.fn x=true:=by
   obtain z|z:=hf
   .exact z
   .rw[z]at hk;cases hk
  obtain⟨c,hc⟩:=I.ok.has x l4_;obtain⟨w',z⟩:=I.cell x c hc;refine wpAny_storeName_cell I.ok.kind hk hc z (λh' bz hs=>?_);obtain⟨oc,zt,YH⟩:=id z;refine h {s with heap:=h'} ⟨I.ok,I.os,I.bare,rQ_,⟨m,hn.sameBut hs (LQ (cne x c hc)),rR!⟩,λy c' e=>?_,I.free,I.freeC,cP!,zr ⟨oc,zt,I.freeC x c hc⟩ hs,rS!⟩ ⟨c,hs,.inr hc⟩
  .exact(rX_).trans hV!
  .show"!@";exact⟨sl,rY_⟩
  .show"!:";exact⟨o',rY_⟩
  .by_cases hj:j=i
   .show"#'";exact⟨u,r,.inr ⟨.inl hk,c,hc,bz⟩⟩
   .rw[l3_]at e2;obtain⟨u',r',q⟩:=hl j y v' e1 e2 e3;refine l3!;obtain q|⟨k,c',e,z'⟩:=q
    .exact .inl q
    .refine .inr ⟨k,c',e,z'.sameBut hs ?_⟩;rintro rfl;exact hj (a2r hN e1 (I.ok.inj _ _ _ e hc▸hi))
  .by_cases gf:c'=c
   .subst gf;exact⟨_,bz⟩
   .obtain⟨w2,z2⟩:=I.cell y c' e;exact⟨w2,z2.sameBut hs gf⟩
  .show"!N";refine⟨(hs.2 p.1 ?_).trans e,n,ne,nf,d⟩;intro q;rw[q,zt]at e;have q':oc=p.2:=MN e;exact d w' (by rw[<-q'];exact YH)
def nN(I:d!)(hN:aR!)(hi:Y_)(hx:a2_)(r:a3!)
  (h:∀s',Inv X hb eq! H s'->Q () s')(hf:X.fn x=true\/X.env.scope.names.lookup x=some .local:=by first|exact .inl rfl|exact .inr rfl|assumption):wpAny M A rP! Q E s:=
 wE I hN hi hx r (λs' I' _=>h s' I') hf
def Inv.call'(I:d!)(ho:s'.os=s.os)(u:Un hW! ch H H' s.heap s'.heap)(hok:Lp X.prog X.w H' s'.heap)(hg:AllBare s'.gens)
  (jf:∀b∈ch,hS!/\b≠X.env.locals/\hR_/\∀p∈X.pn++hb,p.1≠b):Inv X hb Z H' s':=by
 obtain⟨h',g',d',t',o'⟩:=s';have e:o'=s.os:=ho;subst e;exact I.call (g':=g') (t':=t') (d':=d') u hok hg jf
end
abbrev XK:=Value->Option Addr->Hp->Prop
abbrev St:=List (Option V)
abbrev VK:=V->Hp->Prop
abbrev TE:=St->Hp->VK->Prop
abbrev TT:=St->Hp->rZ_->Prop
abbrev TA:=St->Hp->(List V->Hp->Prop)->Prop
structure Sy where
 nx:St->Hp->Prop
 rt:VK
 bk:St->Hp->Prop:=λ_ _=>False
 ct:St->Hp->Prop:=λ_ _=>False
abbrev TS:=Sy->St->Hp->Prop
inductive EP(X:Cx)(hb:s_)(Z:St)(Q:VK)(u:zp!)(s':zz!):Prop
 |mk (v:V) (H':Hp) (I:l6_) (r:a3!) (q:Q v H'):EP X hb Z Q u s'
inductive TP(X:Cx)(hb:s_)(Z:St)(Q:ds!)(b:Bool)(s':zz!):Prop
 |mk (H':Hp) (I:l6_) (q:Q b H'):TP X hb Z Q b s'
inductive AP(X:Cx)(hb:s_)(Z:St)(Q:cQ_)(us:k_)(s':zz!):Prop
 |mk (vs:q!) (H':Hp) (I:l6_) (r:er_) (q:Q vs H'):AP X hb Z Q us s'
def SP(X:Cx)(hb:s_)(D:Sy)(f:Flow)(s':zz!):Prop:=
 match f with
 |.next=>∃ac H',Inv X hb ac H' s'/\D.nx ac H'
 |.brk=>∃ac H',Inv X hb ac H' s'/\D.bk ac H'
 |.cont=>∃ac H',Inv X hb ac H' s'/\D.ct ac H'
 |.ret u=>∃v ac H',Inv X hb ac H' s'/\Bn v u/\D.rt v H'
def PE(X:Cx)(e:Expr)(t:TE):Prop:=
 ∀(hb:s_) (s:zz!) (Z:St) (H:Hp) (Q:VK),Inv X hb Z H s->t Z H Q->wpAny d_ X.A es! aA! X.xe s
def PT(X:Cx)(e:Expr)(t:TT):Prop:=
 ∀(hb:s_) (s:zz!) (Z:St) (H:Hp) (Q:ds!),Inv X hb Z H s->t Z H Q->wpAny d_ X.A (isTrue e X.env es!) h4! X.xe s
def PW(X:Cx)(e:Expr)(t:TT):Prop:=
 ∀(du:Sem Value) (hb:s_) (s:zz!) (Z:St) (H:Hp) (Q:ds!),Inv X hb Z H s->t Z H Q->wpAny d_ X.A (isTrue e X.env du) h4! X.xe s
def PW.pt(h:l7!):PT X e t:=h _
def PA(X:Cx)(es:cR!)(t:TA):Prop:=
 ∀(pos:Pos) (hb:s_) (s:zz!) (Z:St) (H:Hp) (Q:cQ_),Inv X hb Z H s->t Z H Q->wpAny d_ X.A (spliced r2!) (AP X hb Z Q) X.xe s
def PS(X:Cx)(st:Stmt)(t:TS):Prop:=
 ∀(hb:s_) (s:zz!) (Z:St) (H:Hp) (D:Sy),Inv X hb Z H s->t D Z H->wpAny d_ X.A (exec st X.env) l8! X.xe s
def Ox(X:Cx)(st:h4_)(t:TS):Prop:=
 ∀(hb:s_) (s:zz!) (Z:St) (H:Hp) (D:Sy),Inv X hb Z H s->t D Z H->wpAny d_ X.A (execs st X.env) l8! X.xe s
def dF(h:wpAny M A t Q E s)(hQ:∀a s,Q a s->Q' a s):wpAny M A t Q' E s:=NQ h hQ λ_ _ x=>x
end L2
namespace L2
open PySem PySem.Spec PyProof.Rows
section
variable{X:Cx}
def bin(ha:aR_)(J:ck!){R:r2_}(I:d!)(h:r3!)
  {f:Value->Value->Sem α}
  (hf:r4_):
  wpAny d_ X.A l8_ r5_ X.xe s:=by
 show"!;"
def GI(i:Nat):TE:=λZ H Q=>∃v,Z[i]?=some a2!/\Q v H
nonrec def tC(v:V):TE:=λ_ H Q=>Q v H
def jT(hN:Y_)(hv:cl!)(hd:y!:=by decide)(bq:cl_:=by decide):PE X cR_ (GI i):=by
 intro hb s Z H Q I h;obtain⟨v,e,h⟩:=h;obtain⟨m,hn,hl⟩:=I.loc;obtain⟨u,r,l⟩:=hl i x v hN e hv;have fin:EP X hb Z Q u s:=ma_;obtain⟨hk,hm⟩|⟨hk,c,hc,ce⟩:=l
 .exact wpAny_Name (wpAny_loadName_local I.ok.kind hk hn hm fin) hd
 .obtain hk|hk:=hk
  .exact wpAny_Name (wpAny_loadName_cell I.ok.kind hk hc ce fin) hd
  .exact wpAny_Name (wpAny_loadName_free I.ok.kind hk hc ce fin bq) hd
def c6e {i j pos}:PE X r8! (tC bR!):=λ_ _ _ H _ I h=>wpAny_Constant_int ⟨cm!,H,a3_,K!,h⟩
def c9z {b j pos}:PE X (.Constant mc! j pos) (tC bk!):=λ_ _ _ H _ I h=>Constant_bool ⟨.bl b,H,I,rfl,h⟩
def c6d {j pos}:PE X sa! (tC .non):=λ_ _ _ H _ I h=>Constant_none ⟨.non,H,I,rfl,h⟩
def yP {x j pos}:PE X (.Constant bx_ j pos) (tC bx_):=λ_ _ _ H _ I h=>Calls.Constant_str ⟨.str x,H,a3_,K!,h⟩
def Gl(X:Cx)(x:Str):Prop:=X.env.kindOf x=some .globalImplicit
def iD(I:d!)(hg:H_)(hm:sb_)(h:Q u s)
  (hd:y!:=by decide):wpAny d_ X.A sa_ Q E s:=
 Calls.Name_function_global I.ok.kind hg (Calls.loadGlobal_global sb! hm h) hd
def iP(I:d!)(hg:H_)(hm:cS!)(hv:sc!)(h:Q u s)
  (hn:cS_:=by decide)(hd:y!:=by decide):wpAny d_ X.A sa_ Q E s:=by
 obtain⟨mb,Y,h2⟩:=I.mod.blt;exact Calls.Name_function_global I.ok.kind hg (Calls.loadGlobal_builtin sb! hm (by rw[I.ok.blt];exact Y.keeps I.bk) ((h2 x hn).trans hv) h) hd
def a8s(hg:H_)(hm:sb_)(r:a3!)(hd:y!:=by decide):PE X cR_ (tC v):=
 λ_ _ _ H _ I h=>iD I hg hm ma_ hd
def c1l(hg:H_)(hm:cS!)(hv:sc!)(r:a3!)(hn:cS_:=by decide)(hd:y!:=by decide):PE X cR_ (tC v):=
 λ_ _ _ H _ I h=>iP I hg hm hv ma_ hn hd
def PC(X:Cx)(op:CmpOp)(a b:Expr)(t:TE):Prop:=
 ∀(hb:s_) (s:zz!) (Z:St) (H:Hp) (Q:VK),Inv X hb Z H s->t Z H Q->
  wpAny d_ X.A l8_ (λv ai=>wpAny d_ X.A r5! (λu aj=>wpAny d_ X.A (compareOp op v u) aA! X.xe aj) X.xe ai) X.xe s
def b6e(b:Expr)(h:op≠.In)(h2:op≠.NotIn):behindInMarks op b=false:=by
 have e1:se!=false:=by cases op<;>first|rfl|exact absurd rfl h
 have e2:se_=false:=by cases op<;>first|rfl|exact absurd rfl h2
 cases b<;>simp[behindInMarks,e1,e2]
nonrec def tB(t:TE):TT:=λZ H Q=>t Z H λx H1=>∃c,x=.bl c/\Q c H1
def d1r(h:PC X op a b t)(Y:ds_:=by first|exact b6e _ b! b!|rfl):PT X dt! (tB t):=by intro hb s Z H Q I hw;refine UF (dF me_ λv s1 Y=>dF Y λu s2 h2=>dF h2 ?_) Y;rintro c s3 ⟨x,H1,I1,r1,q1⟩;obtain⟨d,rfl,q⟩:=q1;cases r1;exact MM sf!
def a5r{e:Expr}{t:TE}(h:h7_)(he:h8!:=by intro _;rfl):PT X e (tB t):=by intro hb s Z H Q I hw;refine isTrue_plain (dF me_ ?_) (he _);rintro v s1 ⟨x,H1,I1,r1,q1⟩;obtain⟨d,rfl,q⟩:=q1;cases r1;exact MM sf!
variable{rest:List Expr}
def GT(t u:TT):TT:=λZ H Q=>t Z H λc H1=>if c=true then u Z H1 Q else Q false H1
def JH(t u:TT):TT:=λZ H Q=>t Z H λc H1=>if c=true then Q true H1 else u Z H1 Q
def GN(t:TT):TT:=λZ H Q=>t Z H λc H1=>Q (!c) H1
def a8l(ha:fV_):PW X mg! tA:=by
 intro wh hb s Z H Q I h;refine isTrue_and sh!;cases c with
 |true=>exact isTrue_and_nil e
 |false=>exact e
def b4j(ha:fV_):PW X mg_ tA:=by
 intro wh hb s Z H Q I h;refine isTrue_or sh!;cases c with
 |false=>exact isTrue_or_nil e
 |true=>exact e
def b4k(ha:fV_)(J:PW X es_ vz):PW X et! (GT tA vz):=by
 intro wh hb s Z H Q I h;refine isTrue_and sj!;cases c with
 |true=>exact J wh hb s1 Z H1 Q I1 q1
 |false=>exact sj_
def c4k(ha:fV_)(J:PW X et_ vz):PW X eu! (JH tA vz):=by
 intro wh hb s Z H Q I h;refine isTrue_or sj!;cases c with
 |true=>exact sj_
 |false=>exact J wh hb s1 Z H1 Q I1 q1
def b4r(ha:fV_):PT X eu_ (GN tA):=by intro hb s Z H Q I h;exact isTrue_not (dF (ha hb s Z H (λc H1=>Q (!c) H1) I h) λ_ _ ⟨H2,I2,q⟩=>⟨H2,I2,q⟩)
def DR(ta tb:TE):TE:=λZ H Q=>ta Z H λx H1=>∃c,x=.bl c/\if c=true then tb Z H1 Q else Q Z! H1
def GM(ta tb:TE):TE:=λZ H Q=>ta Z H λx H1=>∃c,x=.bl c/\if c=true then Q w_ H1 else tb Z H1 Q
def DM(ta:TE):TE:=λZ H Q=>ta Z H λx H1=>∃c,x=.bl c/\Q (.bl (!c)) H1
def b5i {op}{t:TE}(h:PE X a t):PE X mh! t:=λhb s Z H Q I hw=>BoolOp_one sl_
def b5o(ha:aR_)(J:PE X es_ tb):PE X et! (DR ta tb):=by
 intro hb s Z H Q I h;refine BoolOp_and h8_;rintro v s1 ⟨x,H1,I1,r1,q1⟩;obtain⟨c,rfl,q1⟩:=q1;cases r1;refine MM ?_;cases c with
 |true=>exact J hb s1 Z H1 Q I1 q1
 |false=>exact⟨h9!,H1,I1,rfl,q1⟩
def c4o(ha:aR_)(J:PE X et_ tb):PE X eu! (GM ta tb):=by
 intro hb s Z H Q I h;refine BoolOp_or h8_;rintro v s1 ⟨x,H1,I1,r1,q1⟩;obtain⟨c,rfl,q1⟩:=q1;cases r1;refine MM ?_;cases c with
 |false=>exact J hb s1 Z H1 Q I1 q1
 |true=>exact⟨dt_,H1,I1,rfl,q1⟩
def b5j(ha:aR_):PE X eu_ (DM ta):=by intro hb s Z H Q I h;refine UnaryOp_ h8_;rintro v s1 ⟨x,H1,I1,r1,q1⟩;obtain⟨c,rfl,q1⟩:=q1;cases r1;exact not_of (MM ⟨.bl (!c),H1,I1,rfl,q1⟩)
def JI(t:TT)(ta tb:TE):TE:=λZ H Q=>t Z H λc H1=>if c=true then ta Z H1 Q else tb Z H1 Q
def tK(hc:PT X c tA)(ha:aR_)(J:ck!):PE X mi! (JI tA ta tb):=by
 intro hb s Z H Q I h;refine wpAny_IfExp sm_;cases d with
 |true=>exact ha hb s1 Z H1 Q I1 q1
 |false=>exact J hb s1 Z H1 Q I1 q1
end
end L2
namespace L2
open PySem PySem.Spec PyProof.Rows
def Fm(KF:zA!)(H:Hp)(a:u0!)(xs:q!):Prop:=
 Rd H a M!\/
  ∃(o:Obj) (its:cj!) (n:Nat),KF.lookup a=some o/\o.cls=.type "list"/\o.dict=none/\o.data=.seq its n/\its.size<=sizeLine/\Az xs h9_
def Fz(KF:zA!)(H:Hp)(a:u0!)(xs:q!):Prop:=
 Rd H a bw_\/
  ∃(o:Obj) (its:cj!) (n:Nat),KF.lookup a=some o/\o.cls=.type "tuple"/\o.data=.seq its n/\its.size<=sizeLine/\Az xs h9_
def HI:Value->Option V
 |.none=>some .non
 |.bool b=>some bk!
 |.int i _=>some bR!
 |.str x _=>some bx_
 |.bytes b _=>some (.byt b)
 |.float b _=>some (.flt b)
 |.ref a=>some F!
 |.type n=>some (.ty n)
 |_=>none
def Bn.abs(r:Bn x u):HI u=some x:=by
 cases x with
 |non=>cases r;rfl
 |bl _=>cases r;rfl
 |int _=>obtain⟨t,rfl⟩:=r;rfl
 |str _=>obtain⟨t,rfl⟩:=r;rfl
 |byt _=>obtain⟨t,rfl⟩:=r;rfl
 |flt _=>obtain⟨t,rfl⟩:=r;rfl
 |ref _=>cases r;rfl
 |ty _=>cases r;rfl
def Bn.inj(r:Bn x u)(q:Bn y u):x=y:=MN (r.abs.symm.trans q.abs)
def Az.inj(h:do_):Az ys us->xs=ys:=by
 induction h generalizing ys with
 |nil=>intro h;cases h;rfl
 |cons r t ih=>intro h;cases h with|cons r' t'=>rw[r.inj r',ih t']
section
variable{X:Cx}
def Fm.of(h:H a=some M!):Fm KF H a xs:=.inl ia_
def Fz.of(h:H a=some bw_):Fz KF H a xs:=.inl ia_
def Inv.list(I:d!)(h:sn!):∃its:List Value,Az xs its/\PlainL s.heap a a0_/\i!<=sizeLine:=by
 obtain h|⟨o,its,n,hk,hc,hd,hs,hz,r⟩:=h
 .obtain⟨z,its,n,r,e⟩:=h.ok I.hok;exact⟨its,r,⟨_,n,e,rfl,rfl,rfl⟩,z⟩
 .refine⟨h9_,r,⟨o,n,so!,hc,hd,so_⟩,?_⟩;have e:=aJ!;simp only[MX]at e;omega
def Inv.tuple(I:d!)(h:sp!):∃its:List Value,Az xs its/\IsTup s.heap a a0_/\i!<=sizeLine:=by
 obtain h|⟨o,its,n,hk,hc,hs,hz,r⟩:=h
 .obtain⟨z,its,r,p⟩:=h.ok I.hok;exact⟨its,r,p,z⟩
 .refine⟨h9_,r,⟨o,so!,hc,n,so_⟩,?_⟩;have e:=aJ!;simp only[MX]at e;omega
def Inv.list_inj(I:d!)(h:sn!)(h':Fm X.K H a ys):xs=ys:=by
 obtain⟨its,r,⟨o,n,e,_,_,d⟩,_⟩:=I.list h;obtain⟨its',r',⟨o',n',e',_,_,d'⟩,_⟩:=I.list h';rw[e]at e';cases e';rw[d]at d';injection d' with d1 _
 have:its=its':=by simpa using congrArg Array.toList d1
 subst this;exact r.inj r'
def Inv.tuple_inj(I:d!)(h:sp!)(h':Fz X.K H a ys):xs=ys:=by
 obtain⟨its,r,⟨o,e,_,n,d⟩,_⟩:=I.tuple h;obtain⟨its',r',⟨o',e',_,n',d'⟩,_⟩:=I.tuple h';rw[e]at e';cases e';rw[d]at d';injection d' with d1 _
 have:its=its':=by simpa using congrArg Array.toList d1
 subst this;exact r.inj r'
end
abbrev Cx.wish(X:Cx)(E:K_):Cx:={X with xe:=E}
abbrev Cx.nox(X:Cx):Cx:=X.wish λ_ _=>False
def Cx.Ok.wish{X:Cx}(ok:X.Ok)(E:K_):(fW!).Ok:=
 ic!
def Cx.Ok.unwish{X:Cx}{E:K_}(ok:(fW!).Ok):X.Ok:=
 ic!
section
variable{X:Cx}
def Inv.wish(I:d!)(E:K_):Inv fW! hb Z H s:=⟨I.ok.wish E,I.os,I.bare,I.base,I.loc,I.cell,I.free,I.freeC,I.pin,I.hok,I.len⟩
def Inv.unwish(I:Inv fW! hb Z H s):Inv X hb Z H s:=⟨I.ok.unwish,I.os,I.bare,I.base,I.loc,I.cell,I.free,I.freeC,I.pin,I.hok,I.len⟩
def SP.unwish{D:Sy}(h:SP fW! hb D f s'):SP X hb D f s':=by
 cases f with
 |next=>obtain⟨ac,H',I,q⟩:=h;exact ml!
 |brk=>obtain⟨ac,H',I,q⟩:=h;exact ml!
 |cont=>obtain⟨ac,H',I,q⟩:=h;exact ml!
 |ret u=>obtain⟨v,ac,H',I,r,q⟩:=h;exact⟨v,ac,H',I.unwish,r,q⟩
def Ox.nox{st:h4_}(h:Ox X.nox st t):Ox X st t:=λhb s Z H D I hw=>
 NQ (h hb s Z H D (I.wish _) hw) (λ_ _ q=>q.unwish) λ_ _ z=>False.elim z
end
section
variable{X:Cx}{st:Stmt}{rest:List Stmt}
def DN:TS:=λD Z H=>D.nx Z H
def GK(t u:TS):TS:=λD Z H=>t {D with nx:=u D} Z H
def a8n:Ox X [] DN:=λ_ _ Z H _ I h=>SN sq!
def tI(Y:ic_)(h2:Ox X rest u):Ox X id! (GK t u):=by
 intro hb s Z H D I h;refine wpAny_execs_cons (dF (Y hb s Z H {D with nx:=u D} I h) λf s1 q=>?_);cases f with
 |next=>
  obtain⟨ac,H',I',q⟩:=q;exact h2 hb s1 ac H' D I' q
 |ret v=>exact q
 |brk=>exact q
 |cont=>exact q
def fR(Y:ic_):Ox X [st] t:=by
 intro hb s Z H D I h;refine wpAny_execs_cons (dF (Y hb s Z H D I h) λf s1 q=>?_);cases f with
 |next=>exact SN q
 |ret v=>exact q
 |brk=>exact q
 |cont=>exact q
def Inv.quiet(I:d!):interactive X.env=false:=by simp[interactive,I.ok.kind]
def DO(te:TE):TS:=λD Z H=>te Z H λ_ H1=>D.nx Z H1
def nW(he:cm_)(hs:mm!:=by rfl):PS X mm_ (DO te):=by intro hb s Z H D I h;exact wpAny_Expr_any (dF ie! λv s1 ⟨x,H1,I1,r1,q1⟩=>⟨Z,H1,I1,q1⟩) I.quiet hs
def GL(te:TE):TS:=λD Z H=>te Z H D.rt
def b4u(he:cm_):PS X mn_ (GL te):=by intro hb s Z H D I h;exact wpAny_Return_some (dF ie! λv s1 ⟨x,H1,I1,r1,q1⟩=>⟨x,Z,H1,I1,r1,q1⟩)
def DJ:TS:=λD _ H=>D.rt .non H
def c1b:PS X sq_ DJ:=λ_ _ Z H _ I h=>wpAny_Return_none ⟨.non,Z,H,I,rfl,h⟩
def GP(c:TT)(t u:TS):TS:=λD Z H=>c Z H λb H1=>if b=true then t D Z H1 else u D Z H1
def b4w(hc:PT X c tc)(ha:Ox X a t)(J:Ox X b u):PS X (.If c a b pos) (GP tc t u):=by
 intro hb s Z H D I h;refine wpAny_If sm_;cases d with
 |true=>exact ha hb s1 Z H1 D I1 q1
 |false=>exact J hb s1 Z H1 D I1 q1
end
abbrev TG:=V->St->Hp->ss!->Prop
abbrev FA:=List V->St->Hp->ss!->Prop
def PG(X:Cx)(ul:Expr)(t:TG):Prop:=
 ∀(hb:s_) (s:zz!) (Z:St) (H:Hp) (v:V) (u:zp!) (Q:if!),Inv X hb Z H s->Bn v u->t v Z H Q->
  wpAny d_ X.A (assign ul X.env u) ss_ X.xe s
def FZ(X:Cx)(ts:cR!)(t:FA):Prop:=
 ∀(hb:s_) (s:zz!) (Z:St) (H:Hp) (vs:q!) (us:k_) (Q:if!),Inv X hb Z H s->Az vs us->t vs Z H Q->
  wpAny d_ X.A (assignInOrder ((assignEach ts X.env).map R!) us) ss_ X.xe s
abbrev EZ:=V->V->V->Hp->mo_->Prop
def Xf(X:Cx)(t:EZ):Prop:=
 ∀(hb:s_) (s:zz!) (Z:St) (H:Hp) (o i v:V) (ov iv u:zp!) (Q:Hp->Prop),Inv X hb Z H s->Bn o ov->Bn i iv->Bn v u->t o i v H Q->
  wpAny d_ X.A (setItem ov iv u) (λ_ s'=>∃H',Inv X hb Z H' s'/\Q H') X.xe s
abbrev HM:=V->V->Hp->VK->Prop
def IV(X:Cx)(op:Operator)(t:HM):Prop:=
 ∀(hb:s_) (s:zz!) (Z:St) (H:Hp) (x y:V) (v u:zp!) (Q:VK),Inv X hb Z H s->Bn x v->Bn y u->t x y H Q->
  wpAny d_ X.A (inplaceOp op v u) aA! X.xe s
section
variable{X:Cx}
def Nq(i:Nat):TG:=λv Z H Q=>Q eq! H
def bE(hN:aR!)(hi:Y_)(hx:a2_)(hf:X.fn x=true\/X.env.scope.names.lookup x=some .local:=by first|exact .inl rfl|exact .inr rfl|assumption):PG X cR_ ev!:=by intro hb s Z H v u Q I r h;exact wpAny_assign_Name (nN I hN hi hx r (λs' I'=>⟨_,H,I',h⟩) hf)
def CJ:FA:=λvs Z H Q=>vs=[]/\Q Z H
def Ue(t:TG)(u:FA):FA:=λvs Z H Q=>∃v r,vs=v::r/\t v Z H λac H'=>u r ac H' Q
def a8q:FZ X [] CJ:=by intro hb s Z H vs us Q I r h;obtain⟨e,h⟩:=h;subst e;cases r;exact assignInOrder_nil sq!
def nX(Y:PG X e t)(h2:FZ X es u)
  (hs:(assignEach aA_ X.env).map R!=assign e X.env::(mq!).map R!:=by rfl):FZ X aA_ (Ue t u):=by
 intro hb s Z H vs us Q I r h;obtain⟨v,vr,e1,h⟩:=h;subst e1;cases r with
 |cons r rr=>
  rw[hs];refine assignInOrder_cons (dF (Y hb s Z H _ _ _ I r h) ?_);rintro _ s1 ⟨bt,H1,I1,q1⟩;exact h2 hb s1 bt H1 _ _ Q I1 rr q1
def CI(KF:zA!)(n:Nat)(t:FA):TG:=λv Z H Q=>∃a xs,v=.ref a/\Fz KF H a xs/\i!=n/\t xs Z H Q
def b5d(hc:ao_)(h:FZ X es t)
  (hn:(mq!).length=n:=by rfl)(hst:(mq!).findIdx? c_=none:=by rfl):PG X (.Tuple es k pos) (CI X.K n t):=by
 intro hb s Z H v u Q I r hw;obtain⟨a,xs,e1,hq,hl,hw⟩:=hw;subst e1;cases r;obtain⟨its,rv,ht,hz⟩:=I.tuple hq;refine assign_Tuple_tuple aS! ht (by simp[hn,<-hl,rv.length]) hst λh' hx=>?_;have I1:Inv X hb Z H {s with heap:=h'}:=I.kept (t':=s.toks) λb o e=>hx b o (LU cO_) e;exact h hb _ Z H xs _ Q I1 (by simpa using rv) hw
def HG(to ti:TE)(t:EZ):TG:=λv Z H Q=>to Z H λo H1=>ti Z H1 λi H2=>t o i v H2 λH3=>Q Z H3
def b5e(ho:PE X o to)(hi:PE X i ti)(hs:Xf X t)
  (ha:∀v,assign sz_ X.env v=(do
   let ov <-holding [v] du!
   let iv <-holding [v,ov] sA!
   standAt pos
   holding ev_ mr!
   release ev_ []):=by intro _;rfl):PG X sz_ (HG to ti t):=by
 intro hb s Z H v u Q I r h;rw[ha];refine JY (MH sB!);rintro ov s1 ⟨x,H1,I1,r1,q1⟩;refine JY (MH (dF (hi hb s1 Z H1 _ I1 q1) ?_));rintro iv s2 ⟨y,H2,I2,r2,q2⟩;refine JY (TR (JY (MH (dF (hs hb s2 Z H2 x y v ov iv u _ I2 r1 r2 r q2) λ_ s3 ⟨H3,I3,q3⟩=>?_))));exact wpAny_release ⟨Z,H3,I3,q3⟩
def BO(te:TE)(g:TG):TS:=λD Z H=>te Z H λx H1=>g x Z H1 D.nx
def b4y(he:cm_)(hg:ms!)(hs:swapsWithSole [tg] e pos.line X.env=pure false:=by rfl)(hw:swappedStores [tg] e X.env=pure none:=by rfl)
  (Y:(assignEach [tg] X.env).map R!=[assign tg X.env]:=by rfl):PS X (.Assign [tg] e pos) (BO te g):=by
 intro hb s Z H D I h;refine wpAny_Assign_stores cT! hs hw;rintro v s1 ⟨x,H1,I1,r1,q1⟩;rw[Y];exact dF (hg hb s1 Z H1 x v _ I1 r1 q1) λ_ s2 q=>q
def tJ(hN:aR!)(hi:Y_)(hx:a2_)(he:cm_)(hs:swapsWith e (some ih_) pos.line X.env=pure false:=by rfl)(hf:X.fn x=true\/X.env.scope.names.lookup x=some .local:=by first|exact .inl rfl|exact .inr rfl|assumption):
  PS X (.Assign sE! e pos) (BO te ev!):=by
 intro hb s Z H D I h;refine wpAny_Assign_Name cT! hs;rintro v s1 ⟨y,H1,I1,r1,q1⟩;exact nN I1 hN hi hx r1 (λs2 I2=>⟨_,H1,I2,q1⟩) hf
def GS(i:Nat)(te:TE)(ti:HM):TS:=λD Z H=>∃x,Z[i]?=some fX_/\te Z H λy H1=>ti x y H1 λz H2=>D.nx (Z.set i (some z)) H2
def c6a(hN:aR!)(hi:Y_)(hx:a2_)(he:cm_)(ho:IV X op ti)(hf:X.fn x=true\/X.env.scope.names.lookup x=some .local:=by first|exact .inl rfl|exact .inr rfl|assumption):
  PS X (.AugAssign ih_ op e pos) (GS i te ti):=by
 intro hb s Z H D I h;obtain⟨v,e1,h⟩:=h;obtain⟨m,hn,hl⟩:=I.loc;have YI:Xe X.env.scope x:=by obtain k|k:=hx;exact .inl k;exact .inr (.inl k)
 obtain⟨u,r,l⟩:=hl i x v hi e1 YI;refine wpAny_AugAssign_Name ?_;have go:wpAny d_ X.A es! (λw aj=>wpAny d_ X.A (inplaceOp op u w) (λr c7=>wpAny d_ X.A (storeName X.env x r) (λ_=>SP X hb D .next) X.xe c7) X.xe aj) X.xe s:=by
  refine dF ie! ?_;rintro w s1 ⟨y,H1,I1,r1,q1⟩;refine dF (ho hb s1 Z H1 v y u w _ I1 r r1 q1) ?_;rintro z s2 ⟨zv,H2,I2,r2,q2⟩;exact nN I2 hN hi hx r2 (λs3 I3=>⟨_,H2,I3,q2⟩) hf
 obtain⟨hk,hm⟩|⟨hk,c,hc,ce⟩:=l
 .exact wpAny_loadName_local I.ok.kind hk hn hm go
 .obtain hk|hk:=hk
  .exact wpAny_loadName_cell I.ok.kind hk hc ce go
  .obtain k|k:=hx
   .show"!d"
   .show"!d"
def JL(f:mt_):HM:=λx y H Q=>∃i j,x=.int i/\y=.int j/\Q (.int (f i j)) H
def c7p:IV X .Add (JL λi j=>i+j):=by intro hb s Z H x y v u Q I r1 r2 h;obtain⟨i,j,e1,e2,q⟩:=h;subst e1;subst e2;obtain⟨t,rfl⟩:=r1;obtain⟨t',rfl⟩:=r2;exact iadd_int ij!
def BM(c:TT)(tb:TS):TS:=λD Z H=>∃W:Nat->St->Hp->Prop,(∃m,W m Z H)/\∀m Z H,W m Z H->
 c Z H λb H1=>if b=true then∃N:St->Hp->Prop,(∀ac H',N ac H'->∃m',m'<m/\W m' ac H')/\tb {D with nx:=N,ct:=N,bk:=D.nx} Z H1 else D.nx Z H1
def b4t(hp:fY_)(hc:PT X c tc)(J:sH!):PS X sG_ (BM tc tb):=by
 intro hb s Z H D I h;obtain⟨W,⟨m0,w0⟩,turn⟩:=h;refine wpAny_While (codeAny_whileLoop (λn s'=>∃ac H',Inv X hb ac H' s'/\W n ac H') ?_ m0 ⟨Z,H,I,w0⟩);rintro n s1 ⟨bt,H1,I1,w1⟩;refine QZ hp (dF (hc hb s1 bt H1 _ I1 (turn n bt H1 w1)) λb s2 ⟨H2,I2,q2⟩=>?_);cases b with
 |true=>
  obtain⟨N,hN,q2⟩:=q2;rw[A!];refine QZ hp (dF (J hb s2 bt H2 _ I2 q2) λf s3 q3=>?_);cases f with
  |next=>
   show"!a"
  |cont=>
   show"!a"
  |brk=>exact q3
  |ret v=>exact q3
 |false=>
  rw[KN LH];exact SN ⟨bt,H2,I2,q2⟩
end
structure It where
 go:Nat->Hp->Prop
 yld:Nat->Hp->V->Hp->Prop
 stop:Nat->Hp->Prop
def Fu(X:Cx)(hb:s_)(H:Hp)(b:u0!):Prop:=
 H b=none/\b≠X.env.locals/\b∉X.fs/\hS!/\hR_/\∀p∈X.pn++hb,p.1≠b
def Inv.fpOk(I:d!)(J:h_<=b)(hn:H' b=none):Fu X hb H' b:=by
 refine⟨hn,PN (LJ I.lt J),I.nofs J,.inr (LV I.sz J),λx c e z=>?_,λp hp z=>?_⟩
 .obtain⟨v,q⟩:=I.cell x c e;exact absurd (LJ q.lt sJ!) dp_
 .exact absurd (LJ (LF (mu_).1) sJ!) dp_
structure Su(P:zy!)(w:zx!)(KF:zA!)(tg:Expr)(af:It)(fp:a1_)(it:u0!)(tn:ij_):Prop where
 mem:it∈fp
 obj:∀i h,tn i h->∀b∈fp,∃o,h.get? b=some o/\∀v,o.data≠.cell v
 keep:∀i h h',tn i h->(∀b∈fp,∀o,h.get? b=some o->h'.get? b=some o)->tn i h'
 item:∀(X:Cx),X.prog=P->X.w=w->X.K=KF->X.calm=true->∀(i:Nat) (hb:s_) (s:zz!) (Z:St) (H:Hp) (E:K_),Inv X hb Z H s->mv!->tn i s.heap->af.go i H->
  wpAny C! X.A ik! (λr s1=>∃u,r=some u/\
   wpAny C! X.A sJ_ (λ_ s2=>∃x H',Inv X hb Z H' s2/\Bn x u/\af.yld i H x H'/\tn Z_ s2.heap/\∀b∈fp,H' b=none) E s1) E s
 done:∀(X:Cx),X.prog=P->X.w=w->X.K=KF->X.calm=true->∀(i:Nat) (hb:s_) (s:zz!) (Z:St) (H:Hp) (E:K_),Inv X hb Z H s->mv!->tn i s.heap->af.stop i H->
  wpAny C! X.A ik! (λr s1=>r=none/\Inv X hb Z H s1) E s
 self:∀(A:zm!) (i:Nat) (s:zz!) (Q:K_) (E:K_),tn i s.heap->Q cn! s->wpAny C! A sK! Q E s
abbrev TI:=St->Hp->(It->Hp->Prop)->Prop
def FY(X:Cx)(hb:s_)(Z:St)(tg:Expr)(R:ik_)(um:zp!)(s2:zz!):Prop:=
 ∃(it:u0!) (fp:a1_) (tn:ij_) (af:It) (H':Hp),um=.ref it/\Inv X hb Z H' s2/\Su X.prog X.w X.K tg af fp it tn/\tn 0 s2.heap/\(∀b∈fp,Fu X hb H' b)/\R af H'
def PI(X:Cx)(tg iter:Expr)(wi:TI):Prop:=
 ∀(hb:s_) (s:zz!) (Z:St) (H:Hp) (R:ik_),Inv X hb Z H s->wi Z H R->
  wpAny d_ X.A (eval iter X.env) (λv s1=>wpAny d_ X.A (pyIter v) sK_ X.xe s1) X.xe s
def b8a(ho:s.heap.get? it=some o)(hc:o.cls=.type n)(hd:o.data=.fields vs)
  (hn:(sM!).contains n=false)(hQ:Q () s):wpAny M A sJ_ Q E s:=by
 unfold letOwnedTupleGo;cases tg<;>first
  |exact KB hQ
  |(cases u<;>first
    |exact KB hQ
    |(refine JY (wpAny_load ho ?_);rw[hc,hd];show wpAny M A (if((sM!).contains n&&vs[0]?==some (rawInt _))=true then _ else _) Q E s;rw[KN (by intro h;rw[hn,Bool.false_and]at h;cases h)];exact KB hQ))
def HP(KF:zA!)(a:u0!):It:=
 ⟨λi H=>∃xs x,Fm KF H a xs/\xs[i]?=some x,λi H x H'=>H'=H/\∀xs,Fm KF H a xs->xs[i]?=some x,λi H=>∃xs,Fm KF H a xs/\i!<=i⟩
def JW(KF:zA!)(a:u0!):It:=
 ⟨λi H=>∃xs x,Fz KF H a xs/\xs[i]?=some x,λi H x H'=>H'=H/\∀xs,Fz KF H a xs->xs[i]?=some x,λi H=>∃xs,Fz KF H a xs/\i!<=i⟩
def FE(lo:Int)(n:Nat):It:=⟨λi _=>i<n,λi H x H'=>H'=H/\x=.int (lo+i),λi _=>n<=i⟩
def b0v(a it:u0!):Su P w KF tg (HP KF a) [it] it (λi h=>h.IsListIter it a i) where
 mem:=by simp
 obj:=λi h st b J=>by
  have e:b=it:=by simpa using J
  subst e;show"!z"
 keep:=λi h h' st k=>st.at λo e=>k it c! o e
 item:=by
  show"!0";obtain⟨xs,x,hq,hx⟩:=hg;obtain⟨its,rv,p,hz⟩:=I.list hq;obtain⟨u,hu,ru⟩:=rv.get hx;show"!3";refine wpAny_pyNext_list_item st p.isList (x:=u) sP_ λh' σ sb=>?_;have I1:Inv X hb Z H {s with heap:=h'}:=I.turned (t':=s.toks) sQ_ f0 f1 f3 f4 f5;obtain⟨o,e,c,d⟩:=id σ;exact⟨u,rfl,b8a (s:=my_) e c d b! ⟨x,H,I1,ru,⟨rfl,λys hy=>by rw[I.list_inj hy hq];exact hx⟩,σ,mz!⟩⟩
 done:=by
  show"!0";obtain⟨xs,hq,hx⟩:=hg;obtain⟨its,rv,p,hz⟩:=I.list hq;show"!3";have hl:=ew!;exact wpAny_pyNext_list_end aS! st p.isList a4! λh' eb=>mz_
 self:=λ_ _ _ _ _ st h=>wpAny_pyIter_listiter st h
def a5c(it:u0!)(lo:Int)(n:Nat):Su P w KF tg (FE lo n) [it] it (λi h=>IsRangeIter h it (lo+(i:Nat)*1) ((n:Int) - (i:Nat)) 1) where
 mem:=by simp
 obj:=λi h st b J=>by
  have e:b=it:=by simpa using J
  subst e;exact⟨_,st,λv z=>by
   have z':Data.fields _=Data.cell v:=z;cases z'⟩
 keep:=λi h h' st k=>k it c! _ st
 item:=by
  show"!0";show"!3";have W:=Walks.range (prog:=X.prog) (w:=X.w) aS! it lo 1 n;refine W.item i s _ _ hg st λv h' tk hv σ kk=>?_;obtain⟨t,rfl⟩:=hv;show"![";refine⟨_,rfl,b8a (s:={s with heap:=h',toks:=tk}) (n:="range_iterator") σ rfl rfl b! ⟨.int (lo+i),H,I1,⟨t,?_⟩,aJ_,σ,mz!⟩⟩;rw[Int.mul_one]
 done:=by
  show"!0";show"!3";exact wpAny_pyNext_range_end aS! st (by have:n<=i:=hg;omega) λh' eb=>mz_
 self:=λ_ _ _ _ _ st h=>wpAny_pyIter_rangeiter st h
end L2
namespace L2
open PySem PySem.Spec PyProof.Rows
section
variable{X:Cx}
def ET(KF:zA!)(tl:TE):TI:=λZ H R=>tl Z H λx H1=>∃a,x=.ref a/\(∃xs,Fm KF H1 a xs)/\R (HP KF a) H1
def HF(KF:zA!)(tl:TE):TI:=λZ H R=>tl Z H λx H1=>∃a,x=.ref a/\(∃xs,Fz KF H1 a xs)/\R (JW KF a) H1
def a8p(hl:PE X l tl):PI X tg l (ET X.K tl):=by
 intro hb s Z H R I h;refine dF sT_ ?_;rintro v s1 ⟨x,H1,I1,r1,q1⟩;obtain⟨a,e,⟨xs,hq⟩,q⟩:=q1;subst e;cases r1;obtain⟨its,rv,p,hz⟩:=I1.list hq;refine wpAny_pyIter_list p.isList ?_;refine⟨x!,[x!],_,_,H1,rfl,mA_,b0v a _,ew_,cn_,q⟩;have e:b=x!:=by simpa using J
 show"!h"
def a2a{lo hi:Int}(I:d!)(Y:-f0!<=lo)(h2:lo<2 ^ 62)(h3:-f0!<=hi)(h4:hi<2 ^ 62)
  (q:R (FE lo (mC_).toNat) H):wpAny d_ X.A (pyIter bk_) sK_ E {s with heap:=s.heap.push {cls:=.type "range",data:=.fields #[.int lo t,.int hi u,.int 1 v]},toks:=tk}:=by
 refine wpAny_pyIter_range (IsRange.new ..) (small_one Y h2 h3 h4) ?_;have I1:Inv X hb Z H {s with heap:=s.heap.push {cls:=.type "range",data:=.fields #[.int lo t,.int hi u,.int 1 v]},toks:=tk}:=I.kept λb o e=>KC _ e;refine⟨(mD!).objs.size,[(mD!).objs.size],_,_,H,rfl,
  I1.kept (t':=tk) λb o e=>KC _ e,a5c _ lo (mC_).toNat,?_,λb J=>?_,q⟩
 .have e1:lo+f0_*1=lo:=by simp
  have e2:sV_ - f0_=Builtin.Range.rangeSize lo hi 1:=by rw[rangeSize_one];split<;>omega
  show IsRangeIter _ _ (lo+f0_*1) (sV_ - f0_) 1;rw[e1,e2];exact LC _ rfl
 .have e:b=(mD!).objs.size:=by simpa using J
  show"!h"
def ES(ta:TA):TI:=λZ H R=>ta Z H λvs H1=>∃j:Int,vs=[ex!]/\-f0!<=j/\j<2 ^ 62/\R (FE 0 j.toNat) H1
def ER(ta:TA):TI:=λZ H R=>ta Z H λvs H1=>∃i j:Int,vs=mE!/\(-f0!<=i/\i<2 ^ 62/\-f0!<=j/\j<2 ^ 62)/\R (FE i (j - i).toNat) H1
def b1k(hg:ip_)(hm:ip!)(ha:PA X [a] ta)(hs:sX_:=by rfl):PI X tg sY_ (ES ta):=by
 intro hb s Z H R I h;refine Call_ (iP I hg hm boot_range (NM mF_ hs rfl));rintro us s1 ⟨vs,H1,I1,r1,q1⟩;obtain⟨j,e,q1,q2,q⟩:=q1;subst e;cases r1 with
 |cons r rr=>
  cases rr;obtain⟨t,rfl⟩:=r;exact call_range_1 (a2a I1 a! a! q1 q2 (by simpa using q))
def b1j(hg:ip_)(hm:ip!)(ha:PA X ag_ ta)(hs:s0!:=by rfl)(bj:s0_:=by rfl):
  PI X tg s1! (ER ta):=by
 intro hb s Z H R I h;refine Call_ (iP I hg hm boot_range (NM mF_ (by rw[hs,bj]) (by rw[bj];rfl)));rintro us s1 ⟨vs,H1,I1,r1,q1⟩;obtain⟨i,j,e,⟨q1,q2,q3,q4⟩,q⟩:=q1;subst e;cases r1 with
 |cons r rr=>
  cases rr with
  |cons r' rr=>
   cases rr;obtain⟨t,rfl⟩:=r;obtain⟨t',rfl⟩:=r';exact call_range_2 (a2a I1 q1 q2 q3 q4 q)
def GQ(wi:TI)(g:TG)(tb:TS):TS:=λD Z H=>wi Z H λaf H1=>∃W:Nat->Nat->St->Hp->Prop,(∃m,W 0 m Z H1)/\∀i m Z H,W i m Z H->
 (af.stop i H/\D.nx Z H)\/(af.go i H/\∃N:St->Hp->Prop,(∀ac H',N ac H'->∃m',m'<m/\W Z_ m' ac H')/\∀x H',af.yld i H x H'->g x Z H' λc8 H2=>tb {D with nx:=N,ct:=N,bk:=D.nx} c8 H2)
def Qh(fp:a1_)(h:Heap):List eo_:=fp.filterMap λb=>(h.get? b).map λo=>ex_
def iN(J:b∈fp)(e:rt_):ex_∈Qh fp h:=QJ.mpr ⟨b,J,s2!⟩
def b2a(hp:p∈Qh fp h):p.1∈fp/\h.get? p.1=some p.2:=by
 obtain⟨b,J,e⟩:=QJ.mp hp;cases q:h.get? b with
 |none=>rw[q]at e;cases e
 |some o=>
  rw[q]at e;have e':ex_=p:=MN e;subst e';exact⟨J,q⟩
def Inv.pinned(I:d!)(hf:∀b∈fp,Fu X hb H b)(ho:∀b∈fp,∃o,s.heap.get? b=some o/\∀v,o.data≠.cell v):Inv X (hb++Qh fp s.heap) Z H s:=
 I.pins_of λp hp=>(KR.mp hp).elim (λz=>I.pin p iq_) λz=>by
  obtain⟨J,e⟩:=b2a z;obtain⟨f0,f1,f2,_⟩:=hf p.1 J;obtain⟨o,e',d⟩:=ho p.1 J;rw[e]at e';cases e';exact⟨e,f0,f1,f2,d⟩
def Inv.unpinned(I:Inv X (hb++pl) Z H s):Inv X hb Z H s:=I.pins_of λp hp=>I.pin p (KJ _ ir!)
def b4x(hp:fY_)(hc:ao_)(hi:mG_)(hg:ms!)(J:sH!)
  (hs:cT_:=by intro _;rfl):PS X s5! (GQ wi g tb):=by
 intro hb s Z H D I h;refine wpAny_For (dF (hi hb s Z H _ I h) λv s1 Y=>dF Y λum s2 h2=>?_) hs;obtain⟨it,fp,tn,af,H2,e,I2,T,bg,f2,W,⟨m0,w0⟩,turn⟩:=h2;subst e;have mi:∀{H':Hp},f1!->∀b∈fp,Fu X hb H' b:=λhn b J=>⟨hn b J,(dw!).2⟩;refine codeAny_forLoop_any (λn s'=>∃i ac H',Inv X hb ac H' s'/\tn i s'.heap/\f1!/\W i n ac H') ?_ m0 ⟨0,Z,H2,I2,bg,s6!,w0⟩;rintro n s3 ⟨i,gg,H3,I3,uo,zu,w3⟩;obtain⟨stop,qn⟩|⟨go,N,hN,step⟩:=turn i n gg H3 w3
 .refine QZ hp (dF (T.done X rfl rfl rfl hc i hb s3 gg H3 X.xe I3 (mi zu) uo stop) λr s4 ⟨hr,I4⟩=>?_);subst hr;exact SN ⟨gg,H3,I4,qn⟩
 .refine QZ hp (dF (T.item X rfl rfl rfl hc i hb s3 gg H3 X.xe I3 (mi zu) uo go) λr s4 ⟨u,hr,h4⟩=>?_);subst hr;refine QZ hp (dF h4 ?_);rintro _ s5 ⟨x,H5,I5,r5,y5,mj,v0⟩;have v3:=I5.pinned (mi v0) s7_;refine QZ hp (dF (hg _ s5 gg H5 x u _ v3 r5 s8!) ?_);rintro _ s6 ⟨ky,H6,I6,q6⟩;refine QZ hp (dF (J _ s6 ky H6 _ I6 q6) λf s7 q7=>?_);have again:∀{ii:St} {H7:Hp},Inv X (hb++Qh fp s5.heap) ii H7 s7->N ii H7->∃m,m<n/\∃i ac H',Inv X hb ac H' s7/\tn i s7.heap/\f1!/\W i m ac H':=λ{ii H7} I7 n7=>by
   obtain⟨m',hm,w7⟩:=hN ii H7 n7;refine⟨m',hm,i+1,ii,H7,is!,T.keep _ _ _ mj λb J o e=>(s9!).1,cn_,w7⟩;obtain⟨o,e,d⟩:=T.obj _ _ mj b J;exact(s9!).2.1
  cases f with
  |next=>obtain⟨ii,H7,I7,n7⟩:=q7;exact again I7 n7
  |cont=>obtain⟨ii,H7,I7,n7⟩:=q7;exact again I7 n7
  |brk=>obtain⟨ii,H7,I7,q7⟩:=q7;exact⟨ii,H7,is!,q7⟩
  |ret v=>obtain⟨x7,ii,H7,I7,r7,q7⟩:=q7;exact⟨x7,ii,H7,is!,r7,q7⟩
end
end L2
namespace L2
open PySem PySem.Spec PyProof.Rows
abbrev R2:=V->V->Hp->VK->Prop
def Gk(X:Cx)(f:f2!)(r:R2):Prop:=
 ∀(hb:s_) (s:zz!) (Z:St) (H:Hp) (x y:V) (v u:zp!) (Q:VK),Inv X hb Z H s->Bn x v->Bn y u->r x y H Q->
  wpAny d_ X.A (f v u) aA! X.xe s
def HJ(X:Cx)(f:Value->Sem Value)(r:mI_):Prop:=
 ∀(hb:s_) (s:zz!) (Z:St) (H:Hp) (x:V) (v:zp!) (Q:VK),Inv X hb Z H s->Bn x v->r x H Q->
  wpAny d_ X.A (f v) aA! X.xe s
def Io(X:Cx)(f:zp!)(r:is_):Prop:=
 ∀(hb:s_) (s:zz!) (Z:St) (H:Hp) (xs:q!) (us:k_) (Q:VK),Inv X hb Z H s->Az xs us->r xs H Q->
  wpAny d_ X.A (call f us) aA! X.xe s
def HK(X:Cx)(r:V->Hp->rZ_->Prop):Prop:=
 ∀(hb:s_) (s:zz!) (Z:St) (H:Hp) (x:V) (v:zp!) (Q:ds!),Inv X hb Z H s->Bn x v->r x H Q->
  wpAny d_ X.A mf! h4! X.xe s
def CV(r:R2)(ta tb:TE):TE:=λZ H Q=>ta Z H λx H1=>tb Z H1 λy H2=>r x y H2 Q
def JF(r:mI_)(ta:TE):TE:=λZ H Q=>ta Z H λx H1=>r x H1 Q
nonrec def rI(C:ta!)(g:ta_):R2:=λx y H Q=>∃i j,x=.int i/\y=.int j/\C i j/\Q bl! H
def Sa(g:ta_):R2:=λx y H Q=>∃i j,x=.int i/\y=.int j/\Q bl! H
nonrec def rU(g:Int->V):V->Hp->VK->Prop:=λx H Q=>∃i,x=.int i/\Q (g i) H
section
variable{X:Cx}
def c8x(ha:aR_)(J:ck!){hb:s_}{Z:St}{H:Hp}{R:r2_}(I:d!)
  (h:r3!){Q:K_}{f:f2!}
  (hf:r4_):
  wpAny d_ X.A l8_ r5_ X.xe s:=by
 show"!;"
def a8r{op:Operator}{r:R2}(ho:mK!)(ha:aR_)(J:ck!):PE X mK_ it!:=by intro hb s Z H Q I h;exact wpAny_BinOp tb_
def c9y{op:UnaryOp}{r:mI_}(ho:HJ X (unaryOp op) r)(ha:aR_):PE X (.UnaryOp op a pos) (JF r ta):=by intro hb s Z H Q I h;exact UnaryOp_ (dF ck_ λv s1 ⟨x,H1,I1,r1,q1⟩=>ho hb s1 Z H1 x v Q I1 r1 q1)
def opI{f:f2!}{C:ta!}{g:mt_}
  (rule:∀(i j:Int) (t u:Tok) (s:zz!) (Q:K_) (E:K_),C i j->Q te! {s with toks:=s.toks+1}->wpAny d_ X.A mL_ Q E s):
  Gk X f (rI C λi j=>.int bl!):=by
 intro hb s Z H x y v u Q I rx ry h;obtain⟨i,j,rfl,rfl,hc,q⟩:=h;show"!A";obtain⟨t',rfl⟩:=ry;exact rule i j t t' s _ _ hc tf!
def d0f{f:f2!}{g:mt_}
  (rule:∀(i j:Int) (t u:Tok) (s:zz!) (Q:K_) (E:K_),Q te! {s with toks:=s.toks+1}->wpAny d_ X.A mL_ Q E s):
  Gk X f (Sa λi j=>.int bl!):=by
 show"!I";exact rule i j t t' s _ _ tf!
def c1r{f:f2!}{g:tf_}
  (rule:∀(i j:Int) (t u:Tok) (s:zz!) (Q:K_) (E:K_),Q (.bool bl!) s->wpAny d_ X.A mL_ Q E s):
  Gk X f (Sa λi j=>.bl bl!):=by
 show"!I";exact rule i j t t' s _ _ ⟨.bl bl!,H,I,rfl,q⟩
def CS(i j:Int):Prop:=0<j/\j<1073741824
def CQ(i j:Int):Prop:=0<=j/\j<=1000000/\cU!<2 ^ 64
def Yw(i j:Int):Prop:=(-it_<i/\i<2 ^ 64)\/(-it_<j/\j<2 ^ 64)
def Yw.ok{i j:Int}(h:Yw i j):IntMulOk i j:=by
 obtain⟨Y,h2⟩|⟨Y,h2⟩:=h
 .exact .of_left tg!
 .exact .of_right tg!
def c6o:Gk X ey_ (Sa λi j=>.int (i+j)):=d0f λ_ _ _ _ _ _ _ q=>add_int q
def pU:Gk X (binaryOp .Sub) th!:=d0f λ_ _ _ _ _ _ _ q=>sub_int q
def iY:Gk X th_ mN_:=opI λ_ _ _ _ _ _ _ hc q=>mul_int q hc.ok
def lX:Gk X (binaryOp .FloorDiv) mO_:=opI λi j _ _ _ _ _ hc q=>by
 have Y:(0:Int)<j:=hc.1;have h2:j<1073741824:=hc.2;exact floordiv_int a! (by rw[Int.fdiv_eq_ediv_of_nonneg i a!];exact q) (.inl (PyProof.noPylong_small a!))
def eP:Gk X (binaryOp .Mod) mP!:=opI λi j _ _ _ _ _ hc q=>by
 have Y:(0:Int)<j:=hc;exact mod_int' a! (by rw[Int.fmod_eq_emod_of_nonneg i a!];exact q)
def c6i:Gk X (binaryOp .Pow) mQ!:=opI λ_ _ _ _ _ _ _ hc q=>pow_int_small hc.1 hc.2.1 hc.2.2 q
def unI{g:iv!}
  (rule:∀(i:Int) (t:Tok) (s:zz!) (Q:K_) (E:K_),Q (.int (g i) s.toks) {s with toks:=s.toks+1}->wpAny d_ X.A (f do!) Q E s):
  HJ X f (rU λi=>.int (g i)):=by
 intro hb s Z H x v Q I rx h;obtain⟨i,rfl,q⟩:=h;show"!A";exact rule i t s _ _ ⟨.int (g i),H,a3_,K!,q⟩
def c5j:HJ X (unaryOp .USub) (rU λi=>.int (-i)):=unI λ_ _ _ _ _ q=>neg_int q
end
def GU:V->V->Bool
 |.non,.non=>true|.non,.int _=>true|.int _,.non=>true|.non,.bl _=>true|.bl _,.non=>true|.non,.str _=>true|.str _,.non=>true
 |.int _,.int _=>true|.bl _,.bl _=>true|.str _,.str _=>true|.byt _,.byt _=>true
 |.int _,.str _=>true|.str _,.int _=>true|.bl _,.str _=>true|.str _,.bl _=>true
 |_,_=>false
def IH:R2:=λx y H Q=>GU x y=true/\Q (.bl (!decide (x=y))) H
def b0c:decide (V.int i=V.int j)=(i==j):=by rw[OA];simp
def c8i:decide (V.bl i=V.bl j)=(i==j):=by rw[OA];simp
def b0b:decide (V.str i=V.str j)=(i==j):=by rw[OA];simp
def c3k:decide (V.byt i=V.byt j)=(i.toList==j.toList):=by rw[OA];cases i;cases j;simp
section
variable{X:Cx}
def eI(I:d!)(q:Q (.bl k) H)(e:k=k'):EP X hb Z Q (.bool k') s:=by subst e;exact⟨.bl k,H,I,rfl,q⟩
def wO:Gk X ti_ IH:=by
 intro hb s Z H x y v u Q I rx ry h;obtain⟨hs,q⟩:=h;cases x with
 |non=>
  cases rx;cases y with
  |non=>cases ry;exact PySem.EqNone.ne_none_none bz!
  |bl j=>cases ry;exact PySem.EqNone.ne_none_bool bz!
  |int j=>obtain⟨t',rfl⟩:=ry;exact PySem.EqNone.ne_none_int bz!
  |str j=>obtain⟨t',rfl⟩:=ry;exact PySem.EqNone.ne_none_str bz!
  |_=>exact absurd ez_ LH
 |bl i=>
  cases rx;cases y with
  |non=>cases ry;exact PySem.EqNone.ne_bool_none bz!
  |bl j=>cases ry;exact ne_bool (eI I q (congrArg not c8i))
  |str j=>obtain⟨t',rfl⟩:=ry;exact PySem.EqMixed.ne_bool_str bz!
  |_=>exact absurd ez_ LH
 |int i=>
  obtain⟨t,rfl⟩:=rx;cases y with
  |non=>cases ry;exact PySem.EqNone.ne_int_none bz!
  |int j=>obtain⟨t',rfl⟩:=ry;exact ne_int (eI I q (congrArg not b0c))
  |str j=>obtain⟨t',rfl⟩:=ry;exact PySem.EqMixed.ne_int_str bz!
  |_=>exact absurd ez_ LH
 |str i=>
  obtain⟨t,rfl⟩:=rx;cases y with
  |non=>cases ry;exact PySem.EqNone.ne_str_none bz!
  |bl j=>cases ry;exact PySem.EqMixed.ne_str_bool bz!
  |int j=>obtain⟨t',rfl⟩:=ry;exact PySem.EqMixed.ne_str_int bz!
  |str j=>obtain⟨t',rfl⟩:=ry;exact ne_str (eI I q (congrArg not b0b))
  |_=>exact absurd ez_ LH
 |byt i=>
  obtain⟨t,rfl⟩:=rx;cases y with
  |byt j=>obtain⟨t',rfl⟩:=ry;exact W.ne_bytes (eI I q (congrArg not c3k))
  |_=>exact absurd ez_ LH
 |_=>cases y<;>exact absurd ez_ LH
def a8z:Gk X (compareOp .Lt) mS_:=c1r λ_ _ _ _ _ _ _ q=>lt_int q
def d0c:Gk X mT! (Sa λi j=>.bl mT_):=c1r λ_ _ _ _ _ _ _ q=>le_int q
def a9a:Gk X tj_ mU_:=c1r λ_ _ _ _ _ _ _ q=>gt_int q
def d0e:Gk X (compareOp .GtE) mV_:=c1r λ_ _ _ _ _ _ _ q=>ge_int q
def a5u:Gk X tk_ tl_:=by
 intro hb s Z H x y v u Q I rx ry h;obtain⟨rfl,q⟩:=h;cases ry;refine is_none_gen (eI I q ?_);cases x<;>first
  |(cases rx;rfl)
  |(obtain⟨t,rfl⟩:=rx;rfl)
def lW:Gk X tm! tm_:=by
 intro hb s Z H x y v u Q I rx ry h;obtain⟨rfl,q⟩:=h;cases ry;refine isnot_none_gen (eI I q ?_);cases x<;>first
  |(cases rx;rfl)
  |(obtain⟨t,rfl⟩:=rx;rfl)
def Gk.or(h:Gk X f r)(h':Gk X f r'):Gk X f tn_:=by
 intro hb s Z H x y v u Q I rx ry q;obtain q|q:=q
 .exact h hb s Z H x y v u Q I rx ry q
 .exact h' hb s Z H x y v u Q I rx ry q
def aS(b:Expr)(h:op≠.In:=by decide)(h2:op≠.NotIn:=by decide):behindInMarks op b=false:=by
 have e1:se!=false:=by cases op<;>first|rfl|exact absurd rfl h
 have e2:se_=false:=by cases op<;>first|rfl|exact absurd rfl h2
 cases b<;>simp[behindInMarks,e1,e2]
def a8u(ho:bS_)(ha:aR_)(J:ck!)(hm:ds_):PE X dt! it!:=by intro hb s Z H Q I h;exact wpAny_Compare1 tb_ hm
def AQ(t:TE):TT:=λZ H Q=>t Z H λx H'=>∃k,x=.bl k/\Q k H'
def a8m(ho:bS_)(ha:aR_)(J:ck!)(hm:ds_):PT X dt! (AQ it!):=by
 intro hb s Z H Q I h;refine UF (dF ck_ λv s1 ⟨x,H1,I1,r1,q1⟩=>dF fU! λu s2 ⟨y,H2,I2,r2,q2⟩=>
  dF mX_ λc s3 ⟨z,H3,I3,r3,k,e,q3⟩=>?_) hm
 subst e;cases r3;exact MM ⟨H3,I3,q3⟩
def Xo(r r':R2)(ta tb tc:TE):TE:=λZ H Q=>ta Z H λx H1=>tb Z H1 λy H2=>r x y H2 λz H3=>∃k,z=.bl k/\
 (if k=true then tc Z H3 λw' H4=>r' y w' H4 Q else Q Z! H3)
def b5n(ho:bS_)(d8:iw_)(ha:aR_)(J:ck!)(hc:PE X c tc)
  (hm:ix!:=by with_unfolding_all rfl):PE X ix_ tp!:=by
 intro hb s Z H Q I h;refine Compare_chain (dF ck_ λv s1 ⟨x,H1,I1,r1,q1⟩=>chain_link (dF fU! λu s2 ⟨y,H2,I2,r2,q2⟩=>
  dF mX_ λd s3 ⟨z,H3,I3,r3,k,e,q3⟩=>?_)) hm
 subst e;cases r3;refine MM ?_;cases k with
 |false=>exact ite_ff ⟨h9!,H3,I3,rfl,q3⟩
 |true=>exact ite_tt (chain_last (dF tp_ λw' s4 ⟨z',H4,I4,r4,q4⟩=>d8 hb s4 Z H4 y z' u w' Q I4 r2 r4 q4))
def b4s(ho:bS_)(d8:iw_)(ha:aR_)(J:ck!)(hc:PE X c tc)
  (hm:ix!:=by with_unfolding_all rfl):PT X ix_ (AQ tp!):=by
 intro hb s Z H Q I h;refine isTrue_chain (dF ck_ λv s1 ⟨x,H1,I1,r1,q1⟩=>test_link (dF fU! λu s2 ⟨y,H2,I2,r2,q2⟩=>
  dF mX_ λd s3 ⟨z,H3,I3,r3,k,e,q3⟩=>?_)) hm
 subst e;cases r3;refine MM ?_;cases k with
 |false=>
  obtain⟨k',e',q'⟩:=q3;cases e';exact ite_ff ⟨H3,I3,q'⟩
 |true=>
  refine ite_tt (test_last (dF tp_ λw' s4 ⟨z',H4,I4,r4,q4⟩=>dF (d8 hb s4 Z H4 y z' u w' _ I4 r2 r4 q4) ?_));rintro d' s5 ⟨z2,H5,I5,r5,k2,e2,q5⟩;subst e2;cases r5;exact MM ⟨H5,I5,q5⟩
def EY(KF:zA!)(x:V)(H:Hp)(k:Bool):Prop:=
 match x with
 |.non=>k=false
 |.bl b=>k=b
 |.int i=>k=f4!
 |.str y=>co!<=sizeLine/\k=((co!:Int) != 0)
 |.byt y=>y.size<=sizeLine/\k=((y.size:Int) != 0)
 |.ref p=>(∃xs,Fm KF H p xs/\k=! dx!)\/(∃xs,Fz KF H p xs/\k=! dx!)\/∃h1,H p=some dx_/\k=! mY_
 |_=>False
def a6u(r:KV h1 vs):(!vs.isEmpty)=! mY_:=by cases r<;>rfl
def uQ(r:Az xs its):(! mZ!)=! dx!:=by cases r<;>simp
def qE:(sizeLine:Nat)<2 ^ 63:=by rw[MY];decide
def c5l:HK X (λx H Q=>∃k,EY X.K x H k/\Q k H):=by
 intro hb s Z H x v Q I rx h;obtain⟨k,e,q⟩:=h;have hl:=qE;have hs:sizeLine=16777216:=MY;cases x with
 |non=>
  cases rx;have e':k=false:=e;subst e';exact truthy_none mZ_
 |bl b=>
  cases rx;have e':k=b:=e;subst e';exact MM mZ_
 |int i=>
  show"!A";have e':k=f4!:=e;subst e';exact PySem.P.truthy_int mZ_
 |str y=>
  show"!A";obtain⟨hy,e'⟩:co!<=sizeLine/\k=((co!:Int) != 0):=e;subst e';exact PySem.P.truthy_str a! ts!
 |byt y=>
  show"!A";obtain⟨hy,e'⟩:y.size<=sizeLine/\k=((y.size:Int) != 0):=e;subst e';exact W.truthy_bytes a! ts!
 |ref p=>
  cases rx;have e':(∃xs,Fm X.K H p xs/\k=! dx!)\/(∃xs,Fz X.K H p xs/\k=! dx!)\/∃h1,H p=some dx_/\k=! mY_:=e;obtain⟨xs,hx,e'⟩|⟨xs,hx,e'⟩|⟨h1,hx,e'⟩:=e'
  .subst e';obtain⟨its,r,pl,hz⟩:=I.list hx;have ao:=aJ!;exact wpAny_truthy_list pl.isList iy_ ts_
  .subst e';obtain⟨its,r,pl,hz⟩:=I.tuple hx;have ao:=aJ!;exact truthy_tuple pl iy_ ts_
  .subst e';obtain⟨hz,hS,vs,r,m⟩:av!<=sizeLine/\(p==sysModules)=false/\∃vs,KV h1 vs/\s.heap.DictOf (mixKind X.prog X.w) p vs:=I.hok p _ hx;have ao:av!=a5!:=QL r;exact wpAny_truthy_dict hS m a! ⟨H,a3_,by rw[a6u r];exact q⟩
 |_=>exact(tt_).elim
def b4q(ha:aR_)(he:∀du,isTrue a X.env du=(do let v <-du;standAt a.pos;holding [v] mf!)):
  PT X a (λZ H Q=>ta Z H λx H'=>∃k,EY X.K x H' k/\Q k H'):=by
 show"!?";exact isTrue_plain (dF ck_ λv s1 ⟨x,H1,I1,r1,q1⟩=>c5l hb s1 Z H1 x v Q I1 r1 q1) (he _)
def a5v:Gk X ey_ (λx y H Q=>∃i j,x=.str i/\y=.str j/\i.length+j.length<=sizeLine/\Q tu_ H):=by intro hb s Z H x y v u Q I rx ry h;obtain⟨i,j,rfl,rfl,hz,q⟩:=h;obtain⟨t,rfl⟩:=rx;obtain⟨t',rfl⟩:=ry;exact add_str (λt' tk=>⟨.str (i++j),H,a3_,K!,q⟩) hz
def mL(r:Az [x] us):∃u,us=[u]/\Bn x u:=by
 cases r with
 |cons r1 r2=>cases r2;exact⟨_,rfl,r1⟩
def wC(r:Az [x,y] us):∃u w',us=[u,w']/\Bn x u/\Bn y w':=by
 cases r with
 |cons r1 r2=>
  cases r2 with
  |cons r3 r4=>cases r4;exact⟨_,_,rfl,r1,r3⟩
def b9s:Io X tv_ tw!:=by intro hb s Z H xs us Q I r h;obtain⟨i,rfl,q⟩:=h;obtain⟨u,rfl,t,rfl⟩:=mL r;exact call_abs_int λu tk=>⟨.int iz_,H,a3_,K!,q⟩
def b9p:Io X tx! ty!:=by intro hb s Z H xs us Q I r h;obtain⟨x,rfl,hz,q⟩:=h;obtain⟨u,rfl,t,rfl⟩:=mL r;exact ord_of_one hz ij!
def CN(KF:zA!)(x:V)(H:Hp)(n:Nat):Prop:=
 match x with
 |.str y=>co!<=sizeLine/\n=co!
 |.byt y=>y.size<=sizeLine/\n=y.size
 |.ref p=>(∃xs,Fm KF H p xs/\n=i!)\/∃xs,Fz KF H p xs/\n=i!
 |_=>False
def cU:Io X ty_ (λxs H Q=>∃x n,xs=[x]/\CN X.K x H n/\Q f5_ H):=by
 intro hb s Z H xs us Q I r h;obtain⟨x,n,rfl,e,q⟩:=h;obtain⟨u,rfl,rx⟩:=mL r;have hl:=qE;have hs:sizeLine=16777216:=MY;cases x with
 |str y=>
  show"!A";obtain⟨hy,e'⟩:co!<=sizeLine/\n=co!:=e;subst e';exact len_str a! ij!
 |byt y=>
  show"!A";obtain⟨hy,e'⟩:y.size<=sizeLine/\n=y.size:=e;subst e';exact W.len_bytes a! ij!
 |ref p=>
  cases rx;have e':(∃xs,Fm X.K H p xs/\n=i!)\/∃xs,Fz X.K H p xs/\n=i!:=e;obtain⟨xs,hx,e'⟩|⟨xs,hx,e'⟩:=e'
  .subst e';obtain⟨its,r',pl,hz⟩:=I.list hx;have ao:=iA!;exact Calls.call_len_list pl.isList iy_ tz_
  .subst e';obtain⟨its,r',pl,hz⟩:=I.tuple hx;have ao:=iA!;exact len_tuple pl iy_ tz_
 |_=>exact(tt_).elim
end
end L2
namespace L2
open PySem PySem.Spec PyProof.Rows
structure Vr(h:Heap)(x dx C:u0!)(mA:O_):Prop where
 obj:h.get? x=some lF!
 ns:h.Ns1 dx mA
 ne:dx≠x
def b2l{h:Heap}(n:h.Ns1 dx mA):∃od,h.get? dx=some od/\∀name,W.lookIn name od=some (mA name):=by
 obtain⟨o,es,ep,ho,hd,hk,_,hm⟩:=n;refine⟨o,ho,λname=>?_⟩;have e:=hm name;unfold nsFind findBy at e;rw[<-Array.find?_toList]at e;unfold W.lookIn;rw[hd];dsimp only;split
 .rename_i y q;rw[q]at e;exact congrArg some e
 .rename_i q;rw[q]at e;have a:es.toList.any (·.refKey)=false:=by
   rw[List.any_eq_false];intro y hy;obtain⟨z,t,YJ⟩:=hk y (Array.mem_toList_iff.mp hy);simp[DictEntry.refKey,YJ]
  have a':¬es.toList.any (·.refKey)=true:=by rw[a];exact LH
  rw[KN a'];exact congrArg some e
def Vr.look(I:Vr h x dx C mA):∃od,W.InstAt h x lF! C (some od)/\∀name,W.lookIn name od=some (mA name):=
 let⟨od,ho,hl⟩:=b2l I.ns
 ⟨od,⟨I.obj,rfl,rfl,ho⟩,hl⟩
section
def c2t(X:f6!)(I:m0!)(hg:tB_)(hh:tC!)
  (ha:W.findIn KF U_ name=some none)(hv:mA name=some v)(v4:W.handedIn v=true)(h:Q v {s with toks:=s.toks+1}):
  wpAny l! A (getAttr fK! name expr) Q E s:=by
 show"#4";exact W.get_value X af (m1!).1 (W.findObj_own hh ha rfl (by rw[hl,hv])) v4 h
def b8c(X:f6!)(I:m0!)(hg:tB_)
  (hf:W.findIn KF U_ name=some eA_)(ht:m1_)(hv:mA name=none)(h:Q (.ref f,[.ref x]) s):
  wpAny l! A (getMethod fK! name pl) Q E s:=by
 show"#4";exact W.method_fn X af (m1!).1 (m1!).2 hf (QS.mp ht) (by show(W.lookIn name od).map (·.isSome)=some false;rw[hl,hv];rfl) h
def c0m(X:f6!)(I:m0!)
  (hs:W.findIn KF U_ "__setattr__"=some tD_)(hp:W.plainOver KF C=true)(ht:W.takerIn KF C name=some none)(hh:tC!)
  (hw:PySem.Within mA ns)(hsz:tE_)
  (h:∀h',Vr h' x dx C (λy=>if y=name then some v else mA y)->Heap.SameBut dx s.heap h'->Q () {s with heap:=h',toks:=s.toks+2}):
  wpAny l! A (setAttr fK! name v) Q E s:=by
 show"#4";refine W.set_plain X af hs (W.osa_open (s:=m2!) (r:=none) X af hp ht λb=>?_);obtain⟨cd,hc,mh⟩:=W.any_some hh;have hx:s.heap.get? x=some ⟨.ref C,some dx,.plain,#[]⟩:=I.obj;refine JY (KB (JY (JY (UU hx (JY (W.Looks.here (s:=m2!) (W.looks_clsIn X hc) ?_))))));rw[mh];refine KB (a:=some dx) (JY (KB iB_));refine wpAny_nsSet1 (s:=m2!) I.ns λh' g7 bj=>?_;obtain⟨oD,esD,epD,v5,v6,YK⟩:=g7.count (PySem.Within.cons name v hw);refine JY (wpAny_lookBehind v5 (by rw[v6];exact pastItsLine_dict (LV YK (by rw[KO];omega))) ?_);exact KB (h _ ⟨(bj.2 _ (LQ I.ne)).trans I.obj,g7,I.ne⟩ bj)
def b6w(X:f6!)(hm:tG_)
  (hi:tH!)(hf:W.typeIn KF af_=some (.type "function"))
  (h:codeAny l! (A.under (.builtin "type.__call__" ⟨.ref C::vs,kw⟩)) (.call af_ ⟨.ref aa!::vs,kw⟩) (W.InitBack aa! R)
   {s with heap:=(eB!).push iC_}):
  codeAny l! A (.call U_ ⟨vs,kw⟩) R s:=by
 obtain⟨hh,g,d,t,os⟩:=s;exact W.make_core (W.makes_of X hm) (W.looks_findIn X hi) (λself=>W.bind_fn X self hf) an_ h
end
def Kq(f:Str)(v:V):List cN_->List cN_
 |[]=>[(f,v)]
 |(g,x)::r=>if g=f then(g,v)::r else(g,x)::Kq f v r
def qY(f g:Str)(v:V):∀fs:List cN_,(iD!).lookup g=if g=f then some v else fs.lookup g
 |[]=>by
  show List.lookup g [(f,v)]=_;by_cases h:g=f
  .have J:(g==f)=true:=QS.mpr h;simp only[List.lookup,J,KM h]
  .have J:(g==f)=false:=NC.mpr h;simp only[List.lookup,J,KN h]
 |(k,x)::r=>by
  have ih:=qY f g v r;rw[m3!];by_cases hk:k=f
  .rw[a6!];by_cases h:g=k
   .have J:(g==k)=true:=QS.mpr h;simp only[List.lookup,J,KM (h.trans hk)]
   .have J:(g==k)=false:=NC.mpr h;simp only[List.lookup,J,KN (λe:g=f=>h (e.trans hk.symm))]
  .rw[a6_];by_cases h:g=k
   .have J:(g==k)=true:=QS.mpr h;simp only[List.lookup,J,KN (λe:g=f=>hk (h.symm.trans e))]
   .have J:(g==k)=false:=NC.mpr h;simp only[List.lookup,J];exact ih
def qF(f:Str)(v:V):∀fs:List cN_,f∈(iD!).map c_/\∀g,g∈fs.map c_->g∈(iD!).map c_
 |[]=>⟨by simp[Kq],λg h=>by simp at h⟩
 |(k,x)::r=>by
  obtain⟨i1,i2⟩:=qF f v r;rw[m3!];by_cases hk:k=f
  .rw[a6!];subst hk;exact⟨Q_,λg h=>by simpa using h⟩
  .rw[a6_];refine⟨?_,λg h=>?_⟩
   .rw[KL];exact KA _ i1
   .rw[KL]at h ⊢;obtain e|e:=KG.mp h
    .exact KG.mpr (.inl e)
    .exact KA _ (i2 g e)
def rA(f:Str)(v:V):∀fs:List cN_,(iD!).length<=bj!+1
 |[]=>by simp[Kq]
 |(k,x)::r=>by
  have ih:=rA f v r;rw[m3!];by_cases hk:k=f
  .rw[a6!,KO,KO];omega
  .rw[a6_,KO,KO];omega
def Nu.some_of(r:Nu a2! o):∃u,o=some u/\Bn v u:=by
 cases o with
 |none=>exact(iE!).elim
 |some u=>exact⟨u,rfl,r⟩
def Nu.none_of(r:Nu none o):o=none:=by
 cases o with
 |none=>rfl
 |some u=>exact(iE!).elim
def b2s(r:a3!):W.handedIn u=true:=by
 cases v with
 |non=>cases (show u=ci_ from r);rfl
 |bl b=>cases (show u=Value.bool b from r);rfl
 |int i=>obtain⟨t,e⟩:=tK!;cases e;rfl
 |str x=>obtain⟨t,e⟩:=tK_;cases e;rfl
 |byt b=>obtain⟨t,e⟩:=(show∃t,u=Value.bytes b t from r);cases e;rfl
 |flt b=>obtain⟨t,e⟩:=(show∃t,u=Value.float b t from r);cases e;rfl
 |ref a=>cases (show u=Value.ref a from r);rfl
 |ty n=>cases (show u=Value.type n from r);rfl
section
def a0l(hok:a1!)(e:iE_):∃mA,Vr h a dx C mA/\ri_/\PySem.Within mA lF_/\bj!<=1000/\H dx=some fJ_:=by obtain⟨d,z,ne,ob,mA,n,r,q⟩:=(show Em P w H h a eC! from hok a _ e);exact⟨mA,⟨ob,n,ne⟩,r,q,z,d⟩
end
structure Uo(KF:zA!)(C:u0!):Prop where
 pg:W.plainGet KF C Str.empty=true
 hd:W.hasDictIn KF C=true
 po:W.plainOver KF C=true
 sa:W.findIn KF U_ "__setattr__"=some tD_
def Uo.get(c:Uo KF C)(f:Str):W.plainGet KF C f=true:=c.pg
def Eb(KF:zA!)(C:u0!)(f:Str):Prop:=W.findIn KF U_ f=some none
def Eb.taker(n:Eb KF C f):W.takerIn KF C f=some none:=by unfold W.takerIn;rw[show W.findIn KF U_ f=some none from n];rfl
structure Xi(KF:zA!)(C:u0!)(m:Str)(f:u0!):Prop where
 at_:W.findIn KF U_ m=some eA_
 fn:W.isFn KF af_=true
 kp:W.keepIn KF af_=true
section
variable{X:Cx}
def a6y(I:d!)(e:iE_)(c:dy_)(n:Eb X.K C f)(l:fs.lookup f=some v)
  (h:∀u s',Inv X hb Z H s'->Bn v u->Q u s'):wpAny d_ A (getAttr F! f b) Q E s:=by
 obtain⟨mA,O,r,_,_,_⟩:=a0l I.hok e;obtain⟨u,hu,ru⟩:=Nu.some_of (v:=v) (o:=mA f) (by rw[<-l];exact r f);exact c2t I.kIn O (c.get f) c.hd n hu (b2s ru) (h u _ eD! ru)
def nG(I:d!)(e:iE_)(c:dy_)(k:Xi X.K C m g)(l:fs.lookup m=none)
  (h:Q (.ref g,a8!) s):wpAny d_ A (getMethod F! m pl) Q E s:=by
 obtain⟨mA,O,r,_,_,_⟩:=a0l I.hok e;have hn:mA m=none:=Nu.none_of (by rw[<-l];exact r m);exact b8c I.kIn O (c.get m) k.at_ k.fn hn h
def a5h(I:d!)(e:iE_)(c:dy_)(n:Eb X.K C f)(hl:bj!<1000)(ry:Bn y u)
  (h:∀s',Inv X hb Z (upd H a tM_) s'->Q () s'):wpAny d_ A (setAttr F! f u) Q E s:=by
 obtain⟨mA,O,r,wi,_,ho⟩:=a0l I.hok e;have hz:(lF_).length<=sizeLine:=by rw[KQ,MY];omega
 refine c0m I.kIn O c.sa c.po n.taker c.hd wi hz λh' O' sb=>h _ ?_;have hd:∃o,h'.get? dx=some o:=let⟨o,_,_,e',_⟩:=O'.ns;⟨o,e'⟩;refine I.write (x:=a) (e:=dx) tN! (.inr ho) (λb q J z=>(sb.2 b J).trans z) hd ?_;refine⟨by rw[aY O.ne];exact ho,?_,O.ne,O'.obj,_,O'.ns,λg=>?_,λg hg=>?_⟩
 .have:=rA f y fs;omega
 .show Nu ((Kq f y fs).lookup g) tO!;rw[qY];by_cases q:g=f
  .rw[KM q,KM q];exact ry
  .rw[KN q,KN q];exact r g
 .by_cases q:g=f
  .rw[q];exact(qF f y fs).1
  .refine(qF f y fs).2 g (wi g λz=>hg ?_);show tO!=none;rw[KN q];exact z
def Inv.made(I:d!):Inv X hb Z (upd (upd H s.heap.objs.size (.own aa!)) aa! (.ins C s.heap.objs.size []))
  {s with heap:=(eB!).push iC_}:=by
 have e1:(eB!).get? h_=some iC!:=LC s.heap rfl;have e2:((eB!).push iC_).get? aa!=some iC_:=by
  have:=LC eB! (o:=W.instObj C h_) rfl;rwa[QB]at this
 have e3:(eB!).Ns s.heap.objs.size m6_:=⟨iC!,#[],_,e1,rfl,(λe he=>absurd he c!),bT_⟩;have I1:=I.laid (a:=h_) (o:=.own aa!) (h':=s.heap.push iC!) (t':=s.toks) tQ! r! ⟨_,e1⟩;refine I1.laid (a:=h_+1) (o:=.ins C s.heap.objs.size []) (t':=s.toks) tQ! (RG (QB _ _)) ?_;have ne:h_≠h_+1:=LU (RT _);refine⟨by rw[aY ne,bY],LY _,ne,e2,λ_=>none,(Heap.Ns1.of_empty e3).at λo q=>KC _ q,λ_=>iF_,λy hy=>absurd rfl hy⟩
def c3y(J:attributeBase e f env tR!=eval e env)
  (h:wpAny l! A tR! (λo ai=>wpAny l! A (getAttr o f true) Q E ai) E s):wpAny l! A (eval tR_ env) Q E s:=
 Attribute_any_ h (by rw[arm_eval_Attribute,J])
end
def GR(KF:zA!)(ta:TE)(f:Str):TE:=λZ H Q=>ta Z H λx H1=>∃a C dx fs v,x=.ref a/\H1 a=some eC!/\Uo KF C/\Eb KF C f/\fs.lookup f=some v/\Q v H1
def GV(KF:zA!)(ta tv:TE)(f:Str):TS:=λD Z H=>tv Z H λy H1=>ta Z H1 λx H2=>∃a C dx fs,x=.ref a/\H2 a=some eC!/\Uo KF C/\Eb KF C f/\bj!<1000/\
 D.nx Z (upd H2 a tM_)
section
variable{X:Cx}
def c6f(he:PE X e ta)(J:attributeBase e f X.env es!=eval e X.env):PE X tR_ (GR X.K ta f):=by intro hb s Z H Q I h;refine c3y J cT!;rintro u s1 ⟨x,H1,I1,rx,a,C,dx,fs,v,ex,ea,c,n,l,q⟩;subst ex;obtain rfl:u=Value.ref a:=rx;exact a6y I1 ea c n l λu' s2 I2 ru=>⟨v,H1,I2,ru,q⟩
def c5z(ha:m7!)(hv:PE X value tv)(hs:swapsWith value (some (.Attribute o f pos')) pos.line X.env=pure false):PS X (.Assign [.Attribute o f pos'] value pos) (GV X.K ta tv f):=by intro hb s Z H D I h;refine plainObj_wpAny_Assign_Attribute (dF (hv hb s Z H _ I h) λu s1 ⟨y,H1,I1,ry,q⟩=>dF (ha hb s1 Z H1 _ I1 q) ?_) hs;rintro ov s2 ⟨x,H2,I2,rx,a,C,dx,fs,ex,ea,c,n,l,q2⟩;subst ex;obtain rfl:ov=Value.ref a:=rx;exact a5h I2 ea c n l ry λs3 I3=>⟨Z,_,I3,q2⟩
def c4t(he:cm_)(I:d!)
  (h:te Z H λx H1=>∃a C dx fs g,x=.ref a/\H1 a=some eC!/\Uo X.K C/\Xi X.K C m g/\fs.lookup m=none/\
   ∀s1,Inv X hb Z H1 s1->wpAny d_ X.A (callWith pos (.ref g) a8! tS_ eE!) Q X.xe s1)
  (ht:eval tT! X.env=(do
   let ov <-eval e X.env
   standAt f9!
   let(f,first) <-holding [ov] f9_
   callWith pos f first tS_ eE!)):
  wpAny d_ X.A (eval tT! X.env) Q X.xe s:=by
 refine W.methodCall_KW (pl:=pl) cT! ht;rintro u s1 ⟨x,H1,I1,rx,a,C,dx,fs,g,ex,ea,c,k,l,q⟩;subst ex;obtain rfl:u=Value.ref a:=rx;exact nG I1 ea c k l (q s1 I1)
end
end L2
namespace L2
open PySem PySem.Spec PyProof.Rows
structure Ah(k:Nat)(A:zm!):Prop where
 hd:A.handled=none
 dp:A.depth+3*k+5<recursionLimit
 un:A.units+16*k+200<cLine
 gd:A.guards=some []
def Ah.mono(r:ga!)(h:j<=k):Ah j A:=⟨r.hd,by have:=r.dp;omega,by have:=r.un;omega,r.gd⟩
def Ah.deeper(r:Ah M_ A)(env:Env):Ah k (A.deeper env):=
 ⟨r.hd,by have:=r.dp;show A.depth+1+3*k+5<_;omega,by have:=r.un;show A.units+3+16*k+200<_;omega,r.gd⟩
def Ah.in1(r:Ah M_ A):Ah k A.in1:=
 ⟨r.hd,by have:=r.dp;show A.depth+3*k+5<_;omega,by have:=r.un;show A.units+1+16*k+200<_;omega,r.gd⟩
def a6p{A:zm!}:(iI_).depth=A.depth+1:=by first|rfl|simp[Around.under,Code.weight,Code.isCreation,Code.isGuard,Code.isCaller,Code.frames,Code.isFrame,guardIds]
def a6o{A:zm!}:(iI_).units=A.units+1:=by first|rfl|simp[Around.under,Code.cUnits,Code.frames,Code.isFrame]
def Ah.make(r:Ah M_ A)(C:u0!)(us:k_)(kw:iJ!):Ah k iI_:=
 ⟨r.hd,by have:=r.dp;rw[a6p];omega,by have:=r.un;rw[a6o];omega,by first|exact r.gd|(simpa[Around.under,Code.guards,Code.isGuard,guardIds,pushGuards]using r.gd)⟩
def Ah.depth(r:ga!):A.depth<recursionLimit:=by have:=r.dp;omega
def Ah.units(r:ga!):A.units+64<cLine:=by have:=r.un;omega
def Ah.units0(r:ga!):A.units<cLine:=by have:=r.un;omega
def BN:TA:=λ_ H Q=>Q [] H
def DP(ta:TE)(tr:TA):TA:=λZ H Q=>ta Z H λx H1=>tr Z H1 λxs H2=>Q eF! H2
section
variable{X:Cx}
def fK:PA X [] BN:=λ_ _ _ _ H Q I h=>QH ⟨[],H,I,.nil,h⟩
def dC(ha:cm_)(hr:ga_)(hs:ah!:=by rfl):PA X aA_ (DP te t):=by intro pos hb s Z H Q I h;rw[hs];show wpAny _ _ (spliced (dA!::backTo pos l7_)) _ _ s;refine OD h8_;rintro u s1 ⟨x,H1,I1,r1,q1⟩;exact dF (hr pos hb s1 Z H1 _ I1 q1) λus s2 ⟨xs,H2,I2,r2,q2⟩=>⟨x::xs,H2,I2,.cons r1 r2,q2⟩
def GJ(t:TA):TE:=λZ H Q=>t Z H λxs H1=>i!<=sizeLine/\∀p,H1 p=none->Q cp_ (upd H1 p bw_)
def GO(t:TA):TE:=λZ H Q=>t Z H λxs H1=>i!<=sizeLine/\∀p,H1 p=none->Q cp_ (upd H1 p M!)
def b5g {x1}(h:ga_):PE X tW! (GJ t):=by intro hb s Z H Q I hq;refine wpAny_Tuple_spliced tW_;have hf:H1 x!=none:=I1.hok.fresh r!;refine⟨.ref x!,upd H1 s1.heap.objs.size bw_,tX!,rfl,q _ hf⟩;exact⟨z,us,r,⟨_,dv!,rfl,_,rfl⟩⟩
def pT(h:ga_):PE X iL_ (GO t):=by intro hb s Z H Q I hq;refine wpAny_List_spliced tW_;have hf:H1 x!=none:=I1.hok.fresh r!;refine⟨.ref x!,upd H1 s1.heap.objs.size M!,tX!,rfl,q _ hf⟩;exact⟨z,us,0,r,dv!⟩
end
abbrev Sp:=List V->Hp->VK->XK->Prop
abbrev BI:=List Env->Hp->Shared->XK->Value->Shared->Prop
structure Qt(P:zy!)(w:zx!)(KF:zA!)(mg:O_)(base:Heap)(A:zm!)(outer:ao!)(s:zz!)(H:Hp):Prop where
 frames:A.frames=some outer
 mod:Mod KF mg base
 bs:∀b o,base.get? b=some o->s.heap.get? b=some o/\H b=none
 bsz:base.objs.size<=h_
 funs:s.heap.FunFrames base outer
 frf:∀b∈frs outer,H b=none
 hok:Lp P w H s.heap
 bare:AllBare s.gens
def CE(outer:ao!)(P:zy!)(w:zx!)(H:Hp)(s:zz!)(Q:VK)(u:zp!)(s':zz!):Prop:=
 ∃v H',s'.os=s.os/\AllBare s'.gens/\Un (frs outer) [] H H' s.heap s'.heap/\Lp P w H' s'.heap/\Bn v u/\Q v H'
def CR(CX:BI)(outer:ao!)(P:zy!)(w:zx!)(H:Hp)(s:zz!)(Q:VK)(E:XK)(r:Result)(s':zz!):Prop:=
 match r with
 |.ok (.ret u)=>CE outer P w H s Q u s'
 |.ok _=>False
 |.error e=>CX outer H s E e s'
structure Fk(P:zy!)(w:zx!)(KF:zA!)(mg:O_)(base:Heap)(CX:BI)(k:Nat)(f:u0!)(fd:FuncData)(ps:G_)(sp:Sp):Prop where
 len:∀vs H Q E,sp vs H Q E->a5!=P!
 run:∀(A:zm!) (outer:ao!) (s:zz!) (H:Hp) (args:Args) (us:k_) (vs:q!) (Q:VK) (E:XK),Ah k A->Qt P w KF mg base A outer s H->BindsTo s fd args cY!->Az vs us->sp vs H Q E->
  codeAny C! A (.call af_ args) (CR CX outer P w H s Q E) s
def Fk.mono(F:Fk P w KF mg base CX j f fd ps sp)(h:j<=k):
  Fk P w KF mg base CX k f fd ps sp:=⟨F.len,λA outer s H args us vs Q E hr=>F.run A outer s H args us vs Q E (hr.mono h)⟩
def Fk.imp(F:Fk P w KF mg base CX k f fd ps sp)
  (h:∀vs H Q E,YL vs H Q E->sp vs H Q E):Fk P w KF mg base CX k f fd ps YL:=
 ⟨λvs H Q E q=>F.len vs H Q E (h _ _ _ _ q),λA outer s H args us vs Q E hr he J hv hs=>F.run A outer s H args us vs Q E hr he J hv (h _ _ _ _ hs)⟩
def Qt.make(e:na_)(C:u0!)(us:k_)(kw:iJ!):
  Qt P w KF mg base iI_ outer s H:=⟨by first|exact nb!|(simpa[Around.under,Code.envs,Code.isFrame,pushEnvs]using nb!),e.mod,e.bs,e.bsz,e.funs,e.frf,e.hok,e.bare⟩
def Qt.in1(e:na_):
  Qt P w KF mg base A.in1 outer s H:=⟨nb!,e.mod,e.bs,e.bsz,e.funs,e.frf,e.hok,e.bare⟩
section
variable{X:Cx}
def Inv.env0(I:d!):Qt X.prog X.w X.K X.mg X.base X.A X.stack s H:=
 ⟨I.ok.frames,I.ok.mod,I.bs,LV I.ok.bsz I.sz,I.stack,I.stkFree,I.hok,I.bare⟩
def Inv.after(I:d!)(h:CE X.stack X.prog X.w H s Q u s'):EP X hb Z Q u s':=by obtain⟨v,H',os,bare,un,hok,r,q⟩:=h;obtain⟨hh,g,d,t,v7⟩:=s';obtain rfl:v7=s.os:=os;exact⟨v,H',I.call (h':=hh) (g':=g) (d':=d) (t':=t) (ch:=[]) un hok bare tY!,r,q⟩
end
def DQ(sp:Sp)(dvs:q!)(E:XK)(t:TA):TE:=λZ H Q=>t Z H λvs H1=>sp dB! H1 Q E
def AR(C:u0!)(m:Str)(sp:Sp)(dvs:q!)(E:XK)(ta:TE)(t:TA):TE:=λZ H Q=>ta Z H λx H1=>∃a dx fs,x=.ref a/\H1 a=some eC!/\fs.lookup m=none/\
 t Z H1 λvs H2=>sp (x::dB!) H2 Q E
def AS(C:u0!)(sp:Sp)(dvs:q!)(E:XK)(t:TA):TE:=λZ H Q=>t Z H λvs H1=>∀x dx,H1 x=none->H1 dx=none->dx≠x->
 sp tY_ nc! tZ_ E
def Eu(KF:zA!)(fd:FuncData)(ps:G_)(ds:k_):Prop:=
 ∀(s:zz!) (us:k_),KF.In s.heap->(eF_).length=P!->BindsTo s fd cY_ (ps.zip eF_)
def Eu.all(h:∀us:List Value,ad_=P!->bindArgs fd cY_=pure cY!):Eu KF fd ps []:=λs us _ hl=>by
 rw[LR]at hl ⊢;exact .of_eq (h us hl)
def Kc(CX:BI)(X:Cx)(E:XK):Prop:=∀(hb:s_) (Z:St) (H:Hp) (s:zz!) (e:zp!) (s':zz!),Inv X hb Z H s->CX X.stack H s E e s'->X.xe e s'
section
variable{X:Cx}
def yN(F:dB_)(hr:a8_)(J:dC!)(hd:dD!)(hx:dC_)
  (I:d!)(r:er_)(h:sp dB! H Q E):wpAny d_ X.A t0_ aA! X.xe s:=by
 have r2:Az dB! eF_:=r.append hd;have hl:(eF_).length=P!:=by rw[<-r2.length];exact F.len _ _ _ _ h
 refine wpAny_call (SZ (F.run X.A X.stack s H cY_ eF_ dB! Q E hr I.env0 (J s us I.kIn hl) r2 h) λr s' hq=>?_);cases r with
 |error e=>exact hx hb Z H s e s' I hq
 |ok fl=>
  cases fl with
  |ret u=>exact I.after hq
  |next=>exact False.elim hq
  |brk=>exact False.elim hq
  |cont=>exact False.elim hq
def yQ(F:dB_)(hr:a8_)(hg:H_)(hm:X.mg x=some af_)(hk:W.keepIn X.K af_=true)(J:dC!)(hd:dD!)(hx:dC_)
  (ha:eG!)(ax:y!:=by decide)(he:ah!:=by rfl)(au:aM!:=by rfl):
  PE X a9! (DQ sp dvs E t):=by
 show"!?";refine OQ nc_;refine W.callWith_K (h₀:=X.base) I.ok.mod.kin hk t2! he au;exact yN F hr J hd hx I1 r q
def c1h(he:m7!)(c:dy_)(hm:sd_)(F:dB_)(hr:a8_)(J:dC!)(hd:dD!)(hx:dC_)(ha:eG!)
  (hst:ah!:=by rfl)(au:aM!:=by rfl)
  (ht:eval iM_ X.env=(do
   let ov <-eval o X.env
   standAt f9!
   let(f,first) <-holding [ov] f9_
   callWith pos f first t3_ eE!):=by rfl):
  PE X iM_ (AR C m sp dvs E ta t):=by
 show"!?";show"!7";refine W.callWith_K (first:=a8!) (h₀:=X.base) I.ok.mod.kin hm.kp (dF (ha pos hb s1 Z H1 _ I1 q) λus s2 ⟨vs,H2,I2,r,q2⟩=>si_) hst au;exact yN (us:=.ref a::us) (vs:=.ref a::vs) F hr J hd hx I2 (.cons rfl r) q2
def b5k(he:m7!)(c:dy_)(hm:sd_)(F:dB_)(hr:a8_)(J:dC!)(hd:dD!)(hx:dC_)
  (ht:eval iN! X.env=(do
   let ov <-eval o X.env
   standAt f9!
   let(f,first) <-holding [ov] f9_
   callWith pos f first nd_ eE!):=by rfl):
  PE X iN! (AR C m sp dvs E ta BN):=by
 show"!?";show"!7";exact W.callWith_K0 (first:=a8!) I1.kIn hm.kp (yN (us:=a8!) (vs:=a8!) F hr J hd hx I1 t5! q)
structure Mk(KF:zA!)(C f:u0!):Prop where
 makes:W.makesIn KF C=true
 init:W.findIn KF U_ "__init__"=some eA_
 fn:W.isFn KF af_=true
 kp:W.keepIn KF U_=true
def a1r(M:ne_)(F:dB_)(hr:gd!)(J:dC!)(hd:dD!)
  (hx:dC_)(I:d!)(r:er_)
  (h:∀x dx,H x=none->H dx=none->dx≠x->sp tY_ (upd (upd H dx hN_) x nb_) tZ_ E):
  wpAny d_ X.A (call U_ us) aA! X.xe s:=by
 have hq:=h aa! s.heap.objs.size t6! eH_ (LU (RT _));have I2:=Inv.made (C:=C) I;have r2:Az (V.ref aa!::dB!) t5_:=.cons rfl (r.append hd);have hl:(Value.ref aa!::us++ds).length=P!:=by
  have e:=r2.length;rw[F.len _ _ _ _ hq]at e;exact e.symm
 refine wpAny_call (b6w (f:=f) I.kIn M.makes M.init (QS.mp M.fn) (SZ (F.run _ X.stack _ _ ⟨Value.ref aa!::us,[]⟩ t5_ _ _ E (hr.make C us [])
  (I2.env0.make C us []) (J _ (Value.ref aa!::us) I2.kIn hl) r2 hq) λr s' a7=>?_))
 cases r with
 |error e=>exact hx hb Z _ _ e s' I2 a7
 |ok fl=>
  cases fl with
  |ret u=>
   obtain⟨v,H',I3,rv,ev,q3⟩:=I2.after a7;subst ev;exact⟨rv,⟨V.ref aa!,H',I3,rfl,q3⟩⟩
  |next=>exact False.elim a7
  |brk=>exact False.elim a7
  |cont=>exact False.elim a7
def c1i(M:ne_)(F:dB_)(hr:gd!)(hg:H_)(hm:ge!)(J:dC!)(hd:dD!)(hx:dC_)
  (ha:eG!)(ax:y!:=by decide)(he:ah!:=by rfl)(au:aM!:=by rfl):
  PE X a9! (AS C sp dvs E t):=by
 show"!?";refine OQ nc_;refine W.callWith_K (h₀:=X.base) I.ok.mod.kin M.kp t2! he au;exact a1r M F hr J hd hx I1 r q
def b5l(M:ne_)(F:dB_)(hr:gd!)(hg:H_)(hm:ge!)(J:dC!)(hd:dD!)(hx:dC_)
  (ax:y!:=by decide):PE X t8! (AS C sp dvs E BN):=by
 show"!?";refine OQ nc_;exact W.callWith_K0 I.kIn M.kp (a1r (us:=[]) M F hr J hd hx I .nil h)
end
structure Fq(N P:G_)(sc:Scope):Prop where
 kind:sc.kind=.function
 co:sc.isCoroutine=false
 gen:sc.isGenerator=false
 nd:N.Nodup
 pre:N.take P.length=P
 par:∀x∈P,sc.names.lookup x=some .local\/sc.names.lookup x=some .cell
 nofree:∀y∈sc.names,y.2≠.free
def yA{kindOf:iO_}:∀{binds:iJ!} {m:O_},t9!->bindL kindOf binds m x=m x
 |[],_,_=>rfl
 |(n,v)::r,m,h=>by
  unfold bindL;rw[yA λw hw=>h w (KA _ hw)];split
  .have:x≠n:=by rintro rfl;exact h v KD
   simp[this]
  .rfl
def yC{kindOf:iO_}:∀{binds:iJ!} {m:O_},t9!->bindC kindOf binds m x=m x
 |[],_,_=>rfl
 |(n,v)::r,m,h=>by
  unfold bindC;rw[yC λw hw=>h w (KA _ hw)];split
  .rfl
  .have:x≠n:=by rintro rfl;exact h v KD
   simp[this]
def yB{kindOf:iO_}:∀{P:G_} {vs:k_} {i:Nat} {m:O_},P.Nodup->P[i]?=some x->vs[i]?=some v->kindOf x=some .local->
  bindL kindOf (P.zip vs) m x=some v
 |[],_,_,_,_,h,_,_=>by simp at h
 |_::_,[],_,_,_,_,h,_=>by simp at h
 |p::P,w::vs,0,m,nd,Y,h2,hk=>by
  simp at Y h2;subst Y;subst h2;show bindL kindOf iP! m p=_;unfold bindL;rw[yA λv hv=>(iP_).1 (VE hv).1,a6!];simp
 |p::P,w::vs,i+1,m,nd,Y,h2,hk=>by
  show bindL kindOf iP! m x=_;unfold bindL;exact yB (i:=i) (iP_).2 ub! ub_ hk
def yD{kindOf:iO_}:∀{P:G_} {vs:k_} {i:Nat} {m:O_},P.Nodup->P[i]?=some x->vs[i]?=some v->kindOf x≠some .local->
  bindC kindOf (P.zip vs) m x=some v
 |[],_,_,_,_,h,_,_=>by simp at h
 |_::_,[],_,_,_,_,h,_=>by simp at h
 |p::P,w::vs,0,m,nd,Y,h2,hk=>by
  simp at Y h2;subst Y;subst h2;show bindC kindOf iP! m p=_;unfold bindC;rw[yC λv hv=>(iP_).1 (VE hv).1,a6_];simp
 |p::P,w::vs,i+1,m,nd,Y,h2,hk=>by
  show bindC kindOf iP! m x=_;unfold bindC;exact yD (i:=i) (iP_).2 ub! ub_ hk
def Mi(N:G_)(vs:q!):St:=vs.map some++List.replicate (iQ! - a5!) none
def Kb(CX:BI)(P:zy!)(w:zx!)(KF:zA!)(mg:O_)(base:Heap)(N:G_)(qual:Str)(scope:Scope)(f:u0!)(cd:zp!)(A:zm!)(outer:ao!)(s:zz!)(H:Hp)(E:XK):Cx where
 prog:=P
 w:=w
 K:=KF
 mg:=mg
 base:=base
 A:=A.deeper gf!
 N:=N
 s₀:=s
 H₀:=H
 env:=envOfC qual scope s.heap.objs.size f cd
 outer:=outer
 stack:=envOfC qual scope s.heap.objs.size f cd::outer
 ex:=[]
 calm:=true
 fn:=λ_=>true
 pn:=[]
 xe:=λe s'=>wpAny C! (A.deeper gf!) (leaving gf! e) (λ_ v8=>CX outer H s E e v8) (λe' v8=>CX outer H s E e' v8) s'
def a4n{sc:Scope}(h:sc.names.lookup x=some .cell):∃c,(cellsFrom n sc.names []).lookup x=some c:=by have q:=W.cellsFrom_some sc.names n [] ia_;exact SS.mp q
def b2o
  (S:uc!)(hd:bC!)(e0:na_)(hl:a5!=P!)(r:er_)
  (x:InCallC s s.heap.objs.size (bindL (gf!).kindOf cY! λ_=>none) uc_ (bindC (gf!).kindOf cY! λ_=>none) s1):
  Inv ud! [] gg! H s1:=by
 have au:P!<=iQ!:=by have:=congrArg List.length S.pre;rw[QG]at this;omega
 obtain⟨Y,tk,rfl,hk⟩:=x.done;have rh:∀b:Addr,b∉(ud!).ex:=λb z=>absurd ud_ c!;refine⟨⟨e0.mod,S.kind,rfl,rfl,KU _,λy z c Y h2=>?_,ue_,λy c _ h=>?_,λ_=>hd,Around.frames_deeper e0.frames,.inr aJ_,uf!,e0.bs,e0.bsz,λb _ _=>rh b,uf!,e0.funs,e0.frf⟩,
  rfl,e0.bare,Un.kept hk,⟨_,x.toInCall.ns,λi y v Y h2 h3=>?_⟩,λy c h=>⟨_,x.cell y c h⟩,e0.hok.fresh r!,λy c h=>?_,λp hp=>absurd (show p∈([]:List eo_)from hp) c!,e0.hok.kept hk,?_⟩
 .exact name_of_addr x.apart (OY Y) (OY h2)
 .have hy:scope.names.lookup y=some .cell\/scope.names.lookup y=some .free:=hy;obtain hy|hy:=hy
  .exact a4n hy
  .exact absurd rfl (S.nofree _ (OY hy))
 .exact QN ug_
 .have hi:i<a5!:=by
   unfold Mi at h2;by_cases hi:i<a5!
   .exact hi
   .rw[eI_]at h2;rw[OO]at h2;split at h2<;>cases h2
  have ha:vs[i]?=some v:=by
   unfold Mi at h2;rw[iR!,LZ]at h2;cases e:vs[i]? with
   |none=>rw[e]at h2;cases h2
   |some a=>rw[e]at h2;cases h2;rfl
  obtain⟨u,hu,rv⟩:=r.get ha;have hp:ps[i]?=some y:=by
   rw[<-S.pre,List.getElem?_take_of_lt a!];exact Y
  have zw:ps.Nodup:=by rw[<-S.pre];exact S.nd.sublist (List.take_sublist _ _)
  refine⟨u,rv,?_⟩;obtain k|k:=S.par y (QY hp)
  .exact .inl ⟨k,yB zw hp hu k⟩
  .obtain⟨c,e⟩:=a4n (n:=h_+1) k;refine .inr ⟨.inl k,c,e,?_⟩;have q:=x.cell y c e;rw[yD zw hp hu (by show scope.names.lookup y≠_;rw[k];decide)]at q;exact q
 .exact e0.hok.fresh (QN ug_)
 .unfold Mi;show _=iQ!;rw[LK,KQ,PP];omega
def c4z{kV:zp!}
  (lk:KF.lookup f=some ⟨oc,od,.func ul!,ik⟩)(bq:iS!)(S:uc!)
  (len:ul_)
  (pb:∀(A:zm!) (outer:ao!) (s:zz!) (H:Hp) (vs:q!) (Q:VK) (E:XK),Ah k (A.deeper (envOfC qual scope s.heap.objs.size f ag))->sp vs H Q E->
   ∃t,Ox nk_ body t/\t {nx:=λ_ H'=>Q .non H',rt:=Q} gg! H):
  Fk P w KF mg base CX M_ f ul! ps sp:=by
 refine⟨len,λA outer s H args us vs Q E hr e0 J r jg=>?_⟩;have hl:=len _ _ _ _ jg;have KX:KF.In s.heap:=e0.mod.kin.keeps λb o e=>(um!).1;have ba:s.heap.NoLimit:=e0.mod.nolimit.keeps λb o e=>(um!).1;have cj:∀y∈ps.zip us,scope.names.lookup y.1=some .local\/(scope.names.lookup y.1=some .cell/\((uc_).lookup y.1).isSome=true):=λ⟨n,v⟩ hy=>by
  obtain q|q:=S.par n (VE hy).1
  .exact .inl q
  .exact .inr ⟨q,W.cellsFrom_some _ _ _ (.inl q)⟩
 refine codeAny_call_function hr.depth (KX _ _ lk) rfl S.co S.gen rfl (W.codeRec_of KX bq) (J _ _ _ _ ?_);refine wpAny_newFunctionEnv_cells S.kind cj λenv he s1 x=>?_;subst he;refine⟨ba.keeps x.toInCall.keep,codeAny_func ?_⟩;obtain⟨t,ht,hq⟩:=pb A outer s H vs Q E (hr.deeper _) jg;have I:Inv nk_ [] gg! H s1:=b2o S hr.hd e0 hl r x;refine NQ (ht [] s1 gg! H _ I hq) (λfl s' hs=>?_) λe s' hs=>hs;have fin:∀{ac:St} {H':Hp} {v:V} {u:zp!},Inv nk_ [] ac H' s'->Bn v u->Q v H'->CE outer P w H s Q u s':=
  λ{ac H' v u} af rv q=>⟨v,H',af.os,af.bare,af.base,af.hok,rv,q⟩
 cases fl with
 |ret u=>
  obtain⟨v,ac,H',af,rv,q⟩:=hs;exact fin af rv q
 |next=>
  obtain⟨ac,H',af,q⟩:=hs;exact fin (v:=V.non) (u:=ci_) af rfl q
 |brk=>
  obtain⟨_,_,_,q⟩:=hs;exact False.elim q
 |cont=>
  obtain⟨_,_,_,q⟩:=hs;exact False.elim q
end L2
namespace L2
open PySem PySem.Spec PyProof.Rows
section
variable{X:Cx}{id T:String}
def IF(r:is_)(t:TA):TE:=λZ H Q=>t Z H λvs H1=>r vs H1 Q
def nY(hc:nm_)(hg:H_)(hm:cS!)(hv:nn!)(ha:eG!)(hn:cS_:=by decide)(ax:y!:=by decide)
  (he:ah!:=by rfl)(au:aM!:=by rfl):PE X a9! (IF r t):=by
 show"!?";refine OQ uo_;exact PyProof.Rows.callWith_builtin1 up! he au
def b1l(hc:Io X dE! r)(hg:H_)(hm:cS!)(hv:nn_)(ha:eG!)(hn:cS_:=by decide)(ax:y!:=by decide)
  (he:ah!:=by rfl)(au:aM!:=by rfl):PE X a9! (IF r t):=by
 show"!?";refine OQ uo_;exact NM up! he au
end
end L2
namespace HT
open PySem PyProof.Rows
nonrec def lexLt:List Int->List Int->Bool
 |[],[]=>false
 |[],_::_=>true
 |_::_,[]=>false
 |x::xs,y::ys=>if x=y then lexLt xs ys else decide (x<y)
def lexLt_cons(x y:Int)(xs ys:v!):lexLt eF! (y::ys)=if x=y then lexLt xs ys else decide (x<y):=rfl
def lexLt_nil_nil:lexLt [] []=false:=rfl
def uF(y:Int)(ys:v!):lexLt [] (y::ys)=true:=rfl
def uG(x:Int)(xs:v!):lexLt eF! []=false:=rfl
def b8n(A:zm!)(s:zz!)(a:Int)(t:Tok)(c:Int)(u:Tok):∃e,SeqAt.EqAt A s gk_ no! e/\(e=true↔a=c):=
 ⟨(a==c),TB a t c u,Q_⟩
section
open PySem.SeqAt
open PySem.AutoSeq1 (wpAny_loadPart')
open PySem.MeetsSeq PySem.MeetsSeq2 PySem.MeetsSeq3
end
section
def cat_tup(ht:IsTup s.heap t cr!)(J:IsTup s.heap b ws.toArray)(hv:vs≠[])
  (Y:ws=[]->Q iU_ s)(h2:ws≠[]->Q bk_ {s with heap:=s.heap.push {cls:=.type "tuple",data:=.seq (np_).toArray}})
  (hsz:a5!+np!<=sizeLine):wpAny l! A (binaryOp .Add iU_ dE_) Q E s:=by
 obtain⟨⟨cls,dd,data,sl⟩,ho,hc,n,hd⟩:=id ht;obtain⟨⟨zx,kz,data2,fq⟩,jh,ji,n2,jj⟩:=id J;simp only at hc hd ji jj;subst hc hd ji jj;have e:cr!++ws.toArray=(np_).toArray:=by simp
 by_cases hw:ws=[]
 .exact concat_meets iV_ iW_ noFill_tuple_add seq_tuple_add TH SX nq_
   (tuple_addW1 t b vs.toArray ws.toArray n n2 dd kz sl fq iW! (by simp[hw])) ⟨ho,jh,Y hw⟩
 .refine concat_meets iV_ iW_ noFill_tuple_add seq_tuple_add TH SX nq_
   (tuple_addW2 t b vs.toArray ws.toArray n n2 dd kz sl fq iW! nq! (by rw[KH,KH];exact hsz)) ⟨ho,jh,?_⟩
  rw[e];exact h2 hw
nonrec def sIx(n d:Nat):Option Int->Nat
 |none=>d
 |some v=>if v<0 then(nr!).toNat else min v.toNat n
def sIx_none(n d:Nat):sIx n d none=d:=rfl
def sIx_nat(n d k:Nat):sIx n d (some (k:Int))=min k n:=by show(if(k:Int)<0 then((k:Int)+(n:Int)).toNat else min (k:Int).toNat n)=min k n;rw[KN a!,QA]
def c5s(n d:Nat)(hd:d<=n)(o:aT_):sIx n d o<=n:=by
 cases o with
 |none=>exact hd
 |some v=>
  show ut!<=n;by_cases hv:v<0
  .rw[KM hv];omega
  .rw[KN hv];exact Nat.min_le_right _ _
def b0h(v:Int)(n d:Nat):uu!=((sIx n d a2!:Nat):Int):=by
 show uu!=((ut!:Nat):Int);by_cases hv:v<0
 .simp only[KM hv];omega
 .simp only[KN hv];omega
def a7r(lo hi:aT_)(n:Nat):Builtin.Slice.sliceAdjust lo hi 1 (n:Int)=(iX_,uv!):=by
 have Y:¬((1:Int)<0):=by omega
 unfold Builtin.Slice.sliceAdjust;simp only[Y,MJ];refine Prod.ext ?_ ?_
 .cases lo with
  |none=>rfl
  |some v=>exact b0h v n 0
 .cases hi with
  |none=>rfl
  |some v=>exact b0h v n n
def a5s(i j:Nat):Builtin.Slice.slicePlaces (i:Int) (j:Int) 1=j - i:=by
 unfold Builtin.Slice.slicePlaces;have Y:(1:Int)>0:=by omega
 simp only[Y,MU,Int.ediv_one];split<;>omega
def sW(p:IsPart v o)(h:Q o s):wpAny l! A (Builtin.Slice.slicePartIndex v) Q E s:=by
 cases p with
 |none=>exact slicePart_none h
 |int i t=>exact slicePart_int h
def pM{lo hi:aT_}{Q:Int×Int×Nat->Shared->Prop}(hs:uw_)(pl:ux_)(pu:uy!)
  (h:Q (iX_,1,sIx n n hi - sIx n 0 lo) s):wpAny l! A (Builtin.Slice.sliceApplied iY_ (pure (n:Int))) Q E s:=by
 obtain⟨os,io,pe,uq⟩:=id hs;unfold Builtin.Slice.sliceApplied Builtin.Slice.sliceFields;refine JY (JY (MV io uq (x:=vl) rfl (JY (MV io uq (x:=vu) rfl (JY (MV io uq (x:=bU_) rfl P_))))));refine JY (slicePart_none ?_);show wpAny _ _ (if((1:Int)==0)=true then _ else _) _ _ s;rw[KN b!];refine JY (sW pl (JY (sW pu (JY P_))));show wpAny _ _ (match Builtin.Slice.sliceAdjust lo hi 1 (n:Int)with|(lo,hi)=>pure (lo,(1:Int),Builtin.Slice.slicePlaces lo hi 1)) _ _ s;rw[a7r lo hi n];show wpAny _ _ (pure (iX_,(1:Int),Builtin.Slice.slicePlaces iX_ uv! 1)) _ _ s;rw[a5s];exact KB h
def b5c(xs:cj!)(i k:Nat):((uz_).filterMap λ(m:Nat)=>xs[(ns_).toNat]?).toArray=((xs.toList.drop i).take k).toArray:=by
 have e:(λ(m:Nat)=>xs[(ns_).toNat]?)=λm=>xs[i+m]?:=by
  funext m;have:(ns_).toNat=i+m:=by omega
  rw[this]
 rw[e];have:=pick_run xs i k;rw[List.filterMap_map]at this;have e2:((λx=>xs[x]?)∘λx=>i+x)=λm=>xs[i+m]?:=rfl;rw[e2]at this;rw[this]
def getItem_tuple_cut{lo hi:aT_}(ht:IsTup s.heap t items)(hs:uw_)(pl:ux_)(pu:uy!)
  (hw:¬(sIx items.size 0 lo=0/\sIx items.size items.size hi=c0!))
  (h:Q bk_ {s with heap:=s.heap.push {cls:=.type "tuple",data:=.seq (nt!).toArray}})
  (hsz:c0!<=sizeLine):wpAny l! A (getItem iU_ iY_) Q E s:=by
 have ur:sizeOk (.seq (nt!).toArray):=by
  show(nt!).toArray.size<=sizeLine;rw[KH,QG,UY,MX];omega
 have hj:sIx items.size items.size hi<=c0!:=c5s _ _ r! hi;obtain⟨os,io,pe,uq⟩:=id hs;have YM:s.TypeIs iY_ "slice":=⟨os,io,pe⟩;unfold getItem
 try with_reducible refine MH ?_
 first|refine JY P_|skip
 refine JY (wpAny_sequenceKey ht.typeIs b! ?_);refine JY (MQ (name:=uB!) ht.typeIs RN
  (MF RN ht.typeIs entry_tuple_getitem ?_ (args_tuple_getitem _ _)))
 show wpAny _ _ (Builtin.Tuple.tupleItemsOf iU_>>=_) _ _ s;refine JY (tupleItemsOf_ ht ?_);refine JY (UD YM ?_);rw[KM b!];refine JY (pM hs pl pu ?_);have YN:¬(uC_=true):=by
  intro q;rw[LN,LN]at q;have q1:uC!=0:=eq_of_beq q.1.1;have q2:sIx items.size items.size hi - sIx items.size 0 lo=c0!:=eq_of_beq q.2;exact hw ⟨p!,p!⟩
 show wpAny _ _ (if uC_=true then _ else _) _ _ s;rw[KN YN,b5c]
 first
  |exact JY (m:=i0_) (NT i1! ur)
  |exact JY (m:=i0_) (NT (JY (KB i1!)) ur)
  |exact JY (JY (m:=i0_) (NT (KB i1!) ur))
  |exact JY (JY (m:=i0_) (NT i1! ur))
end
end HT
namespace L2
open PySem PySem.Spec PyProof.Rows
abbrev TO:=St->Hp->(Option Int->Hp->Prop)->Prop
def PO(X:Cx)(e:Option Expr)(t:TO):Prop:=
 ∀(hb:s_) (s:zz!) (Z:St) (H:Hp) (Q:uE!),Inv X hb Z H s->t Z H Q->
  wpAny d_ X.A (evalPart e X.env) (λu s'=>∃o H',Inv X hb Z H' s'/\IsPart u o/\Q o H') X.xe s
def Ze:TO:=λ_ H Q=>Q none H
def DK(t:TE):TO:=λZ H Q=>t Z H λx H1=>∃i,x=.int i/\Q ba_ H1
def uT:∀{us:k_},Az bW! us->IntsAre us ns:=by
 induction ns with
 |nil=>intro us r;rw[QC]at r;cases r;exact .nil
 |cons n ns ih=>
  intro us r;rw[KL]at r;cases r with
  |cons r1 r2=>
   obtain⟨t,e⟩:=r1;subst e;exact .cons n t (ih r2)
section
variable{X:Cx}{lo hi:Option Expr}{pos p2:Pos}
def c1d:PO X none Ze:=by intro hb s Z H Q I h;rw[evalPart_none];exact KB ⟨none,H,I,bU_,h⟩
def c1c(h:cm_):PO X ie_ (DK te):=by intro hb s Z H Q I hw;rw[evalPart_some];refine dF me_ ?_;rintro u s1 ⟨x,H1,I1,r1,q1⟩;obtain⟨i,rfl,q⟩:=q1;obtain⟨t,rfl⟩:=r1;exact⟨D!,H1,I1,.int i t,q⟩
def BE(X:Cx)(r:uF!):Prop:=
 ∀(hb:s_) (s:zz!) (Z:St) (H:Hp) (x:V) (v vl vu:zp!) (lo hi:aT_) (sl:u0!) (Q:VK),Inv X hb Z H s->Bn x v->s.heap.IsSliceOf sl vl vu .none->IsPart vl lo->IsPart vu hi->r x lo hi H Q->
  ∃T id,typeLookup dE! "__getitem__"=pure (some eJ!)/\s.TypeIs v T/\wpAny d_ X.A (getItem v iY_) aA! X.xe s
def BE.or(h:BE X r)(h':BE X r'):BE X (λx lo hi H Q=>r x lo hi H Q\/r' x lo hi H Q):=by
 intro hb s Z H x v vl vu lo hi sl Q I rx hs pl pu q;obtain q|q:=q
 .exact h hb s Z H x v vl vu lo hi sl Q I rx hs pl pu q
 .exact h' hb s Z H x v vl vu lo hi sl Q I rx hs pl pu q
def JG(r:uF!)(te:TE)(tl th:TO):TE:=λZ H Q=>te Z H λx H1=>tl Z H1 λl H2=>th Z H2 λu H3=>r x l u H3 Q
def b5h(hr:BE X r)(he:cm_)(hl:PO X lo tl)(hu:PO X hi th):PE X (.Subscript e nv_ pos) (JG r te tl th):=by intro hb s Z H Q I h;refine Subscript_ cT!;rintro v s1 ⟨x,H1,I1,r1,q1⟩;refine wpAny_Slice (dF (hl hb s1 Z H1 _ I1 q1) λvl s2 ⟨l,H2,I2,pl,q2⟩=>dF (hu hb s2 Z H2 _ I2 q2) ?_);rintro vu s3 ⟨u,H3,I3,pu,q3⟩;rw[evalPart_none];refine KB ?_;have I4:Inv X hb Z H3 {s3 with heap:=s3.heap.push {cls:=.type "slice",data:=.fields #[vl,vu,.none]}}:=I3.kept (t':=s3.toks) λb ob q=>KC _ q;obtain⟨T,id,hT,ht,hg⟩:=hr hb {s3 with heap:=s3.heap.push {cls:=.type "slice",data:=.fields #[vl,vu,.none]}} Z H3 x v vl vu l u s3.heap.objs.size Q I4 r1 (Heap.IsSliceOf.new ..) pl pu q3;show wpAny d_ X.A (subscriptTail e nv_ v (.ref uG_)) aA! X.xe {s3 with heap:=s3.heap.push {cls:=.type "slice",data:=.fields #[vl,vu,.none]}};exact tail_any (ops:=[.ref uG_,v]) ht hT hg (by with_unfolding_all rfl)
def Ug(xs:q!)(lo hi:aT_):List V:=(vl_).take nw!
def rF(xs:q!)(lo hi:aT_):(gp!).length<=i!:=by unfold Ug;rw[QG,UY];omega
def GX(KF:zA!):V->Option Int->Option Int->Hp->VK->Prop:=λx lo hi H Q=>∃a xs,x=.ref a/\Fz KF H a xs/\
 ¬(HT.sIx xs.length 0 lo=0/\HT.sIx xs.length xs.length hi=i!)/\∀p,H p=none->Q cp_ (upd H p (.tup gp!))
def c5p:BE X (GX X.K):=by
 intro hb s Z H x v vl vu lo hi sl Q I rx hs pl pu h;obtain⟨a,xs,rfl,hx,hw,q⟩:=h;cases rx;obtain⟨its,r,ht,hz⟩:=I.tuple hx;have ao:bE!=i!:=by rw[KH];exact r.length.symm
 refine⟨"tuple",_,RN.lookup,ht.typeIs,?_⟩;refine HT.getItem_tuple_cut ht hs pl pu (by rw[ao];exact hw) ?_ (by rw[ao];exact hz);rw[ao];refine⟨c1_,_,I.laid (t':=s.toks) (o:=.tup gp!) nx_ r! ?_,rfl,q _ eH_⟩;exact⟨uK!,_,uK_,uL_⟩
def AW(KF:zA!):R2:=λx y H Q=>∃a b xs ys,x=.ref a/\y=.ref b/\Fz KF H a xs/\Fz KF H b ys/\xs≠[]/\i!+N_<=sizeLine/\
 (ys=[]->Q F! H)/\(ys≠[]->∀p,H p=none->Q cp_ (upd H p (.tup el!)))
def Az.nil_iff(r:do_):us=[]↔xs=[]:=by
 cases r with
 |nil=>simp
 |cons _ _=>simp
def c1p:Gk X ey_ (AW X.K):=by intro hb s Z H x y v u Q I rx ry h;obtain⟨a,b,xs,ys,rfl,rfl,ha,J,hx,hz,q1,q2⟩:=h;cases rx;cases ry;obtain⟨its,r1,p1,_⟩:=I.tuple ha;obtain⟨gh,r2,p2,_⟩:=I.tuple J;refine HT.cat_tup p1 p2 (λz=>hx (r1.nil_iff.mp z)) (λz=>⟨bA!,H,I,rfl,q1 (r2.nil_iff.mp z)⟩) (λz=>?_) (by rw[<-r1.length,<-r2.length];exact hz);refine⟨c1_,_,I.laid (t':=s.toks) (o:=.tup el!) nx_ r! ?_,rfl,q2 (λw=>z (r2.nil_iff.mpr w)) _ eH_⟩;exact⟨by rw[LK];exact hz,_,r1.append r2,uL_⟩
end
end L2
namespace L2
open PySem PySem.Spec PyProof.Rows
def Ec(n:Nat)(i:Int):Option Nat:=if 0<=i then(if i<n then some i.toNat else none)else if -(n:Int)<=i then some (i+n).toNat else none
def De(xs:ai_)(i:Int):Option α:=(Ec xs.length i).bind λj=>xs[j]?
def a9s(h:Ec n i=some j):seqIndex? i n=some j/\j<n/\-(n:Int)<=i/\i<n:=by
 unfold Ec at h;by_cases h0:0<=i
 .rw[KM h0]at h;by_cases Y:i<n
  .rw[KM Y]at h;have e:i.toNat=j:=MN h;exact⟨by rw[seqIndex_of h0 Y,e],p!,p!,Y⟩
  .rw[KN Y]at h;cases h
 .rw[KN h0]at h;by_cases Y:-(n:Int)<=i
  .rw[KM Y]at h;have e:(i+n).toNat=j:=MN h;exact⟨by rw[seqIndex_neg a! Y,e],p!,Y,p!⟩
  .rw[KN Y]at h;cases h
def a1d(h:De xs i=some v):∃j,seqIndex? i i!=some j/\xs[j]?=some v/\j<i!/\-i7!<=i/\i<i!:=by
 unfold De at h;cases e:Ec xs.length i with
 |none=>rw[e]at h;cases h
 |some j=>
  rw[e]at h;obtain⟨Y,h2,h3,h4⟩:=a9s e;exact⟨j,Y,h,h2,h3,h4⟩
def Pm(b:Expr):Prop:=∀o i,subscripted b false o i=operate [o,i] uO_
def Xk(X:Cx)(r:R2):Prop:=
 ∀(value fz:Expr) (hb:s_) (s:zz!) (Z:St) (H:Hp) (x y:V) (v u:zp!) (Q:VK),Inv X hb Z H s->Bn x v->Bn y u->r x y H Q->
  subscripted fz false v u=operate [v,u] (getItem v u)->wpAny d_ X.A (subscriptTail value fz v u) aA! X.xe s
def IY(X:Cx)(id:String)(r:nA!):Prop:=
 ∀(hb:s_) (s:zz!) (Z:St) (H:Hp) (x:V) (xs:q!) (v:zp!) (us:k_) (Q:VK),Inv X hb Z H s->Bn x v->Az xs us->r x xs H Q->
  wpAny d_ X.A uP_ aA! X.xe s
section
variable{X:Cx}
def Xk.or(h:Xk X r)(h':Xk X r'):Xk X tn_:=by
 intro value fz hb s Z H x y v u Q I rx ry q hs;obtain q|q:=q
 .exact h value fz hb s Z H x y v u Q I rx ry q hs
 .exact h' value fz hb s Z H x y v u Q I rx ry q hs
def b5m{r:R2}(hr:Xk X r)(ha:aR_)(J:ck!)(hs:Pm b):PE X nB! it!:=by intro hb s Z H Q I h;exact Subscript_ (c8x ha J I h λv u s2 x y H2 I2 rx ry q=>hr a b hb s2 Z H2 x y v u Q I2 rx ry q (hs _ _))
def EB(KF:zA!):R2:=λx y H Q=>∃p xs i v,x=.ref p/\y=.int i/\Fm KF H p xs/\De xs i=some v/\Q v H
def DZ(KF:zA!):R2:=λx y H Q=>∃p xs i v,x=.ref p/\y=.int i/\Fz KF H p xs/\De xs i=some v/\Q v H
def EA:R2:=λx y H Q=>∃z i c,x=.str z/\y=.int i/\i7_<=sizeLine/\De z.cps.toList i=some c/\Q gq! H
def a9r:Xk X (EB X.K):=by
 intro value fz hb s Z H x y v u Q I rx ry h hs;obtain⟨p,xs,i,z,rfl,rfl,hq,he,q⟩:=h;cases rx;obtain⟨t,rfl⟩:=ry;show"!O";obtain⟨j,Y,h2,h3,h4,h5⟩:=a1d he;obtain⟨w,ew,av⟩:=r.get h2;have hl:=aJ!;have hn:=qE;have fin:EP X hb Z Q w s:=uR_;by_cases h0:0<=i
 .have hj:i.toNat=j:=by
   rw[seqIndex_of h0 h5]at Y;exact MN Y
  exact item_listR pl.isList h0 a! uS! fin hs
 .have hj:(i+(bE!:Int)).toNat=j:=by
   rw[seqIndex_neg a! h4]at Y;rw[KH,<-hl];exact MN Y
  exact subscriptTail_builtinR (x:=w) pl.isList.typeIs uT_
   (wpAny_getItem_list_neg (Q:=uT!) pl.isList a! uU! a! uS! uU_) hs
def c7l:Xk X (DZ X.K):=by
 intro value fz hb s Z H x y v u Q I rx ry h hs;obtain⟨p,xs,i,z,rfl,rfl,hq,he,q⟩:=h;cases rx;obtain⟨t,rfl⟩:=ry;obtain⟨its,r,pl,hz⟩:=I.tuple hq;obtain⟨j,Y,h2,h3,h4,h5⟩:=a1d he;obtain⟨w,ew,av⟩:=r.get h2;have hl:=aJ!;have hn:=qE;have fin:EP X hb Z Q w s:=uR_;exact subscriptTail_builtinR (x:=w) pl.typeIs slot_tuple_getitem.lookup
  (getItem_tuple (j:=j) (Q:=uT!) pl a! a! (by rw[KH,<-hl];exact Y) (by simpa using ew) uU_) hs
def c7m:Xk X EA:=by
 intro value fz hb s Z H x y v u Q I rx ry h hs;obtain⟨z,i,c,rfl,rfl,hz,he,q⟩:=h;obtain⟨t,rfl⟩:=rx;obtain⟨t',rfl⟩:=ry;obtain⟨j,Y,h2,h3,h4,h5⟩:=a1d he;have hl:z.cps.toList.length=i7_:=by simp[Str.length]
 rw[hl]at Y h4 h5;have hn:=qE;exact tail_any (typeIs_str s z t) slot_str_getitem.lookup (getItem_str (c:=c) (by
  have e1:decide (i< -(2 ^ 63:Int))=false:=KP a!;have e2:decide (i>=2 ^ 63)=false:=KP a!;rw[e1,e2,Bool.or_false]) (by rw[Y];simpa using h2) ⟨eN_,H,a3_,K!,q⟩) hs
def HA(KF:zA!):R2:=λx y H Q=>EB KF x y H Q\/DZ KF x y H Q\/EA x y H Q
def aH:Xk X (HA X.K):=a9r.or (c7l.or c7m)
def a6n(its:k_)(n j:Nat)(u:zp!):Obj.mapSeq uW! {cls:=.type "list",data:=.seq its.toArray n}={cls:=.type "list",data:=.seq (its.set j u).toArray n}:=by simp[Obj.mapSeq]
def Inv.lst(I:d!)(h:H p=some M!):
  ∃(its:k_) (n:Nat),Az xs its/\s.heap.get? p=some {cls:=.type "list",data:=.seq its.toArray n}/\i!<=sizeLine:=by
 obtain⟨z,its,n,r,e⟩:=I.hok p _ h;exact⟨its,n,r,e,z⟩
def Inv.lstUpd{its its':k_}(I:d!)(h:H p=some M!)
  (ho:s.heap.get? p=some {cls:=.type "list",data:=.seq its.toArray n})(hf:f {cls:=.type "list",data:=.seq its.toArray n}={cls:=.type "list",data:=.seq its'.toArray n'})(r:Az ys its')(hz:i8_)(t:Nat):
  Inv X hb Z (upd H p aD_) {s with heap:=s.heap.update p f,toks:=t}:=by
 have e:(s.heap.update p f).get? p=some {cls:=.type "list",data:=.seq its'.toArray n'}:=by
  rw[NZ f ho (by rw[hf]<;>rfl),hf]
 refine I.write (x:=p) (e:=p) (by rw[h];trivial) an_ (λb u J q=>(uX_).trans q) bn_ ?_;exact⟨hz,its',n',r,e⟩
def DV:V->V->V->Hp->mo_->Prop:=λo i v H Q=>∃p xs k j,o=.ref p/\i=.int k/\H p=some M!/\Ec xs.length k=some j/\Q uY!
def a1q:Xf X DV:=by
 intro hb s Z H o i v ov iv u Q I ro ri rv h;obtain⟨p,xs,k,j,rfl,rfl,hp,hj,q⟩:=h;cases ro;obtain⟨t,rfl⟩:=ri;obtain⟨its,n,r,ho,hz⟩:=I.lst hp;obtain⟨Y,h2,h3,h4⟩:=a9s hj;have hl:=aJ!;have hn:=qE;have I':Inv X hb Z uY! {s with heap:=s.heap.update p (Obj.mapSeq uW!)}:=
  I.lstUpd hp ho (a6n its n j u) (r.set rv j) (by rw[PB];exact hz) s.toks
 by_cases h0:0<=k
 .have hk:k.toNat=j:=by
   rw[seqIndex_of h0 h4]at Y;exact MN Y
  exact W.ki_setAt ho h0 a! (by rw[KH,<-hl];exact h4) uZ_
 .have hk:(k+(bE!:Int)).toNat=j:=by
   rw[seqIndex_neg a! h3]at Y;rw[KH,<-hl];exact MN Y
  exact W.ki_setBack ho a! (by rw[KH,<-hl];exact h3) a! uZ_
def yK(lo hi:aT_)(n:Nat):(nF!).1=((HT.sIx n 0 lo:Nat):Int)/\(nF!).2.1=((HT.sIx n n hi:Nat):Int)/\(nF!).2.2=1:=by
 refine⟨?_,?_,rfl⟩
 .cases lo with
  |none=>simp[sliceBounds,HT.sIx]
  |some i=>
   show"!i"
   .simp only[h,MU]<;>omega
   .simp only[h,MJ]<;>omega
 .cases hi with
  |none=>simp[sliceBounds,HT.sIx]
  |some i=>
   show"!i"
   .simp only[h,MU]<;>omega
   .simp only[h,MJ]<;>omega
def vI(its:k_)(lo hi:aT_):slicePick its.toArray lo hi none=((its.drop (HT.sIx its.length 0 lo)).take (HT.sIx its.length its.length hi - HT.sIx its.length 0 lo)).toArray:=by obtain⟨Y,h2,h3⟩:=yK lo hi bE!;unfold slicePick;rw[Y,h2,h3];simp only[sliceRange_one,pick_run,KH]<;>rfl
def GY(KF:zA!):V->Option Int->Option Int->Hp->VK->Prop:=λx lo hi H Q=>∃a xs,x=.ref a/\Fm KF H a xs/\∀p,H p=none->Q cp_ (upd H p (.lst gp!))
def c0j:BE X (GY X.K):=by intro hb s Z H x v vl vu lo hi sl Q I rx hs pl pu h;obtain⟨a,xs,rfl,hx,q⟩:=h;cases rx;obtain⟨its,r,ht,hz⟩:=I.list hx;have ao:=aJ!;refine⟨"list",_,uT_,ht.isList.typeIs,?_⟩;refine wpAny_getItem_list_slice ht.isList hs pl pu .none c! ?_ uU!;rw[vI,<-ao];refine⟨c1_,_,I.laid (t':=s.toks) (o:=.lst gp!) nx_ r! ?_,rfl,q _ eH_⟩;exact⟨uK!,_,0,uK_,dv!⟩
def Mq:V->Bool
 |.non=>true
 |.bl _=>true
 |.int _=>true
 |.str _=>true
 |_=>false
def Yy:V->V->Bool
 |.non,.non=>true
 |.bl a,.bl b=>a==b
 |.bl a,.int b=>u2!==b
 |.int a,.bl b=>a==u2_
 |.int a,.int b=>a==b
 |.str a,.str b=>a==b
 |_,_=>false
def c7w(ry:Bn y u)(rx:Bn x v)(fy:Mq y=true)(fx:Mq x=true):SeqAt.EqAt A s u v (Yy y x):=by
 cases y with
 |non=>
  cases ry;cases x with
  |non=>cases rx;exact SeqAt.EqAt.same _
  |bl b=>cases rx;exact SeqAt.EqAt.none_bool b
  |int b=>obtain⟨t,rfl⟩:=rx;exact SeqAt.EqAt.none_int b t
  |str b=>obtain⟨t,rfl⟩:=rx;exact SeqAt.EqAt.none_str b t
  |_=>exact absurd ja_ LH
 |bl a=>
  cases ry;cases x with
  |non=>cases rx;exact SeqAt.EqAt.bool_none a
  |bl b=>cases rx;exact SeqAt.EqAt.bool_bool a b
  |int b=>obtain⟨t,rfl⟩:=rx;exact SeqAt.EqAt.bool_int a b t
  |str b=>obtain⟨t,rfl⟩:=rx;exact SeqAt.EqAt.bool_str a b t
  |_=>exact absurd ja_ LH
 |int a=>
  obtain⟨t',rfl⟩:=ry;cases x with
  |non=>cases rx;exact SeqAt.EqAt.int_none a t'
  |bl b=>cases rx;exact SeqAt.EqAt.int_bool a t' b
  |int b=>obtain⟨t,rfl⟩:=rx;exact TB a t' b t
  |str b=>obtain⟨t,rfl⟩:=rx;exact SeqAt.EqAt.int_str a t' b t
  |_=>exact absurd ja_ LH
 |str a=>
  obtain⟨t',rfl⟩:=ry;cases x with
  |non=>cases rx;exact SeqAt.EqAt.str_none a t'
  |bl b=>cases rx;exact SeqAt.EqAt.str_bool a t' b
  |int b=>obtain⟨t,rfl⟩:=rx;exact SeqAt.EqAt.str_int a t' b t
  |str b=>obtain⟨t,rfl⟩:=rx;exact SeqAt.EqAt.str_str a t' b t
  |_=>exact absurd ja_ LH
 |_=>exact absurd (show false=true from fy) LH
def AE(x:V)(u:zp!):Bool:=match u with
 |.none=>Yy .non x
 |.bool b=>Yy bk! x
 |.int i _=>Yy bR! x
 |.str z _=>Yy (.str z) x
 |_=>false
def b8m(r:Bn y u)(f:Mq y=true):AE x u=Yy y x:=by
 cases y with
 |non=>cases r;rfl
 |bl b=>cases r;rfl
 |int i=>obtain⟨t,rfl⟩:=r;rfl
 |str z=>obtain⟨t,rfl⟩:=r;rfl
 |_=>exact absurd (show false=true from f) LH
def b0l(h:do_):xs.all Mq=true->us.any gs_=xs.any λy=>Yy y x:=by
 induction h with
 |nil=>exact λ_=>rfl
 |cons r _ ih=>
  intro f;rw[QU,LN]at f;rw[PU,PU,b8m r f.1,ih f.2]
def uB(rx:Bn x v)(fx:Mq x=true):∀{xs:q!} {us:k_},Az xs us->xs.all Mq=true->∀u∈us,SeqAt.EqAt A s u v (AE x u)
 |_,_,.nil,_=>λu hu=>by cases hu
 |y::xs,u::us,.cons r t,f=>λu' hu=>by
  rw[QU,LN]at f;obtain rfl|hu:=KG.mp hu
  .rw[b8m r f.1];exact c7w r rx f.1 fx
  .exact uB rx fx t f.2 u' hu
def FR(x:V)(xs:q!):Bool:=xs.any λy=>Yy y x
def HB(KF:zA!)(neg:Bool):R2:=λx y H Q=>∃p xs,y=.ref p/\(Fm KF H p xs\/Fz KF H p xs)/\Mq x=true/\xs.all Mq=true/\Q (.bl (if neg then !FR x xs else FR x xs)) H
def b1q:Gk X jc! (HB X.K false):=by
 intro hb s Z H x y v u Q I rx ry h;obtain⟨p,xs,rfl,hq,fx,fs,q⟩:=h;cases ry;obtain hq|hq:=hq
 .show"!O";refine SeqAt.in_listAt gs_ pl.isList u6! eO_;rw[u7!,b0l r fs];exact q
 .show"!t";refine SeqAt.in_tupleAt gs_ pl u6! eO_;rw[u7!,b0l r fs];exact q
def a1b:Io X dI! (λxs H Q=>∃p ys,xs=gt!/\(Fm X.K H p ys\/Fz X.K H p ys)/\∀l,H l=none->Q jc_ jd!):=by
 intro hb s Z H xs us Q I r h;obtain⟨p,ys,rfl,hq,q⟩:=h;obtain⟨u,rfl,rx⟩:=mL r;cases rx;have fin:∀(its:k_),Az ys its->N_<=sizeLine->∀(h':Heap) (c':Nat),(∀b o',s.heap.get? b=some o'->h'.get? b=some o')->
   h'.get? h_=some {cls:=.type "list",dict:=none,data:=.seq its.toArray c',slots:=#[]}->EP X hb Z Q bk_ {s with heap:=h'}:=λits r' hz h' c' kp e=>
  ⟨c1_,_,I.laid (t':=s.toks) kp r! (show Em X.prog X.w _ h' _ aD_ from⟨hz,its,c',r',e⟩),rfl,q _ eH_⟩
 obtain hq|hq:=hq
 .obtain⟨its,r',pl,hz⟩:=I.list hq;have ao:=iA!;obtain⟨o,ho,hc,n,hd⟩:=pl.isList;exact call_list_seq p an_ ho hc hd u8! u9_
 .obtain⟨its,r',pl,hz⟩:=I.tuple hq;have ao:=iA!;obtain⟨o,ho,hc,n,hd⟩:=pl;exact call_list_seq p gt_ ho hc hd u8! u9_
def HX(KF:zA!)(T:String)(x:V)(H:Hp):Prop:=match x with
 |.str _=>T="str"
 |.int _=>T="int"
 |.ref p=>(T="list"/\∃xs,Fm KF H p xs)\/(T="tuple"/\∃o,KF.lookup p=some o/\o.cls=.type "tuple"/\o.dict=none)\/
   (T="dict"/\((∃h1,H p=some dx_)\/∃h1,H p=some je!))\/(T="set"/\∃S n,H p=some (.set S n))
 |_=>False
def c5k{hb:s_}{Z:St}{H:Hp}{s:zz!}{T:String}(I:d!)(r:Bn x v)(ty:HX X.K T x H):
  s.TypeIs v T/\∀a,v=.ref a->∃ob,s.heap.get? a=some ob/\ob.dict=none:=by
 cases x with
 |str z=>
  obtain⟨t,rfl⟩:=r;cases (show T="str" from ty);exact⟨typeIs_str s z t,vc!⟩
 |int i=>
  obtain⟨t,rfl⟩:=r;cases (show T="int" from ty);exact⟨typeIs_int s i t,vc!⟩
 |ref p=>
  cases r;obtain⟨rfl,xs,hq⟩|⟨rfl,o,hk,hc,hd⟩|⟨rfl,hk⟩|⟨rfl,S,n,hk⟩:=ty
  .obtain⟨its,_,pl,_⟩:=I.list hq;refine⟨pl.isList.typeIs,λa e=>?_⟩;cases e;obtain⟨o,n,e,c,hd,_⟩:=pl;exact⟨o,e,hd⟩
  .refine⟨⟨o,I.kIn p o hk,hc⟩,λa e=>?_⟩;cases e;exact⟨o,I.kIn _ o hk,hd⟩
  .have z:∃o,s.heap.get? p=some o/\hL!:=by
    obtain⟨h1,hk⟩|⟨h1,hk⟩:=hk
    .show"##"
    .show"##"
   obtain⟨o,e,ex⟩:=z;refine ve!;cases e2;exact ve_
  .obtain⟨o,_,_,_,e,ex,_⟩:=I.hok p _ hk;refine ve!;cases e2;exact ve_
 |_=>exact False.elim ty
def JJ(KF:zA!)(T:String)(r:nA!)(to:TE)(t:TA):TE:=λZ H Q=>to Z H λx H1=>HX KF T x H1/\t Z H1 λxs H2=>r x xs H2 Q
variable{T id:String}
def wN(pa:PlainAttrs T)(slot:Slot T name id)(ut:typeOf eJ!=pure (.type "method_descriptor"))(hm:IY X id r)(ho:PE X o to)(ha:eG!)
  (gi:attributeBase o name X.env du!=eval o X.env:=by rfl)
  (gj:((backTo ah t3!).all cs_&&(ct!).all ct_
   &&decide ((aA_).length+(dJ!).length+eP!<30))=true:=by rfl)
  (gn:dJ_:=by rfl) (hs:ah!:=by rfl) (gq:(vf_).any c_=false:=by rfl):
  PE X (.Call (.Attribute o name a8) aA_ [] ah) (JJ X.K T r to t):=by
 show"!?";refine wpAny_Call_method_late gi gj gn rfl sB!;rintro v s1 ⟨x,H1,I1,r1,ty,q1⟩;obtain⟨Y,h2⟩:=c5k I1 r1 ty;refine⟨T,id,pa,slot,ut,Y,h2,?_⟩;have hA:=ha ah hb s1 Z H1 _ I1 q1;rw[hs]at hA ⊢;refine QW (by show(false||(vf_).any c_)=false;rw[gq]<;>rfl) (QE ?_);exact dF hA λus s2 ⟨vs,H2,I2,r2,q2⟩=>hm hb s2 Z H2 x vs v us Q I2 r1 r2 q2
end
end L2
namespace L2
open PySem PySem.Spec PyProof.Rows
def HN(X:Cx)(id:String)(r:nA!):Prop:=
 ∀(hb:s_) (s:zz!) (Z:St) (H:Hp) (x:V) (xs:q!) (v:zp!) (us:k_) (Q:VK),Inv X hb Z H s->Bn x v->Az xs us->r x xs H Q->
  wpAny d_ X.A uP_ aA! X.xe s
def Az.one(h:Az [x] us):∃u,us=[u]/\Bn x u:=by
 cases h with
 |cons r t=>cases t;exact lA!
def Az.rep(h:do_):∀k:Nat,Az (vh!).flatten (List.replicate k us).flatten
 |0=>.nil
 |k+1=>by
  rw[OZ,OZ,QT,QT];exact Az.append h (Az.rep h k)
def xL(its:k_):∀(k:Nat) (acc:k_),
  List.foldl nJ_ acc.toArray (List.replicate k a0_)=(acc++(vi!).flatten).toArray
 |0,acc=>by simp
 |k+1,acc=>by
  have e:acc.toArray++a0_=(nK!).toArray:=by simp
  have e2:nK!++(vi!).flatten=acc++(List.replicate M_ its).flatten:=by
   rw[OZ,QT,NJ]
  rw[<-e2,<-xL its k nK!,<-e,OZ,QP]
section
variable{X:Cx}
def Inv.lset{its its':k_}{n:Nat}{f:Array Value->Array Value}{t':Nat}(I:d!)(hH:H l=some M!)
  (e:s.heap.get? l=some {cls:=.type "list",data:=.seq its.toArray n})(hf:f a0_=its'.toArray)(hv:Az ys its')(hz:i8_):
  Inv X hb Z jd! {s with heap:=s.heap.update l vi_,toks:=t'}:=by
 have q:=PySem.IsL.update e f;rw[hf]at q;refine I.write (x:=l) (e:=l) (by rw[hH];exact trivial) an_ (λb' u J hu=>(LS s.heap vi_ gq_).trans hu) ⟨_,q⟩ ?_;exact⟨hz,its',_,hv,q⟩
def Inv.lnew{its:k_}{t':Nat}(I:d!)(hv:Az ys its)(hz:i8_):
  Inv X hb Z (upd H s.heap.objs.size aD_) {s with heap:=s.heap.push {cls:=.type "list",data:=.seq a0_},toks:=t'}:=
 I.laid vk_ r! ⟨hz,its,0,hv,dv!⟩
def Inv.fresh(I:d!):H h_=none:=I.hok.fresh r!
def Inv.lstM(I:d!)(hH:H l=some M!):i!<=sizeLine/\∃(its:k_) (n:Nat),Az xs its/\i!=gv!/\s.heap.get? l=some {cls:=.type "list",data:=.seq its.toArray n}:=by obtain⟨z,its,n,r,e⟩:=I.hok l _ hH;exact⟨z,its,n,r,aJ!,e⟩
def a2q{n:Nat}(h:nL_):Builtin.List.listTooLong n=false:=by unfold Builtin.List.listTooLong;exact KP a!
def Zs:V->List V->Hp->VK->Prop:=λx vs H Q=>∃l xs y,x=.ref l/\vs=[y]/\H l=some M!/\i!<sizeLine/\Q .non (upd H l (.lst (xs++[y])))
def wX:HN X "list.append" Zs:=by intro hb s Z H x vs v us Q I rx rv h;obtain⟨l,xs,y,rfl,rfl,hH,hz,q⟩:=h;cases rx;obtain⟨u,rfl,ru⟩:=rv.one;obtain⟨z,its,n,r,hl,e⟩:=I.lstM hH;refine UL F.slot_list_append dK! F.entry_list_append (F.args_list_append_2 _ _) (PySem.list_append l its.toArray n u vm_) je_;refine⟨.non,_,I.lset (its':=its++[u]) hH e c! (r.append vn!) ?_,rfl,q⟩;rw[LK,OG];omega
def Zr:V->List V->Hp->VK->Prop:=λx vs H Q=>∃l b xs zs,x=.ref l/\vs=[.ref b]/\H l=some M!/\H b=some (.lst zs)/\i!+zs.length<=sizeLine/\Q .non (upd H l vo_)
def b2g:HN X "list.extend" Zr:=by
 intro hb s Z H x vs v us Q I rx rv h;obtain⟨l,b,xs,zs,rfl,rfl,hH,hB,hz,q⟩:=h;cases rx;obtain⟨u,rfl,ru⟩:=rv.one;cases ru;obtain⟨z,its,n,r,hl,e⟩:=I.lstM hH;obtain⟨z2,gh,n2,r2,hl2,e2⟩:=I.lstM hB;have hsz:bE!+vp!<=sizeLine:=by rw[KH,KH];omega
 have v9:¬(! mZ!&&Builtin.List.listTooLong (bE!+vp!))=true:=by
  rw[a2q hsz,TZ];exact LH
 refine UL F.slot_list_extend dK! F.entry_list_extend (F.args_list_extend_2 _ _)
  (AutoSeq1.list_extend_list_list_0 l its.toArray n b gh.toArray n2 v9 vm_ a!) vr_
 refine⟨.non,_,I.lset (its':=its++gh) hH e c! vr! ?_,rfl,q⟩;rw[LK];omega
def GZ:R2:=λx y H Q=>∃l k xs,x=.ref l/\y=.int k/\H l=some M!/\-(2 ^ 63)<=k/\k<2 ^ 63/\i!*k.toNat<=sizeLine/\
 ∀p,H p=none->Q cp_ (upd H p (.lst (List.replicate k.toNat xs).flatten))
def c2i(xs:ai_)(k:Nat):(vh!).flatten.length=k*i!:=by
 induction k with
 |zero=>simp
 |succ k ih=>rw[OZ,QT,LK,ih,Nat.succ_mul,Nat.add_comm]
def b5r:Gk X th_ GZ:=by
 intro hb s Z H x y v u Q I rx ry h;obtain⟨l,k,xs,rfl,rfl,hH,Y,h2,hz,q⟩:=h;cases rx;obtain⟨t,rfl⟩:=ry;obtain⟨z,its,n,r,hl,e⟩:=I.lstM hH;have ao:bE!*k.toNat<=sizeLine:=by rw[KH,<-hl];exact hz
 have YO:¬bE!*k.toNat>vs! / 8:=by
  have:(sizeLine:Nat)<=vs! / 8:=by decide
  omega
 have wb:¬(!Builtin.List.listFitsIndex k)=true:=by
  rw[fitsIndex_both Y h2];exact LH
 have v9:¬Builtin.List.listTooLong (bE!*k.toNat)=true:=by
  rw[a2q ao];exact LH
 have ph:List.foldl nJ_ #[] (List.replicate (if mZ!=true then 0 else k.toNat) a0_)=(List.replicate k.toNat its).flatten.toArray:=by
  have f0:∀m:Nat,List.foldl nJ_ #[] (List.replicate m a0_)=(List.replicate m its).flatten.toArray:=λm=>by
   have:=xL its m [];rw[NN]at this;exact this
  rw[f0];cases its with
  |nil=>simp
  |cons a r'=>rw[Q!]
 refine wpAny_binaryOp_repeat_ref (T:="list") (U:="int") b! dK! (λs'=>typeIs_int s' k t) noFill_list_mul F.fills_int_mul F.slot_int_rmul repeat_list F.slot_int_index.lookup
  (UL F.slot_int_rmul (typeIs_int s k t) F.entry_int_rmul (F.args_int_rmul_2 _ _) (int___rmul___int_list k t l its.toArray n)
   ⟨e,rfl,dK!,UL F.slot_list_mul dK! F.entry_list_mul (F.args_list_mul_2 _ _) (AutoListH.list___mul___list_int_3 l its.toArray n k t wb YO v9) je_⟩)
 rw[ph];exact⟨.ref _,_,I.lnew (t':=s.toks) (r.rep k.toNat) (by rw[c2i,Nat.mul_comm];exact hz),rfl,q _ I.fresh⟩
end
end L2
namespace L2
open PySem PySem.Spec PyProof.Rows
section
variable [DecidableEq κ]
def Nb(h1:vt!)(k:κ):Option V:=(h1.find? λkv=>decide (kv.1=k)).map R!
def b3p{k:κ}(e:p.1=k):Nb (p::r) k=some p.2:=by simp[Nb,PF,e]
def b3q{k:κ}(e:¬p.1=k):Nb (p::r) k=Nb r k:=by simp[Nb,PF,e]
def Nu.isSome_eq(r:Nu o u):o.isSome=u.isSome:=by
 cases o with
 |none=>cases u with
  |none=>rfl
  |some _=>exact(iE!).elim
 |some _=>cases u with
  |none=>exact(iE!).elim
  |some _=>rfl
def KV.val{h1:vt!}{vs:List (κ×Value)}(r:KV h1 vs)(k:κ):Nu (Nb h1 k) (valueAt vs k):=by
 unfold KV at r
 induction r with
 |nil=>exact iF_
 |@cons p q ps qs h t ih=>
  obtain⟨Y,h2⟩:=h;by_cases e:p.1=k
  .have e':q.1=k:=Y.symm.trans e;have b:valueAt (q::qs) k=some q.2:=by simp[valueAt,PF,e']
   rw[b3p e,b];exact h2
  .have e':¬q.1=k:=λz=>e (Y.trans z);have b:valueAt (q::qs) k=valueAt qs k:=by simp[valueAt,PF,e']
   rw[b3q e,b];exact ih
end
def b7n(r:Bn (kV k) u):(bi_).is k u=true:=by
 cases k with
 |inl i=>obtain⟨t,e⟩:=tK!;subst e;exact a2y P w i t
 |inr x=>obtain⟨t,e⟩:=tK_;subst e;exact lJ P w x t
def qH:∀{ks:List Key} {us:k_},Az nP! us->ItemsAre bi_ ks us
 |[],_,r=>by rw[QC]at r;cases r;exact .nil
 |k::ks,_,r=>by
  rw[KL]at r;cases r with
  |cons h t=>exact .cons (b7n h) (qH t)
abbrev KT(H:Hp):List lC_->List lD_->Prop:=Paired λp q=>p.1=q.1/\H q.2.1=some rh!/\Bn p.2 q.2.2
section
def c9v(ok:a1!)(e:Rd H a u):Em P w H h a u:=e.ok ok
def a0d(ok:a1!)(e:H a=some (.tup nP!)):(fJ!).is h ks a:=by obtain⟨_,its,r,o,Y,h2,n,h3⟩:=(show Em P w H h a (.tup nP!)from ok a _ e);exact⟨o,a0_,n,Y,h2,h3,by simpa using qH r⟩
def d1d(ok:a1!)(e:Rd H a je!):av!<=sizeLine/\dp!=false/\
  ∃xs,KT H h1 xs/\h.DictOfH fJ! a xs:=by
 obtain⟨z,y,xs,r,o,es,ep,Y,h2,h3,h4,h5⟩:=(show Em P w H h a je! from c9v ok e);refine⟨z,y,xs,r,o,es,ep,Y,h2,h3,h4,aE!,h5⟩;have all:∀{l:List lC_} {m:List lD_},KT H l m->∀x∈m,(fJ!).is h x.1 x.2.1:=by
  intro l m q
  induction q with
  |nil=>intro x hx;exact nomatch hx
  |@cons p q ps qs hq t ih=>
   intro x hx;obtain e|hx:=KG.mp hx
   .subst e;exact a0d ok (by rw[<-hq.1];exact hq.2.1)
   .exact ih x hx
 exact all r x hx
def uZ(ok:a1!)(e:H a=some je!):av!<=sizeLine/\dp!=false/\
  ∃xs,KT H h1 xs/\h.DictOfH fJ! a xs:=d1d ok (.inl e)
end
section
variable{X:Cx}
def Inv.big(I:d!):sysModules<h_:=by have h:mainGlobals<h_:=(I.mod.glob.keeps I.bk).lt;exact Nat.lt_trans b! h
def c3p(I:d!)(mu:FC (H a))(hs:vw_)(he:∃q,h'.get? a=some q)(new:Em X.prog X.w vx! h' a ob):
  Inv X hb Z vx! {s with heap:=h',toks:=t'}:=
 I.write (x:=a) (e:=a) mu an_ (λb q J z=>(hs.2 b J).trans z) he new
end
def FB(i:Expr):Prop:=∀ov iv,subscripted i false ov iv=operate [ov,iv] (getItem ov iv)
def c0h{T id:String}
  (hl:typeLookup dE! "__getitem__"=pure (some eJ!))(hs:FB fz)
  (h:wpAny l! A (eval value env) (λo ai=>wpAny l! A (eval fz env) (λi aj=>aj.TypeIs o T/\wpAny l! A uO_ Q E aj) E ai) E s):
  wpAny l! A (eval (.Subscript value fz pos) env) Q E s:=by
 refine Subscript_ (NQ h (λo ai h₁=>NQ h₁ (λi aj ip=>?_) λ_ _ x=>x) λ_ _ x=>x);obtain⟨hT,ip⟩:=ip;unfold subscriptTail;refine JY ?_;rw[getitemInPython_of_ne hT.not_modules];refine JY (SM hT hl ?_);have fin:wpAny l! A (subscripted fz false o i) (λr c7=>wpAny l! A (letTemporaryGo value o r>>=λ_=>pure r) Q E c7) E aj:=by
  rw[hs o i];exact wpAny_operating (NQ ip (λr c7 g8=>JY (wpAny_letTemporaryGo (KB g8))) λ_ _ x=>x)
 first
  |exact KB jg_
  |exact JY (KB jg_)
  |exact JY fin
structure M1(X:Cx)(o:Expr)(m:Str)(a8:Pos)(e:Expr)(ah:Pos):Prop where
 base:attributeBase o m X.env du!=eval o X.env
 few:((jh_).all cs_&&(ct!).all ct_
  &&decide (([e]:List Expr).length+(dJ!).length+eP!<30))=true
 line:nJ!=true
 trees:backTo ah vA!=[dA!]
structure M2(X:Cx)(o:Expr)(m:Str)(a8:Pos)(e f:Expr)(ah:Pos):Prop where
 base:attributeBase o m X.env du!=eval o X.env
 few:((backTo ah vB!).all cs_&&(ct!).all ct_
  &&decide (([e,f]:List Expr).length+(dJ!).length+eP!<30))=true
 line:nJ!=true
 trees:backTo ah vB!=[dA!,(false,eval f X.env)]
end L2
namespace Att
open PySem PySem.W PySem.Calls PyProof.Rows
def rS:∀(ns:v!) (vs:k_),WellAll P h vs vB_->IntsAre vs ns:=by
 intro ns
 induction ns with
 |nil=>
  intro vs w;rw[QC]at w;cases w;exact .nil
 |cons n ns ih=>
  intro vs w;rw[KL]at w;cases w with
  |cons a b=>
   cases a;exact .cons _ _ (ih _ b)
def b1b{l:OpenLaw}(hn:jj!)
  (uv:l.row.toRowW.claim.pre args=true)(wc:WellAll P h we args):
  ∃a vs ns,we=[Value.ref a]/\args=[WData.list vB_]/\h.get? a=some {cls:=.type "list",data:=.seq cr!}/\IntsAre vs ns/\cV_<=n:=by
 have YQ:WShape.hasAll [] args [.list .int]=true:=(vC_).1;have hc:l.pre.holds [] {args:=args}=true:=(vC_).2;obtain⟨d,r,rfl,Y,h2⟩:=hasAllW_cons YQ;obtain rfl:=hasAllW_nil h2;obtain⟨xs,rfl,h3⟩:=hasW_list Y;obtain⟨ns,rfl⟩:=items_int h3;have ao:cV_<=n:=by
  unfold OpenLaw.pre at hc;have h4:(WTm.not (.lt (.lit (.int (n:Int))) (.len (.arg 0)))).holds [] {args:=[.list jk!]}=true:=by
   have h4:=(holds_andW hc).1;rw[hn]at h4;exact h4
  have h5:=condW_of h4 (w_not (w_lt w_lit (w_len_list (w_arg rfl))));rw[KQ]at h5;refine Nat.le_of_not_lt λq=>?_;have q':(n:Int)<((cV_:Nat):Int):=by omega
  first
   |(rw[LG q']at h5;exact absurd h5 b!)
   |(simp at h5;omega)
 cases wc with
 |cons w1 w2=>
  cases w2;cases w1 with
  |list ho gr=>exact⟨_,_,ns,rfl,rfl,ho,rS ns _ gr,ao⟩
def b1h(l:OpenLaw)(args:List WData):l.row.toRowW.claim.post args eR_ args=true:=
 postW_of (r:=l.row.toRowW) (X:=vE_)
  (show WShape.has [] eR_ .bool=true by first|rfl|decide|simp[WShape.has,WShape.arms,WShape.armsAll])
  (show(WTm.eq .res (.lit eR_)).value [] {args:=args,res:=some eR_,after:=args}=some (.bool vE_)from w_eq_bool (w_res rfl) w_lit) rfl
def a4q{l:OpenLaw}
  (hn:jj!)(rj:nT!)
  (call:∀(w:zx!) (s₀ ai:zz!) (mg mb:O_) (fa:u0!) (o:Obj) (pm cd bo:zp!) (a:u0!) (vs:k_) (ns:v!),
   Ground q wf [] XP w s₀ mg mb ai.heap->YP w ai.heap->
   ai.heap.get? fa=some o->o.data=.func (docDef d.name d.params d.body d.scope pm cd bo)->ai.heap.CodeRec cd d.name->mg d.name=some eS!->
   ai.heap.get? a=some {cls:=.type "list",data:=.seq cr!}->IntsAre vs ns->cV_<=n->ai.gens=#[]->
   codeAny (model l.prog w) callerA nU! nU_ ai):
  WalkO q wf XP YP l.row.toRowW d [] nV!:=by
 intro w s₀ ai mg mb G g9 fa o pm cd bo dV kV ho hd bq hD ju hg args we as uv hlay hrd wc hlo;obtain rfl:dV=.none:=Dflts.none hD rj;obtain rfl:kV=.none:=Dflts.noKw hD;obtain⟨a,vs,ns,rfl,rfl,wj,hints,ao⟩:=b1b hn uv wc;refine enter_call (SZ (call w s₀ ai mg mb fa o pm cd bo a vs ns G g9 ho (fd_plain hd) bq ju wj hints ao hg) λr s' hq=>?_);obtain⟨rfl,h2,h3,h4⟩:=hq;exact⟨.inl ⟨nV_,nV_,[],rfl,bT_,nV_,b1h l _,λ_=>⟨jk_,λ_ hm=>(nomatch hm)⟩⟩,h2,h3,h4⟩
section
end
end Att
namespace L2
open PySem PySem.Spec PyProof.Rows
def b0s(h:vI_):Az bW! vs:=by
 induction h with
 |nil=>exact .nil
 |cons n t h ih=>exact .cons dL_ ih
def AI(H:Hp):Prop:=∀b,H b=none\/∃o xs,H b=some (.frz o M!)
def b7e
  (KX:KF.In ai.heap)(cf:ai.heap.Ns mainGlobals mg)(J:ai.heap.Ns builtinsNs mb)(YR:∀x:Str,x≠"__name__"->mb x=bootBuiltins x)(YS:ai.heap.NoLimit)(hg:ai.gens=#[])
  (ha:ai.heap.get? a=some {cls:=.type "list",data:=.seq cr!})(hi:vI_)(hl:tE_)(hr:nW!)
  (F:∀base:Heap,KF.In base->base.Ns mainGlobals mg->Fk P w KF mg base CX k fa fd [x] sp)(YT:∀(s:zz!) (u:zp!),BindsTo s fd jl! [(x,u)])
  (jg:∀H:Hp,AI H->Fm KF H a bW!->sp a8! H jl_ λ_ _ _=>False)
  (rm:∀H e s',CX [] H ai jm! e s'->False):
  codeAny C! callerA nU! nU_ ai:=by
 have rv:=b0s hi;have YU:=hi.length;have zy:∀H:Hp,AI H->Fm KF H a bW!->Lp P w H ai.heap->(∀b,H b≠none->b=a)->(H a≠none->KF.lookup a=none)->
   codeAny C! callerA nU! nU_ ai:=by
  intro H hO hS hok hA hK;have zz:∀{b:u0!} {o:Obj},ai.heap.get? b=some o->H b=none->(gy_).get? b=some o:=λe n=>b7z e n;have rh:∀{b:u0!} {o:Obj} {es:jn!} {ep:Nat},ai.heap.get? b=some o->o.data=.dict es ep->H b=none:=λ{b o es ep} e d=>by
   cases q:H b with
   |none=>rfl
   |some u=>
    have e':b=a:=hA b cv!;subst e';rw[ha]at e;cases e;have d':Data.seq vs.toArray _=Data.dict es ep:=d;cases d'
  have uw:∀{b:u0!} {m:O_},ai.heap.Ns b m->(gy_).Ns b m:=λ{b m} ⟨o,es,ep,e,d,r⟩=>⟨o,es,ep,zz e (rh e d),d,r⟩;have z6:KF.In gy_:=λb o e=>zz (KX b o e) (by
   cases q:H b with
   |none=>rfl
   |some u=>
    have e':b=a:=hA b cv!;subst e';rw[hK cv!]at e;cases e)
  have hM:Mod KF mg gy_:=⟨z6,uw cf,⟨mb,uw J,YR⟩,let⟨mc,Y,h2⟩:=YS;⟨mc,uw Y,h2⟩⟩;have e0:Qt P w KF mg gy_ callerA [] ai H:=⟨rfl,hM,λb o e=>c1z e,RG (b2r _ _),trivial,λb J=>absurd (show b∈ue! from J) c!,hok,.of_eq hg⟩;refine SZ ((F _ z6 (uw cf)).run callerA [] ai H nT_ a8! a8! _ _ hr e0 (YT ai F!) t5! (jg H hO hS)) λr s' h=>?_;cases r with
  |error e=>exact(rm H e s' h).elim
  |ok fl=>
   cases fl with
   |next=>exact False.elim h
   |brk=>exact False.elim h
   |cont=>exact False.elim h
   |ret u=>
    obtain⟨v,H',os,bare,un,YV,r',q⟩:=h;have q':v=.bl true:=q;subst q';obtain rfl:u=Value.bool true:=r';refine⟨rfl,OldK.of_keep λb o e=>?_,os,bare⟩;cases q:H b with
    |none=>exact un.keep b o e q (by intro z;exact absurd ud_ c!) c!
    |some u=>
     obtain z|⟨ob,xs,z⟩:=hO b
     .rw[q]at z;cases z
     .have z2:=un.frzs b ob _ z;obtain⟨e1,_⟩:=hok b _ z;obtain⟨e2,_⟩:=YV b _ z2;rw[e]at e1;cases e1;exact e2
 cases hk:KF.lookup a with
 |some o=>
  have e:=KX a o hk;rw[ha]at e;cases e;refine zy m6_ (λ_=>.inl rfl) (.inr ⟨_,cr!,_,hk,rfl,rfl,rfl,by rw[KH,YU];exact hl,by simpa using rv⟩) (λb u z=>by have z':(none:Option HO)=some u:=z;cases z') (λb z=>absurd rfl z) λz=>absurd rfl z
 |none=>
  refine zy (λb=>if b=a then some (.frz {cls:=.type "list",data:=.seq cr!} (.lst bW!))else none) (λb=>?_) (.inl (.inr ⟨{cls:=.type "list",data:=.seq cr!},A!⟩)) (λb u z=>?_) vN! λ_=>hk
  .by_cases J:b=a
   .exact .inr ⟨_,_,KM J⟩
   .exact .inl (KN J)
  .by_cases J:b=a
   .have z':=(KM J).symm.trans z;cases z';subst J;exact⟨ha,vO!,vs,_,rv,ha⟩
   .have z':=(KN J).symm.trans z;cases z'
  .by_cases J:b=a
   .exact J
   .exact absurd (KN J) z
end L2
namespace L2
open PySem PySem.Spec PyProof.Rows
def c0c{l:W.OpenLaw}{n k:Nat}{XP:vO_}{YP:vP!}{d:DefRec}{KF:vP_}{CX:World->BI}{sp:World->Sp}
  (hn:jj!)(g7:nL_)(rj:nT!)(hr:nW!)
  (hY:vQ!)
  (F:∀(w:zx!) (mg:O_) (fa:u0!) (h:Heap),(bF_).In h->h.Ns mainGlobals mg->mg d.name=some eS!->
   ∃fd:FuncData,vQ_/\
    ∀base:Heap,(bF_).In base->base.Ns mainGlobals mg->Fk l.prog w bF_ mg base (CX w) k fa fd [x] (sp w))
  (jg:∀(w:zx!) (H:Hp) (a:u0!) (ns:v!),cV_<=n->AI H->Fm bF_ H a bW!->sp w a8! H jl_ λ_ _ _=>False)
  (rm:∀(w:zx!) (H:Hp) (s:zz!) (e:zp!) (s':zz!),CX w [] H s jm! e s'->False):
  W.WalkO q wf XP YP l.row.toRowW d [] nV!:=by
 refine Att.a4q hn rj λw s₀ ai mg mb fa o pm cd bo a vs ns G g9 ho hd bq ju wj hints ao hg=>?_;have KX:=hY w _ g9;obtain⟨fd,J,hF⟩:=F w mg fa _ KX G.T.g ju;exact b7e KX G.T.g G.T.b G.T.builtins G.T.nolimit hg wj hints (LV ao g7) hr hF J (λH hO hS=>jg w H a ns ao hO hS) λH e s'=>rm w H ai e s'
def b3n{l:W.OpenLaw}{n k:Nat}{XP:vO_}{YP:vP!}{d:DefRec}{KF:vP_}{CX:BI}{sp:W.Frag->Sp}
  (hn:jj!)(g7:nL_)(rj:nT!)(hr:nW!)
  (hY:vQ!)
  (F:∀(w:zx!) (mg:O_) (fa:u0!) (h:Heap),(bF_).In h->h.Ns mainGlobals mg->mg d.name=some eS!->
   ∃fd:FuncData,vQ_/\
    ∀base:Heap,(bF_).In base->base.Ns mainGlobals mg->Fk l.prog w bF_ mg base CX k fa fd [x] (sp bF_))
  (jg:∀(KF:zA!) (H:Hp) (a:u0!) (ns:v!),cV_<=n->AI H->Fm KF H a bW!->sp KF a8! H jl_ λ_ _ _=>False)
  (rm:∀(H:Hp) (s:zz!) (e:zp!) (s':zz!),CX [] H s jm! e s'->False):
  W.WalkO q wf XP YP l.row.toRowW d [] nV!:=
 c0c (KF:=KF) (CX:=λ_=>CX) (sp:=λw=>sp bF_) hn g7 rj hr hY F (λw H a ns Y h2 h3=>jg bF_ H a ns Y h2 h3) λ_ H s e s'=>rm H s e s'
end L2
namespace L2
open PySem PySem.Spec PyProof.Rows
def Fp(s:Stmt):Arguments:=match s with
 |.FunctionDef _ a _ _ _ _ _ _ _ _=>a
 |_=>{posonlyargs:=[],args:=[],vararg:=none,kwonlyargs:=[],kw_defaults:=[],kwarg:=none,defaults:=[]}
def Cy(s:Stmt):List Stmt:=match s with
 |.FunctionDef _ _ b _ _ _ _ _ _ _=>b
 |_=>[]
def Ak(s:Stmt):Scope:=match s with
 |.FunctionDef _ _ _ _ _ _ sc _ _ _=>sc
 |_=>{kind:=.function,names:=[],isGenerator:=false,isCoroutine:=false}
abbrev Pj:BI:=λ_ _ _ _ _ _=>False
abbrev E0:XK:=λ_ _ _=>False
def tL:Kc Pj X E0:=λ_ _ _ _ _ _ _ h=>h.elim
structure Yu(KF:zA!)(x qual:Str)(st:Stmt)(f:u0!)(fd:FuncData):Prop where
 ex:∃(oc:zp!) (od:dM!) (kV bo pm:zp!) (an:dM!) (ag ct:zp!) (ik:n2_),
  fd=W.fnOf x qual kB! bp_ bb! .none kV bo pm an ag ct/\KF.lookup f=some ⟨oc,od,.func fd,ik⟩/\W.codeIn KF ag qual=true
 kp:W.keepIn KF af_=true
section
def Yu.ok{st:Stmt}(F:vS_)(S:c3!)(len:ul_)
  (pb:∀(ag:zp!) (A:zm!) (outer:ao!) (s:zz!) (H:Hp) (vs:q!) (Q:VK) (E:XK),Ah k (A.deeper (envOfC qual bb! s.heap.objs.size f ag))->sp vs H Q E->
   ∃t,Ox (Kb Pj P w KF mg base N qual bb! f ag A outer s H E).nox bp_ t/\t {nx:=λ_ H'=>Q .non H',rt:=Q} gg! H):Fk P w KF mg base Pj M_ f fd ps sp:=by
 show"!C";refine c4z lk bq S len λA outer s H vs Q E hr jg=>?_;obtain⟨t,h,q⟩:=pb ag A outer s H vs Q E hr jg;exact⟨t,h.nox,q⟩
def Yu.binds{st:Stmt}(F:vS_)
  (h:vU!):Eu KF fd ps []:=by
 show"!C";exact .all (h kV bo pm an ag ct)
def nH{st:Stmt}{kV:zp!}(l:vU_)
  (c:iS!)(k:gB!):Yu KF x qual st f n3_:=⟨⟨oc,od,kV,bo,pm,an,ag,ct,ik,rfl,l,c⟩,k⟩
end
def b0x(h:n<=1000):n<sizeLine:=NA h b!
def kP{A B:Prop}(h:B):if false=true then A else B:=by rw[KN LH];exact h
def kB{A B:Prop}(h:A):if true=true then A else B:=by rw[A!];exact h
def Bc(H H':Hp):Prop:=∀b o,H b=some o->H' b=some o
def Bc.refl(H:Hp):Bc H H:=λ_ _ h=>h
def Bc.trans(a:Bc H H1)(b:Bc H1 H2):Bc H H2:=λc o h=>b c o (a c o h)
def Bc.free(e:eT!)(h:H' l=n4!):H l=n4!:=by
 cases q:H l with
 |none=>rfl
 |some o=>
  rw[e l o q]at h;cases h
def Bc.seq(e:eT!)(h:Fm KF H a xs):Fm KF H' a xs:=by
 rcases h with(h|⟨o,h⟩)|h
 .exact vW_
 .exact vY_
 .exact .inr h
end L2
namespace L2
open PySem PySem.Spec PyProof.Rows
def Inv.track{D:u0!}(I:d!)
  (hD:s.heap.get? D=some {cls:=.type "list",data:=.seq us.toArray n})(r:Az ys us)(hz:i8_)(hn:H D=none)(hs:dq!<=D)(hL:D≠X.env.locals)
  (hc:∀x c,X.env.cells.lookup x=some c->c≠D)(hp:∀p∈X.pn++hb,p.1≠D):Inv X hb Z (upd H D aD_) s:=by
 have ne:∀b u,H b=some u->b≠D:=λb u e=>cK e hn;refine I.step (g':=s.gens) (d':=s.drawn) (t':=s.toks) (h':=s.heap) (ch:=[D]) hX! (λb o _ _ _ e _=>e) (λb o _ _ _ e _=>v0!) (λb o hc e n=>?_) (λb o _ e=>⟨o,e⟩)
  (λb xs e=>by rw[n5!];exact e) (λb o u e=>by rw[n5!];exact e) (λb ps e=>⟨#[],by rw[n5!,e];simp⟩) n5_ rI_ I.bare
 .have e:b=D:=by simpa using J
  subst e;exact⟨.inr hs,hL,hc,hp⟩
 .rw[n6!];exact n
 .by_cases J:b=D
  .show"!s";exact⟨hz,us,n,r,hD⟩
  .rw[aY J]at e;exact(lY!).stay n6_ (λc q=>by rw[v1_];exact q) λc xs q=>by rw[v1_];exact q
nonrec def closOf(cells:b0!):List v2!->List eT_->List eT_
 |[],acc=>acc
 |(n,k)::r,acc=>if k==.free then closOf cells r ((n,(cells.lookup n).getD 0)::acc)else closOf cells r acc
structure AL(X:Cx)(scope:Scope)(cl:b0!):Prop where
 eq:closureFor scope X.env=pure cl
 sub:∀x c,cl.lookup x=some c->X.env.cells.lookup x=some c
 all:∀x,scope.names.lookup x=some .free->∃c,cl.lookup x=some c
def qR:∀(names:eU!) (acc:b0!),(∀p∈names,p.2=.free->∃c,env.cells.lookup p.1=some c)->
  (forIn names acc λx r=>(match x with|(name,kind)=>if(kind==gC_)=true then(do let a <-cellOf env name;pure v3_)else pure jq!:Sem v4!))=(pure (closOf env.cells names acc):Sem (List eT_))
 |[],acc,_=>rfl
 |(n,k)::r,acc,h=>by
  rw[PD];cases hk:(k==gC_)with
  |true=>
   obtain⟨c,hc⟩:=h eU_ KD v5!;have bz:env.cells.lookup n=some c:=hc;have e:cellOf env n=pure c:=by unfold cellOf;rw[bz]
   have ih:=qR r v6! λp hp=>h p jq_;have e2:closOf env.cells (eU_::r) acc=closOf env.cells r v6!:=by
    show v6_;rw[a6!,bz];rfl
   rw[e2,<-ih];simp only[hk,MU,e];rfl
  |false=>
   have ih:=qR r acc λp hp=>h p jq_;have e2:closOf env.cells (eU_::r) acc=closOf env.cells r acc:=by
    show v6_;rw[KN (by rw[hk];exact LH)]
   rw[e2,<-ih];simp only[hk];rfl
def nK(cells:b0!):∀(names:eU!) (acc:b0!),(∀p∈names,p.2=.free->∃c,cells.lookup p.1=some c)->(∀p∈acc,cells.lookup p.1=some p.2)->∀p∈closOf cells names acc,cells.lookup p.1=some p.2
 |[],_,_,h=>h
 |(n,k)::r,acc,hn,h=>by
  unfold closOf;split
  .rename_i hk;obtain⟨c,hc⟩:=hn eU_ KD v5!;refine nK cells r _ v7_ λp hp=>?_;obtain rfl|hp:=KG.mp hp
   .have bz:cells.lookup n=some c:=hc;rw[bz];rfl
   .exact h p hp
  .exact nK cells r _ v7_ h
def nM(cells:b0!):∀(names:eU!) (acc:b0!) (x:Str),(∃c,(x,c)∈acc)->∃c,(x,c)∈closOf cells names acc
 |[],_,_,h=>h
 |(n,k)::r,acc,x,h=>by
  unfold closOf;split
  .exact nM cells r _ x (let⟨c,hc⟩:=h;⟨c,KA _ hc⟩)
  .exact nM cells r _ x h
def nL(cells:b0!):∀(names:eU!) (acc:b0!) (x:Str),(x,gC_)∈names->∃c,(x,c)∈closOf cells names acc
 |[],_,_,h=>nomatch h
 |(n,k)::r,acc,x,h=>by
  unfold closOf;obtain h|h:=KG.mp h
  .cases h;rw[jr!];exact nM cells r _ _ ⟨_,KD⟩
  .split
   .exact v8_
   .exact v8_
def mQ:∀{l:List (Str×β)} {x:Str} {c:β},(x,c)∈l->∃d,l.lookup x=some d
 |[],_,_,h=>nomatch h
 |(n,k)::r,x,c,h=>by
  cases hx:(x==n)with
  |true=>exact⟨k,by simp[MZ,hx]⟩
  |false=>
   obtain h|h:=KG.mp h
   .cases h;simp at hx
   .obtain⟨d,hd⟩:=mQ h;exact⟨d,by simp[MZ,hx,hd]⟩
def b0g(h:∀p∈b0_,p.2=.free->∃c,X.env.cells.lookup p.1=some c):∃cl,AL X scope cl:=by
 refine⟨closOf X.env.cells scope.names [],?_,lR!,λx e=>?_⟩
 .have e:=qR (env:=X.env) scope.names [] h;simp only[closureFor];rw[show(forIn scope.names ([]:List eT_) λx r=>(match x with|(name,kind)=>if(kind==NameKind.free)=true then(do let a <-cellOf X.env name;pure v3_)else pure jq!:Sem v4!))=pure (closOf X.env.cells scope.names [])from e];rfl
 .exact nK X.env.cells scope.names [] h rG! (x,c) (OY e)
 .obtain⟨c,hc⟩:=nL X.env.cells scope.names [] x (OY e);exact mQ hc
def Mx(X:Cx)(scope:Scope)(cl:b0!)(C:u0!)(N:G_)(aj:zz!)(bd:Hp)(fp:a1_):Cx:=
 {X with N:=N,s₀:=aj,H₀:=bd,env:=compEnvC scope cl C X.env,outer:=X.stack,stack:=X.stack,ex:=fp,fn:=λ_=>false,pn:=[],xe:=λ_ _=>False}
def lL{env:Env}:∀{names:eU!} {x:Str},(∀y∈names,y.2≠.cell)->
  ((jr_).lookup x=some .cell\/
     (jr_).lookup x=some .free)->names.lookup x=some .free
 |[],_,_,h=>by simp at h
 |(n,k)::r,x,hc,h=>by
  have ih:=@lL env r x λy hy=>hc y dN!;have hk:k≠.cell:=hc eU_ KD;rw[KL]at h;by_cases hf:n7!=true
  .simp only[hf,MU]at h;cases hx:x==n with
   |true=>
    simp only[MZ,hx];simp only[LN,QS]at hf;rw[hf.1.1]
   |false=>
    simp only[MZ,hx]at h ⊢;exact ih h
  .simp only[hf]at h;cases hx:x==n with
   |true=>
    simp only[LM,MJ,MZ,hx]at h ⊢;obtain h|h:=h
    .cases h;exact absurd rfl hk
    .exact h
   |false=>
    show"#+";exact ih h
def lM{env:Env}:∀{names:eU!} {x:Str},names.lookup x=some .free->
  ((jr_).lookup x=some .cell\/
     (jr_).lookup x=some .free)
 |[],_,h=>by simp at h
 |(n,k)::r,x,h=>by
  have ih:=@lM env r x;rw[KL];by_cases hf:n7!=true
  .simp only[hf,MU];cases hx:x==n with
   |true=>exact .inl (by simp[MZ,hx])
   |false=>
    simp only[MZ,hx]at h ⊢;exact ih h
  .simp only[hf];cases hx:x==n with
   |true=>
    show"#+";exact .inr h
   |false=>
    show"#+";exact ih h
structure Cq(X:Cx)(scope:Scope)(NF:G_)(ix:o!):Prop where
 len:NF.length=ix.length
 at_:∀(k:Nat) (x:Str),NF[k]?=some x->∃j,ix[k]?=some j/\X.N[j]?=some x/\scope.names.lookup x=some .free/\rx!
def Cq.nil:Cq X scope [] []:=⟨rfl,λk x e=>by simp at e⟩
def Cq.cons(h:c3_)(Y:wb_:=by rfl)(h2:scope.names.lookup x=some .free:=by rfl)
  (h3:X.env.kindOf x=some .cell\/X.env.kindOf x=some .free:=by first|exact Or.inl rfl|exact Or.inr rfl):Cq X scope (x::NF) (j::ix):=
 ⟨by simp[h.len],λk y e=>by
  cases k with
  |zero=>simp at e;subst e;exact⟨j,rfl,Y,h2,h3⟩
  |succ k=>simpa using h.at_ k y cN!⟩
def Ov(nl:Nat)(ix:o!)(Z:St):St:=List.replicate nl none++ix.map λj=>(Z[j]?).join
def c8m
  (cj:c4!)(ce:c4_)(b6:n7_)(I2:n8!)(f2:n8_)(flt:wc_)(hC:J!<=C):
  (Mx X scope cl C N s2 H2 fp).Ok where
 mod:=I2.ok.mod
 kind:=cj
 glob:=I2.ok.glob
 blt:=I2.ok.blt
 above:=hC
 inj:=λx y c Y h2=>I2.ok.inj x y c (b6.sub x c Y) (b6.sub y c h2)
 has:=λx h=>b6.all x (lL ce h)
 cab:=λ_ _ h=>nomatch h
 hd:=I2.ok.hd
 frames:=I2.ok.frames
 stk:=.inl rfl
 exf:=λb J=>⟨LU (LJ js! hC),λx c h=>(dw!).2.2.2.2.1 x c gE_⟩
 bs:=I2.bs
 bsz:=LV I2.ok.bsz I2.sz
 noex:=λb o e J=>by
  obtain z|z:=(dw!).2.2.2.1
  .exact I2.ok.noex b o e z
  .exact absurd (LJ cO_ (LV I2.ok.bsz z)) dp_
 exfs:=λb J hf=>by
  obtain⟨_,f1,f3,_⟩:=f2 b J;obtain z|z:=KG.mp (I2.stkSub b hf)
  .exact f1 z
  .exact f3 z
 funs:=I2.stack
 frf:=I2.stkFree
def b7w{D:u0!}
  (cj:c4!)(ce:c4_)(b6:n7_)(cap:c3_)(I2:n8!)(f2:n8_)(flt:wc_)
  (hC:J!<=C)(hD:J!<=D)(jk:D≠C)(old:∀b u,s2.heap.get? b=some u->h₁.get? b=some u)(hn:h₁.Ns C m)(v5:h₁.get? D=some oD)(v6:∀v,oD.data≠.cell v):
  Inv (Mx X scope cl C gF_ s2 H2 fp) (b1!++[(D,oD)]) n9_ H2 {s2 with heap:=h₁,toks:=t}:=by
 refine⟨c8m cj ce b6 I2 f2 flt hC,rfl,I2.bare,Un.kept old,⟨m,hn,rF_⟩,λx c h=>?_,I2.hok.fresh hC,λx c h=>I2.freeC x c gE_,cP!,I2.hok.kept old,?_⟩
 .have z7:gF_[i]?=some x:=e1;unfold Ov at e2;by_cases hi:i<NL.length
  .rw[iR!,OO]at e2;rw[KM hi]at e2;cases e2
  .rw[eI_,LZ,PP]at e2;rw[eI_]at z7;obtain⟨j,hj,hN,hf,hk⟩:=cap.at_ _ _ z7;rw[hj]at e2;have ux:(Z[j]?).join=some v:=MN e2;have e4:Z[j]?=some a2!:=by
    cases q:Z[j]? with
    |none=>rw[q]at ux;cases ux
    |some o=>rw[q]at ux;exact congrArg some ux
   obtain⟨m2,_,hl⟩:=I2.loc;have hv:Xe X.env.scope x:=hk.elim (λz=>.inr oa!) λz=>.inr gG_;obtain⟨u,r,l⟩:=hl j x v hN e4 hv;refine⟨u,r,.inr ?_⟩;obtain⟨k,_⟩|⟨_,c,hc,z⟩:=l
   .obtain z|z:=hk
    .rw[z]at k;cases k
    .rw[z]at k;cases k
   .obtain⟨c',bz⟩:=b6.all x hf;have e5:=b6.sub x c' bz;rw[hc]at e5;cases e5;obtain⟨o,ho,hd⟩:=z;exact⟨lM hf,c,bz,⟨o,old _ _ ho,hd⟩⟩
 .obtain⟨v,o,ho,hd⟩:=I2.cell x c gE_;exact⟨v,o,old _ _ ho,hd⟩
 .have z8:∀b,b≠X.env.locals->b∉X.fs->b∉frs X.stack:=λb Y h2 h3=>(KG.mp (I2.stkSub b h3)).elim Y h2;have bu:p∈b1!++[(D,oD)]:=by simpa[Mx]using hp
  obtain bu|bu:=KR.mp bu
  .obtain⟨e,n,ne,nf,d⟩:=I2.pin p bu;exact⟨old _ _ e,n,LU (LJ cO_ hC),z8 _ ne nf,d⟩
  .have e:p=(D,oD):=by simpa using bu
   subst e;exact⟨v5,I2.hok.fresh hD,jk,z8 _ (PN (LJ I2.lt hD)) (I2.nofs hD),v6⟩
 .show(n9_).length=(gF_).length;unfold Ov;rw[LK,LK,KQ,PP,cap.len]
def a1a(I:Nat->Shared->Prop)
  (hE:∀e s',E e s'->notedBy l! A env (λe s'=>R (.error e) s') e s')
  (turn:∀n s,I n s->wpAny l! A (pyNext it) (λr ai=>match r with
   |none=>R (.ok .next) ai
   |some v=>wpAny l! A (letOwnedTupleGo ul it v) (λ_ z9=>wpAny l! A (assign ul env v) (λ_ aj=>
     wpAny l! A (forIn c9 true λc r=>if r=true then do let ok <-isTrue c env (eval c env);pure wj! else pure jq!) (λok c7=>
      if ok=true then wpAny l! A (eval dw env) (λx uy=>
       wpAny l! A (call (.builtin "list.append") [acc,x]) (λ_ F'=>∃m,m<n/\I m F') E uy) E c7
      else∃m,m<n/\I m c7) E aj) E z9) E ai) E s)
  (n:Nat) (h:I n s):codeAny l! A (.compLoop (.ListComp dw [⟨ul,iter,c9,0⟩] scope pos) 0 it acc env) R s:=by
 refine codeAny_loop rfl I (λn s hI=>?_) n h;refine wpAny_noted ?_;rw[compTurn_list];refine JY (TR (JY (NQ (turn n s hI) (λr ai h₁=>?_) hE)));cases r with
 |none=>exact KB h₁
 |some v=>
  refine JY (NQ h₁ (λ_ z9 YW=>?_) hE);refine JY (NQ YW (λ_ aj ip=>JY (NQ ip (λok c7 g8=>?_) hE)) hE);cases ok with
  |false=>exact KB ⟨rfl,g8⟩
  |true=>
   exact JY (JY (NQ g8 (λx uy jl=>JY (NQ jl (λ_ F' jw=>KB (KB ⟨rfl,jw⟩)) hE)) hE))
def Pi(X:Cx)(c9:cR!)(t:TT):Prop:=
 ∀(hb:s_) (s:zz!) (Z:St) (H:Hp) (Q:ds!),Inv X hb Z H s->t Z H Q->
  wpAny d_ X.A (forIn c9 true λc r=>if r=true then do let ok <-isTrue c X.env (eval c X.env);pure wj! else pure jq!) h4! X.xe s
def DH:TT:=λ_ H Q=>Q true H
def a2e:Pi X [] DH:=λhb s Z H Q I h=>wpAny_tests_nil ⟨H,I,h⟩
def a2d(h:PT X c t):Pi X [c] t:=λhb s Z H Q I hw=>wpAny_tests_one sl_
def Wm(af:It)(g:TG)(tt:TT)(te:TE)(Fin:cQ_)(Z:St)(H:Hp):Prop:=∃W:Nat->Nat->List V->St->Hp->Prop,(∃m,W 0 m [] Z H)/\∀i m ys Z H,W i m ys Z H->N_<=sizeLine/\
 ((af.stop i H/\Fin ys H)\/(af.go i H/\∀x H',af.yld i H x H'->g x Z H' λc8 H2=>tt c8 H2 λb H3=>if b=true then te c8 H3 λy H4=>∃m',m'<m/\W Z_ m' (ys++[y]) c8 H4 else∃m',m'<m/\W Z_ m' ys c8 H3))
abbrev Uc(us:k_)(n:Nat):Obj:={cls:=.type "list",data:=.seq us.toArray n}
def xV
  {Fin:cQ_}{RR:Value->Addr->Result->Shared->Prop}
  (cj:c4!)(ce:c4_)(b6:n7_)(cap:c3_)(calm:ao_)
  (hg:∀C aj bd fp,PG b2! tg g)(hi:∀C aj bd fp,Pi b2! c9 tt)(he:∀C aj bd fp,PE b2! dw te)
  (I2:n8!)(T:Su X.prog X.w X.K tg af fp it tn)(bg:tn 0 s2.heap)(f2:n8_)(hw:Wm af g tt te Fin n9_ H2)
  (YX:∀(D C:u0!) (us:k_) (n:Nat) (ys:q!) (H':Hp) (s':zz!),Inv X hb Z H' s'->s'.heap.get? D=some (Uc us n)->Az ys us->N_<=sizeLine->H' D=none->J!<=D->J!<=C->D≠C->H' C=none->
   (∃m,s'.heap.Ns C m)->Fin ys H'->RR (.ref D) C (.ok .next) s'):
  wpAny d_ X.A (newList []) (λacc c7=>wpAny d_ X.A (newFunctionEnv scope X.env.globals cl [] X.env.qual none .none (some X.env)) (λN' uy=>
   codeAny d_ X.A (.compStart gI_ 0 cn! acc {N' with scope:=relabel scope X.env}) (RR acc N'.locals) uy) E c7) E s2:=by
 obtain⟨W,⟨m0,w0⟩,turn⟩:=hw;have flt:∀b∈fp,b<J!:=λb J=>let⟨o,e,_⟩:=T.obj _ _ bg b J;LF e;refine NT (wpAny_newFunctionEnv ce (by intro y hy;simp at hy) (λh₁ wk uz=>?_) cj);dsimp only at wk uz ⊢;generalize wm:s2.heap.push {cls:=.type "list",dict:=none,data:=.seq (ws_).toArray}=G2 at wk uz ⊢;have hC:gJ!=J!+1:=by rw[<-wm,QB]
 have jk:J!≠gJ!:=by rw[hC];exact LU (RT _)
 have P':J!<=gJ!:=by rw[hC];exact OL _
 have U':∀b,b<J!->b≠gJ!:=λb J=>by rw[hC];exact LU (SU J)
 have old:∀b o,s2.heap.get? b=some o->h₁.get? b=some o:=λb o e=>uz.extBut b o (U' b cO_) (KC _ (wm▸KC _ e));have YY:h₁.get? J!=some (Uc [] 0):=uz.extBut _ _ jk (KC _ (wm▸LC _ rfl));have pi:tn 0 h₁:=T.keep _ _ _ bg λb _ o e=>old b o e;have I1:=b7w (NL:=NL) (t:=s2.toks+(wv!).length) cj ce b6 cap I2 f2 flt P' r! jk old wk YY ww!;have mi:∀{H':Hp} {oD:Obj},f1!->∀b∈fp,Fu dO_ (b1!++[(J!,oD)]) H' b:=λ{H' oD} hn b J=>by
  obtain⟨_,f1,f3,f4,f5,f6⟩:=f2 b J;refine⟨hn b J,U' b js!,λz=>(KG.mp (I2.stkSub b z)).elim f1 f3,.inl J,λx c h=>f5 x c gE_,cP!⟩;have bu:p∈b1!++[(J!,oD)]:=by simpa[Mx]using hp
  obtain bu|bu:=KR.mp bu
  .exact f6 p bu
  .have e:p=(J!,oD):=by simpa using bu
   subst e;exact PN js!
 have VF:∀c7:Shared,c7={s2 with heap:=h₁,toks:=s2.toks+(wv!).length}->
   codeAny d_ X.A (.compLoop gI_ 0 cn! (.ref J!) (compEnvC scope cl G2.objs.size X.env)) (RR (.ref J!) gJ!) c7:=by
  rintro c7 rfl;refine a1a (E:=wy_) (λk s'=>∃i ys us n ac H',Inv dO_ wz_ ac H' s'/\tn i s'.heap/\f1!/\Az ys us/\W i k ys ac H')
   (λ_ _ z=>z.elim) ?_ m0 ⟨0,[],[],0,_,H2,I1,pi,s6!,.nil,w0⟩
  rintro k s' ⟨i,ys,us,n,ac,H',I',σ,VG,rv,w'⟩;obtain⟨ao,wp⟩:=turn i k ys ac H' w';obtain⟨stop,fin⟩|⟨go,step⟩:=wp
  .refine dF (T.done dO_ rfl rfl rfl calm i _ s' ac H' _ I' (mi VG) σ stop) λr s4 ⟨hr,I4⟩=>?_;subst hr;have VH:=I4.pin oe_ (by simp[Mx]);have IX:Inv X hb Z H' s4:=I2.call' (ch:=fp) I4.os I4.base I4.hok I4.bare λb J=>by
    obtain⟨_,f1,f3,f4,f5,f6⟩:=f2 b J;exact⟨f4,f1,f5,f6⟩
   obtain⟨mC,YZ,_⟩:=I4.loc;exact YX _ _ us n ys H' s4 IX VH.1 rv ao VH.2.1 r! P' jk I4.free ⟨mC,YZ⟩ fin
  .refine dF (T.item dO_ rfl rfl rfl calm i _ s' ac H' _ I' (mi VG) σ go) λr s4 ⟨u,hr,h4⟩=>?_;subst hr;refine dF h4 ?_;rintro _ s5 ⟨x,H5,I5,r5,y5,mj,v0⟩;have v3:=I5.pinned (mi v0) s7_;refine dF (hg _ _ _ _ _ s5 ac H5 x u _ v3 r5 s8!) ?_;rintro _ s6 ⟨ky,H6,I6,q6⟩;refine dF (hi _ _ _ _ _ s6 ky H6 _ I6 q6) λok s7 ⟨H7,I7,q7⟩=>?_;have VI:∀{VJ:St} {H8:Hp} {s8:zz!},Inv dO_ (wz_++Qh fp s5.heap) VJ H8 s8->tn Z_ s8.heap/\∀b∈fp,H8 b=none:=λ{VJ H8 s8} I8=>by
    refine⟨T.keep _ _ _ mj λb J o e=>(wB!).1,cn_⟩;obtain⟨o,e,d⟩:=T.obj _ _ mj b J;exact(wB!).2.1
   cases ok with
   |false=>
    simp only[LM,MJ]at q7 ⊢;obtain⟨m',hm,w7⟩:=q7;obtain⟨t7,n7⟩:=VI I7;exact⟨m',hm,i+1,ys,us,n,ky,H7,is!,t7,n7,rv,w7⟩
   |true=>
    simp only[MU]at q7 ⊢;refine dF (he _ _ _ _ _ s7 ky H7 _ I7 q7) ?_;rintro yv s8 ⟨y,H8,I8,r8,m',hm,w8⟩;obtain⟨t8,n8⟩:=VI I8;have pD:=I8.pin oe_ (KJ _ (LD _ c!));have Y0:ad_=N_:=rv.length.symm;refine wpAny_list_append_plain (items:=cx!) (hsz:=by simpa[Y0]using ao) ⟨n,pD.1⟩ λh9 Y1 VL=>?_;obtain⟨n9,e9⟩:=Y1;have Y2:Inv dO_ b1! ky H8 s8:=I8.pins_of λp hp=>I8.pin p (KJ _ (LD _ ir!));have I9:Inv dO_ b1! ky H8 {s8 with heap:=h9,toks:=s8.toks}:=by
     refine Y2.turned (it:=J!) (λb o J e=>(VL.2 b J).trans e) pD.2.1 jk (.inr r!) (λx c h=>?_) λp hp=>?_
     .obtain⟨v,o,ho,_⟩:=I2.cell x c gE_;exact LU hR!
     .have bu:p∈X.pn++hb:=by simpa[Mx]using hp
      exact LU (LF (I2.pin p bu).1)
    have Y3:h9.get? J!=some (Uc (us++[yv]) n9):=by
     rw[e9,List.push_toArray]
    refine⟨m',hm,i+1,ys++[y],us++[yv],n9,ky,H8,I9.pins_of λp hp=>?_,T.keep _ _ _ t8 λb J o e=>(VL.2 b (LU js!)).trans e,n8,rv.append (.cons r8 .nil),w8⟩;obtain hp|hp:=KR.mp hp
    .exact I9.pin p (KJ _ hp)
    .have e:p=(J!,Uc (us++[yv]) n9):=by simpa using hp
     subst e;exact⟨Y3,pD.2.1,pD.2.2.1,pD.2.2.2.1,gK!⟩
 exact codeAny_compStart_list (VF _ rfl) (T.self _ 0 _ _ _ pi (VF _ rfl))
def AT(nl:Nat)(ix:o!)(wi:TI)(g:TG)(tt:TT)(te:TE):TE:=λZ H Q=>wi Z H λaf H1=>Wm af g tt te (λys H'=>∀p,H' p=none->Q cp_ (upd H' p aD_)) wG! H1
def a8t{X:Cx}{scope:Scope}{NL:G_}{ix:o!}{wi:TI}{g:TG}{tt:TT}{te:TE}
  (cj:c4!)(ce:c4_)(jx:∀y∈b0_,y.2=.local->scope.names.lookup y.1=some .local)
  (g6:gL!)(cap:c3_)(calm:ao_)(am:mG_)
  (hg:gL_)(hi:wH!)(he:wI!)
  (hs:cT_:=by intro _;rfl):
  PE X gI_ wJ!:=by
 show"!?";show"!^"
 rw[eval_ListComp];refine wpAny_comprehension_free (use:=none) rfl hs b6.eq cj jx wI_;obtain⟨it,fp,tn,af,H2,e,I2,T,bg,f2,hw⟩:=h2;subst e;refine xV (RR:=λacc C=>compPost d_ X.A X.xe none aA! acc C) cj ce b6 cap calm (hg cl) (hi cl) (he cl) I2 T bg f2 hw λD C us n ys H' s' I' eD rv ao nD hD hC jk nC ⟨m,hn⟩ fin=>?_;refine⟨m,hn,wK!⟩;have d9:∀b,b<J!->b≠C/\b≠D:=λb J=>wL_;have pj:∀x c,X.env.cells.lookup x=some c->c<J!:=λx c h=>let⟨_,_,ho,_⟩:=I2.cell x c h;LF ho;have rn:∀p∈X.pn++hb,p.1<J!:=λp hp=>LF (wM_).1;have IC:Inv X hb Z H' {s' with heap:=h',toks:=s'.toks}:=I'.turned (it:=C) wN! nC (LQ (gM!).1) wO! wP! λp hp=>(jx_).1;have ID:=IC.track (D:=D) (us:=us) (n:=n) ((cm.2 D jk).trans eD) rv ao nD wP_ (LQ (gM!).2) wQ! λp hp=>(jx_).2;exact⟨.ref D,_,ID,rfl,fin D nD⟩
end L2
namespace DL
open PySem PySem.Spec PyProof.Rows L2
abbrev St:=L2.St
inductive D where
 |non|bl (b:Bool)|int (i:Int)|str (x:Str)|tup (xs:e!)|lst (xs:e!)|fn (a:u0!)|dk (h1:List om!)
mutual
noncomputable def Aq(KF:zA!)(H:Hp):D->V->Prop
 |.non,v=>v=V.non
 |.bl b,v=>v=V.bl b
 |.int i,v=>v=V.int i
 |.str x,v=>v=V.str x
 |.tup xs,v=>∃a vs,v=V.ref a/\Fz KF H a vs/\Am KF H xs vs
 |.lst xs,v=>∃a vs,v=V.ref a/\Fm KF H a vs/\Am KF H xs vs
 |.fn a,v=>v=V.ref a
 |.dk h1,v=>∃a,v=V.ref a/\Rd H a dx_
noncomputable def Am(KF:zA!)(H:Hp):List D->List V->Prop
 |[],vs=>vs=[]
 |d::ds,vs=>∃v r,vs=v::r/\Aq KF H d v/\Am KF H ds r
end
mutual
noncomputable def Ee:D->Bool
 |.lst _=>false
 |.dk _=>false
 |.tup xs=>Fh xs
 |_=>true
noncomputable def Fh:List D->Bool
 |[]=>true
 |d::ds=>Ee d&&Fh ds
end
mutual
noncomputable def Gx:D->Nat
 |.lst xs=>Di xs+1
 |.tup xs=>Di xs+1
 |_=>0
noncomputable def Di:List D->Nat
 |[]=>0
 |d::ds=>max (Gx d) (Di ds)
end
section
mutual
theorem Aq.map(ht:jy_)(hl:wS_)(hd:wS!):∀(d:D) (v:V),Aq KF H d v->Aq KF H' d v
 |.non,_,h=>h
 |.bl _,_,h=>h
 |.int _,_,h=>h
 |.str _,_,h=>h
 |.tup xs,_,h=>by
  show"!S";exact⟨a,vs,e,ht a vs q,wT_⟩
 |.lst xs,_,h=>by
  show"!S";exact⟨a,vs,e,hl a vs q,wT_⟩
 |.fn _,_,h=>h
 |.dk h1,_,h=>by
  unfold Aq at h ⊢;obtain⟨a,e,q⟩:=h;exact⟨a,e,hd a h1 q⟩
theorem Am.map(ht:jy_)(hl:wS_)(hd:wS!):∀(ds:e!) (vs:q!),Am KF H ds vs->Am KF H' ds vs
 |[],_,h=>h
 |d::ds,_,h=>by
  unfold Am at h ⊢;obtain⟨v,r,e,q,t⟩:=h;exact⟨v,r,e,Aq.map ht hl hd d v q,Am.map ht hl hd ds r t⟩
end
mutual
theorem Aq.mapT(ht:jy_):∀(d:D) (v:V),Ee d=true->Aq KF H d v->Aq KF H' d v
 |.non,_,_,h=>h
 |.bl _,_,_,h=>h
 |.int _,_,_,h=>h
 |.str _,_,_,h=>h
 |.tup xs,_,n,h=>by
  unfold Ee at n;show"!S";exact⟨a,vs,e,ht a vs q,Am.mapT ht xs vs n r⟩
 |.lst xs,_,n,_=>by
  unfold Ee at n;cases n
 |.fn _,_,_,h=>h
 |.dk _,_,n,_=>by
  unfold Ee at n;cases n
theorem Am.mapT(ht:jy_):∀(ds:e!) (vs:q!),Fh ds=true->Am KF H ds vs->Am KF H' ds vs
 |[],_,_,h=>h
 |d::ds,_,n,h=>by
  unfold Fh at n;rw[LN]at n;unfold Am at h ⊢;obtain⟨v,r,e,q,t⟩:=h;exact⟨v,r,e,Aq.mapT ht d v n.1 q,Am.mapT ht ds r n.2 t⟩
end
def cC(e:eT!)(h:Fz KF H a xs):Fz KF H' a xs:=by
 rcases h with(h|⟨o,h⟩)|h
 .exact vW_
 .exact vY_
 .exact .inr h
def a8e(e:eT!)(h:Rd H a o):Rd H' a o:=by
 obtain h|⟨u,h⟩:=h
 .exact .inl (e _ _ h)
 .exact .inr ⟨u,e _ _ h⟩
def Aq.mono(e:eT!)(h:gN!):Aq KF H' d v:=Aq.map wV! DR_ wV_ d v h
def Am.mono(e:eT!)(h:cx_):Am KF H' ds vs:=Am.map wV! DR_ wV_ ds vs h
def Aq.non:Aq KF H .non V.non:=by unfold Aq;rfl
def Aq.bl:Aq KF H bk! (V.bl b):=by unfold Aq;rfl
def Aq.int:Aq KF H bR! (V.int i):=by unfold Aq;rfl
def Aq.str:Aq KF H bx_ (V.str x):=by unfold Aq;rfl
def Aq.fn:Aq KF H b3! gN_:=by unfold Aq;rfl
def Aq.tup(h:Fz KF H a vs)(r:cx_):Aq KF H c5_ gN_:=by unfold Aq;exact wW_
def Aq.lst(h:Fm KF H a vs)(r:cx_):Aq KF H b3_ gN_:=by unfold Aq;exact wW_
def Am.nil:Am KF H [] []:=by unfold Am;rfl
def Am.cons(h:gN!)(t:cx_):Am KF H dP! (v::vs):=by unfold Am;exact⟨v,vs,rfl,h,t⟩
def aJ:∀{ds:e!} {vs:q!},Am KF H ds vs->g!=a5!
 |[],vs,h=>by unfold Am at h;subst h;rfl
 |d::ds,vs,h=>by
  unfold Am at h;obtain⟨v,r,e,_,t⟩:=h;rw[e,KO,KO,aJ t]
def gM:∀{ds:e!} {vs:q!} {i:Nat} {d:D},Am KF H ds vs->ds[i]?=some d->∃v,vs[i]?=some v/\Aq KF H d v
 |[],_,_,_,_,e=>by simp at e
 |c::ds,vs,i,d,h,e=>by
  unfold Am at h;obtain⟨v,r,e1,q,t⟩:=h;subst e1;cases i with
  |zero=>simp at e;subst e;exact⟨v,rfl,q⟩
  |succ i=>
   obtain⟨u,Y,h2⟩:=gM (i:=i) (d:=d) t cN!;exact rg_
def dA:∀{ds es:e!} {vs ws:q!},Am KF H ds vs->Am KF H es ws->Am KF H (ds++es) np_
 |[],_,_,_,h,k=>by unfold Am at h;subst h;exact k
 |c::ds,_,vs,_,h,k=>by
  show"!M";exact Am.cons q (dA t k)
def pR:∀{ds:e!} {vs:q!} (n:Nat),Am KF H ds vs->Am KF H (ds.take n) (vs.take n)
 |_,_,0,_=>Am.nil
 |[],_,n+1,h=>by unfold Am at h;subst h;exact Am.nil
 |c::ds,vs,n+1,h=>by
  show"!M";exact Am.cons q (pR n t)
def pS:∀{ds:e!} {vs:q!} (n:Nat),Am KF H ds vs->Am KF H op_ (vs.drop n)
 |_,_,0,h=>h
 |[],_,n+1,h=>by unfold Am at h;subst h;exact Am.nil
 |c::ds,vs,n+1,h=>by
  show"!M";exact pS n t
def tE(hd:gN!):∀{ds:e!} {vs:q!} (n:Nat),Am KF H ds vs->Am KF H (ds.set n d) (vs.set n v)
 |[],_,_,h=>by unfold Am at h;subst h;exact Am.nil
 |c::ds,vs,n,h=>by
  unfold Am at h;obtain⟨u,r,e1,q,t⟩:=h;subst e1;cases n with
  |zero=>exact Am.cons hd t
  |succ n=>exact Am.cons q (tE hd n t)
def cM(h:Am KF H [] vs):vs=[]:=by unfold Am at h;exact h
def bM(h:Am KF H dP! vs):∃v r,vs=v::r/\Aq KF H d v/\Am KF H ds r:=by unfold Am at h;exact h
def bR(h:Aq KF H c5_ v):∃a vs,v=V.ref a/\Fz KF H a vs/\Am KF H ds vs:=by unfold Aq at h;exact h
def bP(h:Aq KF H b3_ v):∃a vs,v=V.ref a/\Fm KF H a vs/\Am KF H ds vs:=by unfold Aq at h;exact h
def aZ(h:Aq KF H bR! v):v=V.int i:=by unfold Aq at h;exact h
def cW(h:Aq KF H (.bl i) v):v=V.bl i:=by unfold Aq at h;exact h
def cD(h:Aq KF H jA! v):v=V.str i:=by unfold Aq at h;exact h
def dW(h:Aq KF H .non v):v=V.non:=by unfold Aq at h;exact h
def fQ(h:Aq KF H b3! v):v=V.ref a:=by unfold Aq at h;exact h
def c5t(h:Aq KF H (.dk h1) v):∃a,v=V.ref a/\Rd H a dx_:=by unfold Aq at h;exact h
def iG(h:cy!):Bc H eY_:=λb u e=>by rw[aY (cK e h)];exact e
def fO(h:cy!)(r:cx_):Aq KF (upd H p (.tup vs)) c5_ or!:=Aq.tup (Fz.of bY) wY!
def cZ(h:cy!)(r:cx_):Aq KF jA_ b3_ or!:=Aq.lst (Fm.of bY) wY!
end
structure Ch(G H G' H':Hp):Prop where
 g:Bc G G'
 h:Bc H H'
 sub:Bc G' H'
 new:∀b,G' b≠none->G b≠none\/H b=none
def Ch.refl{G H:Hp}(s:E!):Ch G H G H:=⟨eZ_,Bc.refl H,s,jB!⟩
def Ch.trans(a:Ch G H G1 H1)(b:Ch G1 H1 G2 H2):Ch G H G2 H2:=
 ⟨a.g.trans b.g,a.h.trans b.h,b.sub,λc h=>(b.new c h).elim (λz=>a.new c z) λz=>.inr (a.h.free z)⟩
def Ch.laid(s:E!)(hp:cy!):Ch G H (upd G p o) eY_:=by
 refine⟨iG (s.free hp),iG hp,jB_,bd!⟩
 .by_cases J:b=p
  .subst J;rw[bY]at e ⊢;exact e
  .rw[aY J]at e ⊢;exact s b u e
 .by_cases J:b=p
  .subst J;exact .inr hp
  .rw[aY J]at h;exact .inl h
abbrev Ag:=List (Option D)
structure OR(KF:zA!)(own:o!)(G H:Hp)(Z:St)(ρ:Ag):Prop where
 sub:Bc G H
 len:gO!=ep!
 at_:∀(i:Nat) (d:D),ρ[i]?=some cz!->i∉own->∃v,Z[i]?=some a2!/\Aq KF G d v
 own_:∀i∈own,∃p ds vs,ρ[i]?=some os!/\Z[i]?=some cz_/\H p=some cy_/\G p=none/\Am KF G ds vs
 dis:∀i∈own,∀j∈own,i≠j->∀p q,Z[i]?=some cz_->Z[j]?=some (some (V.ref q))->p≠q
def OR.grow(h:b4!)(x:jC!):OR KF own G' H' Z ρ where
 sub:=x.sub
 len:=h.len
 at_:=λi d q n=>let⟨v,Y,h2⟩:=h.at_ i d q n;w2!
 own_:=λi hi=>by
  obtain⟨p,ds,vs,Y,h2,h3,h4,h5⟩:=h.own_ i hi;refine⟨p,ds,vs,Y,h2,x.h _ _ h3,?_,h5.mono x.g⟩;cases q:G' p with
  |none=>rfl
  |some o=>
   rcases x.new p cv! with z|z
   .exact absurd h4 z
   .rw[h3]at z;cases z
 dis:=h.dis
def OR.set(h:b4!)(hi:aN_)(r:cA!):OR KF own G H eq! bG_ where
 sub:=h.sub
 len:=by rw[PB,PB,h.len]
 at_:=λj c q n=>by
  by_cases hj:i=j
  .subst hj;by_cases hi:i<gO!
   .rw[MC hi]at q;cases q;exact⟨v,by rw[MC (by rw[<-h.len];exact hi)],r⟩
   .rw[NB (by rw[PB];omega)]at q;cases q
  .rw[LP hj]at q;rw[LP hj];exact h.at_ j c q n
 own_:=λj hj=>by
  have ne:i≠j:=λe=>hi (e▸hj);rw[LP ne,LP ne];exact h.own_ j hj
 dis:=λj hj k hk hne p q e1 e2=>by
  have ne:i≠j:=λe=>hi (e▸hj);have wu:i≠k:=λe=>hi (e▸hk);rw[LP ne]at e1;rw[LP wu]at e2;exact h.dis j hj k hk hne p q e1 e2
def Ji(own:o!)(Z:St):List Addr:=own.filterMap λi=>match Z[i]? with|some (some (V.ref p))=>some p|_=>none
def mF(h:p∈Ji own Z):∃i∈own,Z[i]?=some cz_:=by
 obtain⟨i,hi,e⟩:=QJ.mp h;refine⟨i,hi,?_⟩;show"!8"
 .rename_i q he;cases e;exact he
 .cases e
def a1t(hi:dQ!)(h:w4!):p∈Ji own Z:=QJ.mpr ⟨i,hi,by rw[h]⟩
def Km(own:o!)(Z:St)(G H:Hp):Hp:=λb=>if b∈Ji own Z then H b else G b
def OR.full(h:b4!):OR KF [] e0_ H Z ρ:=by
 have s1:Bc G e0_:=λb o e=>by
  unfold Km;split
  .exact h.sub b o e
  .exact e
 have s2:Bc e0_ H:=λb o e=>by
  unfold Km at e;show"!8"
  .exact e
  .exact h.sub b o e
 refine⟨s2,h.len,ot!,ar!,ar!⟩;by_cases hi:i∈own
 .obtain⟨p,ds,vs,Y,h2,h3,h4,h5⟩:=h.own_ i hi;rw[Y]at q;cases q;refine⟨_,h2,Aq.lst (Fm.of (xs:=vs) ?_) (h5.mono s1)⟩;unfold Km;rw[KM (a1t hi h2)];exact h3
 .obtain⟨v,Y,h2⟩:=h.at_ i d q hi;exact⟨v,Y,h2.mono s1⟩
def Le(ρ ρ':Ag):Prop:=gO!=ρ'.length/\∀(i:Nat) (d:D),ρ[i]?=some cz!->ρ'[i]?=some cz!
def OR.le(h:OR KF [] G H Z ρ')(l:Le ρ ρ'):OR KF [] G H Z ρ:=⟨h.sub,l.1.trans h.len,λi d q n=>h.at_ i d (l.2 i d q) n,ar!,ar!⟩
def Le.set(h:Le ρ ρ')(hi:ρ[i]?=some none):Le ρ (ρ'.set i cz!):=by
 refine⟨by rw[PB];exact h.1,λj c q=>?_⟩;have:i≠j:=λe=>by subst e;rw[hi]at q;cases q
 rw[LP this];exact h.2 j c q
def Le.refl(ρ:Ag):Le ρ ρ:=⟨rfl,λ_ _ h=>h⟩
def AG(nl:Nat)(ix:o!)(ρ:Ag):Ag:=List.replicate nl none++ix.map λj=>(ρ[j]?).join
def OR.cap(h:b4!)(nl:Nat)(ix:o!)(hx:jD!):OR KF [] G H wG! ot_:=by
 unfold Ov AG;refine⟨h.sub,Q_,ot!,ar!,ar!⟩;by_cases hi:i<nl
 .rw[iR!,OO,KM hi]at q;cases q
 .rw[eI_,LZ,PP]at q;rw[eI_,LZ,PP];cases e:ix[i - nl]? with
  |none=>rw[e]at q;cases q
  |some j=>
   rw[e]at q;have q':(ρ[j]?).join=some d:=MN q;have q2:ρ[j]?=some cz!:=by
    cases z:ρ[j]? with
    |none=>rw[z]at q';cases q'
    |some o=>rw[z]at q';exact congrArg some q'
   obtain⟨v,Y,h2⟩:=h.at_ j d q2 (hx j (QY e));exact⟨v,by simp[Y],h2⟩
inductive tD(KF:zA!)(own:o!)(f:o_)(Z:St)(H:Hp)(Q:VK):Prop
 |mk (G:Hp) (ρ:Ag) (d:D) (o:b4!) (e:cA_) (k:∀v G' H',Ch G H G' H'->Aq KF G' d v->Q v H'):tD KF own f Z H Q
inductive IE(KF:zA!)(own:o!)(f:bd_)(Z:St)(H:Hp)(Q:cQ_):Prop
 |mk (G:Hp) (ρ:Ag) (ds:e!) (o:b4!) (e:f ρ=some ds) (k:∀vs G' H',Ch G H G' H'->Am KF G' ds vs->Q vs H'):IE KF own f Z H Q
inductive BK(KF:zA!)(own:o!)(f:bH!)(Z:St)(H:Hp)(Q:ds!):Prop
 |mk (G:Hp) (ρ:Ag) (b:Bool) (o:b4!) (e:f ρ=some b) (k:∀G' H',Ch G H G' H'->Q b H'):BK KF own f Z H Q
structure DE(X:Cx)(own:o!)(e:Expr)(f:o_):Prop where
 ok:PE X e (tD X.K own f)
structure DA(X:Cx)(own:o!)(es:cR!)(f:bd_):Prop where
 ok:PA X es (IE X.K own f)
structure DT(X:Cx)(own:o!)(e:Expr)(f:bH!):Prop where
 ok:PT X e w9!
structure DW(X:Cx)(own:o!)(e:Expr)(f:bH!):Prop where
 ok:PW X e w9!
section
variable{X:Cx}
def eO{t:TE}(h:h7_)(hw:∀Z G H Q ρ d,OR X.K own G H Z ρ->f ρ=some d->(∀v G' H',Ch G H G' H'->Aq X.K G' d v->Q v H')->t Z H Q):DE X own e f:=xa!
def b9g(h:ga_)(hw:∀Z G H Q ρ d,OR X.K own G H Z ρ->fs ρ=some d->(∀v G' H',Ch G H G' H'->Am X.K G' d v->Q v H')->t Z H Q):DA X own es fs:=⟨λp hb s Z H Q I ⟨G,ρ,d,er,e,k⟩=>h p hb s Z H Q I ou!⟩
def uZ(h:PT X e t)(hw:xa_):DT X own e ft:=xa!
def c5c(h:l7!)(hw:xa_):DW X own e ft:=⟨λwh hb s Z H Q I ⟨G,ρ,d,er,e,k⟩=>h wh hb s Z H Q I ou!⟩
def Nr(f:o_):Ag->Option D:=λρ=>(ae_).bind λd=>if Ee d then some d else none
def b0d(h:DE X [] e f):DE X own e (Nr f):=eO h.ok λZ G H Q ρ d er e k=>by
 obtain⟨d',e1,e2⟩:=JZ.mp e;split at e2
 .rename_i hn;cases e2;refine⟨Km own Z G H,ρ,d,er.full,e1,λv G' H' x r=>?_⟩;have Y4:∀b,b∈Ji own Z->∃vs,G' b=some cy_:=λb J=>by
   show"!K";refine⟨vs,x.g _ _ ?_⟩;unfold Km;rw[KM J];exact h3
  have hG:∀b,b∈Ji own Z->G b=none:=λb J=>by
   show"!K";exact h4
  refine k v (λb=>if b∈Ji own Z then none else G' b) H' ⟨xc_,x.h,xc_,λb z=>?_⟩ (Aq.mapT (λa vs q=>?_) d v hn r)
  .have J:b∉Ji own Z:=λJ=>by rw[hG b J]at z;cases z
   show ou_=some o;rw[KN J];refine x.g _ _ ?_;unfold Km;rw[KN J];exact z
  .have z':ou_=some o:=z;split at z'
   .cases z'
   .exact x.sub _ _ z'
  .have z':ou_≠none:=z;split at z'
   .exact absurd rfl z'
   .rename_i J;obtain y|y:=x.new b z'
    .unfold Km at y;rw[KN J]at y;exact .inl y
    .exact .inr y
  .have ne:∀u,G' a=some u->(∀ws,u≠.lst ws)->(if a∈Ji own Z then none else G' a)=some u:=λu e1 hu=>by
    rw[KN (λJ=>by obtain⟨ws,e2⟩:=Y4 a J;rw[e1]at e2;exact hu ws (MN e2))];exact e1
   rcases q with(q|⟨o,q⟩)|q
   .exact .inl (.inl (ne _ q λ_ z=>nomatch z))
   .exact .inl (.inr ⟨o,ne _ q λ_ z=>nomatch z⟩)
   .exact .inr q
 .cases e2
def Aa(i:Nat):Ag->Option D:=λρ=>(ρ[i]?).join
nonrec def fC(d:D):Ag->Option D:=λ_=>some d
def join_some{ρ:Ag}{i:Nat}(h:(ρ[i]?).join=some d):ρ[i]?=some cz!:=by
 cases z:ρ[i]? with
 |none=>rw[z]at h;cases h
 |some o=>rw[z]at h;exact congrArg some h
def aA(i:Nat){x:Str}(hi:aN_:=by decide)(hN:Y_:=by rfl)(hv:cl!:=by first|exact Or.inl rfl|exact Or.inr b_|exact Or.inr aV_)(hd:y!:=by decide)
  (bq:cl_:=by decide):DE X own cR_ (Aa i):=
 eO jD_ λZ G H Q ρ d er e k=>let⟨v,Y,h2⟩:=er.at_ i d (join_some e) hi;⟨v,Y,k v G H gO_ h2⟩
def b9f(h:h7_)(ht:∀Z H Q,Q v H->t Z H Q)(r:∀H,Aq X.K H d v):DE X own e (fC d):=
 eO h λZ G H Q ρ d' er e' k=>by
  cases e';exact ht Z H Q (k v G H gO_ (r G))
def aD:DE X own r8! ow!:=b9f c6e gP! λ_=>Aq.int
def aR:DE X own (.Constant jA! j pos) (fC jA!):=b9f yP gP! λ_=>Aq.str
def eW:DE X own (.Constant (.bool i) j pos) (fC (.bl i)):=b9f c9z gP! λ_=>Aq.bl
def dB:DE X own sa! bH_:=b9f c6d gP! λ_=>Aq.non
def c3m(hg:H_)(hm:X.mg x=some do!)(hd:y!:=by decide):DE X own cR_ ow!:=
 b9f (a8s (v:=V.int i) hg hm dL_ hd) gP! λ_=>Aq.int
nonrec def f2(g:gP_)(fa fb:o_):Ag->Option D:=λρ=>(e1!).bind λx=>(jE!).bind λy=>g x y
def Hs(KF:zA!)(r:R2)(g:gP_):Prop:=∀{x y:V} {dx dy d:D} {G H:Hp} {Q:VK},Bc G H->Aq KF G dx x->Aq KF G dy y->g dx dy=some d->jE_->r x y H Q
def two(hg:dR_)(er:OR X.K own G H Z ρ)(e:f2 g fa fb ρ=some d)(k:∀v G' H',Ch G H G' H'->Aq X.K G' d v->Q v H'):
  CV r (tD X.K own fa) (tD X.K own fb) Z H Q:=by
 unfold f2 at e;show"!=";obtain⟨y,e2,e⟩:=JZ.mp e;exact⟨G,ρ,x,er,e1,λu G1 H1 s1 r1=>⟨G1,ρ,y,c6_,e2,λw G2 H2 s2 r2=>hg s2.sub gQ! r2 e λv G' H' s3 r3=>k v G' H' (s1.trans gQ_) r3⟩⟩
def aX(ho:mK!)(hg:dR_)(ha:S!)(J:cB!):DE X own mK_ jF!:=
 eO xi! λZ G H Q ρ d er e k=>two hg er e k
def fN(ho:bS_)(hg:dR_)(ha:S!)(J:cB!)(hm:ds_):DE X own dt! jF!:=
 eO xi_ λZ G H Q ρ d er e k=>two hg er e k
def aN(hr:Xk X r)(hg:dR_)(ha:S!)(J:cB!)(hs:Pm b):DE X own nB! jF!:=
 eO xj! λZ G H Q ρ d er e k=>two hg er e k
nonrec def fT(f:o_):Ag->Option Bool:=λρ=>(ae_).bind λd=>match d with|.bl b=>some b|_=>none
def kD{b:Bool}(h:fT f ρ=some b):f ρ=some bk!:=by unfold fT at h;obtain⟨d,e,h⟩:=JZ.mp h;cases d<;>first|(cases h;exact e)|cases h
def bJ(ho:bS_)(hg:dR_)(ha:S!)(J:cB!)(hm:ds_):DT X own dt! (fT jF!):=
 uZ xj_ λZ G H Q ρ d er e k=>two (own:=own) (Q:=xk_) hg er (kD e) λv G' H' s' r'=>by
  cases cW r';exact xl_
def fF(h:c7!)(he:h8!:=by intro _;rfl):DT X own e (fT f):=
 uZ xm! λZ G H Q ρ d er e k=>⟨G,ρ,.bl d,er,kD e,λv G' H' s' r'=>by
  cases cW r';exact xl_⟩
def Wo:D->Option Bool
 |.lst xs=>some (! dx!)
 |.tup xs=>some (! dx!)
 |.bl b=>some b
 |.int i=>some f4!
 |.non=>some false
 |_=>none
def rC(h:cx_):(!ds.isEmpty)=!vs.isEmpty:=by have:=aJ h;cases ds<;>cases vs<;>simp_all
def a4b(h:c7!)(he:h8!:=by intro _;rfl):DT X own e (λρ=>(ae_).bind Wo):=
 uZ (b4q h.ok he) λZ G H Q ρ b er e k=>by
  obtain⟨d,e1,e2⟩:=JZ.mp e;refine⟨G,ρ,d,er,e1,λv G' H' s' r'=>⟨b,?_,ow_⟩⟩;cases d with
  |non=>cases dW r';cases e2;exact(rfl:false=false)
  |bl x=>cases cW r';cases e2;exact rfl
  |int i=>cases aZ r';cases e2;exact(rfl:f4!=f4!)
  |str x=>cases e2
  |fn a=>cases e2
  |dk a=>cases e2
  |tup xs=>
   obtain⟨a,vs,e3,q,r3⟩:=bR r';subst e3;cases e2;exact .inr (.inl ⟨vs,cC s'.sub q,rC r3⟩)
  |lst xs=>
   obtain⟨a,vs,e3,q,r3⟩:=bP r';subst e3;cases e2;exact .inl ⟨vs,s'.sub.seq q,rC r3⟩
def Cw(ft fu:bH!):Ag->Option Bool:=λρ=>(gR_).bind λb=>if b then fu ρ else some false
def Lw(ft fu:bH!):Ag->Option Bool:=λρ=>(gR_).bind λb=>if b then some true else fu ρ
def Dd(ft:bH!):Ag->Option Bool:=λρ=>(gR_).map (!·)
variable{rest:List Expr}
def pF(h:gS!):DW X own mg! ft:=xp_
def qO(h:gS!):DW X own mg_ ft:=xq_
def uX(ha:gS!)(J:DW X own es_ fu):DW X own et! (Cw ft fu):=
 c5c xr! λZ G H Q ρ d er e k=>by
  obtain⟨x,e1,e⟩:=JZ.mp e;refine ox_;cases x with
  |true=>exact kB xr_
  |false=>cases e;exact kP xs_
def xQ(ha:gS!)(J:DW X own et_ fu):DW X own eu! (Lw ft fu):=
 c5c xt! λZ G H Q ρ d er e k=>by
  obtain⟨x,e1,e⟩:=JZ.mp e;refine ox_;cases x with
  |false=>exact kP xr_
  |true=>cases e;exact kB xs_
def uY(h:DW X own e ft):DT X own e ft:=xt_
def gE(h:gS!):DT X own eu_ (Dd ft):=
 uZ (b4r h.ok) λZ G H Q ρ d er e k=>by
  obtain⟨x,e1,rfl⟩:=KI.mp e;exact⟨G,ρ,x,er,e1,λG1 H1 s1=>k G1 H1 s1⟩
def Cp(fa fb:o_):Ag->Option D:=λρ=>(oy_).bind λb=>if b then fb ρ else some Z!
def Ex(fa fb:o_):Ag->Option D:=λρ=>(oy_).bind λb=>if b then some w_ else fb ρ
def Dt(fa:o_):Ag->Option D:=λρ=>(oy_).map λb=>.bl (!b)
def gW(h:S!):DE X own mh! fa:=xu_
def kI(ha:S!)(J:DE X own es_ fb):DE X own et! (Cp fa fb):=
 eO xv_ λZ G H Q ρ d er e k=>by
  obtain⟨x,e1,e⟩:=JZ.mp e;refine oz!;cases cW r1;refine jH!;cases x with
  |true=>exact kB jH_
  |false=>cases e;exact kP xy_
def xU(ha:S!)(J:DE X own et_ fb):DE X own eu! (Ex fa fb):=
 eO xz! λZ G H Q ρ d er e k=>by
  obtain⟨x,e1,e⟩:=JZ.mp e;refine oz!;cases cW r1;refine jH!;cases x with
  |false=>exact kP jH_
  |true=>cases e;exact kB xy_
def c8j(ha:S!):DE X own eu_ (Dt fa):=
 eO (b5j ha.ok) λZ G H Q ρ d er e k=>by
  obtain⟨x,e1,rfl⟩:=KI.mp e;refine oz!;cases cW r1;exact⟨x,rfl,xA!⟩
def Ln(ft:bH!)(fa fb:o_):Ag->Option D:=λρ=>(gR_).bind λb=>if b then fa ρ else fb ρ
def c5e(hc:xA_)(ha:S!)(J:cB!):DE X own mi! (Ln ft fa fb):=
 eO xB! λZ G H Q ρ d er e k=>by
  obtain⟨x,e1,e⟩:=JZ.mp e;refine ox_;cases x with
  |true=>exact kB jH_
  |false=>exact kP jH_
nonrec def f3(g h:gP_)(fa fb fc:o_):Ag->Option D:=λρ=>(e1!).bind λx=>(jE!).bind λy=>(g x y).bind λz=>match z with
 |.bl true=>(fc ρ).bind λw=>h y w
 |.bl false=>some Z!
 |_=>none
def Ae:Ag->Option aG_:=λ_=>some []
def Ac(f:o_)(fs:bd_):Ag->Option aG_:=λρ=>(ae_).bind λd=>(e1_).bind λds=>some dP!
def aK:DA X own [] Ae:=b9g fK λZ G H Q ρ d er e k=>by
 cases e;exact k [] G H gO_ Am.nil
def aE(h:c7!)(hs:jI!)(hst:ah!:=by rfl):DA X own aA_ (Ac f fs):=
 b9g xC_ λZ G H Q ρ d er e' k=>by
  obtain⟨x,e1,e'⟩:=JZ.mp e';obtain⟨xs,e2,e'⟩:=JZ.mp e';cases e';exact⟨G,ρ,x,er,e1,λv G1 H1 s1 r1=>⟨G1,ρ,xs,c6_,e2,λvs G2 H2 s2 r2=>k _ G2 H2 c7_ (Am.cons gQ! r2)⟩⟩
def As(fs:bd_):Ag->Option D:=λρ=>(e1_).bind λds=>if g!<=1000 then some c5_ else none
def Dh(fs:bd_):Ag->Option D:=λρ=>(e1_).bind λds=>if g!<=1000 then some b3_ else none
def eU(h:n<=1000):n<=sizeLine:=QN (b0x h)
def cL(h:jI!):DE X own tW! (As fs):=
 eO (b5g h.ok) λZ G H Q ρ d er e k=>by
  show"!H"
  .show"!G";refine⟨G,ρ,ds,er,e1,λvs G1 H1 s1 r1=>⟨xE!,λp hp=>k _ _ _ xE_ (fO xF! r1)⟩⟩
  .cases e
def lS(h:jI!):DE X own iL_ (Dh fs):=
 eO jJ! λZ G H Q ρ d er e k=>by
  show"!H"
  .show"!G";refine⟨G,ρ,ds,er,e1,λvs G1 H1 s1 r1=>⟨xE!,λp hp=>k _ _ _ xE_ (cZ xF! r1)⟩⟩
  .cases e
def Rp(KF:zA!)(r:is_)(g:b5!):Prop:=∀{vs:q!} {ds:e!} {d:D} {G H:Hp} {Q:VK},Bc G H->Am KF G ds vs->g ds=some d->jE_->r vs H Q
nonrec def f1(g:b5!)(fs:bd_):Ag->Option D:=λρ=>(e1_).bind g
def cF{id:String}(hc:nm_)(hd:Rp X.K r g)(hg:H_)(hm:cS!)(hv:nn!)(ha:jJ_)(hn:cS_:=by decide)
  (ax:y!:=by decide)(he:ah!:=by rfl)(au:aM!:=by rfl):DE X own a9! oA!:=
 eO xH_ λZ G H Q ρ d er e' k=>by
  obtain⟨ds,e1,e'⟩:=JZ.mp e';exact⟨G,ρ,ds,er,e1,λvs G1 H1 s1 r1=>hd s1.sub r1 e' λv G2 H2 s2 r2=>k v G2 H2 c7_ r2⟩
def Zo(KF:zA!)(n:Nat)(g:b5!):Sp:=λvs H Q _=>a5!=n/\∃G ds d,Bc G H/\Am KF G ds vs/\g ds=some d/\∀v G' H',Ch G H G' H'->Aq KF G' d v->Q v H'
def c3o(F:Fk X.prog X.w X.K X.mg X.base Pj k ae fd ps xI_)(hr:a8_)(hg:H_)(hm:X.mg x=some be!)(hk:W.keepIn X.K be!=true)
  (J:jK!)(ha:jJ_)(hn:xJ_:=by rfl)(ao:xK!)
  (ax:y!:=by decide)(he:ah!:=by rfl)(au:aM!:=by rfl):
  DE X own a9! oA!:=
 eO (yQ F hr hg hm hk J .nil tL ha.ok ax he au) λZ G H Q ρ d er e' k=>by
  obtain⟨ds,e1,e'⟩:=JZ.mp e';refine⟨G,ρ,ds,er,e1,λvs G1 H1 s1 r1=>?_⟩;show Zo X.K ps.length g oB! H1 Q E0;rw[LR];exact⟨by rw[<-aJ r1];exact ao ρ ds e1,G1,ds,d,s1.sub,r1,e',xx_⟩
end
def aW(h:Ae ρ=some ds):g!=0:=by cases h;rfl
def aI(hf:xL_):∀(ρ:Ag) (ds:e!),Ac f fs ρ=some ds->g!=n+1:=λρ ds e=>by
 show"!=";obtain⟨xs,e2,e⟩:=JZ.mp e;cases e;rw[KO,hf ρ xs e2]
def mY(p:PlainL h a its):∃n sl,h.get? a=some {cls:=.type "list",dict:=none,data:=.seq its n,slots:=sl}:=by obtain⟨⟨cls,dd,data,sl⟩,n,e,Y,h2,h3⟩:=p;simp only at Y h2 h3;subst Y h2 h3;exact⟨n,sl,e⟩
section
def AX(KF:zA!):R2:=λx y H Q=>∃l b xs zs,x=.ref l/\y=.ref b/\Fm KF H l xs/\Fm KF H b zs/\i!+zs.length<=sizeLine/\∀p,H p=none->Q cp_ (upd H p vo_)
def c1q:Gk X ey_ (AX X.K):=by
 intro hb s Z H x y v u Q I rx ry h;obtain⟨l,b,xs,zs,rfl,rfl,hH,hB,hz,q⟩:=h;cases rx;cases ry;obtain⟨its,r,pl,z⟩:=I.list hH;obtain⟨gh,r2,Y5,z2⟩:=I.list hB;obtain⟨n,sl,e⟩:=mY pl;obtain⟨n2,fq,e2⟩:=mY Y5;have Y:=aJ!;have h2:=r2.length;refine concat_meets dK! ⟨_,e2,rfl⟩ PySem.noFill_list_add PySem.seq_list_add PySem.F.slot_list_add PySem.F.entry_list_add (PySem.F.args_list_add_2 _ _)
  (list_addW l b its.toArray gh.toArray n n2 none none sl fq oC!) vr_
 have ea:a0_++gh.toArray=(its++gh).toArray:=by simp
 rw[ea];exact⟨.ref _,_,I.lnew (t':=s.toks) vr! xO!,rfl,q _ I.fresh⟩
def Ya(KF:zA!):R2:=λx y H Q=>∃a b ys,x=.ref a/\y=.ref b/\Fz KF H a []/\Fz KF H b ys/\Q dE_ H
def b5s:Gk X ey_ (Ya X.K):=by
 intro hb s Z H x y v u Q I rx ry h;obtain⟨a,b,ys,rfl,rfl,ha,J,q⟩:=h;cases rx;cases ry;obtain⟨its,r1,p1,_⟩:=I.tuple ha;obtain⟨gh,r2,p2,_⟩:=I.tuple J;obtain⟨⟨cls,dd,data,sl⟩,ho,hc,n,hd⟩:=id p1;obtain⟨⟨zx,kz,data2,fq⟩,jh,ji,n2,jj⟩:=id p2;simp only at hc hd ji jj;subst hc hd ji jj;have e0:its=[]:=r1.nil_iff.mpr rfl;exact concat_meets iV_ iW_ noFill_tuple_add seq_tuple_add TH SX nq_
  (tuple_addW0 a b its.toArray gh.toArray n n2 dd kz sl fq (by simp[e0])) ⟨ho,jh,⟨.ref b,H,I,rfl,q⟩⟩
abbrev big:Nat:=100000
def cV(h:n<=big):n<=sizeLine:=LV h xP_
def An:D->D->Option D
 |.int i,.int j=>some (.int (i+j))
 |.str x,.str y=>if cV!+co!<=big then some (.str (x++y))else none
 |.tup xs,.tup ys=>if i!+N_<=big then some (.tup el!)else none
 |.lst xs,.lst ys=>if i!+N_<=big then some (.lst el!)else none
 |_,_=>none
def Sb(KF:zA!):R2:=λx y H Q=>Sa (λi j=>.int (i+j)) x y H Q\/((∃i j,x=.str i/\y=.str j/\i.length+j.length<=sizeLine/\Q tu_ H)\/(AW KF x y H Q\/(Ya KF x y H Q\/AX KF x y H Q)))
def aO:Gk X ey_ (Sb X.K):=c6o.or (a5v.or (c1p.or (b5s.or c1q)))
def bI:Hs KF (Sb KF) An:=by
 show"!1";unfold An at e;show"!8"
 .show"!]";exact .inl ⟨_,_,rfl,rfl,dS!⟩
 .cases cD rx;cases cD ry;show"!8"
  .show"!G";exact .inr (.inl ⟨_,_,rfl,rfl,cV hl,xR_⟩)
  .cases e
 .show"!Q";obtain⟨b,ws,rfl,qb,rb⟩:=bR ry;show"!8"
  .show"!G";have l1:=aJ ra;have l2:=aJ rb;by_cases hv:vs=[]
   .subst hv;refine .inr (.inr (.inr (.inl ⟨a,b,ws,rfl,rfl,jK_,oC_,k _ G H aH! ?_⟩)));have:(_:e!)=[]:=SY.mp l1;rw[this,NN];exact Aq.tup qb rb
   .refine .inr (.inr (.inl ⟨a,b,vs,ws,rfl,rfl,jK_,oC_,hv,by rw[<-l1,<-l2];exact cV hl,λhw=>?_,λhw p hp=>?_⟩))
    .subst hw;have:(_:e!)=[]:=SY.mp l2;refine k _ G H aH! ?_;rw[this,LR];exact Aq.tup qa ra
    .exact k _ _ _ jL_ (fO gS_ (dA ra rb))
  .cases e
 .show"!{";obtain⟨b,ws,rfl,qb,rb⟩:=bP ry;show"!8"
  .show"!G";exact .inr (.inr (.inr (.inr ⟨a,b,vs,ws,rfl,rfl,sub.seq qa,sub.seq qb,by rw[<-aJ ra,<-aJ rb];exact cV hl,λp hp=>k _ _ _ jL_ (cZ gS_ (dA ra rb))⟩)))
  .cases e
 .cases e
def Dy(c:tf_)(g:xW!):D->D->Option D
 |.int i,.int j=>if c i j=true then some bl! else none
 |_,_=>none
def yZ(hc:∀i j,c i j=true->C i j)(hg:xX!):Hs KF (rI C gv) (Dy c g):=by
 show"!1";unfold Dy at e;show"!8"
 .cases aZ rx;cases aZ ry;show"!8"
  .rename_i h;cases e;exact⟨_,_,rfl,rfl,hc _ _ h,xY_⟩
  .cases e
 .cases e
def Cd(g:xW!):D->D->Option D
 |.int i,.int j=>some bl!
 |_,_=>none
def rX(hg:xX!):Hs KF (Sa gv) (Cd g):=by
 show"!1";unfold Cd at e;show"!8"
 .show"!]";exact⟨_,_,rfl,rfl,xY_⟩
 .cases e
def Dq:D->D->Option D:=Cd λi j=>.int (i - j)
def qB:Hs KF th! Dq:=rX λ_ _ _=>Aq.int
def Ub(i j:Int):Bool:=(decide (-it_<i)&&decide (i<2 ^ 64))||(decide (-it_<j)&&decide (j<2 ^ 64))
def c6t:Hs KF mN_ (Dy Ub λi j=>.int (i*j)):=yZ (λi j h=>by
 unfold Ub at h;simp only[Bool.or_eq_true,LN,LO]at h;exact h) λ_ _ _=>Aq.int
def c6u:Hs KF mP! (Dy xZ_ λi j=>.int (i%j)):=yZ (λi j h=>by simpa using h) λ_ _ _=>Aq.int
def c2a:Hs KF mO_ (Dy x0_ λi j=>.int (i / j)):=yZ (λi j h=>by
 simp only[LN,LO]at h;exact h) λ_ _ _=>Aq.int
def c6s:Hs KF mQ! (Dy x1! λi j=>.int mP_):=yZ (λi j h=>by
 simp only[LN,LO]at h;exact⟨h.1.1,h.1.2,h.2⟩) λ_ _ _=>Aq.int
def d0i:Hs KF mS_ (Cd λi j=>.bl mS!):=rX λ_ _ _=>Aq.bl
def d0k:Hs KF mU_ (Cd λi j=>.bl mU!):=rX λ_ _ _=>Aq.bl
def d0l:Hs KF mV_ (Cd λi j=>.bl mV!):=rX λ_ _ _=>Aq.bl
def Rj(x y:Str):Bool:=!decide (y.cps.toList<x.cps.toList)
def b1o:Gk X mT! (λx y H Q=>∃i j,x=.str i/\y=.str j/\Q x1_ H):=by intro hb s Z H x y v u Q I rx ry h;obtain⟨i,j,rfl,rfl,q⟩:=h;obtain⟨t,rfl⟩:=rx;obtain⟨t',rfl⟩:=ry;exact PySem.P.le_str (eI I q rfl)
def Ci:D->Bool
 |.non=>true
 |_=>false
def Bw:D->D->Option D
 |x,.non=>some (.bl (Ci x))
 |_,_=>none
def wK(r:Aq KF H d x):decide (x=V.non)=Ci d:=by
 cases d with
 |non=>cases dW r;rfl
 |bl b=>cases cW r;rfl
 |int b=>cases aZ r;rfl
 |str b=>cases cD r;rfl
 |tup b=>obtain⟨a,vs,rfl,_⟩:=bR r;rfl
 |lst b=>obtain⟨a,vs,rfl,_⟩:=bP r;rfl
 |fn b=>cases fQ r;rfl
 |dk b=>obtain⟨a,rfl,_⟩:=c5t r;rfl
def a6d:Hs KF tl_ Bw:=by
 show"!1";unfold Bw at e;show"!8"
 .show"#:"
 .cases e
def Ao:D->D->Option D
 |x,.non=>some (.bl (!Ci x))
 |_,_=>none
def mB:Hs KF tm_ Ao:=by
 show"!1";unfold Ao at e;show"!8"
 .show"#:"
 .cases e
def Ai:D->D->Option D
 |.tup xs,.int i=>De xs i
 |.lst xs,.int i=>De xs i
 |.str x,.int i=>if cV!<=big then(De x.cps.toList i).map λc=>.str aj! else none
 |_,_=>none
def nT(r:cx_)(h:De ds i=some d):∃v,De vs i=some v/\Aq KF H d v:=by unfold De at h ⊢;obtain⟨j,Y,h2⟩:=JZ.mp h;obtain⟨v,h3,h4⟩:=gM r h2;exact⟨v,JZ.mpr ⟨j,by rw[<-aJ r];exact Y,h3⟩,h4⟩
def aL:Hs KF (HA KF) Ai:=by
 show"!1";unfold Ai at e;show"!8"
 .show"!Q";cases aZ ry;obtain⟨v,Y,h2⟩:=nT ra e;exact .inr (.inl ⟨a,vs,_,v,rfl,rfl,jK_,Y,x2_⟩)
 .show"!{";cases aZ ry;obtain⟨v,Y,h2⟩:=nT ra e;exact .inl ⟨a,vs,_,v,rfl,rfl,sub.seq qa,Y,x2_⟩
 .cases cD rx;cases aZ ry;show"!8"
  .rename_i hl;obtain⟨c,Y,rfl⟩:=KI.mp e;exact .inr (.inr ⟨_,_,c,rfl,rfl,cV hl,Y,xR_⟩)
  .cases e
 .cases e
def Dm(xs:ai_)(lo hi:aT_):List α:=(vl_).take nw!
def a1x(r:cx_)(lo hi:aT_):Am KF H (Dm ds lo hi) (Ug vs lo hi):=by unfold Dm Ug;rw[aJ r];exact pR _ (pS _ r)
end
section
variable{pos p2:Pos}
inductive DD(KF:zA!)(own:o!)(o:x3!)(Z:St)(H:Hp)(Q:uE!):Prop
 |mk (G:Hp) (ρ:Ag) (i:aT_) (r:b4!) (e:o ρ=some i) (k:∀G' H',Ch G H G' H'->Q i H'):DD KF own o Z H Q
def Ay:Ag->Option oF!:=λ_=>some none
def Au(f:o_):Ag->Option oF!:=λρ=>(ae_).bind λd=>match d with|.int i=>some ba_|_=>none
def eA:PO X none (DD X.K own Ay):=by rintro hb s Z H Q I ⟨G,ρ,i,er,e,k⟩;cases e;exact c1d hb s Z H Q I (k G H gO_)
def dO(h:c7!):PO X ie_ (DD X.K own (Au f)):=by
 rintro hb s Z H Q I ⟨G,ρ,i,er,e',k⟩;obtain⟨d,e1,e2⟩:=JZ.mp e';refine c1c h.ok hb s Z H Q I ⟨G,ρ,d,er,e1,λv G' H' s' r'=>?_⟩;cases d<;>first
  |cases e2
  |skip
 cases aZ r';exact⟨_,rfl,ow_⟩
def Bf:D->Option Int->Option Int->Option D
 |.tup xs,lo,hi=>if HT.sIx xs.length 0 lo=0/\HT.sIx xs.length xs.length hi=i! then none else some (.tup x4!)
 |.lst xs,lo,hi=>some (.lst x4!)
 |_,_,_=>none
def Ey(f:o_)(ol oh:x3!):Ag->Option D:=λρ=>(ae_).bind λd=>(ol ρ).bind λl=>(oh ρ).bind λh=>Bf d l h
def dJ{lo hi:Option Expr}(ha:S!)(hl:PO X lo (DD X.K own ol))(hh:PO X hi (DD X.K own oh)):DE X own (.Subscript a nv_ pos) (Ey fa ol oh):=
 eO (b5h (BE.or c5p c0j) ha.ok hl hh) λZ G H Q ρ d er e k=>by
  show"!=";obtain⟨l,e2,e⟩:=JZ.mp e;obtain⟨h,e3,e⟩:=JZ.mp e;refine⟨G,ρ,x,er,e1,λv G1 H1 s1 r1=>⟨G1,ρ,l,c6_,e2,λG2 H2 s2=>⟨G2,ρ,h,er.grow c7_,e3,λG3 H3 s3=>?_⟩⟩⟩;have r3:Aq X.K G3 x v:=(gQ!).mono s3.g;have s4:Ch G H G3 H3:=s1.trans gQ_;have sub:=s4.sub;unfold Bf at e;show"!8"
  .show"!8"
   .cases e
   .rename_i hw;cases e;obtain⟨p,vs,rfl,q,rr⟩:=bR r3;refine .inl ⟨p,vs,rfl,cC sub q,?_,λp hp=>k _ _ _ x5_ (fO gS_ x6!)⟩;rw[<-aJ rr];exact hw
  .cases e;obtain⟨p,vs,rfl,q,rr⟩:=bP r3;exact .inr ⟨p,vs,rfl,oI!,λp hp=>k _ _ _ x5_ (cZ gS_ x6!)⟩
  .cases e
def HY:D->Value
 |.non=>.type "NoneType"
 |.bl _=>.type "bool"
 |.int _=>.type "int"
 |.str _=>.type "str"
 |.tup _=>.type "tuple"
 |.lst _=>.type "list"
 |.fn _=>.none
 |.dk _=>.none
def EE(KF:zA!)(T:String):List V->Hp->VK->Prop:=λxs H Q=>∃x d b,xs=[x,.ty T]/\Aq KF H d x/\W.kitOne KF (HY d) dE!=some b/\(∀a,d≠.fn a)/\(∀a,d≠.dk a)/\Q bk! H
def b9r:Io X jN_ (EE X.K T):=by
 intro hb s Z H xs us Q I r h;obtain⟨x,d,b,rfl,rx,e,hf,wv,q⟩:=h;obtain⟨u,w',rfl,r1,r2⟩:=wC r;cases r2;have fin:∀tk,EP X hb Z Q mc! {s with toks:=tk}:=λtk=>⟨.bl b,H,I.tok tk,rfl,q⟩;cases d with
 |non=>cases dW rx;cases r1;exact VD W.kitx_none I.kIn True.intro e dS_ fin
 |bl y=>cases cW rx;cases r1;exact VD W.kitx_bool I.kIn True.intro e dS_ fin
 |int y=>cases aZ rx;obtain⟨t,rfl⟩:=r1;exact VD W.kitx_int I.kIn True.intro e dS_ fin
 |str y=>cases cD rx;obtain⟨t,rfl⟩:=r1;exact VD W.kitx_str I.kIn True.intro e dS_ fin
 |tup ys=>
  show"!Q";cases r1;obtain⟨its,_,⟨o,Y,h2,_⟩,_⟩:=I.tuple qa;exact VD W.kitx_tuple I.kIn oJ_ e dS_ fin
 |lst ys=>
  show"!{";cases r1;obtain⟨its,_,pl,_⟩:=I.list qa;obtain⟨o,n,Y,h2,_⟩:=pl;exact VD W.kitx_list I.kIn oJ_ e dS_ fin
 |fn a=>exact absurd rfl (hf a)
 |dk a=>exact absurd rfl (wv a)
def Fs(T:String):D->Option Bool
 |.non=>some (T=="NoneType")
 |.bl _=>some (T=="bool"||T=="int")
 |.int _=>some (T=="int")
 |.str _=>some (T=="str")
 |.tup _=>some (T=="tuple")
 |.lst _=>some (T=="list")
 |.fn _=>none
 |.dk _=>none
structure Yt(KF:zA!)(T:String):Prop where
 ok:∀d b,Fs T d=some b->W.kitOne KF (HY d) dE!=some b
def zV:W.kitOne [] jO! bI!=some ("int"=="NoneType"):=by decide+kernel
def a3e:W.kitOne [] bI_ bI!=some ("int"=="bool"||"int"=="int"):=by decide+kernel
def zZ:W.kitOne [] bI! bI!=some ("int"=="int"):=by decide+kernel
def zT:W.kitOne [] bJ! bI!=some ("int"=="str"):=by decide+kernel
def zR:W.kitOne [] be_ bI!=some ("int"=="tuple"):=by decide+kernel
def zX:W.kitOne [] dI! bI!=some ("int"=="list"):=by decide+kernel
def c2p:Yt KF "int":=⟨λd b h=>match d,b,h with
 |.non,b,h=>by cases h;exact zV
 |.bl _,b,h=>by cases h;exact a3e
 |.int _,b,h=>by cases h;exact zZ
 |.str _,b,h=>by cases h;exact zT
 |.tup _,b,h=>by cases h;exact zR
 |.lst _,b,h=>by cases h;exact zX
 |.fn _,b,h=>by cases h
 |.dk _,b,h=>by cases h⟩
def vT:W.kitOne [] jO! bI_=some ("bool"=="NoneType"):=by decide+kernel
def a0a:W.kitOne [] bI_ bI_=some ("bool"=="bool"||"bool"=="int"):=by decide+kernel
def vV:W.kitOne [] bI! bI_=some ("bool"=="int"):=by decide+kernel
def vS:W.kitOne [] bJ! bI_=some ("bool"=="str"):=by decide+kernel
def vR:W.kitOne [] be_ bI_=some ("bool"=="tuple"):=by decide+kernel
def vU:W.kitOne [] dI! bI_=some ("bool"=="list"):=by decide+kernel
def b7t:Yt KF "bool":=⟨λd b h=>match d,b,h with
 |.non,b,h=>by cases h;exact vT
 |.bl _,b,h=>by cases h;exact a0a
 |.int _,b,h=>by cases h;exact vV
 |.str _,b,h=>by cases h;exact vS
 |.tup _,b,h=>by cases h;exact vR
 |.lst _,b,h=>by cases h;exact vU
 |.fn _,b,h=>by cases h
 |.dk _,b,h=>by cases h⟩
def zU:W.kitOne [] jO! bJ!=some ("str"=="NoneType"):=by decide+kernel
def a3d:W.kitOne [] bI_ bJ!=some ("str"=="bool"||"str"=="int"):=by decide+kernel
def zY:W.kitOne [] bI! bJ!=some ("str"=="int"):=by decide+kernel
def zS:W.kitOne [] bJ! bJ!=some ("str"=="str"):=by decide+kernel
def zQ:W.kitOne [] be_ bJ!=some ("str"=="tuple"):=by decide+kernel
def zW:W.kitOne [] dI! bJ!=some ("str"=="list"):=by decide+kernel
def a0h:Yt KF "str":=⟨λd b h=>match d,b,h with
 |.non,b,h=>by cases h;exact zU
 |.bl _,b,h=>by cases h;exact a3d
 |.int _,b,h=>by cases h;exact zY
 |.str _,b,h=>by cases h;exact zS
 |.tup _,b,h=>by cases h;exact zQ
 |.lst _,b,h=>by cases h;exact zW
 |.fn _,b,h=>by cases h
 |.dk _,b,h=>by cases h⟩
def uJ:W.kitOne [] jO! be_=some ("tuple"=="NoneType"):=by decide+kernel
def vW:W.kitOne [] bI_ be_=some ("tuple"=="bool"||"tuple"=="int"):=by decide+kernel
def uL:W.kitOne [] bI! be_=some ("tuple"=="int"):=by decide+kernel
def uI:W.kitOne [] bJ! be_=some ("tuple"=="str"):=by decide+kernel
def uH:W.kitOne [] be_ be_=some ("tuple"=="tuple"):=by decide+kernel
def uK:W.kitOne [] dI! be_=some ("tuple"=="list"):=by decide+kernel
def mG:Yt KF "tuple":=⟨λd b h=>match d,b,h with
 |.non,b,h=>by cases h;exact uJ
 |.bl _,b,h=>by cases h;exact vW
 |.int _,b,h=>by cases h;exact uL
 |.str _,b,h=>by cases h;exact uI
 |.tup _,b,h=>by cases h;exact uH
 |.lst _,b,h=>by cases h;exact uK
 |.fn _,b,h=>by cases h
 |.dk _,b,h=>by cases h⟩
def Ei(T:String)(f:o_):Ag->Option D:=λρ=>(ae_).bind λd=>(Fs T d).map D.bl
def kG(ht:Yt X.K T)(hg:oM!)(hm:oN_)(ml:H_)(mz:cS!)(hv:oN!)(Y6:nn_)(ha:S!)
  (g7:cS_:=by decide)(jj:y!:=by decide)
  (he:starEach [a,jO_] X.env=dv_::starEach e3! X.env:=by rfl)(iq:starEach e3! X.env=(false,eval c9! X.env)::starEach [] X.env:=by rfl)
  (au:(backTo pos (starEach e3! X.env)).any c_=false:=by rfl):DE X own (.Call (.Name "isinstance" p) [a,jO_] [] pos) (Ei T fa):=
 eO (nY (r:=EE X.K T) b9r hg hm hv (dC ha.ok (dC (c1l (v:=V.ty T) ml mz Y6 rfl g7 jj) fK iq) he) b! b! he au) λZ G H Q ρ d er e k=>by
  show"!=";obtain⟨b,e2,rfl⟩:=KI.mp e;exact⟨G,ρ,x,er,e1,λv G1 H1 s1 r1=>⟨v,x,b,rfl,r1.mono s1.sub,ht.ok x b e2,x9!,x9!,xA!⟩⟩
def fG(h:Am KF H [d] vs):∃v,vs=[v]/\Aq KF H d v:=by obtain⟨v,r,rfl,Y,h2⟩:=bM h;cases cM h2;exact⟨v,rfl,Y⟩
def Bj:List D->Option D
 |[.tup xs]=>some (.int i!)
 |[.lst xs]=>some (.int i!)
 |[.str x]=>if cV!<=big then some (.int cV!)else none
 |_=>none
def eJ:Rp KF ya_ Bj:=by
 show"!b";unfold Bj at e;show"!8"
 .show"!E";obtain⟨a,ws,rfl,q,rr⟩:=bR rv;cases e;exact⟨_,_,rfl,.inr ⟨ws,cC sub q,aJ rr⟩,dS!⟩
 .show"!E";obtain⟨a,ws,rfl,q,rr⟩:=bP rv;cases e;exact⟨_,_,rfl,.inl ⟨ws,oI!,aJ rr⟩,dS!⟩
 .show"!E";cases cD rv;show"!8"
  .show"!G";exact⟨_,_,rfl,⟨cV hl,rfl⟩,dS!⟩
  .cases e
 .cases e
def Fy:List D->Option D
 |[.int i]=>some (.int iz_)
 |_=>none
def c8q:Rp KF tw! Fy:=by
 show"!b";unfold Fy at e;show"!8"
 .show"!E";cases aZ rv;cases e;exact⟨_,rfl,dS!⟩
 .cases e
def AB:List D->Option D
 |[.str x]=>if cV!=1 then some tx_ else none
 |_=>none
def c8p:Rp KF ty! AB:=by
 show"!b";unfold AB at e;show"!8"
 .show"!E";cases cD rv;show"!8"
  .show"!G";exact⟨_,rfl,hl,dS!⟩
  .cases e
 .cases e
def sP:∀{bs:jQ!} {us:k_},Az yb_ us->us=bs.map Value.bool
 |[],_,.nil=>rfl
 |b::bs,_,.cons r t=>by cases r;rw[sP t];rfl
def EH(KF:zA!):List V->Hp->VK->Prop:=λxs H Q=>∃(p:u0!) (bs:jQ!),xs=gt!/\Fm KF H p yb_/\Q (.bl oP_) H
def b3e:∀(bs:jQ!),((List.range bs.length).all λi=>(oQ!).getD true)=bs.all id:=λbs=>by
 rw[OA,ON,ON];show"!w"
 .intro h x hx;obtain⟨i,hi,rfl⟩:=RU.mp hx;have:=h i (RC.mpr hi);simpa[hi]using this
 .intro h i hi;have cr:=RC.mp hi;simpa[cr]using h bs[i] (OB cr)
def vE(hc:ao_):Io X yc_ (EH X.K):=by
 intro hb s Z H xs us Q I r h;obtain⟨p,bs,rfl,hq,q⟩:=h;obtain⟨u,rfl,r1⟩:=mL r;cases r1;obtain⟨its,rv,pl,hz⟩:=I.list hq;have e:=sP rv;subst e;have hl:=pl.isList;have al:p<h_:=by obtain⟨_,e,_⟩:=hl;exact LF e
 refine call_all_walk (wpAny_pyIter_list hl ?_);refine⟨h_,[h_,p],[h_],(jQ_).toArray.size,_,_,λi=>(oQ!).getD true,rfl,Walks.list (A:=X.A.in1) aS! _ p (LU al) (jQ_).toArray,
  ⟨ew_,hl.push _⟩,λi v s' Q' E' hP hQ=>?_,λh' tk hk=>?_⟩
 .have VM:jQ_[i]?=some v:=by simpa using hP
  rw[LZ]at VM;obtain⟨b,J,rfl⟩:=KI.mp VM;simp only[J,Option.getD_some]at hQ;exact MM hQ
 .have e:((List.range (jQ_).toArray.size).all λi=>(oQ!).getD true)=bs.all id:=by
   rw[KH,KQ];exact b3e bs
  rw[e];exact⟨.bl _,H,I.kept (t':=tk) λb x ex=>hk b x (λhm=>by rw[LB.mp hm]at ex;exact OF _ (LF ex)) (KC _ ex),rfl,q⟩
def Mr:List D->Option (List Bool)
 |[]=>some []
 |.bl b::r=>(Mr r).map (b::·)
 |_=>none
def Qs:List D->Option D
 |[.lst xs]=>(Mr xs).map λbs=>.bl oP_
 |_=>none
def wL:∀{ds:e!} {vs:q!} {bs:jQ!},Am KF H ds vs->Mr ds=some bs->vs=bs.map V.bl
 |[],vs,bs,r,e=>by cases cM r;cases e;rfl
 |d::ds,vs,bs,r,e=>by
  obtain⟨v,t,rfl,r1,r2⟩:=bM r;cases d<;>first|cases e|skip
  obtain⟨bs',e1,rfl⟩:=KI.mp e;cases cW r1;rw[wL r2 e1];rfl
def a7l:Rp KF (EH KF) Qs:=by
 show"!b";unfold Qs at e;show"!8"
 .show"!E";obtain⟨a,ws,rfl,q,rr⟩:=bP rv;obtain⟨bs,e1,rfl⟩:=KI.mp e;have:=wL rr e1;subst this;exact⟨a,bs,rfl,oI!,dT!⟩
 .cases e
end
def AK(KF:zA!)(af:It)(ds:e!)(G1:Hp):Prop:=∀(i:Nat) (G' H':Hp),Bc G1 G'->Bc G' H'->
 ye_/\yf!
inductive IB(KF:zA!)(own:o!)(fi:bd_)(Z:St)(H:Hp)(R:ik_):Prop
 |mk (G:Hp) (ρ:Ag) (ds:e!) (o:b4!) (e:fi ρ=some ds) (k:∀af G1 H1,Ch G H G1 H1->AK KF af ds G1->R af H1):IB KF own fi Z H R
structure DI(X:Cx)(own:o!)(tg iter:Expr)(fi:bd_):Prop where
 ok:PI X tg iter (IB X.K own fi)
section
variable{pos p2:Pos}
def a4e(h:yg!)(hw:∀Z G H R ρ ds,OR X.K own G H Z ρ->fi ρ=some ds->(∀af G1 H1,Ch G H G1 H1->AK X.K af ds G1->R af H1)->wi Z H R):DI X own tg e fi:=⟨λhb s Z H R I ⟨G,ρ,ds,er,e,k⟩=>h hb s Z H R I (hw Z G H R ρ ds er e k)⟩
def Ek(f:o_):Ag->Option aG_:=λρ=>(ae_).bind λd=>match d with|.lst xs=>some xs|_=>none
def HF(f:o_):Ag->Option aG_:=λρ=>(ae_).bind λd=>match d with|.tup xs=>some xs|_=>none
def a3m{ad:u0!}(q:Fm KF G1 ad vs)(r:yh!):AK KF (HP KF ad) ds G1:=by intro i G' H' s1 s2;have q':Fm KF H' ad vs:=s2.seq (s1.seq q);refine⟨dT_,λhi=>⟨vs,q',by rw[<-aJ r,hi];exact KU _⟩⟩;obtain⟨v,Y,h2⟩:=gM r hd;refine⟨⟨vs,v,q',Y⟩,jR_⟩;obtain⟨e1,e2⟩:=hy;subst e1;have:=e2 vs q';rw[Y]at this;cases this;exact⟨G',jS!,h2.mono s1⟩
def eZ(h:S!):DI X own tg a (Ek fa):=a4e (a8p h.ok) λZ G H R ρ ds er e k=>by
 obtain⟨d,e1,e2⟩:=JZ.mp e;cases d<;>first|cases e2|skip
 refine e4_;obtain⟨p,vs,rfl,q,rr⟩:=bP r1;exact⟨p,rfl,⟨vs,s1.sub.seq q⟩,k _ G1 H1 s1 (a3m q rr)⟩
def Dj(n:Nat):List D:=(oR!).map λi=>.int (i:Nat)
def Ew(f:o_):Ag->Option aG_:=λρ=>(ae_).bind λd=>match d with|.int j=>if -1000<=j/\j<=100000 then some yj! else none|_=>none
def b2m:AK KF (FE 0 n) (Dj n) G1:=by intro i G' H' s1 s2;unfold Dj;refine yj_;rw[LZ]at hd;obtain⟨j,hj,rfl⟩:=KI.mp hd;obtain⟨hl,he⟩:=KS.mp hj;rw[SG]at he;subst he;rw[OV]at hl;refine yk!;obtain⟨e1,e2⟩:=hy;subst e1 e2;refine⟨G',jS!,?_⟩;rw[Int.zero_add];exact Aq.int
def fZ(hg:ip_)(hm:ip!)(h:S!)(hs:sX_:=by rfl)(b7:jS_:=by rfl):
  DI X own tg sY_ (Ew fa):=a4e (b1k hg hm (dC h.ok fK b7) hs) λZ G H R ρ ds er e k=>by
 obtain⟨d,e1,e2⟩:=JZ.mp e;cases d<;>first|cases e2|skip
 rename_i j;have e3:(if -1000<=j/\j<=100000 then some yj! else none)=some ds:=e2;split at e3
 .rename_i hj;cases e3;refine e4_;cases aZ r1;exact⟨j,rfl,p!,p!,k _ G1 H1 s1 b2m⟩
 .cases e3
def Ef(bnd:b5_)(ft:bH!)(fe:o_)(ρ:Ag):List D->Option aG_
 |[]=>some []
 |d::ds=>(jT!).bind λak=>(ft ak).bind λb=>if b then(fe ak).bind λy=>(Ef bnd ft fe ρ ds).map (y::·)else Ef bnd ft fe ρ ds
def GD(KF:zA!)(g:TG)(bnd:b5_):Prop:=∀{x:V} {d:D} {Z:St} {G H:Hp} {ρ ak:Ag} {Q:if!},OR KF [] G H Z ρ->Aq KF G d x->bnd d ρ=some ak->(∀bt,OR KF [] G H bt ak->Le ρ ak->Q bt H)->g x Z H Q
def Bb(i:Nat):D->Ag->Option Ag:=λd ρ=>match ρ[i]? with|some none=>some bG_|_=>none
def cO(i:Nat):GD KF ev! (Bb i):=by
 intro x d Z G H ρ ak Q er r e k;unfold Bb at e;show"!8"
 .rename_i h;cases e;exact k _ (er.set c! r) ((Le.refl ρ).set h)
 .cases e
def Qr(i j:Nat):D->Ag->Option Ag:=λd ρ=>match d with
 |.tup [x,y]=>(Bb i x ρ).bind λak=>Bb j y ak
 |_=>none
def Le.trans(a:Le ρ ak)(b:Le ak bc):Le ρ bc:=⟨a.1.trans b.1,λi d h=>b.2 i d (a.2 i d h)⟩
def c2u(i j:Nat):GD KF ym! (Qr i j):=by
 intro x d Z G H ρ ak Q er r e k;unfold Qr at e;show"!8"
 .obtain⟨bc,e1,e2⟩:=JZ.mp e;show"!Y";show"!5";refine⟨p,[v1,v2],rfl,cC er.sub q,rfl,v1,[v2],rfl,?_⟩;refine cO i er r1 e1 λbt m7 l1=>⟨v2,[],rfl,?_⟩;exact cO j m7 r2 e2 λc8 cx l2=>⟨rfl,k c8 cx (l1.trans l2)⟩
 .cases e
def Fx(nl:Nat)(ix:o!)(fi:bd_)(bnd:b5_)(ft:bH!)(fe:o_):Ag->Option D:=λρ=>(fi ρ).bind λds=>if g!<=big then(Ef bnd ft fe ot_ ds).map D.lst else none
def c8o{Fin:cQ_}
  (J:g!<=big)(eh:yo!)(hg:GD KF g bnd)(er:OR KF [] G1 H1 ww m8)(e:Ef bnd ft fe m8 ds=some jm)(k:∀ys G' H',Ch G1 H1 G' H'->Am KF G' jm ys->Fin ys H'):
  Wm af g (BK KF [] ft) (tD KF [] fe) Fin ww H1:=by
 refine⟨λi m ys ac H'=>i<=g!/\m=g! - i/\∃G' ws r,Ch G1 H1 G' H'/\OR KF [] G' H' ac m8/\Am KF G' ws ys/\np!<=i/\Ef bnd ft fe m8 (ds.drop i)=some r/\ws++r=jm,
  ⟨g!,LY _,rfl,G1,[],jm,Ch.refl er.sub,er,Am.nil,LY _,e,rfl⟩,?_⟩
 rintro i m ys ac H' ⟨hi,rfl,G',ws,r,x,cu,av,hw,cx,et⟩;refine yo_;obtain⟨m9,na⟩:=eh i G' H' x.g cu.sub;by_cases al:i<g!
 .right;have hd:ds[i]?=some ds[i]:=by simp[al]
  have wx:ds.drop i=ds[i]::ds.drop Z_:=PV al;rw[wx]at cx;unfold Ef at cx;obtain⟨ak,e1,cx⟩:=JZ.mp cx;obtain⟨b,e2,cx⟩:=JZ.mp cx;obtain⟨go,yl⟩:=m9 _ hd;refine yp!;obtain⟨G2,x2,r2⟩:=yl v H2 hy;refine hg yp_ r2 e1 λbt m7 r9=>⟨G2,ak,b,m7,e2,λG3 H3 x3=>?_⟩;have jy:=m7.grow x3;have k8:Ch G1 H1 G3 H3:=x.trans (x2.trans x3);cases b with
  |true=>
   obtain⟨y,e3,cx⟩:=JZ.mp cx;obtain⟨zs,e4,rfl⟩:=KI.mp cx;refine kB ⟨G3,ak,y,jy,e3,λu G4 H4 x4 r4=>⟨_,?_,al,rfl,G4,ws++[y],zs,k8.trans x4,(jy.grow x4).le r9,?_,?_,e4,?_⟩⟩
   .omega
   .exact dA yr! (Am.cons r4 Am.nil)
   .rw[LK,OG];omega
   .rw[NJ];exact et
  |false=>
   refine kP ⟨_,?_,al,rfl,G3,ws,r,k8,jy.le r9,ys!,p!,cx,et⟩;omega
 .left;have ir:i=g!:=by omega
  refine⟨na ir,k ys G' H' x ?_⟩;rw[ir,TD]at cx;cases cx;rw[LR]at et;subst et;exact av
def kH
  (cj:c4!)(ce:c4_)(jx:∀y∈b0_,y.2=.local->scope.names.lookup y.1=some .local)
  (g6:gL!)(cap:c3_)(hix:jD!)(calm:ao_)(am:DI X own tg iter fi)
  (hg:gL_)(ng:oT_)(hi:∀cl C aj bd fp,Pi b2! c9 ys_)(he:∀cl C aj bd fp,DE b2! [] dw fe)
  (hs:cT_:=by intro _;rfl):
  DE X own gI_ (Fx NL.length ix fi bnd ft fe):=
 eO yt_ λZ G H Q ρ d er e k=>by
  show"!H"
  .rename_i J;obtain⟨jm,e2,rfl⟩:=KI.mp e;refine⟨G,ρ,ds,er,e1,yu!⟩;refine c8o J eh ng ((yu_).cap NL.length ix hix) e2 λys G' H' x r p hp=>?_;exact k _ _ _ (x1.trans (x.trans gV_)) (cZ oV! r)
  .cases e
def a2f:Pi X [] (BK X.K [] λ_=>some true):=by rintro hb s Z H Q I ⟨G,ρ,b,er,e,k⟩;cases e;exact a2e hb s Z H Q I (k G H gO_)
def c4n(h:DT X [] c ft):Pi X [c] ys_:=a2d h.ok
end
inductive Fl where
 |nx (ρ:Ag)|rt (d:D)
structure SR(KF:zA!)(own:o!)(G0 F0 G H:Hp)(Z:St)(ρ:Ag):Prop where
 or:OR KF own G H Z ρ
 ext:Ch G0 F0 G H
 fr:∀i∈own,∀p,Z[i]?=some cz_->F0 p=none
inductive FM(KF:zA!)(G0 F0:Hp)(own cg:o!)(f:cC_)(E:Sy)(Z:St)(H:Hp):Prop
 |mk (G:Hp) (ρ:Ag) (r:Fl) (o:e5!) (e:f ρ=some r) (k:match(generalizing:=false) r with
  |.nx ρ'=>∀G' ac H',SR KF cg G0 F0 G' H' ac ρ'->E.nx ac H'
  |.rt d=>∀v G' H',Ch G0 F0 G' H'->Aq KF G' d v->E.rt v H'):FM KF G0 F0 own cg f E Z H
structure DS(X:Cx)(own cg:o!)(st:Stmt)(f:cC_):Prop where
 ok:∀G0 F0,PS X st yv!
structure Yv(X:Cx)(own cg:o!)(st:h4_)(f:cC_):Prop where
 ok:∀G0 F0,Ox X st yv!
section
variable{st:Stmt}{rest body:List Stmt}{pos p2:Pos}
def c5d(h:ic_)(hw:∀G0 F0 E Z G H ρ r,SR X.K own G0 F0 G H Z ρ->q1 ρ=some r->(match r with
  |.nx ρ'=>∀G' ac H',SR X.K be G0 F0 G' H' ac ρ'->E.nx ac H'
  |.rt d=>∀v G' H',Ch G0 F0 G' H'->Aq X.K G' d v->E.rt v H')->t E Z H):DS X own be st q1:=⟨λG0 F0 hb s Z H E I ⟨G,ρ,r,er,e,k⟩=>h hb s Z H E I (hw G0 F0 E Z G H ρ r er e k)⟩
def SR.grow(s:e5!)(x:jC!):SR KF own G0 F0 G' H' Z ρ:=⟨s.or.grow x,s.ext.trans x,s.fr⟩
def SR.set(s:e5!)(hi:aN_)(r:cA!):SR KF own G0 F0 G H eq! bG_:=
 ⟨s.or.set hi r,s.ext,λj hj p e=>by
  have ne:i≠j:=λz=>hi oV_;rw[LP ne]at e;exact s.fr j hj p e⟩
def Co:Ag->Option Fl:=λρ=>some S_
nonrec def sSeq(q1 q2:cC_):Ag->Option Fl:=λρ=>(q1 ρ).bind λr=>match r with|.nx ρ'=>q2 ρ'|.rt d=>some aH_
def dN:Yv X own own [] Co:=⟨by
 rintro G0 F0 hb s Z H E I ⟨G,ρ,r,er,e,k⟩;cases e;exact a8n hb s Z H E I (k G Z H er)⟩
def bC(Y:yw!)(h2:Yv X be jz rest q2):Yv X own jz id! (sSeq q1 q2):=⟨by
 rintro G0 F0 hb s Z H E I ⟨G,ρ,r,er,e,k⟩;refine tI oW! yx! hb s Z H E I ?_;obtain⟨r1,e1,e2⟩:=JZ.mp e;refine⟨G,ρ,r1,er,e1,?_⟩;cases r1 with
 |nx ρ'=>exact λG' ac H' cu=>⟨G',ρ',r,cu,e2,k⟩
 |rt d=>
  cases e2;exact k⟩
def bD(Y:yw!):Yv X own be [st] q1:=⟨λG0 F0=>fR oW!⟩
def SR.free(s:e5!):SR KF [] G0 F0 e0_ H Z ρ:=by
 have o:=s.or.full;refine⟨o,⟨jB_,s.ext.h,o.sub,bd!⟩,ar!⟩
 .have z:=s.ext.g b u e;unfold Km;split
  .exact s.or.sub b u z
  .exact z
 .unfold Km at h;split at h
  .rename_i J;obtain⟨i,hi,q⟩:=mF J;exact .inr (s.fr i hi b q)
  .exact s.ext.new b h
def a4c(h:Yv X [] jz rest q1):Yv X own jz rest q1:=⟨λG0 F0 hb s Z H E I ⟨G,ρ,r,er,e,k⟩=>h.ok G0 F0 hb s Z H E I ⟨_,ρ,r,er.free,e,k⟩⟩
def Bd(f:o_):Ag->Option Fl:=λρ=>(ae_).map Fl.rt
def bX(h:c7!):DS X own be mn_ (Bd f):=c5d (b4u h.ok) λG0 F0 E Z G H ρ r er e' k=>by
 obtain⟨d,e1,rfl⟩:=KI.mp e';exact⟨G,ρ,d,er.or,e1,λv G' H' x r=>k v G' H' (er.ext.trans x) r⟩
def Ck(i:Nat)(f:o_):Ag->Option Fl:=λρ=>(ae_).map λd=>.nx bG_
def fM(hN:aR!)(hi:Y_)(hx:a2_)(h:c7!)(bp:aN_:=by decide)(hs:oW_:=by rfl)
  (hf:X.fn x=true\/X.env.scope.names.lookup x=some .local:=by first|exact .inl rfl|exact .inr rfl|assumption):DS X own own yy_ (Ck i f):=
 c5d yz! λG0 F0 E Z G H ρ r er e' k=>by
  obtain⟨d,e1,rfl⟩:=KI.mp e';exact⟨G,ρ,d,er.or,e1,λv G' H' x r=>k G' _ H' ((jV_).set bp r)⟩
def Gc(ft:bH!)(q1 q2:cC_):Ag->Option Fl:=λρ=>(gR_).bind λb=>if b then q1 ρ else q2 ρ
def gR(hc:xA_)(Y:Yv X own be b1 q1)(h2:Yv X own be b2 q2):DS X own be oX! (Gc ft q1 q2):=⟨by
 rintro G0 F0 hb s Z H E I ⟨G,ρ,r,er,e',k⟩;refine b4w hc.ok oW! yx! hb s Z H E I ?_;obtain⟨x,e1,e2⟩:=JZ.mp e';refine⟨G,ρ,x,er.or,e1,λG' H' x'=>?_⟩;cases x with
 |true=>exact kB yA!
 |false=>exact kP yA!⟩
def Ma(i:Nat)(fs:bd_):Ag->Option Fl:=λρ=>(e1_).bind λds=>if g!<=1000 then some (.nx oX_)else none
def SR.ownNew(s:e5!)(hi:aN_)(hl:i<ep!)(r:jX!)(hp:cy!):
  SR KF (i::own) G0 F0 G jA_ yA_ oX_:=by
 have wy:i<gO!:=by rw[s.or.len];exact hl
 have wz:Bc H jA_:=iG hp;show"#0";refine⟨⟨yB!,by rw[PB,PB,s.or.len],yC!,jX_,λj hj k hk hne a b e1 e2=>?_⟩,⟨s.ext.g,s.ext.h.trans wz,yB!,s.ext.new⟩,λj hj a e=>?_⟩
 .have cy:i≠j:=λz=>n (by rw[z];exact KD);rw[dU_]at q ⊢;exact s.or.at_ j d q λz=>n (KA _ z)
 .obtain z|z:=KG.mp hj
  .subst z;exact⟨p,ds,vs,yD!,by rw[MC hl],bY,s.or.sub.free hp,r⟩
  .have cy:i≠j:=λy=>hi (y▸z);obtain⟨a,pv,f7,Y,h2,h3,h4,h5⟩:=s.or.own_ j z;exact⟨a,pv,f7,by rw[dU_];exact Y,by rw[dU_];exact h2,by rw[aY (ne h3)];exact h3,h4,h5⟩
 .have look:∀{j:Nat} {a:u0!},j∈i::own->yA_[j]?=some jY_->(j=i/\a=p)\/(j≠i/\j∈own/\Z[j]?=some jY_/\a≠p):=λ{j a} hj e=>by
   by_cases cy:i=j
   .subst cy;rw[MC hl]at e;cases e;exact .inl aJ_
   .rw[dU_]at e;have hm:j∈own:=(KG.mp hj).elim yE! id;obtain⟨a',pv,f7,Y,h2,h3,h4,h5⟩:=s.or.own_ j hm;rw[e]at h2;cases h2;exact .inr ⟨LQ cy,hm,e,ne h3⟩
  obtain⟨z1,z2⟩|⟨z1,z2,z3,z4⟩:=look hj e1
  .obtain⟨y1,y2⟩|⟨y1,y2,y3,y4⟩:=look hk e2
   .exact absurd (z1.trans y1.symm) hne
   .rw[z2];exact LQ y4
  .obtain⟨y1,y2⟩|⟨y1,y2,y3,y4⟩:=look hk e2
   .rw[y2];exact z4
   .exact s.or.dis j z2 k y2 hne a b z3 y3
 .by_cases cy:i=j
  .subst cy;rw[MC hl]at e;cases e;exact s.ext.h.free hp
  .rw[dU_]at e;exact s.fr j ((KG.mp hj).elim yE! id) a e
def nJ{p3 p4:Pos}(hN:aR!)(hi:Y_)(hx:a2_)(h:jI!)(bp:aN_:=by decide)
  (hf:X.fn x=true\/X.env.scope.names.lookup x=some .local:=by first|exact .inl rfl|exact .inr rfl|assumption)(cm:swapsWith oZ! (some (.Name x p3)) p4.line X.env=pure false:=by rfl):DS X own (i::own) (.Assign [.Name x p3] oZ! p4) (Ma i fs):=⟨by
  rintro G0 F0 hb s Z H E I ⟨G,ρ,r,er,e',k⟩;refine tJ hN hi hx jJ! cm hf hb s Z H E I ?_;have hl:i<ep!:=by rw[I.len];exact(KS.mp hi).1
  obtain⟨ds,e1,e2⟩:=JZ.mp e';split at e2
  .rename_i hsz;cases e2;exact⟨G,ρ,ds,er.or,e1,λvs G' H' x r=>⟨by rw[<-aJ r];exact eU hsz,λp hp=>k G' _ _ ((jV_).ownNew bp hl r hp)⟩⟩
  .cases e2⟩
def SR.upd(s:e5!)(hi:dQ!)(hp:w4!)(r:jX!):
  SR KF own G0 F0 G jA_ Z oX_:=by
 obtain⟨p',pv,f7,Y,h2,h3,h4,h5⟩:=s.or.own_ i hi;rw[hp]at h2;cases h2;have hG:∀{b u},G b=some u->b≠p:=λe=>cK e h4;have hF:∀{b u},F0 b=some u->b≠p:=λe=>cK e (s.fr i hi p hp);have wy:i<gO!:=(jZ!).1;refine⟨⟨yF!,by rw[PB,s.or.len],yC!,jX_,s.or.dis⟩,⟨s.ext.g,λb u e=>by rw[aY (hF e)];exact s.ext.h b u e,yF!,s.ext.new⟩,s.fr⟩
 .have cy:i≠j:=λz=>n o1!;rw[dU_]at q;exact s.or.at_ j d q n
 .by_cases cy:i=j
  .subst cy;exact⟨p,ds,vs,yD!,hp,bY,h4,r⟩
  .obtain⟨a,Y7,VN,g1,g2,g3,g4,g5⟩:=s.or.own_ j hj;have ne:a≠p:=LQ (s.or.dis i hi j hj cy p a hp g2);exact⟨a,Y7,VN,by rw[dU_];exact g1,g2,by rw[aY ne];exact g3,g4,g5⟩
def Pd(i:Nat)(f:o_):Ag->Option Fl:=λρ=>(ae_).bind λd=>match ρ[i]? with|some (some (.lst ds))=>if g!<big then some yG! else none|_=>none
def qP(bp:dQ!:=by decide)(h:c7!)(hN:Y_:=by rfl)(hv:cl!:=by first|exact Or.inl rfl|exact Or.inr b_|exact Or.inr aV_)
  (hd:y!:=by decide)(bq:cl_:=by decide)
  (hst:gW!:=by rfl)(gj:((jh_).all cs_&&(ct!).all ct_
   &&decide yG_)=true:=by rfl) (gn:dJ_:=by rfl)
  (gi:attributeBase bf_ "append" X.env jZ_=eval bf_ X.env:=by rfl) (gq:gW_:=by rfl) (ez:swapsWith yH! none pos.line X.env=pure false:=by rfl):
  DS X own own (.Expr yH! pos) (Pd i f):=⟨by
  rintro G0 F0 hb s Z H E I ⟨G,ρ,r,er,e',k⟩;refine nW (wN RJ PySem.F.slot_list_append PySem.F.type_list_append wX jD_ yH_ gi gj gn hst gq) ez hb s Z H E I ?_;obtain⟨d,e1,e2⟩:=JZ.mp e';obtain⟨p,ds,vs,Y,h2,h3,h4,h5⟩:=er.or.own_ i bp;rw[Y]at e2;simp only at e2;split at e2
  .rename_i hl;cases e2;refine⟨e7!,h2,o3_,G,ρ,d,er.or,e1,λv G' H' x r=>⟨p,vs,v,rfl,rfl,x.h _ _ h3,?_,?_⟩⟩
   .rw[<-aJ h5];exact LJ hl (cV r!)
   .exact k G' Z _ ((jV_).upd bp h2 (dA o4_ (Am.cons r Am.nil)))
  .cases e2⟩
def Ve(i:Nat)(fx fv:o_):Ag->Option Fl:=λρ=>(fv ρ).bind λd=>(fx ρ).bind λx=>match x,ρ[i]? with|.int j,some (some (.lst ds))=>(o6_).map λk=>.nx yJ!|_,_=>none
def b8w(bp:dQ!:=by decide)(hx:yJ_)(hv:DE X own e fv)(hN:Y_:=by rfl)(w5:cl!:=by first|exact Or.inl rfl|exact Or.inr b_|exact Or.inr aV_)
  (hd:y!:=by decide)(bq:cl_:=by decide)
  (ha:∀v,assign yK! X.env v=(do
   let ov <-holding [v] jZ_
   let iv <-holding [v,ov] (eval ix X.env)
   standAt p2
   holding ev_ mr!
   release ev_ []):=by intro _;rfl)
  (hs:swapsWithSole j3! e pos.line X.env=pure false:=by rfl) (hw:swappedStores j3! e X.env=pure none:=by rfl)
  (Y:(assignEach j3! X.env).map R!=[assign yK! X.env]:=by rfl):
  DS X own own (.Assign j3! e pos) (Ve i fx fv):=⟨by
  rintro G0 F0 hb s Z H E I ⟨G,ρ,r,er,e',k⟩;refine b4y hv.ok (b5e yK_ hx.ok a1q ha) hs hw Y hb s Z H E I ?_;obtain⟨d,e1,e2⟩:=JZ.mp e';obtain⟨z,e3,e4⟩:=JZ.mp e2;obtain⟨p,ds,vs,Y,h2,h3,h4,h5⟩:=er.or.own_ i bp;rw[Y]at e4;cases z<;>first|cases e4|skip
  rename_i j;obtain⟨n,e5,rfl⟩:=KI.mp (show(o6_).map _=some r from e4);refine⟨G,ρ,d,er.or,e1,λv G' H' x r=>⟨e7!,h2,G',ρ,ex!,yL!,e3,yL_⟩⟩;cases aZ r2;refine⟨p,vs,j,n,rfl,rfl,yM!,by rw[<-aJ h5];exact e5,?_⟩;exact k G2 Z _ ((yM_).upd bp h2 (tE (r.mono x2.g) n ((o4_).mono x2.g)))⟩
def Lm(i:Nat)(fx:o_):Ag->Option D:=λρ=>(fx ρ).bind λx=>match x,ρ[i]? with|.int j,some (some (.lst ds))=>De ds j|_,_=>none
def qQ(bp:dQ!:=by decide)(hx:yJ_)(hs:Pm ix)(hN:Y_:=by rfl)(w5:cl!:=by first|exact Or.inl rfl|exact Or.inr b_|exact Or.inr aV_)
  (hd:y!:=by decide)(bq:cl_:=by decide):DE X own (.Subscript bf_ ix pos) (Lm i fx):=
 eO (b5m a9r yK_ hx.ok hs) λZ G H Q ρ d er e k=>by
  obtain⟨z,e3,e4⟩:=JZ.mp e;obtain⟨p,ds,vs,Y,h2,h3,h4,h5⟩:=er.own_ i bp;rw[Y]at e4;cases z<;>first|cases e4|skip
  rename_i j;have e5:De ds j=some d:=e4;obtain⟨v,e6,r6⟩:=nT h5 e5;refine⟨e7!,h2,G,ρ,ex!,er,e3,yL_⟩;cases aZ r2;exact⟨p,vs,j,v,rfl,rfl,Fm.of (x2.h _ _ h3),e6,k v G2 H2 x2 (r6.mono x2.g)⟩
def Qk(bnd:b5_)(q:cC_):List D->Ag->Option Fl
 |[],ρ=>some S_
 |d::ds,ρ=>(jT!).bind λak=>(q ak).bind λr=>match r with|.nx bc=>Qk bnd q ds bc|.rt d=>some aH_
def Rb(fi:bd_)(bnd:b5_)(q:cC_):Ag->Option Fl:=λρ=>(fi ρ).bind λds=>Qk bnd q ds ρ
def Qq(F0 G1:Hp):Hp:=λb=>match F0 b with|some o=>some o|none=>G1 b
def SR.base(s:SR KF own G0 F0 G1 H1 Z ρ):SR KF own G1 gY! G1 H1 Z ρ:=by
 refine⟨s.or,⟨Bc.refl _,jB_,s.or.sub,db_⟩,yN_⟩
 .unfold Qq at e;show"!8"
  .rename_i o ho;cases e;exact s.ext.h b _ ho
  .exact s.or.sub b u e
 .obtain⟨p',ds,vs,Y,h2,h3,h4,h5⟩:=s.or.own_ i hi;rw[e]at h2;cases h2;unfold Qq;rw[s.fr i hi p e];exact h4
def uW(x:yO!)(y:Ch G1 gY! G' H'):Ch G0 F0 G' H':=by
 refine⟨x.g.trans y.g,λb u e=>y.h b u ?_,y.sub,bd!⟩
 .unfold Qq;rw[e]
 .obtain z|z:=y.new b h
  .exact x.new b z
  .right;unfold Qq at z;split at z
   .cases z
   .assumption
def SR.unbase(x:yO!)(s:SR KF own G1 gY! G' H' Z ρ):SR KF own G0 F0 G' H' Z ρ:=
 ⟨s.or,uW x s.ext,λi hi p e=>by
  have z:=s.fr i hi p e;unfold Qq at z;split at z
  .cases z
  .assumption⟩
def Cj(i:Nat):D->Ag->Option Ag:=λd ρ=>some bG_
def a7c(hp:fY_)(hc:ao_)(am:DI X own c9! iter fi)(hN:aR!)(hi:Y_)(hx:a2_)(J:Yv X own own body q1)(bp:aN_:=by decide)
  (hf:X.fn x=true\/X.env.scope.names.lookup x=some .local:=by first|exact .inl rfl|exact .inr rfl|assumption)(hs:cT_:=by intro _;rfl):
  DS X own own (.For c9! iter body [] pos) (Rb fi (Cj i) q1):=⟨by
 rintro G0 F0 hb s Z H E I ⟨G,ρ,r,er,e',k⟩;obtain⟨ds,e1,e2⟩:=JZ.mp e';have f8:Ox X body (λE Z H=>∃A B,FM X.K A B own own q1 E Z H):=λhb s Z H E I ⟨A,B,h⟩=>J.ok A B hb s Z H E I h;refine b4x hp hc am.ok (bE hN hi hx hf) f8 hs hb s Z H E I ⟨G,ρ,ds,er.or,e1,yu!⟩;have VO:Ch G0 F0 G1 H1:=er.ext.trans x1;refine⟨λn m ac H'=>n<=g!/\m=g! - n/\∃G' ρ',SR X.K own G1 gY! G' H' ac ρ'/\Qk (Cj i) q1 op_ ρ'=some r,
  ⟨g!,LY _,rfl,G1,ρ,(yu_).base,e2⟩,?_⟩
 rintro n m ac H' ⟨hn,rfl,G',ρ',cu,e3⟩;obtain⟨m9,na⟩:=eh n G' H' cu.ext.g cu.or.sub;by_cases al:n<g!
 .right;have hd:ds[n]?=some ds[n]:=by simp[al]
  have wx:ds.drop n=ds[n]::ds.drop dc!:=PV al;rw[wx]at e3;unfold Qk at e3;obtain⟨ak,e4,e3⟩:=JZ.mp e3;obtain⟨r1,e5,e3⟩:=JZ.mp e3;cases e4;obtain⟨go,yl⟩:=m9 _ hd;refine⟨go,λc8 H2=>∃G2 bc,SR X.K own G1 gY! G2 H2 c8 bc/\Qk (Cj i) q1 yP_ bc=some r,λc8 H2 ⟨G2,bc,Y,h2⟩=>⟨g! - dc!,p!,al,rfl,G2,bc,Y,h2⟩,oS_⟩;obtain⟨G2,x2,r2⟩:=yl v H2 hy;refine⟨G1,Qq F0 G1,G2,_,r1,(yp_).set bp r2,e5,?_⟩;cases r1 with
  |nx bc=>exact λG3 gg H3 jy=>⟨G3,bc,jy,e3⟩
  |rt d=>
   cases e3;exact λw G3 H3 x3 r3=>k w G3 H3 (uW VO x3) r3
 .left;have ir:n=g!:=by omega
  refine o9!;rw[ir,TD]at e3;cases e3;exact k G' ac H' (SR.unbase VO cu)⟩
def sU(s:E!)(r:jX!):OR KF [] G H (L2.Mi N vs) gY_:=by
 have hl:=aJ r;unfold L2.Mi;refine⟨s,by simp[hl],ot!,ar!,ar!⟩;by_cases hi:i<g!
 .rw[iR!,LZ]at q;obtain⟨d',Y,h2⟩:=KI.mp q;cases h2;obtain⟨v,h3,h4⟩:=gM r Y;exact⟨v,by rw[NW (by simpa[<-hl]using hi),LZ,h3];rfl,h4⟩
 .rw[eI_,OO]at q;split at q<;>cases q
end
def c8g{st:Stmt}
  (F:yQ!)(S:c3!)
  (J:∀(ag:zp!) (A:zm!) (outer:ao!) (s:zz!) (H:Hp) (E:XK),Ah k o9_->Yv (pa!).nox [] cg bp_ q)
  (hg:∀ds d,g!=P!->g ds=some d->q gY_=some aH_\/∃ρ,q gY_=some S_/\d=.non):
  Fk P w KF mg base Pj M_ ae fd ps pa_:=by
 refine yR_;obtain⟨hl,G,ds,d,sub,r,e,kk⟩:=h;refine⟨_,(yS!).ok G H,?_⟩;have er:=sU (N:=N) sub r;rcases hg ds d (by rw[aJ r];exact hl) e with z|⟨ρ,z,rfl⟩
 .exact⟨G,_,_,yS_,z,λv G' H' x r=>kk v G' H' x r⟩
 .exact⟨G,_,_,yS_,z,λG' ac H' cu=>kk _ G' H' cu.ext Aq.non⟩
mutual
noncomputable def Ej:D->D->Bool
 |.non,.non=>true
 |.bl a,.bl b=>a==b
 |.bl a,.int b=>u2!==b
 |.int a,.bl b=>a==u2_
 |.int a,.int b=>a==b
 |.str a,.str b=>a==b
 |.tup xs,.tup ys=>Iu xs ys
 |.lst xs,.lst ys=>Iu xs ys
 |_,_=>false
noncomputable def Iu:List D->List D->Bool
 |[],[]=>true
 |x::xs,y::ys=>Ej x y&&Iu xs ys
 |_,_=>false
end
mutual
noncomputable def Ba:D->Bool
 |.fn _=>false
 |.dk _=>false
 |.tup xs=>Bu xs
 |.lst xs=>Bu xs
 |_=>true
noncomputable def Bu:List D->Bool
 |[]=>true
 |d::ds=>Ba d&&Bu ds
end
section
variable{X:Cx}
def sS(I:d!)(h:j4_)(h':Fm X.K H a ws):False:=by obtain⟨_,_,⟨o,e,c,_⟩,_⟩:=I.tuple h;obtain⟨_,_,⟨o',n,e',c',_⟩,_⟩:=I.list h';rw[e]at e';cases e';rw[c]at c';exact absurd c' c!
mutual
theorem yO(I:d!):∀(d d':D) (v:V),Ba d=true->Ba d'=true->Aq X.K H d v->Aq X.K H d' v->d=d'
 |.non,d',v,n,n',r,r'=>by
  cases dW r;cases d'<;>first
   |rfl
   |(unfold Aq at r';cases r';done)
   |(obtain⟨a,vs,e,_⟩:=bR r';cases e)
   |(obtain⟨a,vs,e,_⟩:=bP r';cases e)
   |(unfold Ba at n';cases n')
 |.bl b,d',v,n,n',r,r'=>by
  cases cW r;cases d'<;>first
   |(cases cW r';rfl;done)
   |(unfold Aq at r';cases r';done)
   |(obtain⟨a,vs,e,_⟩:=bR r';cases e)
   |(obtain⟨a,vs,e,_⟩:=bP r';cases e)
   |(unfold Ba at n';cases n')
 |.int b,d',v,n,n',r,r'=>by
  cases aZ r;cases d'<;>first
   |(cases aZ r';rfl;done)
   |(unfold Aq at r';cases r';done)
   |(obtain⟨a,vs,e,_⟩:=bR r';cases e)
   |(obtain⟨a,vs,e,_⟩:=bP r';cases e)
   |(unfold Ba at n';cases n')
 |.str b,d',v,n,n',r,r'=>by
  cases cD r;cases d'<;>first
   |(cases cD r';rfl;done)
   |(unfold Aq at r';cases r';done)
   |(obtain⟨a,vs,e,_⟩:=bR r';cases e)
   |(obtain⟨a,vs,e,_⟩:=bP r';cases e)
   |(unfold Ba at n';cases n')
 |.tup xs,d',v,n,n',r,r'=>by
  obtain⟨a,vs,rfl,q,rr⟩:=bR r;cases d' with
  |tup ys=>
   obtain⟨a',f7,e,q',bv⟩:=bR r';cases e;have:=I.tuple_inj q q';subst this;unfold Ba at n n';rw[yU!]
  |lst ys=>
   obtain⟨a',f7,e,q',bv⟩:=bP r';cases e;exact(sS I q q').elim
  |fn b=>unfold Ba at n';cases n'
  |dk b=>unfold Ba at n';cases n'
  |non=>cases dW r'
  |bl b=>cases cW r'
  |int b=>cases aZ r'
  |str b=>cases cD r'
 |.lst xs,d',v,n,n',r,r'=>by
  obtain⟨a,vs,rfl,q,rr⟩:=bP r;cases d' with
  |lst ys=>
   obtain⟨a',f7,e,q',bv⟩:=bP r';cases e;have:=I.list_inj q q';subst this;unfold Ba at n n';rw[yU!]
  |tup ys=>
   obtain⟨a',f7,e,q',bv⟩:=bR r';cases e;exact(sS I q' q).elim
  |fn b=>unfold Ba at n';cases n'
  |dk b=>unfold Ba at n';cases n'
  |non=>cases dW r'
  |bl b=>cases cW r'
  |int b=>cases aZ r'
  |str b=>cases cD r'
 |.fn a,d',v,n,n',r,r'=>by unfold Ba at n;cases n
 |.dk a,d',v,n,n',r,r'=>by unfold Ba at n;cases n
theorem tG(I:d!):∀(ds es:e!) (vs:q!),Bu ds=true->Bu es=true->Am X.K H ds vs->Am X.K H es vs->ds=es
 |[],es,vs,n,n',r,r'=>by
  cases cM r;cases es with
  |nil=>rfl
  |cons e es=>obtain⟨v,t,z,_⟩:=bM r';cases z
 |d::ds,es,vs,n,n',r,r'=>by
  obtain⟨v,t,rfl,r1,r2⟩:=bM r;cases es with
  |nil=>cases cM r'
  |cons e es=>
   obtain⟨v',t',z,w6,w9⟩:=bM r';cases z;unfold Bu at n n';rw[LN]at n n';rw[yO I d e v n.1 n'.1 r1 w6,tG I ds es t n.2 n'.2 r2 w9]
end
mutual
theorem pC:∀d:D,Ba d=true->Ej d d=true
 |.non,_=>by simp[Ej]
 |.bl b,_=>by simp[Ej]
 |.int i,_=>by simp[Ej]
 |.str s,_=>by simp[Ej]
 |.tup xs,h=>by unfold Ej;exact qL xs yV!
 |.lst xs,h=>by unfold Ej;exact qL xs yV!
 |.fn a,h=>by simp[Ba]at h
 |.dk k,h=>by simp[Ba]at h
theorem qL:∀ds:List D,Bu ds=true->Iu ds ds=true
 |[],_=>by simp[Iu]
 |d::ds,h=>by
  unfold Bu at h;rw[LN]at h;unfold Iu;rw[pC d h.1,qL ds h.2];rfl
end
def a1u(I:d!)(d d':D)(v:V)(n:b6_)(n':e7_)(r:dW_)(r':Aq X.K H d' v):Ej d d'=true:=by rw[<-yO I d d' v n n' r r'];exact pC d n
def iE(A:zm!):A.in1.units=A.units+1:=rfl
def lU:∀(xs ys:e!),i!=N_->((List.range i!).all λj=>Ej (xs.getD j .non) (ys.getD j .non))=Iu xs ys
 |[],[],_=>rfl
 |x::xs,y::ys,h=>by
  have ih:=lU xs ys j5_;unfold Iu;rw[KO,List.range_succ_eq_map,QU,<-ih,List.all_map];rfl
 |[],_::_,h=>by simp at h
 |_::_,[],h=>by simp at h
def lQ:∀(xs ys:e!),i!≠N_->Iu xs ys=false
 |[],[],h=>absurd rfl h
 |x::xs,y::ys,h=>by
  unfold Iu;rw[lQ xs ys j5_,TZ]
 |[],_::_,_=>rfl
 |_::_,[],_=>rfl
def oV(rd:gZ_)(re:g0!)(rv:er_)(av:Az ws us')
  (h:∀(j:Nat) u u',us[j]?=some u->us'[j]?=some u'->SeqAt.EqAt A s u u' j6!):
  ∀j (Y:j<j6_) (h2:j<pd!),SeqAt.EqAt A s cx![j] pd_[j] j6!:=λj Y h2=>by
 have l1:j<ad_:=by simpa using Y
 have l2:j<us'.length:=by simpa using h2
 exact h j _ _ (by simp[l1]) (by simp[l2])
def wM(I:d!)(qa:j4_)(qb:yW_)(rd:gZ_)(re:g0!)(hu:ak_)
  (h:j7!):SeqAt.RcAt A s F! dE_ (Iu ds es):=by
 obtain⟨us,rv,p1,_⟩:=I.tuple qa;obtain⟨us',av,p2,_⟩:=I.tuple qb;have Y:=aJ rd;have h2:=aJ re;have h3:=ew!;have h4:=j7_;have z:=SeqAt.RcAt.tuples (A:=A) (e:=j8!) p1 p2 hu j8_;have e:yY!=Iu ds es:=by
  show"#-"
  .rw[hl,Nat.min_self,<-hl,j9!,hl];simp
  .rw[j9_];have:(g!==ab!)=false:=by simpa using hl
   rw[this,TZ]
 rw[e]at z;exact z
def a1z(I:d!)(qa:pe!)(qb:yY_)(rd:gZ_)(re:g0!)(hu:ak_)
  (h:j7!):SeqAt.RcAt A s F! dE_ (Iu ds es):=by
 show"!B";have h4:=j7_;by_cases hl:g!=ab!
 .have z:=SeqAt.RcAt.lists (A:=A) (e:=j8!) p1.isList p2.isList oC! hu j8_;rw[KH,<-h3,<-Y,j9!]at z;exact z
 .rw[j9_];exact SeqAt.RcAt.lists_lengths p1.isList p2.isList yZ! hu
def b7u(I:d!)(q:j4_):∃items,s.heap.IsTuple a items:=let⟨its,_,p,_⟩:=I.tuple q;⟨_,p⟩
def b2n(I:d!)(q:pe!):∃items,s.heap.IsList a items:=let⟨its,_,p,_⟩:=I.list q;⟨_,p.isList⟩
inductive RV(X:Cx)(H:Hp)(s:zz!):D->Value->Prop
 |non:RV X H s .non .none
 |bl (b:Bool):RV X H s bk! mc!
 |int (i:Int) (t:Tok):RV X H s bR! do!
 |str (x:Str) (t:Tok):RV X H s bx_ fH_
 |tup {xs:e!} {a:u0!} {its:cj!}:s.heap.IsTuple a its->RV X H s bw_ F!
 |lst {xs:e!} {a:u0!} {its:cj!}:s.heap.IsList a its->RV X H s M! F!
def wJ(I:d!)(n:b6_)(r:dW_)(ru:a3!):RV X H s d u:=by
 cases d with
 |non=>cases dW r;cases ru;exact .non
 |bl b=>cases cW r;cases ru;exact .bl b
 |int b=>cases aZ r;obtain⟨t,rfl⟩:=ru;exact .int b t
 |str b=>cases cD r;obtain⟨t,rfl⟩:=ru;exact .str b t
 |tup ys=>obtain⟨a,ws,rfl,q,_⟩:=bR r;cases ru;obtain⟨its,p⟩:=b7u I q;exact .tup p
 |lst ys=>obtain⟨a,ws,rfl,q,_⟩:=bP r;cases ru;obtain⟨its,p⟩:=b2n I q;exact .lst p
 |fn a=>unfold Ba at n;cases n
 |dk a=>unfold Ba at n;cases n
def lR(I:d!)(n:b6_)(n':e7_)(hu:ak_)(r:dW_)(r':g1!)(ru:a3!)(ay:g1_)(hT:∀xs ys,d=.tup xs->d'=.tup ys->SeqAt.EqAt A s u u' dd_)(hL:∀xs ys,d=.lst xs->d'=.lst ys->SeqAt.EqAt A s u u' dd_):SeqAt.EqAt A s u u' dd_:=by
 show"!f"
 all_goals first|exact hT _ _ rfl rfl|exact hL _ _ rfl rfl|(unfold Ej;with_reducible first|exact .none_none|exact .same _|exact .none_bool _|exact .none_int _ _|exact .none_str _ _|exact .none_tuple ‹_› hu|exact .none_list ‹_› hu|exact .bool_none _|exact .bool_bool _ _|exact .bool_int _ _ _|exact .bool_str _ _ _|exact .bool_tuple _ ‹_› hu|exact .bool_list _ ‹_› hu|exact .int_none _ _|exact .int_bool _ _ _|exact .int_int _ _ _ _|exact .int_str _ _ _ _|exact .int_tuple _ _ ‹_› hu|exact .int_list _ _ ‹_› hu|exact .str_none _ _|exact .str_bool _ _ _|exact .str_int _ _ _ _|exact .str_str _ _ _ _|exact .str_tuple _ _ ‹_› hu|exact .str_list _ _ ‹_› hu|exact .tuple_none ‹_› hu|exact .tuple_bool _ ‹_› hu|exact .tuple_int _ _ ‹_› hu|exact .tuple_str _ _ ‹_› hu|exact .tuple_list ‹_› ‹_› hu|exact .list_none ‹_› hu|exact .list_bool _ ‹_› hu|exact .list_int _ _ ‹_› hu|exact .list_str _ _ ‹_› hu|exact .list_tuple ‹_› ‹_› hu)
def c5u(I:d!)(n:b6_)(n':e7_)(hu:ak_)(r:dW_)(r':g1!)(ru:a3!)(ay:g1_)(hT:∀xs ys,d=.tup xs->d'=.tup ys->SeqAt.RcAt A s u u' dd_)(hL:∀xs ys,d=.lst xs->d'=.lst ys->SeqAt.RcAt A s u u' dd_):SeqAt.RcAt A s u u' dd_:=by
 show"!f"
 all_goals first|exact hT _ _ rfl rfl|exact hL _ _ rfl rfl|(unfold Ej;with_reducible first|exact .none_none|exact .same _|exact .none_bool _|exact .none_int _ _|exact .none_str _ _|exact .none_tuple ‹_› hu|exact .none_list ‹_› hu|exact .bool_none _|exact .bool_bool _ _|exact .bool_int _ _ _|exact .bool_str _ _ _|exact .bool_tuple _ ‹_› hu|exact .bool_list _ ‹_› hu|exact .int_none _ _|exact .int_bool _ _ _|exact .int_int _ _ _ _|exact .int_str _ _ _ _|exact .int_tuple _ _ ‹_› hu|exact .int_list _ _ ‹_› hu|exact .str_none _ _|exact .str_bool _ _ _|exact .str_int _ _ _ _|exact .str_str _ _ _ _|exact .str_tuple _ _ ‹_› hu|exact .str_list _ _ ‹_› hu|exact .tuple_none ‹_› hu|exact .tuple_bool _ ‹_› hu|exact .tuple_int _ _ ‹_› hu|exact .tuple_str _ _ ‹_› hu|exact .tuple_list ‹_› ‹_› hu|exact .list_none ‹_› hu|exact .list_bool _ ‹_› hu|exact .list_int _ _ ‹_› hu|exact .list_str _ _ ‹_› hu|exact .list_tuple ‹_› ‹_› hu)
mutual
theorem b8o(I:d!):∀(d d':D) (A:zm!) (v v':V) (u u':zp!),Ba d=true->Ba d'=true->A.units+Gx d<cLine->Aq X.K H d v->Aq X.K H d' v'->Bn v u->Bn v' u'->SeqAt.EqAt A s u u' dd_
 |.non,d',A,v,v',u,u',n,n',hu,r,r',ru,ay=>lR I n n' a! r r' ru ay aY_ aY_
 |.bl _,d',A,v,v',u,u',n,n',hu,r,r',ru,ay=>lR I n n' a! r r' ru ay aY_ aY_
 |.int _,d',A,v,v',u,u',n,n',hu,r,r',ru,ay=>lR I n n' a! r r' ru ay aY_ aY_
 |.str _,d',A,v,v',u,u',n,n',hu,r,r',ru,ay=>lR I n n' a! r r' ru ay aY_ aY_
 |.fn _,d',A,v,v',u,u',n,n',hu,r,r',ru,ay=>lR I n n' a! r r' ru ay aY_ aY_
 |.dk _,d',A,v,v',u,u',n,n',hu,r,r',ru,ay=>lR I n n' a! r r' ru ay aY_ aY_
 |.tup xs,d',A,v,v',u,u',n,n',hu,r,r',ru,ay=>lR I n n' a! r r' ru ay (λ_ ys e e'=>by
  cases e;subst e';obtain⟨a,vs,rfl,q,rr⟩:=bR r;obtain⟨b,ws,rfl,q',bv⟩:=bR r';cases ru;cases ay;by_cases k9:a=b
  .subst k9;rw[y0_];exact .same _
  .unfold Ba at n n';unfold Gx at hu;unfold Ej;exact .of_refs k9 (wM I q q' rr bv a! λus us' rv av=>kE I xs ys A.in1 vs ws us us' n n' e8_ rr bv rv av)) aY_
 |.lst xs,d',A,v,v',u,u',n,n',hu,r,r',ru,ay=>lR I n n' a! r r' ru ay aY_ (λ_ ys e e'=>by
  cases e;subst e';obtain⟨a,vs,rfl,q,rr⟩:=bP r;obtain⟨b,ws,rfl,q',bv⟩:=bP r';cases ru;cases ay;by_cases k9:a=b
  .subst k9;rw[y0_];exact .same _
  .unfold Ba at n n';unfold Gx at hu;unfold Ej;exact .of_refs k9 (a1z I q q' rr bv a! λus us' rv av=>kE I xs ys A.in1 vs ws us us' n n' e8_ rr bv rv av))
theorem kE(I:d!):∀(ds es:e!) (A:zm!) (vs ws:q!) (us us':k_),Bu ds=true->Bu es=true->A.units+Di ds<cLine->Am X.K H ds vs->Am X.K H es ws->Az vs us->Az ws us'->
  ∀(j:Nat) u u',us[j]?=some u->us'[j]?=some u'->SeqAt.EqAt A s u u' j6!
 |[],es,A,vs,ws,us,us',n,n',hu,r,r',rv,av,j,u,u',e,e'=>by
  cases cM r;cases rv;simp at e
 |d::ds,es,A,vs,ws,us,us',n,n',hu,r,r',rv,av,j,u,u',e,e'=>by
  obtain⟨v,t,rfl,r1,r2⟩:=bM r;cases es with
  |nil=>
   cases cM r';cases av;simp at e'
  |cons c es=>
   obtain⟨w,t',rfl,w6,w9⟩:=bM r';unfold Bu at n n';rw[LN]at n n';unfold Di at hu;cases rv with
   |cons px se=>
    cases av with
    |cons Y8 Y9=>
     cases j with
     |zero=>
      simp at e e';subst e e';exact b8o I d c A v w _ _ n.1 n'.1 a! r1 w6 px Y8
     |succ j=>
      exact kE I ds es A t t' _ _ n.2 n'.2 a! r2 w9 se Y9 j u u' cN! (by simpa using e')
end
def c5v(I:d!)(d d':D)(n:b6_)(n':e7_)(hu:y1!)(r:dW_)(r':g1!)(ru:a3!)(ay:g1_):SeqAt.RcAt A s u u' dd_:=
 c5u I n n' a! r r' ru ay (λxs ys e e'=>by
  subst e e';obtain⟨a,vs,rfl,q,rr⟩:=bR r;obtain⟨b,ws,rfl,q',bv⟩:=bR r';cases ru;cases ay;unfold Ba at n n';unfold Gx at hu;unfold Ej;exact wM I q q' rr bv a! λus us' rv av=>kE I xs ys A.in1 vs ws us us' n n' e8_ rr bv rv av) (λxs ys e e'=>by
  subst e e';obtain⟨a,vs,rfl,q,rr⟩:=bP r;obtain⟨b,ws,rfl,q',bv⟩:=bP r';cases ru;cases ay;unfold Ba at n n';unfold Gx at hu;unfold Ej;exact a1z I q q' rr bv a! λus us' rv av=>kE I xs ys A.in1 vs ws us us' n n' e8_ rr bv rv av)
def EG(KF:zA!):R2:=λx y H Q=>∃dx dy,Aq KF H dx x/\Aq KF H dy y/\Ba dx=true/\Ba dy=true/\Gx dx<=40/\Q (.bl (Ej dx dy)) H
def bZ(hu:al!):Gk X (compareOp .Eq) (EG X.K):=by intro hb s Z H x y v u Q I rx ry h;obtain⟨dx,dy,r1,r2,n1,n2,hd,q⟩:=h;exact c5v I dx dy n1 n2 a! r1 r2 rx ry X.prog X.w X.xe _ ka!
def Ax:D->D->Option D:=λx y=>if Ba x&&Ba y&&decide (Gx x<=40)then some (.bl (Ej x y))else none
def cB{KF:zA!}:Hs KF (EG KF) Ax:=by
 show"!1";unfold Ax at e;show"!8"
 .show"!o";cases e;exact y1_
 .cases e
end
section
variable{pos p2:Pos}
def Ca(g g':gP_)(fa fb fc:o_):Ag->Option D:=λρ=>(e1!).bind λx=>(jE!).bind λy=>(g x y).bind λz=>match z with
 |.bl true=>(fc ρ).bind λu=>g' y u
 |.bl false=>some Z!
 |_=>none
def a4h(ho:bS_)(hg:dR_)(d8:iw_)(sf:y3_)(ha:S!)(J:cB!)(hc:y2!)
  (hm:ix!:=by with_unfolding_all rfl):DE X own ix_ y2_:=
 eO (b5n ho d8 ha.ok J.ok hc.ok hm) λZ G H Q ρ d er e k=>by
  obtain⟨x,e1,e⟩:=JZ.mp e;obtain⟨y,e2,e⟩:=JZ.mp e;obtain⟨z,e3,e⟩:=JZ.mp e;refine y4!;have nh:=s1.trans gQ_;cases z<;>first|cases e|skip
  rename_i bb;cases cW r3;refine y4_;cases bb with
  |true=>
   obtain⟨u,e4,e⟩:=JZ.mp e;exact kB ⟨G3,ρ,u,er.grow nh,e4,λq G4 H4 s4 r4=>sf s4.sub y5_ r4 e λv G5 H5 s5 r5=>k v G5 H5 y6! r5⟩
  |false=>
   cases e;exact kP (k _ G3 H3 nh Aq.bl)
def Xc(f:o_):Ag->Option D:=λρ=>(ae_).bind λd=>match d with|.int i=>some (.int (-i))|_=>none
def b9d(h:S!):DE X own (.UnaryOp .USub a pos) (Xc fa):=
 eO (c9y c5j h.ok) λZ G H Q ρ d er e k=>by
  obtain⟨x,e1,e⟩:=JZ.mp e;cases x<;>first|cases e|skip
  refine e4_;cases aZ r1;exact⟨_,rfl,k _ G1 H1 s1 Aq.int⟩
def Kg:D->Bool
 |.non=>true
 |.bl _=>true
 |.int _=>true
 |.str _=>true
 |_=>false
def a3v(h:Kg d=true)(r:gN!):Mq v=true:=by
 cases d<;>first
  |(cases h;done)
  |(cases dW r;rfl)
  |(cases cW r;rfl)
  |(cases aZ r;rfl)
  |(cases cD r;rfl)
def c3a(h:Kg d=true)(h':Kg d'=true)(r:gN!)(r':Aq KF H d' v'):Yy v v'=Ej d d':=by
 cases d<;>first
  |(cases h;done)
  |skip
 all_goals (cases d'<;>first
  |(cases h';done)
  |skip)
 all_goals first
  |(cases dW r)
  |(cases cW r)
  |(cases aZ r)
  |(cases cD r)
 all_goals first
  |(cases dW r')
  |(cases cW r')
  |(cases aZ r')
  |(cases cD r')
 all_goals simp[Yy,Ej]
def a3x:∀{ds:e!} {vs:q!},ds.all Kg=true->Am KF H ds vs->vs.all Mq=true
 |[],vs,_,r=>by cases cM r;rfl
 |d::ds,vs,h,r=>by
  obtain⟨v,t,rfl,r1,r2⟩:=bM r;rw[QU,LN]at h;rw[QU,LN];exact⟨a3v h.1 r1,a3x h.2 r2⟩
def a3w(hx:Kg x=true)(rx:Aq KF H x v):∀{ds:e!} {vs:q!},ds.all Kg=true->Am KF H ds vs->FR v vs=ds.any λd=>Ej d x
 |[],vs,_,r=>by cases cM r;rfl
 |d::ds,vs,h,r=>by
  obtain⟨w,t,rfl,r1,r2⟩:=bM r;rw[QU,LN]at h;have ih:=a3w hx rx h.2 r2;unfold FR at ih ⊢;rw[PU,PU,ih,c3a h.1 hx r1 rx]
def CF:D->Option aG_
 |.tup xs=>some xs
 |.lst xs=>some xs
 |_=>none
def Vl(neg:Bool):D->D->Option D:=λx y=>(CF y).bind λds=>if Kg x&&ds.all Kg then some y7! else none
def d0j:Hs KF (HB KF neg) (Vl neg):=by
 show"!1";show"!H"
 .rename_i h;rw[LN]at h;cases e;have fin:∀{p:u0!} {vs:q!},(Fm KF H p vs\/Fz KF H p vs)->Am KF G ds vs->y=V.ref p->HB KF neg x y H Q:=λ{p vs} q r ey=>by
   refine⟨p,vs,ey,q,a3v h.1 rx,a3x h.2 r,?_⟩;rw[a3w h.1 rx h.2 r];show"!l"
  cases dy<;>first|(cases e1;done)|skip
  .cases e1;obtain⟨p,vs,ey,q,r⟩:=bR ry;exact fin (.inr kb!) r ey
  .cases e1;obtain⟨p,vs,ey,q,r⟩:=bP ry;exact fin (.inl (sub.seq q)) r ey
 .cases e
structure Ul(X:Cx)(x:Str)(bw:g2!):Prop where
 ex:∃(ad:u0!) (h1:List om!) (vs:List y8_),X.mg x=some kb_/\pg!=false/\(∀h:Heap,X.K.In h->h.DictOf (mixKind X.prog X.w) ad vs)/\KV h1 vs/\
  (∀y,Nb h1 dX_=none↔bw.lookup y=none)/\∀y d,bw.lookup y=some d->∃v,Nb h1 dX_=some v/\∀H,Aq X.K H d v
def AD(bw:g2!)(neg:Bool)(f:o_):Ag->Option D:=λρ=>(ae_).bind λd=>match d with|.str y=>some (.bl (if neg then !(pg_).isSome else(pg_).isSome))|_=>none
def Wj(bw:g2!)(f:o_):Ag->Option D:=λρ=>(ae_).bind λd=>match d with|.str y=>bw.lookup y|_=>none
def c3n(hd:Ul X x bw)(hg:H_)(ha:S!)(cm:FB a)(ax:y!:=by decide):DE X own (.Subscript c9! a pos) (Wj bw fa):=by
 show"#A";refine eO (t:=λZ H Q=>tD X.K own fa Z H λv H1=>∃y u,v=.str y/\Nb h1 dX_=some u/\Q u H1) y9! λZ G H Q ρ d er e k=>?_
 .refine c0h PySem.F.slot_dict_getitem.lookup cm (iD I hg ju (dF y9_ ?_) ax);rintro v s1 ⟨y,H1,I1,r1,z,u,hz,hu,q1⟩;subst hz;have dd:=xa _ I1.kIn;obtain⟨w',hw,av⟩:=Nu.some_of (v:=u) (o:=valueAt vs ph!) (by rw[<-hu];exact xb.val ph!);have ty:s1.TypeIs kb_ "dict":=by
   obtain⟨o,es,ep,Y,h2,_⟩:=dd;exact⟨o,Y,h2.1⟩
  exact⟨ty,wpAny_getItem_of (knd:=za_) (k:=pi!) za! dd.mapOf hw ⟨u,H1,I1.tok _,av,q1⟩⟩
 .obtain⟨x,e1,e⟩:=JZ.mp e;cases x<;>first|(cases e;done)|skip
  rename_i y;obtain⟨v,hv,hr⟩:=hs y d e;refine⟨G,ρ,_,er,e1,λw G1 H1 s1 r1=>?_⟩;cases cD r1;exact⟨y,v,rfl,hv,k _ G1 H1 s1 (hr G1)⟩
def Ok(P:zy!)(w:zx!)(KF:zA!)(mg:O_)(base:Heap)(k:Nat)(x:Str)(ps:G_)(g:b5!):Prop:=
 ∃ae fd,Fk P w KF mg base Pj k ae fd ps pa_/\Eu KF fd ps []/\mg x=some be!/\W.keepIn KF be!=true
def aT(F:zb!)(hr:a8_)(hg:H_)(ha:jJ_)(ao:xK!)
  (hn:xJ_:=by rfl)(ax:y!:=by decide)(he:ah!:=by rfl)(au:aM!:=by rfl):
  DE X own a9! oA!:=by
 show"#%";exact c3o Y hr hg h3 h4 h2 ha hn ao ax he au
def BG(P:zy!)(w:zx!)(KF:zA!)(mg:O_)(base:Heap)(k n:Nat)(bw:zc!):Prop:=
 ∀ae g,bw ae=some g->∃fd ps,P!=n/\Fk P w KF mg base Pj k ae fd ps pa_/\Eu KF fd ps []/\W.keepIn KF be!=true
def Oo(bw:zc!)(i:Nat)(fs:bd_):Ag->Option D:=λρ=>(Aa i ρ).bind λd=>match d with|.fn ae=>(bw ae).bind λg=>(e1_).bind g|_=>none
def b9e(F:BG X.prog X.w X.K X.mg X.base k n bw)(hr:a8_)(ha:jJ_)(ao:xL_)
  (hj:j∉own:=by decide)(hN:wb_:=by rfl)(hv:cl!:=by first|exact Or.inl rfl|exact Or.inr b_|exact Or.inr aV_)(ax:y!:=by decide)(bq:cl_:=by decide)
  (he:ah!:=by rfl)(au:aM!:=by rfl):
  DE X own a9! (Oo bw j fs):=⟨by
 intro hb s Z H Q I h;obtain⟨G,ρ,d,er,e1,kk⟩:=h;obtain⟨z,e2,e1⟩:=JZ.mp e1;cases z<;>first|(cases e1;done)|skip
 rename_i ae;obtain⟨g,e3,e1⟩:=JZ.mp e1;obtain⟨ds,e4,e1⟩:=JZ.mp e1;obtain⟨fd,ps,li,F1,F2,F3⟩:=F ae g e3;obtain⟨v,Y,h2⟩:=er.at_ j _ (join_some e2) hj;cases fQ h2;refine OQ (dF (jT hN hv ax bq hb s Z H (λu H'=>u=.ref ae/\H'=H) I ⟨_,Y,rfl,rfl⟩) ?_);rintro u s1 ⟨y,H1,I1,r1,hy,hH⟩;subst hy hH;cases r1;refine W.callWith_K (h₀:=X.base) I1.ok.mod.kin F3 (dF (ha.ok pos hb s1 Z H1 _ I1 ⟨G,ρ,ds,er,e4,λvs G2 H2 s2 r2=>(?_:(λvs H2=>Zo X.K ps.length g vs H2 Q E0) vs H2)⟩) λus s2 ⟨vs,H2,I2,r2,q2⟩=>si_) he au
 .exact⟨by rw[<-aJ r2,ao ρ ds e4,li],G2,ds,d,s2.sub,r2,e1,λv G3 H3 s3 r3=>kk v G3 H3 gQ_ r3⟩
 .exact yN (dvs:=[]) (ds:=[]) F1 hr F2 .nil tL I2 r2 (by rw[LR];exact q2)⟩
def GE(x:Str):It:=⟨zd!,λi H v H'=>H'=H/\∃c,x.cps[i]?=some c/\v=.str aj!,zd_⟩
def CH(f:o_):Ag->Option aG_:=λρ=>(ae_).bind λd=>match d with|.str x=>some ze!|_=>none
def c2o:AK KF (GE x) ze! G1:=by intro i G' H' s1 s2;refine⟨dT_,λhi=>by rw[KQ,MX]at hi;exact RG hi.symm⟩;rw[LZ]at hd;obtain⟨c,hc,rfl⟩:=KI.mp hd;rw[QQ]at hc;refine ze_;obtain⟨e1,c',bz,e2⟩:=hy;subst e1;rw[hc]at bz;cases bz;subst e2;exact⟨G',jS!,Aq.str⟩
def a1k(hd:zf!)
  (W:∀A':Around,pk!=none->Walks P w A' it [it] [it] x.cps.size (SignAt x) St')(Y':∀(A:zm!) (i:Nat) (s:zz!) (Q:K_) (E:K_),St' i s.heap->Q cn! s->wpAny C! A sK! Q E s):
  Su P w KF g3_ (GE x) [it] it zf_ where
 mem:=by simp
 obj:=λi h st b J=>by
  have e:b=it:=by simpa using J
  subst e;exact hd i h st.2
 keep:=λi h h' st k=>⟨st.1,by
  have Wd:=W callerA rfl;exact Wd.frame i h h' st.2 λb J o e=>k b J o e⟩
 item:=by
  show"!0";show"!3";refine(W X.A aS!).item i s _ _ hg st.2 λv h' tk hv σ kk=>?_;obtain⟨cc,u,gf,rfl⟩:=hv;show"![";exact⟨_,rfl,KB ⟨.str ⟨#[cc]⟩,H,I1,⟨u,rfl⟩,⟨rfl,cc,gf,rfl⟩,⟨hg,σ⟩,mz!⟩⟩
 done:=by
  show"!0";show"!3";show"#>";exact(W X.A aS!).done s _ _ st.2 λh' tk kk=>⟨rfl,I.turned mA! f0 f1 f3 f4 f5⟩
 self:=λA i s Q E st h=>Y' A i s Q E st.2 h
def c6c(hl:PE X a tl):PI X g3_ a (λZ H R=>tl Z H λv H1=>∃x,v=.str x/\R (GE x) H1):=by
 intro hb s Z H R I h;refine dF sT_ ?_;rintro v s1 ⟨u,H1,I1,r1,x,hx,q⟩;subst hx;obtain⟨t,rfl⟩:=r1;have VQ:∀(ty:String) (i:Nat) (h:Heap),h.IsStrIter s1.heap.objs.size ty x t i->∃o,h.get? x!=some o/\∀v,o.data≠.cell v:=λty i h st=>by
  show"!z"
 have fin:∀(ob:Obj) (St':ij_),Su X.prog X.w X.K g3_ (GE x) [x!] s1.heap.objs.size zf_->St' 0 (s1.heap.push ob)->
   FY X hb Z g3_ R (.ref x!) {s1 with heap:=s1.heap.push ob}:=λob St' T st=>by
  refine⟨x!,[x!],_,_,H1,rfl,mA_,T,⟨LY _,st⟩,cn_,q⟩;have e:b=x!:=by simpa using J
  show"!h"
 cases ha:x.cps.all (·<128)with
 |false=>
  exact wpAny_pyIter_wide ha (fin _ _ (a1k zg_ (λA' hA=>Walks.strWide hA _ x t) λA i s Q E st h=>wpAny_pyIter_striter_wide st h) ew_)
 |true=>
  exact wpAny_pyIter_ascii ha (fin _ _ (a1k zg_ (λA' hA=>Walks.strAscii hA _ x t) λA i s Q E st h=>wpAny_pyIter_striter_ascii st h) ew_)
def c8f(h:S!):DI X own g3_ a (CH fa):=a4e (c6c h.ok) λZ G H R ρ ds er e k=>by
 obtain⟨d,e1,e2⟩:=JZ.mp e;cases d with
 |str x=>
  cases e2;refine e4_;cases cD r1;exact⟨x,rfl,k _ G1 H1 s1 c2o⟩
 |_=>cases e2
def wA:∀{ys:G_} {us:k_},Az zh_ us->StrsAre us ys
 |[],_,.nil=>.nil
 |y::ys,_,.cons r t=>by
  obtain⟨k,rfl⟩:=r;exact .cons y k (wA t)
def DY(KF:zA!):V->List V->Hp->VK->Prop:=λx vs H Q=>∃(z:Str) (p:u0!) (ys:G_),x=.str z/\vs=gt!/\Fm KF H p zh_/\(kd!).sum+N_*i7_<=16777216/\Q zi! H
def a9i:IY X "str.join" (DY X.K):=by intro hb s Z H x xs v us Q I rx r h;obtain⟨z,p,ys,rfl,rfl,hq,hz,q⟩:=h;obtain⟨t,rfl⟩:=rx;obtain⟨u,rfl,r1⟩:=mL r;cases r1;obtain⟨its,rv,pl,_⟩:=I.list hq;exact join_list pl.isList (by simpa using wA rv) hz λt' k=>⟨.str _,H,a3_,K!,q⟩
def Pr:List D->Option (List Str)
 |[]=>some []
 |.str x::r=>(Pr r).map (x::·)
 |_=>none
def sZ{KF:zA!}:∀{ds:e!} {vs:q!} {ys:G_},Am KF H ds vs->Pr ds=some ys->vs=ys.map V.str
 |[],vs,ys,r,e=>by cases cM r;cases e;rfl
 |d::ds,vs,ys,r,e=>by
  obtain⟨v,t,rfl,r1,r2⟩:=bM r;cases d<;>first|(cases e;done)|skip
  obtain⟨ZA,e1,rfl⟩:=KI.mp e;cases cD r1;rw[sZ r2 e1];rfl
def Mo:D->D->Option D
 |.str z,.lst xs=>(Pr xs).bind λys=>if(kd!).sum+N_*i7_<=big then some zi! else none
 |_,_=>none
def Yo(fo fa:o_):Ag->Option D:=λρ=>(fo ρ).bind λx=>(e1!).bind λy=>Mo x y
def c3l(ho:DE X own o fo)(ha:S!)
  (gi:attributeBase o "join" X.env du!=eval o X.env:=by rfl)
  (gj:((pm!).all cs_&&(ct!).all ct_
   &&decide pm_)=true:=by rfl)
  (gn:dJ_:=by rfl) (hs:jS_:=by rfl) (gq:gW_:=by rfl):
  DE X own (.Call (.Attribute o "join" a8) [a] [] ah) (Yo fo fa):=
 eO (wN PySem.F.plainAttrs_str PySem.F.slot_str_join PySem.F.type_str_join a9i ho.ok zi_ gi gj gn hs gq) λZ G H Q ρ d er e k=>by
  show"!=";obtain⟨y,e2,e⟩:=JZ.mp e;unfold Mo at e;show"!8"
  .obtain⟨ys,e3,e⟩:=JZ.mp e;show"!8"
   .show"!G";refine e4_;cases cD r1;refine⟨rfl,G1,ρ,_,c6_,e2,zj!⟩;obtain⟨p,vs,rfl,q,rr⟩:=bP r2;have:=sZ rr e3;subst this;exact⟨_,p,ys,rfl,rfl,s2.sub.seq q,LV hl b!,k _ G2 H2 c7_ Aq.str⟩
   .cases e
  .cases e
end
section
def zB(g1:zj_)(g2:zk!)(g3:xs[n]?=some v)
  (k:∀h',h'.IsTupleIter jt tt dc!->Heap.SameBut jt s.heap h'->Q v {s with heap:=h'}):wpAny l! A zk_ Q E s:=by
 show"!<";show"!n";refine JY (RI eo ed c! (KB ⟨v,rfl,KB (k _ ?_ d0!)⟩));exact⟨_,NZ _ eo (PY (OT ed _)),(zp_).trans ec,by rw[OT ed];simp[rawInt]⟩
def tS(hh:bC!)(g1:zj_)(g2:zk!)(g3:xs[n]?=none)
  (k:∀h' e,Heap.ExtBut jt s.heap h'->(∃o,h'.get? e=some o/\o.cls=.type "StopIteration")->E X_ {s with heap:=h'}):wpAny l! A zk_ Q E s:=by
 show"!<";show"!n";refine JY (OE (JY (RI eo ed c! ?_)));refine JY ?_;simp only[newExc,newTuple];refine JY (NT ?_ g6_);refine JY (m:=zq!) (wpAny_of_eq (a:=ci_) zr! ?_);refine NT ?_ g6_;simp only[raiseNew];refine JY zr_
 first|rw[zs!]|rw[hh]
 refine JY zt!;exact k _ _ zt_ kf!
def cE(x:h.IsTupleIter aa tt n)(hs:Heap.ExtBut bb h h')(ne:aa≠bb):h'.IsTupleIter aa tt n:=let⟨ob,eo,r⟩:=x;⟨ob,hs _ _ ne eo,r⟩
def a4x{TI TO:u0!}{Q:K_}(D:kg_)
  (gz:kh!)(gI:kh_)(gO:ki!)
  (g1:ki_)(g2:kj!)(ic:g7_)(iu:g8!)(gx:zu_)(gy:zv!)
  (kk:∀h',IsZip h' z TI TO (rawInt h_)->IsPair h' TO x y->h'.IsTupleIter i1 l1 (k1+1)->h'.IsTupleIter i2 l2 (k2+1)->IsPair h' s.heap.objs.size x y->
   kj_->Q bk_ {s with heap:=h'}):
  wpAny l! A zv_ zw! E s:=by
 show"!q";show"!D";refine JY zA_
 replace lj:IsZip Y z TI TO .ellipsis:=lj
 refine JY ?_;simp only[TC,TL,PD,RP];refine JY kl_;refine JY zC_;have sh:IsPair h2 TO p q:=bj.extBut _ _ D.TOi1 zD!;refine JY zE_;refine JY zE!
 replace u0:IsPair h3 TO x q:=u0
 refine JY (RB P_);refine JY kl_;refine JY (zB zF! zG! gy λh4 ZB jn=>KB ?_);have VS:IsPair h4 TO x q:=jn.extBut _ _ D.TOi2 u0;refine JY (OJ VS rfl ?_);refine JY (UM VS λh5 u4 ll=>?_)
 replace u4:IsPair h5 TO x y:=u4
 refine JY (RB (KB P_));refine JY (OJ u4 rfl ?_);refine JY (UT ?_);have sz:pp!=h_:=by rw[ll.1,jn.1,db.1,bj.1,b7.1]
 have VT:IsZip h5 z TI TO .ellipsis:=ll.extBut _ _ D.TOz.symm (jn.extBut _ _ D.i2z.symm zG_);have ZC:∀c ob,c≠z->c≠TO->c≠i1->c≠i2->s.heap.get? c=some ob->h5.get? c=some ob:=λc ob c1 c2 c3 c4 e=>ll.extBut _ _ c2 (jn.extBut _ _ c4 (db.extBut _ _ c2 (bj.extBut _ _ c3 (b7.extBut _ _ c1 e))));have ZD:h5.IsTupleIter i1 l1 (k1+1):=cE (cE (cE VR db.extBut D.TOi1.symm) jn.extBut D.i12) ll.extBut D.TOi1.symm;have ZE:h5.IsTupleIter i2 l2 (k2+1):=cE ZB ll.extBut D.TOi2.symm;have VU:z<pp!:=LF VT;refine JY ?_;unfold Builtin.SmallTypes.ownedTupleHandOut;have ZF:IsZip (h5.push {cls:=.type "tuple",data:=.seq #[x,y]}) z TI TO .ellipsis:=KC _ VT;refine JY (OC ZF c! λh7 xh VV=>?_)
 replace xh:IsZip h7 z TI TO zH!:=xh
 refine OC xh c! λh8 u5 VW=>?_
 replace u5:IsZip h8 z TI TO zH!:=u5
 have up:∀c ob,c≠z->h5.get? c=some ob->h8.get? c=some ob:=λc ob c1 e=>VW.extBut _ _ c1 (VV.extBut _ _ c1 (KC _ e));have VX:IsPair h8 h5.objs.size x y:=VW.extBut _ _ (PN VU) (VV.extBut _ _ (PN VU) km_);rw[sz]at u5 VX;refine KB pp_;rw[sz];obtain⟨ZG,ZH,r1⟩:=ZD;obtain⟨ZI,ZJ,r2⟩:=ZE;exact kk h8 u5 (up _ _ D.TOz u4) ⟨ZG,up _ _ D.i1z ZH,r1⟩ ⟨ZI,up _ _ D.i2z ZJ,r2⟩ VX λc ob c1 c2 c3 c4 e=>up c ob c1 (ZC c ob c1 c2 c3 c4 e)
def b0o{TI TO:u0!}(hh:bC!)(D:kg_)
  (gz:kh!)(gI:kh_)(gO:ki!)
  (g1:ki_)(g2:kj!)(ic:g7_)(iu:g8!)(ge:zH_)
  (kk:∀h' e,kj_->(∃ob,h'.get? e=some ob/\ob.cls=.type "StopIteration")->E X_ {s with heap:=h'}):
  wpAny l! A zv_ Q E s:=by
 show"!q";show"!D";refine JY zA_
 replace lj:IsZip Y z TI TO .ellipsis:=lj
 refine JY ?_;simp only[TC,TL,PD,RP];refine JY kl_;cases gx:xs[k1]? with
 |none=>
  refine JY (tS hh zB_ zC! gx λh2 e bj he=>?_);obtain⟨oe,nj,si⟩:=he;have VY:IsZip h2 z TI TO .ellipsis:=bj _ _ D.i1z.symm lj;have xi:e≠z:=λx=>by subst x;rw[VY]at nj;cases nj;simp at si
  refine OC VY c! λh3 _ db=>kk h3 e (λc ob c1 _ c3 _ x=>db.extBut _ _ c1 (bj _ _ c3 zJ!)) ⟨oe,db.extBut _ _ xi nj,si⟩
 |some x=>
  have gy:ys[k2]?=none:=by
   obtain h|h:=ge
   .rw[gx]at h;cases h
   .exact h
  refine JY zC_;have sh:IsPair h2 TO p q:=bj.extBut _ _ D.TOi1 zD!;refine JY zE_;refine JY zE!;refine JY (RB P_);refine JY kl_;refine JY (tS hh zF! zG! gy λh4 e jn he=>?_);obtain⟨oe,nj,si⟩:=he;have VZ:IsZip h4 z TI TO .ellipsis:=jn _ _ D.i2z.symm zG_;have xi:e≠z:=λx=>by subst x;rw[VZ]at nj;cases nj;simp at si
  refine OC VZ c! λh5 _ ll=>kk h5 e (λc ob c1 c2 c3 c4 x=>ll.extBut _ _ c1 (jn _ _ c4 (db.extBut _ _ c2 (bj.extBut _ _ c3 zJ!)))) ⟨oe,ll.extBut _ _ xi nj,si⟩
end
section
def a5o{TI TO:u0!}(D:kg_)
  (gz:kh!)(gI:kh_)(gO:ki!)
  (g1:ki_)(g2:kj!)(ic:g7_)(iu:g8!)(gx:zu_)(gy:zv!)
  (kk:∀h',IsZip h' z TI TO (rawInt h_)->IsPair h' TO x y->h'.IsTupleIter i1 l1 (k1+1)->h'.IsTupleIter i2 l2 (k2+1)->IsPair h' s.heap.objs.size x y->
   kj_->Q (some bk_) {s with heap:=h'}):
  wpAny l! A zK! Q E s:=by
 have gT:s.TypeIs kl! "zip":=zK_;unfold pyNext;exact JY (RE (MQ (name:=fc_) gT UK (MF UK gT zL!
  (a4x D gz gI gO g1 g2 ic iu gx gy λh' a1 a2 a3 a4 a5 a6=>KB (kk h' a1 a2 a3 a4 a5 a6)) zL_)))
def vK{TI TO:u0!}(hh:bC!)(D:kg_)
  (gz:kh!)(gI:kh_)(gO:ki!)
  (g1:ki_)(g2:kj!)(ic:g7_)(iu:g8!)(ge:zH_)
  (kk:∀h',kj_->Q none {s with heap:=h'}):wpAny l! A zK! Q E s:=by
 have gT:s.TypeIs kl! "zip":=zK_;unfold pyNext;refine JY (RE (MQ (name:=fc_) gT UK (MF UK gT zL!
  (b0o hh D gz gI gO g1 g2 ic iu ge λh' e hk he=>?_) zL_)))
 obtain⟨ob,ho,hc⟩:=he;exact JY (wpAny_isInstance (T:=pr!) (b:=true) ⟨ob,ho,hc⟩ isSubtype_stop (KB (kk _ hk)))
abbrev FK(h:Heap)(l1:u0!):Heap:=h.push {cls:=.type "tuple_iterator",data:=.fields #[.ref l1,.int 0 0]}
abbrev FI(h:Heap)(l1 l2:u0!):Heap:=(FK h l1).push {cls:=.type "tuple_iterator",data:=.fields #[.ref l2,.int 0 0]}
abbrev FH(h:Heap)(l1 l2:u0!):Heap:=(zO!).push {cls:=.type "tuple",data:=.seq #[.ref bQ_,.ref (FK h l1).objs.size]}
abbrev FG(h:Heap)(l1 l2:u0!):Heap:=(zO_).push {cls:=.type "tuple",data:=.seq #[.none,.none]}
abbrev CT(h:Heap)(l1 l2:u0!):Heap:=(FG h l1 l2).push {cls:=.type "zip",data:=.fields #[.none,.bool false,.bool false,.ref (zO!).objs.size,.ref (zO_).objs.size]}
def a6l(l1 l2:u0!)(xs ys:cj!):
  Meets (Builtin.«zip.__new__» ⟨[.type "zip",.ref l1,.ref l2],[]⟩) (λ_ R s=>s.heap.IsTuple l1 xs/\s.heap.IsTuple l2 ys/\R (.ok (.ret (.ref (pt!).objs.size))) {s with heap:=CT s.heap l1 l2}):=
 .of_wp λprog w A R s h=>by
  obtain⟨hp,g,d,tk,os⟩:=s;obtain⟨ic,iu,h⟩:=h;have WB:=sub_zip;have ZK:Heap.IsTuple (Shared.heap fe!) l1 xs:=ic;have ZL:Heap.IsTuple (Shared.heap ⟨hp.push {cls:=.type "tuple_iterator",data:=.fields #[.ref l1,.int 0 0]},g,d,tk,os⟩) l2 ys:=let⟨ob,eo,r⟩:=iu;⟨ob,KC _ eo,r⟩
  wp_walk using wpAny_pyIter_tuple ZK,wpAny_pyIter_tuple ZL
  exact zQ!
def b9t(ic:g7_)(iu:g8!)
  (kk:∀h',IsZip h' (h_+4) (h_+2) (h_+3) .none->IsPair h' (h_+2) bk_ (.ref aa!)->
   IsPair h' (h_+3) .none .none->h'.IsTupleIter s.heap.objs.size l1 0->h'.IsTupleIter aa! l2 0->(∀c ob,s.heap.get? c=some ob->h'.get? c=some ob)->Q (.ref (h_+4)) {s with heap:=h'}):
  wpAny l! A (call pu! [.ref l1,.ref l2]) Q E s:=by
 refine callType_new F.called_zip b! (F.typeCall_zip_2 _ _) (F.newCall_zip_2 _ _) (λobj=>F.args_object_init_3 obj _ _) F.entry_zip_new (a6l l1 l2 xs ys) ⟨ic,iu,?_⟩;have z1:(zT!).objs.size=h_+1:=QB ..;have z2:(zS!).objs.size=h_+2:=by rw[QB,z1]
 have z3:(zS_).objs.size=h_+3:=by rw[QB,z2]
 have z4:(pt!).objs.size=h_+4:=by rw[QB,z3]
 have y5:(g9!).get? (pt!).objs.size=some _:=LC _ rfl;have y4:(g9!).get? (zS_).objs.size=some _:=KC _ km_;have y3:(g9!).get? (zS!).objs.size=some _:=KC _ pu_;have y2:(g9!).get? (zT!).objs.size=some _:=KC _ (KC _ pu_);have y1:(g9!).get? h_=some _:=KC _ (KC _ (KC _ pu_));show _/\_;rw[z2,z3,z4]at y5;rw[z1,z2]at y3;rw[z3]at y4;rw[z1]at y2;rw[z4];exact⟨⟨_,y5,rfl⟩,kk _ y5 y3 y4 ⟨_,y1,rfl,rfl⟩ ⟨_,y2,rfl,rfl⟩ λc ob x=>KC _ (KC _ (KC _ (KC _ (KC _ x))))⟩
end
def GC(KF:zA!)(a b:u0!):It:=
 ⟨λi H=>∃xs ys x y,Fz KF H a xs/\Fz KF H b ys/\xs[i]?=some x/\ys[i]?=some y,
   λi H v H'=>∃T,v=.ref T/\H T=none/\∀xs ys,Fz KF H a xs->Fz KF H b ys->∃x y,xs[i]?=some x/\ys[i]?=some y/\H'=upd H T zU!,
   λi H=>∃xs ys,Fz KF H a xs/\Fz KF H b ys/\(i!<=i\/N_<=i)⟩
def b8k{P:ko!}:∀x∈([]:List α),P x:=λ_ h=>by cases h
def gJ{P:ko!}(h:P a)(k:∀x∈l,P x):∀x∈a::l,P x:=λx hx=>by
 obtain rfl|hx:=KG.mp hx
 .exact h
 .exact k x hx
def xJ{ch:a1_}(I:d!)(hf:∀c∈ch,Fu X hb H c)(kp:∀c o,c∉ch->s.heap.get? c=some o->h'.get? c=some o):Inv X hb Z H {s with heap:=h',toks:=s.toks}:=by
 refine I.step (g':=s.gens) (d':=s.drawn) (ch:=ch) ko_ zV! zV_ lV_ zW! lW! lW_ zW_ lX_ kp! I.bare
 .obtain⟨_,f2,_,f4,f5,f6⟩:=hf c hc;exact⟨f4,f2,f5,f6⟩
 .show"#5";exact zX!
 .refine(zZ!).stay zY! zY_ λ_ _ e'=>e';have hn:=(hf d hm).1;obtain rfl|hd:=hd
  .rw[hn]at e;cases e
  .rw[hn]at hd;cases hd
def ne4(h:c∉zZ_):c≠a1/\c≠a2/\c≠a3/\c≠a4:=by simpa using h
def c9q{P:ko!}(h:∀x∈[a1,b,a2,a3,a4],P x):∀x∈zZ_,P x:=λx hx=>h x (by simp only[KG]at hx ⊢;exact hx.imp_right .inr)
def b0u{TI TO:u0!}(D:ZipApart z TI TO i1 i2 a b):
  Su P w KF ff! (GC KF a b) z0! z (λi h=>IsZip h z TI TO .none/\IsPair h TI (.ref i1) (.ref i2)/\(∃p q,IsPair h TO p q)/\h.IsTupleIter i1 a i/\h.IsTupleIter i2 b i) where
 mem:=by simp
 obj:=λi h st=>by
  obtain⟨s1,s2,⟨p,q,s3⟩,⟨o4,s4,c4,d4⟩,⟨o5,s5,c5,d5⟩⟩:=st;exact gJ ⟨_,s1,pw_⟩ (gJ ⟨_,s2,pw_⟩ (gJ ⟨_,s3,pw_⟩ (gJ ⟨o4,s4,λv y=>by rw[d4]at y;cases y⟩ (gJ ⟨o5,s5,λv y=>by rw[d5]at y;cases y⟩ b8k))))
 keep:=λi h h' st k=>by
  obtain⟨s1,s2,⟨p,q,s3⟩,⟨o4,s4,r4⟩,⟨o5,s5,r5⟩⟩:=st;exact⟨k z c! _ s1,k TI c! _ s2,⟨p,q,k TO c! _ s3⟩,⟨o4,k i1 c! _ s4,r4⟩,⟨o5,k i2 c! _ s5,r5⟩⟩
 item:=by
  intro X hP hw hK hc i hb s Z H E I hf st hg;subst hP hw hK;obtain⟨xs,ys,x,y,qa,qb,hx,hy⟩:=hg;obtain⟨s1,s2,⟨p,q,s3⟩,s4,s5⟩:=st;obtain⟨ia,ra,ta,za⟩:=I.tuple qa;obtain⟨ib,rb,tb,zb⟩:=I.tuple qb;obtain⟨u,hu,ru⟩:=ra.get hx;obtain⟨v,hv,rv⟩:=rb.get hy;refine a5o D s1 s2 s3 s4 s5 ta tb (x:=u) (y:=v) sP_ iW! λh' a1 a2 a3 a4 a5 a6=>?_;refine⟨_,rfl,wpAny_letOwnedTupleGo_zip (s:=my_) a1 λh2 b1 bj=>?_⟩;have qc:Heap.SameBut z h' h2:=bj;have neT:∀c o,s.heap.get? c=some o->h_≠c:=λc o e=>PN cO_;have I1:Inv X hb Z H {s with heap:=h2,toks:=s.toks}:=xJ I (ch:=z2!) (c9q hf) λc o hc e=>by
   obtain⟨n1,n2,n3,n4⟩:=ne4 hc;exact qc.extBut _ _ n1 (a6 c o n1 n2 n3 n4 e)
  have sj:H h_=none:=I.hok.fresh r!;have eT:h2.get? h_=some {cls:=.type "tuple",data:=.seq #[u,v]}:=qc.extBut _ _ (neT z _ s1) a5;have I2:Inv X hb Z (upd H s.heap.objs.size zU!) {s with heap:=h2,toks:=s.toks}:=by
   have ne:∀c o,H c=some o->c≠h_:=λc o e=>cK e sj;have ZM:∀p∈X.pn++hb,p.1≠h_:=λp hp=>LU (LF (mu_).1);refine Inv.step (s:={s with heap:=h2,toks:=s.toks}) (g':=s.gens) (d':=s.drawn) (t':=s.toks) (h':=h2) (ch:=[h_]) I1 ko_ z2_ z3! z3_ z4!
    (z4_) z5! z5_ n5_ kp! I1.bare
   .have e:c=h_:=by simpa using hc
    subst e;exact⟨.inr I.sz,PN I.lt,λx c h=>(λz=>by obtain⟨v,o,ho,_⟩:=I.cell x c h;rw[z]at ho;exact absurd hR! dp_),ZM⟩
   .rw[n6!];exact n
   .by_cases J:c=h_
    .show"!s";exact⟨by show 2<=sizeLine;rw[MY];decide,[u,v],.cons ru (.cons rv .nil),⟨_,eT,rfl,_,rfl⟩⟩
    .rw[aY J]at e;exact(z7!).stay n6_ z7_ λd xs q=>by rw[pz!];exact q
  refine⟨c1_,_,I2,rfl,⟨_,rfl,sj,λxs' ZA dz sk=>⟨x,y,?_,?_,rfl⟩⟩,⟨b1,qc.extBut _ _ D.TIz (a6 TI _ D.TIz D.TITO D.TIi1 D.TIi2 s2),⟨u,v,qc.extBut _ _ D.TOz a2⟩,cE a3 qc.extBut D.i1z,cE a4 qc.extBut D.i2z⟩,pA!⟩
  .rw[I.tuple_inj dz qa];exact hx
  .rw[I.tuple_inj sk qb];exact hy
  .have bz:∀c∈z0!,∃o,s.heap.get? c=some o:=by
    obtain⟨o4,t4,_⟩:=s4;obtain⟨o5,t5,_⟩:=s5;exact gJ ⟨_,s1⟩ (gJ ⟨_,s2⟩ (gJ ⟨_,s3⟩ (gJ ⟨_,t4⟩ (gJ ⟨_,t5⟩ b8k))))
   obtain⟨o,ho⟩:=bz c hc;rw[aY (LQ (neT c o ho))];exact(hf c hc).1
 done:=by
  intro X hP hw hK hc i hb s Z H E I hf st hg;subst hP hw hK;obtain⟨xs,ys,qa,qb,ZN⟩:=hg;obtain⟨s1,s2,⟨p,q,s3⟩,s4,s5⟩:=st;obtain⟨ia,ra,ta,za⟩:=I.tuple qa;obtain⟨ib,rb,tb,zb⟩:=I.tuple qb;have l1:=ra.length;have l2:=rb.length;refine vK aS! D s1 s2 s3 s4 s5 ta tb (by
   obtain h|h:=ZN
   .left;simp;omega
   .right;simp;omega) λh2 a6=>h!
  exact xJ I (ch:=z2!) (c9q hf) λc o hc e=>by
   obtain⟨n1,n2,n3,n4⟩:=ne4 hc;exact a6 c o n1 n2 n3 n4 e
 self:=λA i s Q E st h=>wpAny_pyIter_zip st.1 h
section
variable{pos p2 p tp:Pos}
def c1g(hg:Gl X "zip")(hm:Aa_)(hv:Ab!)(ha:PA X ag_ ta)(hs:Ab_:=by rfl)(au:Ac!:=by rfl):
  PI X ff! Ac_ (λZ H R=>ta Z H λvs H1=>∃x y xs ys,vs=[.ref x,.ref y]/\Fz X.K H1 x xs/\Fz X.K H1 y ys/\R (GC X.K x y) H1):=by
 intro hb s Z H R I h;refine Call_ (iP I hg hm hv (NM mF_ hs au));rintro us s1 ⟨vs,H1,I1,r1,q1⟩;obtain⟨x,y,xs,ys,rfl,qx,qy,q⟩:=q1;obtain⟨u,u',rfl,ru,ay⟩:=wC r1;cases ru;cases ay;obtain⟨ia,ra,WC,za⟩:=I1.tuple qx;obtain⟨ib,rb,WD,zb⟩:=I1.tuple qy;have lx:x<x!:=by obtain⟨ob,eo,_⟩:=WC;exact LF eo
 have ly:y<x!:=by obtain⟨ob,eo,_⟩:=WD;exact LF eo
 refine b9t WC WD λh' a1 a2 a3 a4 a5 a6=>?_;refine wpAny_pyIter_zip a1 ?_;have I2:Inv X hb Z H1 {s1 with heap:=h',toks:=s1.toks}:=I1.kept (t':=s1.toks) a6;have D:ZipApart (x!+4) (x!+2) (x!+3) s1.heap.objs.size (x!+1) x y:=by
  constructor<;>(intro z;have z':@Eq Nat _ _:=z;have l1:@LT.lt Nat _ x _:=lx;have l2:@LT.lt Nat _ y _:=ly;omega)
 refine⟨_,_,_,GC X.K x y,H1,rfl,I2,b0u D,⟨a1,a2,⟨_,_,a3⟩,a4,a5⟩,pA!,q⟩;have jo:x!<=c:=by
  simp only[KG,MO,QR]at hc;obtain rfl|rfl|rfl|rfl|rfl:=hc<;>omega
 exact I1.fpOk jo (I1.hok.fresh jo)
def Kj:List D->List D->List D
 |x::xs,y::ys=>.tup [x,y]::Kj xs ys
 |_,_=>[]
def CG(fa fb:o_):Ag->Option aG_:=λρ=>(e1!).bind λx=>(jE!).bind λy=>match x,y with|.tup xs,.tup ys=>some kq_|_,_=>none
def a1i:∀(xs ys:e!) (n:Nat) (d:D),kq_[n]?=some d->∃x y,xs[n]?=some x/\ys[n]?=some y/\d=.tup [x,y]
 |[],_,n,d,h=>by simp[Kj]at h
 |_::_,[],n,d,h=>by simp[Kj]at h
 |x::xs,y::ys,0,d,h=>by
  simp[Kj]at h;exact⟨x,y,rfl,rfl,h.symm⟩
 |x::xs,y::ys,n+1,d,h=>by
  obtain⟨u,v,Y,h2,h3⟩:=a1i xs ys n d (by simpa[Kj]using h);exact⟨u,v,lz_,by simpa using h2,h3⟩
def a1h:∀(xs ys:e!),i!<=(kq_).length\/N_<=(kq_).length
 |[],ys=>.inl b9!
 |_::_,[]=>.inr b9!
 |x::xs,y::ys=>by
  obtain h|h:=a1h xs ys
  .left;simp[Kj];exact h
  .right;simp[Kj];exact h
def c2n(qa:Fz KF G1 x vs)(qb:Fz KF G1 y ws)(ra:yh!)(rb:Am KF G1 es ws):AK KF (GC KF x y) (Kj ds es) G1:=by
 intro n G' H' s1 s2;have dz:Fz KF H' x vs:=cC s2 (cC s1 qa);have sk:Fz KF H' y ws:=cC s2 (cC s1 qb);refine⟨dT_,λhn=>⟨vs,ws,dz,sk,?_⟩⟩
 .obtain⟨u,v,Y,h2,rfl⟩:=a1i ds es n d hd;obtain⟨v1,g1,r1⟩:=gM ra Y;obtain⟨v2,g2,r2⟩:=gM rb h2;refine⟨⟨vs,ws,v1,v2,dz,sk,g1,g2⟩,λx' gu hy=>?_⟩;obtain⟨T,rfl,hT,hh⟩:=hy;obtain⟨x1,y1,e1,e2,rfl⟩:=hh vs ws dz sk;rw[g1]at e1;rw[g2]at e2;cases e1;cases e2;exact⟨_,Ch.laid s2 hT,fO (s2.free hT) (Am.cons (r1.mono s1) (Am.cons (r2.mono s1) Am.nil))⟩
 .rw[hn,<-aJ ra,<-aJ rb];exact a1h ds es
def c8e(hg:Gl X "zip")(hm:Aa_)(hv:Ab!)(ha:S!)(J:cB!)(hs:Ab_:=by rfl)
  (bj:starEach [b] X.env=iq!::starEach [] X.env:=by rfl)(au:Ac!:=by rfl):DI X own ff! Ac_ (CG fa fb):=
 a4e (c1g hg hm hv (dC ha.ok (dC J.ok fK bj) hs) hs au) λZ G H R ρ ds er e k=>by
  obtain⟨x,e1,e⟩:=JZ.mp e;obtain⟨y,e2,e⟩:=JZ.mp e;cases x with
  |tup xs=>
   cases y with
   |tup ys=>
    cases e;refine Ae_;obtain⟨p,vs,rfl,q,rr⟩:=bR gQ!;obtain⟨p',ws,rfl,q',bv⟩:=bR r2;exact⟨p,p',vs,ws,rfl,cC s2.sub q,cC s2.sub q',k _ G2 H2 c7_ (c2n q q' rr bv)⟩
   |_=>cases e
  |_=>cases e
end
def Dk:D->D->Option D:=Dy Ub λi j=>.int (i*j)
def iZ:Hs KF mN_ Dk:=c6t
def Bv:D->D->Option D:=Dy xZ_ λi j=>.int (i%j)
def eQ:Hs KF mP! Bv:=c6u
def Cg:D->D->Option D:=Dy x0_ λi j=>.int (i / j)
def lY:Hs KF mO_ Cg:=c2a
def Ge:D->D->Option D:=Dy x1! λi j=>.int mP_
def c6p:Hs KF mQ! Ge:=c6s
def Jk:D->D->Option D:=Cd λi j=>.bl mS!
def a9b:Hs KF mS_ Jk:=d0i
def Jz:D->D->Option D:=Cd λi j=>.bl mU!
def a9c:Hs KF mU_ Jz:=d0k
def Nk:D->D->Option D:=Cd λi j=>.bl mV!
def d0g:Hs KF mV_ Nk:=d0l
section
variable{pos p2:Pos}
def kX:Gk X mT! Af_:=d0c.or b1o
def Jy:D->D->Option D
 |.int i,.int j=>some (.bl mT_)
 |.str x,.str y=>some (.bl (Rj x y))
 |_,_=>none
def kZ:Hs KF Af_ Jy:=by
 show"!1";unfold Jy at e;show"!8"
 .show"!]";exact .inl pC!
 .cases cD rx;cases cD ry;cases e;exact .inr pC!
 .cases e
def Lf:D->D->Option D
 |.int i,.int j=>some (.bl (!(i==j)))
 |.str x,.str y=>some (.bl (!(x==y)))
 |_,_=>none
def wQ:Hs KF IH Lf:=by
 show"!1";unfold Lf at e;show"!8"
 .show"!]";refine h!;rw[b0c];show"!l"
 .cases cD rx;cases cD ry;cases e;refine h!;rw[b0b];show"!l"
 .cases e
def gS(hm:∃t,X.mg x=some do!)(hg:H_)(hd:y!:=by decide):DE X own cR_ ow!:=by obtain⟨t,ht⟩:=hm;exact c3m hg ht hd
end
def bQ{X:Cx}{scope sc:Scope}(h:X.env.scope=sc)(hd:∀y∈b0_,y.2=.free->(sc.names.lookup y.1=some .cell\/sc.names.lookup y.1=some .free)):
  ∀y∈b0_,y.2=.free->wG_:=λy hy hf=>by
 unfold Env.kindOf;rw[h];exact hd y hy hf
section
variable{pos p2:Pos}
def b8v(ho:bS_)(hg:dR_)(d8:iw_)(sf:y3_)(ha:S!)(J:cB!)(hc:y2!)
  (hm:ix!:=by with_unfolding_all rfl):DT X own ix_ (fT y2_):=
 uZ (b4s ho d8 ha.ok J.ok hc.ok hm) λZ G H Q ρ d er e k=>by
  have e:=kD e;obtain⟨x,e1,e⟩:=JZ.mp e;obtain⟨y,e2,e⟩:=JZ.mp e;obtain⟨z,e3,e⟩:=JZ.mp e;refine y4!;have nh:=s1.trans gQ_;cases z with
  |bl bb=>
   cases cW r3;refine y4_;cases bb with
   |true=>
    obtain⟨u,e4,e⟩:=JZ.mp e;refine kB ⟨G3,ρ,u,er.grow nh,e4,λq G4 H4 s4 r4=>sf s4.sub y5_ r4 e λv G5 H5 s5 r5=>?_⟩;cases cW r5;exact⟨d,rfl,k G5 H5 y6!⟩
   |false=>
    cases e;exact kP ⟨false,rfl,k G3 H3 nh⟩
  |_=>cases e
def b2w(hd:Ul X x bw)(hg:H_)(ha:S!)(hm:behindInMarks .NotIn c9!=false:=by rfl)(ax:y!:=by decide):DT X own (.Compare a [.NotIn] e3! pos) (fT (AD bw true fa)):=by
 show"#A";refine uZ (t:=λZ H Q=>tD X.K own fa Z H λv H1=>∃y,v=.str y/\Q (!(Nb h1 dX_).isSome) H1) y9! λZ G H Q ρ d er e k=>?_
 .refine UF (dF y9_ λv s1 ⟨y,H1,I1,r1,z,hz,q1⟩=>iD I1 hg ju ?_ ax) hm;subst hz;refine wpAny_notIn_of (knd:=za_) (k:=pi!) za! VP (xa _ I1.kIn).mapOf ?_;rw[<-(xb.val ph!).isSome_eq];exact MM ⟨H1,I1.tok _,q1⟩
 .have e:=kD e;obtain⟨x,e1,e⟩:=JZ.mp e;cases x with
  |str y=>
   cases e;refine e4_;cases cD r1;refine⟨y,rfl,?_⟩;have J:(Nb h1 dX_).isSome=(pg_).isSome:=by
    cases ht:bw.lookup y with
    |none=>rw[(hn y).mpr ht];rfl
    |some d=>obtain⟨v,hv,_⟩:=hs y d ht;rw[hv];rfl
   rw[J];exact k G1 H1 s1
  |_=>cases e
end
def eC:bootBuiltins "len"=some ty_:=by decide+kernel
def c8w:bootBuiltins "abs"=some tv_:=by decide+kernel
def c8u:bootBuiltins "ord"=some tx!:=by decide+kernel
def a7p:bootBuiltins "all"=some yc_:=by decide+kernel
def cQ:bootBuiltins "isinstance"=some jN_:=by decide+kernel
def c8v:bootBuiltins "int"=some bI!:=by decide+kernel
def c3x:bootBuiltins "bool"=some bI_:=by decide+kernel
def a7o:bootBuiltins "str"=some bJ!:=by decide+kernel
def pG:bootBuiltins "tuple"=some be_:=by decide+kernel
def b0k:bootBuiltins "list"=some dI!:=by decide+kernel
def c8t:bootBuiltins "zip"=some pu!:=by decide+kernel
def Er(KF:zA!)(mg:O_)(x:Str)(st:Stmt)(ps:G_):Prop:=∃ae fd,Yu KF x x st ae fd/\Eu KF fd ps []/\mg x=some be!
def Ce(N:G_)(n:Nat)(q:cC_)(ds:e!):Option D:=if g!=n then(match q gY_ with|some (.rt d)=>some d|some (.nx _)=>some .non|none=>none)else none
def eE{st:Stmt}(h:pD!)(S:c3!)
  (J:∀{ae:u0!} {ag:zp!} {A:zm!} {outer:ao!} {s:zz!} {H:Hp} {E:XK},Ah k kr!->N.Nodup->Yv (pD_).nox [] [] bp_ q):
  Ok P w KF mg base M_ x ps (Ce N ps.length q):=by
 obtain⟨ae,fd,F,B,m⟩:=h;refine⟨ae,fd,c8g F S (λag A outer s H E hr=>J hr S.nd) (λds d hl e=>?_),B,m,F.kp⟩;unfold Ce at e;rw[KM hl]at e;show"!8"
 .cases e;left;assumption
 .cases e;right;exact⟨_,Ah_,rfl⟩
 .cases e
def EO:Const->Option D
 |.int i=>some bR!
 |.str i=>some jA!
 |.bool i=>some (.bl i)
 |.none=>some .non
 |_=>none
mutual
noncomputable def Vk:Nat->Expr->Option D
 |0,_=>none
 |n+1,e=>match e with
  |.Constant c _ _=>EO c
  |.Tuple es _ _=>(pE!).bind λds=>if g!<=1000 then some c5_ else none
  |.List es _=>(pE!).bind λds=>if g!<=1000 then some b3_ else none
  |_=>none
noncomputable def Vj:Nat->List Expr->Option aG_
 |0,_=>none
 |n+1,[]=>some []
 |n+1,e::es=>(Vk n e).bind λd=>(pE!).bind λds=>some dP!
end
section
variable{X:Cx}{own:List Nat}
def b7a(h:Vk n e=some d):starEach aA_ X.env=dA!::starEach es X.env:=by
 cases n with
 |zero=>unfold Vk at h;cases h
 |succ n=>
  cases e<;>first|rfl|(simp[Vk]at h;done)
mutual
theorem eV:∀{n:Nat} {e:Expr} {d:D},Vk n e=some d->DE X own e (fC d)
 |0,e,d,h=>by unfold Vk at h;cases h
 |n+1,e,d,h=>by
  unfold Vk at h;split at h
  .unfold EO at h;split at h
   .cases h;exact aD
   .cases h;exact aR
   .cases h;exact eW
   .cases h;exact dB
   .cases h
  .obtain⟨ds,e1,e2⟩:=JZ.mp h;split at e2
   .rename_i hl;cases e2;refine eO (cL (a7f e1)).ok λZ G H Q ρ d er e k=>?_;show"#B"
   .cases e2
  .obtain⟨ds,e1,e2⟩:=JZ.mp h;split at e2
   .rename_i hl;cases e2;refine eO (lS (a7f e1)).ok λZ G H Q ρ d er e k=>?_;show"#B"
   .cases e2
  .cases h
theorem a7f:∀{n:Nat} {es:cR!} {ds:e!},Vj n es=some ds->DA X own es (λ_=>some ds)
 |0,e,d,h=>by unfold Vj at h;cases h
 |n+1,[],d,h=>by
  unfold Vj at h;cases h;exact aK
 |n+1,e::es,d,h=>by
  unfold Vj at h;obtain⟨d1,e1,h⟩:=JZ.mp h;obtain⟨ds,e2,h⟩:=JZ.mp h;cases h;exact b9g (aE (eV e1) (a7f e2) (b7a e1)).ok λZ G H Q ρ d er e k=>⟨G,ρ,_,er,e,k⟩
end
end
section
def aU{st:Stmt}{kV:zp!}(X:fg_)(G:fh!)
  (a:Aj!)(l:Ak!)
  (c:Ak_)(k:gB!)
  (b:Al!):Er KF mg x st ps:=
 ⟨f,_,ks!,pE_,pF!⟩
def CO(KF:zA!)(mg:O_)(x:Str)(st:Stmt)(ps:G_):Prop:=∃ae fd,Yu KF x x st ae fd/\(∀us:List Value,ad_=P!->bindArgs fd cY_=pure cY!)/\mg x=some be!
def c3i{st:Stmt}{kV:zp!}(X:fg_)(G:fh!)
  (a:Aj!)(l:Ak!)
  (c:Ak_)(k:gB!)
  (b:Al!):CO KF mg x st ps:=
 ⟨f,_,ks!,b _ _ _ _ _ _,pF!⟩
def oY(X:fg_)(G:fh!)(a:W.nsIn KF mainGlobals x=some (some (.int i tk))):∃tk,mg x=some (.int i tk):=⟨tk,pF!⟩
def dZ(X:fg_)(G:fh!)(e:W.nsIn KF mainGlobals x=some hb_):mg x=some F!:=W.mg_of X G e
def dH(X:fg_)(G:fh!)(e:W.nsIn KF mainGlobals x=some none):mg x=none:=W.mg_none_of X G e
def xK:∀(ns:v!),Am KF H pF_ bW!
 |[]=>Am.nil
 |n::r=>Am.cons Aq.int (xK r)
abbrev Vp:=Str×Tok×Addr
def BR(w:zx!)(r:Vp):DictEntry:=⟨PyData.keyHash w.params r.1,.str r.1 r.2.1,.ref r.2.2⟩
def Vo(KF:zA!):List Vp->List b7!->Prop
 |[],[]=>True
 |r::rs,t::ts=>r.1=t.1/\(∀H,Aq KF H t.2 (V.ref r.2.2))/\Vo KF rs ts
 |_,_=>False
abbrev Vy(rows:hc!):List om!:=rows.map λr=>(Sum.inr r.1,V.ref r.2.2)
abbrev To(rows:hc!):List y8_:=rows.map λr=>(Sum.inr r.1,Value.ref r.2.2)
def sY:∀(rows:hc!),Pairs bi_ Am_ pG_
 |[]=>.nil
 |r::rs=>.cons (lJ P w r.1 r.2.1) rfl (sY rs)
def pO:∀{rows:hc!} {bw:g2!},Vo KF rows bw->(Nb pH! dX_=none↔bw.lookup y=none)/\∀d,bw.lookup y=some d->∃v,Nb pH! dX_=some v/\∀H,Aq KF H d v
 |[],[],_=>⟨⟨bT_,bT_⟩,λd e=>by cases e⟩
 |[],t::ts,h=>h.elim
 |r::rs,[],h=>h.elim
 |r::rs,(x,d0)::ts,h=>by
  obtain⟨Y,h2,h3⟩:=h;have ih:=pO (y:=y) h3;have iw:r.1=x:=Y;unfold Nb at ih ⊢;simp only[KL,PF,MZ];by_cases e:y=x
  .subst e;have:decide An!=true:=by simp[iw]
   simp only[this,OK];refine⟨⟨An_,An_⟩,λd z=>?_⟩;cases z;exact⟨_,rfl,h2⟩
  .have e1:decide An!=false:=by
    rw[iw];exact KP λz=>e (Ap_).symm
   have e2:(y==x)=false:=by simp[e]
   simp only[e1,e2];exact ih
def a9o:∀(rows:hc!),KV pH! pG_
 |[]=>.nil
 |r::rs=>.cons aJ_ (a9o rs)
def b8e{ad:u0!}(hw:X.w=w)(hK:X.K=KF)(ju:X.mg=mg)(hm:mg x=some kb_)(hs:pg!=false)(hl:KF.lookup ad=some {cls:=.type "dict",data:=.dict (Am_).toArray ep})
  (nd:fh_)(ht:Vo KF rows bw):Ul X x bw:=by
 subst hw hK ju;refine⟨ad,Vy rows,To rows,hm,hs,λh hK=>⟨_,_,_,hK _ _ hl,Aq_,rfl,?_,?_,?_⟩,a9o rows,λy=>(pO ht).1,λy d=>(pO ht).2 d⟩
 .intro e he;have iy:e∈rows.map (BR X.w):=by simpa using he
  obtain⟨r,hr,rfl⟩:=KY.mp iy;exact⟨Sum.inr r.1,lJ _ _ r.1 r.2.1,rfl⟩
 .simpa using sY (w:=X.w) (P:=X.prog) rows
 .have e:(pG_).map c_=(pI!).map (Sum.inr:Str->L2.Key):=by simp[To]
  rw[e];exact List.Pairwise.map _ (λa b k9 z=>k9 Ap_) nd
def a1w:∀(fs:a1_),Am KF H Ar! Ar_
 |[]=>Am.nil
 |n::r=>Am.cons (by unfold Aq;rfl) (a1w r)
def wB:∀(fs:a1_),Az Ar_ As!
 |[]=>.nil
 |n::r=>.cons rfl (wB r)
def gL{fs:a1_}(l:KF.lookup a=some ⟨cG_,od,.seq (As!).toArray n,sl⟩)(hz:bj!<=1000)(H:Hp):Aq KF H (.tup Ar!) gN_:=
 Aq.tup (.inr ⟨_,_,n,l,rfl,rfl,by simpa using eU hz,by simpa using wB fs⟩) (a1w fs)
end
abbrev MK:=Option (Sum L2.Key At!)
abbrev EL:Int:=0xFCA86420
section
variable (P w)in
def Jx(h:Heap):MK->Value->Prop
 |none,v=>v=.none
 |some (.inl k),v=>Qm k v=true
 |some (.inr ks),v=>∃a,v=.ref a/\IsTupleKey bi_ h ks a
variable (P w)in
nonrec def mkHash:MK->Int
 |none=>EL
 |some (.inl k)=>EQ w k
 |some (.inr ks)=>tupleKeyHash bi_ ks
def a2x(hx:Jx P w h x v)(hy:Jx P w h y v):x=y:=by
 obtain _|x|x:=x<;>obtain _|y|y:=y
 .rfl
 .cases At_;obtain⟨i,t,_,e⟩|⟨i,t,_,e⟩:=bO hy<;>exact nomatch e
 .cases At_;obtain⟨a,e,_⟩:=hy;exact nomatch e
 .cases hc_;obtain⟨i,t,_,e⟩|⟨i,t,_,e⟩:=bO hx<;>exact nomatch e
 .rw[(bi_).inj v x y hx hy]
 .obtain⟨a,rfl,_⟩:=hy;obtain⟨i,t,_,e⟩|⟨i,t,_,e⟩:=bO hx<;>exact nomatch e
 .cases hc_;obtain⟨a,e,_⟩:=hx;exact nomatch e
 .obtain⟨a,rfl,_⟩:=hx;obtain⟨i,t,_,e⟩|⟨i,t,_,e⟩:=bO hy<;>exact nomatch e
 .obtain⟨a,rfl,hx⟩:=hx;obtain⟨b,e,hy⟩:=hy;cases e;rw[hx.inj hy]
def jR(x:IsTupleKey bi_ h ks a):∃its,h.IsTuple a its:=by obtain⟨o,its,n,Y,h2,h3,_⟩:=x;exact⟨its,o,Y,h2,n,h3⟩
def b6p(hu:ak_)(hx:pI_)(hy:Jx P w s.heap y v)(h:Q (decide (x=y)) s):wpAny C! A (eqBool u v) Q E s:=by
 obtain _|x|x:=x<;>obtain _|y|y:=y
 .cases hd_;cases hc_;rw[fi!]at h;exact SeqAt.EqAt.same _ _ _ _ _ h
 .cases hd_;rw[fi_]at h;obtain⟨i,t,rfl,rfl⟩|⟨i,t,rfl,rfl⟩:=bO hy
  .exact SeqAt.EqAt.none_int i t _ _ _ _ h
  .exact SeqAt.EqAt.none_str i t _ _ _ _ h
 .cases hd_;rw[fi_]at h;obtain⟨a,rfl,q⟩:=hy;obtain⟨its,q⟩:=jR q;exact SeqAt.EqAt.none_tuple q hu _ _ _ _ h
 .cases hc_;rw[fi_]at h;obtain⟨i,t,rfl,rfl⟩|⟨i,t,rfl,rfl⟩:=bO hx
  .exact SeqAt.EqAt.int_none i t _ _ _ _ h
  .exact SeqAt.EqAt.str_none i t _ _ _ _ h
 .refine(bi_).eqBool hx hy ?_;by_cases e:x=y
  .subst e;rw[fi!]at h ⊢;exact h
  .rw[KP cN!]at h;rw[KP e];exact h
 .rw[fi_]at h;obtain⟨a,rfl,q⟩:=hy;obtain⟨its,q⟩:=jR q;obtain⟨i,t,rfl,rfl⟩|⟨i,t,rfl,rfl⟩:=bO hx
  .exact SeqAt.EqAt.int_tuple i t q hu _ _ _ _ h
  .exact SeqAt.EqAt.str_tuple i t q hu _ _ _ _ h
 .cases hc_;rw[fi_]at h;show"#*";obtain⟨its,q⟩:=jR q;exact SeqAt.EqAt.tuple_none q hu _ _ _ _ h
 .rw[fi_]at h;obtain⟨a,rfl,q⟩:=hx;obtain⟨its,q⟩:=jR q;obtain⟨i,t,rfl,rfl⟩|⟨i,t,rfl,rfl⟩:=bO hy
  .exact SeqAt.EqAt.tuple_int i t q hu _ _ _ _ h
  .exact SeqAt.EqAt.tuple_str i t q hu _ _ _ _ h
 .show"#*";obtain⟨b,rfl,q2⟩:=hy;refine wpAny_eqBool_tuple hu q q2 ?_;by_cases e:x=y
  .subst e;rw[fi!]at h ⊢;exact h
  .rw[KP cN!]at h;rw[KP e];exact h
def a2w(hx:pI_)(h:Q true s):wpAny C! A (eqIsQuiet 8 u) Q E s:=by
 obtain _|x|x:=x
 .cases hd_;rw[eqIsQuiet_byValue _ rfl];exact KB h
 .rw[eqIsQuiet_byValue _ ((bi_).byValue x u hx)];exact KB h
 .show"#*";exact wpAny_eqIsQuiet_tuple q h
def rZ(hu:ak_)(hx:pI_)(h:∀tk,Q (mkHash P w x) {s with toks:=tk}):wpAny C! A (pyHash u) Q E s:=by
 obtain _|x|x:=x
 .cases hd_;unfold pyHash;have hv:[ci_].any Value.onHeap=false:=rfl;refine JY ?_;rw[cRoomFor,KN (by rw[hv];exact LH)];refine KB ?_;have hT:s.TypeIs .none "NoneType":=rfl;refine JY Av_;rw[KN (show¬(some (Value.builtin "NoneType.__hash__")==some Value.none)=true by rw[beq_builtin_none];exact LH)];refine JY Av_;show wpAny _ _ (callSpecialIfBoundUnlessNone? Value.none (Str.ofString "__hash__") _>>=_) _ _ _;refine JY (wpAny_callSpecialIfBoundUnlessNone?_slot hT QX (MF QX hT PySem.F.entry_NoneType_hash ?_ (PySem.F.args_NoneType_hash_1 _)));refine wpAny_ret_mkInt ?_;exact KB (h _)
 .exact(bi_).pyHash hx (h _)
 .show"#*";exact wpAny_pyHash_tuple hu q (h _)
end
def Md(ks:he!)(k:MK):Option Nat:=ks.findIdx? λx=>decide (x=k)
def Hf(ks:he!)(k:MK)(i:Nat):Bool:=decide (ks[i]?=some k)
def oR(h:Aw!):ks[j]?=some k/\∀i,i<j->ks[i]?≠some k:=by obtain⟨Y,h2,h3⟩:=List.findIdx?_eq_some_iff_getElem.mp h;refine⟨by rw[KZ Y];exact congrArg some (NI h2),λi hi e=>?_⟩;have:=h3 i hi;obtain⟨q1,q2⟩:=KS.mp e;rw[q2]at this;simp at this
def a3h(h:Md ks k=none)(i:Nat):ks[i]?≠some k:=λe=>by
 have:=List.findIdx?_eq_none_iff.mp h k (QY e);simp at this
def a7a(ks:he!)(k:MK):(List.range fj!).find? df!=Md ks k:=by
 cases h:Md ks k with
 |none=>
  rw[List.find?_eq_none];intro i hi z;exact a3h h i (NI z)
 |some j=>
  obtain⟨Y,h2⟩:=oR h;rw[List.find?_range_eq_some];refine⟨by unfold Hf;exact LG Y,RC.mpr (jZ!).1,Aw_⟩;unfold Hf;rw[KP (h2 i hi)];rfl
section
variable (P w)in
structure Nv(h:Heap)(es:jn!)(ks:he!):Prop where
 len:es.size=fj!
 at_:∀(i:Nat) (e:DictEntry) (k:MK),es[i]?=some e->ks[i]?=some k->Jx P w h k e.key/\e.hash=mkHash P w k
 nd:he_
def Nv.get(x:kt_){i:Nat}(q:Ax!):∃k,ks[i]?=some k/\Jx P w h k e.key/\e.hash=mkHash P w k:=by
 have hl:i<fj!:=by rw[<-x.len];exact(NR.mp q).1
 exact⟨ks[i],KZ hl,x.at_ i e _ q (KZ hl)⟩
def Nv.one(x:kt_)(Y:Hf ks k i=true)(h2:Hf ks k j=true):i=j:=by have e1:=NI Y;have e2:=NI h2;exact(List.getElem?_inj (KS.mp e1).1 x.nd).mp rO_
abbrev plc(es:jn!)(h:Int):List Nat:=placesWithHash es.size (λi=>es[i]?.map (·.hash)) h
def a3y{es:jn!}{ks:he!}(x:kt_)(k:MK):(ku!).find? df!=Md ks k:=by
 unfold plc placesWithHash;rw[List.find?_filter,<-a7a,x.len];congr 1;funext i;cases hp:Hf ks k i with
 |false=>simp
 |true=>
  have e1:=NI hp;have hl:i<es.size:=by rw[x.len];exact(KS.mp e1).1
  obtain⟨k',q1,q2,q3⟩:=x.get (MB hl);rw[e1]at q1;cases q1;simp[MB hl,q3]
def b4z(hi:i∈plc es h):i<es.size:=by have:=(NH.mp hi).1;simpa using this
def c6b:(plc es h).Nodup:=List.nodup_range.sublist Ax_
def a5b(hu:ak_)(x:AA!)(hk:d2!)
  (ho:Ay!)(hd:AA_)(h:Q hf! s):wpAny C! A Az! Q E s:=by
 show"!e";generalize plc es df_=L at hf hl ⊢;rw[<-hf]at h;unfold dictWalkPlain;refine JY (TW _ (λrest b s'=>s'=s/\b=fj_/\rest.find? df!=L.find? df!/\∀i∈rest,i<es.size) _ ?_ ?_ _ _ ⟨rfl,rfl,rfl,hl⟩)
 .rintro i rest b s' ⟨rfl,rfl,Y,h2⟩;have al:=h2 i KD;have he:es[i]?=some es[i]:=MB al;obtain⟨k',q1,q2,q3⟩:=x.get he;have no:k'≠k->rest.find? df!=L.find? df!:=λhne=>by
   rw[<-Y,PF];have:Hf ks k i=false:=by unfold Hf;rw[q1];exact KP AB_
   rw[this]
  show"#$";rw[he];dsimp only;split
  .refine JY pJ_;rw[Q!];by_cases ln:k'=k
   .subst ln;rw[fi!];have hi:Hf ks k' i=true:=by unfold Hf;exact LG q1
    have:L.find? (Hf ks k')=some i:=by rw[<-Y,PF,hi]
    rw[this]at h;exact JY (OE pK!)
   .rw[KP ln];exact JY (OE (KB ⟨rfl,rfl,no ln,rs⟩))
  .rename_i hh;exact KB ⟨rfl,rfl,no AC!,rs⟩
 .rintro b s' ⟨rfl,rfl,Y,_⟩;rw[<-Y]at h;exact KB h
end
section
def a1m(hk:d2!)(hl:∀v∈L,∃k',Jx P w s.heap k' v)(h:Q false s):wpAny C! A (tableMayTell u L) Q E s:=by
 unfold tableMayTell;split
 .exact KB h
 .refine JY (a2w hk ?_);rw[Q!];refine JY (TW _ (λrest r s'=>s'=s/\r=fj_/\∀v∈rest,v∈L) _ ?_ ?_ _ _ ⟨rfl,rfl,λ_ z=>z⟩)
  .rintro v rest r s' ⟨rfl,rfl,hr⟩;obtain⟨k',q⟩:=hl v (hr v KD);refine JY (a2w q ?_);rw[Q!];exact KB ⟨rfl,rfl,λy hy=>hr y dN!⟩
  .rintro r s' ⟨rfl,rfl,_⟩;exact KB h
def c0d(q1:AD!)(e:k'=k):Hf ks k i=true:=by unfold Hf;rw[<-e];exact LG q1
def b0r{rest:o!}(hc:(am=none/\(i::rest).find? df!=Md ks k)\/∃j,am=some j/\Md ks k=some j/\Hf ks k j=true/\j∉i::rest)(q1:AD!)(hne:¬k'=k):
  AD_\/∃j,am=some j/\Md ks k=some j/\Hf ks k j=true/\j∉rest:=by
 obtain⟨e,Y⟩|⟨j,e,Y,h4,h5⟩:=hc
 .refine .inl je_;rw[<-Y,PF];have:Hf ks k i=false:=by unfold Hf;rw[q1];exact KP AB_
  rw[this]
 .exact .inr ⟨j,e,Y,h4,λz=>h5 (KA _ z)⟩
def qI(q:Jx P w h k v):v.isStr z=decide (k=some fk!):=by
 by_cases e:k=some fk!
 .subst e;rw[fi!];obtain⟨i,t,e,_⟩|⟨i,t,e,rfl⟩:=bO q
  .cases e
  .cases e;simp[Value.isStr]
 .rw[KP e];cases v<;>first|rfl|skip
  rename_i y t;simp only[Value.isStr,NC,ne_eq];rintro rfl;exact e (a2x q (qG y t))
def b8j(x:kt_)(z:Str):(es.findIdx? λe=>e.key.isStr z)=Md ks (some fk!):=by
 cases hk:Md ks (some fk!)with
 |none=>
  rw[Array.findIdx?_eq_none_iff];intro e he;obtain⟨i,hi⟩:=Array.mem_iff_getElem?.mp he;obtain⟨k',q1,q2,_⟩:=x.get hi;rw[qI q2];exact KP λ(e:k'=_)=>a3h hk i AE!
 |some j=>
  obtain⟨Y,h2⟩:=oR hk;have hj:j<es.size:=by rw[x.len];exact(jZ!).1
  rw[Array.findIdx?_eq_some_iff_getElem];refine⟨hj,?_,Aw_⟩
  .obtain⟨k',q1,q2,_⟩:=x.get (MB hj);rw[qI q2];rw[Y]at q1;cases q1;exact LG rfl
  .obtain⟨k',q1,q2,_⟩:=x.get (MB (Nat.lt_trans hi hj));rw[qI q2,KP (λ(e:k'=_)=>h2 i hi AE!)];simp
def c9r(h:∃T:Prop,(T->g)/\T):g:=let⟨_,f,k⟩:=h;f k
def oZ(hu:ak_)(x:AA!)(hk:d2!)
  (ho:Ay!)(hd:AA_)(h:Q hf! s):wpAny C! A (dictFind d u df_) Q E s:=by
 have hst:∀v∈(ku!).filterMap (λi=>es[i]?.map kv_),∃k',Jx P w s.heap k' v:=λv hv=>by
  obtain⟨i,_,e⟩:=QJ.mp hv;obtain⟨e',e1,rfl⟩:=KI.mp e;obtain⟨k',_,q,_⟩:=x.get e1;exact⟨k',q⟩
 have ZO:¬(es.any λe=>e.key==u&&e.hash != mkHash P w k)=true:=λz=>by
  obtain⟨i,hi,z⟩:=Array.any_eq_true.mp z;rw[LN,QS,bne_iff_ne]at z;obtain⟨k',_,q,q3⟩:=x.get (MB hi);rw[z.1]at q;exact z.2 (by rw[q3,a2x q hk])
 show"!e";have qe:(ku!).Nodup:=c6b;have au:wpAny C! A Az! Q E s:=a5b hu x hk ho hd h;unfold dictFind;refine MH (JY (PL ho hd ?_));refine c9r ?_;apply Exists.intro;apply And.intro
 .intro tl;have wp:(∃a,u=.ref a)\/(∃z t,u=.str z t/\k=some fk!)\/(u=.none\/∃i t,u=.int i t):=by
   clear tl;obtain _|k|k:=k
   .exact .inr (.inr l4_)
   .obtain⟨i,t,rfl,rfl⟩|⟨i,t,rfl,rfl⟩:=bO hk
    .exact .inr (.inr (.inr ⟨i,t,rfl⟩))
    .exact .inr (.inl ⟨i,t,rfl,rfl⟩)
   .obtain⟨a,rfl,_⟩:=hk;exact .inl ⟨a,rfl⟩
  obtain⟨a,ea⟩|⟨z,t,ea,WG⟩|ea|⟨i,t,ea⟩:=wp
  all_goals rw[ea]
  all_goals dsimp only
  rotate_left
  refine wpAny_ite_split (λgr=>?_) λ_=>?_
  .clear tl;unfold foundByValue;rw[b8j x z,<-WG];cases hj:Md ks k with
   |none=>rw[hj]at h;exact KB h
   |some j=>
    obtain⟨Y,_⟩:=oR hj;have al:j<es.size:=by rw[x.len];exact(jZ!).1
    obtain⟨k',q1,q2,_⟩:=x.get (MB al);rw[Y]at q1;cases q1;dsimp only;rw[MB al,<-ea];refine JY pJ_;rw[Q!,fi!];rw[hj]at h;exact JY (OE (KB h))
  all_goals rw[<-ea]
  all_goals refine wpAny_ite_split (λ_=>au) λ_=>?_
  rotate_right
  rw[KN ZO]
  all_goals refine wpAny_ite_split (λ_=>JY P_) λ_=>JY (a1m hk hst ?_)
  all_goals rw[Q!]
  all_goals exact tl
 refine JY (TW _ (λrest b s'=>s'=s/\∃am,b=(none,am)/\(∀i∈rest,i<es.size)/\rest.Nodup/\
  (AD_\/∃j,am=some j/\Md ks k=some j/\Hf ks k j=true/\j∉rest)) _ ?_ ?_ _ _ ⟨rfl,none,rfl,hl,qe,.inl ⟨rfl,hf⟩⟩)
 rotate_left
 .rintro b s' ⟨rfl,am,rfl,_,_,hc⟩;obtain⟨rfl,Y⟩|⟨j,rfl,Y,_⟩:=hc
  .rw[<-Y]at h;exact KB h
  .rw[Y]at h;exact KB h
 .rintro i rest b s' ⟨rfl,am,rfl,h2,h3,hc⟩;have al:=h2 i KD;have he:es[i]?=some es[i]:=MB al;obtain⟨k',q1,q2,q3⟩:=x.get he;obtain⟨n1,n2⟩:=LA.mp h3;show"#$";have stay:=λhne=>b0r hc q1 hne;rw[he];dsimp only;split
  .refine JY pJ_;rw[Q!];by_cases ln:k'=k
   rotate_left
   .rw[KP ln];simp only[LM,MJ,Bool.false_and];exact JY (OE (KB ⟨rfl,am,rfl,rs,n2,stay ln⟩))
   .have hi:=c0d q1 ln;rw[LG ln];obtain⟨rfl,Y⟩|⟨j,e,Y,h4,h5⟩:=hc
    .have hL:=Y;rw[PF,hi]at hL;simp only[MU,Option.isSome_none,LM,MJ];refine JY fd_;split
     .rw[<-hL]at h;exact KB (KB h)
     .exact KB ⟨rfl,D!,rfl,rs,n2,.inr ⟨i,rfl,hL.symm,hi,n1⟩⟩
    .exact absurd (x.one hi h4) λz=>h5 (z▸KD)
  .rename_i hh;exact KB ⟨rfl,am,rfl,rs,n2,stay AC!⟩
end
def Ny(h:Heap)(a:u0!)(es:cH!)(ep:Nat):Prop:=∃o,h.get? a=some o/\hL!/\o.data=.dict es.toArray ep
def Ny.typeIs{s:zz!}(D:hi_):s.TypeIs F! "dict":=let⟨o,ho,hc,_⟩:=D;⟨o,ho,hc.1⟩
def AA(es:cH!)(j:Option Nat)(h:Int)(u v:zp!):List DictEntry:=match j with
 |some j=>es.modify j λe=>{e with val:=v}
 |none=>es++[⟨h,u,v⟩]
def Zz(j:Option Nat)(ep:Nat):Nat:=match j with
 |some _=>ep
 |none=>ep+1
section
variable{es:List DictEntry}
def d1c(hu:ak_)(D:hi_)(x:ky_)(hk:d2!)(h:∀tk,Q ((hf!).bind λj=>es[j]?.map (·.val)) {s with toks:=tk}):
  wpAny C! A AG! Q E s:=by
 obtain⟨o,ho,_,hd⟩:=D;unfold dictGet;refine MH pO!;have h:=h tk;cases hj:Md ks k with
 |none=>rw[hj]at h;exact KB h
 |some j=>
  rw[hj]at h;refine JY (PL (s:=d3!) ho hd P_);rw[PR];exact h
def sK{h:Heap}(ho:h.get? a=some o)(hc:hL!)(hd:o.data=.dict es.toArray ep)(he:f es.toArray=az.toArray):
  Ny (h.update a (Obj.mapDict f)) a az ep/\Ny (h.update a (Obj.mapDictKeys f)) a az cb!:=
 ⟨⟨_,NZ _ ho (Obj.isFreed_of_dict (Obj.data_mapDict hd _)),hc.mapDict _,by rw[Obj.data_mapDict hd,he]⟩,⟨_,NZ _ ho (Obj.isFreed_of_dict (Obj.data_mapDictKeys hd _)),hc.mapDictKeys _,by rw[Obj.data_mapDictKeys hd,he]⟩⟩
def d1b(hu:ak_)(D:hi_)(x:ky_)(hk:d2!)(hl:pO_)
  (h:∀h' tk,Ny h' a (AA es hf! df_ u v) (Zz hf! ep)->Heap.SameBut a s.heap h'->Q () {s with heap:=h',toks:=tk}):wpAny C! A AI_ Q E s:=by
 obtain⟨o,ho,hc,hd⟩:=D;unfold dictSet;refine MH (JY (rZ hu hk λtk=>?_));unfold dictSetHashed;refine MH (JY AF!);cases hj:Md ks k with
 |none=>
  rw[hj]at h;exact JY (OE (UN (s:=d3!) ho hd (h _ tk (AJ!).2 d0!) (hz:=kA!)))
 |some j=>
  rw[hj]at h;exact JY (OE (JY (wpAny_updateDict (s:=d3!) ho hd (wpAny_point (h _ tk (AJ!).1 d0!)))))
def pE(hu:ak_)(D:hi_)(x:ky_)(hk:d2!)(hl:pO_)
  (Y:∀j e tk,Md ks k=some j->es[j]?=some e->Q e.val {s with toks:=tk})
  (h2:∀h' tk,Md ks k=none->Ny h' a (es++[⟨mkHash P w k,u,v⟩]) cb!->Heap.SameBut a s.heap h'->Q v {s with heap:=h',toks:=tk}):wpAny C! A (dictSetDefault a u v) Q E s:=by
 obtain⟨o,ho,hc,hd⟩:=D;unfold dictSetDefault;refine MH pO!;cases hj:Md ks k with
 |none=>
  exact JY (OE (JY (UN (s:=d3!) ho hd (KB (h2 _ tk hj (sK ho hc hd c!).2 d0!)) (hz:=kA!))))
 |some j=>
  have al:j<ab!:=by
   have:=(KS.mp (oR hj).1).1;rw[<-x.len]at this;simpa using this
  refine JY AK_;rw[PR,KZ al];exact JY (OE (KB (Y j _ tk hj (KZ al))))
def c7y(hu:ak_)(D:hi_)(x:ky_)(hk:d2!)(hl:pO_)(hj:Aw!)(he:es[j]?=some e)
  (h:∀h' tk,Ny h' a AL_ cb!->Heap.SameBut a s.heap h'->Q ie_ {s with heap:=h',toks:=tk}):wpAny C! A AM! Q E s:=by
 obtain⟨o,ho,hc,hd⟩:=D;unfold Builtin.Dict.takeOut;refine MH pO!;rw[hj];refine JY AK_;rw[PR,he];have al:j<ab!:=(KS.mp he).1;refine JY (UN (s:=d3!) ho hd (KB (h _ tk (sK ho hc hd ?_).2 d0!)) (hz:=kA!) (hf:=?_))
 .rw[Array.eraseIdxIfInBounds,dif_pos AM_];simp
 .rw[Array.eraseIdxIfInBounds];split
  .rw[Array.size_eraseIdx];omega
  .omega
end
def Lg:List D->Option At!
 |[]=>some []
 |.int i::r=>(Lg r).map (Sum.inl i::·)
 |.str x::r=>(Lg r).map (Sum.inr x::·)
 |_::_=>none
def Da:D->Option MK
 |.non=>some none
 |.int i=>some (some (.inl lw_))
 |.str x=>some (some (.inl ly!))
 |.tup xs=>(Lg xs).map λks=>some (.inr ks)
 |_=>none
def xG:∀{xs ys:e!} {ks:List L2.Key},Lg xs=some ks->Lg ys=some ks->xs=ys
 |[],ys,ks,h,h'=>by
  cases h;cases ys with
  |nil=>rfl
  |cons y r=>cases y<;>simp[Lg]at h'
 |x::xs,[],ks,h,h'=>by
  cases h';cases x<;>simp[Lg]at h
 |x::xs,y::ys,ks,h,h'=>by
  cases x<;>simp only[Lg]at h<;>first|(cases h;done)|skip
  all_goals (obtain⟨l,e1,rfl⟩:=KI.mp h)
  all_goals (cases y<;>simp only[Lg]at h'<;>first|(cases h';done)|skip)
  all_goals (obtain⟨l',e2,e3⟩:=KI.mp h')
  all_goals (injection e3 with e4 e5)
  all_goals first|(injection e4;done)|skip
  all_goals (injection e4 with e4;subst e4 e5;rw[xG e1 e2])
def a9j(h:as_)(h':aP_):x=y:=by
 cases x<;>simp only[Da]at h<;>first|(cases h;done)|skip
 all_goals (cases y<;>simp only[Da]at h'<;>first|(cases h';done)|skip)
 all_goals first
  |rfl
  |(cases h;cases h';rfl)
  |(cases h;cases h')
  |(cases h;obtain⟨l,e1,e2⟩:=KI.mp h';cases e2)
  |(cases h';obtain⟨l,e1,e2⟩:=KI.mp h;cases e2)
  |(obtain⟨l,e1,e2⟩:=KI.mp h;obtain⟨l',e3,e4⟩:=KI.mp h';cases e2;cases e4;rw[xG e1 e3])
def Cu(KF:zA!)(G:Hp)(d:D)(u:zp!):Prop:=∃v,Aq KF G d v/\Bn v u
def Cu.mono(e:kC!)(h:Cu KF G d u):Cu KF G' d u:=let⟨v,Y,h2⟩:=h;⟨v,Y.mono e,h2⟩
def a1v:∀{ds:e!} {vs:q!} {ks:List L2.Key},Am KF G ds vs->Lg ds=some ks->vs=ks.map kV
 |[],vs,ks,r,e=>by cases cM r;cases e;rfl
 |d::ds,vs,ks,r,e=>by
  obtain⟨v,t,rfl,r1,r2⟩:=bM r;cases d<;>simp only[Lg]at e<;>first|(cases e;done)|skip
  all_goals (obtain⟨l,e1,rfl⟩:=KI.mp e;rw[a1v r2 e1])
  .cases aZ r1;rfl
  .cases cD r1;rfl
def pQ(I:d!)(sub:E!)(r:bM!)(e:bh!):Jx X.prog X.w s.heap k u:=by
 obtain⟨v,r,ru⟩:=r;cases d<;>simp only[Da]at e<;>first|(cases e;done)|skip
 .cases e;cases dW r;exact ru
 .cases e;cases aZ r;obtain⟨t,rfl⟩:=ru;exact xH _ _
 .cases e;cases cD r;obtain⟨t,rfl⟩:=ru;exact qG _ _
 .obtain⟨ks,e1,rfl⟩:=KI.mp e;obtain⟨a,vs,rfl,q,rr⟩:=bR r;cases ru;show"#/";rw[a1v rr e1]at rv;exact⟨a,rfl,o,a0_,n,Y,h2,h3,by simpa using qH rv⟩
open Classical in
nonrec def kget:List am!->D->Option D
 |[],_=>none
 |(k,v)::r,d=>if k=d then some v else kget r d
open Classical in
def Br:List am!->D->D->List am!
 |[],d,v=>[(d,v)]
 |(k,x)::r,d,v=>if k=d then(k,v)::r else(k,x)::Br r d v
open Classical in
def Hl:List am!->D->List am!
 |[],_=>[]
 |(k,x)::r,d=>if k=d then r else(k,x)::Hl r d
section
variable{P:zy!}{w:zx!}
variable (P w KF G)in
def FF(p:D×D)(e:DictEntry):Prop:=Cu KF G p.1 e.key/\Cu KF G p.2 e.val/\∃k,Da p.1=some k/\e.hash=mkHash P w k
variable (P w KF G)in
def Hk(h1:n_)(es:cH!):Prop:=Paired (FF P w KF G) h1 es/\(fl_).Nodup
def Hk.mono(e:kC!)(h:fm!):Hk P w KF G' h1 es:=
 ⟨Paired.mapP h.1 λp q z=>⟨z.1.mono e,z.2.1.mono e,z.2.2⟩,h.2⟩
def Ij(h1:n_):List MK:=h1.map λp=>(Da p.1).getD none
def gB:∀{l:ai_} {m:List β} {i:Nat} {a:α},Paired F l m->l[i]?=some a->∃b,m[i]?=some b/\F a b
 |_,_,_,_,.nil,e=>by simp at e
 |_,_,0,_,.cons r _,e=>by simp at e;subst e;exact lA!
 |_,_,i+1,a,.cons _ t,e=>by
  obtain⟨b,Y,h2⟩:=gB (i:=i) (a:=a) t cN!;exact⟨b,lz_,h2⟩
def mM(h:AO!)(h':Paired F l' m'):Paired F (l++l') (m++m'):=by
 induction h with
 |nil=>exact h'
 |cons r _ ih=>exact .cons r ih
def vL{l:ai_}{m:List β}(j:Nat)(h:AO!):(∀a b,l[j]?=some a->m[j]?=some b->F a b->F (f a) (g b))->Paired F (l.modify j f) (m.modify j g):=by
 induction h generalizing j with
 |nil=>intro _;simpa using Paired.nil
 |cons r t ih=>
  intro h;cases j with
  |zero=>exact .cons (h _ _ rfl rfl r) t
  |succ j=>exact .cons r (ih j λa b e1 e2=>h a b (by simpa using e1) (by simpa using e2))
def nZ:∀{l:ai_} {m:List β} (j:Nat),Paired F l m->Paired F (l.eraseIdx j) (m.eraseIdx j)
 |_,_,_,.nil=>.nil
 |_,_,0,.cons _ t=>t
 |_,_,j+1,.cons r t=>.cons r (nZ j t)
def Hk.ents(I:d!)(sub:E!)(h:Hk X.prog X.w X.K G h1 es):Nv X.prog X.w s.heap es.toArray fn!:=by
 obtain⟨Y,h2⟩:=h;refine⟨by simp[Ij,QL Y],λi e k he hk=>?_,?_⟩
 .rw[PR]at he;unfold Ij at hk;rw[LZ]at hk;obtain⟨p,hp,rfl⟩:=KI.mp hk;obtain⟨e',iy,q1,_,k',q2,q3⟩:=gB Y hp;rw[he]at iy;cases iy;rw[q2];exact⟨pQ I sub q1 q2,q3⟩
 .have j0:∀{l:n_} {m:cH!},Paired (FF X.prog X.w X.K G) l m->(d3_).Nodup->(Ij l).Nodup:=by
   intro l m hp
   induction hp with
   |nil=>intro _;exact NU
   |@cons p e l m q t ih=>
    intro nd;rw[KL,LA]at nd;show(_::Ij l).Nodup;rw[LA];refine⟨dh_,ih nd.2⟩;obtain⟨p',bu,e'⟩:=KY.mp z;obtain⟨_,_,k,hk,_⟩:=q;obtain⟨i,hi⟩:=QO.mp bu;obtain⟨_,_,_,_,k',cz,_⟩:=gB t hi;dsimp only at e';rw[hk,cz]at e';have:k'=k:=e';subst this;exact nd.1 (KY.mpr ⟨p',bu,a9j cz hk⟩)
  exact j0 Y h2
def Hk.look(h:fm!)(hd:bh!):
  (Md fn! k=none/\kget h1 d=none/\(∀v,Br h1 d v=h1++[(d,v)])/\d∉h1.map c_)\/∃j x e,Md fn! k=some j/\h1[j]?=some d4!/\es[j]?=some e/\kget h1 d=some x/\Cu KF G x e.val/\(∀v,Br h1 d v=h1.modify j λp=>(p.1,v))/\Hl h1 d=h1.eraseIdx j:=by
 obtain⟨Y,h2⟩:=h
 induction Y with
 |nil=>exact .inl ⟨rfl,rfl,bT_,Q_⟩
 |@cons p e l m q t ih=>
  obtain⟨y,z⟩:=p;rw[KL,LA]at h2;obtain⟨_,q2,k',q3,_⟩:=q;have q3:Da y=some k':=q3;have nq:Ij ((y,z)::l)=k'::Ij l:=by unfold Ij;rw[KL,q3];rfl
  by_cases hy:y=d
  .subst hy;rw[hd]at q3;cases q3;refine .inr ⟨0,z,e,?_,rfl,rfl,by simp[kget],q2,λv=>by simp[Br,List.modify],by simp[Hl]⟩;rw[nq];unfold Md;rw[List.findIdx?_cons];simp
  .have hne:k'≠k:=λe=>hy (a9j q3 (e▸hd));have cz:Md (Ij ((y,z)::l)) k=(Md (Ij l) k).map (·+1):=by
    rw[nq];unfold Md;rw[List.findIdx?_cons];simp[hne]
   obtain⟨i1,i2,i3,i4⟩|⟨j,x,e',i1,i2,i3,i4,i5,i6,i7⟩:=ih h2.2
   .refine .inl ⟨AR!,by simp[kget,hy,i2],λv=>by simp[Br,hy,i3 v],?_⟩;rw[KL,KG,SE];exact⟨λe=>hy e.symm,i4⟩
   .exact .inr ⟨j+1,x,e',AR!,by simpa using i2,by simpa using i3,by simp[kget,hy,i4],i5,λv=>by simp[Br,hy,i6 v],by simp[Hl,hy,i7]⟩
def Hk.put(h:fm!)(hd:bh!)(ru:Cu KF G d u)(rv:Cu KF G x v):Hk P w KF G pS! (AA es (Md fn! k) df_ u v):=by
 obtain⟨i1,i2,i3,i4⟩|⟨j,y,e',i1,i2,i3,i4,i5,i6,i7⟩:=h.look hd
 .rw[i1,i3];refine⟨mM h.1 (.cons ⟨ru,rv,k,hd,rfl⟩ .nil),?_⟩;rw[LL,LX];refine⟨h.2,Q_,λa ha b J e=>?_⟩;simp at J;subst J e;exact i4 ha
 .rw[i1,i6];refine⟨vL j h.1 λa b _ _ q=>⟨q.1,rv,q.2.2⟩,?_⟩;have:∀(l:n_) (j:Nat),(l.modify j λp=>(p.1,x)).map c_=l.map c_:=by
   intro l
   induction l with
   |nil=>intro j;simp
   |cons p l ih=>
    intro j;cases j with
    |zero=>simp
    |succ j=>simp[ih j]
  rw[this];exact h.2
def Hk.del(h:fm!):Hk P w KF G (h1.eraseIdx j) AL_:=by refine⟨nZ j h.1,?_⟩;exact h.2.sublist ((List.eraseIdx_sublist h1 j).map _)
end
inductive Es where
 |lst (xs:e!)|dct (h1:n_) (ep:Nat)|obj (C:u0!) (fs:g2!)
abbrev Mh:=Addr->Option Es
nonrec def mup(M:Mh)(a:u0!)(c:Es):Mh:=λb=>if b=a then some c else M b
def mup_same:mup M a c a=some c:=by unfold mup;rw[A!]
def mup_ne(h:b≠a):mup M a c b=M b:=by unfold mup;rw[KN h]
nonrec def dE(a:u0!)(es:cH!)(ep:Nat):HO:=.ext λh=>Ny h a es ep/\dp!=false/\ab!<=big
def Ki(KF:zA!)(G:Hp):List b7!->List cN_->Prop:=Paired λp q=>p.1=q.1/\Aq KF G p.2 q.2
section
variable(P:zy!)(w:zx!)(KF:zA!)
def Gz(G H:Hp)(a:u0!):Es->Prop
 |.lst xs=>∃vs,H a=some cy_/\Am KF G xs vs
 |.dct h1 ep=>∃es,H a=some kE!/\Hk P w KF G h1 es
 |.obj C fs=>∃dx vs,H a=some AU!/\Ki KF G fs vs
structure MR(M:Mh)(G H:Hp):Prop where
 cell:∀a c,M a=some c->G a=none/\Gz P w KF G H a c
end
structure XM(M:Mh)(G H:Hp)(M':Mh)(G' H':Hp):Prop where
 g:Bc G G'
 sub:Bc G' H'
 new:∀b,G' b≠none->G b≠none\/H b=none
 keep:∀b o,H b=some o->M b=none->H' b=some o
 dom:∀b,M' b≠none->M b≠none\/H b=none
 cells:∀b,M b≠none->M' b≠none
def XM.refl(s:E!):XM M G H M G H:=⟨eZ_,s,jB!,λ_ _ h _=>h,jB!,λ_ h=>h⟩
def XM.free(x:kE_)(hM:M b=none)(h:H' b=none):H b=none:=by
 cases e:H b with
 |none=>rfl
 |some o=>rw[x.keep b o e hM]at h;cases h
section
variable{M M1 M2:Mh}
def Ki.mono(e:kC!)(h:kF!):Ki KF G' fs vs:=Paired.mapP h λ_ _ z=>⟨z.1,z.2.mono e⟩
def Gz.mono(e:kC!)(h:AV!)(hH:H' a=H a):Gz P w KF G' H' a c:=by
 cases c with
 |lst xs=>obtain⟨vs,Y,h2⟩:=h;exact⟨vs,pT!,pT_⟩
 |dct h1 ep=>obtain⟨es,Y,h2⟩:=h;exact⟨es,pT!,pT_⟩
 |obj C fs=>obtain⟨dx,vs,Y,h2⟩:=h;exact⟨dx,vs,pT!,pT_⟩
def Gz.has(h:AV!):H a≠none:=by
 cases c with
 |lst xs=>obtain⟨vs,Y,h2⟩:=h;rw[Y];simp
 |dct h1 ep=>obtain⟨es,Y,h2⟩:=h;rw[Y];simp
 |obj C fs=>obtain⟨dx,vs,Y,h2⟩:=h;rw[Y];simp
def MR.has(m:cb_)(h:M c≠none):H c≠none:=by
 cases e:M c with
 |none=>exact absurd e h
 |some q=>exact(m.cell c q e).2.has
def XM.trans(a:XM M G H M1 G1 H1)(b:XM M1 G1 H1 M2 G2 H2)(m:AV_):XM M G H M2 G2 H2 where
 g:=a.g.trans b.g
 sub:=b.sub
 new:=λc h=>by
  obtain z|z:=b.new c h
  .exact a.new c z
  .cases hM:M c with
   |none=>exact .inr AW!
   |some q=>exact absurd z (m.has (a.cells c AW_))
 keep:=λc o h hM=>by
  refine b.keep c o (a.keep c o h hM) ?_;cases e:M1 c with
  |none=>rfl
  |some q=>
   rcases a.dom c pU! with z|z
   .exact absurd hM z
   .rw[h]at z;cases z
 dom:=λc h=>by
  obtain z|z:=b.dom c h
  .exact a.dom c z
  .cases hM:M c with
   |none=>exact .inr AW!
   |some q=>exact .inl c!
 cells:=λc h=>b.cells c (a.cells c h)
def XM.ext(x:jC!):XM M G H M G' H':=⟨x.g,x.sub,x.new,λb o h _=>x.h b o h,jB!,λ_ h=>h⟩
def MR.ext(m:cb_)(x:jC!):MR P w KF M G' H':=⟨λa c e=>by
 obtain⟨Y,h2⟩:=m.cell a c e;have hn:H a≠none:=h2.has;refine AX!
 .cases q:G' a with
  |none=>rfl
  |some o=>
   rcases x.new a cv! with z|z
   .exact absurd Y z
   .exact absurd z hn
 .cases q:H a with
  |none=>exact absurd q hn
  |some o=>exact x.h a o q⟩
end
structure Sx(P:zy!)(w:zx!)(KF:zA!)(own:o!)(G H:Hp)(Z:St)(ρ:Ag)(M:Mh):Prop where
 or:OR KF own G H Z ρ
 mr:MR P w KF M G H
 dj:∀i∈own,∀p,Z[i]?=some cz_->M p=none
section
variable{M M' M1 M2:Mh}
def OR.growM(h:b4!)(x:kE_)(dj:∀i∈own,∀p,Z[i]?=some cz_->M p=none):OR KF own G' H' Z ρ where
 sub:=x.sub
 len:=h.len
 at_:=λi d q n=>let⟨v,Y,h2⟩:=h.at_ i d q n;w2!
 own_:=λi hi=>by
  obtain⟨p,ds,vs,Y,h2,h3,h4,h5⟩:=h.own_ i hi;refine⟨p,ds,vs,Y,h2,x.keep _ _ h3 (dj i hi p h2),?_,h5.mono x.g⟩;cases q:G' p with
  |none=>rfl
  |some o=>
   rcases x.new p cv! with z|z
   .exact absurd h4 z
   .rw[h3]at z;cases z
 dis:=h.dis
def Sx.grow(s:hl!)(x:kE_)(m:AX_):Sx P w KF own G' H' Z ρ M':=
 ⟨s.or.growM x s.dj,m,λi hi p e=>by
  cases q:M' p with
  |none=>rfl
  |some c=>
   obtain⟨p',ds,vs,Y,h2,h3,h4,h5⟩:=s.or.own_ i hi;rw[e]at h2;cases h2;rcases x.dom p cv! with z|z
   .exact absurd (s.dj i hi p e) z
   .rw[h3]at z;cases z⟩
end
abbrev WE:=Ag->Mh->pV!->Prop
abbrev WA:=Ag->Mh->AY!->Prop
abbrev WT:=Ag->Mh->(Bool->Mh->Prop)->Prop
section
variable(P:zy!)(w:zx!)(KF:zA!)(own:List Nat)
inductive DF(f:WE)(Z:St)(H:Hp)(Q:VK):Prop
 |mk (G:Hp) (ρ:Ag) (M:Mh) (R:T_) (st:hl!) (e:hl_) (k:∀d M' v G' H',R d M'->XM M G H M' G' H'->MR P w KF M' G' H'->Aq KF G' d v->Q v H'):DF f Z H Q
inductive IA(f:WA)(Z:St)(H:Hp)(Q:cQ_):Prop
 |mk (G:Hp) (ρ:Ag) (M:Mh) (R:AY_) (st:hl!) (e:hl_) (k:∀d M' v G' H',R d M'->XM M G H M' G' H'->MR P w KF M' G' H'->Am KF G' d v->Q v H'):IA f Z H Q
inductive AN(f:WT)(Z:St)(H:Hp)(Q:ds!):Prop
 |mk (G:Hp) (ρ:Ag) (M:Mh) (R:kF_) (st:hl!) (e:hl_) (k:∀d M' G' H',R d M'->XM M G H M' G' H'->MR P w KF M' G' H'->Q d H'):AN f Z H Q
end
structure ME(X:Cx)(own:o!)(e:Expr)(f:WE):Prop where
 ok:PE X e (DF X.prog X.w X.K own f)
structure MA(X:Cx)(own:o!)(es:cR!)(f:WA):Prop where
 ok:PA X es (IA X.prog X.w X.K own f)
structure MT(X:Cx)(own:o!)(e:Expr)(f:WT):Prop where
 ok:PT X e A0_
structure MW(X:Cx)(own:o!)(e:Expr)(f:WT):Prop where
 ok:PW X e A0_
nonrec def wl(f:o_):WE:=λρ M R=>match f ρ with|some d=>R d M|none=>False
def Db(f:bH!):WT:=λρ M R=>match f ρ with|some d=>R d M|none=>False
section
variable{X:Cx}{es rest:List Expr}
def eK(h:h7_)(hw:∀Z G H Q ρ M R,Sx X.prog X.w X.K own G H Z ρ M->f ρ M R->(∀d M' v G' H',R d M'->XM M G H M' G' H'->MR X.prog X.w X.K M' G' H'->Aq X.K G' d v->Q v H')->t Z H Q):ME X own e f:=
 A1!
def c4v(h:ga_)(hw:∀Z G H Q ρ M R,Sx X.prog X.w X.K own G H Z ρ M->fs ρ M R->(∀d M' v G' H',R d M'->XM M G H M' G' H'->MR X.prog X.w X.K M' G' H'->Am X.K G' d v->Q v H')->t Z H Q):MA X own es fs:=
 ⟨λp hb s Z H Q I ⟨G,ρ,M,R,st,e,k⟩=>h p hb s Z H Q I pW!⟩
def a9h(h:PT X e t)(hw:A1_):MT X own e ft:=
 A1!
def c4r(h:l7!)(hw:A1_):MW X own e ft:=
 ⟨λwh hb s Z H Q I ⟨G,ρ,M,R,st,e,k⟩=>h wh hb s Z H Q I pW!⟩
def c0a(h:wl g ρ M R):∃d,g ρ=some d/\R d M:=by
 unfold wl at h;split at h
 .exact A2!
 .exact h.elim
def b3l(h:Db gt ρ M R):∃d,gt ρ=some d/\R d M:=by
 unfold Db at h;split at h
 .exact A2!
 .exact h.elim
def aB(h:DE X own e g):ME X own e (wl g):=eK h.ok λZ G H Q ρ M R st e' k=>by
 obtain⟨d,e1,e2⟩:=c0a e';exact⟨G,ρ,d,st.or,e1,λv G' H' x r=>k d M v G' H' e2 pW_ pX! r⟩
def eH(h:DT X own e gt):MT X own e (Db gt):=a9h h.ok λZ G H Q ρ M R st e' k=>by
 obtain⟨d,e1,e2⟩:=b3l e';exact⟨G,ρ,d,st.or,e1,λG' H' x=>k d M G' H' e2 pW_ pX!⟩
def Ad:WA:=λ_ M R=>R [] M
def Ab(f:WE)(fs:WA):WA:=λρ M R=>f ρ M λd M1=>fs ρ M1 λds M2=>R dP! M2
def aM:MA X own [] Ad:=c4v fK λZ G H Q ρ M R st e k=>k [] M [] G H e kG! st.mr Am.nil
def aC(h:bu!)(hs:fo!)(hst:ah!:=by rfl):MA X own aA_ (Ab f fs):=
 c4v xC_ λZ G H Q ρ M R st e' k=>⟨G,ρ,M,_,st,e',λd M1 v G1 H1 r1 x1 m1 q1=>⟨G1,ρ,M1,_,st.grow x1 m1,r1,λds M2 vs G2 H2 r2 x2 m2 q2=>
  k _ M2 _ G2 H2 r2 cc! m2 (Am.cons bN_ q2)⟩⟩
def Yz(P:zy!)(w:zx!)(KF:zA!)(r:R2)(g:pX_):Prop:=∀{x y:V} {dx dy d:D} {M:Mh} {G H:Hp} {Q:VK},Bc G H->MR P w KF M G H->Aq KF G dx x->Aq KF G dy y->g M dx dy=some d->jE_->r x y H Q
def Hs.m{g:gP_}(h:Hs KF r g):Yz P w KF r (λ_=>g):=λs _ rx ry e k=>h s rx ry e k
nonrec def w2(g:pX_)(fa fb:WE):WE:=λρ M R=>fa ρ M λx M1=>fb ρ M1 λy M2=>match g M2 x y with|some d=>R d M2|none=>False
def c0e(hg:hm_)(st:A3!)(e:w2 gm fa fb ρ M R)
  (k:∀d M' v G' H',R d M'->XM M G H M' G' H'->MR X.prog X.w X.K M' G' H'->Aq X.K G' d v->Q v H'):CV r (DF X.prog X.w X.K own fa) (DF X.prog X.w X.K own fb) Z H Q:=
 ⟨G,ρ,M,_,st,e,λx M1 u G1 H1 r1 x1 m1 q1=>⟨G1,ρ,M1,_,st.grow x1 m1,r1,λy M2 v G2 H2 r2 x2 m2 q2=>by
  have r2:(match gm M2 x y with|some d=>R d M2|none=>False):=r2;split at r2
  .rename_i d hd;exact hg x2.sub m2 bN_ q2 hd λz G3 H3 x3 q3=>k d M2 z G3 H3 r2 ((cc!).trans (.ext x3) m2) (m2.ext x3) q3
  .exact r2.elim⟩⟩
def uD(ho:mK!)(hg:hm_)(ha:an!)(J:cc_):ME X own mK_ kG_:=
 eK xi! λZ G H Q ρ M R st e k=>c0e hg st e k
def iO(ho:bS_)(hg:hm_)(ha:an!)(J:cc_)(hm:ds_):ME X own dt! kG_:=
 eK xi_ λZ G H Q ρ M R st e k=>c0e hg st e k
def bU(hr:Xk X r)(hg:hm_)(ha:an!)(J:cc_)(hs:Pm b):ME X own nB! kG_:=
 eK xj! λZ G H Q ρ M R st e k=>c0e hg st e k
nonrec def wT(f:WE):WT:=λρ M R=>f ρ M λd M1=>match d with|.bl b=>R b M1|_=>False
def cY(ho:bS_)(hg:hm_)(ha:an!)(J:cc_)(hm:ds_):MT X own dt! (wT kG_):=
 a9h xj_ λZ G H Q ρ M R st e k=>c0e (own:=own) (Q:=xk_) hg st e λd M' v G' H' r' x' m' q'=>by
  cases d<;>first|exact r'.elim|skip
  cases cW q';exact A5!
def fE(h:bu!)(he:h8!:=by intro _;rfl):MT X own e (wT f):=
 a9h xm! λZ G H Q ρ M R st e k=>⟨G,ρ,M,_,st,e,λd M' v G' H' r' x' m' q'=>by
  cases d<;>first|exact r'.elim|skip
  cases cW q';exact A5!⟩
def Gq(ft fu:WT):WT:=λρ M R=>ft ρ M λb M1=>if b then fu ρ M1 R else R false M1
def Vt(ft fu:WT):WT:=λρ M R=>ft ρ M λb M1=>if b then R true M1 else fu ρ M1 R
def Hu(ft:WT):WT:=λρ M R=>ft ρ M λb M1=>R (!b) M1
def jX(h:hn!):MW X own mg! ft:=xp_
def tV(h:hn!):MW X own mg_ ft:=xq_
def nE(ha:hn!)(J:MW X own es_ fu):MW X own et! (Gq ft fu):=
 c4r xr! λZ G H Q ρ M R st e k=>⟨G,ρ,M,_,st,e,λx M1 G1 H1 r1 x1 m1=>by
  cases x with
  |true=>exact kB A6_
  |false=>exact kP A7!⟩
def a2v(ha:hn!)(J:MW X own et_ fu):MW X own eu! (Vt ft fu):=
 c4r xt! λZ G H Q ρ M R st e k=>⟨G,ρ,M,_,st,e,λx M1 G1 H1 r1 x1 m1=>by
  cases x with
  |false=>exact kP A6_
  |true=>exact kB A7!⟩
def rR(h:MW X own e ft):MT X own e ft:=xt_
def jY(h:hn!):MT X own eu_ (Hu ft):=
 a9h (b4r h.ok) λZ G H Q ρ M R st e k=>⟨G,ρ,M,_,st,e,λx M1 G1 H1 r1 x1 m1=>k _ M1 G1 H1 r1 x1 m1⟩
def Mg(fa fb:WE):WE:=λρ M R=>wT fa ρ M λb M1=>if b then fb ρ M1 R else R Z! M1
def Uu(fa fb:WE):WE:=λρ M R=>wT fa ρ M λb M1=>if b then R w_ M1 else fb ρ M1 R
def Rh(fa:WE):WE:=λρ M R=>wT fa ρ M λb M1=>R (.bl (!b)) M1
def qD(h:an!):ME X own mh! fa:=xu_
def zI(ha:an!)(J:ME X own es_ fb):ME X own et! (Mg fa fb):=
 eK xv_ λZ G H Q ρ M R st e k=>⟨G,ρ,M,_,st,e,λd M1 v G1 H1 r1 x1 m1 q1=>by
  cases d<;>first|exact r1.elim|skip
  rename_i x;cases cW q1;refine jH!;cases x with
  |true=>exact kB kH_
  |false=>exact kP A7_⟩
def b6r(ha:an!)(J:ME X own et_ fb):ME X own eu! (Uu fa fb):=
 eK xz! λZ G H Q ρ M R st e k=>⟨G,ρ,M,_,st,e,λd M1 v G1 H1 r1 x1 m1 q1=>by
  cases d<;>first|exact r1.elim|skip
  rename_i x;cases cW q1;refine jH!;cases x with
  |false=>exact kP kH_
  |true=>exact kB A7_⟩
def b6s(ha:an!):ME X own eu_ (Rh fa):=
 eK (b5j ha.ok) λZ G H Q ρ M R st e k=>⟨G,ρ,M,_,st,e,λd M1 v G1 H1 r1 x1 m1 q1=>by
  cases d<;>first|exact r1.elim|skip
  cases cW q1;exact⟨_,rfl,k _ M1 _ G1 H1 r1 x1 m1 Aq.bl⟩⟩
def DC(ft:WT)(fa fb:WE):WE:=λρ M R=>ft ρ M λb M1=>if b then fa ρ M1 R else fb ρ M1 R
def c4u(hc:kI!)(ha:an!)(J:cc_):ME X own mi! (DC ft fa fb):=
 eK xB! λZ G H Q ρ M R st e k=>⟨G,ρ,M,_,st,e,λx M1 G1 H1 r1 x1 m1=>by
  cases x with
  |true=>exact kB kH_
  |false=>exact kP kH_⟩
def Po(fs:WA):WE:=λρ M R=>fs ρ M λds M1=>g!<=1000/\R c5_ M1
def Zb(fs:WA):WE:=λρ M R=>fs ρ M λds M1=>g!<=1000/\R b3_ M1
def uC(h:fo!):ME X own (.Tuple es n pos) (Po fs):=
 eK (b5g h.ok) λZ G H Q ρ M R st e k=>⟨G,ρ,M,_,st,e,λds M1 vs G1 H1 r1 x1 m1 q1=>⟨by rw[<-aJ q1];exact eU r1.1,λp hp=>
  k _ M1 _ _ _ r1.2 A9! A9_ (fO Ba! q1)⟩⟩
def c6z(h:fo!):ME X own iL_ (Zb fs):=
 eK jJ! λZ G H Q ρ M R st e k=>⟨G,ρ,M,_,st,e,λds M1 vs G1 H1 r1 x1 m1 q1=>⟨by rw[<-aJ q1];exact eU r1.1,λp hp=>
  k _ M1 _ _ _ r1.2 A9! A9_ (cZ Ba! q1)⟩⟩
end
section
variable{KF:zA!}
def MR.nocell(m:cb_)(h:cy!):M p=none:=by
 cases e:M p with
 |none=>rfl
 |some q=>exact absurd h (m.has pU!)
def XM.laid(s:E!)(hp:cy!):XM M G H (mup M p c) G eY_:=by
 show"#0";refine⟨eZ_,λb u e=>by rw[aY (ne (s b u e))];exact s b u e,db_,λb u e _=>by rw[aY (ne e)];exact e,bd!,bd!⟩
 .by_cases J:b=p
  .subst J;exact .inr hp
  .rw[cI_]at h;exact .inl h
 .by_cases J:b=p
  .subst J;rw[mup_same];simp
  .rw[cI_];exact h
def MR.laid(m:cb_)(hp:cy!)(s:E!)(h:Gz P w KF G eY_ p c):MR P w KF (mup M p c) G eY_:=⟨λb q e=>by
 by_cases J:b=p
 .show"#&";exact⟨s.free hp,h⟩
 .rw[cI_]at e;obtain⟨Y,h2⟩:=m.cell b q e;exact Ba_⟩
def XM.write(m:cb_)(s:E!)(ha:M a=some c0):XM M G H (mup M a c) G cO!:=by
 have hG:=(m.cell a c0 ha).1;refine⟨eZ_,λb u e=>by rw[aY (cK e hG)];exact s b u e,db_,λb u e J=>?_,bd!,bd!⟩
 .have:b≠a:=λz=>by subst z;rw[ha]at J;cases J
  rw[aY this];exact e
 .by_cases J:b=a
  .subst J;exact .inl (by rw[ha];simp)
  .rw[cI_]at h;exact .inl h
 .by_cases J:b=a
  .subst J;rw[mup_same];simp
  .rw[cI_];exact h
def MR.write(m:cb_)(ha:M a=some c0)(h:Gz P w KF G cO! a c):MR P w KF (mup M a c) G cO!:=⟨λb q e=>by
 by_cases J:b=a
 .show"#&";exact⟨(m.cell _ c0 ha).1,h⟩
 .rw[cI_]at e;obtain⟨Y,h2⟩:=m.cell b q e;exact Ba_⟩
end
open Classical in
def Ir(h1:n_)(d:D)(ep:Nat):Nat:=if(di!).isSome then ep else ep+1
def IW(KF:zA!)(G:Hp):Option D->Option Value->Prop
 |some d,some u=>Cu KF G d u
 |none,none=>True
 |_,_=>False
section
def eF(I:d!)(m:bu_)(sub:E!)(e:cd!):∃es,H a=some kE!/\Hk X.prog X.w X.K G h1 es/\Ny s.heap a es ep/\dp!=false/\ab!<=big/\Nv X.prog X.w s.heap es.toArray fn!:=by obtain⟨es,Y,h2⟩:=(m.cell a _ e).2;obtain⟨⟨h3,h4,h5⟩,_⟩:=(show Em X.prog X.w H s.heap a kE! from I.hok a _ Y);exact⟨es,Y,h2,h3,h4,h5,h2.ents I sub⟩
def a0x(I:d!)(e:H a=some kE!)(D':Ny h' a az bf)(hs:vw_)(hn:dp!=false)(hl:az.length<=big):Inv X hb Z (upd H a (dE a az bf)) {s with heap:=h',toks:=t'}:=by refine c3p I tN! hs (let⟨o,h,_⟩:=D';pZ_) ⟨⟨D',hn,hl⟩,let⟨o,h,_⟩:=D';pZ_,Bb!⟩;obtain⟨⟨o,z1,z2,z3⟩,z4⟩:=z;exact kJ_
def a0z(hu:ak_)(I:d!)(m:bu_)(sub:E!)(e:cd!)(r:bM!)(hk:bh!)
  (h:∀o s',Inv X hb Z H s'->IW X.K G di! o->Q o s'):wpAny d_ A AG! Q E s:=by
 obtain⟨es,Y,h2,h3,h4,h5,h6⟩:=eF I m sub e;refine d1c hu h3 h6 ho! λtk=>h _ _ eD! ?_;obtain⟨i1,i2,i3,i4⟩|⟨j,y,e',i1,i2,i3,i4,i5,i6,i7⟩:=h2.look hk
 .rw[i1,i2];exact iF_
 .rw[i1,i4];show IW X.K G (some y) (es[j]?.map (·.val));rw[i3];exact i5
def kput_len:∀(l:n_) (d x:D),(Br l d x).length<=at!+1
 |[],_,_=>by simp[Br]
 |(y,z)::l,d,x=>by
  unfold Br;split
  .simp
  .have:=kput_len l d x;simp only[KO];omega
def a7h(hu:ak_)(I:d!)(m:bu_)(sub:E!)(e:cd!)(r:bM!)(hk:bh!)(rv:kK!)(hl:cJ!)
  (h:Bc_):wpAny d_ A AI_ Q E s:=by
 obtain⟨es,Y,h2,h3,h4,h5,h6⟩:=eF I m sub e;have ao:=QL h2.1;refine d1b hu h3 h6 ho! fp! λh' tk D' hs=>?_;have lp:=h2.put (x:=x) hk r rv;have qf:Zz (Md fn! k) ep=Ir h1 d ep:=by
  unfold Ir;obtain⟨i1,i2,i3,i4⟩|⟨j,y,e',i1,i2,i3,i4,i5,i6,i7⟩:=h2.look hk
  .rw[i1,i2];simp[Zz]
  .rw[i1,i4];simp[Zz]
 rw[qf]at D';have lq:=QL lp.1;have:=kput_len h1 d x;exact h _ _ (a0x I Y D' hs h4 a!) ⟨_,bY,lp⟩
def a7i(hu:d5!)(I:d!)(m:bu_)(sub:E!)(e:cd!)(r:bM!)(hk:bh!)(hx:Bd_)
  (h:∀o s',Inv X hb Z H s'->Cu X.K G x o->Q o s'):wpAny d_ A (getItem F! u) Q E s:=by
 obtain⟨es,Y,h2,h3,h4,h5,h6⟩:=eF I m sub e;have hT:=fp_;unfold getItem;refine MH (JY (wpAny_sequenceKey hT b! (JY (MQ (name:=uB!) hT PySem.slot_dict_getitem (MF PySem.slot_dict_getitem hT PySem.entry_dict_getitem ?_ (PySem.args_dict_getitem _ _))))));show wpAny d_ A.in1 kL! _ _ s;refine JY kL_;rw[hx]at ho;cases o with
 |none=>exact ho.elim
 |some o=>exact KB ⟨o,rfl,KB (h o s' I' ho)⟩
def rE(hu:d5!)(I:d!)(m:bu_)(sub:E!)(e:cd!)(r:bM!)(hk:bh!)
  (h:∀s',Inv X hb Z H s'->Q (di!).isSome s'):wpAny d_ A (contains F! u) Q E s:=by
 obtain⟨es,Y,h2,h3,h4,h5,h6⟩:=eF I m sub e;have hT:=fp_;unfold contains;refine MH (JY (SM hT SO.lookup ?_));rw[KN (by rw[beq_builtin_none];exact LH)];refine JY (wpAny_callSpecialUnlessNone?_slot (name:=Str.ofString "__contains__") hT SO (MF SO hT PySem.entry_dict_contains ?_ (PySem.args_dict_contains _ _)));show wpAny d_ A.in1 kL! _ _ s;refine JY kL_;cases o with
 |none=>
  have hn:kget h1 d=none:=by
   cases q:kget h1 d with
   |none=>rfl
   |some y=>rw[q]at ho;exact ho.elim
  have h:=h s' I';rw[hn]at h;exact JY (wpAny_pendingKey_other h4 (KB Be!))
 |some o=>
  have hn:(di!).isSome=true:=by
   cases q:kget h1 d with
   |none=>rw[q]at ho;exact ho.elim
   |some y=>rfl
  have h:=h s' I';rw[hn]at h;exact KB Be!
def a7g(hu:d5!)(I:d!)(m:bu_)(sub:E!)(e:cd!)(r:bM!)(hk:bh!)(rv:kK!)(hl:cJ!)
  (h:Bc_):wpAny d_ A (setItem F! u v) Q E s:=by
 obtain⟨es,Y,h2,h3,h4,h5,h6⟩:=eF I m sub e;have hT:=fp_;unfold setItem;refine MH (JY (wpAny_sequenceKey hT b! (JY (MQ (name:=Str.ofString "__setitem__") hT PySem.slot_dict_setitem (MF PySem.slot_dict_setitem hT PySem.entry_dict_setitem ?_ (PySem.args_dict_setitem _ _ _))))));refine JY (RA hT ?_);show wpAny d_ A.in1 (dictSet a u v>>=_) _ _ s;exact JY (a7h (A:=A.in1) hu I m sub e r hk rv hl λaz s' I' c'=>KB ⟨bU_,rfl,KB (h az s' I' c')⟩)
def c3r(hu:d5!)(I:d!)(m:bu_)(sub:E!)(e:cd!)(r:bM!)(hk:bh!)
  (h:∀o s',Inv X hb Z H s'->Cu X.K G ((di!).getD .non) o->Q o s'):wpAny d_ A (call Bf! [bA!,u]) Q E s:=by
 obtain⟨es,Y,h2,h3,h4,h5,h6⟩:=eF I m sub e;refine MF RS h3.typeIs PySem.F.entry_dict_get ?_ (PySem.F.args_dict_get_2 _ _);show wpAny d_ A.in1 kL! _ _ s;refine JY kL_;cases q:kget h1 d with
 |none=>
  rw[q]at ho;cases o with
  |none=>
   have h:=h .none s' I';rw[q]at h;exact JY (wpAny_missed_other h4 (KB ⟨bU_,rfl,h ⟨V.non,Aq.non,rfl⟩⟩))
  |some o=>exact ho.elim
 |some y=>
  rw[q]at ho;cases o with
  |none=>exact ho.elim
  |some o=>
   have h:=h o s' I';rw[q]at h;exact KB Bh!
def c3q(hu:d5!)(I:d!)(m:bu_)(sub:E!)(e:cd!)(r:bM!)(hk:bh!)(rv:kK!)
  (h:∀o s',Inv X hb Z H s'->Cu X.K G ((di!).getD x) o->Q o s'):wpAny d_ A (call Bf! [bA!,u,v]) Q E s:=by
 obtain⟨es,Y,h2,h3,h4,h5,h6⟩:=eF I m sub e;refine MF RS h3.typeIs PySem.F.entry_dict_get ?_ (PySem.F.args_dict_get_3 _ _ _);show wpAny d_ A.in1 kL! _ _ s;refine JY kL_;cases q:kget h1 d with
 |none=>
  rw[q]at ho;cases o with
  |none=>
   have h:=h v s' I';rw[q]at h;exact JY (wpAny_missed_other h4 (KB ⟨v,rfl,h rv⟩))
  |some o=>exact ho.elim
 |some y=>
  rw[q]at ho;cases o with
  |none=>exact ho.elim
  |some o=>
   have h:=h o s' I';rw[q]at h;exact KB Bh!
def vX(hu:d5!)(I:d!)(m:bu_)(sub:E!)(e:cd!)(r:bM!)(hk:bh!)(rv:kK!)(hl:cJ!)
  (hs:∀y o s',kget h1 d=some y->Inv X hb Z H s'->Cu X.K G y o->Q o s')
  (hn:kget h1 d=none->∀az s',Inv X hb Z kN_ s'->Gz X.prog X.w X.K G kN_ a (.dct pS! cb!)->Q v s'):wpAny d_ A (call (.builtin "dict.setdefault") [bA!,u,v]) Q E s:=by
 obtain⟨es,Y,h2,h3,h4,h5,h6⟩:=eF I m sub e;have ao:=QL h2.1;have hT:=fp_;refine MF VA hT PySem.F.entry_dict_setdefault ?_ (PySem.F.args_dict_setdefault_3 _ _ _);unfold Builtin.«dict.setdefault» Bi_;refine JY p1!;dsimp only;rw[KN (by rw[h4];exact LH)];obtain⟨i1,i2,i3,i4⟩|⟨j,y,e',i1,i2,i3,i4,i5,i6,i7⟩:=h2.look hk
 .refine JY (pE (A:=A.in1) hu h3 h6 ho! fp! (λj e tk q=>by rw[i1]at q;cases q) λh' tk _ D' cm=>KB ⟨_,rfl,hn i2 _ _ Bj! Bj_⟩)
  .rw[LK,OG];omega
  .have:=h2.put (x:=x) hk r rv;rw[i1]at this;exact this
 .exact JY (pE (A:=A.in1) hu h3 h6 ho! fp! (λj' e tk q q2=>by
   rw[i1]at q;cases q;rw[i3]at q2;cases q2;exact KB ⟨_,rfl,hs y _ _ i4 eD! i5⟩) λh' tk q=>by rw[i1]at q;cases q)
def c8k(hu:d5!)(I:d!)(m:bu_)(sub:E!)(e:cd!)(r:bM!)(hk:bh!)(hx:Bd_)
  (h:∀az o s',Inv X hb Z kN_ s'->Gz X.prog X.w X.K G kN_ a (.dct (Hl h1 d) cb!)->Cu X.K G x o->Q o s'):wpAny d_ A (call (.builtin "dict.pop") [bA!,u]) Q E s:=by
 obtain⟨es,Y,h2,h3,h4,h5,h6⟩:=eF I m sub e;have hT:=fp_;obtain⟨i1,i2,i3,i4⟩|⟨j,y,e',i1,i2,i3,i4,i5,i6,i7⟩:=h2.look hk
 .rw[i2]at hx;cases hx
 .rw[i4]at hx;cases hx;refine MF PySem.F.slot_dict_pop hT PySem.F.entry_dict_pop ?_ (PySem.F.args_dict_pop_2 _ _);unfold Builtin.«dict.pop» Bi_;refine JY p1!;dsimp only;have fin:wpAny d_ A.in1 AM! (λold s'=>∃e o,old=some e/\e.val=o/\Q o s') E s:=by
   refine c7y (A:=A.in1) hu h3 h6 ho! fp! i1 i3 λh' tk D' cm=>⟨e',_,rfl,rfl,h _ _ _ Bj! Bj_ i5⟩
   .exact LV (List.length_eraseIdx_le _ _) h5
   .rw[i7];exact h2.del
  obtain⟨o,ho,_,hd⟩:=id h3;have hne:es.toArray.isEmpty=false:=by
   cases es with
   |nil=>simp at i3
   |cons _ _=>rfl
  by_cases hp:(keyPart u).isSome=true
  .rw[KM hp];refine JY P_;rw[KN LH];show"!`"
  .rw[KN hp];refine JY (PL ho hd (JY P_));rw[hne,KN LH];show"!`"
end
section
def a1y(I:d!)(qa:j4_)(qb:yW_)(rd:gZ_)(re:g0!)(hu:ak_)
  (h:j7!):SeqAt.RcNeAt A s F! dE_ (!Iu ds es):=by
 obtain⟨us,rv,p1,_⟩:=I.tuple qa;obtain⟨us',av,p2,_⟩:=I.tuple qb;have Y:=aJ rd;have h2:=aJ re;have h3:=ew!;have h4:=j7_;have z:=SeqAt.RcNeAt.tuples (A:=A) (e:=j8!) p1 p2 hu j8_;have e:yY!=Iu ds es:=by
  show"#-"
  .rw[hl,Nat.min_self,<-hl,j9!,hl];simp
  .rw[j9_];have:(g!==ab!)=false:=by simpa using hl
   rw[this,TZ]
 rw[e]at z;exact z
def a5m(I:d!)(qa:pe!)(qb:yY_)(rd:gZ_)(re:g0!)(hu:ak_)
  (h:j7!):SeqAt.RcNeAt A s F! dE_ (!Iu ds es):=by
 show"!B";have h4:=j7_;by_cases hl:g!=ab!
 .have z:=SeqAt.RcNeAt.lists (A:=A) (e:=j8!) p1.isList p2.isList oC! hu j8_;rw[KH,<-h3,<-Y,j9!]at z;exact z
 .rw[j9_];exact SeqAt.RcNeAt.lists_lengths p1.isList p2.isList yZ! hu
def b4e(I:d!)(n:b6_)(n':e7_)(hu:ak_)(r:dW_)(r':g1!)(ru:a3!)(ay:g1_)(hT:∀xs ys,d=.tup xs->d'=.tup ys->SeqAt.RcNeAt A s u u' kO_)(hL:∀xs ys,d=.lst xs->d'=.lst ys->SeqAt.RcNeAt A s u u' kO_):SeqAt.RcNeAt A s u u' kO_:=by
 show"!f"
 all_goals first|exact hT _ _ rfl rfl|exact hL _ _ rfl rfl|(unfold Ej;(try simp only[SL,OP]);with_reducible first|exact .none_none|exact .same _|exact .none_bool _|exact .none_int _ _|exact .none_str _ _|exact .none_tuple ‹_› hu|exact .none_list ‹_› hu|exact .bool_none _|exact .bool_bool _ _|exact .bool_int _ _ _|exact .bool_str _ _ _|exact .bool_tuple _ ‹_› hu|exact .bool_list _ ‹_› hu|exact .int_none _ _|exact .int_bool _ _ _|exact .int_int _ _ _ _|exact .int_str _ _ _ _|exact .int_tuple _ _ ‹_› hu|exact .int_list _ _ ‹_› hu|exact .str_none _ _|exact .str_bool _ _ _|exact .str_int _ _ _ _|exact .str_str _ _ _ _|exact .str_tuple _ _ ‹_› hu|exact .str_list _ _ ‹_› hu|exact .tuple_none ‹_› hu|exact .tuple_bool _ ‹_› hu|exact .tuple_int _ _ ‹_› hu|exact .tuple_str _ _ ‹_› hu|exact .tuple_list ‹_› ‹_› hu|exact .list_none ‹_› hu|exact .list_bool _ ‹_› hu|exact .list_int _ _ ‹_› hu|exact .list_str _ _ ‹_› hu|exact .list_tuple ‹_› ‹_› hu)
def b4f(I:d!)(d d':D)(n:b6_)(n':e7_)(hu:y1!)(r:dW_)(r':g1!)(ru:a3!)(ay:g1_):SeqAt.RcNeAt A s u u' kO_:=
 b4e I n n' a! r r' ru ay (λxs ys e e'=>by
  subst e e';obtain⟨a,vs,rfl,q,rr⟩:=bR r;obtain⟨b,ws,rfl,q',bv⟩:=bR r';cases ru;cases ay;unfold Ba at n n';unfold Gx at hu;unfold Ej;exact a1y I q q' rr bv a! λus us' rv av=>kE I xs ys A.in1 vs ws us us' n n' e8_ rr bv rv av) (λxs ys e e'=>by
  subst e e';obtain⟨a,vs,rfl,q,rr⟩:=bP r;obtain⟨b,ws,rfl,q',bv⟩:=bP r';cases ru;cases ay;unfold Ba at n n';unfold Gx at hu;unfold Ej;exact a5m I q q' rr bv a! λus us' rv av=>kE I xs ys A.in1 vs ws us us' n n' e8_ rr bv rv av)
def BS(KF:zA!):R2:=λx y H Q=>∃dx dy,Aq KF H dx x/\Aq KF H dy y/\Ba dx=true/\Ba dy=true/\Gx dx<=40/\Q (.bl (!Ej dx dy)) H
def gU(hu:al!):Gk X ti_ (BS X.K):=by intro hb s Z H x y v u Q I rx ry h;obtain⟨dx,dy,r1,r2,n1,n2,hd,q⟩:=h;exact b4f I dx dy n1 n2 a! r1 r2 rx ry X.prog X.w X.xe _ ka!
def Ev:D->D->Option D:=λx y=>if Ba x&&Ba y&&decide (Gx x<=40)then some (.bl (!Ej x y))else none
def qC:Hs KF (BS KF) Ev:=by
 show"!1";unfold Ev at e;show"!8"
 .show"!o";cases e;exact y1_
 .cases e
open Classical in
def Uq(KF:zA!)(H:Hp)(x:D)(u:zp!):Bool:=decide (∃d,Cu KF H d u/\Ba d=true/\Ej d x=true)
open Classical in
def b8l(I:d!)(r:Cu X.K H d u)(n:b6_):Uq X.K H x u=Ej d x:=by
 unfold Uq;cases h:Ej d x with
 |true=>exact LG ⟨d,r,n,h⟩
 |false=>
  refine KP ?_;rintro⟨d',⟨v',r',ay⟩,n',h'⟩;obtain⟨v,r,ru⟩:=r;have:=ru.inj ay;subst this;rw[yO I d d' v n n' r r']at h;rw[h]at h';cases h'
def pH(I:d!):∀{ds:e!} {vs:q!} {us:k_},Am X.K H ds vs->Az vs us->Bu ds=true->us.any (Uq X.K H x)=ds.any λd=>Ej d x
 |[],vs,us,r,rv,_=>by cases cM r;cases rv;rfl
 |d::ds,vs,us,r,rv,n=>by
  obtain⟨v,t,rfl,r1,r2⟩:=bM r;unfold Bu at n;rw[LN]at n;cases rv with
  |cons px se=>rw[PU,PU,b8l I ⟨v,r1,px⟩ n.1,pH I r2 se n.2]
def oK(I:d!)(rx:Aq X.K H x y)(ry:Bn y v)(nx:Ba x=true):∀{ds:e!} {vs:q!} {us:k_},Am X.K H ds vs->Az vs us->Bu ds=true->A.units+Di ds<cLine->∀u∈us,SeqAt.EqAt A s u v (Uq X.K H x u)
 |[],vs,us,r,rv,_,_=>λu hu=>by cases cM r;cases rv;cases hu
 |d::ds,vs,us,r,rv,n,hd=>λu hu=>by
  obtain⟨z,t,rfl,r1,r2⟩:=bM r;unfold Bu at n;rw[LN]at n;unfold Di at hd;cases rv with
  |cons px se=>
   obtain rfl|hu:=KG.mp hu
   .rw[b8l I ⟨z,r1,px⟩ n.1];exact b8o I d x A z y _ _ n.1 nx a! r1 rx px ry
   .exact oK I rx ry nx r2 se n.2 a! u hu
def BV(KF:zA!)(neg:Bool):R2:=λx y H Q=>∃p ys dx ds,y=.ref p/\p2!/\Aq KF H dx x/\Am KF H ds ys/\Ba dx=true/\Bu ds=true/\Di ds<=40/\Q (.bl (if neg then !(ds.any λd=>Ej d dx)else ds.any λd=>Ej d dx)) H
def c6l(hu:al!):Gk X jc! (BV X.K false):=by
 intro hb s Z H x y v u Q I rx ry h;obtain⟨p,ys,dx,ds,rfl,hq,r1,r2,n1,n2,hd,q⟩:=h;cases ry;obtain hq|hq:=hq
 .show"!O";refine SeqAt.in_listAt fr_ pl.isList kP! eO_;rw[kP_,kQ!];exact q
 .show"!t";refine SeqAt.in_tupleAt fr_ pl kP! eO_;rw[kP_,kQ!];exact q
def b1m(hu:al!):Gk X p2_ (BV X.K true):=by
 intro hb s Z H x y v u Q I rx ry h;obtain⟨p,ys,dx,ds,rfl,hq,r1,r2,n1,n2,hd,q⟩:=h;cases ry;obtain hq|hq:=hq
 .show"!O";refine SeqAt.notIn_listAt fr_ pl.isList kP! eO_;rw[kP_,kQ!];exact q
 .show"!t";refine SeqAt.notIn_tupleAt fr_ pl kP! eO_;rw[kP_,kQ!];exact q
def BW(P:zy!)(w:zx!)(KF:zA!)(neg:Bool):R2:=λx y H Q=>∃(M:Mh) (G:Hp) (a:u0!) (h1:n_) (ep:Nat) (d:D) (k:MK),y=.ref a/\Bc G H/\MR P w KF M G H/\M a=some hn_/\Aq KF G d x/\Da d=some k/\Q (.bl (if neg then !(di!).isSome else(di!).isSome)) H
def c6m(hu:al!):Gk X jc! (BW X.prog X.w X.K false):=by intro hb s Z H x y v u Q I rx ry h;obtain⟨M,G,a,h1,ep,d,k,rfl,sub,m,e,r,hk,q⟩:=h;cases ry;exact JY Br_
def b1n(hu:al!):Gk X p2_ (BW X.prog X.w X.K true):=by intro hb s Z H x y v u Q I rx ry h;obtain⟨M,G,a,h1,ep,d,k,rfl,sub,m,e,r,hk,q⟩:=h;cases ry;exact JY Br_
def Zq(P:zy!)(w:zx!)(KF:zA!)(neg:Bool):R2:=λx y H Q=>BV KF neg x y H Q\/BW P w KF neg x y H Q
def fD(hu:al!):Gk X jc! (Zq X.prog X.w X.K false):=(c6l hu).or (c6m hu)
def jL(hu:al!):Gk X p2_ (Zq X.prog X.w X.K true):=(b1m hu).or (b1n hu)
def Ry(M:Mh):D->Option aG_
 |.lst xs=>some xs
 |.tup xs=>some xs
 |.fn a=>match M a with|some (.lst xs)=>some xs|_=>none
 |_=>none
def yM(sub:E!)(m:cb_)(r:cA!)(e:Ry M d=some xs):∃p ys,v=.ref p/\p2!/\Am KF G xs ys:=by
 cases d<;>first|(cases e;done)|skip
 .cases e;show"!Y";exact⟨p,vs,rfl,.inr kb!,rr⟩
 .cases e;obtain⟨p,vs,rfl,q,rr⟩:=bP r;exact⟨p,vs,rfl,.inl (sub.seq q),rr⟩
 .rename_i a;cases fQ r;simp only[Ry]at e;show"!8"
  .rename_i ys hy;cases e;obtain⟨_,vs,Y,h2⟩:=m.cell a _ hy;exact⟨a,vs,rfl,.inl (Fm.of Y),h2⟩
  .cases e
def Gr(neg:Bool)(M:Mh)(x y:D):Option D:=match y with
 |.fn a=>match M a with
  |some (.dct h1 _)=>(Da x).bind λ_=>some (.bl (if neg then !(kget h1 x).isSome else(kget h1 x).isSome))
  |_=>inS M x y
 |_=>inS M x y
where inS (M:Mh) (x y:D):Option D:=(Ry M y).bind λds=>if Ba x&&Bu ds&&decide (Di ds<=40)then some y7! else none
def dP:Yz P w KF (Zq P w KF neg) (Gr neg):=by
 intro x y dx dy d M G H Q sub m rx ry e k;have seq:Gr.inS neg M dx dy=some d->Zq P w KF neg x y H Q:=λe=>by
  obtain⟨ds,e1,e2⟩:=JZ.mp e;split at e2
  .show"!o";cases e2;obtain⟨p,ys,rfl,q,rr⟩:=yM sub m ry e1;exact .inl ⟨p,ys,dx,ds,rfl,q,rx.mono sub,rr.mono sub,h.1.1,h.1.2,h.2,dT!⟩
  .cases e2
 unfold Gr at e;show"!8"
 .rename_i a;show"!8"
  .show"#=";cases e2;cases fQ ry;exact .inr ⟨M,G,a,h1,ep,dx,kk,rfl,sub,m,hM,rx,e1,dT!⟩
  .exact seq e
 .exact seq e
def EC(P:zy!)(w:zx!)(KF:zA!):R2:=λx y H Q=>∃(M:Mh) (G:Hp) (a:u0!) (h1:n_) (ep:Nat) (d z:D) (k:MK),x=.ref a/\Bc G H/\MR P w KF M G H/\M a=some hn_/\Aq KF G d y/\Da d=some k/\kget h1 d=some z/\∀v,Aq KF G z v->Q v H
def c7n(hu:al!):Xk X (EC X.prog X.w X.K):=by
 intro value fz hb s Z H x y v u Q I rx ry h hs;obtain⟨M,G,a,h1,ep,d,z,k,rfl,sub,m,e,r,hk,hz,q⟩:=h;cases rx;obtain⟨es,Y,h2,h3,h4,h5,h6⟩:=eF I m sub e;unfold subscriptTail;refine JY ?_;rw[getitemInPython_of_ne h3.typeIs.not_modules];refine JY (SM h3.typeIs PySem.F.slot_dict_getitem.lookup ?_);have fin:wpAny d_ X.A (subscripted fz false F! u) (λr c7=>wpAny d_ X.A (letTemporaryGo value F! r>>=λ_=>pure r) aA! X.xe c7) X.xe s:=by
  rw[hs];exact wpAny_operating (a7i (A:=X.A) a! I m sub e ⟨_,r,ry⟩ hk hz λo s' I' ⟨v',r',ay⟩=>JY (wpAny_letTemporaryGo (KB ⟨v',H,I',ay,q v' r'⟩)))
 first
  |exact KB jg_
  |exact JY (KB jg_)
  |exact JY fin
def ED(P:zy!)(w:zx!)(KF:zA!):R2:=λx y H Q=>HA KF x y H Q\/EC P w KF x y H Q
def bG(hu:al!):Xk X (ED X.prog X.w X.K):=aH.or (c7n hu)
def Bs(M:Mh)(x y:D):Option D:=match x with
 |.fn a=>match M a with
  |some (.dct h1 _)=>(fs_).bind λ_=>kget h1 y
  |some (.lst xs)=>match y with|.int i=>De xs i|_=>none
  |_=>none
 |_=>Ai x y
def bF:Yz P w KF (ED P w KF) Bs:=by
 show"!_";unfold Bs at e;show"!8"
 .rename_i a;cases fQ rx;show"!8"
  .show"#=";exact .inr ⟨M,G,a,h1,ep,dy,d,kk,rfl,sub,m,hM,ry,e1,e2,λv r=>k v G H aH! r⟩
  .rename_i xs hM;show"!8"
   .rename_i i;cases aZ ry;show"!p";obtain⟨v,e6,r6⟩:=nT h2 e;exact .inl (.inl ⟨a,vs,i,v,rfl,rfl,Fm.of Y,e6,k v G H aH! r6⟩)
   .cases e
  .cases e
 .exact .inl (aL sub rx ry e k)
def My(M:Mh)(x y:D):Option D:=match x with
 |.fn a=>match M a,y with
  |some (.lst xs),.lst ys=>if i!+N_<=big then some (.lst el!)else none
  |_,_=>none
 |_=>An x y
def jU:Yz P w KF (Sb KF) My:=by
 show"!_";unfold My at e;show"!8"
 .rename_i a;cases fQ rx;show"!8"
  .rename_i xs ys hM;show"!8"
   .show"!G";show"!p";obtain⟨b,ws,rfl,qb,rb⟩:=bP ry;exact .inr (.inr (.inr (.inr ⟨a,b,vs,ws,rfl,rfl,Fm.of Y,sub.seq qb,by rw[<-aJ h2,<-aJ rb];exact cV hl,λp hp=>k _ _ _ jL_ (cZ gS_ (dA h2 rb))⟩)))
   .cases e
  .cases e
 .exact bI sub rx ry e k
end
def Ed{α:Type}(o:Option α)(R:ko!):Prop:=match o with|some a=>R a|none=>False
def cX(h:Ed o R):∃a,o=some a/\R a:=by
 cases o with
 |none=>exact h.elim
 |some a=>exact⟨a,rfl,h⟩
def Gj(C:u0!)(x:Str)(M:Mh)(d:D):Option D:=match d with
 |.fn a=>match M a with
  |some (.obj C' fs)=>if C'=C then fs.lookup x else none
  |_=>none
 |_=>none
def Ih(f:Str)(v:D):List b7!->List b7!
 |[]=>[(f,v)]
 |(g,x)::r=>if g=f then(g,v)::r else(g,x)::Ih f v r
def b8h(h:kF!):fs.lookup x=some d->∃v,vs.lookup x=some v/\Aq KF G d v:=by
 unfold Ki at h
 induction h with
 |nil=>intro e;cases e
 |@cons p q _ _ h t ih=>
  intro e;rw[MZ]at e ⊢;rw[<-h.1];show"!8"
  .cases e;exact⟨_,rfl,h.2⟩
  .exact ih e
def b8g(h:kF!):fs.lookup x=none->vs.lookup x=none:=by
 unfold Ki at h
 induction h with
 |nil=>exact λ_=>rfl
 |@cons p q _ _ h t ih=>
  intro e;rw[MZ]at e ⊢;rw[<-h.1];show"!8"
  .cases e
  .exact ih e
def c2z(r:cA!)(h:kF!):Ki KF G (Ih x d fs) (Kq x v vs):=by
 unfold Ki at h
 induction h with
 |nil=>exact .cons ⟨rfl,r⟩ .nil
 |@cons p q fs vs h t ih=>
  show Ki KF G (if p.1=x then(p.1,d)::fs else p::Ih x d fs) (if q.1=x then(q.1,v)::vs else q::Kq x v vs);rw[<-h.1];by_cases e:p.1=x
  .rw[KM e,KM e];exact .cons ⟨rfl,r⟩ t
  .rw[KN e,KN e];exact .cons h ih
section
def Ar(C:u0!)(x:Str)(f:WE):WE:=λρ M R=>f ρ M λd M1=>Ed (Gj C x M1 d) λv=>R v M1
def bH(c:dy_)(n:Eb X.K C x)(h:bu!)(J:attributeBase e x X.env es!=eval e X.env:=by rfl):ME X own (.Attribute e x pos) (Ar C x f):=
 eK (c6f h.ok J) λZ G H Q ρ M R st e k=>⟨G,ρ,M,_,st,e,λd M1 v G1 H1 r1 x1 m1 q1=>by
  obtain⟨z,Y,h2⟩:=cX r1;cases d<;>first|(cases Y;done)|skip
  rename_i ad;cases fQ q1;simp only[Gj]at Y;split at Y
  .rename_i C' fs hM;split at Y
   .rename_i hC;subst hC;obtain⟨_,dx,vs,h3,h4⟩:=m1.cell ad _ hM;obtain⟨u,h5,h6⟩:=b8h h4 Y;exact⟨ad,_,dx,vs,u,rfl,h3,c,n,h5,k z M1 u G1 H1 h2 x1 m1 h6⟩
   .cases Y
  .cases Y⟩
def Ro(P:zy!)(w:zx!)(KF:zA!)(r:is_)(g:Bw_):Prop:=∀{vs:q!} {ds:e!} {d:D} {M:Mh} {G H:Hp} {Q:VK},Bc G H->MR P w KF M G H->Am KF G ds vs->g M ds=some d->jE_->r vs H Q
nonrec def w1(g:Bw_)(fs:WA):WE:=λρ M R=>fs ρ M λds M1=>Ed (g M1 ds) λd=>R d M1
def uE{id:String}(hc:nm_)(hd:Bx!)(hg:H_)(hm:cS!)(hv:nn!)(ha:ft!)(hn:cS_:=by decide)
  (ax:y!:=by decide)(he:ah!:=by rfl)(au:aM!:=by rfl):ME X own a9! (w1 g fs):=
 eK xH_ λZ G H Q ρ M R st e' k=>⟨G,ρ,M,_,st,e',λds M1 vs G1 H1 r1 x1 m1 q1=>by
  obtain⟨d,Y,h2⟩:=cX r1;exact hd x1.sub m1 q1 Y λv G2 H2 x2 q2=>k d M1 v G2 H2 h2 Bx_ (m1.ext x2) q2⟩
def wZ(hc:Io X dE! r)(hd:Bx!)(hg:H_)(hm:cS!)(hv:nn_)(ha:ft!)(hn:cS_:=by decide)
  (ax:y!:=by decide)(he:ah!:=by rfl)(au:aM!:=by rfl):ME X own a9! (w1 g fs):=
 eK (b1l hc hg hm hv ha.ok hn ax he au) λZ G H Q ρ M R st e' k=>⟨G,ρ,M,_,st,e',λds M1 vs G1 H1 r1 x1 m1 q1=>by
  obtain⟨d,Y,h2⟩:=cX r1;exact hd x1.sub m1 q1 Y λv G2 H2 x2 q2=>k d M1 v G2 H2 h2 Bx_ (m1.ext x2) q2⟩
def Xb(M:Mh):List D->Option D
 |[.str x]=>Bj [.str x]
 |[d]=>(Ry M d).map λxs=>.int i!
 |_=>none
def b9l:Ro P w KF ya_ Xb:=by
 show"!R";unfold Xb at e;show"!8"
 .exact eJ sub r e k
 .obtain⟨xs,e1,rfl⟩:=KI.mp e;show"!j";refine⟨e7!,i!,rfl,?_,dS!⟩;rw[aJ rr];exact q.elim (λz=>.inl By_) λz=>.inr By_
 .cases e
def Wf(M:Mh):List D->Option D
 |[d]=>(Ry M d).bind λxs=>if i!<=big then some M! else none
 |_=>none
def c3t:Ro P w KF (λxs H Q=>∃p ys,xs=gt!/\p2!/\∀l,H l=none->Q jc_ jd!) Wf:=by
 show"!R";unfold Wf at e;show"!8"
 .obtain⟨xs,e1,e2⟩:=JZ.mp e;split at e2
  .cases e2;show"!j";exact⟨p,ys,rfl,q,λl hl=>k _ _ _ Bz! (cZ Bz_ rr)⟩
  .cases e2
 .cases e
def Ri(fs:WA):WE:=λρ M R=>fs ρ M λds M1=>g!<=1000/\∀p,M1 p=none->R x_ (mup M1 p b3_)
def zH(h:fo!):ME X own iL_ (Ri fs):=
 eK jJ! λZ G H Q ρ M R st e k=>⟨G,ρ,M,_,st,e,λds M1 vs G1 H1 r1 x1 m1 q1=>⟨by rw[<-aJ q1];exact eU r1.1,λp hp=>
  k _ _ _ _ _ (r1.2 p (m1.nocell hp)) (x1.trans (.laid x1.sub hp) m1) (m1.laid hp x1.sub ⟨vs,bY,q1⟩) Aq.fn⟩⟩
def Nt(M:Mh)(d:D):Option (Addr×List D):=match d with
 |.fn p=>match M p with|some (.lst xs)=>some (p,xs)|_=>none
 |_=>none
def vD(m:cb_)(r:cA!)(e:Nt M d=some q):d=.fn q.1/\v=.ref q.1/\M q.1=some (.lst q.2)/\∃vs,H q.1=some cy_/\Am KF G q.2 vs:=by
 cases d<;>first|(cases e;done)|skip
 rename_i p;cases fQ r;simp only[Nt]at e;show"!8"
 .rename_i xs hM;cases e;exact⟨rfl,rfl,hM,(m.cell p _ hM).2⟩
 .cases e
def Dx(M:Mh)(d:D):Option (Addr×List am!×Nat):=match d with
 |.fn p=>match M p with|some (.dct h1 ep)=>some kS_|_=>none
 |_=>none
def cN(r:cA!)(e:Dx M d=some q):d=.fn q.1/\v=.ref q.1/\M q.1=some p9!:=by
 cases d<;>first|(cases e;done)|skip
 rename_i p;cases fQ r;simp only[Dx]at e;show"!8"
 .rename_i xs ep hM;cases e;exact⟨rfl,rfl,hM⟩
 .cases e
def Vw(fo fa:WE):WE:=λρ M R=>fo ρ M λd M1=>Ed (Nt M1 d) λ_=>fa ρ M1 λv M2=>Ed (Nt M2 d) λq=>p9_<big/\R .non BB!
def a9l(ho:cJ_)(ha:an!)(hst:jS_:=by rfl)(gj:((pm!).all cs_&&(ct!).all ct_
   &&decide pm_)=true:=by rfl) (gn:dJ_:=by rfl)
  (gi:attributeBase o "append" X.env du!=eval o X.env:=by rfl) (gq:gW_:=by rfl):ME X own (.Call (.Attribute o "append" a8) [a] [] ah) (Vw fo fa):=
 eK (wN RJ PySem.F.slot_list_append PySem.F.type_list_append wX ho.ok (dC ha.ok fK hst) gi gj gn hst gq) λZ G H Q ρ M R st e k=>
  ⟨G,ρ,M,_,st,e,λd M1 v G1 H1 r1 x1 m1 q1=>by
   obtain⟨c1,e1,r1⟩:=cX r1;obtain⟨rfl,rfl,_,ZP,hH,_⟩:=vD m1 q1 e1;refine⟨.inl ⟨rfl,ZP,Fm.of hH⟩,G1,ρ,M1,_,kH!,r1,λz M2 u G2 H2 r2 x2 m2 q2=>?_⟩;obtain⟨⟨p2,xs2⟩,e2,r2⟩:=cX r2;obtain⟨z1,z2,z3,vs,Y,h2⟩:=vD m2 bN_ e2;cases z2;refine⟨_,vs,u,rfl,rfl,Y,by rw[<-aJ h2];exact LJ r2.1 (cV r!),?_⟩;exact k _ _ _ _ _ r2.2 ((cc!).trans (.write m2 x2.sub z3) m2) (m2.write z3 ⟨_,bY,dA h2 (Am.cons q2 Am.nil)⟩) Aq.non⟩
def kJ{q:Addr×List am!×Nat}(I:d!)(m:bu_)(sub:E!)(e:M q.1=some p9!):
  s.TypeIs (.ref q.1) "dict"/\∀b,Value.ref q.1=.ref b->∃ob,s.heap.get? b=some ob/\ob.dict=none:=by
 obtain⟨es,_,_,h3,_⟩:=eF I m sub e;refine⟨fp_,λb z=>?_⟩;cases z;obtain⟨o,h,hc,_⟩:=h3;exact⟨o,h,hc.2.1⟩
def ME.run(h:bu!)(I:d!)(st:A3!)(hf:hl_)
  (k:∀d M' v G' H' u s',R d M'->XM M G H M' G' H'->MR X.prog X.w X.K M' G' H'->Aq X.K G' d v->Inv X hb Z H' s'->Bn v u->Q u s'):wpAny d_ X.A es! Q X.xe s:=
 dF (h.ok hb s Z H (λv H'=>∃d M' G',R d M'/\XM M G H M' G' H'/\MR X.prog X.w X.K M' G' H'/\Aq X.K G' d v) I ⟨G,ρ,M,R,st,hf,λd M' v G' H' r x m q=>⟨d,M',G',r,x,m,q⟩⟩) λu s' ⟨v,H',I',rv,d,M',G',r,x,m,q⟩=>k d M' v G' H' u s' r x m q I' rv
def Nz(fo fa:WE):WE:=λρ M R=>fo ρ M λd M1=>Ed hr! λ_=>fa ρ M1 λy M2=>Ed (Dx M2 d) λq=>Ed fs_ λ_=>R ((qc!).getD .non) M2
def b6u(hu:al!)(ho:cJ_)(ha:an!)(m:M1 X o "get" a8 a ah):ME X own (.Call BD_ [a] [] ah) (Nz fo fa):=⟨by
 rintro hb s Z H Q I ⟨G,ρ,M,R,st,e,k⟩;refine TK m.base m.few m.line RK RS PySem.F.type_dict_get kT!;obtain⟨c1,e1,r1⟩:=cX r1;obtain⟨rfl,rfl,hM⟩:=cN q1 e1;cases rx;obtain⟨t1,t2⟩:=kJ I1 m1 x1.sub hM;refine kT_;rw[m.trees];refine QW rfl BE!;obtain⟨⟨p2,xk,lu⟩,e2,r2⟩:=cX r2;obtain⟨kk,e3,r2⟩:=cX r2;obtain⟨z1,z2,fg⟩:=cN bN_ e2;cases z1;exact c3r (A:=X.A) a! I2 m2 x2.sub fg BE_ e3 λov s' I' ⟨v',r',ay⟩=>⟨v',H2,I',ay,k _ M2 v' G2 H2 r2 cc! m2 r'⟩⟩
def Ib(fo fa fb:WE):WE:=λρ M R=>fo ρ M λd M1=>Ed hr! λ_=>fa ρ M1 λy M2=>fb ρ M2 λz M3=>Ed (Dx M3 d) λq=>Ed fs_ λ_=>R ((qc!).getD z) M3
def oN(hu:al!)(ho:cJ_)(ha:an!)(J:cc_)(m:M2 X o "get" a8 a b ah):ME X own (.Call BD_ ag_ [] ah) BF!:=⟨by
 rintro hb s Z H Q I ⟨G,ρ,M,R,st,e,k⟩;refine TK m.base m.few m.line RK RS PySem.F.type_dict_get kT!;obtain⟨c1,e1,r1⟩:=cX r1;obtain⟨rfl,rfl,hM⟩:=cN q1 e1;cases rx;obtain⟨t1,t2⟩:=kJ I1 m1 x1.sub hM;refine kT_;rw[m.trees];refine QW rfl (QE (OD (ha.run I1 ft_ r1 λy M2 yv G2 H2 iv s2 r2 x2 m2 q2 I2 ry=>
  OD BF_)))
 obtain⟨⟨p2,xk,lu⟩,e2,r3⟩:=cX r3;obtain⟨kk,e3,r3⟩:=cX r3;obtain⟨z1,z2,fg⟩:=cN BH_ e2;cases z1;exact c3q (A:=X.A) a! I3 m3 x3.sub fg BH! e3 BI! λov s' I' ⟨v',r',ay⟩=>⟨v',H3,I',ay,k _ M3 v' G3 H3 r3 qe! m3 r'⟩⟩
def Jt(fo fa fb:WE):WE:=λρ M R=>fo ρ M λd M1=>Ed hr! λ_=>fa ρ M1 λy M2=>fb ρ M2 λz M3=>Ed (Dx M3 d) λq=>Ed fs_ λ_=>q.2.1.length<big/\
 match kget q.2.1 y with
 |some v=>R v M3
 |none=>R z (mup M3 q.1 (.dct (Br q.2.1 y z) (q.2.2+1)))
def wY(hu:al!)(ho:cJ_)(ha:an!)(J:cc_)(m:M2 X o "setdefault" a8 a b ah):ME X own (.Call (.Attribute o "setdefault" a8) ag_ [] ah) (Jt fo fa fb):=⟨by
 rintro hb s Z H Q I ⟨G,ρ,M,R,st,e,k⟩;refine TK m.base m.few m.line RK VA PySem.F.type_dict_setdefault kT!;obtain⟨c1,e1,r1⟩:=cX r1;obtain⟨rfl,rfl,hM⟩:=cN q1 e1;cases rx;obtain⟨t1,t2⟩:=kJ I1 m1 x1.sub hM;refine kT_;rw[m.trees];refine QW rfl (QE (OD (ha.run I1 ft_ r1 λy M2 yv G2 H2 iv s2 r2 x2 m2 q2 I2 ry=>
  OD BF_)))
 obtain⟨⟨p2,xk,lu⟩,e2,r3⟩:=cX r3;obtain⟨kk,e3,hl,r3⟩:=cX r3;obtain⟨z1,z2,fg⟩:=cN BH_ e2;cases z1;have k8:=(cc!).trans x3 m2;refine vX (A:=X.A) a! I3 m3 x3.sub fg BH! e3 BI! hl (λw ov s' hw I' ⟨v',r',ay⟩=>?_) λhn az s' I' c'=>?_
 .dsimp only at r3;rw[hw]at r3;exact⟨v',H3,I',ay,k _ M3 v' G3 H3 r3 k8 m3 r'⟩
 .dsimp only at r3;rw[hn]at r3;exact⟨zv,_,I',rz,k _ _ zv G3 _ r3 (k8.trans (.write m3 x3.sub fg) m3) (m3.write fg c') q3⟩⟩
def Ta(fo fa:WE):WE:=λρ M R=>fo ρ M λd M1=>Ed hr! λ_=>fa ρ M1 λy M2=>Ed (Dx M2 d) λq=>Ed fs_ λ_=>Ed qc! λv=>R v (mup M2 q.1 (.dct (Hl q.2.1 y) (q.2.2+1)))
def b6q(hu:al!)(ho:cJ_)(ha:an!)(m:M1 X o "pop" a8 a ah):ME X own (.Call (.Attribute o "pop" a8) [a] [] ah) (Ta fo fa):=⟨by
 rintro hb s Z H Q I ⟨G,ρ,M,R,st,e,k⟩;refine TK m.base m.few m.line RK PySem.F.slot_dict_pop PySem.F.type_dict_pop kT!;obtain⟨c1,e1,r1⟩:=cX r1;obtain⟨rfl,rfl,hM⟩:=cN q1 e1;cases rx;obtain⟨t1,t2⟩:=kJ I1 m1 x1.sub hM;refine kT_;rw[m.trees];refine QW rfl BE!;obtain⟨⟨p2,xk,lu⟩,e2,r2⟩:=cX r2;obtain⟨kk,e3,r2⟩:=cX r2;obtain⟨w,e4,r2⟩:=cX r2;obtain⟨z1,z2,fg⟩:=cN bN_ e2;cases z1;exact c8k (A:=X.A) a! I2 m2 x2.sub fg BE_ e3 e4 λaz ov s' I' c' ⟨v',r',ay⟩=>⟨v',_,I',ay,k _ _ v' G2 _ r2 ((cc!).trans (.write m2 x2.sub fg) m2) (m2.write fg c') r'⟩⟩
def Gm:WE:=λρ M R=>∀p,M p=none->R x_ d8!
def fJ:ME X own (.Dict [] [] pos) Gm:=⟨by
 rintro hb s Z H Q I ⟨G,ρ,M,R,st,e,k⟩;have hp:H h_=none:=I.fresh;have D0:Ny kU_ s.heap.objs.size [] 0:=qg_;refine wpAny_Dict_empty ⟨c1_,upd H s.heap.objs.size BN_,qh!,rfl,?_⟩
 .show"!T"
 .exact k _ _ _ G _ (e _ (st.mr.nocell hp)) (.laid st.or.sub hp) (st.mr.laid hp st.or.sub qh_) Aq.fn⟩
end
abbrev WP:=Ag->Mh->(List am!->Mh->Prop)->Prop
def BF(KF:zA!)(G:Hp):List am!->List qj!->Prop:=Paired λp q=>Cu KF G p.1 q.1/\Cu KF G p.2 q.2
structure MP(X:Cx)(own:o!)(pos:Pos)(keys:List (Option Expr))(j3:cR!)(f:WP):Prop where
 ok:∀(hb:s_) (s:zz!) (Z:St) (G H:Hp) (ρ:Ag) (M:Mh) (R:BR!) (Q:List qj!->Shared->Prop),Inv X hb Z H s->Sx X.prog X.w X.K own G H Z ρ M->f ρ M R->
  (∀h1 M' G' H' us s',R h1 M'->XM M G H M' G' H'->MR X.prog X.w X.K M' G' H'->BF X.K G' h1 us->Inv X hb Z H' s'->Q us s')->wpAny d_ X.A (evalPairs (pairTrees keys j3 X.env pos)) Q X.xe s
section
def Mz:WP:=λ_ M R=>R [] M
def Eg(fa fb:WE)(fp:WP):WP:=λρ M R=>fa ρ M λx M1=>fb ρ M1 λy M2=>fp ρ M2 λh1 M3=>R ((x,y)::h1) M3
def tX:MP X own pos [] [] Mz:=⟨λhb s Z G H ρ M R Q I st e k=>pairTrees_nil_walk (k [] M G H [] s e kG! st.mr .nil I)⟩
def iC(ha:an!)(J:cc_)(hp:BT!):MP X own pos (some a::keys) (b::j3) (Eg fa fb fp):=⟨λhb s Z G H ρ M R Q I st e k=>
 pairTrees_cons_walk (ha.run I st e λx M1 v G1 H1 u s1 r1 x1 m1 q1 I1 ru=>J.run I1 ft_ r1 λy M2 v2 G2 H2 u2 s2 r2 x2 m2 q2 I2 ZQ=>
  hp.ok hb s2 Z G2 H2 ρ M2 _ _ I2 BG_ r2 λh1 M3 G3 H3 us s3 r3 x3 m3 q3 I3=>
   k _ M3 G3 H3 _ s3 r3 qe! m3 (.cons ⟨⟨v,(bN_).mono x3.g,ru⟩,⟨v2,BJ!,ZQ⟩⟩ q3) I3)⟩
def jP:∀{l:n_} {d x:D},d∉l.map c_->Br l d x=l++[d4!]
 |[],_,_,_=>rfl
 |(y,z)::l,d,x,h=>by
  rw[KL,KG,SE]at h;unfold Br;rw[kW!,jP h.2];rfl
def oS:∀{l:n_} {d:D},d∉l.map c_->kget l d=none
 |[],_,_=>rfl
 |(y,z)::l,d,h=>by
  rw[KL,KG,SE]at h;unfold kget;rw[kW!,oS h.2]
def wF(hu:ak_):∀{h1:n_} {us:List qj!} {acc:n_} {H:Hp} {s:zz!} {M:Mh} {n:Nat} {Q:PUnit->Shared->Prop},BF X.K G h1 us->Inv X hb Z H s->MR X.prog X.w X.K M G H->Bc G H->
  M c=some (.dct acc n)->cL!+av!<=1000->(∀p∈h1,(Da p.1).isSome=true)->((acc++h1).map c_).Nodup->
  (∀H' s',Inv X hb Z H' s'->XM M G H BV! G H'->MR X.prog X.w X.K BV! G H'->Q PUnit.unit s')->
  wpAny d_ A (forIn us PUnit.unit λ(x:Value×Value) (_:PUnit)=>(do dictSet c x.1 x.2;pure (ForInStep.yield PUnit.unit):Sem (ForInStep PUnit))) Q E s
 |_,_,acc,H,s,M,n,Q,.nil,I,m,sub,hM,hl,hk,nd,k=>by
  rw[RP];have hc:mup M c (.dct (acc++[]) (n+0))=M:=by
   show"#,";split
   .rename_i e;rw[e,LR,hM];rfl
   .rfl
  have k:=k H s I;rw[OH,hc]at k;exact KB (k (.refl sub) m)
 |(d,x)::h1,(u,v)::us,acc,H,s,M,n,Q,.cons r t,I,m,sub,hM,hl,hk,nd,k=>by
  rw[PD];obtain⟨kk,hd⟩:=SS.mp (hk _ KD);have ph:d∉acc.map c_:=λz=>by
   rw[LL,LX]at nd;exact nd.2.2 d z d c! rfl
  simp only[KO]at hl;refine JY (JY (a7h hu I m sub hM r.1 hd r.2 (LJ a! (show 1001<=big by decide)) λaz s' I' c'=>KB ?_));have qf:Ir acc d n=n+1:=by unfold Ir;rw[oS ph];simp
  rw[qf,jP ph]at c';rw[qf]at I';have m':=m.write hM c';have ZR:Bc G (upd H c (dE c az dc!)):=(XM.write (c:=.dct BW! dc!) m sub hM).sub;refine wF hu t I' m' ZR mup_same BW_ (λp hp=>hk p jq_) (by rw[NJ];exact nd) λH2 s2 I2 x2 m2=>?_;have hc:mup (mup M c (.dct BW! dc!)) c (.dct (acc++[d4!]++h1) (n+1+av!))=mup M c (.dct (acc++d4!::h1) (n+(d4!::h1).length)):=by
   show"#,";split
   .rw[NJ,KO];simp only[List.singleton_append];rw[show n+1+h1.length=n+(h1.length+1)by omega]
   .rfl
  rw[hc]at x2 m2;exact k H2 s2 I2 ((XM.write m sub hM).trans x2 m') m2
def Ot(fp:WP):WE:=λρ M R=>∀p,M p=none->fp ρ d8! λh1 M1=>M1 p=some cK!/\av!<=1000/\(∀q∈h1,(ql!).isSome=true)/\(fl_).Nodup/\R x_ (mup M1 p (.dct h1 av!))
def oM(hu:al!)(hp:BT!)(gr:keys.all (·.isSome)=true:=by rfl)(hl:keys.length=j3.length:=by rfl)(h0:keys≠[]:=by simp)(h15:keys.length<=15:=by decide):ME X own (.Dict keys j3 pos) (Ot fp):=⟨by
 rintro hb s Z H Q I ⟨G,ρ,M,R,st,e,k⟩;have hn:=pairTrees_length keys j3 X.env pos gr hl;have f9:pairTrees keys j3 X.env pos≠[]:=λz=>by rw[z]at hn;exact h0 (SY.mp hn.symm)
 rw[arm_eval_Dict,zip_pairTrees keys j3 X.env pos gr hl,dictDisplay_pairs _ f9 a!];unfold subDict;have hf:H h_=none:=I.fresh;have D0:Ny kU_ s.heap.objs.size [] 0:=qg_;have I1:Inv X hb Z dj_ {s with heap:=s.heap.push {cls:=.type "dict",data:=.dict #[]}}:=by
  refine qh!;show"!T"
 have x0:XM M G H ht! G dj_:=.laid st.or.sub hf;have m0:MR X.prog X.w X.K ht! G dj_:=st.mr.laid hf st.or.sub qh_;refine JY (TR (JY (JY (wpAny_alloc (JY (MH ?_))))));rw[aI!];refine JY (hp.ok hb _ Z G _ ρ _ _ _ I1 (st.grow x0 m0) (e _ (st.mr.nocell hf)) λh1 M1 G1 H1 us s1 r1 x1 m1 q1 I2=>?_);obtain⟨hM1,ao,hk,nd,r1⟩:=r1;refine MH (JY (wF (A:=X.A) (acc:=[]) a! q1 I2 m1 x1.sub hM1 (by simpa using ao) hk nd λH2 s2 I3 x2 m2=>KB (KB (KB ⟨c1_,H2,I3,rfl,?_⟩))));have WH:=(x0.trans x1 m0).trans x2 m1;simp only[NN,UX]at WH m2;exact k _ _ _ G1 H2 r1 WH m2 Aq.fn⟩
end
abbrev WS:=Ag->Mh->(Fl->Mh->Prop)->Prop
structure Ja(P:zy!)(w:zx!)(KF:zA!)(own:o!)(M0:Mh)(G0 F0:Hp)(M:Mh)(G H:Hp)(Z:St)(ρ:Ag):Prop where
 st:Sx P w KF own G H Z ρ M
 x:XM M0 G0 F0 M G H
 fr:∀i∈own,∀p,Z[i]?=some cz_->F0 p=none
inductive CU(P:zy!)(w:zx!)(KF:zA!)(M0:Mh)(G0 F0:Hp)(own cg:o!)(f:WS)(E:Sy)(Z:St)(H:Hp):Prop
 |mk (G:Hp) (ρ:Ag) (M:Mh) (R:q_) (st:bO_) (e:hl_) (a:∀ρ' M' G' ac H',R bP! M'->Ja P w KF cg M0 G0 F0 M' G' H' ac ρ'->E.nx ac H') (b:∀d M' v G' H',R aH_ M'->XM M0 G0 F0 M' G' H'->MR P w KF M' G' H'->Aq KF G' d v->E.rt v H'):CU P w KF M0 G0 F0 own cg f E Z H
structure MS(X:Cx)(own cg:o!)(st:Stmt)(f:WS):Prop where
 ok:∀M0 G0 F0,PS X st BY_
structure Ut(X:Cx)(own cg:o!)(st:h4_)(f:WS):Prop where
 ok:∀M0 G0 F0,Ox X st BY_
section
variable{M0 M M':Mh}
def Ja.grow(s:bO_)(x:kE_)(m:AX_):Ja P w KF own M0 G0 F0 M' G' H' Z ρ:=⟨s.st.grow x m,s.x.trans x s.st.mr,s.fr⟩
def Ja.set(s:bO_)(hi:aN_)(r:cA!):Ja P w KF own M0 G0 F0 M G H eq! bG_:=by
 have ne:∀j∈own,i≠j:=λj hj z=>hi oV_;refine⟨⟨s.st.or.set hi r,s.st.mr,BZ!⟩,s.x,BZ!⟩
 .rw[BZ_]at e;exact s.st.dj j hj p e
 .rw[BZ_]at e;exact s.fr j hj p e
def Gd(own:o!)(Z:St)(H:Hp):Hp:=λb=>if b∈Ji own Z then none else H b
def Ja.sr(s:bO_):SR KF own G kY! G H Z ρ:=by
 refine⟨s.st.or,⟨eZ_,jB_,s.st.or.sub,db_⟩,yN_⟩
 .unfold Gd at e;show"!8"
  .cases e
  .exact e
 .unfold Gd;rw[KM (a1t hi e)]
def Ja.root(s:bO_)(h:b∈Ji own Z):M b=none/\F0 b=none:=by obtain⟨i,hi,q⟩:=mF h;exact⟨s.st.dj i hi b q,s.fr i hi b q⟩
def Ja.noF(s:bO_)(h:Gd own Z H b=none):F0 b=none:=by
 unfold Gd at h;split at h
 .rename_i J;exact(kY_).2
 .cases hM:M0 b with
  |none=>exact s.x.free hM h
  |some c=>exact absurd h (s.st.mr.has (s.x.cells b AW_))
def Ja.cellF(s:bO_)(h:M b=some c):Gd own Z H b=H b/\H b≠none:=by refine⟨?_,s.st.mr.has (by rw[h];simp)⟩;unfold Gd;rw[KN (λJ=>by rw[(kY_).1]at h;cases h)]
def Ja.mr'(s:bO_)(x:B0!):MR P w KF M G' H':=⟨λa c e=>by
 obtain⟨Y,h2⟩:=s.st.mr.cell a c e;obtain⟨e1,e2⟩:=s.cellF e;refine AX!
 .cases q:G' a with
  |none=>rfl
  |some o=>
   rcases x.new a cv! with z|z
   .exact absurd Y z
   .rw[e1]at z;exact absurd z e2
 .cases q:H a with
  |none=>exact absurd q e2
  |some o=>exact x.h a o (e1.trans q)⟩
def Ja.x'(s:bO_)(x:B0!):XM M0 G0 F0 M G' H':=by
 refine⟨s.x.g.trans x.g,x.sub,bd!,B0_,s.x.dom,s.x.cells⟩
 .obtain z|z:=x.new b h
  .exact s.x.new b z
  .exact qo!
 .have Y:=s.x.keep b o e J;refine x.h b o ?_;unfold Gd;rw[B1!];exact Y
def Ja.after(s:bO_)(r:SR KF cg G kY! G' H' ac ρ'):Ja P w KF cg M0 G0 F0 M G' H' ac ρ':=
 ⟨⟨r.or,s.mr' r.ext,λi hi p e=>by
  cases q:M p with
  |none=>rfl
  |some c=>
   obtain⟨e1,e2⟩:=s.cellF q;have:=r.fr i hi p e;rw[e1]at this;exact absurd this e2⟩,s.x' r.ext,λi hi p e=>s.noF (r.fr i hi p e)⟩
end
section
variable{st:Stmt}{rest body:List Stmt}{pos p2:Pos}
def oJ(h:ic_)(hw:∀M0 G0 F0 E Z G H ρ M R,Ja X.prog X.w X.K own M0 G0 F0 M G H Z ρ->q1 ρ M R->
  (∀ρ' M' G' ac H',R bP! M'->Ja X.prog X.w X.K be M0 G0 F0 M' G' H' ac ρ'->E.nx ac H')->(∀d M' v G' H',R aH_ M'->XM M0 G0 F0 M' G' H'->MR X.prog X.w X.K M' G' H'->Aq X.K G' d v->E.rt v H')->t E Z H):MS X own be st q1:=
 ⟨λM0 G0 F0 hb s Z H E I ⟨G,ρ,M,R,sr,e,k1,k2⟩=>h hb s Z H E I (hw M0 G0 F0 E Z G H ρ M R sr e k1 k2)⟩
def Xl(q:cC_):WS:=λρ M R=>Ed (q ρ) λr=>R r M
def b6m(h:DS X own be st q):MS X own be st (Xl q):=⟨by
 rintro M0 G0 F0 hb s Z H E I ⟨G,ρ,M,R,sr,e,k1,k2⟩;obtain⟨r,e1,e2⟩:=cX e;refine h.ok G kY! hb s Z H E I ⟨G,ρ,r,sr.sr,e1,?_⟩;cases r with
 |nx ρ'=>exact λG' ac H' cu=>k1 ρ' M G' ac H' e2 (sr.after cu)
 |rt d=>exact λv G' H' x r=>k2 d M v G' H' e2 (sr.x' x) (sr.mr' x) r⟩
def Bg:WS:=λρ M R=>R S_ M
def Af(q1 q2:WS):WS:=λρ M R=>q1 ρ M λr M1=>match r with|.nx ak=>q2 ak M1 R|.rt d=>R aH_ M1
def bN:Ut X own own [] Bg:=⟨λM0 G0 F0 hb s Z H E I ⟨G,ρ,M,R,sr,e,k1,k2⟩=>a8n hb s Z H E I (k1 ρ M G Z H e sr)⟩
def aF(Y:qo_)(h2:Ut X be jz rest q2):Ut X own jz id! (Af q1 q2):=⟨λM0 G0 F0 hb s Z H E I ⟨G,ρ,M,R,sr,e,k1,k2⟩=>
 tI qp! B1_ hb s Z H E I B2!⟩
def aG(Y:qo_):Ut X own be [st] q1:=⟨λM0 G0 F0=>fR qp!⟩
def Ja.free{M0 M:Mh}(s:bO_):Ja P w KF [] M0 G0 F0 M e0_ H Z ρ:=by
 have o:=s.st.or.full;have sG:Bc G e0_:=λb u e=>by
  unfold Km;split
  .exact s.st.or.sub b u e
  .exact e
 refine⟨⟨o,⟨λa c e=>?_⟩,ar!⟩,⟨s.x.g.trans sG,o.sub,bd!,s.x.keep,s.x.dom,s.x.cells⟩,ar!⟩
 .obtain⟨Y,h2⟩:=s.st.mr.cell a c e;refine⟨?_,h2.mono sG rfl⟩;unfold Km;rw[KN (λJ=>by rw[(kY_).1]at e;cases e)];exact Y
 .unfold Km at h;split at h
  .rename_i J;exact .inr (kY_).2
  .exact s.x.new b h
def tW(h:Ut X [] jz rest q1):Ut X own jz rest q1:=⟨λM0 G0 F0 hb s Z H E I ⟨G,ρ,M,R,sr,e,k1,k2⟩=>h.ok M0 G0 F0 hb s Z H E I ⟨_,ρ,M,R,sr.free,e,k1,k2⟩⟩
def At(f:WE):WS:=λρ M R=>f ρ M λd M1=>R aH_ M1
def bA(h:bu!):MS X own be mn_ (At f):=oJ (b4u h.ok) λM0 G0 F0 E Z G H ρ M R sr e k1 k2=>
 ⟨G,ρ,M,_,sr.st,e,λd M' v G' H' r x m q=>k2 d M' v G' H' r (sr.x.trans x qp_) m q⟩
def Os:WS:=λ_ M R=>R (.rt .non) M
def zE:MS X own be sq_ Os:=oJ c1b λM0 G0 F0 E Z G H ρ M R sr e k1 k2=>k2 _ M _ G H e sr.x sr.st.mr Aq.non
def Al(i:Nat)(f:WE):WS:=λρ M R=>f ρ M λd M1=>R (.nx bG_) M1
def aV(hN:aR!)(hi:Y_)(hx:a2_)(h:bu!)(bp:aN_:=by decide)(hs:oW_:=by rfl)
  (hf:X.fn x=true\/X.env.scope.names.lookup x=some .local:=by first|exact .inl rfl|exact .inr rfl|assumption):MS X own own yy_ qq_:=
 oJ yz! λM0 G0 F0 E Z G H ρ M R sr e k1 k2=>⟨G,ρ,M,_,sr.st,e,B3!⟩
def Ap(ft:WT)(q1 q2:WS):WS:=λρ M R=>ft ρ M λb M1=>if b then q1 ρ M1 R else q2 ρ M1 R
def cH(hc:kI!)(Y:Ut X own be b1 q1)(h2:Ut X own be b2 q2):MS X own be oX! B4!:=⟨by
 rintro M0 G0 F0 hb s Z H E I ⟨G,ρ,M,R,sr,e,k1,k2⟩;refine b4w hc.ok qp! B1_ hb s Z H E I B4_;cases b with
 |true=>exact kB kZ_
 |false=>exact kP kZ_⟩
def Bq(f:WE):WS:=λρ M R=>f ρ M λ_ M1=>R S_ M1
def cP(h:bu!)(hs:mm!:=by rfl):MS X own own mm_ (Bq f):=
 oJ (nW h.ok hs) λM0 G0 F0 E Z G H ρ M R sr e k1 k2=>⟨G,ρ,M,_,sr.st,e,B5!⟩
def Go:WS:=λ_ _ _=>False
def iM:MS X own be st Go:=⟨λM0 G0 F0 hb s Z H E I ⟨G,ρ,M,R,sr,e,k1,k2⟩=>e.elim⟩
def Ga(C:u0!)(x:Str)(fo f:WE):WS:=λρ M R=>f ρ M λy M1=>fo ρ M1 λd M2=>match d with
 |.fn p=>(match M2 p with|some (.obj C' fs)=>C'=C/\bj!<100/\R S_ B6!|_=>False)
 |_=>False
def fW(c:dy_)(n:Eb X.K C x)(ho:cJ_)(h:bu!)(hs:swapsWith e (some (.Attribute o x p2)) pos.line X.env=pure false:=by rfl):MS X own own (.Assign [.Attribute o x p2] e pos) (Ga C x fo f):=
 oJ (c5z ho.ok h.ok hs) λM0 G0 F0 E Z G H ρ M R sr e k1 k2=>⟨G,ρ,M,_,sr.st,e,λy M1 v G1 H1 r1 x1 m1 q1=>⟨G1,ρ,M1,_,sr.st.grow x1 m1,r1,λd M2 u G2 H2 r2 x2 m2 q2=>by
  cases d<;>first|exact r2.elim|skip
  rename_i p;cases fQ q2;dsimp only at r2;split at r2
  .rename_i C' fs hM;obtain⟨hC,hl,r2⟩:=r2;subst hC;obtain⟨_,dx,vs,h3,h4⟩:=m2.cell p _ hM;have ao:bj!=a5!:=QL h4;exact⟨p,_,dx,vs,rfl,h3,c,n,p!,k1 ρ _ G2 Z _ r2 ((B7!).grow (.write m2 x2.sub hM) (m2.write hM ⟨dx,_,bY,c2z bN_ h4⟩))⟩
  .exact r2.elim⟩⟩
def Ko(M:Mh)(d y v:D):Option Mh:=match d with
 |.fn p=>match M p with
  |some (.dct h1 ep)=>if(fs_).isSome&&decide (av!<big)then some fu_ else none
  |some (.lst xs)=>match y with
   |.int j=>(Ec xs.length j).map λk=>mup M p (.lst (xs.set k v))
   |_=>none
  |_=>none
 |_=>none
def DX(P:zy!)(w:zx!)(KF:zA!):V->V->V->Hp->mo_->Prop:=λo i v H Q=>∃(M:Mh) (G:Hp) (a:u0!) (h1:n_) (ep:Nat) (d x:D) (k:MK),o=.ref a/\Bc G H/\MR P w KF M G H/\M a=some hn_/\Aq KF G d i/\Da d=some k/\Aq KF G x v/\av!<big/\
 ∀az,Gz P w KF G kK_ a Bc!->Q kK_
def c0n(hu:al!):Xf X (DX X.prog X.w X.K):=by intro hb s Z H o i v ov iv u Q I ro ri rv h;obtain⟨M,G,a,h1,ep,d,x,k,rfl,sub,m,e,r,hk,rx,hl,q⟩:=h;cases ro;exact a7g (A:=X.A) a! I m sub e ⟨_,r,ri⟩ hk ⟨_,rx,rv⟩ hl λaz s' I' c'=>⟨_,I',q az c'⟩
def c0z(h:Xf X r)(h':Xf X r'):Xf X (λo i v H Q=>r o i v H Q\/r' o i v H Q):=by
 intro hb s Z H o i v ov iv u Q I ro ri rv q;obtain q|q:=q
 .exact h hb s Z H o i v ov iv u Q I ro ri rv q
 .exact h' hb s Z H o i v ov iv u Q I ro ri rv q
def Cb(fo fi f:WE):WS:=λρ M R=>f ρ M λv M1=>fo ρ M1 λd M2=>fi ρ M2 λy M3=>Ed qr_ λM4=>R S_ M4
def dL(hu:al!)(ho:cJ_)(hi:ME X own i fi)(h:bu!)
  (ha:∀v,assign B8_ X.env v=(do
   let ov <-holding [v] du!
   let iv <-holding [v,ov] sA!
   standAt p2
   holding ev_ mr!
   release ev_ []):=by intro _;rfl)
  (hs:swapsWithSole k0! e pos.line X.env=pure false:=by rfl) (hw:swappedStores k0! e X.env=pure none:=by rfl)
  (Y:(assignEach k0! X.env).map R!=[assign B8_ X.env]:=by rfl):MS X own own (.Assign k0! e pos) B9_:=
 oJ (b4y h.ok (b5e ho.ok hi.ok (c0z a1q (c0n hu)) ha) hs hw Y) λM0 G0 F0 E Z G H ρ M R sr e k1 k2=>⟨G,ρ,M,_,sr.st,e,λv M1 vv G1 H1 r1 x1 m1 q1=>⟨G1,ρ,M1,_,sr.st.grow x1 m1,r1,λd M2 dv G2 H2 r2 x2 m2 q2=>
  ⟨G2,ρ,M2,_,(sr.st.grow x1 m1).grow x2 m2,r2,λy M3 yv G3 H3 r3 x3 m3 q3=>by
   obtain⟨M4,e4,r4⟩:=cX r3;have u6:=(B7!).grow x3 m3;have qd:=q2.mono x3.g;have qv:=(bN_).mono x3.g;unfold Ko at e4;split at e4
   .rename_i p;cases fQ qd;split at e4
    .rename_i h1 ep hM;split at e4
     .rename_i hc;rw[LN,LO]at hc;cases e4;obtain⟨kk,hk⟩:=SS.mp hc.1;exact .inr ⟨M3,G3,p,h1,ep,y,v,kk,rfl,x3.sub,m3,hM,q3,hk,qv,hc.2,λaz c'=>k1 ρ _ G3 Z _ r4 (u6.grow Cc! (m3.write hM c'))⟩
     .cases e4
    .rename_i xs hM;split at e4
     .rename_i j;cases aZ q3;obtain⟨n,e5,rfl⟩:=KI.mp e4;obtain⟨_,vs,h3,h4⟩:=m3.cell p _ hM;exact .inl ⟨p,vs,j,n,rfl,rfl,h3,by rw[<-aJ h4];exact e5,k1 ρ _ G3 Z _ r4 (u6.grow Cc! (m3.write hM ⟨_,bY,tE qv n h4⟩))⟩
     .cases e4
    .cases e4
   .cases e4⟩⟩⟩
def Tb(i:Nat)(f:WE):WS:=λρ M R=>match ρ[i]? with
 |some (some (.int a))=>f ρ M λd M1=>(match d with|.int b=>R (.nx (ρ.set i (some (.int (a+b))))) M1|_=>False)
 |_=>False
def b6n(hN:aR!)(hi:Y_)(hx:a2_)(h:bu!)(bp:aN_:=by decide)
  (hf:X.fn x=true\/X.env.scope.names.lookup x=some .local:=by first|exact .inl rfl|exact .inr rfl|assumption):MS X own own (.AugAssign c9! .Add e pos) (Tb i f):=
 oJ (c6a hN hi hx h.ok c7p hf) λM0 G0 F0 E Z G H ρ M R sr e k1 k2=>by
  unfold Tb at e;show"!8"
  .rename_i a nr;obtain⟨v,Y,h2⟩:=sr.st.or.at_ i _ nr bp;cases aZ h2;refine⟨_,Y,G,ρ,M,_,sr.st,e,Cc_⟩;cases d<;>first|exact r.elim|skip
   cases aZ q;exact⟨a,_,rfl,rfl,k1 _ M' G' _ H' r ((qr!).set bp Aq.int)⟩
  .exact e.elim
def Df(ft:WT)(q:WS):Nat->WS
 |0=>λ_ _ _=>False
 |n+1=>λρ M R=>ft ρ M λb M1=>if b then q ρ M1 (λr M2=>match r with|.nx bc=>Df ft q n bc M2 R|.rt d=>R aH_ M2)else R S_ M1
def Jb(ft:WT)(q:WS):WS:=λρ M R=>∃n,Df ft q n ρ M R
def jN(hp:fY_)(hc:kI!)(J:Cd!):MS X own own sG_ (Jb ft q1):=⟨by
 rintro M0 G0 F0 hb s Z H E I ⟨G,ρ,M,R,sr,⟨n,e⟩,k1,k2⟩;refine b4t hp hc.ok (J.ok M0 G0 F0) hb s Z H E I ⟨λm ac H'=>∃G' ρ' M',Ja X.prog X.w X.K own M0 G0 F0 M' G' H' ac ρ'/\Df ft q1 m ρ' M' R,⟨n,G,ρ,M,sr,e⟩,?_⟩;rintro m ac H' ⟨G',ρ',M',de,e'⟩;cases m with
 |zero=>exact e'.elim
 |succ m=>
  refine⟨G',ρ',M',_,de.st,e',λb M1 G1 H1 r1 x1 m1=>?_⟩;cases b with
  |true=>exact kB ⟨λc8 H2=>∃G2 bc M2,Ja X.prog X.w X.K own M0 G0 F0 M2 G2 H2 c8 bc/\Df ft q1 m bc M2 R,λc8 H2 h=>⟨m,RT m,h⟩,G1,ρ',M1,_,de.grow x1 m1,r1,λbc M2 G2 c8 H2 r2 xm=>⟨G2,bc,M2,xm,r2⟩,λd M2 v G2 H2 r2 x2 m2 q2=>k2 d M2 v G2 H2 r2 x2 m2 q2⟩
  |false=>exact kP (k1 ρ' M1 G1 ac H1 r1 (de.grow x1 m1))⟩
end
def GF(P:zy!)(w:zx!)(KF:zA!)(af:It)(ds:e!)(ck:fv_)(G1:Hp):Prop:=∀(i:Nat) (M':Mh) (G' H':Hp),Bc G1 G'->Bc G' H'->MR P w KF M' G' H'->ck M'->
 ye_/\yf!
abbrev WI:=Ag->Mh->(List D->(Mh->Prop)->Mh->Prop)->Prop
inductive HZ(P:zy!)(w:zx!)(KF:zA!)(own:o!)(fi:WI)(Z:St)(H:Hp)(R:ik_):Prop
 |mk (G:Hp) (ρ:Ag) (M:Mh) (T:List D->(Mh->Prop)->Mh->Prop) (st:hl!) (e:fi ρ M T) (k:∀ds ck M1 af G1 H1,T ds ck M1->XM M G H M1 G1 H1->MR P w KF M1 G1 H1->GF P w KF af ds ck G1->R af H1):HZ P w KF own fi Z H R
structure MI(X:Cx)(own:o!)(tg iter:Expr)(fi:WI):Prop where
 ok:PI X tg iter (HZ X.prog X.w X.K own fi)
section
variable{st:Stmt}{rest body:List Stmt}{pos p2:Pos}
def c4s(h:yg!)(hw:∀Z G H R ρ M T,Sx X.prog X.w X.K own G H Z ρ M->fi ρ M T->(∀ds ck M1 af G1 H1,T ds ck M1->XM M G H M1 G1 H1->MR X.prog X.w X.K M1 G1 H1->GF X.prog X.w X.K af ds ck G1->R af H1)->wi Z H R):MI X own tg e fi:=
 ⟨λhb s Z H R I ⟨G,ρ,M,T,st,e,k⟩=>h hb s Z H R I (hw Z G H R ρ M T st e k)⟩
def Ip(di:bd_):WI:=λρ M T=>Ed (di ρ) λds=>T ds ad! M
def AK.m(h:yo!):GF P w KF af ds ad! G1:=λi M' G' H' s1 s2 _ _=>h i G' H' s1 s2
def mK(h:DI X own tg e di):MI X own tg e (Ip di):=c4s h.ok λZ G H R ρ M T st e k=>by
 obtain⟨ds,e1,e2⟩:=cX e;exact⟨G,ρ,ds,st.or,e1,λaf G1 H1 x eh=>k ds _ M af G1 H1 e2 pW_ pX! eh.m⟩
def Cv(f:WE):WI:=λρ M T=>f ρ M λd M1=>match d with
 |.lst xs=>T xs ad! M1
 |.fn p=>(match M1 p with|some (.lst xs)=>T xs (λM=>M p=some M!) M1|_=>False)
 |_=>False
def dY(h:an!):MI X own tg a (Cv fa):=c4s (a8p h.ok) λZ G H R ρ M T st e k=>⟨G,ρ,M,_,st,e,λd M1 v G1 H1 r1 x1 m1 q1=>by
 cases d<;>first|exact r1.elim|skip
 .obtain⟨p,vs,rfl,q,rr⟩:=bP q1;exact⟨p,rfl,⟨vs,x1.sub.seq q⟩,k _ _ M1 _ G1 H1 r1 x1 m1 (a3m q rr).m⟩
 .rename_i p;cases fQ q1;dsimp only at r1;split at r1
  .rename_i xs hM;obtain⟨_,vs,Y,h2⟩:=m1.cell p _ hM;refine⟨p,rfl,⟨vs,Fm.of Y⟩,k _ _ M1 _ G1 H1 r1 x1 m1 λi M' G' H' s1 s2 m' ck=>?_⟩;obtain⟨_,f7,h3,h4⟩:=m'.cell p _ ck;have q':Fm X.K H' p f7:=Fm.of h3;refine⟨dT_,λhi=>⟨f7,q',by rw[<-aJ h4,hi];exact KU _⟩⟩;obtain⟨v,g1,g2⟩:=gM h4 hd;refine⟨⟨f7,v,q',g1⟩,jR_⟩;obtain⟨e1,e2⟩:=hy;subst e1;have:=e2 f7 q';rw[g1]at this;cases this;exact⟨G',jS!,g2⟩
  .exact r1.elim⟩
def Hx(bnd:b5_)(ck:fv_)(q:WS):List D->WS
 |[]=>λρ M R=>ck M/\R S_ M
 |d::ds=>λρ M R=>ck M/\Ed jT! λak=>q ak M λr M1=>match r with|.nx bc=>Hx bnd ck q ds bc M1 R|.rt d=>R aH_ M1
def Dp(fi:WI)(bnd:b5_)(q:WS):WS:=λρ M R=>fi ρ M λds ck M1=>Hx bnd ck q ds ρ M1 R
def HS(KF:zA!)(own:o!)(g:TG)(bnd:b5_):Prop:=∀{P:zy!} {w:zx!} {x:V} {d:D} {Z:St} {M0 M:Mh} {G0 F0 G H:Hp} {ρ ak:Ag} {Q:if!},Ja P w KF own M0 G0 F0 M G H Z ρ->Aq KF G d x->bnd d ρ=some ak->(∀bt,Ja P w KF own M0 G0 F0 M G H bt ak->Q bt H)->g x Z H Q
def dI(i:Nat)(hi:aN_:=by decide):HS KF own ev! (Cj i):=by intro P w x d Z M0 M G0 F0 G H ρ ak Q sr r e k;cases e;exact k _ (sr.set hi r)
def Wl(i j:Nat):D->Ag->Option Ag:=λd ρ=>match d with|.tup [x,y]=>some ((ρ.set i fX_).set j (some y))|_=>none
def b8d(i j:Nat)(hi:aN_:=by decide)(hj:j∉own:=by decide):HS KF own ym! (Wl i j):=by
 intro P w x d Z M0 M G0 F0 G H ρ ak Q sr r e k;unfold Wl at e;show"!8"
 .cases e;show"!Y";show"!5";exact⟨p,[v1,v2],rfl,cC sr.st.or.sub q,rfl,v1,[v2],rfl,v2,[],rfl,rfl,k _ ((sr.set hi r1).set hj r2)⟩
 .cases e
def Ja.base{M0 M1:Mh}(s:qt!):Ja P w KF own M1 G1 hu! M1 G1 H1 Z ρ:=
 ⟨s.st,⟨Bc.refl _,s.st.or.sub,db_,λb o e _=>s.sr.ext.h b o e,db_,λb h=>h⟩,λi hi p e=>s.sr.fr i hi p e⟩
def Ja.unx{M0 M1 M':Mh}(s:qt!)(y:XM M1 G1 hu! M' G' H'):XM M0 G0 F0 M' G' H':=by
 refine⟨s.x.g.trans y.g,y.sub,bd!,B0_,bd!,λb h=>y.cells b (s.x.cells b h)⟩
 .obtain z|z:=y.new b h
  .exact s.x.new b z
  .exact qo!
 .refine y.keep b o ?_ ?_
  .unfold Gd;rw[B1!];exact s.x.keep b o e J
  .cases q:M1 b with
   |none=>rfl
   |some c=>
    rcases s.x.dom b cv! with z|z
    .exact absurd J z
    .rw[e]at z;cases z
 .obtain z|z:=y.dom b h
  .exact s.x.dom b z
  .exact qo!
def Ja.unbase{M0 M1 M':Mh}(s:qt!)(s':Ja P w KF be M1 G1 hu! M' G' H' ac ρ'):Ja P w KF be M0 G0 F0 M' G' H' ac ρ':=
 ⟨s'.st,s.unx s'.x,λi hi p e=>s.noF (s'.fr i hi p e)⟩
def eS(hp:fY_)(hc:ao_)(am:qu_)(hg:ms!)(ng:HS X.K own g bnd)(J:Cd!)
  (hs:cT_:=by intro _;rfl):MS X own own s5! (Dp fi bnd q1):=⟨by
 rintro M0 G0 F0 hb s Z H E I ⟨G,ρ,M,R,sr,e,k1,k2⟩;have f8:Ox X body (λE Z H=>∃A B C,CU X.prog X.w X.K A B C own own q1 E Z H):=λhb s Z H E I ⟨A,B,C,h⟩=>J.ok A B C hb s Z H E I h;refine b4x hp hc am.ok hg f8 hs hb s Z H E I ⟨G,ρ,M,_,sr.st,e,λds ck M1 af G1 H1 r1 x1 m1 eh=>?_⟩;have xo:=sr.grow x1 m1;refine⟨λn m ac H'=>n<=g!/\m=g! - n/\∃G' ρ' M',Ja X.prog X.w X.K own M1 G1 hu! M' G' H' ac ρ'/\Hx bnd ck q1 op_ ρ' M' R,
  ⟨g!,LY _,rfl,G1,ρ,M1,xo.base,r1⟩,?_⟩
 rintro n m ac H' ⟨hn,rfl,G',ρ',M',de,e3⟩;have d6:ck M':=by
  cases hd:ds.drop n with
  |nil=>rw[hd]at e3;exact e3.1
  |cons _ _=>rw[hd]at e3;exact e3.1
 obtain⟨m9,na⟩:=eh n M' G' H' de.x.g de.st.or.sub de.st.mr d6;by_cases al:n<g!
 .right;have hd:ds[n]?=some ds[n]:=by simp[al]
  rw[PV al]at e3;obtain⟨_,e3⟩:=e3;obtain⟨ak,e4,e3⟩:=cX e3;obtain⟨go,yl⟩:=m9 _ hd;refine⟨go,λc8 H2=>∃G2 bc M2,Ja X.prog X.w X.K own M1 G1 hu! M2 G2 H2 c8 bc/\Hx bnd ck q1 yP_ bc M2 R,λc8 H2 ⟨G2,bc,M2,Y,h3⟩=>⟨g! - dc!,p!,al,rfl,G2,bc,M2,Y,h3⟩,oS_⟩;obtain⟨G2,x2,r2⟩:=yl v H2 hy;have xm:=de.grow kR! (de.st.mr.ext x2);exact ng xm r2 e4 λgg u6=>⟨M1,G1,Gd own Z H1,G2,ak,M',_,u6,e3,λsm M4 G4 σ4 H4 r4 ZS=>⟨G4,sm,M4,ZS,r4⟩,λd M4 v G4 H4 r4 x4 m4 q4=>k2 d M4 v G4 H4 r4 (xo.unx x4) m4 q4⟩
 .left;have ir:n=g!:=by omega
  refine o9!;rw[ir,TD]at e3;exact k1 ρ' M' G' ac H' e3.2 (xo.unbase de)⟩
def Qp(bnd:b5_)(ck:fv_)(ft:WT)(fe:WE)(ρ:Ag):List D->Mh->AY!->Prop
 |[],M,R=>ck M/\R [] M
 |d::ds,M,R=>ck M/\Ed jT! λak=>ft ak M λb M1=>if b then fe ak M1 λy M2=>Qp bnd ck ft fe ρ ds M2 λys M3=>R (y::ys) M3 else Qp bnd ck ft fe ρ ds M1 R
def Bi(nl:Nat)(ix:o!)(fi:WI)(bnd:b5_)(ft:WT)(fe:WE):WE:=λρ M R=>fi ρ M λds ck M1=>g!<=big/\Qp bnd ck ft fe ot_ ds M1 λys M2=>R aD_ M2
def b0f{M1:Mh}{Fin:cQ_}
  (J:g!<=big)(eh:GF P w KF af ds ck G1)(hg:GD KF g bnd)(er:Sx P w KF [] G1 H1 ww m8 M1)(e:Qp bnd ck ft fe m8 ds M1 R)(k:∀jm ys M' G' H',R jm M'->XM M1 G1 H1 M' G' H'->MR P w KF M' G' H'->Am KF G' jm ys->jm.length<=g!->Fin ys H'):
  Wm af g (AN P w KF [] ft) (DF P w KF [] fe) Fin ww H1:=by
 refine⟨λi m ys ac H'=>i<=g!/\m=g! - i/\∃G' M' ws,XM M1 G1 H1 M' G' H'/\Sx P w KF [] G' H' ac m8 M'/\Am KF G' ws ys/\np!<=i/\Qp bnd ck ft fe m8 (ds.drop i) M' λr M2=>R (ws++r) M2,
  ⟨g!,LY _,rfl,G1,M1,[],.refl er.or.sub,er,Am.nil,LY _,e⟩,?_⟩
 rintro i m ys ac H' ⟨hi,rfl,G',M',ws,x,cu,av,hw,e2⟩;refine yo_;have d6:ck M':=by
  cases hd:ds.drop i with
  |nil=>rw[hd]at e2;exact e2.1
  |cons _ _=>rw[hd]at e2;exact e2.1
 obtain⟨m9,na⟩:=eh i M' G' H' x.g cu.or.sub cu.mr d6;by_cases al:i<g!
 .right;have hd:ds[i]?=some ds[i]:=by simp[al]
  rw[PV al]at e2;obtain⟨_,e2⟩:=e2;obtain⟨ak,e1,e2⟩:=cX e2;obtain⟨go,yl⟩:=m9 _ hd;refine yp!;obtain⟨G2,x2,r2⟩:=yl v H2 hy;have cx:=cu.grow kR! (cu.mr.ext x2);have ZT:XM M1 G1 H1 M' G2 H2:=x.trans kR! cu.mr;refine hg cx.or r2 e1 λbt m7 r9=>⟨G2,ak,M',_,Ch_,e2,λb M3 G3 H3 r3 x3 m3=>?_⟩;have jy:=(show Sx P w KF [] G2 H2 bt ak M' from Ch_).grow x3 m3;have k8:=ZT.trans x3 cx.mr;cases b with
  |true=>
   refine kB ⟨G3,ak,M3,_,jy,r3,λy M4 u G4 H4 r4 x4 m4 q4=>⟨g! - Z_,p!,al,rfl,G4,M4,ws++[y],k8.trans x4 m3,⟨(jy.grow x4 m4).or.le r9,m4,ar!⟩,?_,?_,?_⟩⟩
   .exact dA yr! (Am.cons q4 Am.nil)
   .rw[LK,OG];omega
   .have e5:(λr M2=>R (ws++[y]++r) M2)=λr M2=>R (ws++y::r) M2:=by
     funext r M2;rw[NJ];rfl
    rw[e5];exact r4
  |false=>
   exact kP ⟨g! - Z_,p!,al,rfl,G3,M3,ws,k8,⟨jy.or.le r9,m3,ar!⟩,ys!,p!,r3⟩
 .left;have ir:i=g!:=by omega
  refine o9!;rw[ir,TD]at e2;have this:R (ws++[]) M':=e2.2;rw[LR]at this;exact k ws ys M' G' H' this x cu.mr av a!
def gH
  (cj:c4!)(ce:c4_)(jx:∀y∈b0_,y.2=.local->scope.names.lookup y.1=some .local)
  (g6:gL!)(cap:c3_)(hix:jD!)(calm:ao_)(am:qu_)
  (hg:gL_)(ng:oT_)(hi:Cj_)(he:Ck!)
  (hs:cT_:=by intro _;rfl):
  ME X own gI_ Cl_:=
 eK yt_ λZ G H Q ρ M R st e k=>⟨G,ρ,M,_,st,e,λds ck M1 af G1 H1 r1 x1 m1 eh=>by
  obtain⟨J,r1⟩:=r1;have pi:=st.grow x1 m1;refine b0f J eh ng Cl! r1 λjm ys M' G' H' r x m q _ p hp=>?_;exact k _ M' _ _ _ r ((x1.trans x m1).trans (.ext gV_) m) (m.ext gV_) (cZ oV! q)⟩
def tZ:Pi X [] (AN X.prog X.w X.K [] λρ M R=>R true M):=λhb s Z H Q I ⟨G,ρ,M,R,st,e,k⟩=>a2e hb s Z H Q I (k true M G H e kG! st.mr)
def mP(h:MT X [] c ft):Pi X [c] Cj!:=a2d h.ok
abbrev WF:=List D->Mh->pV!->Prop
def Yx(P:zy!)(w:zx!)(KF:zA!)(n:Nat)(g:WF):Sp:=λvs H Q _=>a5!=n/\∃G ds M R,Bc G H/\MR P w KF M G H/\Am KF G ds vs/\g ds M R/\∀d M' v G' H',R d M'->XM M G H M' G' H'->MR P w KF M' G' H'->Aq KF G' d v->Q v H'
def Iz(P:zy!)(w:zx!)(KF:zA!)(mg:O_)(base:Heap)(k:Nat)(x:Str)(ps:G_)(g:WF):Prop:=
 ∃ae fd,Fk P w KF mg base Pj k ae fd ps qx_/\Eu KF fd ps []/\mg x=some be!/\W.keepIn KF be!=true
nonrec def gl(g:b5!):WF:=λds M R=>Ed (g ds) λd=>R d M
def Aj(n:Nat)(g:WF)(fs:WA):WE:=λρ M R=>fs ρ M λds M1=>g!=n/\g ds M1 R
def aP(F:Iz X.prog X.w X.K X.mg X.base k x ps g)(hr:a8_)(hg:H_)(ha:ft!)
  (ax:y!:=by decide)(he:ah!:=by rfl)(au:aM!:=by rfl):
  ME X own a9! (Aj ps.length g fs):=by
 show"#%";refine eK (yQ Y hr hg h3 h4 h2 .nil tL ha.ok ax he au) λZ G H Q ρ M R st e' k=>⟨G,ρ,M,_,st,e',Cm_⟩;show Yx X.prog X.w X.K ps.length g oB! H1 Q E0;rw[LR];exact⟨Cn!,G1,ds,M1,R,x1.sub,m1,q1,r1.2,pZ!⟩
def Ds(P:zy!)(w:zx!)(KF:zA!)(mg:O_)(base:Heap)(k:Nat)(C:u0!)(m:Str)(ps:G_)(g:WF):Prop:=
 Uo KF C/\∃ae fd,Xi KF C m ae/\Fk P w KF mg base Pj k ae fd ps qx_/\Eu KF fd ps []
def Dr(C:u0!)(m:Str)(M:Mh)(d:D):Prop:=match d with
 |.fn p=>(match M p with|some (.obj C' fs)=>C'=C/\fs.lookup m=none|_=>False)
 |_=>False
def a3n(mr:cb_)(r:cA!)(h:k2!):∃p dx vs,d=.fn p/\v=.ref p/\H p=some AU!/\vs.lookup m=none:=by
 unfold Dr at h;split at h
 .rename_i p;cases fQ r;split at h
  .rename_i C' fs hM;obtain⟨rfl,hl⟩:=h;obtain⟨_,dx,vs,Y,h2⟩:=mr.cell p _ hM;exact⟨p,dx,vs,rfl,rfl,Y,b8g h2 hl⟩
  .exact h.elim
 .exact h.elim
def Av(C:u0!)(m:Str)(n:Nat)(g:WF)(fo:WE)(fs:WA):WE:=λρ M R=>fo ρ M λd M1=>Dr C m M1 d/\fs ρ M1 λds M2=>g!+1=n/\g dP! M2 R
def bS(F:Co_)(hr:a8_)(ho:cJ_)(ha:ft!)
  (hst:ah!:=by rfl)(au:aM!:=by rfl)
  (ht:eval iM_ X.env=(do
   let ov <-eval o X.env
   standAt f9!
   let(f,first) <-holding [ov] f9_
   callWith pos f first t3_ eE!):=by rfl):ME X own iM_ (Av C m ps.length g fo fs):=by
 obtain⟨cl,ae,fd,Y,h2,h3⟩:=F;refine eK (c1h (pl:=pl) ho.ok cl Y h2 hr h3 .nil tL ha.ok hst au ht) λZ G H Q ρ M R st e' k=>Cp_;show"!g";refine⟨p,dx,vs,rfl,hH,hl,G1,ρ,M1,_,kH!,r1,λds M2 us G2 H2 r2 x2 m2 q2=>?_⟩;show Yx X.prog X.w X.K ps.length g (.ref p::(us++[])) H2 Q E0;rw[LR];exact⟨by rw[KO,<-aJ q2];exact r2.1,G2,.fn p::ds,M2,R,x2.sub,m2,Am.cons Aq.fn q2,r2.2,λd M3 v G3 H3 r3 x3 m3 q3=>k d M3 v G3 H3 r3 qe! m3 q3⟩
def a3a(F:Co_)(hr:a8_)(ho:cJ_)
  (ht:eval iN! X.env=(do
   let ov <-eval o X.env
   standAt f9!
   let(f,first) <-holding [ov] f9_
   callWith pos f first nd_ eE!):=by rfl):ME X own iN! (Av C m ps.length g fo Ad):=by
 obtain⟨cl,ae,fd,Y,h2,h3⟩:=F;refine eK (b5k (pl:=pl) ho.ok cl Y h2 hr h3 .nil tL ht) λZ G H Q ρ M R st e' k=>Cp_;show"!g";refine⟨p,dx,vs,rfl,hH,hl,?_⟩;show Yx X.prog X.w X.K ps.length g gt! H1 Q E0;have r2:[].length+1=P!/\g Cs_ M1 R:=r1;exact⟨r2.1,G1,[.fn p],M1,R,x1.sub,m1,Am.cons Aq.fn Am.nil,r2.2,λd M3 v G3 H3 r3 x3 m3 q3=>k d M3 v G3 H3 r3 (x1.trans x3 m1) m3 q3⟩
def Xh(P:zy!)(w:zx!)(KF:zA!)(mg:O_)(base:Heap)(k:Nat)(x:Str)(C:u0!)(ps:G_)(g:WF):Prop:=
 mg x=some U_/\∃ae fd,Mk KF C ae/\Fk P w KF mg base Pj k ae fd ps qx_/\Eu KF fd ps []
def Hn(C:u0!)(n:Nat)(g:WF)(fs:WA):WE:=λρ M R=>fs ρ M λds M1=>g!+1=n/\∀p,M1 p=none->g (.fn p::ds) (mup M1 p qy_) λd M2=>d=.non/\R x_ M2
def b6v{M1:Mh}(sub:Bc G1 H1)(m1:AV_)(hx:H1 x=none)(jp:H1 dx=none)(ne:dx≠x):
  XM M1 G1 H1 Cu_ G1 nc!/\MR P w KF Cu_ G1 nc!:=by
 have old:∀b o,H1 b=some o->upd tZ! x nb_ b=some o:=λb o e=>by rw[aY (cK e hx),aY (cK e jp)];exact e
 refine⟨⟨Bc.refl G1,λb o e=>old b o (sub b o e),db_,λb o e _=>old b o e,bd!,bd!⟩,⟨λb q e=>?_⟩⟩
 .by_cases J:b=x
  .subst J;exact .inr hx
  .rw[cI_]at h;exact .inl h
 .by_cases J:b=x
  .subst J;rw[mup_same];simp
  .rw[cI_];exact h
 .by_cases J:b=x
  .show"#&";exact⟨sub.free hx,dx,[],bY,.nil⟩
  .rw[cI_]at e;obtain⟨Y,h2⟩:=m1.cell b q e;refine⟨Y,h2.mono (Bc.refl G1) ?_⟩;cases hq:H1 b with
   |none=>exact absurd hq h2.has
   |some o=>exact old b o hq
def c2f(F:Cw!)(hr:gd!)(hg:H_)(ha:ft!)
  (ax:y!:=by decide)(he:ah!:=by rfl)(au:aM!:=by rfl):ME X own a9! (Hn C ps.length g fs):=by
 obtain⟨hm,ae,fd,Y,h2,h3⟩:=F;refine eK (c1i Y h2 hr hg hm h3 .nil tL ha.ok ax he au) λZ G H Q ρ M R st e' k=>⟨G,ρ,M,_,st,e',λds M1 vs G1 H1 r1 x1 m1 q1=>λy dx hy jp ne=>?_⟩;obtain⟨z1,z2⟩:=b6v (C:=C) x1.sub m1 hy jp ne;rw[LR];exact⟨by rw[KO,<-aJ q1];exact r1.1,G1,.fn y::ds,_,_,z1.sub,z2,Am.cons Aq.fn q1,r1.2 y (m1.nocell hy),λd M2 v G2 H2 r2 x2 m2 q2=>by
  obtain⟨rfl,r2⟩:=r2;exact⟨dW q2,k _ M2 _ G2 H2 r2 ((x1.trans z1 m1).trans x2 z2) m2 Aq.fn⟩⟩
def lK(F:Cw!)(hr:gd!)(hg:H_)
  (ax:y!:=by decide):ME X own t8! (Hn C ps.length g Ad):=by
 obtain⟨hm,ae,fd,Y,h2,h3⟩:=F;refine eK (b5l Y h2 hr hg hm h3 .nil tL ax) λZ G H Q ρ M R st e' k=>λy dx hy jp ne=>?_;obtain⟨z1,z2⟩:=b6v (C:=C) st.or.sub st.mr hy jp ne;have r1:[].length+1=P!/\∀p,M p=none->g Cs_ (mup M p qy_) λd M2=>d=.non/\R x_ M2:=e';exact⟨r1.1,G,[.fn y],_,_,z1.sub,z2,Am.cons Aq.fn Am.nil,r1.2 y (st.mr.nocell hy),λd M2 v G2 H2 r2 x2 m2 q2=>by
  obtain⟨rfl,r2⟩:=r2;exact⟨dW q2,k _ M2 _ G2 H2 r2 (z1.trans x2 z2) m2 Aq.fn⟩⟩
def Bo(N:G_)(n:Nat)(q:WS):WF:=λds M R=>g!=n/\q gY_ M λr M'=>match r with|.rt d=>R d M'|.nx _=>R .non M'
end
def sJ{st:Stmt}
  (F:yQ!)(S:c3!)
  (J:∀(ag:zp!) (A:zm!) (outer:ao!) (s:zz!) (H:Hp) (E:XK),Ah k o9_->Ut (pa!).nox [] cg bp_ q):
  Fk P w KF mg base Pj M_ ae fd ps (Yx P w KF ps.length k5_):=by
 refine yR_;obtain⟨hl,G,ds,M,R,sub,m,r,e,kk⟩:=h;refine⟨_,(yS!).ok M G H,?_⟩;have er:=sU (N:=N) sub r;exact Cx_
section
def Ny.at(D:Cy!)(e:∀o,h.get? d=some o->h'.get? d=some o):Ny h' d es ep:=let⟨o,ho,r⟩:=D;⟨o,e o ho,r⟩
def b7s(hd:Cy_)(D:qz!)
  (h:Q bk_ {s with heap:=s.heap.push {cls:=.type "dict_keyiterator",data:=.fields #[.ref d,.int 0 0,.int es.length 0,.int ep 0]}}):wpAny C! A (pyIter (.ref d)) Q E s:=by
 have hT:=D.typeIs;obtain⟨o,ho,hc,WJ⟩:=id D;refine wpAny_pyIter_slot hT PySem.F.slot_dict_iter (MF PySem.F.slot_dict_iter hT PySem.F.entry_dict_iter ?_ (PySem.F.args_dict_iter_1 _));unfold Builtin.«dict.__iter__» Builtin.Dict.dictSlotNone;refine JY p1!;show wpAny C! A.in1 (Builtin.Dict.showsAll d>>=_) _ _ s;unfold Builtin.Dict.showsAll;rw[KN (by rw[hd];exact LH)];refine JY (KB (JY (PL ho WJ (JY (PM ho WJ (JY (NT (KB ⟨_,rfl,"dict_keyiterator",_,kf!,NX.lookup,?_⟩))))))));simpa[rawInt]using h
def a2s(am:CC!)(D:qz!)(hx:Ax!)
  (h:∀h',h'.IsKeyIter it d Z_ es.length ep->Heap.SameBut it s.heap h'->Q (some e.key) {s with heap:=h'}):wpAny C! A ik! Q E s:=by
 show"!Z";obtain⟨al,iz⟩:=KS.mp hx;unfold pyNext;refine JY CD!;refine JY CD_
 first|refine JY (QM hT k7!)|refine JY (RM hT k7!)
 show"!U";refine JY CG_;rw[Q!];refine KB ?_;simp only[CH!,MJ,QA,PR,hx];refine JY ?_
 first|refine JY (QM hT CH_)|refine JY (RM hT CH_)
 show wpAny C! A.in1 (setField cn! 1 qA!>>=_) _ _ s;have ja:(s.heap.update it CJ!).IsKeyIter it d Z_ es.length ep:=
  ⟨_,NZ _ ho (PY (OT hd _)),(zp_).trans hc,by rw[OT hd];simp[rawInt]⟩
 refine JY (RI ho hd c! (JY (MH (JY (UG (s:={s with heap:=s.heap.update it CJ!}) ja.typeIs ?_)))));exact KB (KB ⟨_,rfl,KB (h _ ja d0!)⟩)
def a9z(hh:bC!)(am:CC!)(D:qz!)(hx:ab!<=i)
  (h:CK!):wpAny C! A ik! Q E s:=by
 show"!Z";unfold pyNext;refine JY CD!;refine JY CD_
 first|refine JY (QM hT k7!)|refine JY (RM hT k7!)
 show"!U";refine JY CG_;rw[Q!];refine KB ?_;simp only[CH!,MJ,QA,PR,NB hx];refine JY ?_
 first|refine JY (QM hT P_)|refine JY (RM hT P_)
 show wpAny C! A.in1 (setField cn! 0 .none>>=_) _ _ s;refine JY (RI ho hd c! ?_);refine JY ?_;simp only[newExc,newTuple];refine JY (NT (JY (m:=zq!) (wpAny_of_eq (a:=ci_) zr! (NT ?_ g6_))) g6_);simp only[raiseNew];refine JY zr_;rw[zs!];refine JY zt!;refine JY (wpAny_isInstance (T:=pr!) (b:=true) (show Shared.TypeIs _ _ _ from kf!) isSubtype_stop ?_);exact KB (h _ zt_)
def b0q(hh:bC!)(I d:u0!)(hne:d≠I)(es:cH!)(ep:Nat):Walks P w A I [I,d] [I] es.length qE! (λi h=>h.IsKeyIter I d i es.length ep/\Ny h d es ep) where
 sub:=λb J=>by simp at J;simp[J]
 frame:=λ_ _ _ st hk=>⟨st.1.at λo e=>hk I c! o e,st.2.at λo e=>hk d c! o e⟩
 item:=λi s Q E hi st hQ=>by
  refine a2s st.1 st.2 (KZ hi) λh' ja cm=>?_;exact hQ _ h' s.toks ⟨_,KZ hi,rfl⟩ ⟨ja,st.2.at λo e=>(cm.2 d hne).trans e⟩ λb o J e=>(cm.2 b fZ_).trans e
 done:=λs Q E st hQ=>a9z hh st.1 st.2 r! λh' iy=>hQ h' s.toks λb o J e=>iy b o fZ_ e
 self:=λ_ _ _ _ st hQ=>wpAny_pyIter_keyiter st.1 hQ
def c8l(D:Cy!)(D':Ny h d az bf):es=az/\ep=bf:=by
 obtain⟨o,Y,_,h2⟩:=D;obtain⟨o',h3,_,h4⟩:=D';rw[Y]at h3;cases h3;rw[h2]at h4;injection h4 with h5 h6
 exact⟨by simpa using congrArg Array.toList h5,h6⟩
def JA(d:u0!)(ep n:Nat):It:=⟨λi H=>∃es e x,H d=some dk_/\ab!=n/\es[i]?=some e/\Bn x e.key,λi H x H'=>H'=H/\∀es,H d=some dk_->∃e,es[i]?=some e/\Bn x e.key,λi H=>∃es,H d=some dk_/\ab!=n/\n<=i⟩
def a0y(hok:a1!)(e:H d=some dk_):Ny h d es ep:=by obtain⟨⟨h3,_⟩,_⟩:=(show Em P w H h d dk_ from hok d _ e);exact h3
def b3t{KF:zA!}(d it:u0!):Su P w KF tg (JA d ep n) [it] it (λi h=>h.IsKeyIter it d i n ep) where
 mem:=by simp
 obj:=λi h st b J=>by
  have e:b=it:=by simpa using J
  subst e;show"!z"
 keep:=λi h h' st k=>st.at λo e=>k it c! o e
 item:=by
  intro X hP hw hK hc i hb s Z H E I hf st hg;subst hP hw hK;obtain⟨es,e,x,hH,hl,hx,rx⟩:=hg;have D:=a0y I.hok hH;obtain⟨f0,f1,f2,f3,f4,f5⟩:=hf it c!;subst hl;refine a2s st D hx λh' σ sb=>?_;have I1:Inv X hb Z H {s with heap:=h'}:=I.turned (t':=s.toks) sQ_ f0 f1 f3 f4 f5;obtain⟨o,eo,c,dd⟩:=id σ;exact⟨_,rfl,b8a (s:=my_) eo c dd b! ⟨x,H,I1,rx,⟨rfl,λaz hy=>by
   obtain⟨rfl,_⟩:=c8l D (a0y I.hok hy);exact⟨e,hx,rx⟩⟩,σ,λb J=>(fZ!).1⟩⟩
 done:=by
  show"!0";obtain⟨es,hH,hl,hx⟩:=hg;show"!3";subst hl;exact a9z aS! st (a0y I.hok hH) hx λh' eb=>mz_
 self:=λ_ _ _ _ _ st h=>wpAny_pyIter_keyiter st h
end
section
def Kt(f:WE):WI:=λρ M T=>f ρ M λd M1=>Ed hr! λq=>T hx! (λM=>M q.1=some p9!) M1
def a6k(h:an!):MI X own tg a (Kt fa):=⟨by
 rintro hb s Z H R I ⟨G,ρ,M,T,st,e,k⟩;refine h.run I st e λd M1 v G1 H1 u s1 r1 x1 m1 q1 I1 rx=>?_;obtain⟨⟨p,h1,ep⟩,e1,r2⟩:=cX r1;obtain⟨rfl,rfl,hM⟩:=cN q1 e1;cases rx;obtain⟨es,Y,h2,h3,h4,h5,h6⟩:=eF I1 m1 x1.sub hM;have ao:av!=ab!:=QL h2.1;refine b7s h4 h3 ⟨x!,[x!],_,JA p ep ab!,H1,rfl,mA_,b3t p _,ew_,cn_,k _ _ M1 _ G1 H1 r2 x1 m1 λi M' G' H' s2 s3 m' ck=>?_⟩
 .have e:b=x!:=by simpa using J
  show"!h"
 .obtain⟨_,az,g1,g2⟩:=m'.cell p _ ck;have hlen':av!=az.length:=QL g2.1;refine⟨dT_,λhi=>⟨az,g1,p!,by rw[hi,KQ];show ab!<=av!;omega⟩⟩;rw[LZ]at hd;obtain⟨q,hq,rfl⟩:=KI.mp hd;obtain⟨e',iy,⟨v,r1,rv⟩,_,_⟩:=gB g2.1 hq;refine⟨⟨az,e',v,g1,p!,iy,rv⟩,jR_⟩;obtain⟨z1,z2⟩:=hy;subst z1;obtain⟨e2,iq,rx⟩:=z2 az g1;rw[iy]at iq;cases iq;rw[rx.inj rv];exact⟨G',Ch.refl s3,r1⟩⟩
end
section
def hV{wr:a1_}(I:d!)(hf:∀b∈wr,Fu X hb H b)(kp:∀c o,c∉wr->s.heap.get? c=some o->h2.get? c=some o):Inv X hb Z H {s with heap:=h2,toks:=t'}:=by
 refine I.step (g':=s.gens) (d':=s.drawn) (t':=t') (ch:=wr) ko_ zV! zV_ lV_ zW! lW! lW_ zW_ lX_ kp! I.bare
 .obtain⟨f0,f1,f2,f3,f4,f5⟩:=hf c hc;exact⟨f3,f1,f4,f5⟩
 .show"#5";exact zX!
 .refine(zZ!).stay zY! zY_ λ_ _ e'=>e';have hn:=(hf d hm).1;obtain rfl|hd:=hd
  .rw[hn]at e;cases e
  .rw[hn]at hd;cases hd
def c5m(I:Inv X hb Z H s0)(I1:d!)(hT:CM!<=T)(eT:s.heap.IsTuple T cx!)(rv:do_)(hz:i!<=sizeLine):Inv X hb Z (upd H T bw_) s:=by
 have sj:H T=none:=I.hok.fresh hT;have ne:∀c o,H c=some o->c≠T:=λc o e=>cK e sj;refine Inv.step (g':=s.gens) (d':=s.drawn) (t':=s.toks) (h':=s.heap) (ch:=[T]) I1 ko_ z2_ z3! z3_ z4!
  (z4_) z5! z5_ n5_ kp! I1.bare
 .have e:c=T:=by simpa using hc
  subst e;obtain⟨_,g1,_,g3,g4,g5⟩:=I.fpOk hT sj;exact⟨g3,g1,g4,g5⟩
 .rw[n6!];exact n
 .by_cases J:c=T
  .show"!s";exact⟨hz,us,rv,eT⟩
  .rw[aY J]at e;exact(z7!).stay n6_ z7_ λd xs q=>by rw[pz!];exact q
end
def IZ(x:Str):It:=⟨zd!,λi H v H'=>∃T c,v=.ref T/\H T=none/\x.cps[i]?=some c/\H'=upd H T (.tup [cm!,eN_]),zd_⟩
def a5d{KF:zA!}(qg:hx_)(hd:zf!)
  (D:∀A':Around,pk!=none->Draws P w A' it [it] x.cps.size CM_ St'):
  Su P w KF ff! (IZ x) bv! e (λi h=>i<=fb!/\CN_/\St' i h) where
 mem:=by simp
 obj:=λi h st b J=>by
  simp only[KG,MO,QR]at J;obtain⟨_,⟨old,s1⟩,s2⟩:=st;obtain rfl|rfl:=J
  .exact⟨_,s1,gK!⟩
  .exact hd i h s2
 keep:=λi h h' st k=>by
  have W:=WalksT.enumerateD (A:=callerA) (D callerA.in1 rfl) e qg qG! c!;exact⟨st.1,W.frame i h h' st.2 λb J o q=>k b fZ_ o q⟩
 item:=by
  intro X hP hw hK hc i hb s Z H E I hf st hg;subst hP hw hK;have hh:=I.ok.hd hc;have W:=WalksT.enumerateD (A:=X.A) CP! e qg qG! c!;refine W.item i s _ _ hg st.2 λT we h' tk hP hT ZU hm kp=>⟨_,rfl,W.go pz n1 tp i T _ _ _ hm λh2 bg sy=>?_⟩;obtain⟨t,y,⟨c,u,gf,rfl⟩,rfl⟩:=hP;have ZV:∀b∈bv!,Fu X hb H b:=hf;have I1:Inv X hb Z H {s with heap:=h2,toks:=tk}:=hV I ZV λc o hc eo=>sy c o hc (kp c o hc eo);have WK:T∉bv!:=W.apart i T _ hm;have eT:h2.IsTuple T #[.int i t,.str aj! u]:=by
   obtain⟨o,eo,r⟩:=ZU;exact⟨o,sy T o WK eo,r⟩
  have I2:=c5m (us:=[.int i t,.str aj! u]) (xs:=[cm!,eN_]) I I1 hT eT (.cons dL_ (.cons ⟨u,rfl⟩ .nil)) (by show 2<=sizeLine;rw[MY];decide);refine⟨.ref T,_,I2,rfl,⟨T,c,rfl,I.hok.fresh hT,gf,rfl⟩,⟨hg,bg⟩,cn_⟩;rw[aY (λz:b=T=>WK (by rw[<-z];exact J))];exact(fZ!).1
 done:=by
  show"!0";have hh:=I.ok.hd hc;have W:=WalksT.enumerateD (A:=X.A) CP! e qg qG! c!;show"#>";exact W.done s _ _ st.2 λh' tk kp=>⟨rfl,hV I hf kp⟩
 self:=λA i s Q E st h=>by
  obtain⟨_,⟨old,s1⟩,_⟩:=st;exact wpAny_pyIter_enum s1 h
section
def Sk(f:o_):Ag->Option aG_:=λρ=>(ae_).bind λd=>match d with|.str x=>some (x.cps.toList.zipIdx.map λq=>.tup CQ!)|_=>none
def b9b(hg:CQ_)(hm:CS_)(h:S!)(hs:CR_:=by rfl)(au:CT!:=by rfl):
  DI X own ff! (.Call (.Name "enumerate" p) [a] [] pos) (Sk fa):=⟨by
 rintro hb s Z H R I ⟨G,ρ,ds,er,e,k⟩;obtain⟨d,e1,e2⟩:=JZ.mp e;cases d<;>first|(cases e2;done)|skip
 rename_i x;cases e2;refine Call_ (iP I hg hm boot_enumerate (NM (dF (dC h.ok fK hs pos hb s Z H (λvs H1=>∃v G1,vs=[v]/\Ch G H G1 H1/\Aq X.K G1 bx_ v) I ⟨G,ρ,_,er,e1,λv G1 H1 x1 r1=>⟨v,G1,rfl,x1,r1⟩⟩) ?_) hs au));rintro us s1 ⟨vs,H1,I1,r1,v,G1,q1,x1,rr⟩;subst q1;cases cD rr;obtain⟨u,rfl,t,rfl⟩:=mL r1;refine call_enumerate_str λh' he am hsz hk=>?_;refine wpAny_pyIter_enum he ?_;have I2:Inv X hb Z H1 {s1 with heap:=h',toks:=s1.toks}:=I1.kept (t':=s1.toks) hk;have jo:∀b∈[x!+1,x!],x!<=b:=λb J=>by
  simp only[KG,MO,QR]at J;obtain rfl|rfl:=J<;>omega
 have fin:∀{St':ij_},St' 0 h'->(∀i h,St' i h->∃o,h.get? x!=some o/\∀v,o.data≠.cell v)->(∀A':Around,pk!=none->Draws X.prog X.w A' s1.heap.objs.size [x!] x.cps.size CM_ St')->
   FY X hb Z ff! R (.ref (x!+1)) {s1 with heap:=h'}:=λ{St'} h0 hd D=>by
  refine⟨_,_,_,IZ x,H1,rfl,I2,a5d CV! hd D,⟨LY _,⟨_,he⟩,h0⟩,λb J=>I1.fpOk qH_ CV_,k _ G1 H1 x1 ?_⟩;intro i G' H' g1 g2;refine⟨dT_,λhi=>by rw[KQ,UI,MX]at hi;exact RG hi.symm⟩;rw[LZ,List.getElem?_zipIdx]at hd;obtain⟨q,hq,rfl⟩:=KI.mp hd;obtain⟨c,hc,rfl⟩:=KI.mp hq;rw[QQ]at hc;refine ze_;obtain⟨T,c',rfl,hT,bz,rfl⟩:=hy;rw[hc]at bz;cases bz;refine⟨_,Ch.laid g2 hT,fO (g2.free hT) (Am.cons ?_ (Am.cons Aq.str Am.nil))⟩;rw[UX];exact Aq.int
 cases ha:x.cps.all (·<128)
 .have ja:h'.IsStrIter s1.heap.objs.size "str_iterator" x t 0:=by simpa[strIterType,ha]using am
  exact fin (St':=λi h=>h.IsStrIter s1.heap.objs.size "str_iterator" x t i) ja CW_ λA' hh=>Draws.strWide hh _ x t
 .have ja:h'.IsStrIter s1.heap.objs.size "str_ascii_iterator" x t 0:=by simpa[strIterType,ha]using am
  exact fin (St':=λi h=>h.IsStrIter s1.heap.objs.size "str_ascii_iterator" x t i) ja CW_ λA' hh=>Draws.strAscii hh _ x t⟩
def Rz(a:Int)(n:Nat):List D:=(oR!).map λi=>.int (a+(i:Nat))
def Sj(f g:o_):Ag->Option aG_:=λρ=>(ae_).bind λx=>(g ρ).bind λy=>match x,y with|.int i,.int j=>if -1000<=i/\i<=100000/\-1000<=j/\j<=100000 then some (Rz i (j - i).toNat)else none|_,_=>none
end
end DL
namespace HT
open PySem PySem.Spec PyProof.Rows
def b4g(A:zm!)(s:zz!)(a:Int)(t:Tok)(c:Int)(u:Tok)(prog:zy!)(w:zx!)(E:K_)(Q:K_)(h:Q (.bool (decide (c<a))) s):
  wpAny l! A (richCompare .Gt gk_ no!) Q E s:=
 (PyProof.Rows.gt_int h:wpAny l! A (compareOp .Gt gk_ no!) Q E s)
section
open PySem.SeqAt
open PySem.AutoSeq1 (wpAny_loadPart')
open PySem.MeetsSeq PySem.MeetsSeq2 PySem.MeetsSeq3
def vH(l b:u0!)(items j4:cj!)(n n2:Nat)(dd kz:dM!)(sl fq:n2_)(ns ms:v!)(hi:CX!)(hj:CX_):
  Meets (Builtin.«tuple.__gt__» ⟨[.ref l,.ref b],[]⟩)
   (λ_ R s=>s.heap.get? l=some {cls:=.type "tuple",dict:=dd,data:=.seq items n,slots:=sl}/\s.heap.get? b=some {cls:=.type "tuple",dict:=kz,data:=.seq j4 n2,slots:=fq}/\
    R (.ok (.ret qJ!)) s):=
 .of_wp λprog w A R s h=>by
  obtain⟨hp,g,d,tk,os⟩:=s;obtain⟨hl,J,h⟩:=h;have f2:=AutoSeq1.sub_tuple_tuple;have z1:c0!=cV_:=by rw[<-hi.length];simp
  have z2:j4.size=la_:=by rw[<-hj.length];simp
  wp_walk using UE hl,UE J,TW _ (λrest b s'=>b.1=none/\s'=fe!/\∃(vs ws:k_) (qh qi:v!),rest=vs.zip ws/\
   IntsAre vs qh/\IntsAre ws qi/\qh.length+j4.size=qi.length+c0!/\R (.ok (.ret (.bool (lexLt qi qh)))) fe!) _
  case turn=>
   rintro⟨y,x⟩ rest b s' ⟨f8,rfl,vs,ws,qh,qi,hz,xq,u7,ao,hR⟩;cases xq with
   |nil=>rw[List.zip_nil_left]at hz;cases hz
   |cons a t ZW=>
    cases u7 with
    |nil=>rw[List.zip_nil_right]at hz;cases hz
    |cons c u ZX=>
     rw[SF]at hz;injection hz with ZY ZZ
     injection ZY with hy hx
     subst hy hx;rw[lexLt_cons]at hR;simp only[KO]at ao;obtain⟨e,he,WL⟩:=b8n A.in1 fe! a t c u;refine JY (he prog w _ _ ?_);cases e with
     |true=>
      rw[KM (WL.mp rfl).symm]at hR
      wp_walk
      exact⟨rfl,rfl,_,_,_,_,ZZ,ZW,ZX,p!,hR⟩
     |false=>
      rw[KN (λq=>absurd (WL.mpr q.symm) LH)]at hR;have Z0:=b4g A.in1 fe! a t c u prog w
      wp_walk using Z0
      exact⟨_,rfl,by simpa using hR⟩
  case fin=>
   rintro⟨b1,b2⟩ s' ⟨f8,rfl,vs,ws,qh,qi,hz,xq,u7,ao,hR⟩;simp only at f8;subst f8;have hv:lexLt qi qh=decide (j4.size<c0!):=by
    cases xq with
    |nil=>
     cases u7 with
     |nil=>
      simp only[OH]at ao;rw[lexLt_nil_nil];exact(KP a!).symm
     |cons c u hw=>
      simp only[OH,KO]at ao;rw[uG];exact(KP a!).symm
    |cons a t hv=>
     cases u7 with
     |nil=>
      simp only[OH,KO]at ao;rw[uF];exact(LG a!).symm
     |cons c u hw=>
      rw[SF]at hz;cases hz
   rw[hv]at hR
   wp_walk
   exact⟨_,rfl,by simpa[Builtin.Tuple.tupleCompareSizes]using hR⟩
  case h=>
   exact⟨rfl,rfl,items.toList,j4.toList,ns,ms,rfl,hi,hj,p!,h⟩
end
section
def gt_tupInts(hl:IsTup s.heap l items)(J:IsTup s.heap b j4)(hi:CX!)(hj:CX_)
  (hu:ak_)(h:Q qJ! s):wpAny l! A (compareOp .Gt jc_ dE_) Q E s:=by
 obtain⟨⟨cls,dd,data,sl⟩,ho,hc,n,hd⟩:=id hl;obtain⟨⟨zx,kz,data2,fq⟩,jh,ji,n2,jj⟩:=id J;simp only at hc hd ji jj;subst hc hd ji jj;exact richCompare_meets_room (op:=.Gt) iV_ iW_ PySem.F.slot_tuple_gt PySem.F.entry_tuple_gt (PySem.F.args_tuple_gt_2 _ _) (vH l b items j4 n n2 dd kz sl fq ns ms hi hj)
  ⟨ho,jh,show Value.bool CY_≠Value.notImplemented/\Q qJ! s from⟨(λx=>nomatch x),h⟩⟩ hu
end
end HT
namespace DL
open PySem PySem.Spec PyProof.Rows L2
section
def EF(KF:zA!):R2:=λx y H Q=>∃a b ns ms,x=.ref a/\y=.ref b/\Fz KF H a bW!/\Fz KF H b (ms.map V.int)/\Q (.bl qK!) H
def c6n(hu:X.A.units<cLine):Gk X tj_ (EF X.K):=by intro hb s Z H x y v u Q I rx ry h;obtain⟨a,b,ns,ms,rfl,rfl,ha,J,q⟩:=h;cases rx;cases ry;obtain⟨its,r1,p1,_⟩:=I.tuple ha;obtain⟨gh,r2,p2,_⟩:=I.tuple J;have i1:IntsAre its.toArray.toList ns:=uT r1;have i2:IntsAre gh.toArray.toList ms:=uT r2;exact HT.gt_tupInts p1 p2 i1 i2 hu ⟨.bl qK!,H,I,rfl,q⟩
def Mp:List D->Option (List Int)
 |[]=>some []
 |.int i::r=>(Mp r).map (i::·)
 |_=>none
def jK:∀{ds:e!} {vs:q!} {ns:v!},Am KF G ds vs->Mp ds=some ns->vs=ns.map V.int
 |[],vs,ns,r,e=>by cases cM r;cases e;rfl
 |d::ds,vs,ns,r,e=>by
  obtain⟨v,t,rfl,r1,r2⟩:=bM r;cases d<;>simp only[Mp]at e<;>first|(cases e;done)|skip
  obtain⟨l,e1,rfl⟩:=KI.mp e;rw[jK r2 e1];cases aZ r1;rfl
def CY:D->D->Option D
 |.tup xs,.tup ys=>(Mp xs).bind λns=>(Mp ys).map λms=>.bl qK!
 |_,_=>none
def c6v:Hs KF (EF KF) CY:=by
 show"!1";unfold CY at e;show"!8"
 .obtain⟨ns,e1,e⟩:=JZ.mp e;obtain⟨ms,e2,rfl⟩:=KI.mp e;show"!Q";obtain⟨b,ws,rfl,qb,rb⟩:=bR ry;rw[jK ra e1]at qa;rw[jK rb e2]at qb;exact⟨a,b,ns,ms,rfl,rfl,jK_,oC_,dT!⟩
 .cases e
def BU(neg:Bool):R2:=λx y H Q=>∃b c,x=.bl b/\y=.bl c/\Q C1! H
def c6k:Gk X tk_ (BU false):=by
 intro hb s Z H x y v u Q I rx ry h;obtain⟨b,c,rfl,rfl,q⟩:=h;cases rx;cases ry;refine wpAny_is_plain rfl ?_;have e:C1_=(b==c):=by cases b<;>cases c<;>rfl
 rw[e];exact ka!
def b1p:Gk X tm! (BU true):=by
 intro hb s Z H x y v u Q I rx ry h;obtain⟨b,c,rfl,rfl,q⟩:=h;cases rx;cases ry;refine wpAny_isNot_plain rfl ?_;have e:C1_=(b==c):=by cases b<;>cases c<;>rfl
 rw[e];exact ka!
def CW(neg:Bool):D->D->Option D
 |.bl b,.bl c=>some C1!
 |_,_=>none
def b6a:Hs KF (BU neg) (CW neg):=by
 show"!1";unfold CW at e;show"!8"
 .cases e;cases cW rx;cases cW ry;exact pC!
 .cases e
def b2y(hg:ip_)(hm:ip!)(ha:S!)(J:cB!)(hs:s0!:=by rfl)(bj:s0_:=by rfl)
  (db:starEach (a::[b]) X.env=dv_::starEach [b] X.env:=by rfl)(jn:starEach (b::[]) X.env=iq!::starEach [] X.env:=by rfl):DI X own tg s1! (Sj fa fb):=
 a4e (b1j hg hm (dC ha.ok (dC J.ok fK jn) db) hs bj) λZ G H R ρ ds er e k=>by
  obtain⟨x,e1,e3⟩:=JZ.mp e;obtain⟨y,e2,e4⟩:=JZ.mp e3;clear e e3;split at e4
  .rename_i i j;split at e4
   .rename_i h;cases e4;refine Ae_;cases aZ r1;cases aZ r2;refine⟨i,j,rfl,p!,k _ G2 H2 c7_ ?_⟩;intro n G' H' g1 g2;unfold Rz;refine yj_;rw[LZ]at hd;obtain⟨m,hj,rfl⟩:=KI.mp hd;obtain⟨hl,he⟩:=KS.mp hj;rw[SG]at he;subst he;rw[OV]at hl;refine yk!;obtain⟨z1,z2⟩:=hy;subst z1 z2;exact⟨G',Ch.refl g2,Aq.int⟩
   .cases e4
  .cases e4
def Zp:V->List V->Hp->VK->Prop:=λx vs H Q=>∃l xs k y,x=.ref l/\vs=[C2_,y]/\H l=some M!/\k<=i!/\i!<sizeLine/\Q .non (upd H l (.lst (xs.take k++y::xs.drop k)))
def b2f:HN X "list.insert" Zp:=by
 intro hb s Z H x vs v us Q I rx rv h;obtain⟨l,xs,k,y,rfl,rfl,hH,hk,hz,q⟩:=h;cases rx;obtain⟨u,u2,rfl,⟨t,rfl⟩,ru⟩:=wC rv;obtain⟨z,its,n,r,hl,e⟩:=I.lstM hH;have wb:¬(!Builtin.List.listFitsIndex (k:Int))=true:=by
  rw[fitsIndex_both (Int.le_trans b! (Int.natCast_nonneg k)) (Int.lt_of_le_of_lt (Int.ofNat_le.mpr (LV hk (QN hz))) xP_)];exact LH
 have hsz:bE!<=sizeLine:=by rw[KH];omega
 refine UL (S:=?S) PySem.F.slot_list_insert dK! PySem.F.entry_list_insert (PySem.F.args_list_insert_3 _ _ _) ?g ?h
 case g=>exact @PySem.AutoSeq1.list_insert_list_int_val_1 l its.toArray n (k:Int) t u2 wb hsz
 refine je_;refine⟨.non,_,I.lset (its':=its.take k++u2::its.drop k) hH e ?_ ((r.take k).append (.cons ru (r.drop k))) ?_,rfl,q⟩
 .have Y:¬cf_<0:=by omega
  have h2:min (cf_).toNat bE!=k:=by simp;omega
  simp only[Y,MJ,h2];simp[List.extract_eq_drop_take];rw[C5!]
 .simp only[LK,KO,QG,UY];omega
def Xx(i:Nat)(fk f:o_):Ag->Option Fl:=λρ=>(fk ρ).bind λx=>(ae_).bind λd=>match x,ρ[i]? with
 |.int j,some (some (.lst ds))=>if 0<=j/\j.toNat<=g!/\g!<big then some (.nx (ρ.set i (some (.lst (ds.take j.toNat++d::ds.drop j.toNat)))))else none
 |_,_=>none
def b2x(bp:dQ!:=by decide)(hk:DE X own ek fk)(h:c7!)(hN:Y_:=by rfl)(hv:cl!:=by first|exact Or.inl rfl|exact Or.inr b_|exact Or.inr aV_)
  (hd:y!:=by decide)(bq:cl_:=by decide)
  (hst:starEach (ek::[e]) X.env=(false,eval ek X.env)::starEach [e] X.env:=by rfl)(Z1:gW!:=by rfl)(gj:((backTo ah (starEach [ek,e] X.env)).all cs_&&(ct!).all ct_
   &&decide ([ek,e].length+(dJ!).length+eP!<30))=true:=by rfl) (gn:dJ_:=by rfl)
  (gi:attributeBase bf_ "insert" X.env jZ_=eval bf_ X.env:=by rfl) (gq:(jh_).any c_=false:=by rfl) (ez:swapsWith C6! none pos.line X.env=pure false:=by rfl):
  DS X own own (.Expr C6! pos) (Xx i fk f):=⟨by
  rintro G0 F0 hb s Z H E I ⟨G,ρ,r,er,e',k⟩;refine nW (wN RJ PySem.F.slot_list_insert PySem.F.type_list_insert b2f jD_ (dC hk.ok (dC h.ok fK Z1) hst) gi gj gn hst gq) ez hb s Z H E I ?_;obtain⟨z,e1,e4⟩:=JZ.mp e';obtain⟨d,e3,e2⟩:=JZ.mp e4;clear e' e4;obtain⟨p,ds,vs,Y,h2,h3,h4,h5⟩:=er.or.own_ i bp;rw[Y]at e2;cases z<;>first|(cases e2;done)|skip
  rename_i j;simp only at e2;split at e2
  .rename_i hj;cases e2;refine⟨e7!,h2,o3_,G,ρ,_,er.or,e1,λv G' H' x r=>⟨G',ρ,d,yL!,e3,λv2 G2 H2 x2 r2=>?_⟩⟩;cases aZ r;have hl:=aJ h5;refine⟨p,vs,j.toNat,v2,rfl,?_,yM!,p!,by rw[<-hl];exact LJ hj.2.2 (cV r!),?_⟩
   .rw[Int.toNat_of_nonneg hj.1]
   .have h6:=(o4_).mono x2.g;exact k G2 Z _ ((yM_).upd bp h2 (dA (pR _ h6) (Am.cons r2 (pS _ h6))))
  .cases e2⟩
end
end DL
namespace DL
open PySem PySem.Spec PyProof.Rows L2
section
variable{p p2 pos:Pos}
def Zc(i:Nat)(f:WE):WS:=λρ M R=>f ρ M λd M1=>Ed (Nt M1 d) λq=>match ρ[i]? with
 |some (some (.lst ds))=>g!+p9_<=big/\R (.nx (ρ.set i (some (.lst (ds++q.2))))) M1
 |_=>False
def b2h(bp:dQ!:=by decide)(h:bu!)(hN:Y_:=by rfl)(hv:cl!:=by first|exact Or.inl rfl|exact Or.inr b_|exact Or.inr aV_)
  (hd:y!:=by decide)(bq:cl_:=by decide)
  (hst:gW!:=by rfl)(gj:((jh_).all cs_&&(ct!).all ct_
   &&decide yG_)=true:=by rfl) (gn:dJ_:=by rfl)
  (gi:attributeBase bf_ "extend" X.env jZ_=eval bf_ X.env:=by rfl) (gq:gW_:=by rfl) (ez:swapsWith C8! none pos.line X.env=pure false:=by rfl):
  MS X own own (.Expr C8! pos) (Zc i f):=
 oJ (nW (wN RJ PySem.F.slot_list_extend PySem.F.type_list_extend b2g jD_ yH_ gi gj gn hst gq) ez) λM0 G0 F0 E Z G H ρ M R sr e' k1 k2=>by
  obtain⟨p,ds,vs,Y,h2,h3,h4,h5⟩:=sr.st.or.own_ i bp;refine⟨e7!,h2,o3_,G,ρ,M,_,sr.st,e',Cc_⟩;obtain⟨⟨c,zs⟩,e1,r⟩:=cX r;obtain⟨z1,z2,z3,us,h6,h7⟩:=vD m q e1;cases z2;rw[Y]at r;have de:=sr.grow x m;obtain⟨p',pv,f7,g1,g2,g3,g4,g5⟩:=de.st.or.own_ i bp;rw[h2]at g2;cases g2;rw[Y]at g1;cases g1;refine⟨p,c,f7,us,rfl,rfl,g3,h6,?_,k1 _ M' G' Z _ r.2 (de.after (de.sr.upd bp h2 (dA g5 h7)))⟩;have:=r.1;rw[<-aJ g5,<-aJ h7];exact cV this
def Pq(s0:Str)(fa:WE):WE:=λρ M R=>fa ρ M λy M2=>Ed (Mo (.str s0) y) λd=>R d M2
def a9k(ha:an!)
  (gi:attributeBase lc_ "join" X.env (eval lc_ X.env)=eval lc_ X.env:=by rfl)
  (gj:((pm!).all cs_&&(ct!).all ct_
   &&decide pm_)=true:=by rfl)
  (gn:dJ_:=by rfl) (hs:jS_:=by rfl) (gq:gW_:=by rfl):
  ME X own (.Call (.Attribute lc_ "join" a8) [a] [] ah) (Pq s0 fa):=
 eK (wN PySem.F.plainAttrs_str PySem.F.slot_str_join PySem.F.type_str_join a9i yP zi_ gi gj gn hs gq) λZ G H Q ρ M R st e k=>⟨rfl,G,ρ,M,_,st,e,λy M2 w G2 H2 r2 x2 m2 q2=>by
  obtain⟨d,e3,r3⟩:=cX r2;cases y<;>first|(cases e3;done)|skip
  rename_i xs;obtain⟨ys,e4,e5⟩:=JZ.mp (show((Pr xs).bind λys=>if(kd!).sum+N_*s0.length<=big then some (.str (Txt.join s0 ys))else none)=some d from e3);split at e5
  .rename_i hl;cases e5;obtain⟨p,vs,rfl,q,rr⟩:=bP q2;have:=sZ rr e4;subst this;exact⟨_,p,ys,rfl,rfl,x2.sub.seq q,LV hl b!,k _ M2 _ G2 H2 r3 x2 m2 Aq.str⟩
  .cases e5⟩
def Vs(fs:WA)(fb:WE):WE:=λρ M R=>fs ρ M λds M1=>g!<=1000/\fb ρ M1 λy M2=>match y with
 |.int k=>C9_/\∀p,M2 p=none->R x_ (mup M2 p Da!)
 |_=>False
def a3z{p:u0!}{o:HO}(s:E!)(hp:cy!):Ch G H G eY_:=⟨eZ_,iG hp,s.trans (iG hp),db_⟩
def tF{KF:zA!}(r:jX!):∀k:Nat,Am KF G (List.replicate k ds).flatten (List.replicate k vs).flatten
 |0=>Am.nil
 |k+1=>by
  rw[OZ,OZ,QT,QT];exact dA r (tF r k)
def c2d(ha:fo!)(J:cc_):ME X own Db! (Vs fs fb):=
 eK Dc! λZ G H Q ρ M R st e k=>⟨G,ρ,M,_,st,e,λds M1 vs G1 H1 r1 x1 m1 q1=>⟨by rw[<-aJ q1];exact eU r1.1,λp hp=>by
  have xj:Ch G1 H1 G1 Dc_:=a3z x1.sub hp;have hM:M1 p=none:=m1.nocell hp;refine Dd!;cases y<;>first|exact r2.elim|skip
  rename_i n;cases aZ q2;obtain⟨⟨hn,g7,hl⟩,r2⟩:=r2;have xr:H2 p=some cy_:=x2.keep p _ bY hM;refine Dd_;have xt:=(De!).trans x2 qN!;exact k _ _ _ G2 _ (r2 c (m2.nocell hc)) (xt.trans (.laid x2.sub hc) m2) (m2.laid hc x2.sub ⟨_,bY,tF bN_ _⟩) Aq.fn⟩⟩
end
nonrec def rk(r:qO_)(xs:ld_)(i:Nat):Int:=(xs[i]?.map r).getD 0
def b4d(hs:c<xs.size)(hd:d<=c)(k:Nat):rk r (bubble xs c d) k=if k=c - d then rk r xs c else if c - d<k/\k<=c then rk r xs (k - 1)else rk r xs k:=by
 unfold rk;rw[getElem?_bubble hs d hd k];split
 .rfl
 .split<;>rfl
def a5k(hj:j<=xs.size)(k:Nat):rk r Dg! k=if i<=k/\k<j then rk r xs (i+j - 1 - k)else rk r xs k:=by unfold rk;rw[getElem?_mirror_all hj k];split<;>rfl
def nS(hj:j<=xs.size)(he:∀k,i<=k->k<j->rk r xs k=rk r xs ee!)(k:Nat):rk r Dg! k=rk r xs k:=by
 rw[a5k hj];by_cases h:i<=k/\k<j
 .rw[KM h,he _ a! a!,he k h.1 h.2]
 .rw[KN h]
def Up(r:qO_)(xs:ld_)(n:Nat):Prop:=∀i j,i<=j->j<n->rk r xs i<=rk r xs j
def Dn(r:qO_)(xs:ld_)(n:Nat):Prop:=∀i j,i<=j->j<n->rk r xs j<=rk r xs i
structure SB(kd:SortKind)(a0:ld_)(st:SortSt):Prop where
 pm:(z!).Perm a0
 kn:kindOf st=kd
 fl:failedOf st=none
 pd:pendingOf st=#[]
def SB.sz{st:SortSt}(h:cg!):(z!).size=a0.size:=h.pm.size_eq
def SB.put{st:SortSt}(h:cg!)(hp:xs.Perm z!):SB kd a0 (setArr st xs):=⟨hp.trans h.pm,h.kn,h.fl,h.pd⟩
section
variable{prog:zy!}{w:zx!}{A:zm!}{s:zz!}{a0:Array Keyed}{kd:SortKind}{r:Keyed->Int}
variable (prog w A s a0 kd r)in
def Uk:Prop:=∀(x y:Keyed) (F:K_) (Q:Bool->Shared->Prop),x∈hC!->y∈hC!->Q (decide (r x<r y)) s->wpAny l! A (keyLt' kd x.1 y.1) Q F s
def b4c{st:SortSt}(hl:dl!)(b:cg!)(hi:i<a0.size)(hj:j<a0.size)(h:Q (some (decide (rk r z! i<rk r z! j))) st):wpS l! A E s (ltAt' i j) Q st:=by
 have at_:∀k,k<a0.size->∃p,z![k]?=some p/\p∈hC!/\rk r z! k=r p:=λk hk=>by
  have cz:k<(z!).size:=by rw[b.sz];exact hk
  refine⟨z![k],Dj!,(Array.perm_iff_toList_perm.mp b.pm).mem_iff.mp c!,?_⟩;unfold rk;rw[Dj!];rfl
 obtain⟨x,ex,mx,rx⟩:=at_ i hi;obtain⟨y,ey,my,ry⟩:=at_ j hj;rw[rx,ry]at h;rw[ltAt'_eq];refine NP fz_;show wpS l! A E s (elem' z! i>>=λx=>elem' z! j>>=λy=>lt' x y) Q st;rw[elem'_eq,elem'_eq,ex,ey];refine NP (PK (NP (PK ?_)));rw[lt'_eq];refine NP fz_;rw[b.kn];exact NP (wpS_lift (RE (hl x y _ _ mx my ⟨rfl,PK h⟩)))
def c4f{st:SortSt}(hl:dl!)(hn:fA!)(ha:1<=a)(xu:a<=n)(b:cg!)(hu:Up r z! a)
  (h:∀m,a<=m->m<=n->Up r z! m->(m=n\/rk r z! m<rk r z! hC_)->Q (none,m) st):wpS l! A E s (ascLoop a n) Q st:=by
 unfold ascLoop;refine UA (I:=λx c σ=>σ=st/\c=(none,x)/\Up r z! x) ?_ ?_ ⟨rfl,rfl,hu⟩
 .rintro x c σ Y h2 ⟨rfl,rfl,u⟩;refine NP (b4c hl b (LJ h2 hn) a! ?_);by_cases q:rk r w! x<rk r w! hD!
  .rw[LG q];exact PK (h x Y (QN h2) u (.inr q))
  .rw[KP q];refine PK ⟨rfl,rfl,Dl!⟩;obtain h5|h5:=OU j x
   .exact u i j h3 h5
   .have:j=x:=by omega
    subst this;obtain h6|h6:=OU i j
    .have:=u i ee! a! a!;omega
    .have:i=j:=by omega
     rw[this];exact PH _
 .rintro c σ ⟨rfl,rfl,u⟩;rw[show max a n=n by omega]at u ⊢;exact h n xu r! u an_
def b3z{st:SortSt}(hl:dl!)(hn:fA!)(Y:fA_)(hm:m<=n)(b:cg!)(hd:Dn r z! m)
  (h:qR!):wpS l! A E s (tail3 m n) Q st:=by
 unfold tail3;have b':SB kd a0 (setArr st (mirror z! 0 m ((m - 0) / 2))):=b.put lg_;have hz:m<=(z!).size:=by rw[b.sz];omega
 refine NP (wpS_reverse (NP (c4f hl hn Y hm b' (λi j h3 h4=>?_) λk h3 h4 u _=>PK (h k _ b' a! h4 u))));rw[a5k hz,a5k hz,aI!,aI!];exact hd _ _ a! a!
def c5r{st:SortSt}(hl:dl!)(hn:fA!)(Y:fA_)(hm:m<=n)(b:cg!)(hd:Dn r z! m)
  (h:∀k q σ,SB kd a0 σ->m<=k->k<=n->Dn r w! k->q+1<=k->(∀i,k - (q+1)<=i->i<k->rk r w! i=rk r w! (k - 1))->Q (none,k,q) σ):wpS l! A E s (descLoop m n) Q st:=by
 unfold descLoop;refine UA (I:=λx c σ=>∃q,c=(none,x,q)/\SB kd a0 σ/\Dn r w! x/\q+1<=x/\∀i,x - (q+1)<=i->i<x->rk r w! i=rk r w! hD!) ?_ ?_ ⟨0,rfl,b,hd,p!,λi h2 h3=>by rw[show i=m - 1 by omega]⟩
 .rintro x c σ h2 h3 ⟨q,rfl,b',d,hq,he⟩;have hz:x<=(w!).size:=by rw[b'.sz];omega
  refine NP (b4c hl b' (LJ h3 hn) Dm! ?_);by_cases p:rk r w! x<rk r w! hD!
  .rw[LG p];have oy:∀xs:Array Keyed,(∀k,rk r xs k=rk r w! k)->Dn r xs (x+1):=λxs hk i j h4 h5=>by
    rw[hk,hk];obtain h6|h6:=OU j x
    .exact d i j h4 h6
    .have:j=x:=by omega
     subst this;obtain h7|h7:=OU i j
     .have:=d i ee! a! a!;omega
     .show"#2"
   by_cases s9:q>0
   .simp only[MU,s9];exact NP (wpS_reverse (PK ⟨0,rfl,b'.put lg_,oy _ (nS hz he),p!,Dm_⟩))
   .simp only[MU,s9,MJ];exact PK ⟨0,rfl,b',oy _ λ_=>rfl,p!,Dm_⟩
  .rw[KP p];show"!}";refine NP (b4c hl b' Dm! (LJ h3 hn) ?_);by_cases p2:rk r w! hD!<rk r w! x
   .rw[LG p2];exact PK (h x q σ b' h2 (QN h3) d hq he)
   .rw[KP p2];have ex:rk r w! x=rk r w! hD!:=by omega
    refine PK ⟨q+1,rfl,b',λi j h4 h5=>?_,p!,λi h4 h5=>?_⟩
    .obtain h6|h6:=OU j x
     .exact d i j h4 h6
     .have:j=x:=by omega
      subst this;obtain h7|h7:=OU i j
      .rw[ex];exact d i ee! a! a!
      .show"#2"
    .rw[show x+1 - 1=x by omega];obtain h6|h6:=OU i x
     .rw[ex];exact he i a! h6
     .rw[show i=x by omega]
 .rintro c σ ⟨q,rfl,b',d,hq,he⟩;rw[show max m n=n by omega]at d hq he ⊢;exact h n q σ b' hm r! d hq he
def b4b{st:SortSt}(hl:dl!)(hn:fA!)(hm:m+1<=n)(b:cg!)(hd:Dn r z! (m+1))
  (h:qR!):wpS l! A E s (descPart m n) Q st:=by
 unfold descPart;refine NP (wpS_lift (OE ⟨rfl,NP (c5r hl hn a! hm b hd λk q σ b' Y h2 d hq he=>?_)⟩));by_cases s9:q>0
 .simp only[MU,s9];refine NP (wpS_reverse (b3z hl hn a! h2 (b'.put lg_) (λi j h4 h5=>?_) h));have hz:k<=(w!).size:=by rw[b'.sz];omega
  rw[nS hz he,nS hz he];exact d i j h4 h5
 .simp only[s9,MJ];exact b3z hl hn a! h2 b' d h
def c0q{st:SortSt}(hl:dl!)(hn:fA!)(Y:1<=n)(b:cg!)(h:qR!):
  wpS l! A E s (countRun' 0 n) Q st:=by
 rw[countRun0_eq];refine NP (c4f hl hn (KU 1) Y b (λi j h3 h4=>by rw[fB_];exact PH _) λm h3 h4 u Z2=>?_);by_cases e:m=n
 .simp only[QS,e,MU];rw[<-e];exact PK Do_
 .have al:rk r z! m<rk r z! hC_:=Z2.resolve_left e;simp only[QS,e,MJ];by_cases hg:m>1
  .simp only[hg,MU];refine NP (b4c hl b a! a! ?_);by_cases p:rk r z! 0<rk r z! hC_
   .rw[LG p];exact PK Do_
   .rw[KP p];have td:∀k,0<=k->k<m->rk r z! k=rk r z! hC_:=λk _ hk=>by
     have a1:=u 0 k a! hk;have a2:=u k hC_ a! a!;omega
    have hz:m<=(z!).size:=by rw[b.sz];omega
    refine NP (wpS_reverse (b4b hl hn a! (b.put lg_) Dp! h));rw[nS hz td,nS hz td];obtain h7|h7:=OU j m
    .rw[td i a! a!,td j a! h7];exact PH _
    .have:j=m:=by omega
     subst this;obtain h8|h8:=OU i j
     .rw[td i a! h8];omega
     .show"#2"
  .simp only[hg,MJ];have:m=1:=by omega
   subst this;refine b4b hl hn a! b Dp! h;obtain h8|h8:=OU i j
   .rw[show i=0 by omega,show j=1 by omega];exact Int.le_of_lt al
   .show"#2"
def c6y{lo hi k x n:Nat}(h:¬lo>=hi)(g2:hi<=k)(g3:hi - lo<=k - x)(hk:k<n):lo<=cM! / 2/\cM! / 2<hi/\cM! / 2<k/\cM! / 2<n/\cM! / 2 - lo<=k - (x+1)/\hi - (cM! / 2+1)<=k - (x+1):=by omega
def c9t{st:SortSt}(hl:dl!)(hn:fA!)(hk:k0<=n)(b:cg!)(hu:Up r z! k0)(h:∀σ,SB kd a0 σ->Up r w! n->Q true σ):
  wpS l! A E s (binarySort' 0 n k0) Q st:=by
 rw[binarySort'_eq];simp only[UX];refine NP (wpS_mono (UA (I:=λk c σ=>c=fj_/\SB kd a0 σ/\Up r w! (min k n)) (Q:=λc σ=>c=fj_/\SB kd a0 σ/\Up r w! n) ?_ ?_ ⟨rfl,b,Dl!⟩) ?_)
 .rintro k c σ h2 h3 ⟨rfl,b',u⟩;rw[show min k n=k by omega]at u;have j5:k<a0.size:=by omega
  refine NP (wpS_mono (UA (I:=λx c bg=>bg=σ/\∃lo hi,c=Dr!/\lo<=hi/\hi<=k/\hi - lo<=k - x/\Dq_/\∀i,hi<=i->i<k->rk r w! k<rk r w! i)
   (Q:=λc bg=>bg=σ/\∃lo hi,c=Dr!/\lo<=k/\Dq_/\∀i,lo<=i->i<k->rk r w! k<rk r w! i) ?_ ?_ ⟨rfl,0,k,rfl,p!,p!,p!,λi hi=>by omega,λi h4 h5=>by omega⟩) ?_)
  .rintro x c bg h4 h5 ⟨rfl,lo,hi,rfl,g1,g2,g3,g4,g5⟩;dsimp only;by_cases xv:lo>=hi
   .rw[KM xv];have:lo=hi:=by omega
    subst this;exact PK Dr_
   .rw[KN xv];obtain⟨m1,m2,m3,m4,m5,m6⟩:=c6y xv g2 g3 j5;refine NP (b4c hl b' j5 m4 ?_);by_cases p:rk r ef_ k<rk r ef_ qT_
    .rw[LG p];exact PK ⟨rfl,lo,cM! / 2,rfl,m1,QN m3,m5,g4,λi h6 h7=>Int.lt_of_lt_of_le p (u qT_ i h6 h7)⟩
    .rw[KP p];exact PK ⟨rfl,cM! / 2+1,hi,rfl,m2,g2,m6,λi h6=>Int.le_trans (u i qT_ (Nat.le_of_lt_succ h6) m3) (Int.not_lt.mp p),g5⟩
  .rintro c bg ⟨rfl,lo,hi,rfl,g1,g2,g3,g4,g5⟩;have:lo=hi:=by omega
   subst this;exact Dr_
  .rintro c bg ⟨rfl,lo,hi,rfl,g1,g4,g5⟩;rw[moveDown'_eq];refine NP (wpS_modify (PK ⟨rfl,b'.put (bubble_perm _ _ _),λi j h6 h7=>?_⟩));rw[show min M_ n=k+1 by omega]at h7;have nq:k<(ef_).size:=by rw[b'.sz];exact j5
   rw[b4d nq a!,b4d nq a!,show k - (k - lo)=lo by omega];have n1:∀m,m<lo->rk r ef_ m<=rk r ef_ k:=g4;have n2:∀m,lo<=m->m<k->rk r ef_ k<rk r ef_ m:=g5;by_cases ei:i=lo
   .rw[KM ei];by_cases ej:j=lo
    .rw[KM ej];exact PH _
    .rw[KN ej];by_cases fj:lo<j/\j<=k
     .rw[KM fj];exact Int.le_of_lt (n2 ee! a! a!)
     .omega
   .rw[KN ei];by_cases fi:lo<i/\i<=k
    .rw[KM fi,KN a!,aI!];exact u (i - 1) ee! a! a!
    .rw[KN fi];by_cases ej:j=lo
     .rw[KM ej];exact n1 i a!
     .rw[KN ej];by_cases fj:lo<j/\j<=k
      .rw[KM fj];exact u i ee! a! a!
      .rw[KN fj];exact u i j h6 a!
 .rintro c σ ⟨e,b',u⟩;rw[show min (max (max k0 1) n) n=n by omega]at u;exact⟨e,b',u⟩
 .by_cases h0:k0=0
  .show"#2"
  .exact hu i j h3 a!
 .rintro c σ ⟨rfl,b',u⟩;exact PK (h σ b' u)
def b4a{st:SortSt}(hl:dl!)(b:cg!)(h2:2<=a0.size)(nv:a0.size<64)
  (h:∀σ,(w!).Perm a0->failedOf σ=none->Up r w! a0.size->Q () σ):wpS l! A E s sortRuns' Q st:=by
 rw[sortRuns'_eq];refine NP fz_;have Z3:minRun' a0.size a0.size 0=a0.size:=by
  have:∀f,minRun' (f+1) a0.size 0=a0.size:=λf=>by rw[minRun'_succ,KM nv];rfl
  have q:=this (a0.size - 1);rwa[show a0.size - 1+1=a0.size by omega]at q
 dsimp only;simp only[b.sz,Z3];have fin:∀{σ:SortSt},SB kd a0 σ->Up r w! a0.size->(arrOf lj!).Perm a0/\failedOf lj!=none/\pendingOf lj!=#[li_]/\Up r (arrOf lj!) a0.size:=
  λ{σ} b' u=>⟨b'.pm,b'.fl,by show(Dv_).push _=_;rw[b'.pd];rfl,u⟩
 refine NP (wpS_mono (UA (I:=λx c σ=>(x=0/\c=(none,0)/\SB kd a0 σ)\/(1<=x/\c=Dx_/\(w!).Perm a0/\failedOf σ=none/\pendingOf σ=#[li_]/\Up r w! a0.size))
  (Q:=λc σ=>c=Dx_/\(w!).Perm a0/\failedOf σ=none/\pendingOf σ=#[li_]/\Up r w! a0.size) ?_ ?_ (.inl ⟨rfl,rfl,b⟩)) ?_)
 .rintro x c σ _ hx (⟨rfl,rfl,b'⟩|⟨_,rfl,d⟩)
  .dsimp only;rw[KN a!];simp only[Nat.sub_zero,Nat.min_self,UX];refine NP (c0q hl r! a! b' λm bg b2 g1 g2 u2=>?_);by_cases al:m<a0.size
   .simp only[al,MU];refine NP (wpS_lift (OE ⟨rfl,NP (c9t hl r! g2 b2 u2 λuo b3 u3=>?_)⟩));simp only[OP,LM,MJ];refine NP fz_;rw[show(pendingOf uo).back?=none by rw[b3.pd];rfl];exact NP (wpS_modify (PK (.inr ⟨KU 1,rfl,fin b3 u3⟩)))
   .simp only[al,MJ];have:m=a0.size:=by omega
    subst this;refine NP fz_;rw[show(pendingOf bg).back?=none by rw[b2.pd];rfl];exact NP (wpS_modify (PK (.inr ⟨KU 1,rfl,fin b2 u2⟩)))
  .dsimp only;rw[KM r!];exact PK ⟨rfl,d⟩
 .rintro c σ (⟨hx,_⟩|⟨_,e,d⟩)
  .omega
  .exact⟨e,d⟩
 .rintro c σ ⟨rfl,d1,d2,d3,d4⟩;refine NP (wpS_mono (UA (I:=λ_ c bg=>bg=σ/\c=fj_) (Q:=λc bg=>bg=σ/\c=fj_) ?_ Dz_ aJ_) ?_)
  .rintro x c bg _ _ ⟨rfl,rfl⟩;refine NP fz_;rw[KM (by rw[d3];exact KU 1)];exact PK aJ_
  .rintro c bg ⟨rfl,rfl⟩;exact PK (h _ d1 d2 d4)
end
abbrev Zd:Bool->SortKind:=sortPriv%PySem.Builtin.KeyKind.tuples
section
def Hj(h:Heap)(v:zp!)(a b:Int):Prop:=∃(p:u0!) (o:Obj) (n:Nat) (t u:Tok),v=.ref p/\h.get? p=some o/\o.cls=.type "tuple"/\o.data=.seq #[.int a t,.int b u] n
def EN(a b c d:Int):Bool:=if a=c then decide (b<d)else decide (a<c)
def wP(h:Q (decide (a<b)) s):wpAny l! A (oneLt' f gk_ (.int b u)) Q E s:=by
 cases f with
 |true=>exact oneLt_int h
 |false=>
  rw[oneLt'_eq];rw[KN LH];refine JY (show wpAny l! A (compareOp .Lt gk_ (.int b u)) _ E s from PyProof.Rows.lt_int ?_);exact MM h
def uO(hx:Hj s.heap x a b)(hy:Hj s.heap y c d)(h:Q (EN a b c d) s):wpAny l! A (keyLt' (Zd f) x y) Q E s:=by
 obtain⟨p,o,n,t,u,rfl,Y,_,h2⟩:=hx;obtain⟨p',o',n',t',u',rfl,iw,_,lp⟩:=hy;refine JY (UB Y h2 (JY (UB iw lp iB_)));show wpAny l! A (forIn [((Value.int a t,Value.int c t'),0),((Value.int b u,Value.int d u'),1)] _ _) _ E s;rw[PD];refine JY (JY (TB a t c t' _ _ _ _ ?_));unfold EN at h;by_cases e:a=c
 .rw[KM e]at h;have e1:(a==c)=true:=by simpa using e
  rw[e1];simp only[OP,LM,MJ];refine KB ?_;dsimp only;rw[PD];refine JY (JY (TB b u d u' _ _ _ _ ?_));by_cases e2:b=d
  .have e3:(b==d)=true:=by simpa using e2
   rw[e3];simp only[OP,LM,MJ];refine KB ?_;dsimp only;rw[RP];refine KB P_;have e4:decide (b<d)=false:=by rw[e2];simp
   rw[e4]at h;simpa using h
  .have e3:(b==d)=false:=by simpa using e2
   rw[e3];simp only[SL,MU];exact JY DB_
 .rw[KN e]at h;have e1:(a==c)=false:=by simpa using e
  rw[e1];simp only[SL,MU];exact JY DB_
def a7t:∀(xs:ai_),DC_->(∀ys,Paired F xs ys->Q ys.toArray s)->wpAny l! A (xs.toArray.mapM f) Q E s:=by
 intro xs hf hq;rw[Array.mapM_eq_mapM_toList];have j0:∀(xs:ai_) (R:List β->Shared->Prop),DC_->(∀ys,Paired F xs ys->R ys s)->wpAny l! A (xs.mapM f) R E s:=by
  intro xs
  induction xs with
  |nil=>
   intro R _ h;rw[List.mapM_nil];exact KB (h [] .nil)
  |cons x xs ih=>
   intro R Y h2;rw[List.mapM_cons];refine JY (Y x KD _ λy hy=>JY (ih _ (λz hz=>Y z lk_) λys qj=>KB (h2 _ (.cons hy qj))))
 have:(List.toArray<$>xs.toArray.toList.mapM f:Sem (Array β))=(xs.toArray.toList.mapM f>>=λl=>pure l.toArray):=by rw[map_eq_pure_bind]
 rw[this];exact JY (j0 _ _ (by simpa using hf) λys qj=>KB (hq ys (by simpa using qj)))
def a3g(h:∀v∈vs,∃a b,Hj s.heap v a b)(h0:vs≠[])(hq:Q (Zd true) s):wpAny l! A (keyKind' cr!) Q E s:=by
 refine JY (a7t (F:=λ_ y=>∃a t,y=some lm!) vs DD_ λys qj=>?_)
 .obtain⟨a,b,p,o,n,t,u,rfl,Y,h2,h3⟩:=h v hv;refine JY (UD (T:="tuple") oJ_ ?_);rw[KN b!];exact JY (UB Y h3 (KB (hR _ ⟨a,t,rfl⟩)))
 .have gr:∀y∈ys,∃a t,y=some lm!:=by
   have j0:∀{l:k_} {m:List AJ_},Paired (λ_ y=>∃a t,y=some lm!) l m->∀y∈m,∃a t,y=some lm!:=by
    intro l m hp
    induction hp with
    |nil=>intro y hy;cases hy
    |cons q _ ih=>
     intro y hy;obtain rfl|hy:=KG.mp hy
     .exact q
     .exact ih y hy
   exact j0 qj
  have hne:ys≠[]:=λz=>by subst z;cases qj;exact h0 rfl
  rw[KM (by rw[List.all_toArray,ON];intro y hy;obtain⟨a,t,rfl⟩:=gr y hy;rfl)];refine JY fd_;have hints:∀v∈(DE!).toList,∃a t,v=Value.int a t:=λv hv=>by
   simp only[List.filterMap_toArray,QJ,id]at hv;obtain⟨y,hy,e⟩:=hv;obtain⟨a,t,e2⟩:=gr y hy;rw[e2]at e;exact⟨a,t,(MN e).symm⟩
  have hz:(DE!).toList≠[]:=λz=>by
   cases ys with
   |nil=>exact hne rfl
   |cons y r=>
    obtain⟨a,t,rfl⟩:=gr y KD;simp at z
  generalize hZ:ys.toArray.filterMap id=Z4 at hints hz ⊢;obtain⟨zs⟩:=Z4;refine JY ?_;refine JY (a7t (F:=λ_ y=>y=Value.type "int") zs DD_ λts WM=>?_)
  .obtain⟨a,t,rfl⟩:=hints v iW!;exact UD (typeIs_int s a t) (hR _ rfl)
  .have WN:∀t∈ts,t=Value.type "int":=by
    have j0:∀{l m:k_},Paired (λ_ y=>y=Value.type "int") l m->∀y∈m,y=Value.type "int":=by
     intro l m hp
     induction hp with
     |nil=>intro y hy;cases hy
     |cons q _ ih=>
      intro y hy;obtain rfl|hy:=KG.mp hy
      .exact q
      .exact ih y hy
    exact j0 WM
   cases ts with
   |nil=>cases WM;exact absurd rfl hz
   |cons t r=>
    have ht:=WN t KD;subst ht;have e1:((DF!).toArray)[0]?=some (Value.type "int"):=rfl;rw[e1];have e2:((DF!).toArray.all λx=>x==Value.type "int")=true:=by
     rw[List.all_toArray,ON];intro y hy;rw[WN y hy];rfl
    dsimp only;rw[KM e2];exact KB (KB hq)
end
def Kr(p q:qX_):Bool:=EN p.1 p.2 q.1 q.2
def sA:Kr p q=true↔(p.1<q.1\/(p.1=q.1/\p.2<q.2)):=by
 unfold Kr EN;split
 .rename_i h;rw[LO];omega
 .rename_i h;rw[LO];omega
def a9n(p:qX_):Kr p p=false:=by
 cases h:Kr p p with
 |false=>rfl
 |true=>have:=sA.mp h;omega
def jO(Y:Kr p q=true)(h2:Kr q r=true):Kr p r=true:=by rw[sA]at Y h2 ⊢;omega
def zL(h:p≠q)(Y:Kr p q=false):Kr q p=true:=by
 have iw:¬Kr p q=true:=by rw[Y];simp
 rw[sA]at iw ⊢;have:¬(p.1=q.1/\p.2=q.2):=λz=>h (Prod.ext z.1 z.2);omega
section
variable(kf:α->Int×Int)
def Qn(x:α):List α->List α
 |[]=>[x]
 |y::r=>if Kr (kf x) (kf y)then x::y::r else y::Qn x r
def Jc:List α->List α
 |[]=>[]
 |x::r=>Qn kf x (Jc r)
def Oq(l:ai_):Prop:=l.Pairwise λx y=>Kr (kf x) (kf y)=true
variable {kf}
def qJ(x:α):∀l:List α,(Qn kf x l).Perm (x::l)
 |[]=>RQ _
 |y::r=>by
  unfold Qn;split
  .exact RQ _
  .exact((qJ x r).cons y).trans (List.Perm.swap x y r)
def cI:∀l:List α,(Jc kf l).Perm l
 |[]=>RQ _
 |x::r=>(qJ x _).trans ((cI r).cons x)
def uV:∀{l:ai_},Oq kf l->(∀y∈l,kf x≠kf y)->Oq kf (Qn kf x l)
 |[],_,_=>List.pairwise_singleton _ _
 |y::r,h,hn=>by
  unfold Qn;unfold Oq at h;rw[NS]at h;split
  .rename_i al;refine NS.mpr ⟨ln!,NS.mpr h⟩;obtain rfl|hz:=KG.mp hz
   .exact al
   .exact jO al (h.1 z hz)
  .rename_i al;refine NS.mpr ⟨ln!,uV h.2 λz hz=>hn z lk_⟩;obtain rfl|hz:=KG.mp ((qJ x r).mem_iff.mp hz)
   .exact zL (hn y KD) AM_
   .exact h.1 z hz
def jG:∀{l:ai_},(l.map kf).Nodup->Oq kf (Jc kf l)
 |[],_=>jk_
 |x::r,h=>by
  rw[KL,LA]at h;refine uV (jG h.2) λy hy e=>h.1 ?_;rw[e];exact KW ((cI r).mem_iff.mp hy)
def nO:∀{l m:ai_},Oq kf l->Oq kf m->l.Perm m->l=m
 |[],m,_,_,h=>(List.Perm.nil_eq h)
 |x::l,m,Y,h2,h=>by
  cases m with
  |nil=>exact absurd h.length_eq c!
  |cons y m=>
   have e:x=y:=by
    obtain e|hx:=KG.mp (h.mem_iff.mp KD)
    .exact e
    .obtain e|hy:=KG.mp (h.symm.mem_iff.mp KD)
     .exact e.symm
     .have a1:=(NS.mp Y).1 y hy;have a2:=(NS.mp h2).1 x hx;have:=jO a1 a2;rw[a9n]at this;cases this
   subst e;rw[nO (NS.mp Y).2 (NS.mp h2).2 ((List.perm_cons x).mp h)]
def b5f(h:l.Perm m):∀{L:ai_},m=L.map f->∃L':List α,L'.Perm L/\L'.map f=l:=by
 induction h with
 |nil=>intro L e;exact⟨[],by rw[List.map_eq_nil_iff.mp e.symm],rfl⟩
 |cons x _ ih=>
  intro L e;cases L with
  |nil=>cases e
  |cons y L=>
   injection e with e1 e2
   obtain⟨L',Y,h2⟩:=ih e2;exact⟨y::L',Y.cons y,by rw[KL,h2,e1]⟩
 |swap x y l=>
  intro L e
  match L,e with
  |a::b::L,e=>
   injection e with e1 e2
   injection e2 with e3 e4
   exact⟨b::a::L,List.Perm.swap a b L,by rw[KL,KL,<-e1,<-e3,<-e4]⟩
 |trans _ _ Z5 Z6=>
  intro L e;obtain⟨L2,Y,h2⟩:=Z6 e;obtain⟨L1,h3,h4⟩:=Z5 h2.symm;exact⟨L1,h3.trans Y,h4⟩
def Jd(ks:qY_)(k:qX_):Int:=((ks.filter λx=>Kr x k).length:Nat)
def pP(hp:p∈ks)(h:Kr p q=true):Jd ks p<Jd ks q:=by
 unfold Jd;have j0:∀l:List hE!,(DH_).length<=(DI!).length:=by
  intro l
  induction l with
  |nil=>simp
  |cons x l ih=>
   simp only[UZ];by_cases hx:Kr x p=true
   .simp only[hx,jO hx h,MU,KO];omega
   .by_cases hy:Kr x q=true
    .simp only[hx,hy,MU,KO];show"!}";omega
    .simp only[hx,hy];show"!}";exact ih
 have Z7:∀l:List hE!,p∈l->(DH_).length<(DI!).length:=by
  intro l hl
  induction l with
  |nil=>cases hl
  |cons x l ih=>
   obtain e|hl:=KG.mp hl
   .subst e;have:=j0 l;simp only[UZ,a9n,h,MU,KO,LM,MJ];omega
   .have:=ih hl;simp only[UZ];by_cases hx:Kr x p=true
    .simp only[hx,jO hx h,MU,KO];omega
    .by_cases hy:Kr x q=true
     .simp only[hx,hy,MU,KO];show"!}";omega
     .simp only[hx,hy];show"!}";exact this
 have:=Z7 ks hp;omega
def a8j(hp:p∈ks)(hq:q∈ks):decide (Jd ks p<Jd ks q)=Kr p q:=by
 cases h:Kr p q with
 |true=>exact LG (pP hp h)
 |false=>
  refine KP λz=>?_;by_cases e:p=q
  .subst e;omega
  .have:=pP hq (zL e h);omega
end
section
open Classical
def Hj.inj(x:Hj h v a b)(y:Hj h v c d):eh_=(c,d):=by
 obtain⟨p,o,n,t,u,rfl,Y,_,h2⟩:=x;obtain⟨p',o',n',t',u',e,iw,_,lp⟩:=y;cases e;rw[Y]at iw;cases iw;rw[h2]at lp;injection lp with h3 _
 have:=congrArg Array.toList h3;simp at this;rw[this.1.1,this.2.1]
def Lh(h:Heap)(v:zp!):Int×Int:=if x:∃a b,Hj h v a b then(x.choose,x.choose_spec.choose)else(0,0)
def oU(x:Hj h v a b):Lh h v=eh_:=by have z:∃a b,Hj h v a b:=⟨a,b,x⟩;unfold Lh;rw[dif_pos z];exact z.choose_spec.choose_spec.inj x
def qV(ha:hC!=L.map c_)(hk:∀q∈L,Hj h q.1.1 (kf q.2).1 (kf q.2).2)(nd:(q0!).Nodup)(hp:qk.Perm a0)
  (hu:Up DK! qk a0.size):∃L':List (Keyed×D),L'.Perm L/\qk.toList=L'.map c_/\L'.map R!=Jc kf qZ_:=by
 have bu:qk.toList.Perm hC!:=Array.perm_iff_toList_perm.mp hp;obtain⟨L',Y,h2⟩:=b5f bu ha;refine⟨L',Y,h2.symm,nO ?_ (jG nd) ((Y.map _).trans (cI _).symm)⟩;have ny:((L'.map R!).map kf).Nodup:=(((Y.map _).map _).nodup_iff).mpr nd;unfold Oq;rw[SI];intro i j hi hj WO;have cr:i<fE!:=by simpa using hi
 have xw:j<fE!:=by simpa using hj
 have hsz:qk.size=fE!:=by rw[<-MX,<-h2,KQ]
 have bj:a0.size=fE!:=by rw[<-MX,ha,KQ,Y.length_eq]
 have WQ:∀k (cz:k<fE!),rk DK! qk k=Jd q0! (kf L'[k].2):=λk cz=>by
  unfold rk;have e:qk[k]?=some L'[k].1:=by
   rw[<-QQ,<-h2,LZ,KZ cz];rfl
  rw[e];show Jd _ (Lh h L'[k].1.1)=_;rw[oU (hk L'[k] DL_)]
 have jo:=hu i j (QN WO) a!;rw[WQ i cr,WQ j xw]at jo;simp only[List.getElem_map];have mem:∀k (cz:k<fE!),kf L'[k].2∈(qZ_).map kf:=λk cz=>KW (KW DL_);have ne:kf L'[i].2≠kf L'[j].2:=λe=>by
  have q:=(List.getElem_inj (i:=i) (j:=j) (h₀:=by simpa using cr) (h₁:=by simpa using xw) ny).mp cN!;omega
 cases al:Kr (kf L'[i].2) (kf L'[j].2)with
 |true=>rfl
 |false=>
  have:=pP (mem j xw) (zL ne al);omega
end
def a7q(a v:zp!):argsOk "list.sort" DM_:=by unfold argsOk;kernel_rfl
def a1e(a v:zp!):argsOk "sorted" DM_:=by unfold argsOk;kernel_rfl
section
def c0s(F:Fk X.prog X.w X.K X.mg X.base Pj k f fd ps sp)(hr:ga!)(J:jK!)(e0:Qt X.prog X.w X.K X.mg X.base A X.stack s H)
  (I:d!)(r:er_)(h:sp vs H Q E0):wpAny d_ A t0_ aA! E s:=by
 have hl:(us++[]).length=P!:=by rw[LR,<-r.length];exact F.len _ _ _ _ h
 have f8:=J s us I.kIn hl;rw[LR]at f8;refine wpAny_call (SZ (F.run A X.stack s H cY_ us vs Q E0 hr e0 f8 r h) λr s' hq=>?_);cases r with
 |error e=>exact hq.elim
 |ok fl=>
  cases fl with
  |ret u=>exact I.after hq
  |next=>exact False.elim hq
  |brk=>exact False.elim hq
  |cont=>exact False.elim hq
def Me:D->Option hE!
 |.tup [.int a,.int b]=>some eh_
 |_=>none
def a2h(I:d!)(sub:E!)(r:bM!)(e:Me d=some eh_):Hj s.heap u a b:=by
 unfold Me at e;show"!8"
 .cases e;obtain⟨v,r,ru⟩:=r;show"!Y";cases ru;show"!5";cases aZ r1;cases aZ r2;show"#/";obtain⟨x,y,rfl,⟨t,rfl⟩,⟨u,rfl⟩⟩:=wC rv;exact⟨p,o,n,t,u,rfl,Y,h2,h3⟩
 .cases e
def Mv(g:b5!):List D->Option (List hE!)
 |[]=>some []
 |d::r=>(g [d]).bind λx=>(Me x).bind λk=>(Mv g r).map (k::·)
def c9u(I:Inv X (hb++[ei!,(c,oc)]) Z H s)(hc:Fu X hb H c)(jb:a≠c)(kp:∀b o,b≠c->s.heap.get? b=some o->h'.get? b=some o)(ho:h'.get? c=some oc')(hd:∀v,oc'.data≠.cell v):
  Inv X (hb++[ei!,(c,oc')]) Z H {s with heap:=h',toks:=t'}:=by
 have pa:=I.pin ei! (KJ _ c!);have I1:Inv X q0_ Z H s:=I.pins_of λp hp=>I.pin p (KJ _ (by
  obtain z|z:=KR.mp hp
  .exact LD _ z
  .exact KJ _ (by simp at z;simp[z])))
 have j6:∀b∈[c],Fu X q0_ H b:=λb J=>by
  have e:b=c:=by simpa using J
  subst e;obtain⟨f0,f1,f2,f3,f4,f5⟩:=hc;refine⟨f0,f1,f2,f3,f4,cP!⟩;obtain z|z:=KR.mp hp
  .exact f5 p hZ!
  .obtain z|z:=KR.mp z
   .exact f5 p iq_
   .have:p=ei!:=by simpa using z
    rw[this];exact jb
 have I2:Inv X q0_ Z H {s with heap:=h',toks:=t'}:=hV I1 j6 λb o J e=>kp b o fZ_ e;refine I2.pins_of λp hp=>?_;obtain z|z:=KR.mp hp
 .exact I2.pin p (KJ _ hZ!)
 .obtain z|z:=KG.mp z
  .subst z;exact I2.pin _ fE_
  .have:p=(c,oc'):=by simpa using z
   subst this;exact⟨ho,hc.1,hc.2.1,hc.2.2.1,hd⟩
def xF(F:DN_)(hr:q1!)(J:jK!)(li:P!=1)(jb:a≠c)
  (pb:∀x (R:ForInStep PUnit->Shared->Prop) s,wpAny d_ X.A.in1.in1 (call af_ [x]) (λk s'=>wpAny d_ X.A.in1.in1 (Builtin.List.listUpdate ch! (·.push k)) (λ_ s2=>R (.yield ⟨⟩) s2) E s') E s->wpAny d_ X.A.in1.in1 (body x ⟨⟩) R E s):
  ∀{ds:e!} {us:k_} {kd:e!} {ku:k_} {n:Nat} {ks:qY_} {s:zz!} {G H:Hp},Inv X (hb++[ei!,DO_]) Z H s->Bc G H->Paired dm_ ds us->Paired dm_ kd ku->Mv g ds=some ks->
   (∀H':Hp,H' c=none->Fu X hb H' c)->q1_+g!<=1000->
   (∀s' H' G' ql tf n',Inv X (hb++[ei!,(c,seqObj "list" (ku++ql).toArray n')]) Z H' s'->Ch G H G' H'->Paired (Cu X.K G') (kd++tf) (ku++ql)->Paired q2! tf ks->Q ⟨⟩ s')->
   wpAny d_ X.A.in1.in1 (forIn us ⟨⟩ body) Q E s
 |_,_,kd,ku,n,ks,s,G,H,I,sub,.nil,pk,e,st,hl,hq=>by
  rw[RP];cases e;refine KB (hq s H G [] [] n ?_ aH! ?_ .nil)
  .rw[LR];exact I
  .rw[LR,LR];exact pk
 |d::ds,u::us,kd,ku,n,ks,s,G,H,I,sub,.cons r t,pk,e,st,hl,hq=>by
  show"!m";obtain⟨v,rv,ru⟩:=r;rw[PD];simp only[KO]at hl;refine JY (pb u _ s (dF (c0s (vs:=[v]) (Q:=λv' H'=>∃G',Ch G H G' H'/\Aq X.K G' x v') F hr J I.env0.in1.in1 I vn! ⟨li.symm,G,[d],x,sub,Am.cons rv Am.nil,e1,λv' G' H' x' r'=>⟨G',x',r'⟩⟩) ?_));rintro kv s1 ⟨v1,H1,I1,Z9,G1,x1,r1⟩;have pc:=I1.pin DO_ fE_;refine SA pc.1 rfl ?_ lo_ (by simp only[Array.size_push,KH];rw[MY];omega);have e4:=RL pc.1 (·.push kv);have I2:=c9u (oc':=seqObj "list" (ku++[kv]).toArray (if(ku.toArray.push kv).size==ku.toArray.size then n else n+1)) (t':=s1.toks) I1 (st H1 pc.2.1) jb (λb o J e=>(uX_).trans e) (by rw[e4,List.push_toArray]) ww!;refine xF F hr J li jb pb I2 x1.sub (Paired.mapP t λ_ _ z=>z.mono x1.g) (mM (Paired.mapP pk λ_ _ z=>z.mono x1.g) (.cons ⟨v1,r1,Z9⟩ .nil)) e3 st BW_ λs' H' G' ql tf n' I' x' p' k'=>?_;refine hq s' H' G' (kv::ql) (x::tf) n' ?_ (x1.trans x') ?_ (.cons e2 k')
  .rw[NJ]at I';exact I'
  .rw[NJ,NJ]at p';exact p'
end
def Ii(g:b5!)(d:D):Int×Int:=((g [d]).bind Me).getD (0,0)
def uN:∀{ds:e!} {ks:qY_},Mv g ds=some ks->ks=ds.map fF!
 |[],_,e=>by cases e;rfl
 |d::r,ks,e=>by
  show"!m";rw[KL,<-uN e3];congr 1;unfold Ii;rw[e1];show q=(Me x).getD _;rw[e2];rfl
section
variable{X:Cx}
def a2z{P:Value->D->Prop}{R:D->Value->Prop}(Y:Paired P ku ds):∀{us:k_},Paired R ds us->∀q∈(hF_).zip ds,P q.1.1 q.2/\R q.2 q.1.2:=by
 induction Y with
 |nil=>intro _ _ q h;simp at h
 |cons p t ih=>
  intro _ h2 q h;cases h2 with
  |cons r u=>
   rw[SF,SF]at h;obtain rfl|h:=KG.mp h
   .exact⟨p,r⟩
   .exact ih u q h
def iX:∀{l:List γ},(∀q∈l,R (f q) (h q))->Paired R fF_ (l.map h)
 |[],_=>.nil
 |q::r,hh=>.cons (hh q (KD ..)) (iX λz hz=>hh z lk_)
def iI(h:Paired R l m):at!=m.length:=by
 induction h with
 |nil=>rfl
 |cons _ _ ih=>rw[KO,KO,ih]
def a2g(hp:∀d u a b,Cu X.K G d u->Me d=some eh_->Hj h u a b)(Y:DT_):∀{ds:e!},Paired q2! kd (ds.map kf)->Paired (λv d=>Hj h v (kf d).1 (kf d).2) ku ds:=by
 induction Y with
 |nil=>intro ds h;cases ds with|nil=>exact .nil|cons=>cases h
 |cons r t ih=>intro ds h;cases ds with|nil=>cases h|cons=>cases h with|cons k u=>exact .cons (hp _ _ _ _ r k) (ih u)
def c9p{st:SortSt}{us':k_}{ku:k_}(xx:(z!).map R!=pd_)(hz:us'.length<64)(WG:q1_<64)(hf:failedOf st=none)(jb:a≠c)
  (gb:q4!)(j6:DU!)(I:DV!)
  (hP:∀s' n',Inv X hb Z H s'->s'.heap.get? a=some hG_->P hH! s'):wpAny d_ A DW! P E s:=by
 have pa:=I.pin lp_ fE_;have pc:=I.pin DU_ fE_;unfold ksk_tail;dsimp only;rw[xx];refine JY (SA pc.1 rfl ?_ lo_ b9!);refine JY (RB ?_);have ea:(s.heap.update c DW_).get? a=some q4_:=(LS _ _ (LQ jb)).trans pa.1;refine JY (seqEpoch_at ea rfl ?_);show"!}";refine JY (SA ea rfl ?_ b9! lo_);rw[hf];simp only[UO,LM,MJ];have I1:Inv X hb Z H s:=I.unpinned;refine KB (hP _ _ (hV (wr:=[a,c]) (t':=s.toks) I1 hX! λb o J q=>?_) (RL ea λ_=>pd_))
 .obtain rfl|J:=KG.mp J
  .exact gb H pa.2.1
  .rw[lq!];exact j6 H pc.2.1
 .have Y:b≠a:=λz=>J (by rw[z];exact KD ..);have h2:b≠c:=λz=>J (by rw[z];exact KA _ (KD ..));exact(LS _ _ (LQ Y)).trans ((LS _ _ (LQ h2)).trans q)
def d2f{ds:e!}(nv:g!<64)(nd:(DX_).Nodup)(jb:a≠c)
  (gb:q4!)(j6:DU!)(I:DV!)(sub:E!)
  (pu:q5!)(pk:DT_)(kk:Paired q2! kd DX_)
  (hP:∀s' us' n',Inv X hb Z H s'->Paired dm_ q5_ us'->s'.heap.get? a=some hG_->P hH! s'):wpAny d_ A (ksk_end a false us.toArray e1 ch! ku.toArray) P E s:=by
 have z:=a2g (X:=X) (h:=s.heap) (λd u a b r q=>a2h I sub r q) pk kk;have l1:ad_=g!:=(iI pu).symm;have l2:q1_=g!:=iI z;have mem:=a2z z pu;have ig:(lq_).toList=(lr!).map c_:=by
  rw[ksk_zip,DY!]
 have hd:(lr!).map R!=ds:=List.map_snd_zip q6!;have fin:∀{L':q6_} {st:SortSt},L'.Perm lr!->(z!).toList=L'.map c_->L'.map R!=Jc fF! ds->failedOf st=none->wpAny d_ A DW! P E s:=λ{L' st} Y h2 h3 h4=>by
  refine c9p (us':=L'.map (·.1.2)) ?_ (by rw[KQ,Y.length_eq,NV,NV];omega) a! h4 jb gb j6 I λs' n' I' e'=>hP s' _ n' I' ?_ e'
  .apply DY_;rw[Array.toList_map,h2,MD];rfl
  .rw[<-h3];exact iX λq hq=>(mem q (Y.mem_iff.mp hq)).2
 unfold ksk_end;dsimp only;show"!}";by_cases h2:j6_<2
 .rw[KM h2,KM h2];refine JY P_;rw[StateT.run_pure];show"#)";refine fin (L':=(hF_).zip ds) (RQ _) ig ?_ rfl;rw[hd];rw[KH,l1]at h2
  match ds,h2 with
  |[],_=>rfl
  |[x],_=>rfl
  |_::_::r,h2=>simp at h2;omega
 .rw[KN h2,KN h2];rw[KH]at h2;refine JY (a3g (vs:=ku) DZ! (λz=>by rw[z]at l2;simp at l2;omega) ?_)
  .show"!c"
  .have hsz:(lq_).size=g!:=by rw[<-MX,ig,KQ,NV,NV];omega
   have hk:∀q∈(hF_).zip ds,Hj s.heap q.1.1 (q7!).1 (q7!).2:=λq hq=>(mem q hq).1;have ny:(hH_).Nodup:=by rw[hd];exact nd
   refine JY (NQ (b4a (kd:=Zd true) (a0:=ku.toArray.zip cx!) (r:=λp=>Jd hH_ D0!) (Q:=λ_ σ=>(w!).Perm lq_/\failedOf σ=none/\Up (λp=>Jd hH_ D0!) w! (lq_).size)
    (D0_) D1! D1_ D2! λσ a1 a2 a3=>D2_) ?_ λ_ _ e=>e)
   .rw[ig]at hx hy;obtain⟨p,hp,rfl⟩:=KY.mp hx;obtain⟨q,a7,rfl⟩:=KY.mp hy;refine uO lr_ ls! ?_;have mm:∀p∈(hF_).zip ds,Ii g p.2∈(DZ_).map fF!:=λp hp=>KW (KW hp);have hh:decide D3!=Kr (Ii g p.2) q7!:=by
     show"#<"
    have l8:Q (decide D3!) s:=hq;rw[hh]at l8;exact l8
   .show"!F";exact fin b1 b2 D3_ a2
def c9o(F:DN_)(hr:q1!)(J:jK!)(li:P!=1)
  (I:d!)(sub:E!)(pu:q5!)(ha:D4!)(fh:hO!)
  (gb:q4!)(ek:Mv g ds=some ks)(nd:he_)(nv:g!<64)
  (hP:∀s' H' G' us' n',Inv X hb Z H' s'->Ch G H G' H'->Paired (Cu X.K G') q5_ us'->H' a=none->s'.heap.get? a=some hG_->P hH! s'):
  wpAny d_ X.A.in1.in1 (ksk_tree a af_ false) P E s:=by
 have l1:ad_=g!:=(iI pu).symm;have Z':=uN ek;obtain⟨e1,tj⟩:∃e1,(s.heap.update a (Obj.mapSeq λ_=>(#[]:Array Value))).get? a=some (seqObj "list" #[] e1):=D4_;unfold ksk_tree;refine JY D5!;refine JY D5_;refine JY D6_;refine JY D7!;refine JY q7_;refine MH ?_;have hsz:(ch_).objs.size=h_+1:=by rw[size_push',Heap.size_update]
 show wpAny _ _ (ksk_rest a af_ false us.toArray e1 (.ref (ch_).objs.size)) P E {s with heap:=(ch_).push ci!};have gf:(q8_).get? (ch_).objs.size=some ci!:=LC _ rfl;rw[hsz]at gf ⊢;have jb:a≠h_+1:=LU (SU (LF ha));have j6:∀H':Hp,H' aa!=none->Fu X hb H' aa!:=λH' q=>I.fpOk (OL _) q;have l9:(q8_).get? a=some q4_:=KC _ (KC _ tj);have I1:Inv X hb Z H {s with heap:=(ch_).push ci!}:=
  hV (wr:=[a]) (t':=s.toks) I (λb J=>by rw[lq!];exact gb H fh) λb o J q=>KC _ D9!
 have fa:=gb H fh;have fc:=j6 H t6!;have I2:Inv X (hb++[lp_,(h_+1,seqObj "list" (ws_).toArray 0)]) Z H {s with heap:=(ch_).push ci!}:=I1.pins_of λp hp=>by
  obtain z|z:=KR.mp hp
  .exact I1.pin p iq_
  .obtain rfl|z:=KG.mp z
   .exact⟨l9,fh,fa.2.1,fa.2.2.1,gK!⟩
   .rw[ek!];exact⟨gf,fc.1,fc.2.1,fc.2.2.1,gK!⟩
 generalize h_+1=c at *;unfold ksk_rest;refine JY fd_
 first
  |rw[List.forIn_toArray]
  |(rw[<-Array.forIn_toList];simp only[List.toList_toArray])
  |rw[<-Array.forIn_toList]
 refine JY (NQ (xF (E:=wy_) (Q:=λ_ s'=>wpAny d_ X.A.in1.in1 _ P E s') F hr J li jb (λx R s' hx=>?_) I2 sub pu .nil ek j6 (by rw[OH];omega) λs' H' G' ql tf n' I' x' p' k'=>?_) Dz_ λ_ _ z=>z.elim)
 .refine JY (RE (NQ hx (λkv s2 hk=>?_) λ_ _ z=>z.elim));dsimp only;exact JY (NQ hk (λ_ s3 z=>KB z) λ_ _ z=>z)
 .rw[NN]at I';rw[NN,NN]at p';have pc:=I'.pin (c,seqObj "list" ql.toArray n') fE_;have pa:=I'.pin lp_ fE_;refine JY (UB pc.1 rfl ?_);rw[Z']at k' nd;exact d2f nv nd jb gb j6 I' x'.sub (Paired.mapP pu λ_ _ z=>z.mono x'.g) p' k' λs3 us' n3 I3 p3 e3=>hP s3 H' G' us' n3 I3 x' p3 pa.2.1 e3
def BQ(g:b5!)(ds:e!):Option aG_:=(Mv g ds).bind λks=>if he_/\g!<64 then some q5_ else none
def Vn(g:b5!)(fa:o_):Ag->Option D:=λρ=>(e1!).bind λd=>match d with
 |.lst ds=>(BQ g ds).map D.lst
 |_=>none
def kS:∀{ds:e!} {vs:q!} {us:k_},Am KF G ds vs->Az vs us->Paired fG! ds us
 |[],vs,us,r,p=>by cases cM r;cases p;exact .nil
 |d::ds,vs,us,r,p=>by
  obtain⟨v,t,rfl,r1,r2⟩:=bM r;cases p with
  |cons a b=>exact .cons ⟨v,r1,a⟩ (kS r2 b)
def qW(h:Paired fG! ds us):∃vs,Am KF G ds vs/\Az vs us:=by
 induction h with
 |nil=>exact⟨[],Am.nil,.nil⟩
 |cons p _ ih=>
  obtain⟨v,r,p⟩:=p;obtain⟨vs,r2,p2⟩:=ih;exact⟨v::vs,Am.cons r r2,.cons p p2⟩
def a7z(I0:Inv X hb Z H0 s0)(I:d!)(sub:E!)(hs:CM!<=a)(pu:Paired dm_ ds us')(hz:g!<=sizeLine)(ho:s.heap.get? a=some hG_)(hn:hO!)
  (hQ:∀v G' H',Ch G H G' H'->Aq X.K G' b3_ v->Q v H'):EP X hb Z Q F! s:=by
 obtain⟨vs,r,p⟩:=qW pu;have f:=I0.fpOk hs hn;refine⟨bA!,upd H a cy_,I.track ho p (by rw[<-aJ r];exact hz) hn ?_ f.2.1 f.2.2.2.2.1 f.2.2.2.2.2,rfl,hQ _ _ _ (Ch.laid sub hn) ?_⟩
 .exact LV I0.sz hs
 .exact Aq.lst (Fm.of bY) (r.mono (λb u e=>by rw[aY (λz=>by rw[z]at e;rw[sub _ _ e]at hn;cases hn)];exact e))
def xZ:bootBuiltins "sorted"=some ls_:=by decide+kernel
def yJ{us:k_}(hl:Ea_)(hz:ad_<64)
  (h:wpAny d_ X.A.in1.in1 (ksk_tree aa! af_ false) (λfin s'=>∃v,fin=.done (.ret v)/\Q (.ref aa!) s') E {s with heap:=(lt!).push lt_}):
  wpAny d_ X.A (call ls_ lu! [(Str.ofString "key",.ref f)]) Q E s:=by
 refine call_function_entry_kw kind_sorted plain_sorted entry_sorted (a1e _ _) ?_;unfold Builtin.«sorted»;refine JY (m:=Ed_) P_;refine JY (collect_list hl ?_ Ee!);refine JY (TU ?_ Ee!);have hsz:(lt!).objs.size=h_+1:=by
  rw[Heap.size_update,size_push']
 have km:((lt!).push lt_).get? aa!=some lt_:=by
  rw[<-hsz];exact LC _ rfl
 show wpAny _ _ _ _ _ {s with heap:=(lt!).push lt_};rw[hsz];refine JY (MH (wpAny_call_entry_kw slot_list_sort Ee_ entry_list_sort ?body (a7q _ _)))
 case body=>
  rw[ksk_t1];refine NQ h (λfin s' hq=>?_) λ_ _ z=>z;obtain⟨v,rfl,hq⟩:=hq;exact⟨v,rfl,KB ⟨_,rfl,hq⟩⟩
variable{pos p p2 kp:Pos}
def b9c{ps:G_}(F:zb!)(hr:q1!)(hgx:H_)(xy:Gl X "sorted")(xz:X.mg "sorted"=none)(ha:DE X own e fa)(li:P!=1:=by rfl)(ax:y!:=by decide)
  (he:gW!:=by rfl):
  DE X own (.Call (.Name "sorted" p) [e] [⟨some "key",jO_,kp⟩] pos) (Vn g fa):=⟨by
 obtain⟨ae,fd,Y,h2,h3,h4⟩:=F;rintro hb s Z H Q I ⟨G,ρ,d,er,e1,kq⟩;obtain⟨d0,e2,e1⟩:=JZ.mp e1;cases d0 with
 |lst ds=>
  obtain⟨pv,e3,rfl⟩:=KI.mp e1;obtain⟨ks,e4,e5⟩:=JZ.mp e3;have qe:he_/\g!<64:=by
   by_cases z:he_/\g!<64
   .exact z
   .rw[KN z]at e5;cases e5
  rw[KM qe]at e5;cases e5;have da:=(aE ha aK he).ok;refine OQ (iP I xy xz xZ ?_ b! b!);refine callWith_kw (dF (da pos hb s Z H _ I ⟨G,ρ,[.lst ds],er,by unfold Ac Ae;rw[e2];rfl,λvs G1 H1 x1 r1=>(⟨G1,x1,r1⟩:∃G1,Ch G H G1 H1/\Am X.K G1 [.lst ds] vs)⟩) ?_) lu_ lu_ rfl rfl;rintro us s1 ⟨vs,H1,I1,r,G1,x1,r1⟩;refine kws_cons (iD I1 hgx h3 Ef_ ax);obtain⟨v,t,rfl,rv,rr⟩:=bM r1;cases cM rr;obtain⟨l,xs,rfl,sq,rx⟩:=bP rv;obtain⟨its,hv,pl,hz⟩:=I1.list Eg_;cases r with
  |cons ra rb=>
   cases rb;cases ra;show wpAny d_ X.A (call ls_ lu! [(Str.ofString "key",.ref ae)]) _ _ s1;have lz:gv!=g!:=by rw[<-hv.length,<-aJ rx]
   obtain⟨nn,sl,ho⟩:=mY pl;refine yJ (us:=its) ⟨_,ho,rfl,nn,rfl⟩ (by rw[lz];exact qe.2) ?_;have keep:∀b o,s1.heap.get? b=some o->(Ei_).get? b=some o:=λb o q=>by
    have al:b<x!:=LF q;exact KC _ ((Heap.get?_update_ne _ _ _ _ (LU al)).trans ((Heap.get?_push_ne _ _ _ (LU al)).trans q))
   have hsz:(Eh_).objs.size=x!+1:=by
    rw[Heap.size_update,size_push']
   have km:(Ei_).get? (x!+1)=some Ei!:=by
    rw[<-hsz];exact LC _ rfl
   have I2:=I1.kept (t':=s1.toks) keep;have b7:x!<=x!+1:=OL _;refine c9o Y hr h2 li I2 x1.sub (kS rx hv) km (I1.hok.fresh b7) (λH' q=>I1.fpOk b7 q) e4 qe.1 qe.2 λs3 H3 G3 us3 n3 I3 x3 p3 hn3 x5=>pp_;exact a7z I1 I3 x3.sub b7 p3 Ej_ x5 hn3 λv G4 H4 x4 r4=>kq v G4 H4 (x1.trans (x3.trans x4)) r4
 |_=>cases e1⟩
end
def a7y(hd:Cy_):W.KdlSrc P w "dict" d d es.length qE! (λh=>Ny h d es ep) where
 type:=λ_ hm=>hm.typeIs
 there:=λ_ hm=>let⟨_,ho,_⟩:=hm;⟨LF ho,LF ho⟩
 keep:=λ_ _ hm hk=>hm.at λo e=>hk d an_ o e
 notList:=by decide
 notTuple:=by decide
 hint:=λ_ _ _ _ hm hq=>W.kdl_hint_dict hm.typeIs hq
 iter:=λ_ _ hh hm=>⟨_,_,(λ_ _ hq=>b7s hd hm hq),b0q hh _ d (let⟨_,ho,_⟩:=hm;LU hR!) es ep,⟨ew_,hm.at λo e=>KC _ e⟩⟩
section
def c7g(ok:fm!)(hi:Ek_):Paired fG! fl_ lv!:=by
 have ea:lv!=es.map kv_:=by
  apply UQ;intro i;rw[LZ];by_cases h:i<ab!
  .have Y:i<acc.size:=by rw[hi.1];exact h
   show"!u"
  .rw[El_,NB a!];rfl
 rw[ea];have:∀{h1:n_} {es:cH!},Paired Em_ h1 es->Paired fG! fl_ fG_:=λ{h1 es} h=>by
  induction h with
  |nil=>exact .nil
  |cons a _ ih=>exact .cons a ih
 exact this En!
nonrec def kf2(d:D):Int×Int:=(Me d).getD (0,0)
def Xv(ds:e!):Option aG_:=if rb!=true/\(rb_).Nodup/\g!<64 then some rc! else none
def c9n(I:d!)(sub:E!)(pu:q5!)(ha:D4!)(fh:hO!)
  (gb:Fu X hb H a)(ek:rb!=true)(nd:(rb_).Nodup)(nv:g!<64)
  (hP:∀s' us' n',Inv X hb Z H s'->Paired dm_ rc! us'->s'.heap.get? a=some hG_->P hH! s'):
  wpAny d_ A (Builtin.«list.sort» nT_) P E s:=by
 have l1:ad_=g!:=(iI pu).symm;obtain⟨e1,tj⟩:∃e1,(s.heap.update a (Obj.mapSeq λ_=>(#[]:Array Value))).get? a=some (seqObj "list" #[] e1):=D4_;rw[list_sort_plain];refine JY D5!;refine JY D5_;refine JY D6_;refine JY D7!;refine JY q7_;refine MH ?_;show wpAny _ _ _ P E {s with heap:=(ch_).push ci!};have I1:Inv X hb Z H {s with heap:=(ch_).push ci!}:=
  hV (wr:=[a]) (t':=s.toks) I Eo! λb o J q=>KC _ D9!
 have l9:(q8_).get? a=some q4_:=KC _ (KC _ tj);generalize (ch_).push ci!=h3 at I1 l9 ⊢;have pk:∀d∈ds,Me d=some lv_:=λd hd=>by
  have:=ON.mp ek d hd;unfold kf2;cases q:Me d with
  |none=>rw[q]at this;cases this
  |some z=>rfl
 have z:Paired Eo_ us ds:=by
  have gen:∀{ds:e!} {us:k_},Paired dm_ ds us->(∀d∈ds,Me d=some lv_)->Paired Eo_ us ds:=λ{ds us} h=>by
   induction h with
   |nil=>exact λ_=>.nil
   |cons r _ ih=>exact λhk=>.cons (a2h I1 sub r (hk _ (KD ..))) (ih λd hd=>hk d (KA _ hd))
  exact gen pu pk
 have mem:=a2z z pu;have ig:(hI_).toList=(hJ_).map c_:=by
  rw[ksk_zip,DY!]
 have hd:(hJ_).map R!=ds:=List.map_snd_zip q6!;have fin:∀{L':q6_} {st:SortSt},L'.Perm hJ_->(z!).toList=L'.map c_->L'.map R!=Jc kf2 ds->failedOf st=none->
   P hH! {s with heap:=h3.update a (Obj.mapSeq λ_=>(z!).map R!)}:=λ{L' st} b1 b2 b3 b4=>by
  have xx:(z!).map R!=(Ep!).toArray:=by
   apply DY_;rw[Array.toList_map,b2,MD];rfl
  rw[xx];refine hP _ _ _ (hV (s:={s with heap:=h3}) (wr:=[a]) (t':=s.toks) I1 Eo! λb o J q=>(D8_).trans q) ?_ (RL l9 λ_=>(Ep!).toArray);rw[<-b3];exact iX λq hq=>(mem q (b1.mem_iff.mp hq)).2
 have WR:∀{L':q6_} {st:SortSt},L'.Perm hJ_->(z!).toList=L'.map c_->((z!).map R!).size<=sizeLine+1:=λ{L' st} b1 b2=>by
  rw[Array.size_map,<-MX,b2,KQ,b1.length_eq,NV,NV,MY];omega
 by_cases h2:j6_<2
 .rw[KM h2,KM h2];show"#)";rw[StateT.run_pure];show"#)";refine JY Ep_;refine JY (SA l9 rfl ?_ b9! (WR (L':=(hJ!).zip ds) (RQ _) ig));simp only[failedOf,UO,LM,MJ];refine KB (fin (L':=(hJ!).zip ds) (st:=SortSt.mk' general' hI_ #[] 7 none) (RQ _) ig ?_ rfl);rw[hd];rw[KH,l1]at h2
  match ds,h2 with
  |[],_=>rfl
  |[x],_=>rfl
  |_::_::r,h2=>simp at h2;omega
 .rw[KN h2,KN h2];rw[KH]at h2;refine JY (a3g (vs:=us) DZ! (λz=>by rw[z]at h2;simp at h2) ?_)
  .show"!c"
  .have hsz:(hI_).size=g!:=by rw[<-MX,ig,KQ,NV,NV];omega
   have hk:∀q∈(hJ!).zip ds,Hj h3 q.1.1 (lx!).1 (lx!).2:=λq hq=>(mem q hq).1;have ny:(fH!).Nodup:=by rw[hd];exact nd
   refine JY (NQ (b4a (kd:=Zd true) (a0:=us.toArray.zip cx!) (r:=λp=>Jd fH! (Lh h3 p.1)) (Q:=λ_ σ=>(w!).Perm hI_/\failedOf σ=none/\Up (λp=>Jd fH! (Lh h3 p.1)) w! (hI_).size)
    (D0_) D1! D1_ D2! λσ a1 a2 a3=>D2_) ?_ λ_ _ e=>e)
   .rw[ig]at hx hy;obtain⟨p,hp,rfl⟩:=KY.mp hx;obtain⟨q,a7,rfl⟩:=KY.mp hy;refine uO lr_ ls! ?_;have mm:∀p∈(hJ!).zip ds,kf2 p.2∈(rc_).map kf2:=λp hp=>KW (KW hp);have hh:decide rd!=Kr (kf2 p.2) lx!:=by
     show"#<"
    have l8:Q (decide rd!) {s with heap:=h3}:=hq;rw[hh]at l8;exact l8
   .show"!F";refine JY Ep_;refine JY (SA l9 rfl ?_ b9! (WR b1 b2));rw[a2];simp only[UO,LM,MJ];exact KB (fin b1 b2 D3_ a2)
def Xz(f:List V->VK->Hp->Prop):List V->Hp->VK->Prop:=λxs H Q=>∃d es ep ys,xs=[.ref d]/\H d=some dk_/\Az ys fG_/\f ys Q H
def rB{es:cH!}(hi:Ek_):lv!=es.map kv_:=by
 apply UQ;intro i;rw[LZ];by_cases h:i<ab!
 .have Y:i<acc.size:=by rw[hi.1];exact h
  show"!u"
 .rw[El_,NB a!];rfl
def vZ(hc:ao_):Io X dI! re_:=by
 rintro hb s Z H xs us Q I r ⟨d,es,ep,ys,e1,e2,hv,k⟩;subst e1;cases r with
 |cons ra rb=>
  cases rb;cases ra;obtain⟨⟨h3,h4,h5⟩,_⟩:=rf!;refine W.kdl_call (a7y h4) aS! h3 fp! λh' tk acc c hk hs hi=>?_;have hn:H h_=none:=I.hok.fresh r!;have f:=I.fpOk (H':=H) r! hn;refine⟨c1_,upd H s.heap.objs.size aD_,?_,rfl,k _ hn⟩;have ia:=rB hi;refine(I.kept (t':=tk) hk).track (us:=lv!) (n:=c) (by rw[Array.toArray_toList];exact hs) (by rw[ia];exact hv) ?_ hn I.sz f.2.1 f.2.2.2.2.1 f.2.2.2.2.2;rw[hv.length,KQ];exact cV h5
def Ql(M:Mh):List D->Option D
 |[d]=>(Dx M d).map λq=>.lst hx!
 |_=>none
def xE(ok:fm!):∃ys,Am KF G fl_ ys/\Az ys fG_:=by
 have:∀{h1:n_} {es:cH!},Paired Em_ h1 es->Paired fG! fl_ fG_:=λ{h1 es} h=>by
  induction h with
  |nil=>exact .nil
  |cons a _ ih=>exact .cons a ih
 exact qW (this En!)
def b9m:Ro P w KF re_ Ql:=by
 show"!R";unfold Ql at e;show"!8"
 .obtain⟨q,e1,rfl⟩:=KI.mp e;show"!>";exact⟨q.1,es,q.2.2,ys,rfl,Y,g2,λl hl=>k _ _ _ Bz! (cZ Bz_ g1)⟩
 .cases e
def Xy(KF:zA!):List V->Hp->VK->Prop:=λxs H Q=>∃G ds,Bc G H/\(∃d es ep,xs=[.ref d]/\H d=some dk_/\Paired fG! ds fG_)/\rb!=true/\(rb_).Nodup/\g!<64/\∀v G' H',Ch G H G' H'->Aq KF G' (.lst rc!) v->Q v H'
def vY(hc:ao_):Io X ls_ (Xy X.K):=by
 rintro hb s Z H xs us Q I r ⟨G,ds,sub,⟨d,es,ep,e1,e2,hv⟩,q1,q2,q3,k⟩;subst e1;cases r with
 |cons ra rb=>
  cases rb;cases ra;obtain⟨⟨h3,h4,h5⟩,_⟩:=rf!;have lz:ab!=g!:=by rw[iI hv,KQ]
  refine Calls.call_function_entry kind_sorted plain_sorted entry_sorted (args_sorted1 _) ?_;unfold Builtin.«sorted»;refine JY (m:=Ed_) P_;refine JY (W.kdu_collect (a7y h4) aS! h3 fp! λh' tk acc hk hi=>?_);have ia:=rB hi;refine JY (TU ?_ (by rw[ia,KQ,MY];omega));rw[ia];have I1:=I.kept (t':=tk) hk;have km:(h'.push hK_).get? fI_=some hK_:=LC _ rfl;have I2:Inv X hb Z H {s with heap:=h'.push hK_,toks:=tk}:=I1.kept (t':=tk) λb u q=>KC _ q;have hn:H fI_=none:=I1.hok.fresh r!;refine JY (MH (MF slot_list_sort Ee_ entry_list_sort ?body (args_list_sort _)))
  case body=>
   refine c9n (s:={s with heap:=h'.push hK_,toks:=tk}) I2 sub hv km hn (I1.fpOk r! hn) q1 q2 q3 λs3 us3 n3 I3 p3 x5=>⟨_,rfl,KB pp_⟩;exact a7z I1 I3 sub r! p3 Ej_ x5 hn k
def Rx(M:Mh):List D->Option D
 |[d]=>(Dx M d).bind λq=>(Xv hx!).map D.lst
 |_=>none
def b9k:Ro P w KF (Xy KF) Rx:=by
 show"!R";unfold Rx at e;show"!8"
 .obtain⟨q,e1,e⟩:=JZ.mp e;obtain⟨l,e2,rfl⟩:=KI.mp e;unfold Xv at e2;split at e2
  .rename_i hz;cases e2;show"!>";exact⟨G,_,sub,⟨q.1,es,q.2.2,rfl,Y,kS g1 g2⟩,hz.1,hz.2.1,hz.2.2,k⟩
  .cases e2
 .cases e
end
def Tp(M:Mh):D->D
 |.fn a=>match M a with|some (.lst xs)=>.lst xs|_=>.fn a
 |d=>d
def Sh(M:Mh)(x y:D):Option D:=Ev (Tp M x) (Tp M y)
def a8k(sub:E!)(m:cb_)(r:cA!):Aq KF H (Tp M d) v:=by
 cases d<;>first|exact r.mono sub|skip
 rename_i a;simp only[Tp];split
 .rename_i xs hM;show"!p";cases fQ r;exact Aq.lst (Fm.of Y) (h2.mono sub)
 .exact r.mono sub
def pV:Yz P w KF (BS KF) Sh:=by
 show"!_";unfold Sh Ev at e;show"!8"
 .show"!o";cases e;exact⟨_,_,a8k sub m rx,a8k sub m ry,h.1.1,h.1.2,h.2,dT!⟩
 .cases e
def Cz(KF:zA!)(C:u0!)(m qual:Str)(st:Stmt)(ps:G_):Prop:=∃ae fd,Yu KF m qual st ae fd/\Eu KF fd ps []/\Xi KF C m ae
def Um(KF:zA!)(mg:O_)(x:Str)(C:u0!)(qual:Str)(st:Stmt)(ps:G_):Prop:=mg x=some U_/\∃ae fd,Yu KF "__init__" qual st ae fd/\Eu KF fd ps []/\Mk KF C ae
section
variable{st:Stmt}
def bW(d:pD!)(S:c3!)
  (J:∀{ae:u0!} {ag:zp!} {A:zm!} {outer:ao!} {s:zz!} {H:Hp} {E:XK},Ah k kr!->N.Nodup->Ut (pD_).nox [] [] bp_ q):
  Iz P w KF mg base M_ x ps k5_:=by
 obtain⟨ae,fd,F,B,m⟩:=d;exact⟨ae,fd,lE!,B,m,F.kp⟩
def cJ(c:Uo KF C)(d:Cz KF C x qual st ps)(S:c3!)
  (J:rh_):
  Ds P w KF mg base M_ C x ps k5_:=by
 obtain⟨ae,fd,F,B,m⟩:=d;exact⟨c,ae,fd,m,lE!,B⟩
def yY(d:Um KF mg x C qual st ps)(S:c3!)
  (J:rh_):
  Xh P w KF mg base M_ x C ps k5_:=by
 obtain⟨m,ae,fd,F,B,mk⟩:=d;exact⟨m,ae,fd,mk,lE!,B⟩
def dM{kV:zp!}
  (a:W.findIn KF U_ x=some eA_)(i:m1_)(l:vU_)
  (c:iS!)(k:gB!)
  (b:vU!):Cz KF C x qual st ps:=
 ⟨f,_,ks!,pE_,⟨a,i,k⟩⟩
def b6o{kV:zp!}(m:mg x=some U_)
  (a:tH!)(i:m1_)(l:KF.lookup f=some ⟨oc,od,.func ri!,ik⟩)
  (c:iS!)(k:gB!)(mm:tG_)(kc:W.keepIn KF U_=true)
  (b:∀(kV bo pm:zp!) (an:dM!) (ag ct:zp!) (us:k_),ad_=P!->bindArgs ri! cY_=pure cY!):Um KF mg x C qual st ps:=
 ⟨m,f,_,ks!,pE_,⟨mm,a,i,kc⟩⟩
def c2k(hd:CO KF mg x st [y])(S:Fq N [y] bb!)(gb:mg x=some eS!)
  (J:∀(base:Heap) (ae:u0!) (ag:zp!) (A:zm!) (outer:ao!) (s:zz!) (H:Hp) (E:XK),Ah k kr!->Ut (pD_).nox [] cg bp_ q):
  ∃fd:FuncData,(∀(s:zz!) (u:zp!),BindsTo s fd jl! [(y,u)])/\∀base:Heap,KF.In base->base.Ns mainGlobals mg->Fk P w KF mg base Pj M_ fa fd [y] (Yx P w KF 1 (Bo N 1 q)):=by
 obtain⟨f,fd,F,B,m⟩:=hd;rw[gb]at m;cases m;exact⟨fd,λs u=>.of_eq (B [u] rfl),λbase _ _=>sJ F S λag A outer s H E hr=>J base _ ag A outer s H E hr⟩
def usS{p:em_}(h:∀a us,ad_=n->p (a::us))(us:ai_)(e:ad_=n+1):p us:=by
 cases us with
 |nil=>cases e
 |cons a us=>exact h a us (Nat.succ.inj e)
def mI{p:em_}(h:∀a,p [a]):∀us:List α,ad_=1->p us:=usS λa us e=>by cases us with|nil=>exact h a|cons=>cases e
def jF{p:em_}(h:∀a b,p ag_):∀us:List α,ad_=2->p us:=usS λa=>mI (h a)
def us3{p:em_}(h:∀a b c,p hM!):∀us:List α,ad_=3->p us:=usS λa=>jF (h a)
def us4{p:em_}(h:∀a b c d,p [a,b,c,d]):∀us:List α,ad_=4->p us:=usS λa=>us3 (h a)
def us5{p:em_}(h:∀a b c d e,p [a,b,c,d,e]):∀us:List α,ad_=5->p us:=usS λa=>us4 (h a)
def M0:Mh:=λ_=>none
def c2j{ns:v!}(hS:Fm KF H a bW!)(hg:g lG_ M0 λd _=>d=.bl true):Yx P w KF 1 g a8! H jl_ λ_ _ _=>False:=
 ⟨rfl,H,lG_,M0,_,Bc.refl H,⟨λa c e=>by cases e⟩,Am.cons (Aq.lst hS (xK ns)) Am.nil,hg,λd M' v G' H' r _ _ q=>by subst r;exact cW q⟩
end
end DL
namespace L2
open PySem PySem.Spec PyProof.Rows
def c1a
  (hN:aR!)(cr:Y_)(hx:a2_)
  (cj:c4!)(ce:c4_)(jx:∀y∈b0_,y.2=.local->scope.names.lookup y.1=some .local)
  (g6:gL!)(cap:c3_)(calm:ao_)(am:mG_)
  (hg:gL_)(hi:wH!)(he:wI!)
  (hs:cT_:=by intro _;rfl)
  (ez:swapsWith hM_ (some ih_) pos.line X.env=pure true:=by rfl)
  (hf:X.fn x=true\/X.env.scope.names.lookup x=some .local:=by first|exact .inl rfl|exact .inr rfl|assumption):
  PS X (.Assign sE! hM_ pos) (BO wJ! ev!):=by
 intro hb s Z H D I h;show"!^"
 rw[exec_Assign_Name_used x pos' _ pos ez];refine JY (TR iB_);unfold evalThenUse;refine JY (wpAny_comprehension_free (use:=some _) rfl hs b6.eq cj jx wI_);obtain⟨it,fp,tn,af,H2,e,I2,T,bg,f2,hw⟩:=h2;subst e;refine xV (RR:=λacc C=>compPost d_ X.A X.xe (some _) _ acc C) cj ce b6 cap calm (hg cl) (hi cl) (he cl) I2 T bg f2 hw λD' C us n ys H' s' I' eD rv ao nD hD hC jk nC ⟨m,hn⟩ fin=>?_;have d9:∀b,b<J!->b≠C/\b≠D':=λb J=>wL_;have pj:∀x c,X.env.cells.lookup x=some c->c<J!:=λx c h=>let⟨_,_,ho,_⟩:=I2.cell x c h;LF ho;have rn:∀p∈X.pn++hb,p.1<J!:=λp hp=>LF (wM_).1;have ID:=I'.track (D:=D') (us:=us) (n:=n) eD rv ao nD wP_ (LQ (gM!).2) wQ! λp hp=>(jx_).2;show wpAny d_ X.A (assign ih_ X.env (.ref D')) _ _ s';refine JY (m:=standAt pos') (TR ?_);refine wpAny_bindName (wE ID hN cr hx (v:=.ref D') rfl (λs3 I3 ⟨a,sb,ha⟩=>?_) hf);have haC:a≠C:=by
  obtain rfl|ha:=ha
  .exact(gM!).1
  .exact(d9 _ (pj _ _ ha)).1
 refine⟨m,hn.sameBut sb (LQ haC),wK!⟩;have nC':upd H' D' aD_ C=none:=by rw[aY (LQ jk)];exact nC
 have IC:Inv X hb (Z.set i (some (.ref D'))) (upd H' D' aD_) {s3 with heap:=h',toks:=s3.toks}:=I3.turned (it:=C) wN! nC' (LQ (gM!).1) wO! wP! λp hp=>(jx_).1;exact KB (KB ⟨_,_,IC,fin D' nD⟩)
end L2
namespace DL
open PySem PySem.Spec PyProof.Rows L2
section
def jZ{pos p2:Pos}
  (hN:aR!)(cr:Y_)(hx:a2_)
  (cj:c4!)(ce:c4_)(jx:∀y∈b0_,y.2=.local->scope.names.lookup y.1=some .local)
  (g6:gL!)(cap:c3_)(hix:jD!)(calm:ao_)(am:qu_)
  (hg:gL_)(ng:oT_)(hi:Cj_)(he:Ck!)
  (bp:aN_:=by decide)(hs:cT_:=by intro _;rfl)
  (ez:swapsWith hM_ (some c9!) pos.line X.env=pure true:=by rfl)
  (hf:X.fn x=true\/X.env.scope.names.lookup x=some .local:=by first|exact .inl rfl|exact .inr rfl|assumption):
  MS X own own (.Assign e3! hM_ pos) (Al i Cl_):=
 oJ (c1a hN cr hx cj ce jx g6 cap calm am.ok hg hi yt! hs ez hf) λM0 G0 F0 E Z G H ρ M R sr e k1 k2=>⟨G,ρ,M,_,sr.st,e,λds ck M1 af G1 H1 r1 x1 m1 eh=>by
  obtain⟨J,r1⟩:=r1;have pi:=sr.st.grow x1 m1;refine b0f J eh ng Cl! r1 λjm ys M' G' H' r x m q _ p hp=>?_;exact k1 _ M' _ _ _ r ((((B6_).grow x m).grow (.ext gV_) (m.ext gV_)).set bp (cZ oV! q))⟩
end
end DL
namespace DL
open PySem PySem.Spec PyProof.Rows L2
end DL
namespace XS
open PySem
abbrev frA(l:ao!):List Addr:=l.filterMap (·.frame)
structure Kp(ar fr:a1_)(h h':Heap):Prop where
 old:∀b o,b∉ar->b∉fr->h.get? b=some o->h'.get? b=some o
 frm:∀b o,b∈fr->h.get? b=some o->∃sl,h'.get? b=some {o with slots:=sl}
 thr:∀b o,h.get? b=some o->∃o',h'.get? b=some o'
 sz:bQ_<=fI_
def Kp.trans(a:rm!)(b:Kp ar fr h2 h3):Kp ar fr Y h3:=
 ⟨λx o l m e=>b.old x o l m rn!,λx o m e=>by
  obtain⟨sl,e1⟩:=a.frm x o m e;obtain⟨fq,e2⟩:=b.frm x _ m e1;exact⟨fq,e2⟩,λx o e=>let⟨o1,e1⟩:=a.thr x o e;b.thr x o1 e1,LV a.sz b.sz⟩
def Kp.weak(a:Kp ar fr h h')(J:∀b∈ar,b∈ya):Kp ya fr h h':=⟨λx o l m e=>a.old x o (λz=>l (J x z)) m e,a.frm,a.thr,a.sz⟩
def Kp.skip(a:rm!)(b:Kp ya fr h2 h3)(J:∀x∈ya,x∈ar\/Y.get? x=none):Kp ar fr Y h3:=
 ⟨λx o l m e=>b.old x o (λz=>(J x z).elim l λq=>by rw[q]at e;cases e) m rn!,λx o m e=>by
  obtain⟨sl,e1⟩:=a.frm x o m e;obtain⟨fq,e2⟩:=b.frm x _ m e1;exact⟨fq,e2⟩,λx o e=>let⟨o1,e1⟩:=a.thr x o e;b.thr x o1 e1,LV a.sz b.sz⟩
structure XN(n:Heap)(h:Heap)(e:u0!)(cls:zp!):Prop where
 new:n.get? e=none
 ex:∃oe vs,h.get? e=some oe/\oe.cls=cls/\oe.data=.fields vs/\vs[1]?=some .none
structure XF(n:Heap)(h:Heap)(e T:u0!)(cls fl:zp!):Prop where
 new:n.get? e=none
 ex:∃oe vs oT ts,h.get? e=some oe/\oe.cls=cls/\oe.data=.fields vs/\vs[1]?=some (.ref T)/\n.get? T=none/\T≠e/\h.get? T=some oT/\oT.data=.fields ts/\ts[3]?=some fl
section
variable{s:zz!}{n:Heap}
def c4y(hl:en_)(hn:eo!)(he:ro_):e∉frA bj_:=λhm=>by obtain⟨o,q⟩:=hn e hm;rw[he]at q;cases q
def c5b(dr:fM_)(hl:en_)(hf:fN!)(hn:eo!)(cf:fN_)
  (hne:ro_)(he:s.heap.get? e=some oe)(hc:oe.cls=cls)(hd:oe.data=.fields vs)(hsz:1<vs.size)
  (k:rp!):
  wpAny M A (do setField X_ 1 (<-EntryCells.newEntry WU (<-frameOf env) .none lI_ .none (<-entryPlaceOf L hadNext))) Q E s:=by
 have WV:=c4y (s:=s) hl hn hne;refine JY (wpAny_frameOf_fun dr hl hf λY so=>?_);refine JY (wpAny_entryPlaceOf λpl au=>?_);unfold EntryCells.newEntry newFields;refine JY (NT ?_ (au.sizeOk5 _ _ _ _ _));have e1:Y.get? e=some oe:=(so.2.1 e WV).trans he;have eT:e<hO_:=LF e1;generalize hob:({cls:=.type "traceback",dict:=none,data:=.fields (rp_).toArray}:Obj)=ob;have WW:ob.data=.fields (rp_).toArray:=by rw[<-hob]
 have hobf:ob.isFreed=false:=PY WW;have e2:(Y.push ob).get? e=some oe:=KC _ e1;refine RI e2 hd hsz ?_;have d3:=OT hd rq_;have e3:=NZ rr! e2 (PY d3);have bx:∀b o,b≠e->Y.get? b=some o->(rs!).get? b=some o:=λb o J eb=>by
  rw[LS _ _ gq_];exact KC _ eb
 have tT:(rs!).get? hO_=some ob:=by
  rw[LS _ _ (LU eT)];exact LC _ hobf
 have s1:h_=hO_:=so.1.symm;refine k _ Y.objs.size (by rw[s1];exact KU _) ⟨hne,_,_,ob,_,e3,(Obj.cls_mapFields _ _).trans hc,d3,rt!,cf _ a!,PN eT,tT,WW,?_⟩ ⟨λb o J hbf eb=>?_,λb o J eb=>?_,λb o eb=>?_,by rw[QV,QB,s1];exact OL _⟩ (hl.of_keeps λb o eb tu=>?_)
 .obtain rfl|⟨_,_,_,_,_,_,_,rfl⟩:=au<;>simp
 .refine bx b o fP! ?_;rw[so.2.1 b hbf];exact eb
 .show"!~";exact⟨sl,bx b _ (λz=>WV (z▸J)) j7⟩
 .show"!~";by_cases dt:b=e
  .subst dt;exact⟨_,e3⟩
  .exact⟨_,bx b _ dt j7⟩
 .show"!~";exact⟨_,bx b _ (λz=>by subst z;rw[he]at eb;cases eb;exact tu _ hd) j7,rfl⟩
def a2p(dr:fM_)(hl:en_)(hf:fN!)(hn:eo!)(cf:fN_)(x:XN n s.heap e cls)
  (k:rp!):wpAny M A lL_ Q E s:=by
 obtain⟨hne,oe,vs,he,hc,hd,Y⟩:=x;unfold noteFrame;simp only[hf];refine JY lM_;rw[KN (show¬((Value.none != Value.none)=true)by decide)];exact c5b dr hl hf hn cf hne he hc hd (NR.mp Y).1 k
def wS(dr:fM_)(hl:en_)(hf:fN!)(hn:eo!)(cf:fN_)(x:rx_)(hfl:fl≠rawInt L)
  (k:∀h' T',h_<=T'->XF n h' e T' cls lI_->Kp [e,T] fO! s.heap h'->h'.FunFrames base bj_->Q () {s with heap:=h'}):wpAny M A lL_ Q E s:=by
 obtain⟨hne,oe,vs,oT,ts,he,hc,hd,Y,hT,qm,ht,j8,h3⟩:=x;unfold noteFrame;simp only[hf];refine JY lM_;rw[ry!];refine JY (MV ht j8 h3 ?_);rw[KN (show¬((fl==rawInt L)=true)by simpa using hfl)];refine JY (RI ht j8 (NR.mp h3).1 ?_);have bx:∀b,b≠T->(hQ!).get? b=s.heap.get? b:=λb J=>LS _ _ gq_;have yb:T∉frA bj_:=c4y (s:=s) hl hn hT;have kp:Kp [e,T] fO! s.heap hQ!:=
  ⟨λb o J _ eb=>by rw[bx b fP!];exact eb,λb o J eb=>rz_,λb o eb=>by
   by_cases J:b=T
   .subst J;exact⟨_,NZ _ ht rA!⟩
   .exact⟨o,by rw[bx b J];exact eb⟩,RG (QV ..).symm⟩
 have lq:(hQ!).FunFrames base bj_:=hl.of_keeps λb o eb tu=>⟨o,by
  rw[rB!];exact eb,rfl⟩
 have hz:(hQ!).objs.size=h_:=QV ..;refine c5b (s:={s with heap:=s.heap.update T ry_}) dr lq hf hn (by rw[hz];exact cf) hne ((rB_).trans he) hc hd (NR.mp Y).1 λh' T' a0 a1 a2 a3=>k h' T' (by rw[<-hz];exact a0) a1 (kp.trans (a2.weak c!)) a3
def a0r(hl:s.heap.FunFrames base l)(hn:∀b∈frA l,∃o,n.get? b=some o)(x:rx_)
  (k:∀h',XF n h' e T cls rC!->Kp [T] (frA l) s.heap h'->h'.FunFrames base l->fI_=h_->Q () {s with heap:=h'}):wpAny M A (setFlight X_ fo) Q E s:=by
 obtain⟨hne,oe,vs,oT,ts,he,hc,hd,Y,hT,qm,ht,j8,h3⟩:=x;have hsz:=(NR.mp h3).1;unfold setFlight;refine JY lM_;rw[ry!];have bx:∀b,b≠T->(s.heap.update T rC_).get? b=s.heap.get? b:=λb J=>LS _ _ gq_;have yb:T∉frA l:=λhm=>by obtain⟨o,q⟩:=hn T hm;rw[hT]at q;cases q
 have self:=NZ rC_ ht rA!;refine RI ht j8 hsz (k _ ⟨hne,oe,vs,_,_,(rB_).trans he,hc,hd,Y,hT,qm,self,OT j8 _,rt!⟩
  ⟨λb o J _ eb=>by rw[bx b fP!];exact eb,λb o J eb=>rz_,λb o eb=>by
   by_cases J:b=T
   .subst J;exact⟨_,self⟩
   .exact⟨o,by rw[bx b J,eb]⟩,RG (QV ..).symm⟩
  (hl.of_keeps λb o eb tu=>⟨o,by rw[rB!];exact eb,rfl⟩) (QV ..))
inductive Xq(n:Heap)(h:Heap)(e:u0!)(cls:zp!)(L:u0!):List Addr->Prop
 |new:XN n h e cls->Xq n h e cls L [e]
 |on {T:u0!}:XF n h e T cls .none->Xq n h e cls L [e,T]
def d0w(dr:fM_)(hl:en_)(hf:fN!)(hn:eo!)(cf:fN_)(x:Xq n s.heap e cls L ar)
  (k:∀h' T,rD!->XF n h' e T cls .none->Kp ar fO! s.heap h'->h'.FunFrames base bj_->Q () {s with heap:=h'}):wpAny M A (leaving env X_) Q E s:=by
 have WX:∀{T:u0!},h_<=T->s.heap.get? T=none:=λ{T} hT=>by
  cases q:s.heap.get? T with
  |none=>rfl
  |some o=>exact absurd (LF q) (Nat.not_lt.mpr hT)
 unfold leaving;cases x with
 |new x=>
  refine JY (a2p dr hl hf hn cf x λY T a0 a1 a2 a3=>?_);show"!V"
 |on x=>
  refine JY (wS dr hl hf hn cf x hU! λY T a0 a1 a2 a3=>?_);show"!V"
end
end XS
namespace XS
open PySem PySem.Spec PyProof.Rows L2
def BB(base:Heap)(P:zy!)(w:zx!):BI:=λouter H s E e s'=>∃(a T:u0!) (cls:zp!) (H':Hp),e=.ref a/\s'.os=s.os/\AllBare s'.gens/\Un (frs outer) [] H H' s.heap s'.heap/\Lp P w H' s'.heap/\
 XF s.heap s'.heap a T cls .none/\H' a=none/\H' T=none/\s'.heap.FunFrames base outer/\E cls none H'
def Lo(m n:Heap):Prop:=∀b,n.get? b=none->m.get? b=none
def In(n h:Heap):Prop:=∀b,bQ_<=b->n.get? b=none
def Lo.in(l:Lo n h):In n h:=λb z=>l b (Heap.get?_none_of_le z)
def Lo.of(k:∀b o,h.get? b=some o->∃o',h'.get? b=some o'):Lo h h':=λb z=>by
 cases y:h.get? b with
 |none=>rfl
 |some o=>obtain⟨o',e⟩:=k b o y;rw[z]at e;cases e
def XF.low(x:XF n h e T cls fl)(l:Lo m n):XF m h e T cls fl:=by obtain⟨hne,oe,vs,oT,ts,he,hc,hd,Y,hT,r⟩:=x;exact⟨l _ hne,oe,vs,oT,ts,he,hc,hd,Y,l _ hT,r⟩
def Xq.ge(x:lR_):∀b∈ar,n.get? b=none:=by
 intro b J;cases x with
 |new x=>simp at J;subst J;exact x.new
 |on x=>
  obtain⟨hne,oe,vs,oT,ts,he,hc,hd,Y,hT,r⟩:=x;simp at J;obtain rfl|rfl:=J
  .exact hne
  .exact hT
structure Nw(X:Cx)(hb:s_)(n:Heap):Prop where
 s0:∀b o,b∉X.ex->X.s₀.heap.get? b=some o->∃o',n.get? b=some o'
 loc:∃o,n.get? X.env.locals=some o
 cel:∀x c,X.env.cells.lookup x=some c->∃o,n.get? c=some o
 pin:∀p∈X.pn++hb,∃o,n.get? p.1=some o
 frm:∀b∈frA X.stack,∃o,n.get? b=some o
def Em.there(x:lG!):∃u,h.get? a=some u:=by
 cases o with
 |lst xs=>obtain⟨_,_,_,_,e⟩:=x;exact bn_
 |tup xs=>obtain⟨_,_,_,_,e,_⟩:=x;exact bn_
 |dK h1=>obtain⟨_,_,_,_,o,_,_,e,_⟩:=x;exact bn_
 |dT h1=>obtain⟨_,_,_,_,o,_,_,e,_⟩:=x;exact bn_
 |set S n=>obtain⟨o,_,_,_,e,_⟩:=x;exact bn_
 |ins C dx fs=>obtain⟨_,_,_,e,_⟩:=x;exact bn_
 |own y=>obtain⟨_,e⟩:=x;exact bn_
 |xd fs=>obtain⟨_,⟨_,_,_,e,_⟩,_⟩:=x;exact bn_
 |rng lo hi=>obtain⟨_,_,_,e⟩:=x;exact bn_
 |frz ob u=>obtain⟨e,_⟩:=x;exact bn_
 |tbl ps=>exact⟨_,hL_⟩
 |met f y=>exact⟨_,hL_⟩
 |ext φ=>obtain⟨_,⟨_,e⟩,_⟩:=x;exact bn_
def Lp.none(x:a1!)(e:h.get? a=none):H a=none:=by
 cases q:H a with
 |none=>rfl
 |some u=>
  obtain⟨o,ho⟩:=Em.there (x a u q);rw[e]at ho;cases ho
section
variable{X:Cx}{s:zz!}
def Nw.here(I:d!):Nw X hb s.heap where
 s0:=λb o hx e=>I.base.there b o e hx
 loc:=by obtain⟨m,⟨o,_,_,ho,_⟩,_⟩:=I.loc;exact lS_
 cel:=λx c h=>by
  obtain⟨v,o,ho,_⟩:=I.cell x c h;exact lS_
 pin:=λp hp=>⟨_,(mu_).1⟩
 frm:=λb J=>by
  obtain⟨_,o,ho,_⟩:=I.stack.mem J;exact lS_
def c2x(I:d!):∀b∈frA X.stack,H b=none:=I.stkFree
def b9q(I:d!)(N:Nw X hb n)(u:Un hW! ar H H' s.heap h')(hok:hT!)(hg:lO_)(J:∀b∈ar,n.get? b=none):
  Inv X hb Z H' {s with heap:=h',gens:=g',drawn:=d',toks:=t'}:=by
 have nb:∀b∈ar,∀o,n.get? b≠some o:=λb h o z=>by rw[J b h]at z;cases z
 have n0:∀b∈ar,b∈X.ex\/X.s₀.heap.get? b=n4!:=λb h=>by
  by_cases hx:b∈X.ex
  .exact .inl hx
  .refine .inr ?_;cases q:X.s₀.heap.get? b with
   |none=>rfl
   |some o=>obtain⟨o',e⟩:=N.s0 b o hx q;exact absurd e (nb b h o')
 have nl:∀b∈ar,b≠X.env.locals:=λb h z=>by subst z;obtain⟨o,e⟩:=N.loc;exact nb _ h o e
 have nc:∀b∈ar,∀x c,X.env.cells.lookup x=some c->c≠b:=λb h x c hc z=>by subst z;obtain⟨o,e⟩:=N.cel x c hc;exact nb _ h o e
 have np:∀b∈ar,∀p∈X.pn++hb,p.1≠b:=λb h p hp z=>by subst z;obtain⟨o,e⟩:=N.pin p hp;exact nb _ h o e
 have nf:∀b∈ar,b∉frs X.stack:=λb h z=>by obtain⟨o,e⟩:=N.frm b z;exact nb _ h o e
 have nfs:∀b∈ar,b∉X.fs:=λb h z=>by
  refine nf b h ?_;obtain e|⟨e,ef⟩:=lO!
  .rw[e];exact z
  .rw[e];simp only[frs,RF,ef];exact KA _ z
 have ok:=I.ok
 let X':Cx:={X with ex:=X.ex++ar}
 have k1:∀b∈X.ex++ar,b≠X.env.locals/\∀x c,X.env.cells.lookup x=some c->c≠b:=λb f8=>by
  obtain q|q:=KR.mp f8
  .exact ok.exf b q
  .exact⟨nl b q,nc b q⟩
 have k2:∀b o,X.base.get? b=some o->b∉X.ex++ar:=λb o e z=>by
  obtain q|q:=KR.mp z
  .exact ok.noex b o e q
  .obtain r|r:=n0 b q
   .exact ok.noex b o e r
   .rw[(ok.bs b o e).1]at r;cases r
 have k3:∀b∈X.ex++ar,b∉X.fs:=λb f8=>by
  obtain q|q:=KR.mp f8
  .exact ok.exfs b q
  .exact nfs b q
 have ok':X'.Ok:=⟨ok.mod,ok.kind,ok.glob,ok.blt,ib!,ok.inj,ok.has,ok.cab,ok.hd,ib_,ok.stk,k1,ok.bs,ok.bsz,k2,k3,ok.funs,ok.frf⟩;have I':Inv X' hb Z H s:=⟨ok',I.os,I.bare,I.base.mono (λ_ z=>z) (λ_ z=>LD _ z),I.loc,I.cell,I.free,I.freeC,I.pin,I.hok,I.len⟩;have J':=I'.call (g':=g') (t':=t') (d':=d') (ch:=ar) u hok hg λb h=>⟨.inl (KJ _ h),nl b h,nc b h,np b h⟩;have out:∀b o,X.s₀.heap.get? b=some o->b∉X.ex->b∉X.ex++ar:=λb o e hx z=>by
  obtain q|q:=KR.mp z
  .exact hx q
  .obtain r|r:=n0 b q
   .exact hx r
   .rw[e]at r;cases r
 have B:=J'.base;exact⟨ok,J'.os,J'.bare,⟨λb o e m hf hx=>B.keep b o e m hf hW_,λb o e m hf hx=>B.slot b o e m hf hW_,λb o e m hx=>B.free b o e m hW_,λb o e hx=>B.there b o e hW_,B.tups,B.frzs,B.tbls⟩,
  J'.loc,J'.cell,J'.free,J'.freeC,J'.pin,J'.hok,J'.len⟩
def c9m(kp:lU_):Un hW! ar H H s.heap h' where
 keep:=λb o e _ hf J=>kp.old b o J hf e
 slot:=λb o e _ hf _=>kp.frm b o hf e
 free:=λ_ _ _ n _=>n
 there:=λb o e _=>kp.thr b o e
 tups:=λ_ _ e=>e
 frzs:=λ_ _ _ e=>e
 tbls:=λb ps e=>lX!
def c7q(I:d!)(kp:lU_)(J:∀b∈ar,H b=none):Lp X.prog X.w H h':=λb u e=>
 (lY!).stay (λd o hd eo=>by
  have mh:∃u,H d=some u:=by
   obtain rfl|hd:=hd
   .exact⟨u,e⟩
   .exact⟨_,hd⟩
  obtain⟨v,hv⟩:=mh;exact kp.old d o (λz=>by rw[J d z]at hv;cases hv) (λz=>by rw[c2x I d z]at hv;cases hv) eo) fK_ λ_ _ q=>q
def a0k(I:d!)(N:Nw X hb n)(kp:lU_)(J:∀b∈ar,H b=none/\n.get? b=none):Inv X hb Z H {s with heap:=h'}:=
 b9q (g':=s.gens) (t':=s.toks) (d':=s.drawn) I N (c9m kp) (c7q I kp λb h=>(J b h).1) I.bare λb h=>(J b h).2
end
def c3b{h:Heap}{outer:ao!}(x:h.FunFrames base bj_):h.FunFrames base outer:=x.2.2
section
def b7c(I:Inv hY_ hb Z H1 s1)(Nn:Nw hY_ hb n)(cf:In n s1.heap)
  (x:Xq n s1.heap e cls s.heap.objs.size ar)(J:∀b∈ar,H1 b=none)(q:E cls none H1):
  (hY_).xe X_ s1:=by
 refine d0w (base:=base) (n:=n) I.ok.frames I.stack rfl Nn.frm cf x λh' T hT xf kp ff=>?_;have af:=a0k I Nn kp λb h=>rI!;refine⟨e,T,cls,H1,rfl,af.os,af.bare,af.base,af.hok,xf.low vN!,?_,?_,c3b ff,q⟩
 .cases y:s.heap.get? b with
  |none=>rfl
  |some o=>
   obtain⟨o',e'⟩:=Nn.s0 b o hU! y;rw[z]at e';cases e'
 .cases x with
  |new _=>exact J e c!
  |on _=>exact J e c!
 .obtain h|h:=hT
  .exact J T h
  .exact I.hok.fresh h
end
def IU:List Value:=[rJ!,rK_,rJ_,rL!]
structure GB(KF:zA!)(N:u0!):Prop where
 mk::
 at_:∃c d es ep sl,KF.lookup N=some ⟨c,d,.dict es ep,sl⟩/\(es.all λe=>match e.key with|.str _ _=>true|_=>false)=true
 no:W.nsIn KF N "__init__"=some none
def CZ(KF:zA!)(C:u0!):Prop:=∃B N nm q bs hdct sn sub ab col dd k0 k1 k2 k3 k5 c0 d1 cd sl,KF.lookup C=some (excClassObj nm q C N bs (.ref B::IU) hdct sn sub ab col dd k0 k1 k2 k3 k5 "ValueError.__new__")/\KF.lookup B=some ⟨c0,d1,.cls cd,sl⟩/\GB KF N/\GB KF cd.ns
def c7v{sub:k_}{k0 k1 k2 k3 k5:rN!}
  (la:KF.lookup C=some (excClassObj nm q C N bs [.ref B,rJ!,rK_,rJ_,rL!] hdct sn sub ab col dd k0 k1 k2 k3 k5 "ValueError.__new__"))(lb:KF.lookup B=some ⟨c0,d1,.cls {name:=nm1,bases:=bs1,mro:=mro1,ns:=N1,qualname:=q1,hasDict:=hdct1,slotNames:=sn1,subclasses:=sub1,abstract:=ab1,collection:=col1,hasDel:=del1},sl⟩)
  (lc:KF.lookup N=some ⟨c2,d2,.dict es ep,s2⟩)(ld:(es.toList.all λe=>match e.key with|.str _ _=>true|_=>false)=true)(le:W.nsIn KF N "__init__"=some none)(lf:KF.lookup N1=some ⟨c3,d3,.dict es1 tz,s3⟩)(lg:(es1.toList.all λe=>match e.key with|.str _ _=>true|_=>false)=true)(lh:W.nsIn KF N1 "__init__"=some none):CZ KF C:=
 ⟨B,N,nm,q,bs,hdct,sn,sub,ab,col,dd,k0,k1,k2,k3,k5,c0,d1,_,sl,la,lb,⟨⟨_,_,_,_,_,lc,by rw[<-Array.all_toList];exact ld⟩,le⟩,⟨⟨_,_,_,_,_,lf,by rw[<-Array.all_toList];exact lg⟩,lh⟩⟩
def GB.ok(n:GB KF N):W.nsOkIn KF N=true:=by obtain⟨⟨c,d,es,ep,sl,e1,e2⟩,_⟩:=n;unfold W.nsOkIn;rw[e1];exact e2
def c7u(X:fg_)(q:CZ KF C):∃bm N nm q bs hdct sn sub ab col dd k0 k1 k2 k3 k5 mN,h.get? C=some (excClassObj nm q C N bs bm hdct sn sub ab col dd k0 k1 k2 k3 k5 "ValueError.__new__")/\h.Ns N mN/\mN "__init__"=none/\OwnTail h IU bm:=by obtain⟨B,N,nm,q,bs,hdct,sn,sub,ab,col,dd,k0,k1,k2,k3,k5,c0,d1,cd,sl,l1,l2,n1,n2⟩:=q;exact⟨_,N,nm,q,bs,hdct,sn,sub,ab,col,dd,k0,k1,k2,k3,k5,_,X _ _ l1,.of_isNs (W.isNs_of_in X n1.ok),W.nsMap_none_of_in X n1.ok n1.no,.own (X _ _ l2) (.of_isNs (W.isNs_of_in X n2.ok)) (W.nsMap_none_of_in X n2.ok n2.no) .base⟩
section
def made(I:d!)(m:Heap.MadeExcOf s.heap h' e cls args):Inv X hb Z H {s with heap:=h'}/\XN s.heap h' e cls/\H e=none:=by refine⟨I.un (t':=s.toks) (Un.kept m.keeps) (I.hok.kept m.keeps),⟨m.new,?_⟩,Lp.none I.hok m.new⟩;obtain⟨t,ht,_⟩:=m.there;exact⟨_,_,ht,rfl,rfl,rfl⟩
def b4v{R:rT!}(hC:nY!)(hh:l1_)(hg:H_)(hm:ge!)(he:PE X ex te)
  (hR:∀(hb:s_) (Z:L2.St) (H:Hp) (s:zz!) (h':Heap) (e:u0!) (n:Heap),Inv X hb Z H {s with heap:=h'}->Nw X hb n->In n h'->XN n h' e U_->H e=none->R U_ H->X.xe X_ {s with heap:=h'})
  (ax:y!:=by decide)(hst:rU!:=by rfl):
  PS X rV! rV_:=by
 intro hb s Z H D I h;obtain⟨bm,N,nm,q,bs,hdct,sn,sub,ab,col,dd,k0,k1,k2,k3,k5,mN,c1,c2,hni,c3⟩:=c7u I.ok.mod.kin hC;refine wpAny_Raise_call_subU (C:=C) (mN:=mN) (nm:=nm) (q:=q) (N:=N) (bs:=bs) (bm:=bm) (hdct:=hdct) (sn:=sn) (sub:=sub) (ab:=ab) (col:=col) (dd:=dd) (k0:=k0) (k1:=k1) (k2:=k2) (k3:=k3) (k5:=k5) PySem.F.excBase_ValueError b! PySem.F.excBase_ValueError (c3.hasType b!) hh (by rw[hst];rfl) hni (iD I hg hm h! ax);rw[hst];show wpAny _ _ (evalArgs U_ true rU_ []) _ _ _;refine QE (OD cT!);rintro u s1 ⟨v,H1,I1,r1,q1⟩;refine QH ?_;refine⟨rfl,by simp[sizeLine],I1.bk _ _ c1,c2.keeps I1.bk,c3.keeps I1.bk,λh' e m=>?_⟩;obtain⟨af,xn,hn⟩:=made I1 m;exact hR hb Z H1 s1 h' e s1.heap af (Nw.here I1) (Lo.of λb o y=>⟨o,m.keeps b o y⟩).in xn hn q1
end
def Xq.at(x:lR_):Xq n h e cls L' ar:=by
 cases x with
 |new x=>exact .new x
 |on x=>exact .on x
def Xq.mem(x:lR_):e∈ar:=by cases x<;>simp
section
def d1w(dr:fM_)(hl:en_)(hf:fN!)(hn:eo!)(cf:fN_)(x:Xq n s.heap e cls L0 ar)
  (k:∀h' T fl,rD!->XF n h' e T cls fl->Kp ar fO! s.heap h'->h'.FunFrames base bj_->Q () {s with heap:=h'}):wpAny M A lL_ Q E s:=by
 cases x with
 |new x=>exact a2p dr hl hf hn cf x λY T a0 a1 a2 a3=>k Y T _ hT_ a1 a2 a3
 |on x=>exact wS dr hl hf hn cf x hU! λY T a0 a1 a2 a3=>k Y T _ hT_ a1 a2 a3
end
def Lv(X:Cx)(R:rT!):Prop:=∀(hb:s_) (Z:L2.St) (H:Hp) (s:zz!) (n:Heap) (a:u0!) (cls:zp!) (ar:a1_),Inv X hb Z H s->Nw X hb n->In n s.heap->Xq n s.heap a cls 0 ar->(∀b∈ar,H b=none)->R cls H->X.xe F! s
def d0s{KF:zA!}:
  Lv hY_ λcls H'=>E cls none H':=λhb Z H1 s1 n a cls ar I Nn i x J q=>b7c I Nn i x.at J q
def c1m(hX:Lv X R)(hE:∀cls H',E' cls none H'->R cls H'):Kc (BB X.base X.prog X.w) X E':=by
 intro hb Z H s e s' I h;obtain⟨a,T,cls,H',rfl,os,bare,un,hok,xf,ha,hT,ff,q⟩:=h;obtain⟨hh,g,d,t,v7⟩:=s';obtain rfl:v7=s.os:=os;have af:=I.call (h':=hh) (g':=g) (d':=d) (t':=t) (ch:=[]) un hok bare tY!;refine hX hb Z H' _ s.heap a cls _ af (Nw.here I) (Lo.of λb o y=>un.there b o y c!).in (.on xf) hX! (hE _ _ q);simp at J;obtain rfl|rfl:=J
 .exact ha
 .exact hT
def b1g(hX:Lv X R)(hC:nY!)(hh:l1_)(hg:H_)(hm:ge!)(he:PE X ex te)
  (ax:y!:=by decide)(hst:rU!:=by rfl):
  PS X rV! rV_:=
 b4v hC hh hg hm he (λhb Z H s h' e n I N i x hn q=>hX hb Z H _ n e _ _ I N i (.new x) (λb J=>by simp at J;subst J;exact hn) q) ax hst
end XS
namespace XS
open PySem PySem.Spec PyProof.Rows PySem.W L2
abbrev BC(X:Cx)(pn:s_)(f:K_):Cx:={X with pn:=pn,xe:=f}
abbrev Uf(X:Cx)(e:u0!)(pn:s_):Cx:={X with A:=X.A.mark (some X_),calm:=false,pn:=pn,xe:=λ_ _=>False}
section
def uR(I:d!)(ok:g9.Ok)(hY:g9={X with A:=g9.A,calm:=g9.calm,pn:=g9.pn,xe:=g9.xe})(hp:∀p∈g9.pn++uk,s.heap.get? p.1=some p.2/\H p.1=none/\p.1≠X.env.locals/\p.1∉X.fs/\∀v,lN!≠.cell v)
  (hl:ac.length=ep!)(hs:∀(i:Nat) (v:V),ac[i]?=some a2!->Z[i]?=some a2!):Inv g9 uk ac H s:=by
 obtain⟨m,hn,h⟩:=I.loc;have:=I.len;rw[hY];exact⟨hY▸ok,I.os,I.bare,I.base,⟨m,hn,λi x v e1 e2 e3=>h i x v e1 (hs i v e2) e3⟩,I.cell,I.free,I.freeC,hp,I.hok,hl.trans I.len⟩
def d1s(ok:X.Ok):(er!).Ok:=ic!
def c6q(ok:(er!).Ok):X.Ok:=ic!
def d0h(ok:X.Ok):(Uf X e pn).Ok:=⟨ok.mod,ok.kind,ok.glob,ok.blt,ib!,ok.inj,ok.has,ok.cab,λz=>Bool.noConfusion z,ib_,ok.stk,ok.exf,ok.bs,ok.bsz,ok.noex,ok.exfs,ok.funs,ok.frf⟩
def d1t(ok:(Uf X e pn).Ok)(hd:X.calm=true->hP_=none):X.Ok:=⟨ok.mod,ok.kind,ok.glob,ok.blt,ib!,ok.inj,ok.has,ok.cab,hd,ib_,ok.stk,ok.exf,ok.bs,ok.bsz,ok.noex,ok.exfs,ok.funs,ok.frf⟩
def b2p(I:d!)(oz:h'.Ns X.env.locals m')(hs:Heap.SameBut X.env.locals s.heap h')
  (hl:∀(j:Nat) (y:Str) (v:V),X.N[j]?=some y->ac[j]?=some a2!->Xe X.env.scope y->∃u,Bn v u/\FD X.env h' m' y u)(len:ac.length=lN_):Inv X hb ac H {s with heap:=h',toks:=t}:=by
 have ne:∀b o,X.s₀.heap.get? b=some o->b≠X.env.locals:=λb o e=>LU lP!;refine⟨I.ok,I.os,I.bare,⟨λb o e n J hx=>(rZ!).trans hV!,fP_,I.base.free,lQ_,I.base.tups,I.base.frzs,I.base.tbls⟩,⟨_,oz,hl⟩,rR_,I.free,I.freeC,cP!,λb ob e=>?_,len⟩
 .show"!@";exact⟨sl,r0!⟩
 .show"!:";exact⟨o',r0!⟩
 .obtain⟨w',z⟩:=I.cell y c e;exact⟨w',z.sameBut hs (I.cne y c e)⟩
 .show"!N";exact rW_
 .refine(rP_).stay rQ! fK_ λ_ _ q=>q;rintro rfl;obtain rfl|hc:=hc
  .rw[I.free]at e;cases e
  .rw[I.free]at hc;cases hc
end
structure AM(KF:zA!)(C0:u0!):Prop where
 tup:W.instIn KF aI_ be_=some false
 cls:∃cd,W.clsIn KF C0=some cd
 exc:W.subIn KF aI_ r1!=some true
def c8r(ta:W.instIn KF aI_ be_=some false)(tb:W.clsIn KF C0=some cd)(tc:W.subIn KF aI_ r1!=some true):AM KF C0:=⟨ta,⟨_,tb⟩,tc⟩
def a6m(X:f6!)(C:AM KF C0)(he:s.heap.get? a=some oe)(hc:oe.cls=.ref c)(hs:W.subIn KF ch! aI_=some true)
  (h:Q true s):wpAny M A (excMatches F! aI_) Q E s:=by
 obtain⟨hh,g,d,tk,os⟩:=s;obtain⟨Y,h2,h3⟩:=C;have L1:=W.looks_instIn (M:=M) X Y;have L2:=W.looks_subIn (M:=M) X h3;have L3:=W.looks_subIn (M:=M) X hs;have Lt:Looks M hh (isType aI_) true:=by
  obtain⟨cd,h2⟩:=h2;unfold W.clsIn at h2;split at h2
  .rename_i ho;intro A' Q' E' s' k q;unfold isType loadHead;exact JY (UU (k _ _ (X _ _ ho)) (KB q))
  .cases h2
 have Le:Looks M hh (isExcClass aI_) true:=Lt.andThen L2;have Ly:Looks M hh (typeOf F!) ch!:=λA' Q' E' s' k q=>JY r3_;unfold excMatches;refine JY (L1.at ?_);rw[KN b!];show"#)";rw[PD];refine JY (JY (JY (Le.at ?_)));simp only[OP,LM,MJ];refine KB ?_;dsimp only;rw[RP];refine KB (JY (Ly.at ?_));rw[PD];refine JY (JY (JY (L3.at ?_)));simp only[MU];exact KB pK!
structure CL(X:Cx)(xC en xn:Str)(C0 L:u0!)(ie ix:Nat):Prop where
 hst:X.stack=X.env::X.outer
 hf:X.env.frame=some L
 hcalm:X.calm=true->hP_=none
 hN:aR!
 hie:X.N[ie]?=some en
 hix:X.N[ix]?=some xn
 hne:en≠xn
 hke:X.env.scope.names.lookup en=some .local
 hkx:X.env.scope.names.lookup xn=some .local
 hg:Gl X xC
 hm:X.mg xC=some aI_
 C:AM X.K C0
def Qj(n ix:Nat)(v:V):L2.St:=(r6!).set ix a2!
section
variable{D:Sy}{hv:Addr->Option V}
nonrec def xT(X:Cx)(hb:s_)(D:Sy)(h0:ExceptHandler):Value->Shared->Prop:=λe ai=>wpAny d_ X.A (noteFrame e X.env) (λ_ aj=>wpAny d_ X.A (setFlight e none) (λ_ c7=>wpAny d_ X.A (handleBy e X.env [h0]) l8! X.xe c7) X.xe aj) X.xe ai
def c7a(tc:ma!)
  (t0:r7!)
  (ez:mb!)(ax:fU_):
  Lv r9_ λcls H'=>∃c v,cls=.ref c/\subIn X.K ch! aI_=some true/\hv c=some v/\D.nx mc_ H':=by
 obtain⟨hst,hf,hcalm,hN,hie,hix,hne,hke,hkx,hg,hm,C⟩:=tc;intro uk ac H' s' n a cls ar I Nn i x J q;obtain⟨c,v,rfl,WB,hvc,hD⟩:=q;have dr:X.A.frames=some h6!:=by rw[<-hst];exact I.ok.frames
 have cf:∀b∈frA h6!,∃o,n.get? b=some o:=by rw[<-hst];exact Nn.frm
 have hl:s'.heap.FunFrames X.base h6!:=by rw[<-hst];exact I.stack
 refine d1w dr hl hf cf i x λY T fl a0 a1 a2 a3=>?_;have hTn:H' T=none:=by
  obtain z|z:=a0
  .exact J T z
  .exact I.hok.fresh z
 have hTg:n.get? T=none:=let⟨_,_,_,_,_,_,_,_,_,z,_⟩:=a1;z;rw[<-hst]at a2;have J1:=a0k I Nn a2 λb h=>rI!;have tk:∀b∈[T],H' b=none/\n.get? b=none:=λb h=>by simp at h;subst h;exact⟨hTn,hTg⟩
 refine a0r (s:={s' with heap:=Y}) (fo:=none) a3 cf a1 λh2 b1 b2 b3 b4=>?_;rw[<-hst]at b2;have J2:=a0k J1 Nn b2 tk;refine wpAny_handleBy_cons (codeAny_handlers_test ?_) (by intro q;cases q);have I2:Inv (Uf X a b1!) [] ac H' {s' with heap:=h2}:=uR (ok:=d0h (c6q J2.ok)) J2 rfl (λp hp=>J2.pin p (LD _ md!)) rfl λ_ _ z=>z;refine iD (X:=Uf X a b1!) I2 hg hm ?_ ax;obtain⟨fh,oe2,VN,oT2,ts2,e2,c2,d2,r2⟩:=id b1;refine a6m I2.kIn C e2 c2 WB ?_;dsimp only;refine codeAny_handlers_suite_as ?_;refine a0r (s:={s' with heap:=h2}) (fo:=none) b3 cf b1 λh3 c1' WY c3 c4=>?_;rw[<-hst]at WY;have J3:=a0k J2 Nn WY tk;obtain⟨_,oe,vs3,oT3,ts3,e3,cc3,d3,r3⟩:=c1';have xu:H' a=none:=J _ x.mem;have nz:a≠X.env.locals:=λz=>by subst z;obtain⟨o,w⟩:=Nn.loc;rw[show n.get? X.env.locals=some o from w]at fh;cases fh
 have haf:a∉X.fs:=λz=>by
  obtain⟨o,w⟩:=cf a (by
   show a∈List.filterMap _ h6!;rw[RF,hf];exact KA _ z)
  rw[fh]at w;cases w
 have I3:Inv sd! [] ac H' {s' with heap:=h3}:=uR (ok:=d0h (c6q J3.ok)) J3 rfl (λp hp=>by
  rw[LR]at hp;obtain hp|hp:=KR.mp hp
  .exact J3.pin p ir!
  .simp at hp;subst hp;exact⟨e3,xu,nz,haf,λv z=>by rw[d3]at z;cases z⟩) rfl λ_ _ z=>z
 refine nN (X:=Uf X a h6_) (v:=bA!) I3 hN hie (.inl hke) rfl (λs4 I4=>?_) (.inr hke);have he4:me![ie]?=some jY_:=MC (by rw[I3.len];exact(KS.mp hie).1);have P:=fR (tJ (X:=Uf X a h6_) (pos:=ap) (pos':=xp) hN hix (.inl hkx) (t0 a h6_ oe c c! cc3) ez (.inr hkx));refine NQ (P [] s4 _ H' {nx:=λσ5 H5=>σ5=(me!).set ix a2!/\H5=H',rt:=λ_ _=>False} I4 ⟨he4,v,hvc,rfl,rfl⟩) (λf s5 z=>?_) λ_ _ z=>z.elim;cases f<;>first|(obtain⟨_,_,_,z⟩:=z;exact z.elim)|(obtain⟨_,_,_,_,_,z⟩:=z;exact z.elim)|skip
 obtain⟨_,_,I5,rfl,rfl⟩:=z;dsimp only;obtain⟨m,hn,hlk⟩:=id I5.loc;have hix5:ix<((me!).set ix a2!).length:=by rw[I5.len];exact(KS.mp hix).1
 refine wpAny_nameGoes_keeps hke hn (by rw[show X.env.scope.kind=.function from I5.ok.kind];rfl) λh6 w hn6 WZ=>?_;have I6:Inv sd! [] mc_ _ {s5 with heap:=h6,toks:=s5.toks+1}:=b2p I5 hn6 WZ (λj y u e1 e2 e3=>by
  have hj:j=ix:=by
   by_cases z:j=ix
   .exact z
   .unfold Qj at e2;rw[LP (LQ z),OO]at e2;split at e2<;>cases e2
  subst hj;rw[show X.N[j]?=some xn from hix]at e1;cases e1;unfold Qj at e2;rw[MC (by rw[PP];exact(KS.mp hix).1)]at e2;cases e2;obtain⟨u',r',lk⟩:=hlk j _ _ hix (MC (by simpa using hix5)) e3;refine l3!;obtain⟨k,e⟩|⟨k,c,e,z⟩:=lk
  .exact .inl ⟨k,by simp[LQ hne,e]⟩
  .exact .inr ⟨k,c,e,z.sameBut WZ (I5.cne _ c e)⟩) (by unfold Qj;simp)
 exact⟨_,_,uR (ok:=d1t I6.ok hcalm) I6 rfl (λp hp=>I6.pin p (by simp only[LR];exact LD _ hp)) rfl λ_ _ z=>z,hD⟩
def c5y{t:(Value->Hp->Prop)->TS}(tc:ma!)
  (t0:r7!)
  (J:∀pn f R,Lv er! R->Ox er! body (t R))
  (ez:mb!:=by rfl)(ax:fU_:=by decide):
  PS X sk_ λD Z H=>t (λcls H'=>∃c v,cls=.ref c/\subIn X.K ch! aI_=some true/\hv c=some v/\D.nx mc_ H') D Z H:=by
 intro hb s Z H D I h;have lv:=c7a (cp:=cp) (hp:=hp) (hb:=hb) (D:=D) tc t0 ez ax;refine wpAny_Try_except (NQ (J _ _ _ lv [] s Z H D (uR (ok:=d1s I.ok) I rfl (λp hp=>I.pin p md!) rfl λ_ _ z=>z) h) (λf s1 z=>?_) λe s1 z=>z);have u8:∀{bt H1},Inv r9_ [] bt H1 s1->Inv X hb bt H1 s1:=λaf=>uR (ok:=c6q af.ok) af rfl (λp hp=>af.pin p md!) rfl λ_ _ z=>z;cases f with
 |next=>obtain⟨bt,H1,af,q⟩:=z;exact SN mh_
 |brk=>obtain⟨bt,H1,af,q⟩:=z;exact mh_
 |cont=>obtain⟨bt,H1,af,q⟩:=z;exact mh_
 |ret u=>obtain⟨v,bt,H1,af,r,q⟩:=z;exact⟨v,bt,H1,u8 af,r,q⟩
end
end XS
namespace DL
open PySem PySem.Spec PyProof.Rows L2 XS
abbrev EK:=Addr->Mh->Prop
abbrev BD:=List D->Mh->pV!->EK->Prop
def XR(P:zy!)(w:zx!)(KF:zA!)(M0:Mh)(G0 F0:Hp)(E:EK):Value->Hp->Prop:=λcls H'=>∃c M' G',cls=.ref c/\E c M'/\XM M0 G0 F0 M' G' H'/\MR P w KF M' G' H'
def IG(P:zy!)(w:zx!)(KF:zA!)(n:Nat)(g:BD):Sp:=λvs H Q E=>a5!=n/\∃G ds M R EM,Bc G H/\MR P w KF M G H/\Am KF G ds vs/\g ds M R EM/\(∀d M' v G' H',R d M'->XM M G H M' G' H'->MR P w KF M' G' H'->Aq KF G' d v->Q v H')/\∀cls H',XR P w KF M G H EM cls H'->E cls none H'
def AJ(P:zy!)(w:zx!)(KF:zA!)(mg:O_)(base:Heap)(k:Nat)(x:Str)(ps:G_)(g:BD):Prop:=
 ∃ae fd,Fk P w KF mg base lV! k ae fd ps (IG P w KF ps.length g)/\Eu KF fd ps []/\mg x=some be!/\W.keepIn KF be!=true
section
variable{KF:zA!}{st:Stmt}
def AJ.m(h:AJ P w KF mg base k x ps g):Iz P w KF mg base k x ps λds M R=>g ds M R λ_ _=>False:=by
 obtain⟨ae,fd,F,h2,h3,h4⟩:=h;refine⟨ae,fd,⟨λvs H Q E z=>z.1,?_⟩,h2,h3,h4⟩;rintro A outer s H args us vs Q E hr e0 J hv ⟨hl,G,ds,M,R,sub,m,r,e,kk⟩;refine SZ (F.run A outer s H args us vs Q jm! hr e0 J hv ⟨hl,G,ds,M,R,_,sub,m,r,e,kk,λcls H' ⟨_,_,_,_,z,_⟩=>z⟩) λr s' z=>?_;cases r with
 |ok f=>cases f<;>exact z
 |error e=>obtain⟨_,_,_,_,_,_,_,_,_,_,_,_,_,z⟩:=z;exact z
def tR{q:EK->WS}(d:pD!)(S:c3!)
  (J:∀{ae:u0!} {ag:zp!} {A:zm!} {outer:ao!} {s:zz!} {H:Hp} {E:XK} {M0:Mh} {G0 F0:Hp} {EM:EK},Ah k kr!->Lv sm! (XR P w KF M0 G0 F0 EM)->N.Nodup->
   Ox sm! bp_ (CU P w KF M0 G0 F0 [] [] (q EM))):
  AJ P w KF mg base M_ x ps λds M R E=>Bo N ps.length (q E) ds M R:=by
 obtain⟨ae,fd,F,B,m⟩:=d;refine⟨ae,fd,?_,B,m,F.kp⟩;show"!C";refine c4z lk bq S yQ_ λA outer s H vs Q E hr h=>?_;obtain⟨hl,G,ds,M,R,EM,sub,m,r,e,kk,ke⟩:=h;refine⟨_,J (M0:=M) (G0:=G) (F0:=H) (EM:=EM) hr (λhb Z H1 s1 n a cls ar I Nn i y z q=>d0s hb Z H1 s1 n a cls ar I Nn i y z (ke cls H1 q)) S.nd,?_⟩;have er:=sU (N:=N) sub r;exact Cx_
end
section
variable{st:Stmt}{rest body b1 b2:List Stmt}{pos p2:Pos}{M0:Mh}
abbrev TX(X:Cx)(M0:Mh)(G0 F0:Hp)(own cg:o!)(q:WS):TS:=CU X.prog X.w X.K M0 G0 F0 own cg q
def d1x(h:qo_):PS X st ia!:=h.ok M0 G0 F0
def b2e(h:Ut X.nox own be rest q1):Ox X rest ia!:=Ox.nox (h.ok M0 G0 F0)
def oI(Y:PS X st ia!)(h2:Ox X rest (TX X M0 G0 F0 be jz q2)):Ox X id! (TX X M0 G0 F0 own jz (Af q1 q2)):=λhb s Z H D I ⟨G,ρ,M,R,sr,e,k1,k2⟩=>
 tI Y h2 hb s Z H D I B2!
def a9f(hc:kI!)(Y:Ox X b1 ia!)(h2:Ox X b2 (TX X M0 G0 F0 own be q2)):PS X oX! (TX X M0 G0 F0 own be B4!):=by
 rintro hb s Z H D I ⟨G,ρ,M,R,sr,e,k1,k2⟩;refine b4w hc.ok Y h2 hb s Z H D I B4_;cases b with
 |true=>exact kB kZ_
 |false=>exact kP kZ_
def Pp(C:u0!)(E:EK)(f:WE):WS:=λρ M _=>f ρ M λ_ M1=>E C M1
def a2t(hX:Lv X mj_)(hC:nY!)(hh:l1_)(hg:H_)(hm:ge!)(he:bu!)
  (ax:y!:=by decide)(hst:starEach [e] X.env=[dA!]:=by rfl):
  PS X (.Raise (some (.Call vN_ [e] [] ah)) none pos) (TX X M0 G0 F0 own be (Pp C E f)):=λhb s Z H D I ⟨G,ρ,M,R,sr,e',k1,k2⟩=>
 b1g hX hC hh hg hm he.ok ax hst hb s Z H D I ⟨G,ρ,M,_,sr.st,e',λd M' v G' H' r x m q=>⟨C,M',G',rfl,r,sr.x.trans x qp_,m⟩⟩
def BL(P:zy!)(w:zx!)(KF:zA!)(M0:Mh)(G0 F0:Hp)(own:o!)(f:WE):TE:=λZ H Q=>∃G ρ M R,Ja P w KF own M0 G0 F0 M G H Z ρ/\f ρ M R/\∀d M' v G' H',R d M'->XM M G H M' G' H'->MR P w KF M' G' H'->Aq KF G' d v->Q v H'
def Gp(n:Nat)(g:BD)(E:EK)(fs:WA):WE:=λρ M R=>fs ρ M λds M1=>g!=n/\g ds M1 R E
def mE(hX:Lv X mj_)(F:AJ X.prog X.w X.K X.mg X.base k x ps g)(hr:a8_)(hg:H_)(ha:ft!)
  (ax:y!:=by decide)(he:ah!:=by rfl)(au:aM!:=by rfl):
  PE X a9! (BL X.prog X.w X.K M0 G0 F0 own (Gp ps.length g E fs)):=by
 show"#%";rintro hb s Z H Q I ⟨G,ρ,M,R,sr,e',k⟩;refine yQ Y hr hg h3 h4 h2 .nil (c1m (E':=λcls _ H'=>XR X.prog X.w X.K M0 G0 F0 E cls H') hX λ_ _ z=>z) ha.ok ax he au hb s Z H Q I ⟨G,ρ,M,_,sr.st,e',Cm_⟩;show IG X.prog X.w X.K ps.length g oB! H1 Q _;rw[LR];refine⟨Cn!,G1,ds,M1,R,E,x1.sub,m1,q1,r1.2,pZ!,?_⟩;rintro cls H' ⟨c,M',G',h5,h6,h7,h8⟩;exact⟨c,M',G',h5,h6,(sr.x.trans x1 qp_).trans h7 m1,h8⟩
def a6h(hN:aR!)(hi:Y_)(hx:a2_)(h:sp_)(bp:aN_:=by decide)(hs:oW_:=by rfl)
  (hf:X.fn x=true\/X.env.scope.names.lookup x=some .local:=by first|exact .inl rfl|exact .inr rfl|assumption):PS X (.Assign [.Name x p2] e pos) (TX X M0 G0 F0 own own (Al i f)):=λhb s Z H D I ⟨G,ρ,M,R,sr,e',k1,k2⟩=>
 tJ hN hi hx h hs hf hb s Z H D I ⟨G,ρ,M,_,sr,e',B3!⟩
def zD(h:sp_)(hs:mm!:=by rfl):PS X mm_ (TX X M0 G0 F0 own own (Bq f)):=λhb s Z H D I ⟨G,ρ,M,R,sr,e',k1,k2⟩=>
 nW h hs hb s Z H D I ⟨G,ρ,M,_,sr,e',B5!⟩
def BJ(n ix:Nat)(hv:Addr->Option D)(q:EK->WS):WS:=λρ M R=>q (λc M1=>Ed (hv c) λd=>R (.nx ((r6!).set ix cz!)) M1) ρ M R
def c6x{hw:Addr->Option V}(tc:ma!)
  (t0:∀a pn oe c,eZ!∈pn->oe.cls=.ref c->PE h5_ he λZ H Q=>Z[ie]?=some hb_/\∃v,hw c=some v/\Q v H)
  (hvw:∀c d,hv c=some d->W.subIn X.K ch! aI_=some true/\∃v,hw c=some v/\∀G,Aq X.K G d v)
  (J:∀pn f M0 G0 F0 E,Lv er! mj_->Ox er! body (TX X M0 G0 F0 [] [] (q E)))
  (ez:mb!:=by rfl)(ax:fU_:=by decide):
  MS X [] [] sk_ (BJ X.N.length ix hv q):=⟨by
 rintro M0 G0 F0 hb s Z H D I ⟨G,ρ,M,R,sr,e,k1,k2⟩;refine c5y (hv:=hw) (t:=λRR D Z H=>∃E,(∀cls H',XR X.prog X.w X.K M0 G0 F0 E cls H'->RR cls H')/\TX X M0 G0 F0 [] [] (q E) D Z H) tc t0
  (λpn f RR lv hb s Z H D I ⟨E,hE,h⟩=>J pn f M0 G0 F0 E (λp1 p2 p3 p4 p5 p6 p7 p8 p9 p10 p11 p12 p13 z=>lv p1 p2 p3 p4 p5 p6 p7 p8 p9 p10 p11 p12 p13 (hE _ _ z)) hb s Z H D I h) ez ax hb s Z H D I ⟨_,?_,G,ρ,M,R,sr,e,k1,k2⟩
 rintro cls H' ⟨c,M',G',rfl,e',x,m⟩;obtain⟨d,hd,hR⟩:=cX e';obtain⟨hs,v,v4,rep⟩:=hvw c d hd;refine⟨c,v,rfl,hs,v4,k1 _ M' G' _ H' hR ⟨⟨⟨x.sub,by unfold Qj;simp,λj d' q _=>?_,id_,id_⟩,m,id_⟩,x,id_⟩⟩;have hl:ix<lN_:=(KS.mp tc.hix).1;by_cases hj:j=ix
 .subst hj;rw[MC mo!]at q;cases q;exact⟨v,MC mo!,rep G'⟩
 .rw[l3_,OO]at q;split at q<;>cases q⟩
end
section
variable{X:Cx}{pos p1 p2 p3:Pos}
def b3c:Io X jN_ λxs H Q=>∃a C1 oe,xs=[bA!,.ref C1]/\eZ!∈X.pn/\oe.cls=.ref C1/\Q w_ H:=by intro hb s Z H xs us Q I r h;obtain⟨a,C1,oe,rfl,hp,hc,q⟩:=h;obtain⟨u,w',rfl,r1,r2⟩:=wC r;cases (show u=Value.ref a from r1);cases (show w'=Value.ref C1 from r2);have he:=(I.pin _ ir!).1;exact W.isi_call I.kIn (λM A' Q' E' s' k q=>JY r3_) (by simp[W.isIn]) dS_ ⟨dt_,H,I,rfl,q⟩
def IR(C1:u0!)(c:u0!):Option D:=if c=C1 then some w_ else none
def FT(C1:u0!)(c:u0!):Option V:=if c=C1 then some w_ else none
def c1j{ie:Nat}(hN:st!)(hk:X.env.scope.names.lookup en=some .local)(hg:oM!)(hm:oN_)(hv:oN!)(ml:Gl X xC)(mz:st_)
  (hd:fU_:=by decide)(yc:sv_:=by decide)(yd:sv!:=by decide)
  (he:sw_:=by rfl)(iq:sx_:=by rfl)
  (au:(backTo pos sy!).any c_=false:=by rfl):
  ∀a pn oe c,eZ!∈pn->oe.cls=.ref c->PE h5_ (.Call sy_ mp! [] pos) λZ H Q=>Z[ie]?=some hb_/\∃v,FT C1 c=some v/\Q v H:=by
 show"#.";unfold FT at e2;split at e2
 .rename_i h;subst h;cases e2;exact nY (X:=ig!) b3c hg hm hv (dC (jT (X:=ig!) hN l4_ yc yd) (dC (a8s (X:=ig!) (v:=V.ref c) ml mz rfl hd) fK iq) he) b! b! he au hb s Z H Q I ⟨bA!,e1,a,c,oe,rfl,hp,hc,q⟩
 .cases e2
def hvw(h:sz!):∀c d,IR C1 c=some d->W.subIn X.K ch! aI_=some true/\∃v,FT C1 c=some v/\∀G,Aq X.K G d v:=λc d e=>by
 unfold IR at e;unfold FT;show"!8"
 .rename_i h';subst h';cases e;exact⟨h,_,A!,λG=>Aq.bl⟩
 .cases e
end
end DL
namespace DL
open PySem PySem.Spec PyProof.Rows L2
end DL
namespace DL
open PySem PySem.Spec PyProof.Rows L2 XS
def DU:D->Prop
 |.int i=>cU!<10 ^ 60
 |.str x=>cV!<=1000
 |.tup [.int i,.int j]=>cU!<10 ^ 60/\j.natAbs<10 ^ 60
 |_=>False
def b6y{v:Int}(h:v.natAbs<10 ^ 60):v.natAbs.log2<1920:=by
 by_cases z:v.natAbs=0
 .rw[z];decide
 .exact(Nat.log2_lt z).mpr (Nat.lt_trans h i_)
def b7b{i:Int}(h:cU!<10 ^ 60):(Str.ofString mr_).length<=61:=by rw[PySem.ofString_length];exact int_text_length_le10 b! h
section
variable{pos p1 p2 p3:Pos}
def c2y(hr:a8_)(I:d!)(sub:E!)(r:Aq X.K G d v)(rv:a3!)(hd:DU d)
  (hQ:∀x t s',cV!<=1000->Inv X hb Z H s'->Q fH_ s'):wpAny d_ X.A (formatField u Str.empty) Q X.xe s:=by
 have big:100000<=sizeLine:=by decide
 unfold DU at hd;split at hd
 .rename_i i;cases aZ r;obtain⟨t,rfl⟩:=rv;have:=b7b hd;exact formatField_int_small (b6y hd) (hQ _ _ _ a! ((eD!).tok _))
 .rename_i x;cases cD r;obtain⟨t,rfl⟩:=rv;exact formatField_str (λt' tk=>hQ _ _ _ hd (I.tok tk)) a!
 .rename_i i j;obtain⟨a,vs,rfl,qa,rr⟩:=bR r;obtain⟨v1,t1,rfl,r1,rr⟩:=bM rr;obtain⟨v2,t2,rfl,r2,rr⟩:=bM rr;cases cM rr;cases aZ r1;cases aZ r2;cases (show u=Value.ref a from rv);obtain⟨its,vr,⟨o,Y,h2,n,h3⟩,_⟩:=I.tuple (cC sub qa);obtain⟨u1,u2,rfl,w1,w2⟩:=wC vr;obtain⟨k1,rfl⟩:=w1;obtain⟨k2,rfl⟩:=w2;have l1:=b7b hd.1;have l2:=b7b hd.2;have ls:(sC_).shown.length<=1000:=by
   show(tupleText [Str.ofString mr_,Str.ofString sD!]).length<=1000;show((Str.ofString "(")++(Str.ofString mr_++Str.ofString ", "++Str.ofString sD!)++Str.ofString ")").length<=1000;have e1:(Str.ofString "(").length=1:=by decide+kernel
   have e2:(Str.ofString ", ").length=2:=by decide+kernel
   have e3:(Str.ofString ")").length=1:=by decide+kernel
   simp only[Str.length_append];omega
  have un:=hr.un;have dp:(sC_).depth<=5:=by simp[PyData.depth,PyData.depthAll]
  refine formatField_of_reads (d:=.tuple mE!) (.tuple Y h2 h3 (.cons (.int i k1) (.cons (.int j k2) .nil))) (by simp[PyData.showable,PyData.showableAll,b6y hd.1,b6y hd.2]) (λz=>by simp[PyData.hasDict,PyData.hasDictAll]at z) hr.gd a! (λb o e=>e) (λh' u tk hk=>?_) a!;exact hQ _ _ _ ls ((I.un (t':=s.toks) (Un.kept hk) (I.hok.kept hk)).tok tk)
 .exact hd.elim
nonrec def g0:Ag->Prop:=λ_=>True
nonrec def gN(i:Nat)(g:mt!):Ag->Prop:=λρ=>(∃d,ρ[i]?=some cz!/\DU d)/\g ρ
structure FJ(X:Cx)(own:o!)(n:Nat)(es:cR!)(g:mt!):Prop where
 ok:∀(hb:s_) (s:zz!) (Z:St) (G H:Hp) (ρ:Ag) (out:Str) (Q:K_),Inv X hb Z H s->OR X.K own G H Z ρ->g ρ->out.length+n<=100000->(∀x t s',Inv X hb Z H s'->Q fH_ s')->wpAny d_ X.A (joinParts out (evalEach es X.env)) Q X.xe s
def b8i:FJ X own 0 [] g0:=⟨λhb s Z G H ρ out Q I er _ hl hQ=>by
 have big:100000<=sizeLine:=by decide
 exact joinParts_nilE (joinParts_nil (hQ _ _ _ eD!) a!)⟩
def d1a(h:sE_):FJ X own (s2.length+n) (.Constant (.str s2) j p1::es) g:=⟨λhb s Z G H ρ out Q I er hg hl hQ=>by
 have big:100000<=sizeLine:=by decide
 exact joinParts_consE (joinParts_cons (Calls.Constant_str ⟨sF!,h.ok hb _ Z G H ρ _ Q eD! er hg sF_ hQ⟩))⟩
def c7t(hr:a8_)(hN:Y_)(hv:cl!)(hi:aN_)(h:sE_)(hd:y!:=by decide)(bq:cl_:=by decide):
  FJ X own (1000+n) (.FormattedValue (.Name x p1) (-1) none p2::es) (gN i g):=⟨by
 rintro hb s Z G H ρ out Q I er ⟨⟨d,e1,hs⟩,hg⟩ hl hQ;have big:100000<=sizeLine:=by decide
 obtain⟨v,f1,f2⟩:=er.at_ i _ e1 hi;refine joinParts_consE (joinParts_cons (FormattedValue_plain (dF (jT hN hv hd bq hb s Z H (λw H'=>w=v/\H'=H) I ⟨_,f1,rfl,rfl⟩) ?_)));rintro u s' ⟨y,H',I',r,rfl,rfl⟩;exact c2y hr I' er.sub f2 r hs λy t s2 hy I2=>⟨sF!,h.ok hb _ Z G _ ρ _ Q I2 er hg sF_ hQ⟩⟩
def Xn(g:mt!):WE:=λρ M R=>g ρ/\∀x,R bx_ M
def b6t(h:FJ X own n sI! g)(hn:n<=100000:=by decide):ME X own (.JoinedStr sI! pos) (Xn g):=⟨λhb s Z H Q I ⟨G,ρ,M,R,st,⟨e1,e2⟩,k⟩=>
 JoinedStr_many (h.ok hb s Z G H ρ Str.empty _ I st.or e1 (by show 0+n<=_;omega) λx t s' I'=>⟨.str x,H,I',K!,k _ M _ G H (e2 x) kG! st.mr Aq.str⟩)⟩
end
section
variable{X:Cx}{pos p1 p2 p3 p4 p5 p6:Pos}{M0:Mh}
def EU(C1:u0!)(x:Str)(c:u0!):Option D:=if c=C1 then some bx_ else none
def FS(C1:u0!)(x:Str)(c:u0!):Option V:=if c=C1 then some bx_ else none
def c1k{ie j1 j2:Nat}(hN:st!)(hk:X.env.scope.names.lookup en=some .local)(hg:oM!)(hm:oN_)(hv:oN!)(ml:Gl X xC)(mz:st_)
  (hd:fU_:=by decide)(yc:sv_:=by decide)(yd:sv!:=by decide)
  (he:sw_:=by rfl)(iq:sx_:=by rfl)
  (au:(backTo p4 sy!).any c_=false:=by rfl):
  ∀a pn oe c,eZ!∈pn->oe.cls=.ref c->PE h5_ (.IfExp (.Call sy_ mp! [] p4) (.Constant bx_ j1 p5) (.Constant (.str y) j2 p6) pos) λZ H Q=>Z[ie]?=some hb_/\∃v,FS C1 x c=some v/\Q v H:=by
 show"#.";unfold FS at e2;split at e2
 .rename_i h;cases e2;refine tK (X:=ig!) (a5r (c1j hN hk hg hm hv ml mz hd yc yd he iq au a pn oe c hp hc)) yP yP hb s Z H Q I ⟨e1,dt_,KM h,true,rfl,kB q⟩
 .cases e2
def d2c(h:sz!):∀c d,EU C1 x c=some d->W.subIn X.K ch! aI_=some true/\∃v,FS C1 x c=some v/\∀G,Aq X.K G d v:=λc d e=>by
 unfold EU at e;unfold FS;show"!8"
 .rename_i h';subst h';cases e;exact⟨h,_,A!,λG=>Aq.str⟩
 .cases e
end
end DL
namespace DL
open PySem PySem.Spec PyProof.Rows L2
def IJ:Option mv_->Array Value
 |none=>#[]
 |some (b,t)=>#[.int b t,.int b t]
def Xm(k:Int):Option mv_->List Int->Int
 |some (b,_),xs=>xs.foldl max b
 |none,x::xs=>xs.foldl max x
 |none,[]=>k
section
variable{s:zz!}{full:List Value}{k:Int}
def sQ{h h':Heap}(k:∀b o,b∉[I]->h.get? b=some o->h'.get? b=some o):∀b o,b≠I->b≠S->h.get? b=some o->(h'.update S f).get? b=some o:=λb o b1 b2 e=>(LS _ _ (LQ b2)).trans (k b o mw! e)
def b3s:(IJ (some (b,t))).size<=sizeLine:=by show 2<=sizeLine;rw[MY];decide
def a9e(hh:bC!)(ye:l≠I)(t3:S≠I)(yf:S≠l):∀(xs:v!) (us:k_) (j:Nat) (acc:Option mv_) (h:Heap) (tk c:Nat),full.drop j=us->j<=il!->IntsAre us xs->(acc=none->xs=[]->∃t,kw=[(Str.ofString "default",.int k t)])->
  h.IsListIter I l j->h.IsList l im!->h.get? S=some (seqObj "list" (IJ acc) c)->
  (∀t h' df,sM_->R (.ok (.ret (.int (Xm k acc xs) t))) {s with heap:=h',toks:=df})->
  codeAny C! A sN_ R {s with heap:=h,toks:=tk}
 |[],us,j,acc,h,tk,c,hd,hj,hi,ha,it,il,hS,hR=>by
  have W:=Walks.list (prog:=P) (w:=w) (A:=A.in1) hh I l ye im!;cases hi;have e1:il!<=j:=List.drop_eq_nil_iff.mp hd;have ej:j=full.toArray.size:=by rw[KH];omega
  refine UH PySem.F.entry_max_loop ?_;rw[sO!];refine JY sO_;refine JY (US (W.done _ _ _ ⟨by rw[<-ej];exact it,il⟩ λh' df k=>?_))
  match acc,ha with
  |none,ha=>
   obtain⟨t,rfl⟩:=ha rfl rfl;exact JY (OE (KB (hR t _ _ λb o b1 b2 e=>k b o mw! e)))
  |some (b,t),_=>
   exact JY (wpAny_updateSeq (hz:=b3s) (k S _ sP! hS) rfl (JY (RB (KB (hR t _ _ (sQ k))))))
 |x::xs,us,j,acc,h,tk,c,hd,hj,hi,ha,it,il,hS,hR=>by
  have W:=Walks.list (prog:=P) (w:=w) (A:=A.in1) hh I l ye im!;have nm:sR!="max.loop":=by decide
  cases hi with
  |@cons _ t us _ hi=>
   have al:j<il!:=by
    obtain z|z:=OU j il!
    .exact z
    .rw[List.drop_eq_nil_iff.mpr z]at hd;cases hd
   have hv:full[j]?=some (.int x t):=by
    have:=congrArg (·[0]?) hd;simpa[List.getElem?_drop]using this
   have mh:full.drop bS!=us:=by
    rw[<-List.tail_drop,hd];rfl
   refine UH PySem.F.entry_max_loop ?_;rw[sO!];refine JY sO_;have go:∀(y:Int) (ty:Tok),y=max (Xm k acc [x]) y->∀(h':Heap) (df c':Nat),sM_->h'.IsListIter I l bS!->h'.IsList l im!->h'.get? S=some (seqObj "list" #[.int y ty,.int y ty] c')->Xm k acc eF!=xs.foldl max y->
     codeAny C! A sN_ R {s with heap:=h',toks:=df}:=λy ty _ h' df c' k it' il' jq e=>
    a9e hh ye t3 yf xs us bS! (some (y,ty)) h' df c' mh al hi hU! it' il' jq λt' h2 tk2 k2=>by
     have:=hR t' h2 tk2 λb o b1 b2 e=>k2 b o b1 b2 (k b o b1 b2 e);rw[e]at this;exact this
   refine JY (US (W.item j _ _ _ (by rw[KH];exact al) ⟨it,il⟩ λv h' df hP st k=>?_));have ev:v=.int x t:=by
    have:full[j]?=some v:=by simpa using hP
    rw[hv]at this;exact(MN this).symm
   subst ev;have jq:=k S _ sP! hS;have kk:∀b o,b≠I->b≠S->h.get? b=some o->h'.get? b=some o:=λb o b1 _ e=>k b o mw! e
   match acc,hR,jq,go with
   |none,hR,jq,go=>
    show wpAny _ A.in1 (updateSeq S (λ_=>#[.int x t,.int x t])>>=_) _ _ _;refine JY (wpAny_updateSeq jq rfl ?_);rw[nm];refine KB ⟨SH PJ _,go x t (by simp[Xm]) _ _ _ (sQ k) ?_ ?_ sS! rfl⟩
    .obtain⟨o,e1,e2⟩:=st.1;exact sS_
    .obtain⟨o,e1,e2⟩:=st.2;exact sT!
   |some (b,tb),hR,jq,go=>
    show wpAny _ A.in1 (tryCatch (holding [.int x t,.int x t] (richCompare .Gt (.int x t) (.int b tb)>>=_)) _>>=_) _ _ _;refine JY (US (MH (JY (CmpOf.ints_gt (prog:=P) (w:=w) (A:=A.in1) (P:=λi v=>∃t,v=.int (if i=0 then x else b) t) (λi=>if i=0 then x else b) (λi v h=>h) 0 1 _ _ _ _ _ dL_ ⟨tb,rfl⟩ ?_))));refine JY (MH (MM ?_));refine JY (RB P_);show wpAny _ A.in1 (if decide (x>b)=true then _ else _) _ _ _;by_cases g:x>b
    .rw[LG g,A!];refine JY (wpAny_updateSeq (hz:=b3s) jq rfl (JY (RB ?_)));rw[nm];refine KB ⟨SH PJ _,go x t sU_ _ _ _ (sQ k) ?_ ?_ sS! (by show(eF!).foldl max b=_;rw[QP,show max b x=x by omega])⟩
     .obtain⟨o,e1,e2⟩:=st.1;exact sS_
     .obtain⟨o,e1,e2⟩:=st.2;exact sT!
    .rw[KP g,Q!];refine JY (RB ?_);rw[nm];exact KB ⟨SH PJ _,go b tb sU_ _ _ _ kk st.1 st.2 jq (by show(eF!).foldl max b=_;rw[QP,show max b x=b by omega])⟩
end
end DL
namespace DL
open PySem PySem.Spec PyProof.Rows L2
def b3d:∀(a:zp!) (k:rN!),argsOk "max" ⟨[a],(k.map λv=>sW!).toList⟩
 |_,none=>by unfold argsOk;kernel_rfl
 |_,some _=>by unfold argsOk;kernel_rfl
def b9v:bootBuiltins "max"=some mE_:=by decide+kernel
section
variable{s:zz!}{k:Int}
def a3b(hh:bC!)(hl:Ea_)(hi:IntsAre us xs)(hne:xs=[]->∃t,dv=some (.int k t))
  (hQ:∀t h' df,sW_->Q (.int (Xm k none xs) t) {s with heap:=h',toks:=df}):
  wpAny C! A (call mE_ lu! (sZ!).toList) Q E s:=by
 have nm:sR!="max.loop":=by decide
 obtain⟨ol,hol,_⟩:=id hl;have XA:l<h_:=LF hol;refine kmb_tree PySem.F.kind_max PySem.F.plain_max PySem.F.entry_max (b3d _ _) ?_;refine JY (wpAny_of_eq (show Builtin.Builtins.bindParams "max" ["key","default"] 0 ⟨[],(sZ!).toList⟩=pure [none,dv]by cases dv<;>rfl) ?_);refine JY (KB (JY (wpAny_pyIter_list hl (JY q7_))));rw[nm];generalize hG:s.heap.push {cls:=.type "list_iterator",data:=.fields #[.ref l,.int 0 0]}=G;have hS:G.objs.size=h_+1:=by rw[<-hG];exact size_push' ..
 have gI:G.get? h_=some {cls:=.type "list_iterator",data:=.fields #[.ref l,.int 0 0]}:=by rw[<-hG];exact LC _ rfl
 have gk:∀b o,s.heap.get? b=some o->G.get? b=some o:=λb o e=>by rw[<-hG];exact KC _ e
 refine KB ⟨SH PJ _,a9e (full:=us) (l:=l) (I:=h_) (S:=G.objs.size) hh (LU XA) (by rw[hS];exact PN (RT _)) (by rw[hS];exact PN (SU XA)) xs us 0 none _ _ 0 rfl b9! hi (λ_ z=>by obtain⟨t,rfl⟩:=hne z;exact dL_)
  ⟨_,KC _ gI,rfl,rfl⟩ ?_ km_ λt h' df k=>hQ t h' df λb o e=>?_⟩
 .obtain⟨o,e1,e2⟩:=hl;exact⟨o,KC _ (gk _ _ e1),e2⟩
 .have J:=LF e;exact k b o (LU J) (by rw[hS];exact LU (SU J)) (KC _ (gk b o e))
end
section
variable{p p2 kp pos:Pos}{k:Int}
def uS:∀{xs:v!} {us:k_},Az (xs.map V.int) us->IntsAre us xs
 |[],_,.nil=>.nil
 |x::xs,_,.cons r t=>by obtain⟨tk,rfl⟩:=r;exact .cons x tk (uS t)
def Vi(k:aT_):List D->Option D
 |[.lst ds]=>(Mp ds).bind λxs=>if xs=[]then k.map .int else some s2_
 |_=>none
def AC:=Vi none
def d0p{k:aT_}(h:(if xs=[]then k.map D.int else some s2_)=some d):∃i,d=.int (Xm i none xs)/\(xs=[]->k=some i):=by
 match xs with
 |[]=>obtain⟨i,e,rfl⟩:=KI.mp h;exact⟨i,rfl,λ_=>e⟩
 |x::xs=>cases h;exact⟨0,rfl,s3_⟩
def c2e(hgm:Gl X "max")(xz:X.mg "max"=none)(hc:ao_)(ha:ME X own e fa)(he:gW!:=by rfl):
  ME X own (.Call (.Name "max" p) [e] [⟨some "default",.Constant ir_ j p2,kp⟩] pos) (w1 (λ_=>Vi qQ_) (Ab fa Ad)):=⟨by
 rintro hb s Z H Q I ⟨G,ρ,M,R,st,e1,kq⟩;refine OQ (iP I hgm xz b9v ?_ b! b!);refine callWith_kw (dF ((aC ha aM he).ok pos hb s Z H _ I ⟨G,ρ,M,_,st,e1,λds M1 vs G1 H1 r1 x1 m1 q1=>(⟨ds,M1,G1,r1,x1,m1,q1⟩:∃ds M1 G1,Ed (Vi qQ_ ds) (λd=>R d M1)/\XM M G H M1 G1 H1/\MR X.prog X.w X.K M1 G1 H1/\Am X.K G1 ds vs)⟩) ?_) lu_ lu_ rfl rfl;rintro us s1 ⟨vs,H1,I1,r,ds,M1,G1,r1,x1,m1,q1⟩;refine kws_cons (wpAny_Constant_int Ef_);obtain⟨d,Y,h2⟩:=cX r1;unfold Vi at Y;split at Y
 .rename_i pv;obtain⟨xs,e2,Y⟩:=JZ.mp Y;obtain⟨v,t,rfl,rv,rr⟩:=bM q1;show"!r";obtain⟨its,hv,pl,hz⟩:=I1.list Eg_;obtain⟨u,rfl,ru⟩:=mL r;cases ru;obtain⟨i,rfl,hi⟩:=d0p Y;exact a3b (dv:=some _) (s:={s1 with toks:=s1.toks+1}) (I1.ok.hd hc) pl.isList (uS hv) (λz=>⟨_,by cases hi z;rfl⟩) λt h' df kp=>⟨fY!,H1,I1.kept (t':=df) kp,dL_,kq _ M1 _ G1 H1 h2 x1 m1 Aq.int⟩
 .cases Y⟩
def AV(KF:zA!):List V->Hp->VK->Prop:=λxs H Q=>∃l ys,ys≠[]/\xs=lu!/\Fm KF H l (ys.map V.int)/\Q (.int (Xm 0 none ys)) H
def b3b(hc:ao_):Io X mE_ (AV X.K):=by rintro hb s Z H xs us Q I r ⟨l,ys,ne,e1,sq,q⟩;subst e1;obtain⟨u,rfl,ru⟩:=mL r;cases ru;obtain⟨its,hv,pl,hz⟩:=I.list sq;exact a3b (dv:=none) aS! pl.isList (uS hv) (λz=>(ne z).elim) λt h' df kp=>⟨fY!,H,I.kept (t':=df) kp,dL_,q⟩
def c3v{KF:zA!}:Rp KF (AV KF) AC:=by
 intro vs ds d G H Q sub r Y kq;unfold AC Vi at Y;split at Y
 .obtain⟨xs,e2,Y⟩:=JZ.mp Y;obtain⟨v,t,rfl,rv,rr⟩:=bM r;show"!r";split at Y
  .cases Y
  .rename_i z;cases Y;exact⟨l,_,z,rfl,sub.seq sq,kq _ G H aH! Aq.int⟩
 .cases Y
end
end DL
namespace DL
open PySem PySem.Spec PyProof.Rows L2
abbrev En(h:Heap)(e it:u0!)(f:zp!)(b:Bool)(i:Int)(old:zp!):Prop:=
 h.get? e=some {cls:=.type "enumerate",dict:=none,data:=.fields #[f,.bool b,.ref it,rawInt i,.none,old],slots:=#[]}
section
def a1j(h:Q (s.heap.get? a) s):wpAny l! A (loadIfAlive a) Q E s:=λΓ p hG=>h
def a4a{i T:Nat}{Q:K_}
  (he:En s.heap e it dw_ b i old)(hT:s.heap.get? T=some oT)(hTi:T≠it)(qm:T≠e)(am:mJ!)(hl:mJ_)(hx:tc!)(hne:hx_)
  (hQ:∀h',En h' e it dw_ true fw_ old->h'.IsListIter it l Z_->
   h'.get? h_=some {cls:=.type "tuple",data:=.seq #[.int i s.toks,x]}->fI_=h_+1->
   tb!->Q bk_ {s with heap:=h',toks:=s.toks+1}):
  wpAny l! A (Builtin.«enumerate.__next__» ⟨[.ref e],[]⟩) zw! E s:=by
 show"#@";show wpAny _ _ tc_ _ _ _;refine JY td_;refine JY (wpAny_nextOf_list_item am hl hx λh₁ XB qo=>?_)
 replace qo:Heap.SameBut it hp h₁:=qo
 have u9:En h₁ e it dw_ b i old:=(qo.2 e hne).trans he;show wpAny _ _ (field X_ 3>>=_) _ _ mL!;refine JY (MV u9 rfl (x:=rawInt i) rfl ?_);show wpAny _ _ (field X_ 4>>=_) _ _ mL!;refine JY (MV u9 rfl (x:=bU_) rfl ?_);show wpAny _ _ (mkInt i>>=_) _ _ mL!;refine JY (wpAny_mkInt ?_);show wpAny _ _ (setField X_ 3 qA!>>=_) _ _ ⟨h₁,g,d,tk+1,os⟩;refine JY (OC u9 c! λip va qq=>?_)
 replace qq:Heap.SameBut e h₁ ip:=qq
 replace va:En ip e it dw_ b fw_ old:=va
 show wpAny _ _ (setField X_ 4 .none>>=_) _ _ ⟨ip,g,d,tk+1,os⟩;refine JY (OC va c! λg8 vb qr=>?_)
 replace qr:Heap.SameBut e ip g8:=qr
 replace vb:En g8 e it dw_ b fw_ old:=vb
 show wpAny _ _ (newTuple [.int i tk,x]>>=_) _ _ ⟨g8,g,d,tk+1,os⟩;refine JY (UT ?_);have t6:En (g8.push {cls:=.type "tuple",data:=.seq #[.int i tk,x]}) e it dw_ b fw_ old:=KC _ vb;generalize t9:g8.push {cls:=.type "tuple",data:=.seq #[.int i tk,x]}=jl at t6;have hsz:g8.objs.size=f2_:=by rw[qr.1,qq.1,qo.1]
 have hel:e<f2_:=LF he;have ht₄:jl.get? f2_=some {cls:=.type "tuple",data:=.seq #[.int i tk,x]}:=by rw[<-t9,<-hsz];exact LC _ rfl
 have hz₄:jl.objs.size=f2_+1:=by rw[<-t9,QB,hsz]
 have XC:∀b o,b≠e->b≠it->hp.get? b=some o->jl.get? b=some o:=λb o dt yg J=>by
  rw[<-t9];exact KC _ (qr.extBut b o dt (qq.extBut b o dt (qo.extBut b o yg J)))
 have hit₄:jl.IsListIter it l Z_:=by
  rw[<-t9];obtain⟨o,ho,r⟩:=(XB.extBut qq.extBut mO!).extBut qr.extBut mO!;exact⟨o,KC _ ho,r⟩
 have hT₄:=XC T oT qm hTi hT;show wpAny _ _ (Builtin.SmallTypes.ownedTupleIsFree X_>>=_) _ _ ⟨jl,g,d,tk+1,os⟩;rw[hsz];clear t9 vb qr va qq u9 qo XB hsz g8 ip h₁;refine JY ?_;unfold Builtin.SmallTypes.ownedTupleIsFree;refine JY (MV t6 rfl (x:=rawInt T) rfl ?_);show wpAny _ _ (loadIfAlive (((T:Nat):Int).toNat)>>=_) _ _ _;rw[QA];refine JY (a1j ?_);show wpAny _ _ (if(jl.get? T).isNone=true then _ else _) _ _ _;rw[hT₄];show wpAny _ _ (field X_ 1>>=_) _ _ _;refine JY (MV t6 rfl (x:=.bool b) rfl ?_);have fin:∀jw,En jw e it dw_ true fw_ old->Heap.SameBut e jl jw->Q (.ref f2_) ⟨jw,g,d,tk+1,os⟩:=λjw yh qt=>
  hQ jw yh (hit₄.extBut qt.extBut mO!) (qt.extBut _ _ (PN hel) ht₄) (by rw[qt.1,hz₄]) λb o dt yg J=>qt.extBut b o dt (XC b o dt yg J)
 cases b with
 |true=>exact KB (KB ⟨_,rfl,fin jl t6 ⟨rfl,iv_⟩⟩)
 |false=>
  show wpAny _ _ (setField X_ 1 eR_>>=_) _ _ _;exact JY (OC t6 c! λjw yh qt=>KB (KB ⟨_,rfl,fin jw yh qt⟩))
def c3e(a:u0!)(xs:cj!)(name:Str)(u:Tok)(XD:typeLookup mQ_ name=pure none)(hname:(["__module__","__name__","__qualname__","__doc__","__annotations__"]:List Str).contains name=false)(hsz:name.length+100<=sizeLine):
  Meets (Builtin.«object.__getattribute__» ⟨[bA!,.str name u],[]⟩) (λA R s=>s.heap.get? a=some {cls:=.type "enumerate",dict:=none,data:=.fields xs,slots:=#[]}/\raisesAttr F! name A R s):=
 Meets.of_wp λprog w A R s hs=>by
  show"#@";obtain⟨hx,hs⟩:=hs;have hT:(fe!:zz!).TypeIs F! "enumerate":=tj!;unfold Builtin.«object.__getattribute__»
  repeat (any_goals (first|assumption|wp_step))
  simp only[hname,LM,MJ]
  repeat (any_goals (first|assumption|wp_step))
  exact wpAny_raiseAttrError hs.1 hs.2 (attrMsg_fits i_ hsz)
def b8r:entryFor table "enumerate.__getattribute__"=some Builtin.«object.__getattribute__»:=
 entryFor_alias (id':="object.__getattribute__") av_ i_ i_ av_
def a7b(hx:s.heap.get? a=some {cls:=.type "enumerate",dict:=none,data:=.fields xs,slots:=#[]})(hA:bC!)
  (h:∀h' tk,sW_->Q none {s with heap:=h',toks:=tk}):wpAny l! A (getAttr? F! "keys") Q E s:=by
 show"#@";have hT:∀df,(⟨hp,g,d,df,os⟩:zz!).TypeIs F! "enumerate":=λ_=>tj!;have XD:typeLookup mQ_ "keys"=pure none:=am_miss_of_fast i_;have f1:=sub_AttributeError;have f3:=SD.lookup;have f4:=SD.bind F!;have f5:typeLookup mQ_ "__getattr__"=pure none:=F.plainAttrs_enumerate.noGetattr;unfold getAttr? getAttrBy? getAttrBy
 repeat (any_goals (first|assumption|exact hT _|((with_reducible show wpAny _ _ (call (Value.builtin "enumerate.__getattribute__") _ _) _ _ _);refine UL SD (hT _) b8r (F.args_enumerate_getattribute_2 _ _) (c3e a xs _ _ XD i_ g6_) ⟨hx,hA,λh' df e iz=>?_⟩)|wp_step))
 obtain⟨t',u',he⟩:=iz.there;show wpAny _ _ (getattributeRaised _ _ _ _ _ _ _) _ _ _;unfold getattributeRaised
 repeat (any_goals (first|assumption|wp_step))
 exact h _ _ iz.keeps
end
def xS:entryFor table "dict.update.loop"=some Builtin.«dict.update.loop»:=entryFor_of_tree av_
def xR:plainId "dict.update.loop"=true:=by decide+kernel
section
variable{xs:List D}
def DB(X:Cx)(hb:s_)(H:Hp)(h:Heap)(e it:u0!)(i:Nat):Prop:=
 CN_\/∃T b old o,En h e it (rawInt (T:Nat)) b i old/\h.get? T=some o/\(∀v,o.data≠.cell v)/\T≠it/\T≠e/\Fu X hb H T
def b8p(I:d!)(st:tn!)(am:mJ!)(hl:mJ_)(hx:tc!)(hne:hx_)
  (hQ:∀h',DB X hb H h' e it Z_->h'.IsListIter it l Z_->h'.get? h_=some {cls:=.type "tuple",data:=.seq #[.int i s.toks,x]}->
   (∀b o,b∉bv!->s.heap.get? b=some o->h'.get? b=some o)->Q (some bk_) {s with heap:=h',toks:=s.toks+1}):
  wpAny d_ A (pyNext X_) Q E s:=by
 have kp:∀{h':Heap},tb!->∀b o,b∉bv!->s.heap.get? b=some o->h'.get? b=some o:=λk b o J eo=>k b o fP! fP! eo;obtain⟨old,he⟩|⟨T,b,old,o,he,hT,hd,Y,h2,hf⟩:=st
 .have ne1:h_≠e:=λz=>OF _ (z▸LF he);have wu:h_≠it:=λz=>by
   obtain⟨o,q,_⟩:=am;exact OF _ (z▸LF q)
  exact wpAny_pyNext_enum_item he am hl hx hne λh' a b c d k=>hQ h' (.inr ⟨_,_,_,_,to!,c,λv z=>(by cases z),wu,ne1,I.fpOk r! eH_⟩) b c (kp k)
 .have XE:s.TypeIs X_ "enumerate":=to_;exact JY (RE (MQ (name:=fc_) XE RZ
   (MF RZ XE F.entry_enumerate_next
    (a4a he hT Y h2 am hl hx hne λh' a b c d k=>KB (hQ h' (.inr ⟨T,_,_,o,to!,k T o h2 Y hT,hd,Y,h2,hf⟩) b c (kp k))) tq!)))
def c3d(hh:bC!)(st:tn!)(am:mJ!)(hl:mJ_)(hx:items[i]?=none)
  (hQ:CK!):wpAny d_ A (pyNext X_) Q E s:=by
 have hg:∃f b old,En s.heap e it f b i old:=by
  obtain⟨old,he⟩|⟨T,b,old,o,he,_⟩:=st
  .exact tq_
  .exact tq_
 obtain⟨f,b,old,he⟩:=hg;have hT:s.TypeIs X_ "enumerate":=to_;refine JY (RE (MQ (name:=fc_) hT RZ
  (MF RZ hT F.entry_enumerate_next ?_ tq!)))
 show wpAny _ _ tc_ _ _ _;refine JY td_;refine JY (wpAny_nextOf_list_end hh am hl hx λh' x iy iz=>?_);obtain⟨o,ho,hc⟩:=iz;refine JY (wpAny_isInstance (T:=pr!) (b:=true) ⟨o,ho,hc⟩ isSubtype_stop ?_);exact KB (hQ _ iy)
def b8q(st:DB X hb H h e it i)(am:h.IsListIter it l i)(hf:tr!):
  ∃fp:List Addr,(∀b∈bv!,b∈fp)/\mv!/\(∀b∈fp,∃o,h.get? b=some o/\∀v,o.data≠.cell v)/\∀(h2:Heap) (H2:Hp),(∀b∈fp,∀o,h.get? b=some o->h2.get? b=some o)->(∀b∈fp,Fu X hb H2 b)->DB X hb H2 h2 e it i:=by
 obtain⟨oi,q1,_,q2⟩:=am;have hi:∃o,h.get? it=some o/\∀v,o.data≠.cell v:=⟨oi,q1,λv z=>by rw[q2]at z;cases z⟩;obtain⟨old,he⟩|⟨T,b,old,o,he,hT,hd,Y,h2,hfT⟩:=st
 .refine⟨bv!,λb J=>J,hf,cn_,λh2 H2 k _=>.inl ⟨old,k e c! _ he⟩⟩;simp only[KG,MO,QR]at J;obtain rfl|rfl:=J
  .exact tr_
  .exact hi
 .refine⟨[T,e,it],λb J=>KA _ J,cn_,cn_,λlp H2 k k2=>.inr ⟨T,b,old,o,k e c! _ he,k T c! _ hT,hd,Y,h2,k2 T c!⟩⟩
  .obtain rfl|J:=KG.mp J
   .exact hfT
   .exact hf b J
  .simp only[KG,MO,QR]at J;obtain rfl|rfl|rfl:=J
   .exact⟨o,hT,hd⟩
   .exact tr_
   .exact hi
def b3g(hi:i<i!):tt!=iz!++[(D.int (i:Nat),xs[i])]:=by rw[PX hi,List.zipIdx_append,LL,QG,Nat.min_eq_left a!];simp
def a7s:D.int (i:Nat)∉(iz!).map c_:=λz=>by
 rw[MD]at z;show"#?";have:=List.snd_lt_of_mem_zipIdx hq;have h2:=D.int.inj e;rw[QG]at this;omega
def b8t(hc:ao_)(hA:bC!)(hu:A.in1.units<cLine)(hne:hx_)(hq:∀{H:Hp},Bc G H->Fm X.K H l vs)(rl:tu!)(hl:i!<=1000):∀(n i:Nat) (j:Int) (s:zz!) (H:Hp) (M:Mh),i! - i=n->i<=i!->Inv X hb Z H s->MR X.prog X.w X.K M G H->Bc G H->M c=some (.dct iz! i)->
  (∀b∈bv!,Fu X hb H b)->DB X hb H s.heap e it i->s.heap.IsListIter it l i->
  (∀H' s',Inv X hb Z H' s'->XM M G H tv! G H'->MR X.prog X.w X.K tv! G H'->R (.ok DV_) s')->
  codeAny d_ A (.builtin "dict.update.loop" ⟨[.ref c,.ref e,rawInt j,bU_],[]⟩) R s:=by
 intro n
 induction n with
 |zero=>
  intro i j s H M hn hi I m sub hM hf st am hR;obtain⟨its,rv,pl,hz⟩:=I.list (hq sub);have Y:=aJ rl;have h2:=ew!;refine UH xS ?_;refine JY (c3d hA st am pl.isList a4! λh' eb=>?_);have I':Inv X hb Z H {s with heap:=h',toks:=s.toks}:=hV (wr:=bv!) I hf λc o hc eo=>eb c o hY! eo;have hx:mup M c cU_=M:=by
   have ei:i=i!:=by omega
   subst ei;rw[List.take_length]at hM;show"#,";split
   .rename_i z;rw[z,hM]
   .rfl
  have:=hR H _ I';rw[hx]at this;exact JY (KB (KB (this (.refl sub) m)))
 |succ n ih=>
  intro i j s H M hn hi I m sub hM hf st am hR;obtain⟨its,rv,pl,hz⟩:=I.list (hq sub);have cr:i<i!:=by omega
  obtain⟨v,gv,rvx⟩:=gM rl (KZ cr);obtain⟨u,og,ru⟩:=rv.get gv;refine UH xS ?_;refine JY (b8p I st am pl.isList (x:=u) (by simpa using og) hne λh' σ ja hT kp=>?_);have I':Inv X hb Z H {s with heap:=h',toks:=s.toks+1}:=hV (wr:=bv!) I hf kp;obtain⟨fp,f1,f2,f3,f4⟩:=b8q σ ja hf;have I2:=I'.pinned f2 f3;have hT':({s with heap:=h',toks:=s.toks+1}:zz!).TypeIs bk_ "tuple":=⟨_,hT,rfl⟩;refine JY (MH ?_);refine JY (US ?_);refine JY (UD hT' ?_);refine JY (OJ hT rfl P_);refine MH (a7h hu I2 m sub hM (u:=.int i s.toks) (d:=dy!) ⟨_,Aq.int,K!⟩ (k:=some (.inl (.inl (i:Nat)))) rfl ⟨v,rvx,ru⟩ (by rw[KQ,UI,QG];exact LJ (show min i i!<1001 by omega) b!) λaz s' I3 c'=>?_);have qf:Ir iz! iA_ i=i+1:=by unfold Ir;rw[oS a7s];simp
  rw[qf]at I3 c';rw[jP a7s,<-b3g cr]at c';have m':=m.write hM c';have x':XM M G H tA! G tA_:=XM.write m sub hM;have hcn:∀b∈fp,b≠c:=λb J z=>m.has (by rw[hM];simp:M c≠none) (z▸(dw!).1);have fk:∀b∈fp,Fu X hb tA_ b:=λb J=>⟨by rw[aY (hcn b J)];exact(dw!).1,(dw!).2⟩;have pk:∀b∈fp,∀o,h'.get? b=some o->s'.heap.get? b=some o:=λb J o eo=>(I3.pin ex_ (KJ _ (KJ _ (iN J eo)))).1;have hit3:s'.heap.IsListIter it l Z_:=by
   obtain⟨o,q1,q2⟩:=ja;exact⟨o,pk it (f1 it c!) o q1,q2⟩
  refine KB ⟨SH xR _,ih Z_ bS! s' _ _ a! cr I3.unpinned m' x'.sub mup_same (λb J=>fk b (f1 b J)) (f4 _ _ pk fk) hit3 λH4 s4 I4 x4 m4=>?_⟩;have gf:mup tA! c cU_=mup M c cU_:=by
   show"#,";split<;>rfl
  rw[gf]at x4 m4;exact hR H4 s4 I4 (x'.trans x4 m') m4
end
section
end
end DL
namespace DL
open PySem PySem.Spec PyProof.Rows L2
def c3w:bootBuiltins "dict"=some tC_:=by decide+kernel
section
def a4o(hc:ao_)(hu:al!)(I:d!)(m:bu_)(sub:E!)(q:Fm X.K G l vs)(rl:tu!)(hl:i!<=1000)(he:IsEnum s.heap e it 0 .none)(am:s.heap.IsListIter it l 0)(hf:tr!)(hne:hx_)
  (k:∀p H' s',M p=none->Inv X hb Z H' s'->XM M G H tD! G H'->MR X.prog X.w X.K tD! G H'->Q cp_ s'):wpAny d_ X.A (call tC_ [.ref e]) Q E s:=by
 have dr:H h_=none:=I.fresh;refine callType_codes (Q₁:=λobj ai=>obj=.ref h_/\ai={s with heap:=s.heap.push {cls:=.type "dict",data:=.dict #[]}}) F.kt_called_dict (F.kt_typeCall_dict_1 _) F.entry_dict_init (kt_code_dict_new _ aJ_) ?_;rintro obj ai ⟨rfl,rfl⟩;have D0:Ny kU_ s.heap.objs.size [] 0:=qg_;have I1:Inv X hb Z dj_ {s with heap:=s.heap.push {cls:=.type "dict",data:=.dict #[]}}:=by
  refine qh!;show"!T"
 have x0:XM M G H ht! G dj_:=.laid sub dr;have m0:MR X.prog X.w X.K ht! G dj_:=m.laid dr sub qh_;have ut:({s with heap:=s.heap.push {cls:=.type "dict",data:=.dict #[]}}:zz!).TypeIs bk_ "dict":=kf!;have yi:IsEnum kU_ e it 0 .none:=KC _ he;refine⟨ut,F.args_dict_init_2 _ _,?_⟩;refine JY ?_;refine JY (RA ut ?_);refine KB ?_;show wpAny _ _ (Builtin.Dict.updateFrom "dict.__init__" s.heap.objs.size X_ [] .none) _ _ _;refine JY (UD (T:="enumerate") ⟨_,yi,rfl⟩ ?_);refine JY (a7b yi aS! λh' tk kp=>?_);refine JY fd_;have I2:Inv X hb Z dj_ {s with heap:=h',toks:=tk}:=I1.kept (t':=tk) kp;have iq:IsEnum h' e it f0_ .none:=kp _ _ yi;refine JY (wpAny_pyIter_enum iq (KB ⟨SH xR _,?_⟩));have fk:∀b∈bv!,Fu X hb dj_ b:=λb J=>by
  refine⟨?_,(fZ!).2⟩;have:b≠h_:=λz=>by
   subst z;simp only[KG,MO,QR]at J;obtain z|z:=J
   .exact OF _ (z▸LF he)
   .obtain⟨o,q1,_⟩:=am;exact OF _ (z▸LF q1)
  rw[aY this];exact(fZ!).1
 have hit2:h'.IsListIter it l 0:=by
  obtain⟨o,q1,q2⟩:=am;exact⟨o,kp _ _ (KC _ q1),q2⟩
 refine b8t (A:=X.A.in1) (c:=h_) hc aS! (by have:=iE X.A;have:=iE X.A.in1;omega) hne (λsb=>sb.seq q) rl hl xs.length 0 0 _ _ _ a! b9! I2 m0 x0.sub mup_same fk (.inl ⟨_,iq⟩) hit2 λH4 s4 I4 x4 m4=>?_;have gf:mup ht! s.heap.objs.size cU_=mup M s.heap.objs.size cU_:=by
  show"#,";split<;>rfl
 rw[gf]at x4 m4;exact⟨rfl,k _ H4 s4 (m.nocell dr) I4 (x0.trans x4 m0) m4⟩
variable{pos ua p p2:Pos}
def Vu(f:WE):WE:=λρ M R=>f ρ M λd M1=>match d with
 |.lst xs=>i!<=1000/\∀p,M1 p=none->R x_ tF!
 |_=>False
def b2k(hu:al!)(hg:Gl X "dict")(hm:X.mg "dict"=none)(ml:CQ_)(mz:CS_)(hc:ao_)(h:an!)(hs:CR_:=by rfl)(au:(backTo ua ne!).any c_=false:=by rfl)
  (bj:starEach tG! X.env=(false,eval (.Call tF_ [a] [] ua) X.env)::starEach [] X.env:=by rfl)(hpl2:CT!:=by rfl):
  ME X own (.Call (.Name "dict" p) tG! [] pos) (Vu fa):=⟨by
 rintro hb s Z H Q I ⟨G,ρ,M,R,st,e,k⟩;refine Call_ (iP I hg hm c3w (NM ?_ bj hpl2));refine OD ?_;refine Call_ (iP I ml mz boot_enumerate (NM (dF (dC h.ok fK hs ua hb s Z H (λvs H1=>∃v xs M1 G1,vs=[v]/\(i!<=1000/\∀p,M1 p=none->R x_ tF!)/\XM M G H M1 G1 H1/\MR X.prog X.w X.K M1 G1 H1/\Aq X.K G1 M! v) I ⟨G,ρ,M,_,st,e,Cp!⟩) λus s1 ⟨vs,H1,I1,r1,v,xs,M1,G1,q1,t1,x1,m1,rr⟩=>?_) hs au))
 .cases d<;>first|exact r1.elim|skip
  exact⟨v,_,M1,G1,rfl,r1,x1,m1,q1⟩
 subst q1;obtain⟨l,ys,rfl,q,rl⟩:=bP rr;obtain⟨u,rfl,ru⟩:=mL r1;cases ru;obtain⟨its,rv,pl,hz⟩:=I1.list (x1.sub.seq q);refine call_enumerate_list pl.isList λh' he am hsz hk=>?_;have jo:∀b∈[x!+1,x!],x!<=b:=λb J=>by
  simp only[KG,MO,QR]at J;obtain rfl|rfl:=J<;>omega
 refine QH ?_;exact a4o hc hu (I1.kept (t':=s1.toks) hk) m1 x1.sub q rl t1.1 he am (λb J=>I1.fpOk qH_ CV_) CV! λp H' s' hp I2 x2 m2=>⟨.ref p,H',I2,rfl,k _ _ _ G1 H' (t1.2 p hp) cc! m2 Aq.fn⟩⟩
end
end DL
namespace DL
open PySem PySem.Spec PyProof.Rows L2
def IK:List D->Option D
 |[.int i,.int j]=>some (.int (if j>i then j else i))
 |_=>none
section
variable{pos p2:Pos}
def Sz(fs:WA)(fb:WE):WE:=λρ M R=>fs ρ M λds M1=>g!<=1000/\fb ρ M1 λy M2=>match y with
 |.int k=>C9_/\R Da! M2
 |_=>False
def c2c(ha:fo!)(J:cc_):ME X own Db! (Sz fs fb):=
 eK Dc! λZ G H Q ρ M R st e k=>⟨G,ρ,M,_,st,e,λds M1 vs G1 H1 r1 x1 m1 q1=>⟨by rw[<-aJ q1];exact eU r1.1,λp hp=>by
  have xj:Ch G1 H1 G1 Dc_:=a3z x1.sub hp;have hM:M1 p=none:=m1.nocell hp;refine Dd!;cases y<;>first|exact r2.elim|skip
  rename_i n;cases aZ q2;obtain⟨⟨hn,g7,hl⟩,r2⟩:=r2;have xr:H2 p=some cy_:=x2.keep p _ bY hM;refine Dd_;have xt:=(De!).trans x2 qN!;have xl:Ch G2 H2 (upd G2 c tI!) (upd H2 c tI!):=Ch.laid x2.sub hc;exact k _ _ _ _ _ r2 (xt.trans (.ext xl) m2) (m2.ext xl) (cZ (x2.sub.free hc) (tF bN_ _))⟩⟩
end
end DL
namespace K20
open PySem L2 DL
nonrec def top(i:Nat):Stmt:=PySem.Challenge.pw_manyhands_k20_own_places.main.body.getD i DK_
def Iq(i j:Nat):Stmt:=match top i with
 |.ClassDef _ _ _ b _ _ _ _ _ _ _=>b.getD j DK_
 |s=>s
structure Bk where
 mk::
 A0:Addr
 A7:Addr
 A8:Addr
 A9:Addr
 B0:Addr
 B1:Addr
 B2:Addr
 B3:Addr
 B4:Addr
 B5:Addr
 B6:Addr
 B7:Addr
 HandsError:Addr
 NotThere:Addr
abbrev Tc:Stmt:=top 11
abbrev Te:Stmt:=top 12
abbrev Pt:Stmt:=top 13
abbrev Uz:Stmt:=top 14
abbrev Oz:Stmt:=top 15
abbrev Va:Stmt:=top 16
abbrev Qx:Stmt:=top 17
abbrev Rs:Stmt:=top 18
abbrev Ux:Stmt:=top 19
abbrev Ps:Stmt:=top 20
abbrev Td:Stmt:=top 21
abbrev Nd:Stmt:=top 23
abbrev Vb:Stmt:=top 24
abbrev Pa:Stmt:=top 25
abbrev Oa:Stmt:=top 26
abbrev Tf:Stmt:=top 27
abbrev Wu:Stmt:=Iq 29 0
abbrev Ru:Stmt:=Iq 29 1
abbrev Nf:Stmt:=Iq 29 2
abbrev Pb:Stmt:=Iq 29 3
abbrev Qz:Stmt:=Iq 29 4
abbrev Ra:Stmt:=Iq 30 0
abbrev Px:Stmt:=Iq 30 1
abbrev Lx:Stmt:=Iq 30 2
abbrev Kw:Stmt:=Iq 30 3
abbrev Pw:Stmt:=Iq 30 4
abbrev Lz:Stmt:=Iq 30 5
abbrev Pc:Stmt:=Iq 30 6
abbrev Oc:Stmt:=Iq 30 7
abbrev Py:Stmt:=Iq 30 8
abbrev Kk:Stmt:=Iq 30 9
abbrev Kv:Stmt:=Iq 30 10
abbrev Jv:Stmt:=Iq 30 11
abbrev Ho:Stmt:=Iq 30 12
abbrev Ic:Stmt:=Iq 30 13
abbrev Kl:Stmt:=Iq 30 14
abbrev Ms:Stmt:=top 32
abbrev Qw:Stmt:=top 33
abbrev Wp:Stmt:=top 34
abbrev Zh:Stmt:=top 35
abbrev Wq:Stmt:=top 36
abbrev Vd:Stmt:=Iq 39 0
abbrev Rw:Stmt:=Iq 39 1
abbrev Rt:Stmt:=top 40
abbrev Qv:Stmt:=top 41
abbrev Rq:Stmt:=top 42
abbrev Uy:Stmt:=top 43
abbrev Rr:Stmt:=top 44
abbrev Ob:Stmt:=top 45
abbrev Pv:Stmt:=top 46
abbrev Jh:Stmt:=top 47
abbrev Wt:Stmt:=top 48
abbrev Gb:Stmt:=top 49
abbrev Uv:Stmt:=top 50
abbrev Zg:Stmt:=top 51
abbrev Vx:Stmt:=top 52
abbrev Oy:Stmt:=top 54
abbrev Ku:Stmt:=top 55
abbrev Ju:Stmt:=top 56
abbrev Xp:Stmt:=top 57
abbrev Wr:Stmt:=top 58
abbrev Tg:Stmt:=top 59
abbrev Zf:Stmt:=top 60
abbrev Ws:Stmt:=top 61
abbrev Nc:Stmt:=top 63
abbrev Zj:Stmt:=top 64
abbrev BP:Stmt:=top 65
abbrev Qy:Stmt:=top 66
abbrev Zi:Stmt:=top 67
abbrev Zk:Stmt:=top 68
abbrev Xu:Stmt:=top 70
abbrev Zm:Stmt:=top 71
abbrev Rk:Stmt:=top 74
abbrev Ww:Stmt:=top 75
abbrev Th:Stmt:=top 76
abbrev Xs:Stmt:=top 77
abbrev Tn:Stmt:=top 78
abbrev Wv:Stmt:=top 79
abbrev Ti:Stmt:=top 80
abbrev Vc:Stmt:=top 81
abbrev Tk:Stmt:=top 82
abbrev Tj:Stmt:=top 83
abbrev Xt:Stmt:=top 84
abbrev Rv:Stmt:=top 85
abbrev Xr:Stmt:=top 86
abbrev Ng:Stmt:=top 87
abbrev Kx:Stmt:=top 88
abbrev Od:Stmt:=top 89
abbrev Tl:Stmt:=top 91
abbrev Pz:Stmt:=top 93
abbrev Zn:Stmt:=top 94
abbrev Zl:Stmt:=top 95
abbrev Uw:Stmt:=top 96
def eG:Fq tJ_ [a5_] (Ak Uw):=f_
def Qa:Ag->Option Fl:= (Bd (Cp (Ei "int" j_) (Cp (Dt (Ei "bool" j_)) (f2 Jk (f1 Fy a7!) (f2 Ge (fC (.int 10)) tL!)))))
def Ft:List D->Option D:=Ce z_ 1 (Qa)
def Qc:Ag->Option Fl:= (Bd (Cp (f1 Ft a7!) (Ca Jy Jk F_ j_ r_)))
def Gw:List D->Option D:=Ce m4_ 2 (Qc)
def Ml:Ag->Option Fl:= (Bd (Cp (f1 Ft a7!) (f2 Nk j_ u_)))
def Dv:List D->Option D:=Ce z_ 1 (Ml)
def Oe:Ag->Option Fl:= (sSeq (Gc (Lw iF! (fT (f2 Lf dz! aC!))) cW_ Co) (Bd (Cp (f1 Gw (Ac aL_ (Ac eD_ Ae))) (f1 Dv (Ac f7! Ae)))))
def Ea:List D->Option D:=Ce z_ 1 (Oe)
def Ky:Ag->Option Fl:= (sSeq (Gc (Lw iF! (fT (f2 Lf dz! aw!))) cW_ Co) (Bd (Cp tO_ (f1 Gw (Ac cX_ (Ac eD_ Ae))))))
def Dz:List D->Option D:=Ce z_ 1 (Ky)
def Lq:Ag->Option Fl:= (Bd (Ex (f1 Ea a7!) (Ex (f2 Ax j_ iG_) (f2 Ax j_ f7_))))
def Gv:List D->Option D:=Ce z_ 1 (Lq)
def Jw:Ag->Option Fl:= (Bd (Ex tQ_ (f1 Ea a7!)))
def Ff:List D->Option D:=Ce z_ 1 (Jw)
def La:Ag->Option Fl:= (Bd (Ex tQ_ (f1 Dz a7!)))
def Fw:List D->Option D:=Ce z_ 1 (La)
def Rm:Ag->Option Fl:= (Bd (Cp (Ca Jy Jy (fC (.str " ")) j_ (fC (.str "~"))) (f2 Lf (f1 AB a7!) (fC (.int 37)))))
def Gs:List D->Option D:=Ce f8_ 1 (Rm)
def Rl:Ag->Option Fl:= (sSeq (Gc (Lw (Dd (fT (Ei "str" j_))) (Dd (fT (Ca Jy Jy u_ dz! eD_)))) cW_ Co) (Bd (f1 Qs (Ac (Fx 1 [] (CH j_) B_ aS_ iH_) Ae))))
def Jn:List D->Option D:=Ce z_ 1 (Rl)
def Qb:Ag->Option Fl:= (Bd (f1 Gw (Ac j_ (Ac co_ Ae))))
def Du:List D->Option D:=Ce z_ 1 (Qb)
def Hy(t:Bk):List b7!:=[("put",.tup [dz_,.fn t.A7]),("move",.tup [dz_,dz_,.fn t.A7]),("drop",.tup [dz_]),("write",.tup [dz_,.fn t.A8,.fn t.A9]),("cut",.tup tU!),("set",.tup [dz_,.fn t.B2,.fn t.B3]),("undo",.tup [.fn t.B4]),("redo",.tup [.fn t.B4])]
def Ks(t:Bk):Addr->Option zb_:=λa=>if a=t.A0 then some Gv else if a=t.A7 then some Ff else if a=t.A8 then some Fw else if a=t.A9 then some Jn else if a=t.B0 then some Dz else if a=t.B1 then some Dv else if a=t.B2 then some Du else if a=t.B3 then some Ft else if a=t.B4 then some Ea else none
def Ou(t:Bk):Ag->Option Fl:= (sSeq (Gc (fT (f2 Lf dz! m8_)) cW_ Co) (Bd (f1 Qs (Ac (Fx 2 [] (CG r_ j_) iJ_ aS_ iK!) Ae))))
def Hg(t:Bk):List D->Option D:=Ce m9! 2 (Ou t)
def Og(t:Bk):Ag->Option Fl:= (sSeq (Gc (Lw iF! (fT (f2 Ax dz! F_))) cW_ Co) (sSeq (Gc (Lw (Dd (fT (Ei "str" aL_))) (fT (AD gb! true aL_))) cW_ Co) (sSeq (Gc (Dd (fT (f1 (Hg t) (Ac (Ey j_ gb_ Ay) (Ac (Wj gb! aL_) Ae))))) cW_ Co) (Bd (Ex (f2 Lf aL_ m9_) (f2 Jy (f2 An (f2 Ai cX_ aC!) na!) eD_))))))
def Ia(t:Bk):List D->Option D:=Ce z_ 1 (Og t)
def Kz(t:Bk):Ag->Option Fl:= (sSeq (Gc (Lw iF! (fT (f2 Lf dz! co_))) cW_ Co) (Bd (Cp tO_ (Cp (f1 Dv (Ac cX_ Ae)) (f1 (Ia t) (Ac na! Ae))))))
def By(t:Bk):List D->Option D:=Ce z_ 1 (Kz t)
def Ke:Ag->Option Fl:= (Bd (As (Ac cX_ (Ac aL_ Ae))))
def Dg:List D->Option D:=Ce cZ! 1 (Ke)
def Qd:Ag->Option Fl:= (Bd (Vn Dg j_))
def Dl:List D->Option D:=Ce cq! 1 (Qd)
def Yi(t:Bk):WS:= (Af (Ga t.B7 "following" g_ t1!) (Ga t.B7 "preceding" g_ t1!))
def Gg(t:Bk):WF:=Bo bR_ 1 (Yi t)
def Lb(t:Bk):WS:= (At (Mg mu! (w2 aT! m_ bB_)))
def Fb(t:Bk):WF:=Bo aw_ 2 (Lb t)
def Oi(t:Bk):WS:= (Af t4_ (Af (Al 4 (w2 Bs bB_ ax!)) (Af (Cb bB_ ax! m_) (Af (Cb eH! m_ ax!) (Af (Cb bB_ m_ a9_) (Cb eH! a9_ m_))))))
def Cs(t:Bk):WF:=Bo [ah_,ai!,dD_,"ahead","follower"] 3 (Oi t)
def Qe(t:Bk):WS:= (Af t7! (Af (Al 3 (Ta bB_ m_)) (Af (Cb bB_ y_ ax!) (Cb eH! ax! y_))))
def Im(t:Bk):WF:=Bo [ah_,ai!,"ahead","follower"] 2 (Qe t)
def Ni(t:Bk):WS:= (Af iO! (Af (Al 2 (w2 Bs bB_ bB!)) (Af (Jb t9_ ua_) cq_)))
def Hv(t:Bk):WF:=Bo [ah_,"names",ai!] 1 (Ni t)
def Sf(t:Bk):WS:= (Af (Ga t.B6 "parents" g_ (Ot (Eg (wl iG_) bB! (Eg ge_ bB! Mz)))) (Af (Ga t.B6 "rows" g_ (Ot (Eg (wl iG_) gf_ (Eg ge_ gf_ Mz)))) (Af (Ga t.B6 "texts" g_ Gm) (Af (Ga t.B6 "numbers" g_ Gm) (Af (Ga t.B6 "written" g_ Gm) (Ga t.B6 "hidden" g_ Gm))))))
def Hw(t:Bk):WF:=Bo bR_ 1 (Sf t)
def Mm(t:Bk):WS:= (At (w2 aT! m_ cZ_))
def Bz(t:Bk):WF:=Bo aw_ 2 (Mm t)
def Ie(t:Bk):WS:= (At (w2 aT! m_ eI!))
def Cf(t:Bk):WF:=Bo aw_ 2 (Ie t)
def Mc(t:Bk):WS:= (Af (Jb gh! gh_) (At mu!))
def Fj(t:Bk):WF:=Bo ni! 3 (Mc t)
def Re(t:Bk):WS:= (Af (Al 4 (DC (wT ug!) y_ ge_)) (Af uh_ (Af ui! (Af ui_ (Af uk_ uk!)))))
def Jf(t:Bk):WF:=Bo [ah_,aM_,nk!,iS_,"place"] 4 (Re t)
def Ig(t:Bk):WS:= (At (Mg nl! (Mg ug! (Rh (Av t.B6 "is_within" 3 (Fj t) g_ um_)))))
def Ct(t:Bk):WF:=Bo nl_ 3 (Ig t)
def Qf(t:Bk):WS:= (Af uo! (Af (Bq (Av t.B7 "take_out" 2 (Im t) (w2 Bs cZ_ iQ_) aC_)) (Af (Bq (Av t.B7 "put_behind" 3 (Cs t) (w2 Bs cZ_ y_) ni_)) (Cb nh_ m_ y_))))
def Gi(t:Bk):WF:=Bo gk! 4 (Qf t)
def Kf(t:Bk):WS:= (Af (Ap (Hu (wT (Av t.B6 "has_item" 2 (Cf t) g_ eG_))) Os Bg) (Af (Al 5 ax!) (Dp (Ip (Sk N!)) (Wl 6 7) (Af no_ (Af uq_ (Af ur! (Al 5 gl!)))))))
def Hm(t:Bk):WF:=Bo [ah_,us_,aM_,"behind","text","ahead","k","sign",ai!] 5 (Kf t)
def Mn(t:Bk):WS:= (Af (Ap (Hu (wT nl!)) Os Bg) (Dp (Ip (Sj eJ_ ut_)) gl_ (Af uv_ ux!)))
def Jg(t:Bk):WF:=Bo [ah_,aM_,"first","many","k",ai!] 4 (Mn t)
def Lc(t:Bk):WS:= (Ap (wT nl!) (Cb uy_ y_ ax!) Bg)
def Fc(t:Bk):WF:=Bo nr_ 4 (Lc t)
def Hq(t:Bk):WS:= (At iQ_)
def Fi(t:Bk):WF:=Bo aw_ 2 (Hq t)
def Gn(t:Bk):WS:= (At (Av t.B7 "listed" 1 (Hv t) (w2 Bs cZ_ m_) Ad))
def Do(t:Bk):WF:=Bo aw_ 2 (Gn t)
def Mt(t:Bk):WS:= (At (Bi 1 [0] (Cv (Av t.B7 "listed" 1 (Hv t) uw! Ad)) B_ (wT (w2 gn! g_ (Ar t.B6 "hidden" m_))) g_))
def Eh(t:Bk):WF:=Bo cr_ 2 (Mt t)
def Nj(t:Bk):WS:= (At (Pq "" (Bi 1 [0] uA! B_ dF! (w2 Bs (Ar t.B6 "written" m_) g_))))
def Gh(t:Bk):WF:=Bo cr_ 2 (Nj t)
def He(t:Bk):WS:= (At (w1 Wf (Ab uy_ Ad)))
def Fd(t:Bk):WF:=Bo cr_ 2 (He t)
def Nh:Ag->Option Fl:= (Bd (Ex (f2 Ax iZ! iZ_) (f2 Ax iZ! (fC nu!))))
def Aw:List D->Option D:=Ce cZ! 1 (Nh)
def Se:WS:= (Af (Al 1 Gm) (Af (Dp uB_ bD_ uD_) cq_))
def Gf:WF:=Bo [gc_,"words",bU!] 1 (Se)
def Yc:WS:= (Af (Al 1 (Aj 1 Gf aU!)) (Af nv! (Af (Dp i1_ L_ i2_) c0_)))
def Li:WF:=Bo [gc_,"words","names",bU!,ai!] 1 (Yc)
def BZ(t:Bk):WS:= (Ap uH_ (Bq (Av t.B6 "put" 4 (Jf t) g_ (Ab m_ (Ab c1! (Ab i5! Ad))))) (Ap uJ! (Bq (Av t.B6 "move" 4 (Gi t) g_ gp_)) (Ap uL! (Bq (Av t.B6 "move" 4 (Gi t) g_ uM!)) (Ap uM_ (Bq (Av t.B6 "write" 5 (Hm t) g_ (Ab m_ gp_))) (Ap uN! (Bq (Av t.B6 "cut" 4 (Jg t) g_ gp_)) (Ap uN_ (Bq (Av t.B6 "set_number" 4 (Fc t) g_ gp_)) Bg))))))
def Mw(t:Bk):WF:=Bo nz_ 3 (BZ t)
def Yd(t:Bk):WS:= (Af uO! (Af (Al 2 (Aj 1 Li aU!)) (Af (Dp uB_ L_ (Af go_ uR!)) cq_)))
def Jm(t:Bk):WF:=Bo [gc_,i6_,"left_out",bU!,ai!] 1 (Yd t)
def Xa(t:Bk):WS:= (Af (Ga t.B5 "ours" g_ m_) (Af (Ga t.B5 "taken" g_ Gm) (Af (Ga t.B5 "waiting" g_ (Ri Ad)) uS_)))
def On(t:Bk):WF:=Bo nB_ 2 (Xa t)
def Tz(t:Bk):WS:= (At (w1 Xb (Ab (Ib eM_ m_ nC!) Ad)))
def Fe(t:Bk):WF:=Bo nC_ 2 (Tz t)
def Tt(t:Bk):WS:= (Af iO! (Af (Dp nD_ bD_ (Zc 1 nD!)) uW_))
def Fa(t:Bk):WF:=Bo [H!,gc_,dD_] 1 (Tt t)
def Sc(t:Bk):WS:= (Af uX! (At nE!))
def Cc(t:Bk):WF:=Bo bo! 1 (Sc t)
def Tq(t:Bk):WS:= (At (w2 (λ_=>Jy) dH! uZ!))
def Fv(t:Bk):WF:=Bo bE_ 2 (Tq t)
def Wy(t:Bk):WS:= (At (w2 i2! dH! (w2 My uZ! gr_)))
def Gu(t:Bk):WF:=Bo bE_ 2 (Wy t)
def Ts(t:Bk):WS:= (Af u1! u1_)
def Ez(t:Bk):WF:=Bo nG! 2 (Ts t)
def Pe(t:Bk):WS:= (Af nv! (Af (Dp (Cv (w2 My gs! m_)) L_ (Af go_ (Af u5_ u7_))) c0_))
def El(t:Bk):WF:=Bo [H!,nI!,jd_,bU!,ai!,"same"] 2 (Pe t)
def Rc(t:Bk):WS:= (Af nv! (Dp (Cv (w1 Rx aC_)) L_ (Af u9! (Af va_ vb!))))
def Je(t:Bk):WF:=Bo [H!,jd_,"times",ai!,"time"] 2 (Rc t)
def Pf(t:Bk):WS:= (Af (Ap (Db (Dd vd!)) Go Bg) (Bq (Aj 2 (Je t) (Ab g_ (Ab (Aj 2 (El t) cs!) Ad)))))
def Fo(t:Bk):WF:=Bo dI_ 2 (Pf t)
def Yh(t:Bk):WS:= (Af (Bq (Vw (Jt eM_ ja! (Ri Ad)) m_)) uS_)
def Jo(t:Bk):WF:=Bo bE_ 2 (Yh t)
def Oh(t:Bk):WS:= (Af (Al 1 aN!) (Af vg_ (Af (Jb (Db (fT (f2 Jz (f1 Bj bD!) F_))) (Af Go (Af (Bq (Aj 2 (Jo t) (Ab g_ (Ab (wl bn!) Ad)))) (Af (Tb 1 gr_) vg_)))) cq_)))
def Fg(t:Bk):WF:=Bo [H!,"many","found"] 1 (Oh t)
def Wx(t:Bk):WS:= (Af vl! (Af (Al 2 (Uu (Aj 2 (Fv t) cs!) (w2 aT! m_ gs!))) (Af (Ap (Gq (Db (Dd (fT A_))) (wT (w2 (λ_=>Jk) (w1 Xb (Ab gs! Ad)) (wl (fC (.int 8)))))) (Bq (Vw gs! m_)) Bg) (At aN!))))
def Jl(t:Bk):WF:=Bo [H!,bU!,"known"] 2 (Wx t)
def BY(t:Bk):WS:= (Af vp_ (Af (Al 2 aN!) (Af (Dp nM_ L_ (Tb 2 vq_)) c0_)))
def Vm(t:Bk):WF:=Bo [H!,nI!,"many",bU!] 2 (BY t)
def CB(t:Bk):WS:= (Af (Al 2 (Vu m_)) (At (Bi 1 [2] (Cv nE_) B_ (wT (w2 (λ_=>Jz) jf! (Ib m_ jf_ aN!))) g_)))
def Qo(t:Bk):WF:=Bo [H!,"have",nN!] 2 (CB t)
def Kd(t:Bk)(E:EK):WS:= (Af nO! vt_)
def Fn(t:Bk):BD:=λds M R E=>Bo [H!,ai!,i6_] 2 (Kd t E) ds M R
def Ik(t:Bk):WF:=λds M R=>Fn t ds M R λ_ _=>False
def Mb(t:Bk):WS:= (Af nO! (Af (Ap (Hu (wT (Av t.B6 "has_item" 2 (Cf t) y_ aC_))) Go Bg) c0_))
def Cn(t:Bk):WF:=Bo [H!,aM_,i6_] 2 (Mb t)
def Kn(t:Bk):WS:= (Af vu_ (At jg!))
def Eo(t:Bk):WF:=Bo eQ! 3 (Kn t)
def Zt(t:Bk):WS:= (At vv_)
def Lr(t:Bk):WF:=Bo ax_ 2 (Zt t)
def Ye(t:Bk):WS:= (At (Av t.B6 "parent_of" 2 (Fi t) jg! aC_))
def Nl(t:Bk):WF:=Bo ax_ 2 (Ye t)
def Vf(t:Bk):WS:= (At vw!)
def Il(t:Bk):WF:=Bo ax_ 2 (Vf t)
def BX(t:Bk):WS:= (At (Av t.B6 "text_of" 2 (Gh t) jg! aC_))
def Sn(t:Bk):WF:=Bo ax_ 2 (BX t)
def Yf(t:Bk):WS:= (At (w2 Bs (Av t.B6 "numbers_of" 2 (Fd t) (Aj 3 (Eo t) vx_) aC_) y_))
def Lj(t:Bk):WF:=Bo eQ! 3 (Yf t)
def Tr(t:Bk):WS:= (At (w2 My gr_ (w1 (λ_=>Vi (some 0)) (Ab vy! Ad))))
def Iv(t:Bk):WF:=Bo bo! 1 (Tr t)
def CA(t:Bk):WS:= (Af (Al 2 (Po (Ab nH_ (Ab (w2 My (Av t.B5 "have" 2 gr! g_ (Ab nH_ Ad)) gr_) Ad)))) (Af (Bq (Aj 2 (Jo t) (Ab g_ (Ab vz_ Ad)))) c0_))
def Om(t:Bk):WF:=Bo [H!,"deed",ai!] 2 (CA t)
def Yb(t:Bk)(E:EK):WS:= (Af (Bq (Gp 2 (Fn t) E cs!)) (At (Aj 2 gw! (Ab g_ (Ab (wl (As (Ac eL_ vC!))) Ad)))))
def Yn(t:Bk):BD:=λds M R E=>Bo nR! 3 (Yb t E) ds M R
def Mj(t:Bk)(E:EK):WS:= (Ap vD! vD_ Bg)
def Ha(t:Bk):BD:=λds M R E=>Bo nR_ 3 (Mj t E) ds M R
def Vz(t:Bk)(E:EK):WS:= (Af (Bq (Gp 3 (Ha t) E vx_)) (At (Aj 2 gw! (Ab g_ (Ab (wl (As (Ac eM! (Ac r_ (Ac A_ dG!))))) Ad)))))
def Wg(t:Bk):BD:=λds M R E=>Bo nS_ 4 (Vz t E) ds M R
def Wa(t:Bk)(E:EK):WS:= (Af (Bq (Gp 3 (Ha t) E (Ab g_ (Ab m_ (Ab ge_ Ad))))) (At (Aj 2 gw! (Ab g_ (Ab (wl (As (Ac i5_ dA_))) Ad)))))
def Wh(t:Bk):BD:=λds M R E=>Bo ax_ 2 (Wa t E) ds M R
def Sg:Ag->Option Fl:= (sSeq (Gc (λρ=>((j_) ρ).bind Wo) vG_ Co) (Bd F_))
def Np:List D->Option D:=Ce gx_ 2 (Sg)
def Yj:Ag->Option Fl:= (sSeq (Ck 2 (f2 Bv (f2 An (f1 Np vH!) (f2 Dk (fC (.int 104729)) vH_)) (fC (.int 4294967291)))) (sSeq (Ck 2 (f2 Bv (f2 Dk A_ (fC (.int 48271))) (fC (.int 4294967279)))) (Bd (f2 Bv (f2 An (f2 Dk (f2 Cg A_ (fC (.int 64))) (fC (.int 69621))) A_) (fC (.int 4294967231))))))
def Bh:List D->Option D:=Ce [a5_,aL!,cv_] 2 (Yj)
def Tw:Ag->Option Fl:= (Bd (f2 An (f2 An (fC (.lst [iG!])) (Fx 1 [] eK_ B_ (fT nY_) nZ_)) (fC (.lst [iH!,vK_]))))
def Hh:List D->Option D:=Ce bF! 1 (Tw)
def Tu:Ag->Option Fl:= (sSeq (Ma 1 (Ac bH_ (Ac (fC (.tup [gz!,gz!,bA_])) Ae))) (sSeq (Rb eK_ bD_ (Gc vL_ vM_ Co)) (Bd r_)))
def Lk:List D->Option D:=Ce [aK_,n0!,bZ!,aL!] 1 (Tu)
def Wb:Ag->Option Fl:= (sSeq (Ck 2 (fC (.str " abcXYZ.,;!019~[]\\\"'|{}<>@#$&*()-+/=_^:?`"))) (Bd (Yo (fC jo_) (Fx 1 [0,2] (Ew n0_) B_ aS_ vR_))))
def Nm:List D->Option D:=Ce [cv_,gz_,n1!] 2 (Wb)
def We:Ag->Option Fl:= vG_
def Cm:List D->Option D:=Ce n2! 2 (We)
def Pk:Ag->Option Fl:= (sSeq vS! (sSeq A4! (sSeq vT_ (sSeq vV! (sSeq vV_ (sSeq vW! (sSeq vY! (sSeq vZ_ (sSeq v0_ (sSeq v1! (sSeq v2_ (sSeq v5_ (sSeq v8! (sSeq v9! (sSeq wa! wb!)))))))))))))))
def Ka:List D->Option D:=Ce [a5_,eV_,aK_,gz_,cv_,tJ!,aB_,n9!,"_law_kinds","_law_kind","_law_sign","_law_names"] 4 (Pk)
def Qg:Ag->Option Fl:= (sSeq (Ma 3 Ae) (sSeq (Ma 4 js_) (sSeq (Ma 5 js_) (sSeq (Rb (Ew A_) gF! (sSeq we! (sSeq we_ (sSeq wf! (sSeq wf_ (sSeq wg_ wh!)))))) (Bd C_)))))
def Jp:List D->Option D:=Ce [a5_,eV_,jt_,aK_,"_law_counts",wh_,aL!,cv_,ju!,bl_] 3 (Qg)
def Vg:WS:= (Af iO! (Af (Dp i1_ bD_ (Af wi! (Af (Jb (Db (Cw wi_ wj_)) ob_) wk_))) cq_))
def Dw:WF:=Bo [aK_,n0!,bZ!,ju!] 1 (Vg)
def Wz:WS:= (Af (Al 1 Gm) (Af (Dp oc! bD_ (Ap wn_ wo! Bg)) cq_))
def Ls:WF:=Bo [aK_,"_law_last",bZ!] 1 (Wz)
def Zx:WS:= (Af (Al 4 (Bi 1 [1] od! B_ wp_ g_)) (Af (Al 5 aN!) (Af (Jb (Db (Cw wq! wr_)) ws!) (Af (Dp (Ip (Ew gI!)) gF! (Ap wv_ ww_ Bg)) (Cb g_ gH_ (wl (f2 An wx_ wy!)))))))
def Iy:WF:=Bo [bm!,aB_,wz!,m3_,n1_,ju!,aL!] 4 (Zx)
def Zw:WS:= (Af (Jb of! (Af wA! (Af wA_ (Al 1 gu!)))) (At iY!))
def Hc:WF:=Bo [bm!,aB_,n9!,"_law_above"] 3 (Zw)
def Zv:WS:= (Ap (Gq (wT (w2 aT! m_ bc_)) wB_) (Ap wD! wE! Bg) Bg)
def Iw:WF:=Bo gK_ 4 (Zv)
def Yk:WS:= (Af oh! (Af oi! (Ap uH_ (Af wH_ (Af wJ_ (Af wL! wN_))) (Ap uJ! ok_ (Ap uL! ol! (Ap (Gq uN_ ol_) wQ_ (Ap (Gq uM_ ol_) (Af jy! (Af (Al 6 aN!) (Af (Dp wR_ (Cj 7) wU!) (Af (Al 8 on_) wW!)))) (Ap (Gq uN! ol_) (Af (Al 9 oq!) (Af jy! wX!)) Bg))))))))
def Wi:WF:=Bo [bm!,bZ!,bl_,oq_,"_law_good",n1_,ju!,aL!,"_law_new",or_] 2 (Yk)
def Wc:WS:= (Af wZ! (Af wZ_ (Af (Dp oc! L_ (Ap (Gq w0! w1!) w1_ Bg)) cq_)))
def Lu:WF:=Bo [aK_,bm!,"_law_undone_here",bZ!] 1 (Wc)
def Tx:WS:= (At (Bi 1 [1] od! B_ (Db (fT (f2 Ax f7! r_))) jf_))
def Hi:WF:=Bo e0! 2 (Tx)
def Rf:WS:= (At (Pq "" (Bi 1 [] w2_ B_ (Db (fT cX_)) jf!)))
def Hb:WF:=Bo e0! 2 (Rf)
def Tv(t:Bk):WS:= (Af w3! (Af (Dp w3_ L_ (Ap w5! b2_ Bg)) (Af (Dp (Kt os_) L_ (Af w6_ (Af w7_ w8_))) w9_)))
def Ll(t:Bk):WF:=Bo [bT!,aK_,bm!,aB_] 2 (Tv t)
def Zy(t:Bk):WS:= (Af (Al 4 xb_) (Af (Al 5 (Hn t.B5 2 (On t) eG_)) (Af (Bq (Aj 2 (Vm t) xc!)) (At (Po xc!)))))
def Pl(t:Bk):WF:=Bo [a5_,eV_,dR!,jt_,aK_,bT!] 4 (Zy t)
def Zu:WS:= (Af (Al 3 xd!) (At (wl (As (Ac r_ (Ac (f2 An u_ xe!) (Ac (f2 An u_ xf_) bD!)))))))
def No:WF:=Bo [aK_,dR!,bl_,wh_] 3 (Zu)
def CD:WS:= (Af xh! xh_)
def Sq:WF:=Bo ov_ 3 (CD)
def CC(t:Bk):WS:= (Af (Al 2 bB!) (Af (BJ 4 2 (EU t.NotThere "refused") λE=>(Ap (Db (fT (f2 Ax i9_ eL_))) (Al 2 (Gp 3 (Yn t) E (Ab g_ (Ab dH! (Ab (wl jz_) Ad))))) (Ap (Db (fT (f2 Ax i9_ eM!))) (Al 2 (Gp 4 (Wg t) E (Ab g_ (Ab dH! (Ab (wl jz_) (Ab (wl oh_) Ad)))))) (Al 2 (Gp 2 (Wh t) E (Ab g_ (Ab dH! Ad))))))) c0_))
def So(t:Bk):WF:=Bo [bT!,bl_,n0!,"e"] 2 (CC t)
def Yg(t:Bk):WS:= (Af xn! (Af (Al 2 ja!) (Af (Al 3 dH!) (Af (Dp xq! gl_ (Af xp! (Af xs! (Af xu! (Af xz_ (Af xB_ (Af xF_ (Af xG! (Af xH! (Af xK_ (Af oB_ (Af xP! (Ap xR! b2_ Bg))))))))))))) (At oD!)))))
def BA(t:Bk):WF:=Bo tJ_ 1 (Yg t)
structure Txt(P:zy!)(w:zx!)(K:zA!)(mg:O_)(t:Bk):Prop where
 D3:Er K mg "is_whole" Tc z_
 D4:Er K mg "is_below" Te m4_
 D5:Er K mg "is_from_one" Pt z_
 D6:Er K mg "is_name" Uz z_
 D7:Er K mg "is_sign_name" Oz z_
 D8:Er K mg "is_item" Va z_
 D9:Er K mg "is_sibling" Qx z_
 E1:Er K mg "is_behind" Rs z_
 E2:Er K mg "is_sign" Ux f8_
 E3:Er K mg "is_text" Ps z_
 E4:Er K mg "is_place" Td z_
 E5:Er K mg "are_parts" Nd m9!
 E6:Er K mg "is_deed" Vb z_
 E7:Er K mg "is_operation" Pa z_
 E8:Er K mg "time_and_hand" Oa cZ!
 E9:Er K mg "in_order" Tf cq!
 F6:Um K mg "Row" t.B7 "Row.__init__" Wu bR_
 F7:Cz K t.B7 "holds" "Row.holds" Ru aw_
 F8:Cz K t.B7 "put_behind" "Row.put_behind" Nf xS_
 F9:Cz K t.B7 "take_out" "Row.take_out" Pb aw_
 G6:Cz K t.B7 "listed" "Row.listed" Qz bR_
 G7:Um K mg "Outline" t.B6 "Outline.__init__" Ra bR_
 G8:Cz K t.B6 "has" "Outline.has" Px aw_
 G9:Cz K t.B6 "has_item" "Outline.has_item" Lx aw_
 H9:Cz K t.B6 "is_within" "Outline.is_within" Kw ni!
 J0:Cz K t.B6 "put" "Outline.put" Pw gk!
 J4:Cz K t.B6 "can_move" "Outline.can_move" Lz nl_
 J5:Cz K t.B6 "move" "Outline.move" Pc gk!
 J6:Cz K t.B6 "write" "Outline.write" Oc xT!
 J7:Cz K t.B6 "cut" "Outline.cut" Py xT_
 J8:Cz K t.B6 "set_number" "Outline.set_number" Kk nr_
 J9:Cz K t.B6 "parent_of" "Outline.parent_of" Kv aw_
 K0:Cz K t.B6 "children_of" "Outline.children_of" Jv aw_
 K3:Cz K t.B6 "signs_of" "Outline.signs_of" Ho cr_
 K4:Cz K t.B6 "text_of" "Outline.text_of" Ic cr_
 K5:Cz K t.B6 "numbers_of" "Outline.numbers_of" Kl cr_
 K6:Er K mg "is_undo_or_redo" Ms cZ!
 K7:Er K mg "last_words" Qw cq!
 K8:Er K mg "undone" Wp cq!
 K9:Er K mg "play" Zh nz_
 L4:Er K mg "played" Wq cq!
 L5:Um K mg "Hand" t.B5 "Hand.__init__" Vd nB_
 L6:Cz K t.B5 "have" "Hand.have" Rw nC_
 L7:Er K mg "all_taken" Rt bo!
 L8:Er K mg "outline_of" Qv bo!
 L9:Er K mg "was_taken" Rq bE_
 M9:Er K mg "is_next" Uy bE_
 N0:Er K mg "last_time" Rr nG!
 N3:Er K mg "not_yet_taken" Ob dI_
 N4:Er K mg "check_times" Pv [H!,jd_]
 N5:Er K mg "check_message" Jh dI_
 N6:Er K mg "accept" Wt bE_
 N7:Er K mg "accept_waiting" Gb bo!
 N8:Er K mg "receive" Uv bE_
 N9:Er K mg "take" Zg dI_
 O0:Er K mg "give" Vx [H!,"have"]
 O3:Er K mg "outline_with" Oy oD_
 O4:Er K mg "outline_with_item" Ku ax_
 O5:Er K mg "outline_with_number" Ju eQ!
 O6:Er K mg "there" Xp ax_
 O7:Er K mg "parent" Wr ax_
 O8:Er K mg "children" Tg ax_
 O9:Er K mg "text" Zf ax_
 P0:Er K mg "number" Ws eQ!
 P1:Er K mg "next_time" Nc bo!
 P3:Er K mg "make" Zj [H!,"deed"]
 P4:Er K mg "put" BP nR!
 P5:Er K mg "check_move" Qy nR_
 P6:Er K mg "move" Zi nS_
 P7:Er K mg "drop" Zk ax_
 P8:Er K mg "_law_cell" Xu gx_
 P9:Er K mg "_law_mix" Zm gx_
 Q0:Er K mg "_law_items" Rk bF!
 Q1:Er K mg "_law_signs" Ww bF!
 Q2:Er K mg "_law_text" Th [cv_,gz_]
 Q3:Er K mg "_law_pick" Xs n2!
 Q4:Er K mg "_law_deed" Tn xU!
 Q5:Er K mg "_law_world" Wv xU_
 Q6:Er K mg "_law_ordered" Ti bF!
 Q7:Er K mg "_law_undone" Vc bF!
 Q8:Er K mg "_law_hang" Tk gK_
 Q9:Er K mg "_law_lies" Tj xV!
 R0:Er K mg "_law_move" Xt gK_
 R3:Er K mg "_law_do" Rv [bm!,bZ!]
 R4:Er K mg "_law_play" Xr bF!
 R5:Er K mg "_law_children" Ng e0!
 R6:Er K mg "_law_shown_text" Kx e0!
 R7:Er K mg "_law_shows" Od [bT!,aK_]
 R8:Er K mg "_law_hand" Tl xW_
 R9:Er K mg "_law_next" Pz xX_
 S0:Er K mg "_law_can" Zn ov_
 S1:Er K mg "_law_try" Zl [bT!,bl_]
 S2:Er K mg "law" Uw [a5_]
 S3:mg "abs"=none
 S4:mg "all"=none
 S5:mg "bool"=none
 S6:mg "dict"=none
 S7:mg "enumerate"=none
 S8:mg "int"=none
 S9:mg "isinstance"=none
 T0:mg "len"=none
 T1:mg "list"=none
 T2:mg "max"=none
 T3:mg "ord"=none
 T4:mg "range"=none
 T5:mg "sorted"=none
 T6:mg "str"=none
 T7:mg "tuple"=none
 T8:mg "zip"=none
 T9:∃tk,mg "HANDS"=some xY!
 U0:∃tk,mg "SIGNS"=some xY!
 U1:∃tk,mg "PLACES"=some (.int 4 tk)
 U2:∃tk,mg "LEFT_OUT"=some (.int 37 tk)
 U3:∃tk,mg "MOST_WAITING"=some (.int 8 tk)
 U4:mg "is_item"=some (.ref t.A0)
 U5:mg "is_sibling"=some (.ref t.A7)
 U6:mg "is_behind"=some (.ref t.A8)
 U7:mg "is_text"=some (.ref t.A9)
 U8:mg "is_sign_name"=some (.ref t.B0)
 U9:mg "is_from_one"=some (.ref t.B1)
 V0:mg "is_place"=some (.ref t.B2)
 V1:mg "is_whole"=some (.ref t.B3)
 V2:mg "is_name"=some (.ref t.B4)
 V3:Uo K t.B5
 V4:Uo K t.B6
 V5:Uo K t.B7
 V6:mg "HandsError"=some (.ref oE!)
 V7:mg "NotThere"=some x0!
 V8:XS.CZ K t.NotThere
 V9:XS.AM K oE!
 W3:W.subIn K x0! (.ref oE!)=some true
 W4:Eb K t.B7 "following"
 W5:Eb K t.B7 "preceding"
 W6:Eb K t.B6 "parents"
 W7:Eb K t.B6 "rows"
 W8:Eb K t.B6 "texts"
 W9:Eb K t.B6 "numbers"
 X0:Eb K t.B6 "written"
 X1:Eb K t.B6 "hidden"
 X2:Eb K t.B5 "ours"
 X3:Eb K t.B5 "taken"
 X4:Eb K t.B5 "waiting"
 X5:Eb K t.B5 "outline"
 X6:∀X:Cx,X.prog=P->X.w=w->X.K=K->X.mg=mg->Ul X "PARTS" gb!
end K20
namespace K20
open PySem L2 DL
open Classical
def iU:∀(l:n_) (d v:D),kget gT! d=some v
 |[],d,v=>by simp[Br,kget]
 |(k,x)::r,d,v=>by
  unfold Br;by_cases h:k=d
  .rw[KM h];simp[kget,h]
  .rw[KN h];simp[kget,h,iU r d v]
def mR(h:d≠e):∀(l:n_) (v:D),kget gT! e=kget l e
 |[],v=>by simp[Br,kget,h]
 |(k,x)::r,v=>by
  unfold Br;show"!|"
  .rw[a6!];subst hk;simp[kget,h]
  .rw[a6_];simp only[kget];rw[mR h r v]
def b7j(h:d≠e):∀(l:n_),kget gT_ e=kget l e
 |[]=>rfl
 |(k,x)::r=>by
  unfold Hl;show"!|"
  .rw[a6!];subst hk;simp[kget,h]
  .rw[a6_];simp only[kget];rw[b7j h r]
def a6s:∀{l:n_} {d:D},kget l d≠none↔d∈l.map c_
 |[],d=>by simp[kget]
 |(k,x)::r,d=>by
  unfold kget;show"!|"
  .subst hk;simp
  .rw[a6_,a6s];simp[LQ hk]
def a3j:∀{l:n_} {d:D},(d3_).Nodup->kget gT_ d=none
 |[],d,_=>rfl
 |(k,x)::r,d,h=>by
  rw[KL,LA]at h;unfold Hl;show"!|"
  .rw[a6!];subst hk;cases e:kget r k with
   |none=>rfl
   |some v=>exact absurd (a6s.mp pU!) h.1
  .rw[a6_];unfold kget;rw[a6_];exact a3j h.2
def a9p:∀{l:n_} {d v:D} {e:D},e∈(gT!).map c_↔e=d\/e∈l.map c_
 |[],d,v,e=>by simp[Br]
 |(k,x)::r,d,v,e=>by
  unfold Br;show"!|"
  .rw[a6!];subst hk;simp
  .rw[a6_];simp only[KL,KG];rw[a9p];constructor<;>(rintro(h|h|h)<;>simp[h])
def kA:∀{l:n_} {d v:D},(d3_).Nodup->((gT!).map c_).Nodup
 |[],d,v,_=>by simp[Br]
 |(k,x)::r,d,v,h=>by
  rw[KL,LA]at h;unfold Br;show"!|"
  .rw[a6!];simp only[KL,LA];exact h
  .rw[a6_];simp only[KL,LA];refine⟨dh_,kA h.2⟩;obtain z|z:=a9p.mp z
   .exact hk z
   .exact h.1 z
def b7l:∀{l:n_} {d e:D},e∈(gT_).map c_->e∈l.map c_
 |[],d,e,h=>by simp[Hl]at h
 |(k,x)::r,d,e,h=>by
  unfold Hl at h;show"!|"
  .rw[a6!]at h;simp only[KL,KG];exact .inr h
  .rw[a6_]at h;simp only[KL,KG]at h ⊢;obtain h|h:=h
   .exact .inl h
   .exact .inr (b7l h)
def b7m:∀{l:n_} {d:D},(d3_).Nodup->((gT_).map c_).Nodup
 |[],d,_=>by simp[Hl]
 |(k,x)::r,d,h=>by
  rw[KL,LA]at h;unfold Hl;show"!|"
  .rw[a6!];exact h.2
  .rw[a6_];simp only[KL,LA];exact⟨λz=>h.1 (b7l z),b7m h.2⟩
def jC:kget gT! z=if z=d then some v else kget l z:=by
 by_cases h:z=d
 .rw[KM h,h,iU]
 .rw[KN h,mR (LQ h)]
def b7k(nd:oE_):kget gT_ z=if z=d then none else kget l z:=by
 by_cases h:z=d
 .rw[KM h,h,a3j nd]
 .rw[KN h,b7j (LQ h)]
def Si:D->List D->D->Option D
 |a,[],z=>if z=a then some .non else none
 |a,x::r,z=>if z=a then some x else Si x r z
nonrec def lst:D->List D->D
 |a,[]=>a
 |_,x::u=>lst x u
def sB:∀{u:e!} {a:D},lst a u∈a::u
 |[],_=>KD
 |_::_,_=>KA _ sB
def zM:∀{u:e!} {a:D},lst a (u++[x])=x
 |[],_=>rfl
 |_::u,_=>zM (u:=u)
def oO:∀{u:e!} {a:D},u.reverse.headD a=lst a u
 |[],_=>rfl
 |x::u,a=>by
  rw[List.reverse_cons];refine Eq.trans ?_ (oO (u:=u) (a:=x));cases u.reverse<;>rfl
def b6z:∀{l:e!},Si a l a=some (l.headD .non)
 |[]=>KM rfl
 |_::_=>KM rfl
def c7c(h:z≠a)(g:z≠b):∀{l:e!},Si a l z=Si b l z
 |[]=>(KN h).trans (KN g).symm
 |_::_=>(KN h).trans (KN g).symm
def zO:∀{l:e!} {a z:D},Si a l z≠none↔z∈a::l
 |[],a,z=>by unfold Si;by_cases h:z=a<;>simp[h]
 |x::r,a,z=>by
  unfold Si;by_cases h:z=a
  .simp[h]
  .rw[KN h,zO,KG (a:=z) (b:=a)];simp[h]
def c7b(h:z∉a::l):Si a l z=none:=SK λe=>h (zO.mp e)
def sC:∀{l:e!} {a z v:D},Si a l z=some v->v=.non\/v∈l
 |[],a,z,v,h=>by
  unfold Si at h;split at h
  .cases h;exact .inl rfl
  .cases h
 |x::r,a,z,v,h=>by
  unfold Si at h;split at h
  .cases h;exact .inr KD
  .exact(sC h).imp_right (KA _)
def zP:∀{u:e!} {a:D},(a::u).Nodup->Si a aa_ (lst a u)=some c8_
 |[],_,_=>b6z
 |x::u,a,nd=>by
  rw[LA]at nd;exact(KN λe:lst x u=a=>nd.1 (by rw[<-e];exact sB)).trans (zP nd.2)
def sD:∀{u:e!} {a:D},n∉a::u->(a::u).Nodup->∀z,Si a cB_ z=if z=n then some c8_ else if z=lst a u then some n else Si a aa_ z
 |[],a,hn,_,z=>by
  show(if z=a then some n else Si n v z)=if z=n then _ else if z=a then _ else Si a v z
  by_cases c:z=n
  .subst c;rw[KN λe:z=a=>hn e2_,A!,b6z]
  .rw[KN c];by_cases d:z=a
   .rw[KM d,KM d]
   .rw[KN d,KN d];exact c7c c d
 |x::u,a,hn,nd,z=>by
  rw[KG,SE]at hn;rw[LA]at nd;show(if z=a then some x else Si x cB_ z)=if z=n then _ else if z=lst x u then _ else(if z=a then some x else Si x aa_ z)
  rw[sD hn.2 nd.2];by_cases c:z=a
  .rw[KM c,KM c,KN λe:z=n=>hn.1 (e.symm.trans c),KN λe:z=lst x u=>nd.1 (by rw[<-c,e];exact sB)]
  .rw[KN c,KN c]
structure Gy(xs:e!)(k:n_):Prop where
 f:∀z,kget k z=Si .non xs z
 kn:(k.map c_).Nodup
 nd:(D.non::xs).Nodup
 hk:∀x∈xs,∃k,Da x=some k
def b6g:∀{l m:ai_},l.Nodup->(∀a∈l,a∈m)->at!<=m.length
 |[],_,_,_=>LY _
 |a::l,m,h,hs=>by
  rw[LA]at h;have ha:=hs a KD;have:=b6g (m:=m.erase a) h.2 λb J=>(List.mem_erase_of_ne λz:b=a=>h.1 (z▸J)).mpr (hs b (KA _ J));rw[List.length_erase_of_mem ha]at this;have:=List.length_pos_of_mem ha;rw[KO];omega
section
def Gy.has(h:Gy xs k):kget k z≠none↔z∈D.non::xs:=by rw[h.f];exact zO
def Gy.len(h:Gy xs k):jN!<=i!+1:=by have:=b6g (m:=D.non::xs) h.kn λa ha=>h.has.mp (a6s.mpr ha);simpa using this
def Gy.key(h:Gy xs k)(hz:z∈D.non::xs):∃k,Da z=some k:=by
 obtain rfl|hz:=KG.mp hz
 .exact K!
 .exact h.hk z hz
def Gy.ins(h:Gy aa_ k)(hn:n∉D.non::aa_)(hm:∃k,Da n=some k)(kn:x5!)(e:∀z,kget k' z=if z=n then some c8_ else if z=lst .non u then some n else kget k z):Gy cB_ k':=by
 have nd:=h.nd;show"!k";refine⟨dh_,kn,p.nodup_iff.mpr (LA.mpr ⟨hn,nd⟩),aE!⟩
 .rw[<-OM,KR,SE]at hn;rw[e,h.f,sD hn.1 (oI_).1]
 .obtain z|z:=KR.mp hx
  .exact h.hk x hZ!
  .obtain rfl|z:=KG.mp z
   .exact hm
   .exact h.hk x iq_
def Gy.out(h:Gy cB_ k)(kn:x5!)(e:∀z,kget k' z=if z=lst .non u then some c8_ else if z=n then none else kget k z):Gy aa_ k':=by
 show"!k";have nd:=LA.mp (p.nodup_iff.mp h.nd);show"#6";rw[<-OM]at n2;have nu:=(LX.mp n2).1;refine⟨dh_,kn,nd.2,λx hx=>h.hk x (KR.mpr ((oJ!).imp_right (KA _)))⟩;rw[e,h.f,sD n1.1 nu];by_cases c:z=lst .non u
 .rw[KM c,c,zP nu]
 .rw[KN c];by_cases d:z=n
  .rw[KM d,d,c7b nd.1]
  .rw[KN d,KN d,KN c]
end
def a1s:Gy [] oK_:=⟨λz=>by show(if D.non=z then _ else _)=if z=D.non then _ else _;simp only[eq_comm];rfl,Q_,Q_,λ_ h=>by cases h⟩
def iQ:∀{l:List (α×β)} {a:α} {b c:β},(d3_).Nodup->eh_∈l->(a,c)∈l->b=c
 |[],_,_,_,_,h,_=>by cases h
 |(x,y)::r,a,b,c,nd,Y,h2=>by
  rw[KL,LA]at nd;obtain z|z:=KG.mp Y<;>obtain w|w:=KG.mp h2
  .cases z;cases w;rfl
  .cases z;exact absurd (KW (f:=c_) w) nd.1
  .cases w;exact absurd x6_ nd.1
  .exact iQ nd.2 z w
def Ym(n a:D):List D->List D
 |[]=>[]
 |x::r=>if x=a then x::n::r else x::Ym n a r
def Mu(n a:D)(xs:e!):List D:=if a∈xs then Ym n a xs else n::xs
def kC:∀{u v:e!},a∉u->Ym n a (u++a::v)=u++a::n::v
 |[],v,_=>by simp[Ym]
 |x::u,v,h=>by
  rw[KG,SE]at h;simp only[OM,Ym];rw[kW!,kC h.2]
def jH:∀{l:ai_},a∈l->∃u v,l=u++a::v/\a∉u
 |x::r,h=>by
  by_cases e:a=x
  .exact⟨[],r,s2!,Q_⟩
  .obtain⟨u,v,rfl,hu⟩:=jH ((KG.mp h).resolve_left e);exact⟨x::u,v,rfl,by simp[e,hu]⟩
def mX(n o:D)(xs:e!):∃u v,xs=u++v/\Mu n o xs=u++n::v/\lst .non u=if o∈xs then o else .non:=by
 unfold Mu;by_cases h:o∈xs
 .obtain⟨u,v,rfl,hu⟩:=jH h;exact⟨u++[o],v,Q_,by rw[KM h,kC hu];simp,by rw[KM h,zM]⟩
 .exact⟨[],xs,rfl,x7!,x7!⟩
def c9x:(Str.ofString "preceding"==Str.ofString "following")=false:=by decide+kernel
def a9x:(Str.ofString "following"==Str.ofString "following")=true:=by decide+kernel
def lkP:List.lookup (Str.ofString "preceding") [(Str.ofString "following",a),(Str.ofString "preceding",b)]=some b:=by simp[MZ,c9x]
structure Hr(t:Bk)(M:Mh)(r f p:u0!)(xs:e!):Prop where
 ob:M r=some oO!
 dc:∃kf ef kp ep,M f=some x7_/\M p=some x8!/\Gy xs kf/\Gy xs.reverse kp
 ne:f≠p
def xI:Ci d=true↔d=.non:=by cases d<;>simp[Ci]
def jQ(hd:d≠.non):Ci d=false:=by cases q:Ci d with|false=>rfl|true=>exact absurd (xI.mp q) hd
section
def a3s(h:jP!)(hk:bh!)(hR:R (.bl (decide (d∈xs))) M):Fb t [.fn r,d] M R:=by
 obtain⟨kf,ef,kp,ep,hf,hp,K,_⟩:=h.dc;refine h!;by_cases hd:d=.non
 .subst hd;rw[KP (x8_).1]at hR;simpa[Lb,At,Mg,wT,wl,f2,Aa,fC,Ao,Ci]using hR
 .have e3:(kget kf d).isSome=decide (d∈xs):=by
   have:=K.has (z:=d);cases q:kget kf d with
   |none=>rw[q]at this;simp[hd]at this;simp[this]
   |some v=>rw[q]at this;simp[hd]at this;simp[this]
  rw[<-e3]at hR;simpa[Lb,At,Mg,wT,wl,f2,Aa,fC,Ao,jQ hd,w2,Ar,Gj,h.ob,Ed,Gr,hf,hk,a9x]using hR
structure RW(t:Bk)(M0 M:Mh)(r f p:u0!)(kf kp:n_):Prop where
 ob:M r=some oO!
 hf:∃e,M f=some (.dct kf e)
 hp:∃e,M p=some (.dct kp e)
 ne:f≠p/\r≠f/\r≠p
 fr:∀b,b≠f->b≠p->M b=M0 b
section
variable{M0:Mh}
def RW.upF(h:cC!):RW t M0 (mup M f (.dct c e)) r f p c kp:=by obtain⟨n1,n2,n3⟩:=h.ne;obtain⟨ep,hp⟩:=h.hp;exact⟨(mup_ne n2).trans h.ob,x9_,⟨ep,(mup_ne (LQ n1)).trans hp⟩,h.ne,λb b1 b2=>(mup_ne b1).trans ya!⟩
def RW.upP(h:cC!):RW t M0 (mup M p (.dct c e)) r f p kf c:=by obtain⟨n1,n2,n3⟩:=h.ne;obtain⟨ef,hf⟩:=h.hf;exact⟨(mup_ne n3).trans h.ob,⟨ef,(mup_ne n1).trans hf⟩,x9_,h.ne,λb b1 b2=>(mup_ne b2).trans ya!⟩
def RW.fol(h:cC!)(h0:e3_)(K:T_):Ar t.B7 "following" g_ ρ M K=K (.fn f) M:=by simp[Ar,wl,h0,Gj,h.ob,a9x,Ed]
def RW.pre(h:cC!)(h0:e3_)(K:T_):Ar t.B7 "preceding" g_ ρ M K=K x_ M:=by simp[Ar,wl,h0,Gj,h.ob,lkP,Ed]
def RW.pf(h:cC!)(h0:e3_)(hi:e4!)(hv:yc!)(hk:aP_)(hl:kf.length<big)(q:∀M',RW t M0 M' r f p (Br kf y v) kp->Q S_ M'):Cb bB_ gU! (wl fv) ρ M Q:=by obtain⟨e,hf⟩:=h.hf;simpa[Cb,wl,hv,hi,h.fol h0,Ko,hf,hk,hl,Ed]using q _ h.upF
def RW.pp(h:cC!)(h0:e3_)(hi:e4!)(hv:yc!)(hk:aP_)(hl:kp.length<big)(q:∀M',RW t M0 M' r f p kf (Br kp y v)->Q S_ M'):Cb eH! gU! (wl fv) ρ M Q:=by obtain⟨e,hp⟩:=h.hp;simpa[Cb,wl,hv,hi,h.pre h0,Ko,hp,hk,hl,Ed]using q _ h.upP
def RW.popF(h:cC!)(h0:e3_)(hi:e4!)(hk:aP_)(hv:kget kf y=some v)(q:∀M',RW t M0 M' r f p (Hl kf y) kp->K v M'):Ta bB_ gU! ρ M K:=by obtain⟨e,hf⟩:=h.hf;simpa[Ta,wl,hi,h.fol h0,Dx,hf,hk,hv,Ed]using q _ h.upF
def RW.popP(h:cC!)(h0:e3_)(hi:e4!)(hk:aP_)(hv:kget kp y=some v)(q:∀M',RW t M0 M' r f p kf (Hl kp y)->K v M'):Ta eH! gU! ρ M K:=by obtain⟨e,hp⟩:=h.hp;simpa[Ta,wl,hi,h.pre h0,Dx,hp,hk,hv,Ed]using q _ h.upP
def RW.of(h:jP!):∃kf kp,RW t M M r f p kf kp/\Gy xs kf/\Gy xs.reverse kp:=by obtain⟨kf,ef,kp,ep,hf,hp,K,Kp⟩:=h.dc;exact⟨kf,kp,⟨h.ob,⟨ef,hf⟩,⟨ep,hp⟩,⟨h.ne,(λz=>by have:=h.ob;rw[z,hf]at this;cases this),λz=>by have:=h.ob;rw[z,hp]at this;cases this⟩,yd_⟩,K,Kp⟩
def RW.at(h:cC!)(K:Gy xs kf)(Kp:Gy xs.reverse kp):Hr t M r f p xs:=by obtain⟨ef,hf⟩:=h.hf;obtain⟨ep,hp⟩:=h.hp;exact⟨h.ob,⟨kf,ef,kp,ep,hf,hp,K,Kp⟩,h.ne.1⟩
def sq(h:q1 ρ M λr M1=>match r with|.nx bc=>q2 bc M1 Q|.rt d=>Q aH_ M1):Af q1 q2 ρ M Q:=h
end
def iW(h:jP!)(hn:ye!)(ho:Da o=some ko)(nx:n∉D.non::xs)(hl:i!<5000)
  (hR:∀M',Hr t M' r f p (Mu n o xs)->yf_->R .non M'):Cs t [.fn r,n,o] M R:=by
 obtain⟨kf,kp,w,K,Kp⟩:=RW.of h;obtain⟨u,v,rfl,c2,ea⟩:=mX n o xs;have nd:=K.nd;have jr:kget kf oQ_=some c8_:=(K.f _).trans (zP (oI_).1);have ma:lst D.non u∈D.non::aa_:=by rw[<-OM];exact LD _ sB
 have mb:v.headD D.non∈D.non::aa_:=by
  obtain z|z:=sC yg_
  .rw[z];exact KD
  .exact KA _ z
 obtain⟨ka,vc⟩:=K.key ma;obtain⟨kb,j7⟩:=K.key mb;have nb:v.headD D.non≠n:=λz=>nx (z▸mb);have ev:v.headD D.non=lst .non jR!:=by rw[<-oO,List.reverse_reverse]
 have eu:lst D.non u=u.reverse.headD .non:=oO.symm;have L:=K.len;have L':=Kp.len;rw[List.length_reverse]at L';rw[List.reverse_append]at Kp;generalize ig:lst D.non u=a0 at *;generalize vd:v.headD D.non=b0 at *;have K1:=K.ins (k':=Br yh_ n b0) nx ⟨kn,hn⟩ (kA (kA K.kn)) λz=>by rw[jC,jC,vd,ig]
 have K2:=Kp.ins (n:=n) (k':=Br yi! b0 n) (λz=>nx (by simpa[or_comm]using z)) ⟨kn,hn⟩ (kA (kA Kp.kn)) λz=>by
  rw[jC,jC,<-ev,<-eu];by_cases c:z=b0
  .rw[KM c,KN (c▸nb),KM c]
  .rw[KN c,KN c]
 have l1:kf.length<big:=by unfold big;omega
 have l2:kp.length<big:=by unfold big;omega
 have l3:(yh_).length<big:=NA gU_ br!;have l4:(yi!).length<big:=NA gU_ br!;refine h!;obtain⟨ef,hf⟩:=w.hf;show Af t4_ _ yi_ M _;have hm:Dr t.B7 "holds" M jP_:=by simp[Dr,h.ob];exact⟨f6_,f6_⟩
 have e1:∀K:D->Mh->Prop,K a0 M->DC t4! y_ bB! yi_ M K:=λK hK=>by
  refine⟨hm,rfl,a3s h ho ?_⟩;rw[ea]at hK;by_cases c:o∈u++v
  .rw[KM c]at hK;rw[LG c];exact hK
  .rw[KN c]at hK;rw[KP c];exact hK
 refine e1 _ ?_;have e2:Bs M (.fn f) a0=some b0:=by simp[Bs,hf,vc,jr]
 have e3:∀K:D->Mh->Prop,K b0 M->w2 Bs bB_ ax! [dU!,bf!,some o,some a0,none] M K:=λK hK=>by
  unfold w2;rw[w.fol rfl];show wl C_ _ M _;simpa[wl,Aa,e2]using hK
 refine e3 _ ?_;refine sq (w.pf (ρ:=[dU!,bf!,some o,some a0,some b0]) rfl rfl rfl vc l1 λM1 w=>?_);refine sq (w.pp rfl rfl rfl hn l2 λM2 w=>?_);refine sq (w.pf rfl rfl rfl hn l3 λM3 w=>?_);exact w.pp rfl rfl rfl j7 l4 λM4 w=>hR M4 (by rw[c2];exact w.at K1 yk_) w.fr
def a1n(h:Hr t M r f p cB_)(hn:ye!)(hl:(cB_).length<5000)
  (hR:∀M',Hr t M' r f p aa_->yf_->R .non M'):Im t [.fn r,n] M R:=by
 obtain⟨kf,kp,w,K,Kp⟩:=RW.of h;have e1:(cB_).reverse=jR!++n::u.reverse:=by simp
 have at_:∀{u v:e!} {k:n_},Gy cB_ k->kget k n=some c8_/\n∉D.non::aa_:=λ{u v k} K=>by
  show"!k";have nd:=LA.mp (p.nodup_iff.mp K.nd);refine⟨?_,nd.1⟩;show"#6";rw[K.f,sD n1.1 (LX.mp n2).1,A!]
 have L:=K.len;have L':=Kp.len;rw[List.length_reverse]at L';rw[e1]at Kp;have ev:v.headD D.non=lst .non jR!:=by rw[<-oO,List.reverse_reverse]
 have jr:=(at_ K).1;have yj:=(at_ Kp).1;obtain⟨kb,j7⟩:=K.key (z:=v.headD .non) (by obtain z|z:=sC yg_;rw[z];exact KD;exact KA _ z);obtain⟨ka,vc⟩:=Kp.key (z:=u.reverse.headD .non) (by obtain z|z:=sC ((Kp.f _).symm.trans yj);rw[z];exact KD;exact KA _ z);have eu:lst D.non u=u.reverse.headD .non:=oO.symm;have K1:=K.out (k':=Br (Hl kf n) oQ_ c8_) (kA (b7m K.kn)) λz=>by rw[jC,b7k K.kn]
 have K2:=Kp.out (k':=Br (Hl kp n) (lst .non jR!) (u.reverse.headD .non)) (kA (b7m Kp.kn)) λz=>by rw[jC,b7k Kp.kn]
 rw[<-ev]at K2;rw[eu]at K1;generalize u.reverse.headD D.non=a0 at *;generalize v.headD D.non=b0 at *;have dl:∀{l:n_},(Hl l n).length<=at!:=λ{l}=>by
  induction l with
  |nil=>exact KU _
  |cons q l ih=>unfold Hl;split;exact OL _;exact Nat.succ_le_succ ih
 have l1:(Hl kf n).length<big:=NA dl br!;have l2:(Hl kp n).length<big:=NA dl br!;refine h!;show Af t7! _ [dU!,bf!,none,none] M _;refine sq ?_;unfold Al;refine w.popP rfl rfl hn yj λM1 w=>sq ?_;refine w.popF rfl rfl hn jr λM2 w=>sq ?_;refine w.pf (ρ:=[dU!,bf!,some a0,some b0]) rfl rfl rfl vc l1 λM3 w=>?_;exact w.pp rfl rfl rfl j7 l2 λM4 w=>hR M4 (w.at K1 yk_) w.fr
end
end K20
namespace K20
open PySem L2 DL
abbrev root:D:=.str "root"
abbrev binn:D:=.str "bin"
def b4h:root≠binn:=by intro z;simp only[D.str.injEq]at z;exact absurd z i_
def Ht(x:D):Prop:=∃a b,x=.tup ym_
def Ph(x:D):Prop:=∃a b c,x=.tup yn_
def Ht.key(h:Ht x):∃k,Da x=some k:=by obtain⟨a,b,rfl⟩:=h;exact K!
def Ph.key(h:Ph x):∃k,Da x=some k:=by obtain⟨a,b,c,rfl⟩:=h;exact K!
def Ht.nn(h:Ht x):x≠.non/\x≠root/\x≠binn:=by obtain⟨a,b,rfl⟩:=h;refine⟨?_,?_,?_⟩<;>(intro z;cases z)
def Ph.nn(h:Ph x):x≠.non:=by obtain⟨a,b,c,rfl⟩:=h;intro z;cases z
structure OW where
 rows:List am!
 its:List D
 txt:D->List c9_
 num:D->List D
open Classical in
nonrec def chl(rows:n_)(x:D):List D:=(rows.filter λq=>q.2=x).map c_
open Classical in
nonrec def wo(rows:n_)(i:D):List am!:=rows.filter λq=>q.1≠i
inductive Wn(rows:n_)(i:D):D->Prop
 |here:Wn rows i i
 |up {x p:D}:aW!∈rows->Wn rows i p->Wn rows i x
def Pn(rows:n_)(i p s:D)(rows':n_):Prop:=∃u v,wo rows i=u++v/\rows'=u++bJ_::v/\((s∉chl da! p/\chl u p=[])\/∃u',u=u'++[da_])
def Et(W:OW)(x:D):Prop:=x∈W.its\/x=root\/x=binn
structure Bx(W:OW):Prop where
 nd:W.its.Nodup
 nm:∀x∈W.its,Ht x
 rnd:(jT_).Nodup
 ri:∀x,x∈W.rows.map c_↔x∈W.its
 rp:∀i p,bJ_∈W.rows->Et W p
 rk:∃rk:D->Nat,∀i p,bJ_∈W.rows->rk p<rk i
 snd:∀x∈W.its,(jU!).Nodup
 sg:∀x∈W.its,∀q∈W.txt x,Ph q.1
 su:∀x∈W.its,∀y∈W.its,∀q∈W.txt x,∀q'∈W.txt y,q.1=q'.1->x=y
 nl:∀x∈W.its,(bK!).length=4
section
open Classical
def jA:q∈wo rows i↔q∈rows/\q.1≠i:=by unfold wo;rw[NH];simp
def fY:c∈chl rows x↔(c,x)∈rows:=by
 unfold chl;rw[KY];show"!w"
 .rintro⟨⟨a,b⟩,h,rfl⟩;rw[NH]at h;have:=h.2;simp at this;rw[<-this];exact h.1
 .intro h;exact⟨(c,x),NH.mpr ⟨h,Q_⟩,rfl⟩
def eB:chl aa_ x=chl u x++chl v x:=by unfold chl;rw[UJ,LL]
def jE:chl (bJ_::v) p=i::chl v p:=by unfold chl;rw[NE c!];rfl
def rK(h:p≠x):chl (bJ_::v) x=chl v x:=by unfold chl;rw[NG j5_]
def sM:((da!).map c_).Sublist pI!:=by unfold wo;exact(Ax_).map _
def Pn.chl_same(h:gV!)(nd:fh_):chl rows' p=Mu i s (chl da! p):=by
 obtain⟨u,v,e,rfl,hc⟩:=h;rw[eB,jE];have j9:(yr_).Nodup:=by rw[<-e];exact nd.sublist sM
 obtain⟨Y,h2⟩|⟨u',rfl⟩:=hc
 .unfold Mu;rw[KN Y,e,eB,h2];rfl
 .rw[e];have hs:s∈chl yq_ p:=fY.mpr c!;unfold Mu;have h2:chl (u'++[da_]) p=chl u' p++[s]:=by rw[eB,jE];rfl
  have h3:chl yq_ p=chl u' p++s::chl v p:=by rw[eB,h2];simp
  rw[KM hs,h2,h3];have hu:s∉chl u' p:=λz=>by
   have:=fY.mp z;simp only[LL,KL,QC,NJ]at j9;rw[LX]at j9;exact j9.2.2 _ (KW (f:=c_) this) s c! rfl
  rw[kC hu];simp
def Pn.chl_ne(h:gV!)(hx:p≠x):chl rows' x=chl da! x:=by obtain⟨u,v,e,rfl,hc⟩:=h;rw[eB,rK hx,e,eB]
def Pn.mem(h:gV!):q∈rows'↔q=bJ_\/q∈wo rows i:=by
 obtain⟨u,v,e,rfl,hc⟩:=h;rw[e];simp only[KR,KG];show"!w"
 .rintro(z|z|z)<;>simp[z]
 .rintro(z|z|z)<;>simp[z]
def Pn.nd(h:gV!)(nd:fh_):(rows'.map c_).Nodup:=by
 obtain⟨u,v,e,rfl,hc⟩:=h;have j9:(yr_).Nodup:=by rw[<-e];exact nd.sublist sM
 have ni:i∉(aa_).map c_:=λz=>by
  obtain⟨q,hq,hi⟩:=KY.mp z;rw[<-e]at hq;exact(oT!).2 hi
 simp only[LL,KL]at j9 ni ⊢;rw[LX]at j9 ⊢;rw[KR,SE]at ni;refine⟨j9.1,LA.mpr ⟨ni.2,j9.2.1⟩,λa ha b J=>?_⟩;obtain rfl|J:=KG.mp J
 .exact λz=>ni.1 (z▸ha)
 .exact j9.2.2 a ha b J
def xW(h:(i,x)∉rows):chl da! x=chl rows x:=by unfold chl wo;rw[QK];congr 1;apply OX;intro q hq;simp only[ne_eq,decide_not,Bool.and_eq_left_iff_imp,LO,TN,OP,SW];rintro rfl z;exact h oU!
def a7j(nd:fh_)(h:(i,x)∈rows):∃u v,chl rows x=u++i::v/\chl da! x=u++v:=by
 obtain⟨a,b,e,_⟩:=jH h;have n1:i∉(a++b).map c_:=by
  rw[e]at nd;simp only[LL,KL]at nd ⊢;rw[LX,LA]at nd;rw[KR,SE];exact⟨λz=>nd.2.2 _ z i c! rfl,nd.2.1.1⟩
 have e2:wo rows i=a++b:=by
  unfold wo;rw[e,UJ,NG c!];have keep:∀l:List am!,i∉l.map c_->l.filter (λq=>decide (q.1≠i))=l:=λl hl=>ND.mpr λq hq=>by
   simp only[ne_eq,decide_not,TN,OP,SW];exact λz=>hl oU_
  rw[LL,KR,SE]at n1;rw[keep a n1.1,keep b n1.2]
 refine⟨chl a x,chl b x,?_,?_⟩
 .rw[e,eB,jE]
 .rw[e2,eB]
def a5a(nd:fh_)(h:aW!∈rows)(hx:x≠i):Wn rows i x↔Wn rows i p:=by
 show"!w"
 .intro z;cases z with
  |here=>exact absurd rfl hx
  |up h2 z=>rw[iQ nd h h2];exact z
 .exact λz=>.up h z
def b3k(h:∀p,aW!∉rows)(hx:x≠i):¬Wn rows i x:=λz=>by
 cases z with
 |here=>exact hx rfl
 |up h2 _=>exact h _ h2
def Pn.winv(h:Pn W.rows i p s rows')(w:Bx W)(hi:db!)(hp:Et W p)(hw:¬Wn W.rows i p):Bx {W with rows:=rows'}:=by
 refine⟨w.nd,w.nm,h.nd w.rnd,jU_,jV!,?_,w.snd,w.sg,w.su,w.nl⟩
 .show x∈rows'.map c_↔x∈W.its;rw[<-w.ri x];show"!w"
  .intro z;obtain⟨q,hq,rfl⟩:=KY.mp z;obtain rfl|hq:=h.mem.mp hq
   .exact(w.ri i).mpr hi
   .exact KW (oT!).1
  .intro z;by_cases hx:x=i
   .subst hx;exact KY.mpr yw_
   .obtain⟨q,hq,rfl⟩:=KY.mp z;exact KW (h.mem.mpr (.inr (jA.mpr ⟨hq,hx⟩)))
 .show Et W b;obtain z|z:=h.mem.mp hm
  .cases z;exact hp
  .exact w.rp _ _ (jA.mp z).1
 .obtain⟨rk,gw⟩:=w.rk;refine⟨λx=>if Wn W.rows i x then rk x+rk p+1 else rk x,jV!⟩;obtain z|z:=h.mem.mp hm
  .cases z;dsimp only;rw[KN hw,KM .here];omega
  .obtain⟨z1,z2⟩:=jA.mp z;have:=gw _ _ z1;have q:=a5a w.rnd z1 z2;dsimp only;by_cases c:Wn W.rows i a
   .rw[KM c,KM (q.mp c)];omega
   .rw[KN c,KN (λz=>c (q.mpr z))];exact this
def Jj(W:OW)(n:D)(rows':n_):OW:=⟨rows',W.its++[n],yx_,yy!⟩
def Pn.winv_put(h:Pn W.rows n p s rows')(w:Bx W)(hn:n∉W.its)(ht:Ht n)(hp:Et W p):Bx e5_:=by
 have nn:n∉W.rows.map c_:=λz=>hn ((w.ri n).mp z);have ve:wo W.rows n=W.rows:=by
  refine ND.mpr λq hq=>?_;simp only[ne_eq,decide_not,TN,OP,SW];exact λz=>nn oU_
 have pn:p≠n:=λz=>by
  obtain q|q|q:=hp
  .exact hn (z▸q)
  .exact ht.nn.2.1 (z▸q)
  .exact ht.nn.2.2 (z▸q)
 have im:∀x,x∈(e5_).its↔x∈W.its\/x=n:=λx=>by simp[Jj]
 refine⟨?_,aE!,h.nd w.rnd,jU_,jV!,?_,aE!,aE!,jW!,aE!⟩
 .show(W.its++[n]).Nodup;rw[LX];exact⟨w.nd,Q_,λa ha b J=>by simp at J;subst J;exact λz=>hn (z▸ha)⟩
 .obtain z|rfl:=(im x).mp hx
  .exact w.nm x z
  .exact ht
 .rw[im,<-w.ri x];show"!w"
  .intro z;obtain⟨q,hq,rfl⟩:=KY.mp z;obtain rfl|hq:=h.mem.mp hq
   .exact .inr rfl
   .rw[ve]at hq;exact .inl (KW hq)
  .rintro(z|rfl)
   .obtain⟨q,hq,rfl⟩:=KY.mp z;exact KW (h.mem.mpr (.inr (by rw[ve];exact hq)))
   .exact KY.mpr yw_
 .have up:∀y,Et W y->Et e5_ y:=λy hy=>by
   obtain q|q:=hy
   .exact .inl ((im y).mpr (.inl q))
   .exact .inr q
  obtain z|z:=h.mem.mp hm
  .cases z;exact up _ hp
  .rw[ve]at z;exact up _ (w.rp _ _ z)
 .obtain⟨rk,gw⟩:=w.rk;refine⟨λx=>if x=n then rk p+1 else rk x,jV!⟩;obtain z|z:=h.mem.mp hm
  .cases z;dsimp only;rw[KN pn,A!];omega
  .rw[ve]at z;have ha:a≠n:=λq=>nn (q▸KW (f:=c_) z);have J:b≠n:=λq=>by
    obtain y|y|y:=w.rp _ _ z
    .exact hn (q▸y)
    .exact ht.nn.2.1 (q▸y)
    .exact ht.nn.2.2 (q▸y)
   dsimp only;rw[KN ha,KN J];exact gw _ _ z
 .show((jY!).map c_).Nodup;split
  .simp
  .rename_i q;exact w.snd x oY_
 .show∀q∈jY!,Ph q.1;split
  .intro q hq;cases hq
  .rename_i q;exact w.sg x oY_
 .show∀q∈jY!,∀q'∈yC_,q.1=q'.1->x=y;split
  .intro q hq;cases hq
  .rename_i q1;split
   .intro q hq q' a7;cases a7
   .rename_i q2;exact w.su x ((oY!).resolve_right q1) y (((im y).mp hy).resolve_right q2)
 .show(yD_).length=4;split
  .rfl
  .rename_i q;exact w.nl x oY_
def Yl(b:D)(nw:aW_):List c9_->List c9_
 |[]=>[]
 |x::r=>if x.1=b then x::(nw++r)else x::Yl b nw r
nonrec def wrT(b:D)(nw l:aW_):List c9_:=if b∈l.map c_ then Yl b nw l else nw++l
def uU(hq:q.1=b):b∉u.map c_->Yl b nw (u++q::v)=u++q::(nw++v):=by
 induction u with
 |nil=>intro _;simp[Yl,hq]
 |cons x u ih=>
  intro h;rw[KL,KG,SE]at h;simp only[OM,Yl];rw[kW!,ih h.2]
def pK(b:D)(nw l:aW_):∃u v,l=u++v/\wrT b nw l=u++nw++v/\((u=[]/\b∉l.map c_)\/∃u' q,u=u'++[q]/\q.1=b/\b∉u'.map c_):=by
 by_cases h:b∈l.map c_
 .obtain⟨u,v,e,hu⟩:=jH h;obtain⟨u',r,e1,e2,e3⟩:=List.map_eq_append_iff.mp e;obtain⟨q,v',e4,e5,e6⟩:=List.map_eq_cons_iff.mp e3;subst e4;refine⟨u'++[q],v',by simp[e1],?_,.inr ⟨u',q,rfl,e5,by rw[e2];exact hu⟩⟩;unfold wrT;rw[KM h,e1,uU e5 (by rw[e2];exact hu)];simp
 .exact⟨[],l,rfl,by unfold wrT;rw[KN h];rfl,.inl b6!⟩
nonrec def setT(W:OW)(a:D)(l:aW_):OW:={W with txt:=λx=>if x=a then l else W.txt x}
def pN(w:Bx W)(ha:e6!)(Y:oE_)(h2:∀q∈l,Ph q.1)(h3:∀q∈l,∀y∈W.its,∀q'∈W.txt y,q.1=q'.1->y=a):Bx oZ_:=by
 refine⟨w.nd,w.nm,w.rnd,w.ri,w.rp,w.rk,aE!,aE!,jW!,w.nl⟩
 .show((o0!).map c_).Nodup;split
  .exact Y
  .exact w.snd x hx
 .show∀q∈o0!,Ph q.1;split
  .exact h2
  .exact w.sg x hx
 .show∀q∈o0!,∀q'∈(if y=a then l else W.txt y),q.1=q'.1->x=y;split
  .rename_i e1;subst e1;split
   .rename_i e2;intro _ _ _ _ _;exact e2.symm
   .intro q hq q' a7 e;exact(h3 q hq y hy q' a7 e).symm
  .split
   .rename_i e2;subst e2;intro q hq q' a7 e;exact h3 q' a7 x hx q hq e.symm
   .exact w.su x hx y hy
def Xw(W:OW)(a:D)(l:e!):OW:={W with num:=λx=>if x=a then l else W.num x}
def b1a(w:Bx W)(hl:at!=4):Bx (Xw W a l):=by
 refine⟨w.nd,w.nm,w.rnd,w.ri,w.rp,w.rk,w.snd,w.sg,w.su,aE!⟩;show(if x=a then l else W.num x).length=4;split
 .exact hl
 .exact w.nl x hx
end
end K20
namespace K20
open PySem L2 DL
open Classical
nonrec def oF(a1 a2 a3 a4 a5 a6:u0!):List b7!:=[cD!,e6_,o0_,yF_,("written",.fn a5),("hidden",.fn a6)]
section
def oF1:List.lookup (Str.ofString "parents") bK_=some (D.fn a1):=by kernel_rfl
def oF2:List.lookup o1_ bK_=some (D.fn a2):=by kernel_rfl
def oF3:List.lookup o2! bK_=some (D.fn a3):=by kernel_rfl
def oF4:List.lookup o2_ bK_=some (D.fn a4):=by kernel_rfl
def oF5:List.lookup (Str.ofString "written") bK_=some (D.fn a5):=by kernel_rfl
def oF6:List.lookup (Str.ofString "hidden") bK_=some (D.fn a6):=by kernel_rfl
def oM1:List.lookup (Str.ofString "has") bK_=none:=by kernel_rfl
def oM2:List.lookup (Str.ofString "has_item") bK_=none:=by kernel_rfl
end
def rM:List.lookup (Str.ofString "put_behind") j0!=none/\List.lookup (Str.ofString "take_out") j0!=none/\List.lookup (Str.ofString "listed") j0!=none/\List.lookup (Str.ofString "holds") j0!=none:=⟨j0_,j0_,j0_,j0_⟩
inductive Vq
 |ob|par|dir (b:Bool)|nums|wri|hid|row (x:D) (b:Bool)|fol (x:D) (b:Bool)|pre (x:D) (b:Bool)|nm (x:D)
structure Ix where
 pr:D->D->Prop
 dm:Bool->D->Prop
 nd:D->Prop
 ls:D->Bool->List D
 wr:D->D->Prop
 hi:D->Prop
 nu:D->List D
def Js(V:Ix):Vq->Prop
 |.row x b=>V.dm b x
 |.fol x b=>V.dm b x
 |.pre x b=>V.dm b x
 |.nm x=>V.nd x
 |_=>True
def Dc(B:Nat)(c:Es)(P:List am!->Prop):Prop:=∃k e,c=.dct k e/\jN!<=B/\P k
def TF(B:Nat)(c:Es)(l:e!):Prop:=at!<=B/\∃k e,c=.dct k e/\Gy l k
def Ty(t:Bk)(ad:o3!)(V:Ix)(B:Nat)(c:Es):Vq->Prop
 |.ob=>c=.obj t.B6 yI_
 |.par=>Dc B c λk=>kget k root=some .non/\kget k binn=some .non/\∀i p,V.pr i p->kget k i=some p
 |.dir b=>Dc B c λk=>∀x,o5_/\o6!
 |.nums=>Dc B c λk=>∀x,V.nd x->kget k x=some (.fn j2!)
 |.wri=>Dc B c λk=>∀s v,V.wr s v->kget k s=some v
 |.hid=>Dc B c λk=>∀s,(kget k s).isSome=true↔V.hi s
 |.row x b=>c=.obj t.B7 [("following",.fn o7!),("preceding",.fn o7_)]
 |.fol x b=>TF B c j2_
 |.pre x b=>TF B c (j2_).reverse
 |.nm x=>c=.lst (V.nu x)
structure Ep(t:Bk)(M:Mh)(ad:o3!)(V:Ix)(B:Nat):Prop where
 ty:∀r,Js V r->∃c,M gX_=some c/\Ty t ad V B c r
 inj:∀r r',Js V r->Js V r'->ad r=ad r'->r=r'
def Xg(ad:o3!)(V:Ix)(b:u0!):Prop:=∃r,Js V r/\ad r=b
def Sm(V V':Ix):Vq->Prop
 |.par=>V'.pr=V.pr
 |.dir b=>V'.dm b=V.dm b
 |.nums=>V'.nd=V.nd
 |.wri=>V'.wr=V.wr
 |.hid=>V'.hi=V.hi
 |.fol y b=>V'.ls y b=V.ls y b
 |.pre y b=>V'.ls y b=V.ls y b
 |.nm x=>V'.nu x=V.nu x
 |_=>0=0
def Sm.rfl{V:Ix}:Sm V V r:=by cases r<;>exact Eq.refl _
section
variable{ad a9:Vq->Addr}{V V':Ix}
def Dc.mono(h:Dc B c P)(hB:cD_)(q:∀k,P k->Q k):Dc B' c Q:=by obtain⟨k,e,Y,h2,h3⟩:=h;exact⟨k,e,Y,LV h2 hB,q k h3⟩
def Ty.tr(hB:cD_)(old:j3_)(l:Js V r)(s:Sm V V' r)(ty:Ty t ad V B c r):Ty t a9 V' B' c r:=by
 cases r with
 |ob=>exact ty.trans (by rw[old .par trivial,old (.dir true) trivial,old yI! trivial,old .nums trivial,old .wri trivial,old .hid trivial])
 |par=>have s:V'.pr=V.pr:=s;exact Dc.mono ty hB λk h=>by rw[s];exact h
 |dir b=>have s:V'.dm b=V.dm b:=s;exact Dc.mono ty hB λk h x=>by rw[s];exact⟨λz=>by rw[old j1! z];exact(h x).1 z,(h x).2⟩
 |nums=>have s:V'.nd=V.nd:=s;exact Dc.mono ty hB λk h x z=>by rw[s]at z;rw[old j1_ z];exact h x z
 |wri=>have s:V'.wr=V.wr:=s;exact Dc.mono ty hB λk h=>by rw[s];exact h
 |hid=>have s:V'.hi=V.hi:=s;exact Dc.mono ty hB λk h=>by rw[s];exact h
 |row x b=>exact ty.trans (by rw[old dV! l,old dV_ l])
 |fol x b=>have s:V'.ls x b=V.ls x b:=s;exact yN!
 |pre x b=>have s:V'.ls x b=V.ls x b:=s;exact yN!
 |nm x=>have s:V'.nu x=V.nu x:=s;exact ty.trans (by rw[s])
def Ep.go(h:aX!)(hB:cD_)(old:j3_)(inj:∀r r',Js V' r->Js V' r'->a9 r=a9 r'->r=r')
  (k:∀r,Js V' r->(∃c,M' (a9 r)=some c/\Ty t a9 V' B' c r)\/(Js V r/\M' gX_=M gX_/\Sm V V' r)):Ep t M' a9 V' B':=⟨λr hr=>by
 obtain z|⟨l,e,s⟩:=k r hr
 .exact z
 .obtain⟨c,e1,e2⟩:=h.ty r l;exact⟨c,by rw[old r l,e];exact e1,e2.tr hB old l s⟩,inj⟩
def Ep.cv(h:aX!)(hB:cD_)(hL:∀r,Js V' r->Js V r/\Sm V V' r):Ep t M ad V' B':=
 h.go hB k! (λr r' a b=>h.inj r r' (hL r a).1 (hL r' b).1) λr l=>.inr ⟨(o8!).1,rfl,(o8!).2⟩
def Ep.up(h:aX!)(hB:cD_)(l0:Js V r0)(hc:Ty t ad V' B' c r0)(s:∀r,r≠r0->Js V' r->Js V r/\Sm V V' r):Ep t (mup M (ad r0) c) ad V' B':=by
 have hL:∀r,Js V' r->Js V r:=λr l=>by
  by_cases e:r=r0
  .rw[e];exact l0
  .exact(s r e l).1
 refine h.go hB k! (λr r' a b=>h.inj r r' (hL r a) (hL r' b)) λr l=>?_;by_cases e:r=r0
 .subst e;exact .inl ⟨c,mup_same,hc⟩
 .exact .inr ⟨hL r l,mup_ne λz=>e (h.inj r r0 o8! l0 z),(s r e l).2⟩
def sR(l0:Js V r0)(ha:¬Xg ad V a):mup M (ad r0) c a=M a:=mup_ne λz=>ha ⟨r0,l0,z.symm⟩
def Ep.ob(h:aX!):M o8_=some (.obj t.B6 yI_):=by obtain⟨_,e,rfl⟩:=h.ty .ob trivial;exact e
def Ep.row(h:aX!)(hd:V.dm b x):Hr t M o5! o7! o7_ j2_/\(j2_).length<=B:=by obtain⟨_,e,rfl⟩:=h.ty j1! hd;obtain⟨_,e1,l1,kf,ef,rfl,K⟩:=h.ty dV! hd;obtain⟨_,e2,l2,kp,ep,rfl,K2⟩:=h.ty dV_ hd;exact⟨⟨e,⟨kf,ef,kp,ep,e1,e2,K,K2⟩,λz=>by have:=h.inj dV! dV_ hd hd z;cases this⟩,l1⟩
nonrec def Ix.sl(V:Ix)(x:D)(b:Bool)(l:e!):Ix:={V with ls:=λy c=>if y=x/\c=b then l else V.ls y c}
def wG:(V.sl x b l).ls x b=l:=KM aJ_
def Ep.sl(h:aX!)(hB:cD_)(hd:V.dm b x)(hr:Hr t M' o5! o7! o7_ xs)(fr:∀a,a≠ad dV!->a≠ad dV_->M' a=M a)(hl:i!<=B'):Ep t M' ad (V.sl x b xs) B'/\∀a,¬Xg ad V a->M' a=M a:=by
 obtain⟨kf,ef,kp,ep,hf,hp,K,Kp⟩:=hr.dc;refine⟨h.go hB k! h.inj λr l=>?_,λa ha=>fr a (λz=>ha ⟨.fol x b,hd,z.symm⟩) λz=>ha ⟨.pre x b,hd,z.symm⟩⟩;have l':Js V r:=l;by_cases e1:r=.fol x b
 .subst e1;exact .inl ⟨_,hf,by rw[wG];exact hl,kf,ef,rfl,by rw[wG];exact K⟩
 by_cases e2:r=.pre x b
 .subst e2;exact .inl ⟨_,hp,by rw[wG];simpa using hl,kp,ep,rfl,by rw[wG];exact Kp⟩
 refine .inr ⟨l',fr _ (λz=>e1 yR!) (λz=>e2 yR!),?_⟩;cases r with
 |fol y c=>exact KN λz=>e1 dW!
 |pre y c=>exact KN λz=>e2 dW!
 |_=>rfl
def Jr(W:OW):Ix where
 pr:=λi p=>bJ_∈W.rows
 dm:=λb x=>match b with|true=>Et W x|false=>x∈W.its
 nd:=λx=>x∈W.its
 ls:=λx b=>match b with|true=>chl W.rows x|false=>(br_).map c_
 wr:=λs v=>∃x∈W.its,∃q∈W.txt x,q.1=s/\q.2.1=v
 hi:=λs=>∃x∈W.its,∃q∈W.txt x,q.1=s/\q.2.2=false
 nu:=W.num
def Bl(t:Bk)(M:Mh)(o:u0!)(O:bs!)(W:OW)(B:Nat):Prop:=∃ad,ad .ob=o/\(∀b,O b↔Xg ad bg! b)/\Ep t M ad bg! B
def Fr(M:Mh)(O:bs!)(M':Mh)(O':bs!):Prop:=∀b,M b≠none->¬O b->M' b=M b/\¬O' b
def Fr.refl:Fr M O M O:=λb _ h=>b6!
def Fr.trans{M2:Mh}(Y:Fr M O M' O1)(h2:Fr M' O1 M2 O2):Fr M O M2 O2:=λb J hr=>by
 obtain⟨e1,e2⟩:=Y b J hr;obtain⟨e3,e4⟩:=h2 b yT! e2;exact⟨e3.trans e1,e4⟩
def Bl.mono(h:ak!)(hB:cD_):Bl t M o O W B':=by obtain⟨ad,e,hO,hI⟩:=h;exact⟨ad,e,hO,hI.cv hB λr l=>⟨l,Sm.rfl⟩⟩
def Bl.live(h:ak!)(J:O b):M b≠none:=by obtain⟨ad,e,hO,hI⟩:=h;obtain⟨r,l,rfl⟩:=(hO b).mp J;obtain⟨c,e,_⟩:=hI.ty r l;rw[e];simp
def Bl.keep(h:ak!)(k:yU_):Bl t M' o O W B:=by obtain⟨ad,e,hO,hI⟩:=h;exact⟨ad,e,hO,hI.go r! k! hI.inj λr l=>.inr ⟨l,k _ ((hO _).mpr ⟨r,l,rfl⟩),Sm.rfl⟩⟩
def oW(w:Bx W)(h:dc_):∃k,Da x=some k:=by
 obtain h|rfl|rfl:=h
 .exact(w.nm x h).key
 .exact K!
 .exact K!
def Ep.noOb(h:aX!)(hm:pb!):Dr t.B6 m M j5!:=by simp[Dr,h.ob,hm]
def Bl.noOb(h:ak!)(hm:pb!):Dr t.B6 m M W!:=by obtain⟨ad,rfl,hO,hI⟩:=h;exact hI.noOb hm
def Ep.dirV(h:aX!):∃k e,M (ad gZ!)=some (.dct k e)/\jN!<=B/\∀x,o5_/\o6!:=by obtain⟨_,e,k,ep,rfl,q⟩:=h.ty gZ! trivial;exact⟨k,ep,e,q⟩
def a4d(h:∀x,o5_/\o6!):(kget k x).isSome=decide (V.dm b x):=by
 by_cases z:V.dm b x
 .rw[(h x).1 z,LG z];rfl
 .rw[(h x).2 z,KP z];rfl
def a0p(h:ak!)(hk:as_)(hR:R yW! M):Bz t dX! M R:=by obtain⟨ad,rfl,hO,hI⟩:=h;obtain⟨k2,e2,h2,_,q⟩:=hI.dirV (b:=true);have e3:=a4d (x:=x) q;refine h!;rw[show decide g0_=(kget k2 x).isSome from e3.symm]at hR;simpa[Mm,At,w2,wl,Ar,Gj,Ed,Aa,hI.ob,oF2,Gr,h2,hk]using hR
def gP(h:ak!)(hk:as_)(hR:R yX_ M):Cf t dX! M R:=by obtain⟨ad,rfl,hO,hI⟩:=h;obtain⟨k2,e2,h2,_,q⟩:=hI.dirV (b:=false);have e3:=a4d (x:=x) q;refine h!;rw[show decide dd!=(kget k2 x).isSome from by rw[e3];congr]at hR;simpa[Ie,At,w2,wl,Ar,Gj,Ed,Aa,hI.ob,oF3,Gr,h2,hk]using hR
def Ep.numV(h:aX!)(hx:V.nd x):∃k e,M (ad .nums)=some (.dct k e)/\kget k x=some (.fn j2!)/\M j2!=some (.lst (V.nu x)):=by obtain⟨_,e,k,ep,rfl,_,q⟩:=h.ty .nums trivial;obtain⟨_,e2,rfl⟩:=h.ty j1_ hx;exact⟨k,ep,e,q x hx,e2⟩
def vP(h:ak!)(w:Bx W)(hx:aY!)(hR:R e8! M):Fd t dX! M R:=by
 obtain⟨ad,rfl,hO,hI⟩:=h;obtain⟨k,hk⟩:=(w.nm x hx).key;obtain⟨k4,e4,h4,e,hq⟩:=hI.numV (x:=x) hx;have hq:M j2!=some e8!:=hq;have hl:(bK!).length<=big:=by rw[w.nl x hx];decide
 refine h!;simpa[He,At,w1,Ab,Ad,w2,wl,Ar,Gj,Ed,Aa,hI.ob,oF4,Bs,h4,hk,e,Wf,Ry,hq,hl]using hR
end
end K20
namespace K20
open PySem L2 DL
def xN:∀(xs ys:v!),Iu (xs.map D.int) (ys.map D.int)=(xs==ys)
 |[],[]=>by simp[Iu]
 |[],y::ys=>by simp[Iu]
 |x::xs,[]=>by simp[Iu]
 |x::xs,y::ys=>by simp[Iu,Ej,xN xs ys]
def Sd(d:D):Prop:=d=.non\/(∃x,d=.str x)\/(∃i,d=.int i)\/∃ns:List Int,d=.tup jk!
def a3p:∀{xs ys:v!},xs.map D.int=ys.map D.int->xs=ys
 |[],[],_=>rfl
 |[],_::_,h=>by simp at h
 |_::_,[],h=>by simp at h
 |x::xs,y::ys,h=>by
  simp only[KL,TM,D.int.injEq]at h;rw[h.1,a3p h.2]
def lP(hx:Sd x)(hy:Sd y):Ej x y=(open Classical in decide (x=y)):=by
 obtain rfl|⟨a,rfl⟩|⟨i,rfl⟩|⟨ns,rfl⟩:=hx<;>obtain rfl|⟨b,rfl⟩|⟨j,rfl⟩|⟨ms,rfl⟩:=hy<;>simp[Ej,xN]
 all_goals
  rw[OA]
  first
   |(simp only[QS,LO,D.tup.injEq];exact⟨λz=>by rw[z],a3p⟩)
   |(simp only[QS,LO])
   |simp
def wU:∀(ns:v!),Bu pF_=true
 |[]=>by simp[Bu]
 |n::ns=>by simp[Bu,Ba,wU ns]
def dQ(h:Sd x):Ba x=true:=by obtain rfl|⟨a,rfl⟩|⟨i,rfl⟩|⟨ns,rfl⟩:=h<;>simp[Ba,wU]
def a4g:∀(ns:v!),Di pF_<=1
 |[]=>by simp[Di]
 |n::ns=>by have:=a4g ns;simp[Di,Gx];omega
def jD(h:Sd x):Gx x<=5:=by
 obtain rfl|⟨a,rfl⟩|⟨i,rfl⟩|⟨ns,rfl⟩:=h<;>simp[Gx]
 have:=a4g ns;omega
def Ht.sd(h:Ht x):Sd x:=by obtain⟨a,b,rfl⟩:=h;exact .inr pe_
def Ph.sd(h:Ph x):Sd x:=by obtain⟨a,b,c,rfl⟩:=h;exact .inr y0!
def fP(x:Str):Sd bx_:=.inr (.inl ⟨x,rfl⟩)
def a0j(w:Bx W)(h:dc_):Sd x:=by
 obtain h|rfl|rfl:=h
 .exact(w.nm x h).sd
 .exact fP _
 .exact fP _
def zC(hx:Sd x)(hy:Sd y):Ev x y=some (.bl (!(open Classical in decide (x=y)))):=by unfold Ev;have:=jD hx;rw[dQ hx,dQ hy,lP hx hy];rw[KM a4!]
def mH(hx:Sd x)(hy:Sd y):Ax x y=some (.bl (open Classical in decide (x=y))):=by unfold Ax;have:=jD hx;rw[dQ hx,dQ hy,lP hx hy];rw[KM a4!]
section
def tY(hR:∀r f p M',M r=none->M f=none->M p=none->r≠f->r≠p->Hr t M' r f p []->f≠p->(∀b,b≠r->b≠f->b≠p->M' b=M b)->R jP_ M'):Hn t.B7 1 (Gg t) Ad ρ M R:=by
 refine⟨rfl,λr hr=>h!⟩;have nf:∀{f:u0!},mup M r (.obj t.B7 []) f=none->f≠r/\M f=none:=λ{f} z=>by
  by_cases e:f=r
  .rw[e,mup_same]at z;cases z
  .rw[mup_ne e]at z;exact⟨e,z⟩
 intro f hf;obtain⟨f1,f2⟩:=nf hf;refine⟨mup_same,W_,by simp[Da],Q_,?_⟩;simp[wl,Aa,mup_ne,mup_same,LQ f1,Ih];intro p hp;have p1:p≠r:=λe=>by rw[e,mup_same]at hp;cases hp
 rw[pf!]at hp;have p2:p≠f:=λe=>by rw[e,mup_same]at hp;cases hp
 rw[mup_ne p2,mup_ne p2,pf!]at hp;simp[Eg,Mz,wl,fC,Aa,mup_ne,mup_same,LQ f1,LQ p1,Ih,Da];have hne:¬(Str.ofString "following"=Str.ofString "preceding"):=by decide+kernel
 refine hR r f p _ hr f2 hp (LQ f1) (LQ p1) ⟨mup_same,⟨oK_,1,oK_,1,?_,?_,a1s,a1s⟩,LQ p2⟩ (LQ p2) λb Y h2 h3=>?_
 .rw[mup_ne f1,y5!,y5!,mup_ne f1,mup_same]
 .rw[pf!,mup_same]
 .rw[e9!,mup_ne h3,mup_ne h3,e9!,ka_,ka_,e9!]
end
end K20
namespace K20
open PySem L2 DL
open Classical
section
def a5j(w:Bx W)(h:aY!):∃p,aW!∈W.rows:=by obtain⟨⟨a,p⟩,hq,rfl⟩:=KY.mp ((w.ri x).mpr h);exact⟨p,hq⟩
def lI(w:Bx W)(h:x∉W.its):∀p,aW!∉W.rows:=λp z=>h ((w.ri x).mp x6_)
def a8i(w:Bx W):root∉W.its:=λz=>(w.nm _ z).nn.2.1 rfl
def b9w(w:Bx W):binn∉W.its:=λz=>(w.nm _ z).nn.2.2 rfl
def c9s(h:Ht x\/x=root\/x=binn):x≠.non:=by
 obtain h|rfl|rfl:=h
 .exact h.nn.1
 .intro z;cases z
 .intro z;cases z
def c7o(w:Bx W)(h:dc_):x≠.non:=c9s (h.imp_left (w.nm x))
def qT(h:Ep t M ad bg! B)(w:Bx W)(hi:Ht i){rk:D->Nat}(gw:y6_):
  ∀(n:Nat) (x:D),rk x<n->Et W x->∀(R':q_),(Wn W.rows i x->R' (.nx [de!,D!,D!]) M)->(¬Wn W.rows i x->R' (.nx [de!,some .non,D!]) M)->
   ∃m,Df gh! gh_ m pf_ M R'
 |0,x,hn,_,_,_,_=>by omega
 |n+1,x,hn,hx,R',r1,r2=>by
  obtain⟨_,Y,k1,e1,rfl,_,p0,p1,pr⟩:=h.ty .par trivial;have x0:=c7o w hx;have ne:=zC (a0j w hx) hi.sd;by_cases e:x=i
  .subst e;have:=r1 .here;refine e9_;simpa[Df,Db,Cw,fT,f2,Aa,fC,Ao,jQ x0,ne]using this
  .have st:∀(p:D) (m:Nat),kget k1 x=some p->Df gh! gh_ m [de!,cE!,D!] M R'->
     Df gh! gh_ (m+1) pf_ M R':=λp m hp hw=>by
    obtain⟨k,hk⟩:=oW w hx;rw[Df];simpa[Db,Cw,fT,f2,Aa,fC,Ao,jQ x0,ne,e,Al,w2,wl,Ar,Gj,Ed,h.ob,oF1,Bs,Y,hk,hp]using hw
   have top:kget k1 x=some .non->y7_->∃m,Df gh! gh_ m pf_ M R':=λhp hr=>by
    have:=r2 (b3k hr e);refine⟨1+1,st .non 1 hp ?_⟩;simpa[Df,Db,Cw,fT,f2,Aa,fC,Ao,Ci]using this
   obtain hx|rfl|rfl:=hx
   .obtain⟨p,hp⟩:=a5j w hx;have q:=a5a w.rnd hp e;have:=gw _ _ hp;obtain⟨m,hm⟩:=qT h w hi gw n p a! (w.rp _ _ hp) R' y8! (λz=>r2 λy=>z (q.mp y));exact⟨m+1,st p m (pr _ _ hp) hm⟩
   .exact top p0 (lI w (a8i w))
   .exact top p1 (lI w (b9w w))
def a0i(h:ak!)(w:Bx W)(hx:dc_)(hi:Ht i)(hR:R (.bl (decide (Wn W.rows i x))) M):Fj t [aX_,x,i] M R:=by
 obtain⟨ad,rfl,hO,h⟩:=h;obtain⟨rk,gw⟩:=w.rk;obtain⟨m,hm⟩:=qT h w hi gw (rk x+1) x a! hx (λr M1=>match r with|.nx ak=>At mu! ak M1 g2_|.rt d=>R d M1)
  (λz=>by simp only[z,SV]at hR;simpa[At,wl,f2,Aa,fC,Ao,jQ hi.nn.1]using hR)
  (λz=>by simp only[z,UW]at hR;simpa[At,wl,f2,Aa,fC,Ao,Ci]using hR)
 refine h!;exact⟨m,hm⟩
def rL(h:ak!)(w:Bx W)(b9:fa!)(hkx:ph_)(hR:∀b:Bool,(b=true↔dY!)->R bk! M):Ct t [aX_,i,x] M R:=by
 refine h!;simp only[Ig,At,Mg,wT,Av,wl,Ab,Ad,Aa];simp[pi_];refine gP h b9 ?_;show"!v"
 .simp only[c1,SV,MU];refine⟨h.noOb oM1,?_⟩;refine a0p h hkx ?_;by_cases c2:Et W x
  .simp only[c2,SV,MU,Rh,wT,Av,wl,Ab,Ad,Aa];refine⟨h.noOb bs_,rfl,?_⟩;refine a0i h w c2 (w.nm i c1) ?_;exact hR _ (by simp[c1,c2])
  .simp only[c2,UW];exact hR _ (by simp[c2])
 .simp only[c1,UW];exact hR _ (by simp[c1])
def vJ(h:ak!)(w:Bx W)(b9:fa!)(p0:0<=p)(p3:p<=3)
  (hR:∀M',Bl t M' o O (if i∈W.its then Xw W i pj! else W) B->Fr M O M' O->R .non M'):Fc t [aX_,i,.int p,aO!] M R:=by
 refine h!;refine⟨pi_,rfl,gP h b9 ?_⟩;show"!v"
 .simp only[c1,MU]at hR;obtain⟨ad,rfl,hO,hI⟩:=h;obtain⟨k4,e4,h4,e,hq⟩:=hI.numV (x:=i) c1;have hq:M zc_=some (.lst fa_):=hq;have hx:Ec (fa_).length p=some p.toNat:=by
   rw[w.nl i c1];unfold Ec;rw[KM p0,aI!]
  have fin:R .non (mup M zc_ (.lst pj!)):=by
   refine hR _ ⟨ad,rfl,hO,hI.up (V':=Jr (Xw W i pj!)) r! (r0:=.nm i) c1 (by show _=Es.lst dY_;rw[A!]) λr hn l=>pj_⟩ λb _ hr=>⟨sR (V:=Jr W) (r0:=.nm i) c1 λz=>hr kc!,hr⟩;cases r with
   |nm y=>exact KN λz=>hn (by rw[z])
   |_=>rfl
  simpa[c1,Cb,w2,wl,Ar,Gj,Ed,Aa,hI.ob,oF4,Bs,h4,b9,e,Ko,hq,hx]using fin
 .simp only[c1,MJ]at hR;have:=hR M h .refl;simpa[c1,Bg]using this
end
end K20
namespace K20
open PySem L2 DL
open Classical
open Classical
section
variable{t:Bk}{o:u0!}{O:Addr->Prop}
def lV(i:D):setT W i cE_=W:=by
 unfold setT;cases W with
 |mk a b c d=>
  congr 1;funext x;split
  .rename_i e;rw[e]
  .rfl
nonrec def cutT(me:e!)(l:aW_):List c9_:=l.map λq=>(q.1,q.2.1,q.2.2&&!decide (q.1∈me))
def b9i(l:aW_):cutT [] l=l:=by unfold cutT;simp
def kK(g:e!)(l:aW_):(cutT g l).map c_=l.map c_:=by unfold cutT;simp
def b9j(g:e!)(s:D)(l:aW_):cutT [s] (cutT g l)=cutT (g++[s]) l:=by unfold cutT;rw[MD];apply NO;intro q _;simp only[Function.comp,KR];congr 2;rw[Bool.and_assoc];congr 1;by_cases Y:q.1∈g<;>by_cases h2:q.1∈[s]<;>simp[Y,h2]
def c3s(h:s∉l.map c_):cutT [s] l=l:=by
 conv=>rhs;rw[<-RY l]
 apply NO;intro q hq;have:q.1≠s:=λz=>h oU_;simp[this]
def b2z(w:Bx W)(hi:db!)(g:e!):Bx g3!:=by
 refine pN w hi (by rw[kK];exact w.snd i hi) dZ! pk_
 .show"!X";exact w.sg i hi q0 h0
 .show"!X";exact(w.su i hi y hy q0 h0 q' a7 e).symm
def wI(i:D)(l l':aW_):setT g4! i l'=setT W i l':=by unfold setT;congr 1;funext x;dsimp only;split<;>rfl
def rT(i:D)(l:aW_):(g4!).txt i=l:=by simp[setT]
def qK{P:fb_}(hi:db!):(∃x∈W.its,∃q∈(g4!).txt x,P q)↔(∃q∈l,P q)\/∃x∈W.its,x≠i/\∃q∈W.txt x,P q:=by
 show"!w"
 .rintro⟨x,hx,q,hq,h⟩;have hq:q∈zg!:=hq;split at hq
  .exact .inl ⟨q,hq,h⟩
  .rename_i c;exact .inr ⟨x,hx,c,q,hq,h⟩
 .rintro(⟨q,hq,h⟩|⟨x,hx,c,q,hq,h⟩)
  .exact⟨i,hi,q,by rw[rT];exact hq,h⟩
  .exact⟨x,hx,q,by show q∈zg!;rw[KN c];exact hq,h⟩
def a0s{P:fb_}:(∃q∈cutT g l,P q)↔∃q∈l,P (q.1,q.2.1,q.2.2&&!decide (q.1∈g)):=
 ⟨λ⟨q,hq,h⟩=>by obtain⟨q0,h0,rfl⟩:=KY.mp hq;exact⟨q0,h0,h⟩,λ⟨q,hq,h⟩=>⟨_,KW hq,h⟩⟩
def c5o(hi:db!)(hn:l'.map c_=l.map c_)(hw:∀s v,(∃q∈l',q.1=s/\q.2.1=v)↔∃q∈l,q.1=s/\q.2.1=v)(h:r≠.hid):Sm (Jr g4!) zh! r:=by
 have ls:∀(y:D) (b:Bool),(zh!).ls y b=(Jr g4!).ls y b:=λy b=>by
  cases b with
  |true=>rfl
  |false=>
   show(if y=i then l' else W.txt y).map c_=(if y=i then l else W.txt y).map c_;split
   .exact hn
   .rfl
 cases r with
 |hid=>exact absurd rfl h
 |wri=>exact funext λs=>funext λv=>propext ((qK hi).trans (Iff.trans (by rw[hw]) (qK hi).symm))
 |fol y b=>exact ls y b
 |pre y b=>exact ls y b
 |_=>rfl
abbrev EX(t:Bk):WS:=(Af uv_
 ux!)
def a4j{x y z m:Int}(hi:db!)(w:Bx W):∀(js:v!) (M:Mh) (g:e!) (B:Nat) (sm yk:X!) (R:q_),B+js.length<4000->Bl t M o O g3! B->
  (∀M' ρ,Bl t M' o O (setT W i (cutT (g++js.map λj=>.tup g5!) cE_)) (B+js.length)->Fr M O M' O->R S_ M')->
  Hx gl_ ad! (EX t) (js.map .int) [ab_,D!,some fc!,pn!,sm,yk] M R
 |[],M,g,B,sm,yk,R,hB,h,hR=>⟨trivial,hR M _ j5_ .refl⟩
 |j::js,M,g,B,sm,yk,R,hB,h,hR=>by
  refine aO_;obtain⟨ki,b9⟩:=(ke!).key;obtain⟨ad,eo,hO,hI⟩:=h;have ob:=hI.ob;rw[eo]at ob;obtain⟨k3,e3,h3,_,g1⟩:=hI.dirV (b:=false);have g1:=(g1 i).1 hi;have g2:Hr t M _ _ _ (((g3!).txt i).map c_):=(pn_).1;obtain⟨_,h6,k6,e6,rfl,l6',hk6⟩:=hI.ty .hid trivial;have l6:k6.length<big:=by unfold big;simp at hB;omega
  simp only[KO]at hB hR;have ub:An (.tup po!) (.tup [ex!])=some g6!:=by simp[An,big]
  have ym:Bf fc! none (some 2)=some (.tup po!):=by simp[Bf,Dm,HT.sIx]
  simp[Ed,Cj,Af,Al,wl,f2,Ey,Aa,Ay,Au,fC,As,Ac,Ae,ym,ub,Ap,wT,Av,DL.w2,Ar,Gj,ob,oF3,Bs,h3,b9,g1,Dr,g2.ob,Ab,Ad,rM,-List.lookup_eq_none_iff];refine a3s g2 gE! ?_;have rc:=λM1 h h2 h3=>a4j (x:=x) (y:=y) (z:=z) (m:=m) hi w js M1 zl! dZ_ (some b8!) (some g6!) R h h2 h3;by_cases c:D.tup g5!∈((g3!).txt i).map c_
  .simp only[c,SV,MU];have q1:Bl t zn! o O zo! dZ_:=by
    rw[rT,kK]at c;refine⟨ad,eo,hO,hI.up fd! (r0:=.hid) trivial ⟨_,_,rfl,ke_,λa=>?_⟩ λr hn l=>⟨l,c5o hi (by rw[kK,kK]) (λs v=>by rw[a0s,a0s]) hn⟩⟩;have h0:=(hk6 a).trans (qK hi);refine Iff.trans ?_ (qK (W:=W) hi).symm;rw[jC];by_cases e:a=.tup g5!
    .obtain⟨q,hq,e2⟩:=KY.mp c;rw[KM e];exact⟨λ_=>.inl ⟨_,KW hq,e2.trans e.symm,by simp[e2]⟩,bT_⟩
    .rw[KN e,h0];refine or_congr ?_ UR;rw[a0s,a0s];refine exists_congr λq=>and_congr_right λ_=>and_congr_right λe2=>?_;have e2:q.1=a:=e2;simp[e2,e]
   have q2:Fr M O zn! O:=λb _ hr=>⟨sR (V:=Jr g3!) (r0:=.hid) trivial λz=>hr kc!,hr⟩;have:=rc _ a! q1 (λM' ρ h' f'=>hR M' ρ zq_ zs_);simpa[Cb,wl,Ar,Gj,Ed,Aa,fC,ob,oF6,Ko,h6,show Da g6!=some _ from rfl,l6]using this
  .simp only[c,UW];have q1:Bl t M o O zo! dZ_:=by
    rw[<-b9j,c3s (by rw[rT]at c;exact c)];exact Bl.mono ⟨ad,eo,hO,hI⟩ fd!
   have:=rc _ a! q1 (λM' ρ h' f'=>hR M' ρ zq_ f');simpa[Bg]using this
def c8n(h:ak!)(w:Bx W)(b9:fa!)(hB:g7!)(z0:0<=z)(m1:fA_)(m16:z+m<=16)
  (hR:∀M',Bl t M' o O (if i∈W.its then setT W i (cutT kg! cE_)else W) bt!->Fr M O M' O->R .non M'):
  Jg t [aX_,i,.tup kd_,d0_] M R:=by
 refine h!;simp only[Mn,Af,Ap,Hu,wT,Av,wl,Ab,Ad,Aa];simp[pi_];refine gP h b9 ?_;show"!v"
 .simp only[c1,MU]at hR;have hr:Sj eJ_ ut_ [ab_,D!,some fc!,pn!,none,none]=some ((zu!).map D.int):=by
   have e1:Ai fc! bz_=some (.int z):=rfl;have e2:(z+m - z).toNat=m.toNat:=by congr 1;omega
   have b:-1000<=z/\z<=100000/\-1000<=z+m/\z+m<=100000:=by omega
   simp[Sj,f2,Aa,fC,e1,An,b,e2,Rz,Function.comp]
  have:=a4j (x:=x) (y:=y) (z:=z) (m:=m) c1 w zu! M [] B none none g2_ a4! (by rw[b9i,lV];exact h) (λM' ρ h2 f2=>hR M' (by
   simp only[NN,MD,KQ,OV]at h2;exact h2.mono a!) f2)
  simp only[c1,SV,OP,LM,MJ,Bg,Dp,Ip,Ed,hr];exact this
 .simp only[c1,MJ]at hR;have:=hR M (h.mono a!) .refl;simpa[c1,Os]using this
end
end K20
namespace K20
open PySem L2 DL
open Classical
section
def HU(dh:D)(U l:aW_):Prop:=(U=[]/\dh∉l.map c_)\/∃u' q,U=u'++[q]/\q.1=dh/\dh∉u'.map c_
def HU.names(h:HU dh U (U++v)):Mu s dh ((U++v).map c_)=(kk!).map c_:=by
 obtain⟨rfl,h⟩|⟨u',q,rfl,e,h⟩:=h
 .unfold Mu;rw[KN h];simp
 .unfold Mu;rw[KM e2_];simp only[LL,KL,QC,NJ,OM,NN];rw[e,kC h]
def a4y(w:Bx W)(hi:db!)(hl:Do!)(hs:Ph s)(hf:zw_):Bx kk_:=by
 have fi:=hf i hi;rw[hl]at fi;have p:(kk!).Perm (g8_::(U++v)):=RD;refine pN w hi ?_ dZ! pk_
 .rw[(p.map _).nodup_iff,KL,LA];exact⟨fi,by rw[<-hl];exact w.snd i hi⟩
 .obtain rfl|z:=KG.mp zB!
  .exact hs
  .exact w.sg i hi q zz_
 .obtain rfl|z:=KG.mp zB!
  .exact absurd (KY.mpr ⟨q',a7,e.symm⟩) (hf y hy)
  .exact(w.su i hi y hy q zz_ q' a7 e).symm
def b3h(hI:Ep t M ad zD_ B)(hk:∀a v,(bg!).wr a v->kget k5 a=some v)(h5:k5.length<B)(hi:db!)(hl:Do!)(J:l=(kk!).map c_)(hf:zw_):
  Ep t (mup M o4! (.dct (Br k5 s c) e5)) ad (Jr kk_) B:=by
 have hm:∀{P:fb_},(∃q∈U++g8_::v,P q)↔P g8_\/∃q∈W.txt i,P q:=λ{P}=>by
  rw[hl];simp only[KR,KG];show"!w"
  .rintro⟨q,z|z|z,h⟩
   .exact .inr zF_
   .exact .inl (z▸h)
   .exact .inr ⟨q,.inr z,h⟩
  .rintro(h|⟨q,z|z,h⟩)
   .exact⟨_,km!,h⟩
   .exact zF_
   .exact⟨q,.inr gG_,h⟩
 have hx:∀{P:fb_},(∃x∈W.its,∃q∈(kk_).txt x,P q)↔P g8_\/∃x∈W.its,∃q∈W.txt x,P q:=λ{P}=>by
  have h0:=qK (W:=W) (l:=W.txt i) (P:=P) hi;rw[lV]at h0;rw[qK hi,hm,h0,or_assoc]
 refine hI.up r! (r0:=.wri) trivial ⟨_,_,rfl,LV gU_ h5,λa w hw=>?_⟩ λr hn l'=>⟨l',?_⟩
 .rw[jC];obtain⟨rfl,rfl⟩|z:=hx.mp hw
  .rw[A!]
  .obtain⟨x,hx,q,hq,e,_⟩:=id z;rw[KN λy=>hf x hx (by rw[<-y,<-e];exact KW hq)];exact hk a w z
 .have ls:∀(y:D) (b:Bool),(Jr kk_).ls y b=(zD_).ls y b:=λy b=>by
   cases b with
   |true=>exact(KN λz=>by cases z.2).symm
   |false=>
    show(if y=i then _ else W.txt y).map c_=if y=i/\false=false then l else(W.txt y).map c_
    by_cases z:y=i
    .rw[KM z,KM ⟨z,rfl⟩,J]
    .rw[KN z,KN λy=>z y.1]
  cases r with
  |wri=>exact absurd rfl hn
  |hid=>exact funext λa=>propext (Iff.trans (hx (P:=λq=>q.1=a/\q.2.2=false)) ⟨λz=>z.resolve_left λy=>Bool.noConfusion y.2,λz=>.inr z⟩)
  |fol y b=>exact ls y b
  |pre y b=>exact ls y b
  |_=>rfl
end
section
variable{t:Bk}{o:u0!}{O:Addr->Prop}
def HV(t:Bk):WS:=(Af no_
 (Af uq_
 (Af ur!
 (Al 5 gl!))))
nonrec def sgn(h n:Int)(q:Nat×Nat):D×D×Bool:=(.tup [aP!,aO!,.int qG_],.str CP_,true)
nonrec def eN(q:Nat×Nat):D:=.tup CQ!
def sL:∀(cs:o!) (k0:Nat) (M:Mh) (W:OW) (B:Nat) (U v:aW_) (dh:D) (ka:MK) (yn yo qu:X!) (R:q_),B+cF!<4000->Bl t M o O W B->Bx W->i∈W.its->W.txt i=U++v->HU dh U (U++v)->Da dh=some ka->
  (∀x∈W.its,∀k':Nat,k0<=k'->D.tup zI!∉(br_).map c_)->
  (∀M' ρ,Bl t M' o O zJ_ (B+cF!)->Bx zJ_->Fr M O M' O->R S_ M')->
  Hx (Wl 6 7) ad! (HV t) ((pq!).map eN) [ab_,b8_,D!,cF_,some tx,some dh,yn,yo,qu] M R
 |[],k0,M,W,B,U,v,dh,ka,yn,yo,qu,R,hB,hO,w,hi,hl,J,hk,hf,hR=>by
  refine⟨trivial,hR M _ ?_ ?_ .refl⟩
  .simp only[TL,QC,LR,OH,Nat.add_zero];rw[<-hl,lV];exact hO
  .simp only[TL,QC,LR];rw[<-hl,lV];exact w
 |c::cs,k0,M,W,B,U,v,dh,ka,yn,yo,qu,R,hB,hO,w,hi,hl,J,hk,hf,hR=>by
  refine aO_;obtain⟨ki,b9⟩:=(ke!).key;obtain⟨ad,eo,hO,hI⟩:=hO;have ob:=hI.ob;rw[eo]at ob;obtain⟨k3,e3,h3,_,g1⟩:=hI.dirV (b:=false);have g1:=(g1 i).1 hi;have g2:Hr t M _ _ _ pq_:=(pn_).1;have lt:(pq_).length<=B:=(pn_).2;simp only[KO]at hB hR;have hs:Ph bL_:=zM!;have vf:∀x∈W.its,D.tup kn!∉(br_).map c_:=λx hx=>hf x hx k0 r!;have ub:An al_ (.tup [zM_])=some bL_:=by simp[An,big]
  have hm:Dr t.B7 "put_behind" M zN!:=by simp only[Dr,g2.ob,rM.1,and_self]
  have hx:∀R',w2 Bs eI! y_ ps! M R'=R' zN! M:=by
   intro R';simp[w2,wl,Ar,Gj,ob,oF3,Bs,h3,b9,g1,Ed,Aa]
  show HV t ps_ M _;show Af no_ _ ps_ M _;have e8:f2 An r_ (As iU!) ps_=some bL_:=by
   simp[f2,Aa,As,Ac,Ae,ub]
  simp only[Af,Al,wl,e8,List.set_cons_succ,List.set_cons_zero,Bq,Av,hx];refine⟨hm,rfl,?_⟩;refine iW g2 gE! hk (by rw[KG,SE];exact⟨hs.nn,vf i hi⟩) a! λM1 hr fr=>?_;obtain⟨hJ,fj⟩:=hI.sl fd! (x:=i) (b:=false) hi hr fr (by obtain⟨u,v,e1,e2,_⟩:=mX bL_ dh pq_;rw[e2];rw[e1]at lt;simp at lt ⊢;omega);obtain⟨_,h5,k5,e5,rfl,l5',hk5⟩:=hI.ty .wri trivial;have ne:∀{r:Vq},Js bg! r->r≠.fol i false->r≠.pre i false->M1 gX_=M gX_:=λl Y h2=>fr _ (λz=>Y zP!) λz=>h2 zP!;have h5':=(ne (r:=.wri) trivial c! c!).trans h5;have XG:=(ne (r:=.ob) trivial c! c!).trans hI.ob;rw[eo]at XG;have l5:k5.length<big:=by unfold big;omega
  have q1:=b3h (c:=eN_) (e5:=Ir k5 bL_ e5) hJ hk5 a! hi hl (by rw[hl];exact J.names) vf;have q2:Fr M O zP_ O:=λb _ hr=>⟨(sR (V:=Jr W) (r0:=.wri) trivial λz=>hr kc!).trans (fj b λz=>hr kc!),hr⟩;have q3:=a4y (c:=eN_) w hi hl hs vf;have hU:U++zQ_::v=(U++[zQ_])++v:=by simp
  have rc:=λka M2 Y h2 h3 h4 h5 h6 h7 h8 h9=>sL (i:=i) (b:=b) (tx:=tx) (h:=h) (n:=n) cs (k0+1) M2 zR! dZ_ (U++[pt_]) v bL_ ka (some zN_) (some gq!) (some bL_) R Y h2 h3 h4 h5 h6 h7 h8 h9;have:=rc _ _
   (a!) ⟨ad,eo,hO,q1⟩ q3 hi (by rw[rT,hU]) (.inr ⟨U,_,rfl,rfl,λz=>vf i hi zR_⟩) gE!
   (λx hx k' cz z=>by
    have tx:(zR!).txt x=if x=i then U++pt_::v else W.txt x:=rfl
    rw[tx]at z;by_cases y:x=i
    .subst y;rw[A!]at z;simp only[LL,KL,KR,KG]at z;obtain z|z|z:=z
     .exact hf x hi k' a! zR_
     .simp at z;omega
     .exact hf x hi k' a! (by rw[hl,LL];exact KJ _ z)
    .rw[KN y]at z;exact hf x hx k' a! z)
   (λM' ρ Y h2 f'=>hR M' ρ (by
    rw[wI]at Y;rw[show B+(cs.length+1)=B+1+cs.length by omega,TC];simpa[sgn]using Y) (by
    rw[wI]at h2;simpa[sgn]using h2) zs_)
  have hp:∀R',Cb ur_ gl! iX! ps! M1 R'=R' (.nx ps!) zP_:=by
   intro R';simp[Cb,wl,Ar,Gj,Ed,Aa,fC,XG,oF5,Ko,h5',show Da bL_=some _ from rfl,l5]
  simp only[hp];exact this
def b3j(hO:ak!)(w:Bx W)(b9:fa!)(yp:zT_)(hB:g7!)(hs:kn_)
  (hf:∀x∈W.its,∀k':Nat,D.tup zI!∉(br_).map c_)
  (hR:∀M',Bl t M' o O zU_ bt!->Bx zU_->Fr M O M' O->R .non M'):
  Hm t [aX_,ha!,i,b,d1_] M R:=by
 refine h!;simp only[Kf,Af,Ap,Hu,wT,Av,wl,Ab,Ad,Aa];simp[hO.noOb oM2];refine gP hO b9 ?_;show"!v"
 .simp only[c1,MU]at hR;obtain⟨U,v,e1,e2,e3⟩:=pK b g9_ cE_;have hl:ha_<=16:=by simpa[Str.length]using hs
  have hi:Sk N! [ab_,b8_,D!,cF_,some aZ!,cF_,none,none,none]=some (s.cps.toList.zipIdx.map eN):=by
   simp[Sk,Aa,eN]
  have:=sL (t:=t) (o:=o) (O:=O) (b:=b) (tx:=d1_) (h:=h) (n:=n) s.cps.toList 0 M W B U v b kb none none none g2_ a! hO w c1 e1 (by rw[<-e1];exact e3) yp (λx hx k' _=>hf x hx k')
   (λM' ρ Y h2 f'=>hR M' (by rw[<-e2]at Y;exact Y.mono a!) (by rw[<-e2]at h2;exact h2) f')
  simp only[c1,SV,OP,LM,MJ,Bg,Al,wl,Dp,Ip,Ed];exact this
 .simp only[c1,MJ]at hR;have:=hR M pv! w .refl;simpa[c1,Os]using this
end
def dU{N:Mh}(J:N b≠none)(hq:N q=none):b≠q:=λz=>J (by rw[z];exact hq)
section
def c0o(h:f ρ M λv M1=>fo ρ M1 λd M2=>fi ρ M2 λy M3=>Ed qr_ λM4=>q ρ M4 R):Af B9_ q ρ M R:=by exact h
def jJ(h:f ρ M λ_ M1=>q ρ M1 R):Af (Bq f) q ρ M R:=h
def tH{Q:fv_}(h0:zX_)(Y:e4!)(hM:M o=some pv_)(hx:fs.lookup x=some x_)(hp:bt_)(hk:aP_)(hl:cJ!)
  (hQ:Q fu_):Ar C x cG! ρ M (λd M2=>wl fi ρ M2 λy M3=>Ed qr_ λM4=>Q M4):=by
 have e:Ko M x_ y v=some fu_:=by simp[Ko,hp,hk,hl]
 simp only[Ar,wl,h0,Gj,hM,MU,hx,Ed,Y,e];exact hQ
def d0r{f1 f2:o_}(h0:∀K,fo ρ M K=K d M)(ho:k2!)(Y:fe_)(h2:hb!)(k:g [d,a,b] M K):Av C m 3 g fo pw! ρ M K:=by unfold Av Ab Ad;rw[h0];simp only[wl,Y,h2];exact px!
def EI(t:Bk):WS:=Af uh_
 (Af ui!
 (Af ui_
 (Af uk_
 uk!)))
end
section
variable{M M' M1:Mh}{V V':Ix}
def Ep.lv(h:aX!)(l:Js V q):M (ad q)≠none:=by obtain⟨c,e,_⟩:=h.ty q l;rw[e];simp
def Ep.alloc{N:Vq->Prop}(h:aX!)(hB:cD_)(old:j3_)(cs:z0_)(nw:z1!)(ni:∀q q',N q->N q'->a9 q=a9 q'->q=q')
  (hd:∃c,M' (ad rd)=some c/\Ty t a9 V' B' c rd)(nt:∀q,N q->∃c,M' (a9 q)=some c/\Ty t a9 V' B' c q)(k:∀q,Js V q->q≠rd->M' (ad q)=M (ad q)/\Sm V V' q)(lr:Js V rd):Ep t M' a9 V' B':=by
 refine h.go hB old (λq q' l l' e=>?_) λq l=>?_
 .obtain l|l:=cs q l<;>obtain l'|l':=cs q' l'
  .rw[old q l,old q' l']at e;exact h.inj q q' l l' e
  .rw[old q l]at e;exact absurd (e▸nw q' l') (h.lv l)
  .rw[old q' l']at e;exact absurd z1_ (h.lv l')
  .exact ni q q' l l' e
 .obtain l|l:=cs q l
  .by_cases e:q=rd
   .subst e;rw[old q l];exact .inl hd
   .exact .inr ⟨l,k q l e⟩
  .exact .inl (nt q l)
def a8v{N:Vq->Prop}(lr:Js V rd)(old:j3_)(cs:z0_)(nw:z1!)(k:∀a,M a≠none->a≠ad rd->M' a=M a):Fr M px_ M' (Xg a9 V'):=λa ha hn=>by
 refine⟨k a ha λz=>hn ⟨rd,lr,z.symm⟩,λ⟨q,l,e⟩=>?_⟩;obtain l|l:=cs q l
 .exact hn ⟨q,l,by rw[<-old q l];exact e⟩
 .exact ha z1_
nonrec def Ix.nw(V:Ix)(x:D)(b:Bool):Ix:={V.sl x b []with dm:=λc y=>V.dm c y\/(c=b/\y=x)}
def wV(h:aX!)(hx:¬V.dm b x)(hk:as_)(hB:B<3990)(hf:∀{a1 a2 a3 a4 a5 a6:u0!},(bK_).lookup f=some (.fn (match b with|true=>a2|false=>a3)))(e0:z6!)(e1:z6_)
  (hR:∀M' a9,a9 .ob=ad .ob->Fr M px_ M' (Xg a9 py_)->Ep t M' a9 py_ dZ_->q ρ M' R):Af (Cb (Ar t.B6 f g_) m_ gf_) q ρ M R:=by
 refine c0o (tY λr f p M1 z1 z2 z3 n1 n2 hr n3 fr=>?_);obtain⟨kd,ed,hd,ld,kv⟩:=h.dirV (b:=b);have m1:∀a,M a≠none->M1 a=M a:=λa ha=>fr a (dU ha z1) (dU ha z2) (dU ha z3);have ob:=(z8!).trans h.ob;have hd1:=(m1 _ kq!).trans hd;refine tH (p:=ad gZ!) e0 e1 ob (hf.trans (by cases b<;>rfl)) hd1 hk br! ?_
 let a9:Vq->Addr:=λq=>if q=.row x b then r else if q=.fol x b then f else if q=.pre x b then p else ad q
 have a1:a9 j1!=r:=KM rfl;have a2:a9 dV!=f:=(KN c!).trans pz_;have a3:a9 dV_=p:=(KN c!).trans ((KN c!).trans pz_);have old:∀q,Js V q->a9 q=ad q:=λq l=>(pA_).trans ((pA_).trans pA_);have cs:∀q,Js py_ q->Js V q\/z9!:=λq l=>by
  cases q with
  |row y c=>exact l.imp_right λz=>.inl dW!
  |fol y c=>exact l.imp_right λz=>.inr (.inl dW!)
  |pre y c=>exact l.imp_right λz=>.inr (.inr dW!)
  |_=>exact .inl l
 have nw:∀q,z9!->M (a9 q)=none:=by
  rintro q (rfl|rfl|rfl)
  .rw[a1];exact z1
  .rw[a2];exact z2
  .rw[a3];exact z3
 obtain⟨kf,ef,kp,ep,hf,hp,K,Kp⟩:=hr.dc;have md:∀{c:Es} {a:u0!},M a=none->mup M1 (ad gZ!) c a=M1 a:=λha=>mup_ne (LQ (dU kq! ha));refine hR _ a9 z9_ (a8v (rd:=.dir b) trivial old cs nw λa ha hn=>(pB!).trans (m1 a ha)) ?_;refine h.alloc fd! old cs nw ?_ ⟨_,mup_same,_,_,rfl,ke_,λy=>?_⟩ ?_ (λq l hn=>⟨(mup_ne λz=>hn (h.inj q gZ! l trivial z)).trans Aa!,?_⟩) trivial
 .rintro q q' (rfl|rfl|rfl) (rfl|rfl|rfl) e
  .rfl
  .rw[a1,a2]at e;exact absurd e n1
  .rw[a1,a3]at e;exact absurd e n2
  .rw[a1,a2]at e;exact absurd e.symm n1
  .rfl
  .rw[a2,a3]at e;exact absurd e n3
  .rw[a1,a3]at e;exact absurd e.symm n2
  .rw[a2,a3]at e;exact absurd e.symm n3
  .rfl
 .rw[jC];by_cases c:y=x
  .rw[KM c,c,a1];exact⟨bT_,λz=>absurd (.inr aJ_) z⟩
  .rw[KN c];exact⟨λz=>by have z:=z.resolve_right λw=>c w.2;rw[old (.row y b) z];exact(kv y).1 z,λz=>(kv y).2 λw=>z (.inl w)⟩
 .rintro q (rfl|rfl|rfl)
  .rw[a1];exact⟨_,(md z1).trans hr.ob,by show Es.obj _ _=Es.obj _ [(_,.fn (a9 dV!)),(_,.fn (a9 dV_))];rw[a2,a3]⟩
  .rw[a2];exact⟨_,(md z2).trans hf,by show TF _ _ Ad!;rw[wG];exact⟨LY _,_,_,rfl,K⟩⟩
  .rw[a3];exact⟨_,(md z3).trans hp,by show TF _ _ (Ad!).reverse;rw[wG];exact⟨LY _,_,_,rfl,Kp⟩⟩
 .cases q with
  |dir c=>exact funext λy=>propext ⟨λz=>z.resolve_right λw=>hn (by rw[w.1]),.inl⟩
  |fol y c=>exact KN λz=>hx Ad_
  |pre y c=>exact KN λz=>hx Ad_
  |_=>rfl
nonrec def Ix.nn(V:Ix)(x:D)(l:e!):Ix:={V with nd:=λy=>V.nd y\/y=x,nu:=λy=>if y=x then l else V.nu y}
def b2d(h:aX!)(hx:¬V.nd x)(hk:as_)(hB:B<3990)(e0:z6!)(e1:z6_)
  (hR:∀M' a9,a9 .ob=ad .ob->Fr M px_ M' (Xg a9 pB_)->Ep t M' a9 pB_ dZ_->R S_ M'):Cb nj! m_ uj_ ρ M R:=by
 refine⟨W_,Ae!,λq z=>?_⟩;obtain⟨_,hd,kd,ed,rfl,ld,kv⟩:=h.ty .nums trivial;have m1:∀{c:Es} a,M a≠none->mup M q c a=M a:=λa ha=>mup_ne (dU ha z);refine tH (p:=ad .nums) e0 e1 ((z8!).trans h.ob) oF4 ((m1 _ kq!).trans hd) hk br! ?_
 let a9:Vq->Addr:=λr=>if r=.nm x then q else ad r
 have a1:a9 j1_=q:=KM rfl;have old:∀r,Js V r->a9 r=ad r:=λr l=>KN λz=>hx z8_;have cs:∀r,Js pB_ r->Js V r\/r=.nm x:=λr l=>by
  cases r with
  |nm y=>exact l.imp_right λz=>by rw[z]
  |_=>exact .inl l
 have nw:∀r,r=.nm x->M (a9 r)=none:=λr e=>by rw[e,a1];exact z
 refine hR _ a9 z9_ (a8v (rd:=.nums) trivial old cs nw λa ha hn=>(pB!).trans (m1 a ha)) ?_;refine h.alloc fd! old cs nw (λr r' e e' _=>e.trans e'.symm) ⟨_,mup_same,_,_,rfl,ke_,ue_⟩ (λr e=>?_) (λr l hn=>⟨(mup_ne λz=>hn (h.inj r .nums l trivial z)).trans Aa!,?_⟩) trivial
 .rw[jC];by_cases c:y=x
  .rw[KM c,c,a1]
  .rw[KN c,old (.nm y) Af!];exact kv y Af!
 .subst e;rw[a1];exact⟨_,(mup_ne (LQ (dU kq! z))).trans mup_same,by show Es.lst _=Es.lst (if x=x then _ else _);rw[A!];rfl⟩
 .cases r with
  |nums=>exact absurd rfl hn
  |nm y=>exact KN λz=>hx (by rw[<-z];exact l)
  |_=>rfl
end
section
def b5q{V:Ix}(h:aX!)(hi:Ht i)(hl:jN!<=B)(h0:kget k root=some .non)(Y:kget k binn=some .non)(hp:∀i p,V.pr i p->kget k i=some p):
  Ep t (mup M gX! (.dct (Br k i x) e)) ad {V with pr:=λa p=>(V.pr a p/\a≠i)\/(a=i/\p=x)} dZ_:=by
 refine h.up fd! (r0:=.par) trivial ⟨_,_,rfl,ke_,?_,?_,?_⟩ λr hn l=>pj_
 .rw[mR hi.nn.2.1];exact h0
 .rw[mR hi.nn.2.2];exact Y
 .rintro a p (⟨z,y⟩|⟨rfl,rfl⟩)
  .rw[mR (LQ y)];exact hp a p z
  .rw[iU]
 .cases r with
  |par=>exact absurd rfl hn
  |_=>rfl
def a2b:(Mu n o xs).length=i!+1:=by obtain⟨u,v,e1,e2,_⟩:=mX n o xs;rw[e1,e1.symm,e2,e1];simp;omega
def b8f(h:∀a,¬P a->M' a=M a):Fr M P M' P:=λa _ hn=>⟨h a hn,hn⟩
def c5w(hO:ak!)(w:Bx W)(hn:n∉W.its)(ht:Ht n)(j5:de_)(yp:zT_)(hB:g7!)(hg:Pn W.rows n fg! b rows')
  (hR:∀M' O',Bl t M' o O' e5_ bt!->Fr M O M' O'->R .non M'):Jf t [aX_,n,a,b] M R:=by
 obtain⟨kn,fm⟩:=ht.key;have hp:Et W fg!:=by split;assumption;exact .inr gt_
 have nP:¬Et W n:=λz=>z.elim hn λz=>z.elim ht.nn.2.1 ht.nn.2.2;refine h!;generalize hK:Ag!=KK;have gc:∀ρ' M',R .non M'->KK bP! M':=λρ' M' z=>by rw[<-hK];exact z
 have key:∀pl,pl=fg!->EI t [ab_,bf!,some a,cF_,some pl] M KK:=by
  intro pl epl;rw[<-epl]at hg hp;obtain⟨kpl,hkpl⟩:=oW w hp;obtain⟨ad,eo,hO,hI⟩:=hO;have pn:n∉D.non::chl W.rows pl:=by
   rw[KG,SE];exact⟨ht.nn.1,λz=>lI w hn pl pC_⟩
  subst eo;obtain⟨_,Y,k1,e1,rfl,l1,p0,p1,pr⟩:=hI.ty .par trivial;have vg:Aa 1 Ag_=some n:=rfl;have f0:Aa 0 Ag_=some j5!:=rfl;refine tH f0 vg hI.ob oF1 Y fm br! ?_;have I1:=b5q (e:=Ir k1 n e1) (x:=pl) hI ht l1 p0 p1 pr;have F1:Fr M (Xg ad bg!) (mup M gX! (.dct (Br k1 n pl) (Ir k1 n e1))) (Xg ad bg!):=b8f λa ha=>sR (r0:=.par) trivial ha;obtain⟨k2,e2,h2,_,kv⟩:=I1.dirV (b:=true);have r1:=I1.row (b:=true) (x:=pl) hp;refine jJ (d0r (d:=.fn (ad (.row pl true))) (a:=n) (b:=b) (λR'=>?_) (by simp only[Dr,r1.1.ob,rM.1,and_self]) rfl rfl (iW r1.1 fm yp pn (by have:=r1.2;omega) λM2 R2 K2=>?_))
  .simp[w2,wl,Ar,Gj,I1.ob,oF2,Bs,h2,hkpl,(kv pl).1 hp,Ed,Aa]
  obtain⟨I2,f2⟩:=I1.sl (x:=pl) (b:=true) (B':=B+2) a! hp R2 K2 Ah!;refine wV (b:=true) I2 nP fm a! oF2 rfl rfl λM3 a3 o3 F3 I3=>?_;refine wV (b:=false) I3 (λz=>z.elim hn λy=>by cases y.1) fm a! oF3 (by rw[o3];rfl) rfl λM4 a4 o4 F4 I4=>?_;refine b2d I4 hn fm a! (by rw[o4,o3];rfl) rfl λM5 a5 o5 F5 I5=>gc _ _ ?_;have F:=((F1.trans (b8f f2)).trans F3).trans (F4.trans F5);have hm:∀q,q∈rows'↔q=(n,pl)\/q∈W.rows:=λq=>by
   rw[hg.mem,jA];exact RO ⟨λz=>z.1,λz=>⟨z,λe=>lI w hn q.2 (by rw[<-e];exact z)⟩⟩
  have wn:wo W.rows n=W.rows:=ND.mpr λq hq=>by simpa using λz=>lI w hn q.2 oU!
  have cn:chl W.rows n=[]:=List.eq_nil_iff_forall_not_mem.mpr λc hc=>nP (w.rp _ _ (fY.mp hc));have np:pl≠n:=λz=>nP (z▸hp);have et:∀{P:fb_},(∃x∈W.its++[n],∃q∈jY!,P q)↔∃x∈W.its,∃q∈W.txt x,P q:=λ{P}=>by
   show"!w"
   .rintro⟨x,hx,q,hq,h⟩;by_cases c:x=n
    .rw[KM c]at hq;cases hq
    .rw[KN c]at hq;exact⟨x,(oJ!).resolve_right λz=>c kr_,q,hq,h⟩
   .rintro⟨x,hx,q,hq,h⟩;exact⟨x,LD _ hx,q,by rw[KN λz:x=n=>hn (z▸hx)];exact hq,h⟩
  have hL:∀r,Js ks_ r↔Js (Am!) r:=λr=>by
   have d:∀(c:Bool) (y:D),(ks_).dm c y↔((bg!).dm c y\/(c=true/\y=n))\/(c=false/\y=n):=λc y=>by
    cases c with
    |true=>
     show"!w"
     .rintro(z|z)
      .exact .inl ((KR.mp z).imp .inl λz=>⟨rfl,ek!⟩)
      .exact .inl fk!
     .rintro((z|z)|z)
      .exact Or.imp_left (LD _) z
      .exact .inl (by rw[z.2];exact KJ _ pG!)
      .cases z.1
    |false=>show y∈W.its++[n]↔(y∈W.its\/_)\/_;simp
   cases r with
   |row y c=>exact d c y
   |fol y c=>exact d c y
   |pre y c=>exact d c y
   |nm y=>show y∈W.its++[n]↔y∈W.its\/y=n;simp
   |_=>exact UR
  refine hR M5 (Xg a5 ks_) ⟨a5,o5.trans (o4.trans o3),λ_=>UR,I5.cv a! λr l=>⟨(hL r).mp l,?_⟩⟩ λc hc hr=>?_
  .have ls:∀(y:D) (c:Bool),(ks_).ls y c=(Am!).ls y c:=λy c=>by
    show _=if y=n/\c=false then[]else if y=n/\c=true then[]else if y=pl/\c=true then Mu n b Al_ else(bg!).ls y c
    cases c with
    |true=>
     rw[Q!];show chl rows' y=_;by_cases c1:y=n
     .rw[KM pH_,c1,hg.chl_ne np,wn,cn]
     .rw[Ao!];by_cases c2:y=pl
      .rw[KM Ao_,c2,Ap!,wn]
      .rw[KN λz=>c2 z.1,hg.chl_ne (LQ c2),wn];rfl
    |false=>
     show(yC_).map c_=_;by_cases c1:y=n
     .rw[KM c1,KM pH_];rfl
     .rw[KN c1,Ao!,Q!,Q!];rfl
   cases r with
   |par=>exact funext λi=>funext λp=>propext ((hm bJ_).trans ⟨λz=>z.elim Aq! λz=>.inl ⟨z,λe=>lI w hn p (e▸z)⟩,λz=>z.elim (λz=>.inr z.1) λz=>.inl dW!⟩)
   |dir c=>exact funext λy=>propext (hL (.row y c))
   |nums=>exact funext λy=>propext (hL (.nm y))
   |wri=>exact funext λs=>funext λv=>propext et
   |hid=>exact funext λs=>propext et
   |fol y c=>exact ls y c
   |pre y c=>exact ls y c
   |nm y=>rfl
   |_=>rfl
  .obtain⟨f1,f2⟩:=F c hc λz=>hr kt!
   exact⟨f1,λ⟨r,l,e⟩=>f2 ⟨r,(hL r).mp l,e⟩⟩
 have hh:∀K:D->Mh->Prop,Bz t [aX_,a] M K->Av t.B6 "has" 2 gi! g_ eG_ [ab_,bf!,some a,cF_,none] M K:=λK uc=>⟨hO.noOb bs_,rfl,uc⟩;refine hh _ (a0p hO j5 ?_);by_cases c:Et W a
 .rw[LG c];exact key a (by rw[KM c])
 .rw[KP c];exact key binn (by rw[KN c])
end
section
def rY(hO:ak!)(w:Bx W)(b9:fa!)(hkx:ph_)(nq:Da s=some ks)(hB:g7!)
  (hR:∀M',(dY!->∀rows',Pn W.rows i x s rows'->Bl t M' o O {W with rows:=rows'} bt!)->(¬dY!->Bl t M' o O W bt!)->Fr M O M' O->R .non M'):
  Gi t [aX_,i,x,s] M R:=by
 refine h!;show Af uo! (Af _ (Af _ _)) [ab_,D!,ay!,b9_] M _;simp only[Af,Ap,Hu,wT,Av,wl,Ab,Ad,Aa,List.getElem?_cons_zero,List.getElem?_cons_succ,Option.join_some];refine⟨hO.noOb bs_,rfl,?_⟩;refine rL hO w b9 hkx λb J=>?_;cases b with
 |false=>
  have hc:¬dY!:=λz=>by have:=J.mpr z;cases this
  have:=hR M (λz=>absurd z hc) (λ_=>hO.mono a!) .refl;simpa[Os]using this
 |true=>
  obtain⟨hi,hx,hw⟩:=J.mp rfl;obtain⟨p0,f9⟩:=a5j w hi;have vh:Et W p0:=w.rp _ _ f9;obtain⟨yj,hkp0⟩:=oW w vh;obtain⟨uu,vv,c1,c2⟩:=a7j w.rnd f9;obtain⟨ad,rfl,hO,hI⟩:=hO;obtain⟨_,Y,k1,e1,rfl,l1,q0,q1,pr⟩:=hI.ty .par trivial;obtain⟨k2,e2,h2,_,kv⟩:=hI.dirV (b:=true);have r0:Hr t M As_ (ad (.fol p0 true)) (ad (.pre p0 true)) (uu++i::vv)/\(uu++i::vv).length<=B:=by rw[<-c1];exact hI.row (b:=true) (x:=p0) vh
  have hx0:∀R',w2 Bs cZ_ iQ_ Au! M R'=R' (.fn As_) M:=by
   intro R';simp[w2,wl,Ar,Gj,hI.ob,oF1,oF2,Bs,Y,h2,b9,pr i p0 f9,hkp0,(kv p0).1 vh,Ed,Aa]
  simp only[Bool.not_true,Bool.false_eq_true,if_false,Bg,Bq,Av,hx0];refine⟨by simp only[Dr,r0.1.ob,rM.2.1,and_self],rfl,?_⟩;refine a1n r0.1 b9 (by have:=r0.2;omega) λM1 R1 K1=>?_;rw[<-c2]at R1;obtain⟨I1,f1⟩:=hI.sl (x:=p0) (b:=true) (Nat.le_refl B) vh R1 K1 (by have:=r0.2;rw[c2];simp at this ⊢;omega);obtain⟨k2,e2,h2,_,kv⟩:=I1.dirV (b:=true);obtain⟨_,Y,k1,e1,rfl,l1,q0,q1,pr⟩:=I1.ty .par trivial;have e1x:(Au_).ls x true=chl hd! x:=by
   show(if x=p0/\true=true then _ else chl W.rows x)=_;by_cases e:x=p0
   .rw[if_pos ⟨e,rfl⟩,e]
   .rw[if_neg λz=>e z.1,xW λz=>e Av!]
  have r1:=I1.row (b:=true) (x:=x) hx;rw[e1x]at r1;have yq:∀R',w2 Bs cZ_ y_ Au! M1 R'=R' (.fn (ad (.row x true))) M1:=by
   intro R';simp[w2,wl,Ar,Gj,I1.ob,oF2,Bs,h2,hkx,(kv x).1 hx,Ed,Aa]
  simp only[yq];refine⟨by simp only[Dr,r1.1.ob,rM.1,and_self],rfl,?_⟩;refine iW r1.1 b9 nq (by rw[List.mem_cons,not_or];exact⟨(ke!).nn.1,λz=>(jA.mp pC_).2 rfl⟩) (by have:=r1.2;omega) λM2 R2 K2=>?_;obtain⟨I2,f2⟩:=I1.sl (x:=x) (b:=true) (Nat.le_succ B) hx R2 K2 Ah!;have iw:=(K2 gX! (λz=>by have:=I1.inj .par (.fol x true) trivial hx z;cases this) λz=>by have:=I1.inj .par (.pre x true) trivial hx z;cases this).trans Y;have fin:R .non (mup M2 gX! (.dct (Br k1 i x) (Ir k1 i e1))):=by
   have I3:=b5q (e:=Ir k1 i e1) (x:=x) I2 ke! (Nat.le_succ_of_le l1) q0 q1 pr;refine hR _ (λ_ rows' hg=>⟨ad,rfl,hO,I3.cv a! λr l=>pj_⟩) (λz=>absurd ⟨hi,hx,hw⟩ z) λc hc hr=>⟨(sR (V:=Jr W) (r0:=.par) trivial λz=>hr kt!).trans ((f2 c λz=>hr kt!).trans (f1 c λz=>hr kt!)),hr⟩;have ls:∀(y:D) (c:Bool),(Jr {W with rows:=rows'}).ls y c=((Au_).sl x true (Mu i s (chl hd! x))).ls y c:=λy c=>by
    show _=if y=x/\c=true then _ else if y=p0/\c=true then _ else(bg!).ls y c
    cases c with
    |false=>rw[if_neg c!,if_neg c!];rfl
    |true=>
     show chl rows' y=_;by_cases c1:y=x
     .rw[if_pos pH_,c1,Ap!]
     .rw[if_neg λz=>c1 z.1,hg.chl_ne (Ne.symm c1)];by_cases c2:y=p0
      .rw[if_pos Ao_,c2]
      .rw[if_neg λz=>c2 z.1,xW λz=>c2 Av!];rfl
   cases r with
   |par=>exact funext λa=>funext λp=>propext (hg.mem.trans ⟨λz=>z.elim Aq! λz=>.inl (jA.mp z),λz=>z.elim (λz=>.inr (jA.mpr z)) λz=>.inl dW!⟩)
   |fol y c=>exact ls y c
   |pre y c=>exact ls y c
   |dir c=>cases c<;>rfl
   |_=>rfl
  simpa[Cb,wl,Ar,Gj,Ed,Aa,I2.ob,oF1,Ko,iw,b9,show k1.length<big by unfold big;omega]using fin
end
end K20
namespace K20
open PySem L2 DL
nonrec def Bk.nd(t:Bk):Prop:=[t.A0,t.A7,t.A8,t.A9,t.B0,t.B1,t.B2,t.B3,t.B4].Nodup
def Ld(c:Nat):Bool:=decide (32<=c)&&decide (c<=126)&&!(c==37)
def Ua(s:Str):Bool:=decide (ar_<=1000)&&s.cps.toList.all Ld
def c7d(a c:Nat):Rj ⟨#[a]⟩ aj!=decide (a<=c):=by
 unfold Rj;simp only[List.cons_lt_cons_iff,List.not_lt_nil,and_false,QR];by_cases h:c<a
 .simp[h]
 .simp[h];omega
def b1z:(" ":Str)=⟨#[32]⟩:=by decide+kernel
def b1y:("~":Str)=⟨#[126]⟩:=by decide+kernel
def c7z(c:Nat):Gs [eN_]=some (.bl (Ld c)):=by
 push_cast[Gs,Rm,AB,b1z,b1y,c7d,Str.length,Ld]
 by_cases Y:32<=c<;>by_cases h2:c<=126<;>simp[Y,h2];rw[OA];simp;omega
def vA(ρ:Ag)(nr:ρ=dg!):∀(cs:o!),cs.all Ld=true->
  Ef B_ aS_ iH_ ρ (cs.map λc=>.str aj!)=some ku_
 |[],_=>rfl
 |c::cs,h=>by
  rw[QU,LN]at h;have ih:=vA ρ nr cs h.2;subst nr;simp only[KL,Ef,ih];simp[Bb,f1,Ac,Aa,Ae,c7z,h.1]
def vF:∀(cs:o!),Mr Ay_=some Az_
 |[]=>rfl
 |c::cs=>by simp only[KL,Mr,vF cs,RX]
def a0t(a b:Str):Ej (.str a) (.str b)=fI!:=by unfold Ej;rfl
def c3c(a b:Int):Ej pJ! (.int b)=fI!:=by unfold Ej;rfl
def a4s(s:Str):∀xs:List Str,AB!=xs.any (·==s)
 |[]=>rfl
 |x::xs=>by rw[KL,PU,PU,a4s s xs,a0t]
def c2q(s:Str)(xs:G_):Vl false aZ! (.tup kv!)=some (.bl (xs.any (·==s))):=by
 have h:(kv!).all Kg=true:=by simp[ON,Kg]
 show(if Kg aZ!&&(kv!).all Kg then some (D.bl AB!)else none)=_;rw[h,a4s];rfl
def gK(a b:Str):Ax (.str a) (.str b)=some (.bl fI!):=by simp[Ax,Ba,Gx,a0t]
def in2(k a b:Str):Vl false T! pK_=some (.bl pL!):=by have:=c2q k ag_;simpa only[KL,QC,PU,List.any_nil,Bool.or_false]using this
def pB(a b:Int):Ax pJ! (.int b)=some (.bl fI!):=by simp[Ax,Ba,Gx,c3c]
abbrev scr(ns:v!):D:=.lst jk!
def a1c(h0:0<=i)(Y:i<i!):∃x,De xs i=some x/\x∈xs:=by refine⟨xs[i.toNat]' a!,?_,OB _⟩;unfold De Ec;rw[KM h0,KM Y];simp
def c3u(ns:v!)(k:Int):∃c,Np [ca!,hf_]=some pL_:=by
 cases ns with
 |nil=>exact⟨0,by push_cast[Np,Sg,scr,Wo]⟩
 |cons n r=>
  have hp:(0:Int)<hg!+1:=by omega
  obtain⟨x,e,hx⟩:=a1c (xs:=AC_) (i:=k%(hg!+1)) (NY _ a!) (by simpa using NK k hp);obtain⟨c,_,rfl⟩:=KY.mp hx;refine⟨c,?_⟩;have e':Ai (.lst AC_) (.int (k%(hg!+1)))=some pL_:=e;simp only[KL]at e';simp[Np,Sg,scr,Ce,Bd,sSeq,Gc,Co,Aa,Wo,f2,f1,Ac,Ae,Bj,Bv,Dy,hp,e']
def fX(ns:v!):∃m,Bh [ca!,hf_]=some b7_/\0<=m/\m<4294967231:=by obtain⟨c,hc⟩:=c3u ns k;refine⟨_,by push_cast[Bh,Yj,hc,Ub];rfl,NY _ b!,NK _ b!⟩
def iA(h:xs≠[]):∃x,Cm [.lst xs,aO!]=some x/\x∈xs:=by
 have hl:0<i!:=List.length_pos_iff.mpr h;have hp:(0:Int)<i7!:=by omega
 obtain⟨x,e,hx⟩:=a1c (xs:=xs) (i:=n%i7!) (NY _ a!) (NK n hp);refine⟨x,?_,hx⟩;have e':Ai M! (.int (n%i7!))=some x:=e;simp[Cm,We,Ce,Bd,Aa,f2,f1,Ac,Ae,Bj,Bv,Dy,hp,e',hl]
def oP(P:Nat->Ag->Prop):∀(ds:e!) (i:Nat) (ρ:Ag),P i ρ->
  (∀(j:Nat) (d:D) (ρ:Ag),ds[j]?=some d->P (i+j) ρ->∃ak bc,bnd d ρ=some ak/\q ak=some (.nx bc)/\P (i+j+1) bc)->
  ∃ρ',Qk bnd q ds ρ=some bP!/\P (i+g!) ρ'
 |[],i,ρ,h,_=>⟨ρ,rfl,h⟩
 |d::ds,i,ρ,h,hs=>by
  obtain⟨ak,bc,e1,e2,h2⟩:=hs 0 d ρ rfl h;obtain⟨ρ',e3,h3⟩:=oP P ds Z_ bc h2 λj d ρ hd hp=>by
   have:=hs bS! d ρ (by simpa using hd) (by rw[show i+bS!=i+1+j by omega];exact hp);rw[show i+bS!+1=i+1+j+1 by omega]at this;exact this
  refine⟨ρ',?_,by rw[KO,show i+(ds.length+1)=i+1+ds.length by omega];exact h3⟩;simp[Qk,e1,e2,e3]
def lT(R:D->Prop):∀(ds:e!),(∀d∈ds,∃ak b,bnd d ρ=some ak/\ft ak=some b/\(b=true->∃y,fe ak=some y/\R y))->
  ∃ys,Ef bnd ft fe ρ ds=some ys/\N_<=g!/\∀y∈ys,R y
 |[],_=>⟨[],rfl,KU _,λy hy=>by cases hy⟩
 |d::ds,h=>by
  obtain⟨ak,b,e1,e2,hy⟩:=h d KD;obtain⟨ys,e3,hl,hr⟩:=lT R ds λx hx=>h x ca_
  cases b with
  |false=>exact⟨ys,by simp[Ef,e1,e2,e3],d2_,hr⟩
  |true=>
   obtain⟨y,e4,r4⟩:=hy rfl;refine⟨y::ys,by simp[Ef,e1,e2,e3,e4],d2_,ln!⟩;obtain rfl|hz:=KG.mp hz
   .exact r4
   .exact hr z hz
def rG:∀{ds ys:e!},Ef bnd aS_ fe ρ ds=some ys->N_=g!
 |[],ys,e=>by cases e;rfl
 |d::ds,ys,e=>by
  unfold Ef at e;obtain⟨ak,e1,e⟩:=JZ.mp e;simp only[QF,MU]at e;obtain⟨y,e3,e⟩:=JZ.mp e;obtain⟨zs,e4,rfl⟩:=KI.mp e;simp[rG e4]
def NameG(x:D):Prop:=∃a b,x=.tup ym_/\0<=a/\a<16/\1<=b/\b<=2000
def Bm(x:D):Prop:=x=.str "root"\/x=.str "bin"\/NameG x
def Jq(x:D):Prop:=x=.non\/NameG x
def Ys(x:D):Prop:=∃a b c,x=.tup yn_/\0<=a/\a<16/\1<=b/\b<=2000/\0<=c/\c<=15
def Kh(x:D):Prop:=x=.non\/Ys x
inductive DG:D->Prop
 |put {a b:D}:Bm a->Jq b->DG fk_
 |move {a b c:D}:Bm a->Bm b->Jq c->DG hh!
 |drop {a:D}:Bm a->DG hh_
 |write {a b:D} {s:Str}:Bm a->Kh b->Ua s=true->1<=ar_->ar_<=16->DG hi!
 |cut {a:D} {x y z m:Int}:Bm a->Ys fc!->1<=m->z+m<=16->DG fl!
 |set {a:D} {p n:Int}:Bm a->0<=p->p<=3->n.natAbs<10 ^ 60->DG (.tup [kx!,a,.int p,aO!])
 |undo {a:D}:NameG a->DG (.tup [pM_,a])
 |redo {a:D}:NameG a->DG (.tup [.str "redo",a])
def Ui(o:D):Prop:=∃h n tm d,o=.tup [aP!,aO!,.int tm,d]/\0<=h/\h<16/\1<=n/\n<=2000/\DG d
def a4f(h:DG d):∃k r,d=.tup dg_/\(k="write"->∃a b s,r=[a,b,d1_]/\ar_<=16):=by
 cases h with
 |write _ _ _ _ h5=>exact⟨_,_,rfl,λ_=>⟨_,_,_,rfl,h5⟩⟩
 |_=>exact⟨_,_,rfl,λz=>absurd z i_⟩
def a3k(h:hj!)(hl:hj_):∃ys,Hh [ky!]=some pN_/\N_<=100/\∀x∈ys,NameG x:=by
 obtain⟨ys,e,l,hr⟩:=lT (ρ:=dg!) (bnd:=Bb 0) (ft:=fT nY_) (fe:=As nZ!)
  (AF_) ops (by
   intro o ho;obtain⟨h',n,tm,d,rfl,b1,b2,b3,b4,hd⟩:=h o ho;obtain⟨k,r,rfl,_⟩:=a4f hd;refine⟨_,_,rfl,by push_cast[gK];rfl,λ_=>⟨_,by push_cast,AG_⟩⟩)
 have hc:Fx 1 [] eK_ B_ (fT nY_) nZ_ [as!]=some aD_:=by
  show AH!;rw[cH_,e];rfl
 have a1:An (.lst AH_) aD_=some AI!:=by
  show(if 1+N_<=big then some (D.lst (AH_++ys))else none)=_;rw[cH_];rfl
 have a2:An AI! (.lst pN!)=some pN_:=by
  show(if N_+1+2<=big then some (D.lst (.str "root"::ys++pN!))else none)=_;rw[cH_];rfl
 exact⟨ys,by simp[Hh,Tw,Ce,Bd,f2,fC,hc,a1,a2],p!,hr⟩
def a0g(hr:∀x∈ys,NameG x):∀x∈D.str "root"::kz_,Bm x:=λx hx=>by
 simp at hx;obtain rfl|hx|rfl|rfl:=hx
 .exact cj_
 .exact .inr (.inr (hr x hx))
 .exact km!
 .exact .inr (.inr ⟨9,9,rfl,W_,W_,W_,W_⟩)
def b7r(h:hj!)(hl:hj_):∃its,Hh [ky!]=some kA_/\3<=gv!/\gv!<=200/\∀x∈its,Bm x:=by obtain⟨ys,e,l,hr⟩:=a3k h hl;exact⟨_,e,Q_,d2_,a0g hr⟩
def b3x(h:hj!)(hl:hj_):∃ss,Lk [ky!]=some (.lst ss)/\ss≠[]/\∀x∈ss,Kh x:=by
 let P:Nat->Ag->Prop:=λi ρ=>∃c6 x y,ρ=[as!,pP!,x,y]/\c6≠[]/\pP_<=2+16*i/\∀z∈c6,Kh z
 obtain⟨ρ',e,c6,x,y,rfl,f0,_,hf⟩:=oP (bnd:=Cj 2) (q:=Gc vL_ vM_ Co)
  P ops 0 [as!,some (.lst [.non,.tup [.int 9,.int 9,.int 3]]),none,none] ⟨_,_,_,rfl,by simp,by simp,by
   intro z hz;simp at hz;obtain rfl|rfl:=hz
   .exact cj_
   .exact .inr ⟨9,9,3,rfl,W_,W_,W_,W_,W_,W_⟩⟩ (by
  rintro j d ρ hd ⟨c6,x,y,rfl,f0,fl,hf⟩;have hj:j<kx_:=(KS.mp hd).1;obtain⟨h',n,tm,d',rfl,b1,b2,b3,b4,hdg⟩:=h d (QY hd);obtain⟨k,r,rfl,hw⟩:=a4f hdg;by_cases hk:k="write"
  .subst hk;obtain⟨a,b,s,rfl,s16⟩:=hw rfl;have ym:ar_<=big:=by unfold big;omega
   let P2:Nat->Ag->Prop:=λi ρ=>∃c6 y,ρ=AL!/\c6≠[]/\pP_<=2+16*(0+j)+i/\∀z∈c6,Kh z
   obtain⟨bc,e2,XH,y2,rfl,f20,f2l,wv⟩:=oP (bnd:=Cj 3) (q:=Pd 1 vM!) P2 (Dj ar_) 0
    (AL!) ⟨c6,y,rfl,f0,fl,hf⟩ (by
     rintro i d ρ hd ⟨c6,y,rfl,f0,fl,hf⟩;unfold Dj at hd;rw[LZ]at hd;obtain⟨i',cr,rfl⟩:=KI.mp hd;obtain⟨al,he⟩:=KS.mp cr;rw[SG]at he;subst he;rw[OV]at al;have J:pP_<big:=by unfold big;omega
     refine⟨_,_,rfl,by push_cast[Pd,J];rfl,c6++[.tup [.int h',aO!,dy!]],_,rfl,Q_,d2_,ln!⟩;obtain hz|hz:=KR.mp hz
     .exact hf z hz
     .simp at hz;subst hz;exact .inr ⟨_,_,_,rfl,b1,b2,b3,b4,p!,p!⟩)
   have hr:-1000<=kB_/\kB_<=100000:=by omega
   refine⟨_,[as!,some (.lst XH),AK!,y2],rfl,by push_cast[gK,Rb,Ew,ym,hr,e2],XH,_,_,rfl,f20,?_,wv⟩;simp[Dj]at f2l;omega
  .refine⟨_,[as!,pP!,some (.tup [.int h',aO!,.int tm,.tup dg_]),y],rfl,by push_cast[gK,hk],c6,_,_,rfl,f0,p!,hf⟩)
 refine⟨c6,?_,f0,hf⟩;simp[Lk,Tu,Ma,Ce,sSeq,Ac,Ae,fC,Rb,Ek,Aa,Bd,e]
abbrev letters:Str:=" abcXYZ.,;!019~[]\\\"'|{}<>@#$&*()-+/=_^:?`"
def qZ:pQ!=41:=by decide+kernel
def a6r:letters.cps.toList.all Ld=true:=by decide+kernel
def b2v:(dh!).cps=#[]:=by decide+kernel
def xO:(dh!).length=0:=by decide+kernel
def Oj(c:Nat):D:=.str aj!
def a1o:∀(xs:e!),(∀x∈xs,∃c,x=Oj c/\Ld c=true)->∃cs:List Nat,xs=cs.map Oj/\cs.all Ld=true
 |[],_=>AN!
 |x::xs,h=>by
  obtain⟨c,rfl,hc⟩:=h x KD;obtain⟨cs,rfl,pe⟩:=a1o xs λy hy=>h y dN!
  exact⟨c::cs,rfl,by simp only[QU,hc,pe,QD]⟩
def pL:∀(cs:o!),Pr kC_=some hk!
 |[]=>rfl
 |c::cs=>by simp only[KL,Oj,Pr];rw[show List.map Oj cs=List.map Oj cs from rfl,pL cs];rfl
def a3u:∀(cs:o!) (acc:Array Nat),(hk!).foldl (λacc p=>acc++(dh!).cps++p.cps) acc=acc++cs.toArray
 |[],acc=>by simp
 |c::cs,acc=>by
  rw[KL,QP,a3u cs,b2v];simp
def b7o(cs:o!):Txt.join dh! hk!=pQ_:=by
 unfold Txt.join Builtin.Str.glued;cases cs with
 |nil=>rfl
 |cons c cs=>
  simp only[KL,List.drop_succ_cons,List.drop_zero,List.headD_cons];rw[a3u];simp
def yI:∀(cs:o!),((hk!).map (·.length)).sum=cF!
 |[]=>rfl
 |c::cs=>by
  have ih:=yI cs;simp only[KL,List.sum_cons,KO];rw[ih];show 1+cF!=_;omega
def c0f(Y:1<=most)(h16:most<=16):∃s,Nm [aO!,.int most]=some aZ!/\Ua s=true/\1<=ar_/\ar_<=16:=by
 have hm0:0<=n%most:=NY _ a!;have XI:n%most<most:=NK _ a!;obtain⟨N,hN⟩:∃N:Nat,(N:Int)=1+n%most:=⟨(1+n%most).toNat,p!⟩;have hN1:1<=N:=by omega
 have hN2:N<=16:=by omega
 obtain⟨ys,e,l,hr⟩:=lT (ρ:=AN_) (bnd:=Bb 0) (ft:=pR_) (fe:=f2 Ai A_ vR!)
  (λy=>∃c,y=Oj c/\Ld c=true) fm_ (by
   intro d hd;unfold Dj at hd;obtain⟨i,hi,rfl⟩:=KY.mp hd;have cr:=RC.mp hi;have z1:(0:Int)<1+3*(i:Int):=by omega
   have z2:1+3*(i:Int)<1073741824:=by omega
   have ao:pQ!<=big:=by rw[qZ];decide
   have hsz:((AO_:Nat):Int)=41:=by
    have:AO_=41:=by rw[<-qZ];simp[Str.length]
    omega
   obtain⟨c,ec,hc⟩:=a1c (xs:=letters.cps.toList) (i:=n / AP!%41) (NY _ b!) (by rw[hsz];exact NK _ b!);have hix:Ai pR! (.int (n / AP!%41))=some (Oj c):=by
    show(if pQ!<=big then(De letters.cps.toList _).map _ else none)=_;rw[KM ao,ec];rfl
   refine⟨_,true,rfl,rfl,λ_=>⟨Oj c,?_,c,rfl,ON.mp a6r c hc⟩⟩;simp[Bb,f2,Aa,fC,An,Dk,Dy,Ub,Cg,Bv,z1,z2,hix])
 have l2:=rG e;obtain⟨cs,rfl,pe⟩:=a1o ys hr;have b6:cF!=N:=by simpa[Dj]using l2
 have hrng:-1000<=(N:Int)/\(N:Int)<=100000:=by omega
 have hc:Fx 1 [0,2] (Ew n0_) B_ aS_ vR_ AP_=some (.lst kC_):=by
  have hi:Ew n0_ AP_=some fm_:=by
   simp[Ew,f2,fC,Aa,Bv,Dy,show 0<most by omega,An,<-hN,hrng]
  unfold Fx;rw[hi];show(if(fm_).length<=big then Option.map D.lst (Ef _ _ _ AN_ fm_)else none)=_;rw[KM (by simp[Dj,big];omega),e];rfl
 have hj:Mo jo_ (.lst kC_)=some (.str pQ_):=by
  unfold Mo;simp only[pL,QF,yI,KQ,xO,Nat.mul_zero,Nat.add_zero,b7o];rw[cH_]
 refine⟨pQ_,?_,?_,?_,?_⟩
 .simp[Nm,Wb,Ce,sSeq,Ck,fC,Bd,Yo,hc,hj]
 .simp only[Ua,Str.length,KH,pe,Bool.and_true,LO];omega
 .simp only[Str.length,KH];omega
 .simp only[Str.length,KH];omega
def JU:Ag->Option Fl:=vS!
def JT:Ag->Option Fl:=A4!
def JS:Ag->Option Fl:=vT_
def JR:Ag->Option Fl:=vV!
def IT:Ag->Option Fl:=vV_
def JQ:Ag->Option Fl:=vW!
def JP:Ag->Option Fl:=vY!
def JO:Ag->Option Fl:=vZ_
def JN:Ag->Option Fl:=v0_
def JM:Ag->Option Fl:=v1!
def EW:Ag->Option Fl:=v2_
def EV:Ag->Option Fl:=v5_
def CK:Ag->Option Fl:=v8!
def AF:Ag->Option Fl:=v9!
nonrec def dq14:Ag->Option Fl:=wa!
nonrec def dq15:Ag->Option Fl:=wb!
def FV:Ag->Option Fl:=(sSeq JO (sSeq JN (sSeq JM (sSeq EW AQ_))))
def b1f:Pk=(sSeq JU (sSeq JT (sSeq JS (sSeq JR (sSeq IT (sSeq JQ (sSeq JP FV))))))):=rfl
def bK(h:q1 ρ=some bP!):sSeq q1 q2 ρ=q2 ρ':=by simp[sSeq,h]
def mV(h:q1 ρ=some aH_):sSeq q1 q2 ρ=some aH_:=by simp[sSeq,h]
def iF(h:cA_):Ck i f ρ=some (.nx bG_):=by simp[Ck,h]
abbrev kinds:List D:=[hg_,hg_,hg_,kw!,kw!,kw_,kw_,.str "cut",kx!,pM_,.str "redo",pM!]
def KindOk(k:Str):Prop:=k="put"\/k="move"\/k="write"\/k="cut"\/k="set"\/k="undo"\/k="redo"\/k="drop"
def a4l(h:x∈Dm xs lo hi):x∈xs:=List.mem_of_mem_drop (List.mem_of_mem_take h)
def Qi:D->D
 |.str _=>.non
 |d=>d
def a3l(h:Bm d\/d=.non):(Fs "str" d=some true/\Qi d=.non)\/(Fs "str" d=some false/\Qi d=d/\Jq d):=by
 rcases h with(rfl|rfl|⟨a,b,rfl,h⟩)|rfl
 .exact .inl aJ_
 .exact .inl aJ_
 .exact .inr ⟨rfl,rfl,.inr ⟨a,b,rfl,h⟩⟩
 .exact .inr ⟨rfl,rfl,cj_⟩
def c8h(ns:v!)(h:hj!)(hl:hj_):∃m0 its item jc k,0<=m0/\its≠[]/\(∀x∈its,Bm x)/\Bm item/\Jq jc/\KindOk k/\
  Pk AR_=FV pS_:=by
 obtain⟨m0,e0,p0,_⟩:=fX ns (k:=base);obtain⟨m1,e1,_,_⟩:=fX ns (k:=base+1);obtain⟨m2,e2,_,_⟩:=fX ns (k:=base+2);obtain⟨its,ei,i3,i200,oj⟩:=b7r h hl;have vi:its≠[]:=by intro z;subst z;simp at i3
 have rl:AS_≠[]:=by
  intro z;have z2:=congrArg List.length z;simp[Dm,HT.sIx]at z2;omega
 have b6:(AT!).length+(AT_).length<=big:=by
  simp[Dm,HT.sIx,big];omega
 obtain⟨item,ep,mp⟩:=iA (n:=m1) rl;have om:Bm item:=by
  obtain z|z:=KR.mp mp
  .exact AU_
  .exact AU_
 have a1:An (.lst AT!) (.lst AT_)=some (.lst AS_):=by
  show hk_;rw[KM b6]
 have a2:An kA_ (.lst jp!)=some (.lst (its++jp!)):=by
  show(if gv!+2<=big then _ else none)=_;rw[cH_]
 obtain⟨bx,eo,mo⟩:=iA (n:=m2) (xs:=its++jp!) c!;have ud:Bm bx\/bx=.non:=by
  obtain z|z:=KR.mp mo
  .exact .inl (oj _ z)
  .simp at z;exact .inr z
 have io:Jq (Qi bx):=by
  obtain⟨_,z⟩|⟨_,z,y⟩:=a3l ud
  .rw[z];exact .inl rfl
  .rw[z];exact y
 obtain⟨kd,ek,mk⟩:=a1c (xs:=kinds) (i:=m0%12) (NY _ b!) (by show _<(12:Int);exact NK _ b!);obtain⟨k,rfl,hk⟩:∃k,kd=.str k/\KindOk k:=by
  simp[kinds]at mk;unfold KindOk;obtain rfl|rfl|rfl|rfl|rfl|rfl|rfl|rfl:=mk<;>exact⟨_,rfl,Q_⟩
 have ek':Ai AS! (.int (m0%12))=some T!:=ek;refine⟨m0,its,item,Qi bx,k,p0,vi,oj,om,io,hk,?_⟩;rw[b1f];rw[bK (ρ':=[ac!,am_,as!,bh_,bM_,none,none,none,none,none,none,none]) (iF (by simp[f1,Ac,Aa,Ae,e0]))];rw[bK (ρ':=[ac!,am_,as!,bh_,bM_,bN!,none,none,none,none,none,none]) (iF (by simp[f1,Ac,Aa,Ae,ei]))];rw[bK (ρ':=[ac!,am_,as!,bh_,bM_,bN!,cI!,none,none,none,none,none]) (iF (by
  have b1:An kD! a7_=some (.int (base+1)):=rfl;simp[f1,Ac,Aa,Ae,f2,Ey,Bf,Au,Ay,fC,a1,b1,e1,ep]))]
 rw[bK (ρ':=[ac!,am_,as!,bh_,bM_,bN!,cI!,some bx,none,none,none,none]) (iF (by
  have b1:An kD! bz_=some (.int (base+2)):=rfl;simp[f1,Ac,Aa,Ae,f2,fC,a2,b1,e2,eo]))]
 rw[bK (ρ':=[ac!,am_,as!,bh_,bM_,bN!,cI!,pU_,none,none,none,none]) (by
  obtain⟨z1,z2⟩|⟨z1,z2,_⟩:=a3l ud<;>simp[IT,Gc,fT,Ei,Aa,z1,z2,Co,Ck,fC])]
 rw[bK (ρ':=[ac!,am_,as!,bh_,bM_,bN!,cI!,pU_,fn_,none,none,none]) (iF gE!)];rw[bK (ρ':=[ac!,am_,as!,bh_,bM_,bN!,cI!,pU_,fn_,some T!,none,none]) (iF (by simp[f2,Aa,fC,Bv,Dy,ek']))]
section
def b2q(h:c ρ=some true):Gc c a b ρ=a ρ:=by unfold Gc;rw[h];rfl
def gV(h:c ρ=some false):Gc c a Co ρ=some S_:=by unfold Gc;rw[h];rfl
def pA(h:Aa i ρ=some T!)(e:(k==s)=b):fT (f2 Ax (Aa i) pV_) ρ=some b:=by unfold fT f2 fC;rw[h];show(Ax T! aZ!).bind _=_;rw[gK,e];rfl
def bL(h:cA_)(g:hm!):Ac f fs ρ=some dP!:=by unfold Ac;rw[h,g];rfl
def mW(h:hm!)(hl:AZ!):Bd (As fs) ρ=some (.rt c5_):=by unfold Bd As;rw[h];show Option.map _ AZ_=_;rw[A0!];rfl
def gA(h:hm!)(e:g ds=some d):f1 g fs ρ=some d:=by unfold f1;rw[h];exact e
def bV{f1 f3:o_}(h:f1 ρ=some x)(k:f3 ρ=some y)(e:g x y=some d):f2 g f1 f3 ρ=some d:=by unfold f2;rw[h,k];exact e
def a2u(h:Aa 0 ρ=some aZ_)(g:Aa 1 ρ=some kD!)(e:Bh [ca!,.int (base+j)]=some b7_):f1 Bh (Ac j_ (Ac (f2 An r_ (fC b8!)) Ae)) ρ=some b7_:=
 gA (bL h (bL (bV g rfl rfl) rfl)) e
def b5b(a:f ρ=some M!)(b:h ρ=some b7_)(e:Cm [.lst xs,d0_]=some p):f1 Cm (Ac f (Ac h Ae)) ρ=some p:=
 gA (bL a (bL b rfl)) e
end
def zF(h:0<j):Bv bR! b8!=some (.int (i%j)):=by show(if decide (0<j)=true then _ else _)=_;rw[KM (LG h)]
def c3j(ns:v!)(h:hj!)(hl:hj_)(XI:1<=most)(hm16:most<=16):∃d,Ka A2_=some d/\DG d:=by
 obtain⟨m0,its,item,jc,k,p0,vi,oj,om,ud,hk,hA⟩:=c8h ns (base:=base) (most:=most) h hl;have fin:∀d,FV pS_=some aH_->Ka A2_=some d:=λd e=>by
  unfold Ka Ce;rw[jr!];show(match Pk AR_ with|some (.rt d)=>some d|some (.nx _)=>some .non|none=>none)=_;rw[hA,e]
 clear hA;obtain⟨m1,e1,_,_⟩:=fX ns (k:=base+1);obtain⟨m3,e3,_,_⟩:=fX ns (k:=base+3);obtain⟨m4,e4,_,_⟩:=fX ns (k:=base+4);obtain⟨m5,e5,_,_⟩:=fX ns (k:=base+5);obtain⟨p1,tz,mp1⟩:=iA (n:=m1) vi;obtain⟨p3,ep3,mp3⟩:=iA (n:=m3) vi;obtain⟨ss,es,yr,hss⟩:=b3x h hl;obtain⟨sg,eg,mg⟩:=iA (n:=m4) yr;have XJ:=hss _ mg;obtain⟨tx,et,ht1,ht0,vj⟩:=c0f (n:=m5) XI hm16;have ue:∀{k:Str},EW pS_=some (.nx pY!):=
  iF (gA (bL (gA fo_ es) (bL (a2u rfl rfl e4) rfl)) eg)
 have XO:∀{k:Str},A3_=true->AF pY!=some (.rt A4_):=λ{k} e=>
  (b2q (by unfold fT;rw[A5_,e];rfl)).trans A6!
 have XQ:DG A4_:=.set om a! a! a!;obtain⟨nm,nn,hun⟩:∃nm,NameG nm/\∀{k:Str},("put"==k)=false->sSeq dq14 dq15 [some (scr ns),some (.int base),some (.lst ops),some (.int most),some (.int m0),some (.lst its),some item,some jc,some (.lst kinds),some (.str k),some sg,none]=some (.rt (.tup [.str k,nm])):=by
  obtain⟨ys,e,l,hr⟩:=lT (ρ:=dg!) (bnd:=Bb 0) (ft:=pR_) (fe:=As nZ!)
   (AF_) ops (by
    intro o ho;obtain⟨h',n,tm,d,rfl,b1,b2,b3,b4,_⟩:=h o ho;exact⟨_,true,rfl,rfl,λ_=>⟨_,rfl,AG_⟩⟩)
  have a1:An aD_ (.lst pY_)=some (.lst (ys++pY_)):=by
   show(if N_+1<=big then _ else none)=_;rw[cH_]
  obtain⟨nm,en,mn⟩:=iA (n:=m1) (xs:=ys++pY_) c!;refine⟨nm,?_,λ{k} _=>(bK (iF (bV ?_ rfl a1))).trans (mW (bL rfl (bL (b5b rfl A8! en) rfl)) rfl)⟩
  .obtain z|z:=KR.mp mn
   .exact hr _ z
   .simp at z;subst z;exact⟨_,_,rfl,W_,W_,p!,p!⟩
  .show AH!;rw[cH_,e];rfl
 have vk:∀{k:Str},("put"==k)=false->(k=="write")=false->(k=="cut")=false->A3_=false->(AQ_) pY!=some (.rt (.tup [.str k,nm])):=λ{k} e0 w c s=>
  (bK (gV (pA rfl w))).trans ((bK (gV (by unfold Cw;rw[pA rfl c];rfl))).trans ((bK (gV (by unfold fT;rw[A5_,s];rfl))).trans (hun e0)))
 unfold KindOk at hk;obtain rfl|rfl|rfl|rfl|rfl|rfl|rfl|rfl:=hk
 .exact⟨_,fin _ (mV ((kI_).trans (mW (bL rfl (bL (b5b rfl A8! tz) rfl)) rfl))),.put (oj _ mp1) ud⟩
 .exact⟨_,fin _ ((ay_).trans (mV ((kI_).trans (mW (bL rfl (bL rfl (bL (b5b rfl (a2u rfl rfl e3) ep3) rfl))) rfl)))),.move om (oj _ mp3) ud⟩
 all_goals first|(refine⟨_,fin _ ((ay_).trans ((ay_).trans (mV ((kI_).trans A6!)))),.drop om⟩;done)|skip
 .exact⟨_,fin _ ((ay_).trans ((ay_).trans ((ay_).trans ((kJ!).trans
   (mV ((kI_).trans (mW (bL rfl (bL rfl (bL rfl (bL (gA (bL (a2u rfl rfl e5) rfl) et) rfl)))) rfl))))))),.write om XJ ht1 ht0 vj⟩
 .have go:FV [ac!,am_,as!,bh_,bM_,bN!,cI!,kD_,fn_,some gc!,none,none]=sSeq CK AQ! [ac!,am_,as!,bh_,bM_,bN!,cI!,kD_,fn_,some gc!,some sg,none]:=(ay_).trans ((ay_).trans ((ay_).trans ((kJ!).trans ay_)));obtain rfl|⟨a,b,c,rfl,Y,h2,h3,h4,c0,c15⟩:=XJ
  .exact⟨_,fin _ (go.trans ((bK (gV Bd!)).trans (mV (XO rfl)))),XQ⟩
  .have hc:0<16 - c:=by omega
   have q1:0<=m0 / 12%(16 - c):=NY _ a!;have q2:m0 / 12%(16 - c)<16 - c:=NK _ hc;exact⟨_,fin _ (go.trans (mV ((b2q Bd!).trans (mW (bL rfl (bL rfl (bL rfl (bL (bV rfl (bV rfl rfl (zF hc)) rfl) rfl)))) rfl)))),.cut om ⟨a,b,c,rfl,Y,h2,h3,h4,c0,c15⟩ a! a!⟩
 .exact⟨_,fin _ ((ay_).trans ((ay_).trans ((ay_).trans ((kJ!).trans ((ay_).trans ((bK (gV (by unfold Cw;rw[pA (b:=false) rfl i_];rfl))).trans (mV (XO i_)))))))),XQ⟩
 .exact⟨_,Be_,.undo nn⟩
 .exact⟨_,Be_,.redo nn⟩
def fL(h:Bm d):Ee d=true:=by obtain rfl|rfl|⟨a,b,rfl,_⟩:=h<;>simp[Ee,Fh]
def wH(h:Jq d):Ee d=true:=by obtain rfl|⟨a,b,rfl,_⟩:=h<;>simp[Ee,Fh]
def tU(h:NameG d):Ee d=true:=by obtain⟨a,b,rfl,_⟩:=h;simp[Ee,Fh]
def a5f(h:Kh d):Ee d=true:=by obtain rfl|⟨a,b,c,rfl,_⟩:=h<;>simp[Ee,Fh]
def a7e(h:DG d):Ee d=true:=by
 cases h with
 |put Y h2=>simp[Ee,Fh,fL Y,wH h2]
 |move Y h2 h3=>simp[Ee,Fh,fL Y,fL h2,wH h3]
 |drop Y=>simp[Ee,Fh,fL Y]
 |write Y h2=>simp[Ee,Fh,fL Y,a5f h2]
 |cut Y=>simp[Ee,Fh,fL Y]
 |set Y=>simp[Ee,Fh,fL Y]
 |undo Y=>simp[Ee,Fh,tU Y]
 |redo Y=>simp[Ee,Fh,tU Y]
abbrev Vv:Ag->Option Fl:=(sSeq we!
 (sSeq we_
 (sSeq wf!
 (sSeq wf_
 (sSeq wg_
 wh!)))))
end K20
namespace K20
open PySem L2 DL
open Classical
inductive Sv(W:OW)(n:D):D->OW->Prop
 |put {a b:D} {rows':n_}:Bm a->Jq b->Pn W.rows n fg! b rows'->Sv W n fk_ e5_
 |mvY {a b c:D} {rows':n_}:Bm a->Bm b->Jq c->Bf_->Pn W.rows a b c rows'->Sv W n hh! {W with rows:=rows'}
 |mvN {a b c:D}:Bm a->Bm b->Jq c->¬Bf_->Sv W n hh! W
 |drY {a:D} {rows':n_}:Bm a->Bg!->Pn W.rows a binn .non rows'->Sv W n hh_ {W with rows:=rows'}
 |drN {a:D}:Bm a->¬Bg!->Sv W n hh_ W
 |wrt {a b:D} {s:Str} {h m:Int}:Bm a->Kh b->ar_<=16->n=.tup cd_->Sv W n hi! (if a∈W.its then setT W a Bg_ else W)
 |cut {a:D} {x y z m:Int}:Bm a->0<=z->1<=m->z+m<=16->Sv W n (.tup [.str "cut",a,.tup [.int x,.int y,.int z],.int m]) (if a∈W.its then setT W a (cutT ((List.range m.toNat).map λk=>.tup kf_) af!)else W)
 |set {a:D} {p v:Int}:Bm a->0<=p->p<=3->Sv W n kM_ (if a∈W.its then Xw W a p0! else W)
def bT(h:Bm x):∃k,Da x=some k:=by
 obtain rfl|rfl|⟨a,b,rfl,_⟩:=h
 .exact K!
 .exact K!
 .exact K!
def sX(h:Jq x):∃k,Da x=some k:=by
 obtain rfl|⟨a,b,rfl,_⟩:=h
 .exact K!
 .exact K!
def b0y(h:Kh x):∃k,Da x=some k:=by
 obtain rfl|⟨a,b,c,rfl,_⟩:=h
 .exact K!
 .exact K!
structure Us(W:OW)(pre:e!):Prop where
 inv:Bx W
 its:∀x∈W.its,x∈pre
 sgs:∀x∈W.its,∀q∈W.txt x,∃h n k,q.1=.tup Bh_/\D.tup bL!∈pre
 chr:∀x∈W.its,∀q∈W.txt x,∃c:Nat,q.2.1=.str aj!
section
def nQ{s:Str}(hq:q∈s.cps.toList.zipIdx.map d1!):∃c k:Nat,q=(.tup p0_,.str aj!,true):=by obtain⟨⟨c,k⟩,_,rfl⟩:=KY.mp hq;exact⟨c,k,rfl⟩
def a8c(h n:Int):∀(cs:o!) (k0:Nat),(((Bi!).map c_)).Nodup/\∀k:Nat,k<k0->D.tup p0_∉(Bi!).map c_
 |[],k0=>by simp
 |c::cs,k0=>by
  obtain⟨Y,h2⟩:=a8c h n cs (k0+1);refine⟨LA.mpr ⟨h2 k0 a!,Y⟩,λk hk z=>?_⟩;obtain z|z:=KG.mp z
  .simp[sgn]at z;omega
  .exact h2 k a! z
def b3u{h m:Int}(hs:Bk_)(w:fr!)(hn:Bl!):Us W' Bl_:=by
 have keep:∀{V:OW},V.its=W.its->V.txt=W.txt->Bx V->Us V Bl_:=λ{V} e1 e2 wi=>by
  refine⟨wi,aE!,kO!,kO!⟩
  .rw[e1]at hx;exact LD _ Bm!
  .rw[e1]at hx;rw[e2]at hq;obtain⟨a,b,c,e,hm⟩:=w.sgs x hx q hq;exact⟨a,b,c,e,LD _ hm⟩
  .rw[e1]at hx;rw[e2]at hq;exact w.chr x hx q hq
 cases hs with
 |put y1 y2 hg=>
  rename_i a b rows';have ni:D.tup cd_∉W.its:=λz=>hn (w.its _ z);have hp:Et W fg!:=by split;assumption;exact .inr gt_
  have im:∀x,x∈(Bm_).its↔x∈W.its\/x=.tup cd_:=λx=>by simp[Jj]
  have tx:∀x,(Bm_).txt x=if x=.tup cd_ then[]else W.txt x:=λx=>rfl
  refine⟨hg.winv_put w.inv ni Bn! hp,aE!,kO!,kO!⟩
  .obtain z|rfl:=(im x).mp hx
   .exact LD _ (w.its x z)
   .simp
  .rw[tx]at hq;by_cases e:x=.tup cd_
   .rw[KM e]at hq;cases hq
   .rw[KN e]at hq;obtain⟨a,b,c,e',hm⟩:=w.sgs x Bn_ q hq;exact⟨a,b,c,e',LD _ hm⟩
  .rw[tx]at hq;by_cases e:x=.tup cd_
   .rw[KM e]at hq;cases hq
   .rw[KN e]at hq;exact w.chr x Bn_ q hq
 |mvY _ _ _ hc hg=>exact keep rfl rfl Bo_
 |mvN _ _ _ hc=>exact keep rfl rfl w.inv
 |drY _ hc hg=>exact keep rfl rfl Bo_
 |drN _ hc=>exact keep rfl rfl w.inv
 |wrt y1 y2 y3 e=>
  rename_i a b s h' m';cases e;by_cases c:a∈W.its
  .rw[KM c];obtain⟨U,v,e1,e2,e3⟩:=pK b fq! af!;have mem:∀q,q∈wrT b fq! af!↔q∈W.txt a\/q∈s.cps.toList.zipIdx.map kM!:=λq=>by
    rw[e2,e1];simp only[KR];constructor<;>(intro z;rcases z with(z|z)|z<;>simp[z])
   have fresh:∀x∈W.its,∀q∈W.txt x,∀k:Int,q.1≠.tup [aP!,d0_,hf_]:=λx hx q hq k z=>by
    show"!W";rw[e']at z;cases z;exact hn hm
   have tx:∀x,(Bp_).txt x=if x=a then wrT b fq! af! else W.txt x:=λx=>rfl
   have all:∀(P:fb_),(∀x∈W.its,∀q∈W.txt x,P q)->(∀q∈s.cps.toList.zipIdx.map kM!,P q)->∀x∈W.its,∀q∈(Bp_).txt x,P q:=λP Y h2 x hx q hq=>by
    rw[tx]at hq;by_cases e:x=a
    .rw[KM e]at hq;obtain z|z:=(mem q).mp hq
     .exact Y a c q z
     .exact h2 q z
    .rw[KN e]at hq;exact Y x hx q hq
   refine⟨pN w.inv c ?_ dZ! pk_,λx hx=>LD _ Bm!,all _ (λx hx q hq=>?_) dZ!,all _ w.chr dZ!⟩
   .rw[e2];have nd:=w.inv.snd a c;rw[e1]at nd;obtain⟨n1,_⟩:=a8c h m s.cps.toList 0;have dj:∀q∈W.txt a,∀q'∈s.cps.toList.zipIdx.map kM!,q.1≠q'.1:=λq hq q' a7=>by
     obtain⟨c',k',rfl⟩:=nQ a7;exact fresh a c q hq _
    simp only[LL]at nd ⊢;rw[LX]at nd;rw[LX,LX];refine⟨⟨nd.1,n1,jW!⟩,nd.2.1,jW!⟩
    .obtain⟨q,hq,rfl⟩:=KY.mp hx;obtain⟨q',a7,rfl⟩:=KY.mp hy;exact dj q (by rw[e1];exact LD _ hq) q' a7
    .obtain hx|hx:=KR.mp hx
     .exact nd.2.2 x hx y hy
     .obtain⟨q',a7,rfl⟩:=KY.mp hx;obtain⟨q,hq,rfl⟩:=KY.mp hy;exact LQ (dj q (by rw[e1];exact KJ _ hq) q' a7)
   .obtain z|z:=(mem q).mp hq
    .exact w.inv.sg a c q z
    .obtain⟨c',k',rfl⟩:=nQ z;exact zM!
   .obtain z|z:=(mem q).mp hq
    .exact(w.inv.su a c y hy q z q' a7 e).symm
    .obtain⟨c',k',rfl⟩:=nQ z;exact absurd e.symm (fresh y hy q' a7 _)
   .show"!W";exact p1_
   .obtain⟨c',k',rfl⟩:=nQ hq;exact⟨_,_,_,rfl,Q_⟩
   .obtain⟨c',k',rfl⟩:=nQ hq;exact K!
  .show"!y"
 |cut y1 y2 y3 y4=>
  rename_i a x y z m';by_cases c:a∈W.its
  .rw[KM c];have tx:∀v,(setT W a (cutT Bq! af!)).txt v=if v=a then cutT Bq! af! else W.txt v:=λx=>rfl
   refine⟨b2z w.inv c _,λv hv=>LD _ (w.its v hv),Bq_,Bq_⟩
   .rw[tx]at hq;split at hq
    .show"!X";obtain⟨a',b',c',e',hm⟩:=w.sgs a c q0 h0;exact p1_
    .obtain⟨a',b',c',e',hm⟩:=w.sgs v hv q hq;exact p1_
   .rw[tx]at hq;split at hq
    .show"!X";exact w.chr a c q0 h0
    .exact w.chr v hv q hq
  .show"!y"
 |set y1 y2 y3=>
  rename_i a p v;by_cases c:a∈W.its
  .rw[KM c];exact keep rfl rfl (b1a w.inv (by rw[PB];exact w.inv.nl a c))
  .show"!y"
end
def b7h:(Str.ofString "put"==Str.ofString "put")=true:=by decide+kernel
def a0b:(Str.ofString "move"==Str.ofString "move")=true:=by decide+kernel
def a0c:(Str.ofString "drop"==Str.ofString "drop")=true:=by decide+kernel
def a3f:(Str.ofString "write"==Str.ofString "write")=true:=by decide+kernel
def b7i:(Str.ofString "cut"==Str.ofString "cut")=true:=by decide+kernel
def b7g:(Str.ofString "set"==Str.ofString "set")=true:=by decide+kernel
section
def ifT{R:q_}(h:Br!)(k:q1 ρ M R):Ap (Db ft) q1 q2 ρ M R:=by simp only[Ap,Db,h];exact k
def iT{R:q_}(h:Bs!)(k:d5_):Ap (Db ft) q1 q2 ρ M R:=by simp only[Ap,Db,h];exact k
def bB:(fT (f2 Ax bn! (fC p3!))) [ab_,bf!,some fs!]=some kQ_:=by
 have e:Ai fs! I!=some T!:=by
  show p3_;show"#1";simp
 simp[fT,f2,Aa,fC,e,gK]
def ix1:Ai p4! a7_=some a:=by show De (D.str k::a::r) 1=_;unfold De Ec;rw[aI!,p4_];simp
def ix2:Ai p5! bz_=some b:=by show De (D.str k::a::b::r) 2=_;unfold De Ec;rw[aI!,p4_];simp
def ix3:Ai p5_ bA_=some c:=by show De (D.str k::a::b::c::r) 3=_;unfold De Ec;rw[aI!,p4_];simp
def ax1:f2 Ai A_ u_ [ab_,bf!,some p4!]=some a:=ix1
def ax2:f2 Ai A_ aC! [ab_,bf!,some p5!]=some b:=ix2
def ax3:f2 Ai A_ aw! [ab_,bf!,some p5_]=some c:=ix3
def av0:Aa 0 Bt!=some W!:=rfl
def av1:Aa 1 Bt!=some n:=rfl
def gQ{R:q_}(k:f ρ M λ_ M1=>R S_ M1):Bq f ρ M R:=k
def uA{fo f1 f2 f3:o_}(h0:Bt_)(Y:fe_)(h2:hb!)(h3:p6!)(ho:k2!)(k:g [d,a,b,c] M R):Av C m 4 g cG! Bu! ρ M R:=by simp only[Av,wl,Ab,Ad,h0,Y,h2,h3];exact px!
def d0q{fo f1 f2 f3 f4:o_}(h0:Bt_)(Y:fe_)(h2:hb!)(h3:p6!)(h4:Bu_)(ho:k2!)(k:g [d,a,b,c,e] M R):Av C m 5 g cG! p6_ ρ M R:=by simp only[Av,wl,Ab,Ad,h0,Y,h2,h3,h4];exact px!
def c1e{h m:Int}(hO:ak!)(w:fr!)(hn:Bl!)(hs:Bk_)(hB:g7!)
  (hR:∀M' O',Bl t M' o O' W' bt!->Fr M O M' O'->R .non M'):Mw t [aX_,.tup cd_,d] M R:=by
 have fresh:∀x∈W.its,∀k':Nat,D.tup [aP!,d0_,zI_]∉(br_).map c_:=λx hx k' z=>by
  show"#?";show"!W";rw[e']at e;cases e;exact hn hm
 refine h!;cases hs with
 |put ha J hg=>
  show"!2";obtain⟨kb,kh⟩:=sX J;refine ifT (bB.trans (congrArg some b7h)) ?_;exact gQ (uA av0 av1 ax1 ax2 di_ (c5w hO w.inv (λz=>hn (w.its _ z)) Bn! bn kh hB hg hR))
 |mvY ha J bz hc hg=>
  show"!L";exact gQ (uA av0 ax1 ax2 ax3 di_ (rY hO w.inv bn kh yt hB λM' f1 _ fr=>hR M' O Bv_ fr))
 |mvN ha J bz hc=>
  show"!L";exact gQ (uA av0 ax1 ax2 ax3 di_ (rY hO w.inv bn kh yt hB λM' _ f1 fr=>hR M' O (f1 hc) fr))
 |drY ha hc hg=>
  show"!x";exact gQ (uA av0 ax1 rfl rfl di_ (rY hO w.inv bn (kx:=p7!) rfl (ks:=none) rfl hB λM' f1 _ fr=>hR M' O Bv_ fr))
 |drN ha hc=>
  show"!x";exact gQ (uA av0 ax1 rfl rfl di_ (rY hO w.inv bn (kx:=p7!) rfl (ks:=none) rfl hB λM' _ f1 fr=>hR M' O (f1 hc) fr))
 |wrt ha J db e=>
  cases e;show"!2";obtain⟨kb,kh⟩:=b0y J;show"!/";refine ifT (bB.trans (congrArg some a3f)) ?_;exact gQ (d0q av0 av1 ax1 ax2 ax3 di_ (b3j hO w.inv bn kh hB db fresh λM' f1 _ fr=>hR M' O f1 fr))
 |cut ha b5 Y h2=>
  show"!2";show"!/";refine iT E_ ?_;refine ifT (bB.trans (congrArg some b7i)) ?_;exact gQ (uA av0 ax1 ax2 ax3 di_ (c8n hO w.inv bn hB b5 Y h2 λM' f1 fr=>hR M' O f1 fr))
 |set ha Y h2=>
  show"!2";show"!/";refine iT E_ ?_;refine iT E_ ?_;refine ifT (bB.trans (congrArg some b7g)) ?_;exact gQ (uA av0 ax1 ax2 ax3 di_ (vJ hO w.inv bn Y h2 λM' f1 fr=>hR M' O (f1.mono a!) fr))
def c1f{k:Str}(hk:By!)(hR:R .non M):Mw t [aX_,n,.tup p7_] M R:=by
 refine h!;obtain rfl|rfl:=hk
 .show"!/";show"!/";exact hR
 .show"!/";show"!/";exact hR
end
section
def cG(b:D->Bool)(y:D->D)(d6:ck M):∀(ds:e!) (R:AY_),
  (∀d∈ds,∃ak,bnd d ρ=some ak/\(∀K:Bool->Mh->Prop,K (b d) M->ft ak M K)/\(b d=true->∀K:D->Mh->Prop,K (y d) M->fe ak M K))->R ((ds.filter b).map y) M->Qp bnd ck ft fe ρ ds M R
 |[],R,_,hR=>⟨d6,hR⟩
 |d::ds,R,h,hR=>by
  obtain⟨ak,e1,e2,e3⟩:=h d KD;refine p8!;rw[e1];refine e2 _ ?_;cases J:b d with
  |true=>
   refine e3 J _ (cG b y d6 ds _ BA! ?_);rw[NE J]at hR;exact hR
  |false=>
   refine cG b y d6 ds _ BA! ?_;rw[NG (by simp[J])]at hR;exact hR
end
structure Op where
 h:Int
 n:Int
 tm:Int
 d:D
nonrec def Op.v(o:Op):D:=.tup kS!
nonrec def Op.nm(o:Op):D:=.tup [hp!,.int o.n]
nonrec def Op.key(o:Op):Int×Int:=(o.tm,o.h)
def Hd:D->Option b7!
 |.tup [.str k,a]=>if p8_ then some (k,a)else none
 |_=>none
def wD(k:Str)(a:D):Hd (.tup p7_)=if p8_ then some (k,a)else none:=rfl
def sI(h:DG d):(∃k a,d=.tup p7_/\BA_/\NameG a/\Hd d=some (k,a))\/(∃k r,d=.tup dg_/\hp_=false/\(k=="redo")=false/\Hd d=none):=by
 have uu:qa!=true:=by decide+kernel
 have rr:qa_=true:=by decide+kernel
 cases h with
 |put Y h2=>exact .inr hq!
 |move Y h2 h3=>exact .inr hq!
 |drop Y=>
  refine .inr ⟨_,_,rfl,i_,i_,?_⟩;rfl
 |write Y h2 h3 h4 h5=>exact .inr hq!
 |cut Y h2 h3 h4=>exact .inr hq!
 |set Y h2 h3 h4=>exact .inr hq!
 |undo Y=>
  refine .inl ⟨_,_,rfl,cj_,Y,?_⟩;rfl
 |redo Y=>
  refine .inl ⟨_,_,rfl,.inr rfl,Y,?_⟩;rfl
def a0d(o:Op):Dg d6!=some BB_:=by simp[Dg,Ke,Op.v,Ce,Bd,As,Ac,Ae,f2,Aa,fC,Ai,De,Ec]
def uM:∀ops:List Op,Mv Dg d6_=some qb!
 |[]=>rfl
 |o::r=>by
  rw[KL];unfold Mv;rw[a0d,uM r];rfl
def d0x(o:Op):Ii Dg o.v=o.key:=by unfold Ii;rw[a0d];rfl
def a3q{k:BC!}(h:BC_)(x:α):∀l:List α,Qn k' (f x) fF_=(Qn k x l).map f
 |[]=>rfl
 |y::r=>by
  simp only[KL,Qn,h];split
  .rfl
  .rw[a3q h x r];rfl
def sV{k:BC!}(h:BC_):∀l:List α,Jc k' fF_=(Jc k l).map f
 |[]=>rfl
 |x::r=>by rw[KL];unfold Jc;rw[sV h r,a3q h]
abbrev Hz(ops:l_):List Op:=Jc Op.key ops
def lO(nd:d7!)(hl:d7_):Dl ce!=some (.lst hq_):=by
 have e:BQ Dg d6_=some hq_:=by
  unfold BQ;rw[uM];show(if(qb!).Nodup/\(d6_).length<64 then some _ else none)=_;rw[KM ⟨nd,kA!⟩,sV d0x]
 simp[Dl,Qd,Ce,Bd,Vn,Aa,e]
def qU(h:a.Perm b)(nd:BD!):Hz a=Hz b:=
 nO (jG nd) (jG ((h.map _).nodup_iff.mp nd)) ((cI a).trans (h.trans (cI b).symm))
def b3w(nd:BD!):Hz (Hz a)=Hz a:=qU (cI a) (((cI a).map _).nodup_iff.mpr nd)
def c4c{o:Op}(h:DG o.d):Aw d6!=some qd!:=by
 have e3:Ai o.v bA_=some o.d:=by
  simp[Op.v,Ai,De,Ec]
 have main:∀(k:Str) (r:e!),o.d=.tup dg_->Aw d6!=some (.bl p8_):=λk r e=>by
  have e0:Ai fs! I!=some T!:=by
   show p3_;show"#1";simp
  have e1:∀s:Str,f2 Ax iZ! pV_ [J_]=some (.bl (k==s)):=λs=>by
   show(qd_).bind BG!=_;rw[e3,e];show(BK_).bind BG!=_;rw[e0];exact gK k s
  show(match Bd (Ex _ _) [J_]with|some (.rt d)=>some d|some (.nx _)=>some .non|none=>none)=_;unfold Bd Ex fT;rw[e1,e1];cases (k==Str.ofString "undo")<;>rfl
 obtain⟨k,a,e,hk,_,hu⟩|⟨k,r,e,Y,h2,hu⟩:=sI h
 .rw[main k [a] e,hu];obtain rfl|rfl:=hk
  .rw[BJ_];rfl
  .rw[BK!,(show(Str.ofString "redo"==Str.ofString "undo")=false by decide+kernel)];rfl
 .rw[main k r e,hu,Y,h2];rfl
def Na(f:Str->D):List Op->List am!->List am!
 |[],acc=>acc
 |o::os,acc=>match Hd o.d with
  |some (k,a)=>Na f os (Br acc a (f k))
  |none=>Na f os acc
def sO:∀(os:l_) (A B:n_),(∀x,(kget A x=none/\kget B x=none)\/∃k:Str,kget A x=some T!/\kget B x=some fu!)->
  ∀x,(kget BL! x=none/\kget BL_ x=none)\/∃k:Str,kget BL! x=some T!/\kget BL_ x=some fu!
 |[],A,B,h=>h
 |o::os,A,B,h=>by
  unfold Na;cases e:Hd o.d with
  |none=>exact sO os A B h
  |some q=>
   obtain⟨k,a⟩:=q;refine sO os _ _ λx=>?_;by_cases c:a=x
   .subst c;rw[iU,iU];exact .inr ⟨k,rfl,rfl⟩
   .rw[mR c,mR c];exact h x
section
def iH(h:bt_)(hk:aP_)(hl:cJ!):Ko M x_ y v=some fu_:=by simp[Ko,h,hk,hl]
def wW(h:NameG x):∃k,Da x=some k:=by obtain⟨a,b,rfl,_⟩:=h;exact K!
def d1i:Aa 1 qf!=some x_:=rfl
def zJ:∀(os:l_) (x1:D) (y:X!) (acc:n_) (ep:Nat) (M:Mh) (R:q_),qf_->cL!+aQ!<1000->M p=some qg!->
  (∀M' bf y',M' p=some (.dct BM! bf)->kU!->R BM_ M')->
  Hx bD_ ad! uD_ au! qf! M R
 |[],x1,y,acc,ep,M,R,_,_,hp,hR=>BN!
 |o::os,x1,y,acc,ep,M,R,hd,hl,hp,hR=>by
  refine aO_;show Ap (Db _) _ _ bO! M _;have ho:=hd o KD;have et:fT (f1 Aw bD!) bO!=some (qc_).isSome:=by
   have e:f1 Aw bD! bO!=some qd!:=c4c ho;unfold fT;rw[e];rfl
  simp only[KO]at hl;have e3:Ai o.v bA_=some o.d:=by simp[Op.v,Ai,De,Ec]
  obtain⟨k,a,e,hk,fh,hu⟩|⟨k,r,e,Y,h2,hu⟩:=sI ho
  .rw[hu]at et;refine ifT et ?_;obtain⟨ka,j5⟩:=wW fh;have i0:f2 Ai bm_ F_ bO!=some T!:=by
    show qd_=_;rw[e3,e];show De [D.str k,a] 0=_;simp[De,Ec]
   have i1:f2 Ai bm_ u_ bO!=some a:=by
    show BO!;rw[e3,e];show De [D.str k,a] 1=_;simp[De,Ec]
   have oo:Ko M x_ a T!=some BP_:=by
    exact iH hp j5 br!
   have:=zJ (p:=p) os x1 d8_ BO_ BP! BP_ R hr_ (by have:=kput_len acc a T!;omega) mup_same (λM' bf y' Y h2=>hR M' bf y' BQ! λb J=>(qi_).trans qi!);simp only[Cb,wl,i0,i1,d1i,oo,Ed];exact this
  .rw[hu]at et;refine iT et ?_;exact zJ (p:=p) os x1 d8_ acc ep M R hr_ a! hp BQ_
def a0n(h:f ρ=some b3_):Ek f ρ=some ds:=by unfold Ek;rw[h];rfl
def vQ(nd:d7!)(hl:d7_)(hd:hs!)
  (hR:∀p M' ep,M p=none->M' p=some (.dct kV! ep)->kU!->R x_ M'):Gf ce! M R:=by
 refine h!;intro p hp;have hi:Ek nu_ qj_=some hq_:=a0n (lO nd hl);have bu:(a0!).Perm ops:=cI ops;have:=zJ (p:=p) a0! hs_ none [] 0 d8! (λr M1=>match r with|.nx ak=>At m_ ak M1 g2_|.rt d=>R d M1) BR_ BS! mup_same BS_;show Af (Dp (Ip _) _ _) _ qj_ _ _;simp only[Af,Dp,Ip,hi,Ed];exact this
def t2(ha:∀K':D->Mh->Prop,K' d M->fa ρ M K')(J:fb ρ=some v)(hg:g d v=some bk!)(k:K b M):wT (w2 (λ_=>g) fa kV_) ρ M K:=by refine ha _ ?_;simp only[wl,J,hg];exact k
def Undn(wd:n_)(o:Op):Prop:=Hd o.d=none/\kget wd o.nm=some bV!
def a8a(o:Op):Bf o.v none (some 2)=some o.nm:=by simp[Op.v,Op.nm,Bf,Dm,HT.sIx]
def a6f(o:Op):∃k,Da o.nm=some k:=K!
def a7v(qw:p≠q):∀(os:l_) (x1:D) (y z:X!) (acc:n_) (ep:Nat) (M:Mh) (R:q_),qf_->cL!+aQ!<1000->M p=some (.dct wd e0)->M q=some qg!->(∀x v,kget wd x=some v->∃k:Str,v=.str k)->
  (∀M' bf y' z' dq,M' q=some BT_->(∀x,kget dq x≠none↔(kget acc x≠none\/∃o∈os,o.nm=x/\Undn wd o))->BU!->R (.nx [O!,ac_,bi!,y',z']) M')->
  Hx L_ ad! i2_ au! [O!,ac_,bi!,y,z] M R
 |[],x1,y,z,acc,ep,M,R,_,_,hp,hq,kj,hR=>⟨trivial,hR M ep y z acc hq BU_ λb _=>rfl⟩
 |o::os,x1,y,z,acc,ep,M,R,hd,hl,hp,hq,kj,hR=>by
  refine aO_;show Af (Al 4 _) _ BV_ M _;have ho:=hd o KD;simp only[KO]at hl;have es:Ey C_ Ay cX! BV_=some o.nm:=a8a o;simp only[Af,Al,wl,es];show Ap _ _ _ dj! M _;have et:Dd uG! dj!=some (!(qc_).isSome):=by
   have e:f1 Aw dG! dj!=some qd!:=c4c ho;unfold Dd fT;rw[e];rfl
  obtain⟨kn,fm⟩:=a6f o;have next:∀(c:Prop),(c↔Undn wd o)->∀dq bf M',M' q=some BT_->(∀x,kget dq x≠none↔(kget acc x≠none\/(x=o.nm/\c)))->dq.length<=cL!+1->BU!->
    Hx L_ ad! i2_ au! dj! M' R:=λc hc dq bf M' Y h2 h3 h4=>by
   refine a7v (p:=p) (q:=q) (wd:=wd) (e0:=e0) qw os x1 _ _ dq bf M' R hr_ a! ((h4 p qw).trans hp) Y kj λM2 lu y2 z2 acc2 g1 g2 g3=>hR M2 lu y2 z2 acc2 g1 qk! λb J=>(g3 b J).trans (h4 b J);rw[g2,h2];show"!w"
   .rintro((u|⟨u1,u2⟩)|⟨o',u1,u2,u3⟩)
    .exact .inl u
    .exact .inr ⟨o,KD,u1.symm,hc.mp u2⟩
    .exact .inr ⟨o',KA _ u1,u2,u3⟩
   .rintro(u|⟨o',u1,u2,u3⟩)
    .exact .inl (.inl u)
    .obtain rfl|u1:=KG.mp u1
     .exact .inl (.inr ⟨u2.symm,hc.mpr u3⟩)
     .exact .inr ⟨o',u1,u2,u3⟩
  have no:(¬Undn wd o)->Hx L_ ad! i2_ au! dj! M R:=λh=>next False (by simp[h]) acc ep M hq BU_ a! λb _=>rfl;cases hu:Hd o.d with
  |some u=>
   rw[hu]at et;simp only[Ap,Gq,Db,et];exact no λz=>by rw[z.1]at hu;cases hu
  |none=>
   rw[hu]at et;simp only[Ap,Gq,Db,et];have hg:∀(K:T_),K BX! M->Nz m_ a9_ dj! M K:=λK hK=>by
    have c1:Dx M x_=some (p,wd,e0):=by simp[Dx,hp]
    show Ed (Dx M x_) λ_=>Ed (Dx M x_) λq=>Ed (Da o.nm) λ_=>K ((kget q.2.1 o.nm).getD .non) M;rw[c1,fm];exact hK
   have hsd:Sd BX!:=by
    cases e:kget wd o.nm with
    |none=>exact .inl rfl
    |some v=>obtain⟨k,rfl⟩:=kj _ _ e;exact fP k
   have XT:(qk_).getD .non=.str "undo"↔Undn wd o:=by
    unfold Undn;rw[hu];cases e:kget wd o.nm with
    |none=>simp
    |some v=>simp
   refine t2 hg (v:=pM_) rfl (mH hsd (fP _)) ?_;by_cases c:(qk_).getD .non=.str "undo"
   .rw[LG c];have oo:=iH (y:=o.nm) (v:=dt_) hq fm br!;have f2:Aa 2 dj!=some cK_:=rfl;have f4:Aa 4 dj!=some o.nm:=rfl;simp only[Cb,wl,fC,f2,f4,oo,Ed];refine next True (by simp[<-XT,c]) _ _ _ mup_same qk! gU_ λb J=>mup_ne J;by_cases e:o.nm=x
    .subst e;rw[iU];simp
    .rw[mR e];simp[LQ e]
   .rw[KP c];exact no λz=>c (XT.mpr z)
def yF:∀(os:l_) (acc:n_),(∀x v,kget acc x=some v->∃k:Str,v=.str k)->∀x v,kget BM! x=some v->∃k:Str,v=.str k
 |[],acc,h=>h
 |o::os,acc,h=>by
  unfold Na;cases e:Hd o.d with
  |none=>exact yF os acc h
  |some q=>
   obtain⟨k,a⟩:=q;refine yF os _ λx v hx=>?_;by_cases c:a=x
   .subst c;rw[iU]at hx;cases hx;exact⟨k,rfl⟩
   .rw[mR c]at hx;exact h x v hx
def b0t(nd:d7!)(hl:d7_)(hd:hs!)
  (hR:∀q M' ep kq,M q=none->M' q=some (.dct kq ep)->(∀x,kget kq x≠none↔∃o∈ops,o.nm=x/\Undn kV! o)->kX!->R cK_ M'):Li ce! M R:=by
 refine h!;have hc:∀(K:T_),Gf ce! M K->Aj 1 Gf aU! BX_ M K:=λK h=>b6!;refine hc _ (vQ nd hl hd λp M1 ep hp hM1 fr=>?_);intro q hq;have qw:p≠q:=λz=>by rw[<-z,hM1]at hq;cases hq
 have oq:M q=none:=by rw[<-fr q (LQ qw)];exact hq
 have hi:Ek j_ [d9!,ac_,bi!,none,none]=some d6_:=rfl;refine a7v (wd:=ql_) (e0:=ep) qw ops hs_ none none [] 0 _ _ hd a4! ((mup_ne qw).trans hM1) mup_same (yF _ [] λx v h=>by simp[kget]at h) λM' bf y' z' dq Y h2 h3=>?_;refine hR q M' bf dq oq Y qk! λb J=>?_
 .rw[h2];simp[kget]
 .have b1:b≠q:=λz=>J (by rw[z];exact oq);have b2:b≠p:=λz=>J (by rw[z];exact hp);rw[h3 b b1,mup_ne b1,fr b b2]
end
def W0:OW:=⟨[],[],λ_=>[],λ_=>[]⟩
def c5h:Us W0 []:=by refine⟨⟨by simp[W0],dk!,by simp[W0],λx=>by simp[W0],BY!,⟨qm!,BY!⟩,dk!,dk!,dk!,dk!⟩,dk!,dk!,dk!⟩
section
section
def cR(h:cA_)(K:T_):wl f ρ M K=K d M:=by simp only[wl,h]
def FX(C:u0!)(x:Str)(fo:o_)(ρ:Ag)(y:D)(M:Mh)(Q:fv_):Prop:=wl fo ρ M λd M2=>match d with
 |.fn p=>(match M2 p with|some (.obj C' fs)=>C'=C/\bj!<100/\Q B6!|_=>False)
 |_=>False
def nR{R:q_}(h:f ρ M λy M1=>FX C x fo ρ y M1 λM2=>R S_ M2):Ga C x cG! f ρ M R:=h
def kR{R:q_}(h:f ρ M λy M1=>FX C x fo ρ y M1 λM2=>q ρ M2 R):Af (Ga C x cG! f) q ρ M R:=h
def gF(h0:kX_)(hM:M p=some pv_)(hl:bj!<100)(hf:Ih x y fs=fs')(k:Q (mup M p (.obj C fs'))):FX C x fo ρ y M Q:=by unfold FX;rw[cR h0];show(match M p with|some (.obj C' fs)=>C'=C/\bj!<100/\Q (mup M p B5_)|_=>False);rw[hM];subst hf;exact⟨rfl,hl,k⟩
end
def pc{R:BR!}(h:fa ρ=some x)(k:fb ρ M λy M2=>fp ρ M2 λh1 M3=>R ((x,y)::h1) M3):Eg ht_ fb fp ρ M R:=by simp only[Eg,wl,h];exact k
def a6g{α β:Type}{f:α->β}:∀{l:ai_},(fF_).Nodup->∀{x y:α},x∈l->y∈l->f x=f y->x=y
 |[],_,_,_,h,_,_=>by cases h
 |a::l,nd,x,y,hx,hy,e=>by
  rw[KL,LA]at nd;obtain Y|Y:=KG.mp hx<;>obtain h2|h2:=KG.mp hy
  .rw[Y,h2]
  .exact absurd (by rw[<-Y,e];exact KW h2) nd.1
  .exact absurd (by rw[<-h2,<-e];exact KW Y) nd.1
  .exact a6g nd.2 Y h2 e
structure HL(M0 M:Mh)(l:List qm_):Prop where
 cell:∀q∈l,M q.1=some q.2
 nd:(d3_).Nodup
 fr:∀q∈l,M0 q.1=none
 kp:∀b,M0 b≠none->M b=M0 b
variable{M0:Mh}
def HL.new(h:qn!)(J:M b=none):HL M0 qn_ ((b,c)::l):=by
 have h0:M0 b=none:=SK λz=>z ((h.kp b z).symm.trans J);refine⟨d9_,LA.mpr ⟨dh_,h.nd⟩,d9_,λa ha=>(mup_ne (dU ha h0)).trans (h.kp a ha)⟩
 .obtain rfl|hq:=KG.mp hq
  .exact mup_same
  .exact(mup_ne (dU (by rw[h.cell q hq];simp) J)).trans (h.cell q hq)
 .show"#?";have:=h.cell q hq;rw[e,J]at this;cases this
 .obtain rfl|hq:=KG.mp hq
  .exact h0
  .exact h.fr q hq
def HL.put(h:HL M0 M (u++(b,c0)::v)):HL M0 qn_ (u++(b,c)::v):=by
 have nd:=h.nd;rw[LL,KL]at nd;have p:(u.map c_++b::v.map c_).Perm (b::(u.map c_++v.map c_)):=RD;have nb:=(LA.mp (p.nodup_iff.mp nd)).1;have ob:∀q,q∈u++v->mup M b c q.1=M q.1:=λq hq=>mup_ne λz=>nb (by rw[<-z,<-LL];exact KW hq);have a7:∀{c q},q∈u++(b,c)::v->q=(b,c)\/q∈u++v:=λ{c q} hq=>by simpa[or_left_comm]using hq
 have l8:∀q,q∈u++v->q∈u++(b,c0)::v:=λq hq=>KR.mpr ((KR.mp hq).imp_right (KA _));have vd:=h.fr (b,c0) c!;refine⟨d9_,by rw[LL,KL];exact nd,d9_,λa ha=>(mup_ne (dU ha vd)).trans (h.kp a ha)⟩
 .obtain rfl|z:=a7 hq
  .exact mup_same
  .exact(ob q z).trans (h.cell q (l8 q z))
 .obtain rfl|z:=a7 hq
  .exact vd
  .exact h.fr q (l8 q z)
def HL.row(h:qn!)(z1:M r=none)(z2:M f=none)(z3:M p=none)(n1:r≠f)(n2:r≠p)(hr:Hr t M' r f p [])(fr:∀b,b≠r->b≠f->b≠p->M' b=M b):∃kf ef kp ep,Gy [] kf/\Gy [] kp/\HL M0 M' B2_:=by
 obtain⟨kf,ef,kp,ep,hf,hp,K,Kp⟩:=hr.dc;have h3:HL M0 _ B2_:=((h.new (c:=.dct kp ep) z3).new (c:=.dct kf ef) ((mup_ne hr.ne).trans z2)).new (c:=.obj t.B7 oM_) ((mup_ne n1).trans ((mup_ne n2).trans z1));refine⟨kf,ef,kp,ep,K,Kp,?_⟩;have e:∀a,M' a=mup (mup (mup M p x8!) f x7_) r oO! a:=λa=>by
  by_cases c1:a=r
  .rw[c1,mup_same];exact hr.ob
  .rw[mup_ne c1];by_cases c2:a=f
   .rw[c2,mup_same];exact hf
   .rw[mup_ne c2];by_cases c3:a=p
    .rw[c3,mup_same];exact hp
    .rw[mup_ne c3];exact fr a c1 c2 c3
 rw[show M'=_ from funext e];exact h3
def c4p:(kZ!).Nodup:=LA.mpr ⟨by rw[LB];exact b4h,Q_⟩
def c4j:∀q∈qq!,(ql!).isSome=true:=λq hq=>by
 obtain rfl|hq:=KG.mp hq
 .rfl
 .rw[LB.mp hq];rfl
def a5i{R:q_}(h:q1 ρ M λr M1=>match r with|.nx bc=>q2 bc M1 R|.rt d=>R aH_ M1):Af q1 q2 ρ M R:=h
def a8d{fs':Addr->List b7!}{R:q_}(L:HL M0 M (u++[(o,.obj C fs)]))(h0:zX_)(hl:bj!<100)(hf:∀a,Ih x b3! fs=fs' a)(k:∀a M',HL M0 M' (B3_::u++[(o,.obj C (fs' a))])->R S_ M'):Ga C x cG! Gm ρ M R:=nR λa ha=>by
 have L1:=L.new (c:=ea!) ha;exact gF (fs:=fs) (fs':=fs' a) h0 (L1.cell (o,_) c!) hl (hf a) (k a _ (L1.put (u:=B3_::u) (c:=.obj C (fs' a))))
def cS{α:Type}{l:ai_}{a:α}(i:Nat)(h:l[i]?=some a):a∈l:=QY h
def c6w{M':Mh}{f1 p1 f2 p2:u0!}{kf2:n_}{XU tz XV lu:Nat}(L:HL M M' [(a6,.dct [] 0),(a5,.dct [] 0),(a4,.dct [] 0),(a3,.dct [] 0),(r2,.obj t.B7 [("following",.fn f2),("preceding",.fn p2)]),(f2,.dct kf2 XV),(p2,.dct sy lu),(r1,.obj t.B7 [("following",.fn f1),("preceding",.fn p1)]),(f1,.dct XW XU),(p1,.dct XX tz),(a2,.dct B7_ 2),(a1,.dct B8! 2),(o,.obj t.B6 bK_)])(c1:Gy [] XW)(c2:Gy [] XX)(c3:Gy [] kf2)(c4:Gy [] sy):∃O,Bl t M' o O W0 2/\∀b,M b≠none->M' b=M b/\¬O b:=by
 let ad:Vq->Addr
  |.ob=>o
  |.par=>a1
  |.dir true=>a2
  |.dir false=>a3
  |.nums=>a4
  |.wri=>a5
  |.hid=>a6
  |.row x _=>if x=root then r1 else r2
  |.fol x _=>if x=root then f1 else f2
  |.pre x _=>if x=root then p1 else p2
  |.nm _=>o
 have br:¬binn=root:=LQ b4h;have hl:(B9!).map ad=[a6,a5,a4,a3,r2,f2,p2,r1,f1,p1,a2,a1,o]:=by
  simp only[KL,QC,ad,KN br,MU]
 have d:∀{x:D} {b:Bool},(Jr W0).dm b x->b=true/\qs!:=λ{x b} l=>by
  cases b with
  |true=>exact⟨rfl,Or.resolve_left l λz=>by cases z⟩
  |false=>cases l
 have lm:∀r,Js (Jr W0) r->r∈B9!:=λr l=>by
  cases r with
  |row x b=>obtain⟨rfl,rfl|rfl⟩:=d l;exact cS 7 rfl;exact cS 4 rfl
  |fol x b=>obtain⟨rfl,rfl|rfl⟩:=d l;exact cS 8 rfl;exact cS 5 rfl
  |pre x b=>obtain⟨rfl,rfl|rfl⟩:=d l;exact cS 9 rfl;exact cS 6 rfl
  |nm x=>cases l
  |dir b=>cases b;exact cS 3 rfl;exact cS 10 rfl
  |ob=>exact cS 12 rfl
  |par=>exact cS 11 rfl
  |nums=>exact cS 2 rfl
  |wri=>exact cS 1 rfl
  |hid=>exact cS 0 rfl
 have nd:=L.nd;have fr0:∀{l:List qm_},HL M M' l->∀a∈l.map c_,M a=none:=λL a ha=>by obtain⟨q,hq,rfl⟩:=KY.mp ha;exact L.fr q hq
 have A1:ad (.row root true)=r1:=KM rfl;have A2:ad (.row binn true)=r2:=KN br;have A3:ad Ca!=f1:=KM rfl;have A4:ad Ca_=f2:=KN br;have A5:ad Cb!=p1:=KM rfl;have A6:ad Cb_=p2:=KN br;have kr:∀{y z:D},kget qq! root=some y:=KM rfl;have kb:∀{y z:D},kget qq! binn=some z:=(KN b4h).trans pz_;refine⟨Xg ad (Jr W0),⟨ad,rfl,λ_=>UR,λr l=>?_,λr r' l l'=>a6g (by rw[hl];exact nd) (lm r l) (lm r' l')⟩,λb J=>⟨L.kp b J,λ⟨r,l,e⟩=>?_⟩⟩
 .have hc:=L.cell;cases r with
  |ob=>exact⟨_,hc _ (cS 12 rfl),rfl⟩
  |par=>exact⟨_,hc _ (cS 11 rfl),_,_,rfl,KU 2,kr,kb,λi p h=>by cases h⟩
  |dir b=>
   cases b with
   |true=>
    refine⟨_,hc _ (cS 10 rfl),_,_,rfl,KU 2,λx=>⟨fv!,fv!⟩⟩
    .obtain⟨_,rfl|rfl⟩:=d h
     .rw[A1];exact kr
     .rw[A2];exact kb
    .exact(KN λz=>h (.inr (.inl z.symm))).trans (KN λz=>h (.inr (.inr z.symm)))
   |false=>exact⟨_,hc _ (cS 3 rfl),_,_,rfl,LY 2,λx=>⟨λh=>k0_,bT_⟩⟩
  |nums=>exact⟨_,hc _ (cS 2 rfl),_,_,rfl,LY 2,Cd_⟩
  |wri=>exact⟨_,hc _ (cS 1 rfl),_,_,rfl,LY 2,λs v ⟨x,h,_⟩=>by cases h⟩
  |hid=>exact⟨_,hc _ (cS 0 rfl),_,_,rfl,LY 2,λs=>⟨λh=>k0_,λ⟨x,h,_⟩=>by cases h⟩⟩
  |row x b=>
   show"#3"
   .exact⟨_,by rw[A1];exact hc _ (cS 7 rfl),by show _=Es.obj _ [(_,.fn (ad Ca!)),(_,.fn (ad Cb!))];rw[A3,A5]⟩
   .exact⟨_,by rw[A2];exact hc _ (cS 4 rfl),by show _=Es.obj _ [(_,.fn (ad Ca_)),(_,.fn (ad Cb_))];rw[A4,A6]⟩
  |fol x b=>
   show"#3"
   .exact⟨_,by rw[A3];exact hc _ (cS 8 rfl),LY 2,_,_,rfl,c1⟩
   .exact⟨_,by rw[A4];exact hc _ (cS 5 rfl),LY 2,_,_,rfl,c3⟩
  |pre x b=>
   show"#3"
   .exact⟨_,by rw[A5];exact hc _ (cS 9 rfl),LY 2,_,_,rfl,c2⟩
   .exact⟨_,by rw[A6];exact hc _ (cS 6 rfl),LY 2,_,_,rfl,c4⟩
  |nm x=>cases l
 .have:=KW (f:=ad) (lm r l);rw[hl,e]at this;exact J (fr0 L b this)
def zG(hR:∀o O M',M o=none->Bl t M' o O W0 2->qs_->R W! M'):Hn t.B6 1 (Hw t) Ad ρ M R:=by
 refine⟨rfl,λo ho=>h!⟩;have L:HL M (mup M o Ce!) [(o,.obj t.B6 [])]:=HL.new (l:=[]) qt_ ho;generalize mup M o Ce!=M1 at L ⊢;refine kR λa1 ha1=>⟨mup_same,qu!,c4j,c4p,?_⟩
 replace L:=(L.new (c:=ea!) ha1).put (u:=[]) (c:=.dct B8! 2)
 generalize mup (mup _ _ _) a1 _=M2 at L ⊢;refine gF (fs:=[]) (fs':=[cD!]) rfl (L.cell (o,_) (cS 1 rfl)) b! av_ ?_
 replace L:=L.put (u:=[_]) (c:=.obj t.B6 [cD!])
 generalize mup _ o _=M3 at L ⊢;refine kR λa2 ha2=>?_
 replace L:=L.new (c:=ea!) ha2
 refine pc rfl (tY λr1 f1 p1 N1 z1 z2 z3 n1 n2 R1 _ K1=>?_);obtain⟨XW,XU,XX,tz,c1,c2,L⟩:=L.row z1 z2 z3 n1 n2 R1 K1;clear z1 z2 z3 n1 n2 R1 K1;refine pc rfl (tY λr2 f2 p2 N2 z1 z2 z3 n1 n2 R2 _ K2=>?_);obtain⟨kf2,XV,sy,lu,c3,c4,L⟩:=L.row z1 z2 z3 n1 n2 R2 K2;refine⟨L.cell (a2,_) (cS 6 rfl),qu!,c4j,c4p,?_⟩
 replace L:=L.put (u:=[_,_,_,_,_,_]) (c:=.dct B7_ 2)
 generalize mup _ a2 _=M4 at L ⊢;refine gF (fs:=[cD!]) (fs':=[cD!,e6_]) rfl (L.cell (o,_) (cS 8 rfl)) Cf! av_ ?_
 replace L:=L.put (u:=Cf_) (c:=.obj t.B6 [cD!,e6_])
 generalize mup _ o _=M5 at L ⊢;refine a5i (a8d (u:=Cf_) (fs':=λa=>[cD!,e6_,("texts",.fn a)]) L rfl Cg! bs_ λa3 M6 L=>?_);refine a5i (a8d (u:=[_,_,_,_,_,_,_,_,_]) (fs':=λa=>[cD!,e6_,o0_,("numbers",.fn a)]) L rfl Cg_ bs_ λa4 M7 L=>?_);refine a5i (a8d (u:=[_,_,_,_,_,_,_,_,_,_]) (fs':=λa=>[cD!,e6_,o0_,yF_,("written",.fn a)]) L rfl k1! bs_ λa5 M8 L=>?_);refine a8d (u:=[_,_,_,_,_,_,_,_,_,_,_]) (fs':=oF a1 a2 a3 a4 a5) L rfl (by show 5<100;decide) bs_ λa6 M' L=>?_;obtain⟨O,Y,h2⟩:=c6w L c1 c2 c3 c4;exact⟨rfl,hR o O M' ho Y h2⟩
end
inductive Uh:OW->List Op->OW->Prop
 |nil {W:OW}:Uh W [] W
 |cons {W W1 W2:OW} {o:Op} {os:l_}:Sv W o.nm o.d W1->Uh W1 os W2->Uh W hu_ W2
def Pg(wd:n_)(os:l_):List Op:=os.filter λo=>decide (Hd o.d=none/\¬kget wd o.nm=some bV!)
section
def HC(t:Bk):WS:=Af go_ uR!
def a8o{ops:l_}(hq:∀x∈ops,kget kq x.nm≠none↔Undn wd x):∀(os:l_) (x1:D) (y z:X!) (M:Mh) (O:bs!) (W W':OW) (pre:e!) (B:Nat) (R:q_),
  (∀x∈os,x∈ops/\DG x.d)->Ch!->(qv!).Nodup->Bl t M o O W B->Us W pre->Uh W qv_ W'->B+20*aQ!<3900->M q=some (.dct kq e0)->¬O q->
  (∀M' O' y' z',Bl t M' o O' W' (B+20*aQ!)->Ci!->Fr M O M' O'->R (.nx [O!,ab_,bi!,y',z']) M')->
  Hx L_ ad! (HC t) au! [O!,ab_,bi!,y,z] M R
 |[],x1,y,z,M,O,W,W',pre,B,R,_,_,_,hO,w,hr,_,_,_,hR=>by
  cases hr;exact⟨trivial,hR M O y z hO ⟨pre,w⟩ .refl⟩
 |x::os,x1,y,z,M,O,W,W',pre,B,R,hd,hp,nd,hO,w,hr,hB,oq,vm,hR=>by
  refine aO_;show Af (Al 4 _) _ Ci_ M _;obtain⟨hx,jp⟩:=hd x KD;simp only[KO]at hB hR;rw[KL,LA]at nd;have es:Ey C_ Ay cX! Ci_=some x.nm:=a8a x;obtain⟨kn,fm⟩:=a6f x;have yw:Gr true M x.nm cK_=some (.bl (!(kget kq x.nm).isSome)):=by simp[Gr,oq,fm]
  have f4:Aa 4 ea_=some x.nm:=rfl;have uf:Aa 2 ea_=some cK_:=rfl;have f1':Aa 1 ea_=some W!:=rfl;have f3':f2 Ai C_ aw! ea_=some x.d:=by
   show Ai x.v bA_=_;simp[Op.v,Ai,De,Ec]
  show Ap uP! _ _ ea_ M _;simp only[Ap,wT,w2,wl,f4,uf,yw];have hu:=hq x hx;have rest:∀(M1:Mh) (qz:bs!) (W1:OW) (vn:e!),Bl t M1 o qz W1 bt!->Us W1 vn->(∀y∈os,y.nm∉vn)->Uh W1 qv_ W'->Fr M O M1 qz->Hx L_ ad! (HC t) au! ea_ M1 R:=λM1 qz W1 vn Y h2 h3 h4 h5=>
   a8o (o:=o) (q:=q) (kq:=kq) (wd:=wd) (e0:=e0) hq os x1 qx! (some x.nm) M1 qz W1 W' vn bt! R qw_ h3 nd.2 Y h2 h4 a! ((Ck_).1.trans oq) (Ck_).2 (λM' O' y' z' g1 g2 g3=>hR M' O' y' z' (by rw[Cm!];exact g1) g2 (h5.trans g3))
  by_cases c:kget kq x.nm=none
  .rw[c,jr!];have hc:∀(K:T_),Mw t [aX_,x.nm,x.d] M K->Aj 3 (Mw t) uQ! ea_ M K:=λK h=>by
    exact b6!
   refine gQ (hc _ ?_);obtain⟨k,a,e,hk,_,vo⟩|⟨k,r,e,_,_,vo⟩:=sI jp
   .have:Pg wd hv!=Pg wd os:=by unfold Pg;rw[NG (by simp[vo])]
    rw[this]at hr;rw[e];exact c1f hk (rest M O W pre pv! w qy! hr .refl)
   .have hne:¬kget wd x.nm=some bV!:=λz=>absurd c (hu.mpr ⟨vo,z⟩);have:Pg wd hv!=x::Pg wd os:=by unfold Pg;rw[NE (by simp[vo,hne])]
    rw[this]at hr;cases hr with
    |cons hs hr=>
     have w1:=b3u hs w k1_;refine c1e hO w k1_ hs a! λM1 qz Y h2=>rest M1 qz _ _ Y w1 Cn_ hr h2;obtain z|z:=KR.mp z
     .exact hp y dN! z
     .rw[LB]at z;exact nd.1 Co!
  .have hU:=hu.mp c;obtain⟨v,hv⟩:=Option.ne_none_iff_exists'.mp c;rw[hv,Q!];have:Pg wd hv!=Pg wd os:=by unfold Pg;rw[NG (by simp[hU.1,hU.2])]
   rw[this]at hr;exact rest M O W pre pv! w qy! hr .refl
def b1i{ops:l_}(nd:d7!)(nn:Cq!)(hl:d7_)(hd:hs!)(hr:Uh W0 Cq_ W')
  (hR:∀o M' O',M o=none->Bl t M' o O' W' 1500->Cr!->(∀b,M b≠none->M' b=M b/\¬O' b)->R W! M'):Jm t ce! M R:=by
 refine h!;show Af uO! _ BX_ M _;simp only[Af,Al];refine zG λo O M1 ho hO fr=>?_;have hc:∀(K:T_),Li ce! M1 K->Aj 1 Li aU! [d9!,ab_,none,none,none] M1 K:=λK h=>b6!;refine hc _ (b0t nd hl hd λq M2 ep kq hq fg ug ou=>?_);have hi:Ek nu_ Cr_=some hq_:=a0n (lO nd hl);show Dp (Ip _) _ (HC t) Cr_ M2 _;simp only[Dp,Ip,hi,Ed];have hp:(a0!).Perm ops:=cI ops;have vm:¬O q:=λz=>hO.live z hq;have hO2:Bl t M2 o O W0 2:=hO.keep λc hc=>ou c (hO.live hc);have vk:∀x∈ops,kget kq x.nm≠none↔Undn kV! x:=λx hx=>by
  rw[ug];show"!w"
  .rintro⟨y,hy,e,hu⟩;have:y=x:=a6g nn hy hx e;rw[<-this];exact hu
  .exact λh=>⟨x,hx,rfl,h⟩
 refine a8o (t:=t) (wd:=ql_) (e0:=ep) (ops:=ops) vk a0! hs_ none none M2 O W0 W' [] 2 _ (λx hx=>⟨hp.mem_iff.mp hx,hd x Cs!⟩) Ct! Ct_ hO2 c5h hr k3! fg vm λM' O' y' z' g1 g2 g3=>?_;refine hR o M' O' ho (g1.mono k3!) g2 λb J=>?_;obtain⟨e1,e2⟩:=fr b J;have e3:=ou b yT!;have g4:=g3 b Cu! e2;exact⟨by rw[g4.1,e3,e1],g4.2⟩
end
def Pu(f:WE)(ρ:Ag)(M:Mh)(d:D):Prop:=∀K:D->Mh->Prop,K d M->f ρ M K
def Sw(f:WT)(ρ:Ag)(M:Mh)(b:Bool):Prop:=∀K:Bool->Mh->Prop,K b M->f ρ M K
def Qu(g:WF)(ds:e!)(M:Mh)(d:D):Prop:=∀K:D->Mh->Prop,K d M->g ds M K
section
def gY(h:R x):Ed fX_ R:=h
def aQ(h:cA_):Pu (wl f) ρ M d:=λK hK=>by rw[cR h];exact hK
def fB(h:Pu fo ρ M b3!)(hM:M a=some pv_)(hv:fs.lookup x=some v):Pu (Ar C x fo) ρ M v:=λK hK=>by
 refine h _ ?_;have:Gj C x M b3!=some v:=by simp only[Gj,hM,MU,hv]
 rw[this];exact hK
def dS(ha:Pu fa ρ M x)(J:Pu fb ρ M y)(hg:Cv!):Pu (w2 g fa fb) ρ M d:=λK hK=>by
 refine ha _ (J _ ?_);rw[hg];exact hK
def nU(ho:k3_)(ha:Pu fa ρ M y)(J:Pu fb ρ M z)(hp:bt_)(hk:aP_)(hd:(k4!).getD z=d):Pu BF! ρ M d:=λK hK=>by
 have c:Dx M x_=some kS_:=by simp[Dx,hp]
 refine ho _ ?_;rw[c];refine ha _ (J _ ?_);rw[c,hk];show K Cv_ M;rw[hd];exact hK
def a2c(h:Pu f ρ M x)(hg:g M [x]=some d):Pu (w1 g (Ab f Ad)) ρ M d:=λK hK=>by
 refine h _ ?_;show Ed (g M [x]) λd=>K d M;rw[hg];exact hK
def kU{f1:WE}(Y:k4_)(hg:Qu g [a] M d):Pu (Aj 1 g (Ab f1 Ad)) ρ M d:=λK hK=>by
 exact Y _ k5!
def dR{f1 f2:WE}(Y:k4_)(h2:Cw_)(hg:Qu g ag_ M d):Pu (Aj 2 g Cx!) ρ M d:=λK hK=>by
 exact Y _ (h2 _ k5!)
def nV{f1 f2 f3:WE}(Y:k4_)(h2:Cw_)(h3:Pu f3 ρ M c)(hg:Qu g hM! M d):Pu (Aj 3 g (Ab f1 (Ab f2 (Ab f3 Ad)))) ρ M d:=λK hK=>by
 exact Y _ (h2 _ (h3 _ k5!))
def fH{fo f1:WE}(h0:Pu fo ρ M W!)(ho:Dr C m M W!)(Y:k4_)(hg:Qu g [aX_,a] M d):Pu (Av C m 2 g fo (Ab f1 Ad)) ρ M d:=λK hK=>by
 exact h0 _ ⟨ho,Y _ k5!⟩
def kW(h:Pu f ρ M bk!):Sw (wT f) ρ M b:=λK hK=>by unfold wT;exact h _ hK
def gX(h:f ρ=some b):Sw (Db f) ρ M b:=λK hK=>by unfold Db;rw[h];exact hK
def a5p(h:Sw f ρ M b):Sw (Hu f) ρ M (!b):=λK hK=>by unfold Hu;exact h _ hK
def c4m(h:Sw f ρ M b)(h2:b=false->Sw g ρ M c)(e:Cz!):Sw (Vt f g) ρ M c:=λK hK=>by
 refine h _ ?_;cases b with
 |true=>rw[A!,<-e rfl];exact hK
 |false=>rw[Q!];exact h2 rfl K hK
def fA(h:hv_)(k:q bG_ M R):Af qq_ q ρ M R:=by exact h _ k
def dD(h:hv_)(k:R aH_ M):At f ρ M R:=by unfold At;exact h _ k
def mU(h:Cz_)(k:q1 ρ M R):Ap ft q1 q2 ρ M R:=by refine h _ ?_;rw[A!];exact k
def kQ(h:k6!)(k:d5_):Ap ft q1 q2 ρ M R:=by refine h _ ?_;rw[Q!];exact k
def fI(h:k6!)(k:d5_):Af CA! q2 ρ M R:=by exact kQ h k
def yH(h:hm!)(hl:AZ!):As fs ρ=some c5_:=by unfold As;rw[h];show AZ_=_;rw[A0!]
def b4o(h:CA_)(h2:b=false->Pu fb ρ M k6_)(e:Cz!):Pu (Uu fa fb) ρ M k6_:=λK hK=>by
 refine h _ ?_;cases b with
 |true=>rw[fw!]at hK;exact hK
 |false=>exact h2 rfl _ hK
def b4n(hv:CB!)(ho:k3_)(hi:Pu fi ρ M y)(hp:bt_)(hk:aP_)(hl:cJ!)(q:R S_ fu_):Cb fo fi fv ρ M R:=by refine hv _ CB_;rw[iH hp hk hl];exact q
def c0y(h:CA_)(h2:b=true->Pu fb ρ M k6_)(e:b=false->c=false):Pu (Mg fa fb) ρ M k6_:=λK hK=>by
 refine h _ ?_;cases b with
 |true=>exact h2 rfl _ hK
 |false=>rw[fw!]at hK;exact hK
def c0w(Y:hv_)(h2:Pu g ρ M e)(h3:Pu h ρ M k):Pu (Po (Ab f (Ab g (Ab h Ad)))) ρ M (.tup [d,e,k]):=λK hK=>Y _ (h2 _ (h3 _ ⟨CC_,hK⟩))
def c0v(hv:CB!)(ho:k3_)(hi:Pu fi ρ M b8!)(hp:qz_)(hx:Ec xs.length j=some i)(q:R S_ CE!):Cb fo fi fv ρ M R:=by
 refine hv _ CB_;have:Ko M x_ b8! v=some CE!:=by simp[Ko,hp,hx]
 rw[this];exact q
end
section
def b7x(o:Op):∀{l:l_},Oq Op.key l->∃u v,l=u++v/\Qn Op.key o l=u++o::v/\(∀x∈u,Kr o.key x.key=false)/\∀x∈v,Kr o.key x.key=true
 |[],_=>⟨[],[],rfl,rfl,Q_,Q_⟩
 |y::l,h=>by
  unfold Oq at h;rw[NS]at h;unfold Qn;cases e:Kr o.key y.key with
  |true=>
   refine⟨[],y::l,rfl,rfl,Q_,aE!⟩;obtain rfl|hx:=KG.mp hx
   .exact e
   .exact jO e (h.1 x hx)
  |false=>
   obtain⟨u,v,e1,e2,e3,e4⟩:=b7x o h.2;refine⟨y::u,v,by rw[e1];rfl,by rw[e2];rfl,aE!,e4⟩;obtain rfl|hx:=KG.mp hx
   .exact e
   .exact e3 x hx
def d1y(a b c d:Int):HT.lexLt ag_ [c,d]=Kr eh_ (c,d):=by
 rw[OA,sA,HT.lexLt_cons];by_cases h:a=c
 .rw[KM h,HT.lexLt_cons];by_cases h':b=d
  .rw[KM h'];simp[HT.lexLt_nil_nil];omega
  .rw[KN h',LO];dsimp only;omega
 .rw[KN h,LO];dsimp only;omega
def AY(l:l_)(o:Op):Nat->Bool
 |0=>false
 |j+1=>match l[j]? with|some f=>Kr o.key f.key|none=>false
def EJ:Ag->Option Bool:=Cw wi_ wj_
def a8w(hk:k<=at!):EJ [Y!,CI_,J_,k7_]=some (AY l o k):=by
 cases k with
 |zero=>simp[EJ,Cw,fT,f2,Aa,fC,Jz,Cd,AY]
 |succ j=>
  have hj:j<at!:=hk;have e1:l[j]?=some l[j]:=KZ hj;have e2:De CI! qA_=some (ce_).v:=by
   show"#1";simp[hj]
  have e3:Lm 1 ju_ qB_=some (ce_).v:=by
   have:CJ_ - 1=(j:Nat):=by omega
   simp[Lm,f2,Aa,fC,Dq,Cd,this,e2]
  have e4:Ai (ce_).v bz_=some (.int (ce_).tm):=by simp[Op.v,Ai,De,Ec]
  have e5:Ai (ce_).v I!=some (.int (ce_).h):=by simp[Op.v,Ai,De,Ec]
  have e6:Ai o.v bz_=some fx!:=by simp[Op.v,Ai,De,Ec]
  have e7:Ai o.v I!=some cf!:=by simp[Op.v,Ai,De,Ec]
  have e8:CY (.tup [.int (ce_).tm,.int (ce_).h]) BB_=some (.bl (Kr o.key (ce_).key)):=by
   simp[CY,Mp,d1y,Op.key]
  have e9:Jz qB! I!=some w_:=by simp[Jz,Cd]
  have f3:Aa 3 qB_=some qB!:=rfl;have uf:Aa 2 qB_=some o.v:=rfl;simp only[EJ,Cw,fT,f2,f3,fC,QF,e9,As,Ac,Ae,e3,e4,e5,uf,e6,e7,MU,KO,OH,show(0+1+1:Nat)<=1000 by omega,e8,AY,e1]
def a2i{o:Op}{u v:l_}(Y:∀x∈u,Kr o.key x.key=false)(h2:∀x∈v,Kr o.key x.key=true)(R:q_)(hR:R (.nx k8!) M):
  ∀(m:Nat),m<=v.length->∃n,Df (Db EJ) ob_ n [Y!,qC_,J_,some (.int qE_)] M R
 |0,hm=>by
  refine e9_;have et:=a8w (x0:=x0) (o:=o) (l:=u++v) (k:=bP_) c!;have ef:AY aa_ o bP_=false:=by
   cases hu:bP_ with
   |zero=>rfl
   |succ j=>
    have:aa_[j]?=some (u[j]' a!):=by rw[NW a!,KZ a!]
    simp only[AY,this];exact Y _ hw_
  rw[ef]at et;simp only[Df,Db,Nat.add_zero,et];exact hR
 |m+1,hm=>by
  obtain⟨n,hn⟩:=a2i Y h2 R hR m a!;refine CK_;have et:=a8w (x0:=x0) (o:=o) (l:=u++v) (k:=bP_+(m+1)) a4!;have ef:AY aa_ o (bP_+(m+1))=true:=by
   show AY aa_ o (bP_+m+1)=true;have:aa_[bP_+m]?=some (v[m]' a!):=by rw[ML a!,show u.length+m - u.length=m by omega,KZ a!]
   simp only[AY,this];exact h2 _ hw_
  rw[ef]at et;have es:f2 Dq C_ u_ [Y!,qC_,J_,some (.int qF!)]=some (.int qE_):=by
   have:qF! - 1=qE_:=by omega
   show Dq (.int qF!) a7_=_;simp only[Dq,Cd,this]
  simp only[Df,Db,et,MU,Al,wl,es];exact hn
def II:WS:=Af wi! (Af (Jb (Db EJ) ob_) wk_)
def a8x:∀(os:l_) (x0:D) (y z:X!) (acc:l_) (R:q_),Oq Op.key acc->((acc++os).map Op.key).Nodup->cL!+aQ!<1000->
  (∀dq y' z',Oq Op.key dq->dq.Perm (acc++os)->R (.nx [Y!,some (.lst (dq.map Op.v)),y',z']) M)->Hx bD_ ad! II au! [Y!,k8_,y,z] M R
 |[],x0,y,z,acc,R,hs,nd,hl,hR=>⟨trivial,hR acc y z hs c!⟩
 |o::os,x0,y,z,acc,R,hs,nd,hl,hR=>by
  refine aO_;show Af (Al 3 _) _ qF_ M _;obtain⟨u,v,e1,e2,e3,e4⟩:=b7x o hs;simp only[KO]at hl;have el:Nr m8_ qF_=some CL_:=by
   have:f1 Bj dA_ qF_=some CL_:=by
    show Bj [.lst CL!]=_;simp[Bj]
   unfold Nr;rw[this];rfl
  simp only[Af,Al,wl,el];have ao:cL!=bP_+v.length:=by rw[e1,LK]
  rw[ao,e1];refine a2i e3 e4 _ ?_ v.length r!;have ei:Xx 1 C_ A_ k8!=some (.nx [Y!,some (.lst ((k9!).map Op.v)),J_,some qD_]):=by
   have:(aa_).length<big:=by unfold big;rw[LK];omega
   have e3:Aa 3 k8!=some qD_:=rfl;have e2:Aa 2 k8!=some o.v:=rfl;unfold Xx;show(if 0<=(qD!:Int)/\(qD!:Int).toNat<=(qC!).length/\(qC!).length<big then _ else none)=_;rw[KM ⟨p!,Q_,by rw[KQ];exact this⟩];simp
  simp only[Xl,ei,Ed];have hp:(k9!).Perm (acc++[o]):=by rw[e1];simpa using(RD (a:=o) (l₁:=u) (l₂:=v)).trans (List.perm_append_comm (l₁:=[o]) (l₂:=u++v))
  have cm:Oq Op.key k9!:=by
   rw[<-e2];refine uV hs λy hy=>?_;rw[LL,LX]at nd;exact λz=>nd.2.2 _ (KW hy) o.key c! z.symm
  have ny:((CN!).map Op.key).Nodup:=by
   have:(CN!).Perm (acc++o::os):=by
    have:=hp.append_right os;simpa using this
   exact(this.map _).nodup_iff.mpr nd
  exact a8x os x0 _ _ k9! R cm ny (by have:=hp.length_eq;simp at this;simp;omega) λdq y' z' Y h2=>hR dq y' z' Y (h2.trans (by have:=hp.append_right os;simpa using this))
def mZ(nd:d7!)(hl:d7_)(hR:R (.lst hq_) M):Dw ce! M R:=by
 refine h!;show Af iO! (Af (Dp i1_ bD_ II) cq_) CO! M _;have e1:Ma 1 Ae CO!=some (.nx CO_):=by simp[Ma,Ae]
 have e2:Ek j_ CO_=some d6_:=rfl;refine a8x ops _ none none [] _ (jk_) (by simpa using nd) a4! λdq y' z' Y h2=>?_;have:dq=Hz ops:=nO Y (jG nd) (by simpa using h2.trans (by simpa using(cI ops).symm));rw[this];exact hR
end
section
def a3r{neg:Bool}:Gr neg M T! pK_=some (.bl (if neg then ! pL! else pL!)):=by show Gr.inS neg M T! pK_=_;simp[Gr.inS,Ry,Ba,Bu,Gx,Di,a0t]
def IL:WS:=Ap wn_ wo! Bg
def d1g{o:Op}(ho:DG o.d):∃k r,o.d=.tup dg_/\(Hd o.d=none->hp_=false/\(k=="redo")=false)/\(∀u,Hd o.d=some u->r=[u.2]/\k=u.1/\BA_/\NameG u.2):=by
 obtain⟨k,a,e,hk,fh,hu⟩|⟨k,r,e,Y,h2,hu⟩:=sI ho
 .exact⟨k,[a],e,(λz=>by rw[z]at hu;cases hu),(λu og=>by rw[hu]at og;cases og;exact⟨rfl,rfl,hk,fh⟩)⟩
 .exact⟨k,r,e,(λ_=>⟨Y,h2⟩),(λu og=>by rw[hu]at og;cases og)⟩
def b7q{o:Op}(e:o.d=.tup dg_):qd_=some T!:=by
 have e3:Ai o.v bA_=some o.d:=by simp[Op.v,Ai,De,Ec]
 rw[e3,e];show De Bs_ 0=_;show"#1";simp
def a7u{k:Str}(hk:By!):qH!=true:=by
 obtain rfl|rfl:=hk
 .rw[BJ_];rfl
 .rw[BK!];simp
def zK:∀(os:l_) (x1:D) (y:X!) (acc:n_) (ep:Nat) (M:Mh) (R:q_),qf_->cL!+aQ!<1000->M p=some qg!->
  (∀M' bf y',M' p=some (.dct (Na qe_ os acc) bf)->kU!->R BM_ M')->
  Hx bD_ ad! IL au! qf! M R
 |[],x1,y,acc,ep,M,R,_,_,hp,hR=>BN!
 |o::os,x1,y,acc,ep,M,R,hd,hl,hp,hR=>by
  refine aO_;show IL bO! M _;show Ap _ _ _ bO! M _;have ho:=hd o KD;simp only[KO]at hl;obtain⟨k,r,e,hn,hs⟩:=d1g ho;have i0:f2 Ai bm_ F_ bO!=some T!:=b7q e;simp only[Ap,wT,w2,wl,i0,fC,a3r];cases hu:Hd o.d with
  |none=>
   obtain⟨Y,h2⟩:=hn hu;have:qH!=false:=by rw[CR!,CS!,Y,h2];rfl
   rw[this];exact zK (p:=p) os x1 d8_ acc ep M R hr_ a! hp BQ_
  |some u=>
   obtain⟨g1,g2,hk,fh⟩:=hs u hu;rw[a7u hk];obtain⟨ka,j5⟩:=wW fh;have i1:f2 Ai bm_ u_ bO!=some u.2:=by
    have e3:Ai o.v bA_=some o.d:=by simp[Op.v,Ai,De,Ec]
    show BO!;rw[e3,e,g1];show De [D.str k,u.2] 1=_;simp[De,Ec]
   have i2:f2 Ax go! iZ_ bO!=some fu!:=by
    show(f2 Ai bm_ F_ bO!).bind (λx=>Ax x bV!)=_;rw[i0];exact gK k _
   have oo:=iH (y:=u.2) (v:=.bl hp_) hp j5 br!;have:=zK (p:=p) os x1 d8_ CT_ CU! (mup M p (.dct CT_ CU!)) R hr_ (by have:=kput_len acc u.2 fu!;omega) mup_same (λM' bf y' Y h2=>hR M' bf y' (by
    unfold Na;rw[hu];obtain⟨u1,u2⟩:=u;dsimp only at g2 Y ⊢;rw[<-g2];exact Y) λb J=>(qi_).trans qi!)
   simp only[Cb,wl,i1,i2,d1i,oo,Ed];exact this
def a6q(nd:d7!)(hl:d7_)(hd:hs!)
  (hR:∀p M' ep,M p=none->M' p=some (.dct (Na qe_ a0! []) ep)->kU!->R x_ M'):Ls ce! M R:=by
 refine h!;intro p hp;have bu:(a0!).Perm ops:=cI ops;have hc:∀(K:T_),Dw ce! d8! K->Aj 1 Dw aU! qj_ d8! K:=λK h=>b6!;refine hc _ CU_;exact zK (p:=p) a0! hs_ none [] 0 d8! _ BR_ BS! mup_same BS_
end
def Be(q:D×D):D:=.tup [q.1,q.2]
def Cr(q:D×D×Bool):D:=.tup [q.1,q.2.1,.bl q.2.2]
nonrec def k3(rows wt wn:D):List am!:=[(.str "rows",rows),(.str "texts",wt),(.str "numbers",wn)]
section
def c4h:¬(D.str o1_=D.str o2!):=λz=>absurd qI! i_
def c4i:¬(D.str o1_=D.str o2_):=λz=>absurd qI! i_
def c4d:¬(D.str o2!=D.str o2_):=λz=>absurd qI! i_
def k3r:kget hy_ eW!=some a:=by show dY_=_;rw[A!]
def k3t:kget hy_ og!=some b:=by show CW!=_;rw[KN c4h,A!]
def k3n:kget hy_ oj!=some c:=by show(if _ then _ else CW!)=_;rw[KN c4i,KN c4d,A!]
def k3p:Br hy_ eW! v=k3 v b c:=by show dY_=_;rw[A!];rfl
end
def lN{g:D->D}:∀{its:e!} {x:D},kget k9_ x=if x∈its then some (g x)else none
 |[],x=>by simp[kget]
 |i::its,x=>by
  rw[KL];unfold kget;by_cases e:i=x
  .subst e;simp
  .rw[KN e,lN];simp[LQ e]
def a3c{g:D->D}:∀{its:e!},its.Nodup->x∈its->Br k9_ x v=its.map λi=>(i,if i=x then v else g i)
 |[],_,h=>by cases h
 |i::its,nd,h=>by
  rw[LA]at nd;rw[KL,KL];unfold Br;by_cases e:i=x
  .subst e;simp only[MU];congr 1;apply NO;intro j hj;rw[KN λz:j=i=>nd.1 oV_]
  .rw[KN e];simp only[e,MJ];rw[a3c nd.2 ((KG.mp h).resolve_left (LQ e))]
def xD{g:D->D}{its:e!}(h:x∉its):Br k9_ x v=k9_++[(x,v)]:=jP (by rw[MD];simpa using h)
def FP(W:OW)(w wt wn:u0!)(qa:D->Addr)(e0 e1 e2:Nat):List qm_:=(w,.dct qI_ e0)::(wt,.dct CY! e1)::(wn,.dct CZ! e2)::W.its.map λi=>(qa i,.lst fa_)
structure Mf(M:Mh)(w:u0!)(O:bs!)(W:OW)(wt wn:u0!)(qa:D->Addr):Prop where
 L:∃e0 e1 e2,HL m6_ M (FP W w wt wn qa e0 e1 e2)
 O:∀b,O b↔b=w\/b=wt\/b=wn\/∃i∈W.its,qa i=b
def Bp(M:Mh)(w:u0!)(O:bs!)(W:OW):Prop:=∃wt wn qa,Mf M w O W wt wn qa
section
variable{O:Addr->Prop}
section
variable{O:Addr->Prop}
def Mf.mw(h:eb_):∃e,M w=some (.dct qI_ e):=by obtain⟨e0,e1,e2,L⟩:=h.L;exact⟨e0,L.cell _ KD⟩
def Mf.mt(h:eb_):∃e,M wt=some CZ_:=by obtain⟨e0,e1,e2,L⟩:=h.L;exact⟨e1,L.cell _ hz_⟩
def Mf.mn(h:eb_):∃e,M wn=some (.dct CZ! e):=by obtain⟨e0,e1,e2,L⟩:=h.L;exact⟨e2,L.cell _ qJ_⟩
def Mf.mq(h:eb_)(hi:db!):M (qa i)=some (.lst fa_)/\O (qa i):=by obtain⟨e0,e1,e2,L⟩:=h.L;exact⟨L.cell (qa i,_) (KA _ (KA _ (KA _ (KW hi)))),(h.O _).mpr (.inr C0!)⟩
def Bp.live(h:U!)(J:O b):M b≠none:=by
 obtain⟨wt,wn,qa,hA⟩:=h;obtain rfl|rfl|rfl|⟨i,hi,rfl⟩:=(hA.O b).mp J
 .obtain⟨e,h⟩:=hA.mw;rw[h];simp
 .obtain⟨e,h⟩:=hA.mt;rw[h];simp
 .obtain⟨e,h⟩:=hA.mn;rw[h];simp
 .rw[(hA.mq hi).1];simp
def Bp.keep(h:U!)(k:yU_):Bp M' w O W:=by
 obtain⟨wt,wn,qa,hA⟩:=h;obtain⟨e0,e1,e2,L⟩:=hA.L;refine⟨wt,wn,qa,⟨e0,e1,e2,d9_,L.nd,iv_,C0_⟩,hA.O⟩;refine(k _ ((hA.O _).mpr ?_)).trans (L.cell q hq);simp only[FP,KG,KY]at hq;obtain rfl|rfl|rfl|⟨i,hi,rfl⟩:=hq
 .exact cj_
 .exact km!
 .exact .inr ec!
 .exact .inr C0!
def Mf.fr(h:eb_)(J:b=w\/b=wt\/b=wn\/∃i∈W.its,qa i=b):Fr M O qn_ O:=b8f λa ha=>mup_ne λz=>ha (by rw[z];exact(h.O b).mpr J)
end
def eL(h:bt_)(hk:aP_):Bs M x_ y=kget h1 y:=by simp[Bs,h,hk]
def ixw(h0:Aa 0 ρ=some x_)(h:bt_)(hv:kget h1 aZ!=some v)(K:T_):w2 Bs g_ (wl pV_) ρ M K=K v M:=by have:Bs M x_ aZ!=some v:=(eL (k:=some (.inl (.inr s))) h rfl).trans hv;simp only[w2,wl,h0,fC,this]
def sE:Ai hA! I!=some q.1:=by simp[Be,Ai,De,Ec]
def a0e:Ai hA! a7_=some q.2:=by simp[Be,Ai,De,Ec]
def jS(w:Bx W):∀q∈W.rows,Ht q.1/\Sd q.2/\Et W q.2:=λq hq=>⟨w.nm _ ((w.ri q.1).mp (KW hq)),a0j w (w.rp q.1 q.2 hq),w.rp q.1 q.2 hq⟩
end
def b2u(ha:Sd a)(J:Sd b)(hc:Sd c)(hd:Sd d):Ax hA_ C2!=some (.bl (decide (a=c/\b=d))):=by
 unfold Ax;have d1:=jD ha;have d2:=jD J;have e:Ej hA_ C2!=decide (a=c/\b=d):=by
  simp only[Ej,Iu,lP ha hc,lP J hd,Bool.and_true];by_cases Y:a=c<;>by_cases h2:b=d<;>simp[Y,h2]
 rw[e];simp only[Ba,Bu,dQ ha,dQ J,dQ hc,dQ hd,Gx,Di,Bool.and_true,Bool.true_and];rw[KM a4!]
def b9h(h:k<=i!):Bf M! none lb!=some (.lst (xs.take k)):=by
 have e:HT.sIx xs.length xs.length lb!=k:=by rw[HT.sIx_nat];omega
 simp only[Bf];congr 2;unfold Dm;rw[e,HT.sIx_none];simp
def a4k(h:k<=i!):Bf M! lb! none=some (.lst (xs.drop k)):=by
 simp only[Bf];congr 2;have e:HT.sIx xs.length 0 lb!=k:=by rw[HT.sIx_nat];omega
 have e2:HT.sIx xs.length xs.length none=i!:=rfl;unfold Dm;rw[e,e2,C5!]
section
def FU:Ag->Option Bool:=Cw wq! wr_
def c2s{rs:n_}(hk:k<=az!)(hl:qK_)(jd:C3!)(hp:Sd p):FU bQ!=some C3_:=by
 have el:f1 Bj gm! bQ!=some lb_:=by
  show C4!;simp[Bj]
 by_cases c:k<az!
 .have e1:rs[k]?=some rs[k]:=KZ c;have ea:De ec_ cf_=some lc!:=by
   show"#1";simp[c]
  have e3:f2 Ai N! L! bQ!=some lc!:=ea;have e4:Jk hw! lb_=some w_:=by simp[Jk,Cd];exact c
  have e6:Ev (fy_).2 p=some C4_:=zC (jd _ hw_).2 hp;have e7:f2 Ev wq_ A_ bQ!=some C4_:=by
   show((f2 Ai N! L! bQ!).bind λx=>Ai x a7_).bind (λz=>Ev z p)=_;rw[e3];show(Ai lc! a7_).bind _=_;rw[a0e];exact e6
  have e8:f2 Jk L! gI! bQ!=some w_:=by
   show C5_;rw[el];exact e4
  simp only[FU,Cw,fT,e8,e7,QF,MU,e1]
 .have e1:rs[k]?=none:=NB a!;have e4:Jk hw! lb_=some Z!:=by simp[Jk,Cd];omega
  have e8:f2 Jk L! gI! bQ!=some Z!:=by
   show C5_;rw[el];exact e4
  simp only[FU,Cw,fT,e8,QF,e1];rfl
def b9o{rs:n_}(hk:k<az!)(h:chl qL! p=[])(hp:(fy_).2≠p):chl (rs.take M_) p=[]:=by rw[PX hk,eB,h];rw[rK hp];rfl
def a3t{rs:n_}(hl:qK_)(jd:C3!)(hp:Sd p)(R:q_)(hR:∀k:Nat,k<=az!->chl qL! p=[]->R (.nx bQ!) M):
  ∀(m k:Nat),az! - k=m->k<=az!->chl qL! p=[]->∃n,Df (Db FU) ws! n bQ! M R
 |m,k,hm,hk,hc=>by
  have et:=c2s (x0:=x0) (i:=i) (s:=s) (y:=y) hk hl jd hp;by_cases c:k<az!/\(rs[k]?.map R!)≠some p
  .obtain⟨c1,c2⟩:=c;have e1:rs[k]?=some rs[k]:=KZ c1;rw[e1]at et c2;have c3:(fy_).2≠p:=λz=>c2 (by rw[<-z];rfl);rw[show(match(some rs[k]:Option am!)with|some q=>!decide (q.2=p)|none=>false)=true by simp[c3]]at et;cases m with
   |zero=>omega
   |succ m=>
    obtain⟨n,hn⟩:=a3t hl jd hp R hR m M_ a! a! (b9o c1 hc c3);refine CK_;have es:f2 An L! u_ bQ!=some qL_:=by
     show qM!;simp[An]
    simp only[Df,Db,et,MU,Al,wl,es];exact hn
  .refine e9_;have ef:C3_=false:=by
    cases e:rs[k]? with
    |none=>rfl
    |some q=>
     have c1:k<az!:=(KS.mp e).1;have:q.2=p:=by
      by_cases z:q.2=p
      .exact z
      .exact absurd ⟨c1,by rw[e];simp[z]⟩ c
     simp[this]
   rw[ef]at et;simp only[Df,Db,et];exact hR k hk hc
def IS:WS:=Ap wv_ ww_ Bg
def JB(rs:n_)(s p:D)(k0 k at_:Nat):Prop:=(at_=k0/\∀j<k,rs[j]?≠some da_)\/∃j<k,rs[j]?=some da_/\at_=j+1
def a6x(hl:qK_)(jd:∀q∈rs,Sd q.1/\Sd q.2/\q.1≠.non)(hp:Sd p)(hs:Sd s)(R:q_)(hR:∀(a:Nat) y,JB rs s p k0 rs.length a->R (.nx C7!) M):
  ∀(m k a:Nat) (y:X!),az! - k=m->k<=az!->JB rs s p k0 k a->Hx gF! ad! IS C7_ C7! M R
 |0,k,a,y,hm,hk,ha=>⟨trivial,hR a y (by rw[show rs.length=k by omega];exact ha)⟩
 |m+1,k,a,y,hm,hk,ha=>by
  have c1:k<az!:=by omega
  refine aO_;show IS ed! M _;have e1:rs[k]?=some rs[k]:=KZ c1;obtain⟨q1,q2,q3⟩:=jd rs[k] hw_;have ea:f2 Ai N! aD! ed!=some lc!:=by
   show De ec_ cf_=_;show"#1";simp[c1]
  have et:f2 Ax wt_ wu! ed!=some (.bl (decide ((fy_).1=s/\(fy_).2=p))):=by
   show(f2 Ai N! aD! ed!).bind (λz=>Ax z (.tup [s,p]))=_;rw[ea];exact b2u q1 q2 hs hp
  have en:f2 Ao C_ bH_ ed!=some (.bl (!Ci s)):=rfl;have cond:Cw wt! wu_ ed!=some (decide (rs[k]=da_)):=by
   simp only[Cw,fT,en,et,QF];by_cases z:s=.non
   .rw[show Ci s=true from xI.mpr z];have:¬rs[k]=da_:=λy=>q3 (by rw[y];exact z);simp[this]
   .rw[jQ z];simp only[SL,MU];congr 1;rw[decide_eq_decide];exact⟨λy=>Prod.ext y.1 y.2,λy=>by rw[y];exact aJ_⟩
  have es:f2 An aD! u_ ed!=some qL_:=by
   show qM!;simp[An]
  by_cases z:rs[k]=da_
  .refine C8_;exact a6x hl jd hp hs R hR m M_ M_ _ a! a! (.inr ⟨k,p!,by rw[e1,z],rfl⟩)
  .refine iT C9! ?_;refine a6x hl jd hp hs R hR m M_ a _ a! a! ?_;obtain⟨Y,h2⟩|⟨j,Y,h2,h3⟩:=ha
   .refine .inl ⟨Y,jX_⟩;by_cases y:j=k
    .rw[y,e1];exact λx=>z (MN x)
    .exact h2 j a!
   .exact Da_
def a4w(h:U!)(jd:∀q∈W.rows,Sd q.1/\Sd q.2/\q.1≠.non)(hi:Sd i)(hp:Sd p)(hs:Sd s)(hl:ed_<4000)
  (hR:∀M' rows',Pn W.rows i p s rows'->Bp M' w O {W with rows:=rows'}->Fr M O M' O->R .non M'):Iy [bv_,i,p,s] M R:=by
 obtain⟨wt,wn,qa,hA⟩:=h;obtain⟨e,et1,et2,L⟩:=hA.L;have hw:=L.cell _ KD;refine h!;show Af (Al 4 qM_) _ Db_ M _;simp only[Af,Al,Bi,Cv,ixw (ρ:=Db_) rfl hw k3r];refine qN_;have sub:∀q∈wo W.rows i,q∈W.rows:=λq hq=>(oT!).1;have lw:(hd!).length<=ed_:=PQ _ _;refine cG (λd=>match d with|.tup [a,_]=>!decide (a=i)|_=>false) id trivial _ _ aQ_ ?_
 .obtain⟨q,hq,rfl⟩:=KY.mp hd;obtain⟨Y,_,_⟩:=jd q hq;refine⟨qO!,rfl,ld!,De_⟩;have e1:fT wp! qO!=some Df!:=by
   have:f2 Ev aL_ r_ qO!=some (.bl Df!):=by
    show(Df_).bind (λz=>Ev z i)=_;rw[sE];exact zC Y hi
   show"!J"
  simp only[Db,e1];exact hK
 have e2:((hz!).filter λd=>match d with|.tup [a,_]=>!decide (a=i)|_=>false).map id=(hd!).map Be:=by
  rw[RY,PZ];congr 1;apply OX;intro q _;simp[Be]
 rw[e2];generalize XY:wo W.rows i=rs at *;have yx:∀q∈rs,Sd q.1/\Sd q.2/\q.1≠.non:=λq hq=>jd q (sub q hq);refine a3t (M:=M) a! (λq hq=>⟨(yx q hq).1,(yx q hq).2.1⟩) hp _ (λk0 hk0 hc0=>?_) rs.length 0 a! a! (by rw[List.take_zero];rfl);have hr:Ew gI! Dg_=some ((List.range' 0 az!).map λj=>D.int qA_):=by
  have:f1 Bj gm! Dg_=some lb_:=by
   show C4!;simp[Bj]
  unfold Ew;rw[this];show(if -1000<=qP!/\qP!<=100000 then some (Dj (qP!).toNat)else none)=_;rw[aI!];simp[Dj,List.range_eq_range']
 simp only[Dp,Ip,hr,Ed];refine a6x (M:=M) a! yx hp hs _ (λa y ha=>?_) rs.length 0 k0 none a! a! Dh!;have nz:a<=az!:=by
  obtain⟨Y,_⟩|⟨j,Y,_,h3⟩:=ha<;>omega
 have ev:f2 An wx_ wy! fz!=some le!:=by
  have s1:Ey N! Ay eW_ fz!=some qP_:=b9h le_;have s2:Ey N! eW_ Ay fz!=some Di!:=a4k le_;have s3:Dh wx! fz!=some qQ!:=rfl;have a1:An qP_ qQ!=some Di_:=by
   show hk_;rw[lf!]
  have a2:An Di_ Di!=some le!:=by
   show hk_;rw[lf!];simp
  show((Ey N! Ay eW_ _).bind λx=>(Dh _ _).bind λz=>An x z).bind (λx=>(Ey N! eW_ Ay _).bind λz=>An x z)=_;rw[s1,s3,s2];show(An qP_ qQ!).bind (λx=>An x _)=_;rw[a1];exact a2
 have oo:Ko M bw! eW! le!=some (mup M w (.dct Dj_ Dk!)):=by
  rw[iH (k:=Dk_) hw rfl (by show 3<big;decide),k3p]
 have f0:Aa 0 fz!=some bw!:=rfl;have fin:=hR _ Dh_ ⟨rs.take a,rs.drop a,by rw[XY,List.take_append_drop],rfl,?_⟩ ⟨wt,wn,qa,⟨_,et1,et2,L.put (u:=[]) (c:=.dct Dj_ Dk!)⟩,hA.O⟩ (hA.fr an_)
 .show Cb g_ gH_ (wl _) fz! M _;simp only[Cb,wl,ev,f0,fC,oo,Ed];exact fin
 .rw[XY];obtain⟨Y,h2⟩|⟨j,Y,h2,h3⟩:=ha
  .refine .inl ⟨dh_,by rw[Y];exact hc0⟩;obtain⟨j,hj⟩:=QO.mp pC_;exact h2 j (KS.mp hj).1 hj
  .refine .inr ⟨rs.take j,?_⟩;have hj:j<az!:=(KS.mp h2).1;rw[h3,PX hj,(KS.mp h2).2]
end
section
variable{W:OW}
def a6z{rows:n_}(nd:fh_):(rows.filter λq=>decide hD_)=match rows.find? Dl_ with|some q=>[q]|none=>[]:=by
 induction rows with
 |nil=>rfl
 |cons a r ih=>
  rw[KL,LA]at nd;by_cases e:a.1=x
  .rw[NE e2_,List.find?_cons_of_pos e2_];have:r.filter Dl_=[]:=by
    rw[TJ];intro q hq;simp only[LO];exact λz=>nd.1 (by rw[e,<-z];exact KW hq)
   rw[this]
  .rw[NG e2_,List.find?_cons_of_neg e2_,ih nd.2]
def b0n{W:OW}(wi:Bx W)(h:lf_):lg!=[aW!]:=by
 rw[a6z wi.rnd];cases e:W.rows.find? λq=>decide hD_ with
 |none=>have:=List.find?_eq_none.mp e aW! h;simp at this
 |some q=>
  have Y:=List.find?_some e;have h2:=List.mem_of_find?_eq_some e;simp at Y;have:q.2=p:=iQ wi.rnd (by rw[<-Y];exact h2) h;obtain⟨a,b⟩:=q;dsimp only at Y this ⊢;rw[Y,this]
def c9d(wi:Bx W)(h:∀p,aW!∉W.rows):lg!=[]:=by rw[TJ];rintro⟨a,b⟩ hq;simp only[LO];exact λz=>h b oU!
def HD:WS:=Af wA!
 (Af wA_
 (Al 1 gu!))
def xB(h:U!)(wi:Bx W)(hl:ee_)(hi:Ht i){rk:D->Nat}(gw:y6_):∀(n:Nat) (x:D) (y:X!),rk x<n->Et W x->∀(R':q_),(Wn W.rows i x->∀y',R' (.nx [G!,D!,D!,y']) M)->(¬Wn W.rows i x->R' (.rt Z!) M)->
   ∃m,Df of! HD m fB! M R'
 |0,x,y,hn,_,_,_,_=>by omega
 |n+1,x,y,hn,hx,R',r1,r2=>by
  obtain⟨wt,wn,qa,hA⟩:=id h;obtain⟨e0,hw⟩:=hA.mw;have sx:=a0j wi hx;have et:fT ng_ fB!=some qR_:=by
   have:f2 Ev r_ A_ fB!=some (.bl qR_):=zC sx hi.sd;show"!J"
  by_cases e:x=i
  .subst e;refine e9_;simp only[Df,Db,et];exact r1 .here y
  .rw[show qR_=true by simp[e]]at et;have body:∀(K:q_),(y7_->K (.rt Z!) M)->(∀p,aW!∈W.rows->K (.nx [G!,cE!,D!,some qS!]) M)->HD fB! M K:=λK g1 g2=>by
    show Af (Al 3 qM_) _ fB! M _;simp only[Af,Al,Bi,Cv,ixw (ρ:=fB!) rfl hw k3r];refine qN_;refine cG (λd=>match d with|.tup [a,_]=>decide (a=x)|_=>false) (λd=>match d with|.tup [_,p]=>p|_=>.non) trivial _ _ aQ_ ?_
    .show"!9";obtain⟨Y,_,_⟩:=jS wi q hq;refine Dn!
     .have e1:fT jv! cg_=some lh!:=by
       have:f2 Ax aL_ r_ cg_=some (.bl lh!):=by
        show Dn_;rw[sE];exact mH Y.sd sx
       show"!J"
      simp only[Db,e1];exact hK
     .have e1:f2 Ai j_ u_ cg_=some q.2:=a0e;exact hK
    .have e2:(((hz!).filter λd=>match d with|.tup [a,_]=>decide (a=x)|_=>false).map λd=>match d with|.tup [_,p]=>p|_=>.non)=(lg!).map R!:=by
      rw[PZ,MD];rfl
     rw[e2];by_cases c:∃p,aW!∈W.rows
     .obtain⟨p,hp⟩:=c;rw[b0n wi hp];refine iT rfl ?_;have e3:f2 Ai C_ F_ [G!,ay!,D!,some qS!]=some p:=rfl;exact g2 p hp
     .have c':∀p,aW!∉W.rows:=λp z=>c ⟨p,z⟩;rw[c9d wi c'];refine ifT rfl ?_;exact g1 c'
   obtain hx|hx:=hx
   .obtain⟨p,hp⟩:=a5j wi hx;have q:=a5a wi.rnd hp e;have:=gw _ _ hp;have key:∀y',∃m,Df of! HD m [G!,cE!,D!,y'] M R':=λy'=>xB h wi hl hi gw n p y' a! (wi.rp _ _ hp) R' y8! (λz=>r2 λv=>z (q.mp v));obtain⟨m,hm⟩:=key (some qS!);refine⟨m+1,?_⟩;simp only[Df,Db,et,MU];exact body _ (λnt=>absurd hp (nt p)) λp' bu=>by rw[iQ wi.rnd bu hp];exact hm
   .have nt:∀p,aW!∉W.rows:=by
     obtain rfl|rfl:=hx
     .exact lI wi (a8i wi)
     .exact lI wi (b9w wi)
    refine e9_;simp only[Df,Db,et,MU];exact body _ (λ_=>r2 (b3k nt e)) (λp hp=>absurd hp (nt p))
def a4v(h:U!)(wi:Bx W)(hl:ee_)(hx:dc_)(hi:Ht i)(hR:∀b:Bool,(b=true↔Wn W.rows i x)->R bk! M):Hc [bv_,x,i] M R:=by obtain⟨rk,gw⟩:=wi.rk;refine h!;exact xB h wi hl hi gw (rk x+1) x none a! hx _ (λz y'=>hR true hX_) (λz=>hR false hX_)
def a9u(h:bt_)(hk:aP_):Gr neg M y x_=some (.bl (if neg then !(k4!).isSome else(k4!).isSome)):=by simp[Gr,h,hk]
def a9t(hx:Sd x)(ha:Sd a)(J:Sd b):Gr false M x hA_=some (.bl (decide (x=a\/x=b))):=by
 have d1:=jD ha;have d2:=jD J;have e:((ag_).any λd=>Ej d x)=decide (x=a\/x=b):=by
  simp only[PU,List.any_nil,Bool.or_false,lP ha hx,lP J hx];by_cases Y:a=x<;>by_cases h2:b=x<;>simp[Y,h2,LQ]<;>first|exact .inl Y.symm|exact .inr h2.symm|exact⟨λz=>Y z.symm,λz=>h2 z.symm⟩|skip
 show Gr.inS false M x hA_=_;show(if Ba x&&Bu ag_&&decide (Di ag_<=40)then some (D.bl (if false=true then _ else[a,b].any λd=>Ej d x))else none)=_;rw[KM (by simp[dQ hx,Bu,dQ ha,dQ J,Di];omega),e];rfl
def d1o(hx:lh_)(K:T_):w2 g fC! fb ρ M K=fb ρ M λy M2=>match g M2 x y with|some d=>K d M2|none=>False:=by simp only[w2,wl,hx]<;>rfl
def a1l:(Dp_).isSome=decide dd!:=by rw[lN];by_cases h:x∈W.its<;>simp[h]
def oX(h:U!)(h0:ef!)(hx:lh_)(hk:as_)(K:T_):w2 aT! fC! bc_ ρ M K=K yX_ M:=by obtain⟨wt,wn,qa,hA⟩:=h;obtain⟨e0,hw⟩:=hA.mw;obtain⟨e1,ht⟩:=hA.mt;have hi:=ixw (M:=M) (ρ:=ρ) (s:="texts") h0 hw k3t;have e:=a9u (neg:=false) ht hk;rw[show(if false=true then _ else(Dp_).isSome)=decide dd! from a1l]at e;rw[d1o hx,hi,e]
def a4u(h:U!)(wi:Bx W)(hl:ed_<4000)(hi:Sd i)(hx:Sd x)(hs:Sd s)(b9:fa!)(hkx:ph_)
  (hR:∀M' W',(dY!->∃rows',Pn W.rows i x s rows'/\W'={W with rows:=rows'})->(¬dY!->W'=W)->Bp M' w O W'->Fr M O M' O->R .non M'):Iw [bv_,i,x,s] M R:=by
 refine h!;show Ap (Gq (wT _) (Vt (wT _) (wT _))) _ Bg dl_ M _;have g1:=oX (ρ:=dl_) (fx:=Aa 1) h rfl rfl b9;have g2:=oX (ρ:=dl_) (fx:=Aa 2) h rfl rfl hkx;have g3:∀K:D->Mh->Prop,w2 aT! y_ jw_ dl_ M K=K Dq! M:=λK=>by
  have uf:Aa 2 dl_=some x:=rfl;have:=a9t (M:=M) hx (fP "root") (fP "bin");simp only[w2,wl,uf,fC,this]
 have no:(¬dY!)->R .non M:=λc=>hR M W (λz=>absurd z c) (λ_=>rfl) h .refl;have XZ:i∈W.its->Et W x->Ap wD! wE! Bg dl_ M g2_:=λc1 c2=>by
  have hc:∀(K:T_),Hc [bv_,x,i] M K->Aj 3 Hc og_ dl_ M K:=λK h=>b6!;refine hc _ (a4v h wi a! c2 (wi.nm i c1) λb J=>?_);cases b with
  |true=>exact no λz=>z.2.2 qT!
  |false=>
   have nw:¬Wn W.rows i x:=λz=>by have:=J.mpr z;cases this
   have ji:∀(K:T_),Iy [bv_,i,x,s] M K->Aj 4 Iy wD_ dl_ M K:=λK h=>b6!;simp only[SL,MU];refine gQ (ji _ (a4w h dZ! hi hx hs hl λM' rows' hg hL hF=>?_))
   .obtain⟨Y,h2,_⟩:=jS wi q hq;exact⟨Y.sd,h2,Y.nn.1⟩
   .exact hR M' _ (λ_=>⟨rows',hg,rfl⟩) (λz=>absurd ⟨c1,c2,nw⟩ z) hL hF
 simp only[Ap,Gq,Vt,wT,g1];show"!v"
 .rw[LG c1];simp only[MU,g2];by_cases c2:x∈W.its
  .rw[LG c2];exact XZ c1 (.inl c2)
  .rw[KP c2];simp only[LM,MJ,g3];by_cases c3:x=root\/x=binn
   .rw[LG c3];exact XZ c1 (.inr c3)
   .rw[KP c3];exact no λz=>z.2.1.elim c2 c3
 .rw[KP c1];exact no λz=>c1 z.1
end
def Yq:WS:=(Af wH_
 (Af wJ_
 (Af wL!
 wN_)))
def Yp:WS:=wQ_
def FL:WS:=wU!
def Sr:WS:=(Af jy!
 (Af (Al 6 aN!)
 (Af Ds!
 (Af (Al 8 on_)
 wW!))))
def Yr:WS:=(Af (Al 9 oq!)
 (Af jy!
 wX!))
abbrev knd(k:Str):Ag->Option Bool:=fT (f2 Ax bn! (fC T!))
abbrev Ud:WT:=wT oi_
def c0u:Yk=Af oh! (Af oi!
 (Ap Ds_ Yq (Ap Dt! ok_ (Ap Dt_ ol!
  (Ap Du! Yp Du_))))):=rfl
section
variable{O:Addr->Prop}
def b7f(h:qU!):knd k' ρ=some kQ_:=by
 have e:Ai fs! I!=some T!:=by
  show p3_;show"#1";simp
 have:f2 Ax bn! (fC p3!) ρ=some (.bl kQ_):=by
  show((li!).bind λx=>Ai x I!).bind (λx=>Ax x p3!)=_;rw[h];show(BK_).bind _=_;rw[e];exact gK k k'
 unfold knd fT;rw[this];rfl
def p1(h:Dv!):f2 Ai A_ u_ ρ=some a:=by show(li!).bind (λx=>Ai x a7_)=_;rw[h];exact ix1
def p2(h:Aa 2 ρ=some p5!):f2 Ai A_ aC! ρ=some b:=by show(li!).bind (λx=>Ai x bz_)=_;rw[h];exact ix2
def p3(h:Aa 2 ρ=some p5_):f2 Ai A_ aw! ρ=some c:=by show(li!).bind (λx=>Ai x bA_)=_;rw[h];exact ix3
def anF{R:q_}(h:Bs!)(k:d5_):Ap Dw! q1 q2 ρ M R:=by simp only[Ap,Gq,Db,h];exact k
def anT{R:q_}(h:Br!)(hu:∀K:Bool->Mh->Prop,K b M->fu ρ M K)(k1:Dx!)(k2:Dw_):Ap Dw! q1 q2 ρ M R:=by
 simp only[Ap,Gq,Db,h,MU];refine hu _ ?_;cases b with
 |true=>rw[A!];exact k1 rfl
 |false=>rw[Q!];exact k2 rfl
def a0m(h:U!)(h0:ef!)(h2:Dv!)(hk:de_)(K:kF_)(hK:K (decide (a∈W.its)) M):Ud ρ M K:=by unfold Ud wT;rw[oX h h0 (p1 h2) hk];exact hK
def Bm.sd(h:Bm x):Sd x:=by
 obtain rfl|rfl|⟨a,b,rfl,_⟩:=h
 .exact fP _
 .exact fP _
 .exact .inr pe_
def Jq.sd(h:Jq x):Sd x:=by
 obtain rfl|⟨a,b,rfl,_⟩:=h
 .exact cj_
 .exact .inr pe_
def Kh.sd(h:Kh x):Sd x:=by
 obtain rfl|⟨a,b,c,rfl,_⟩:=h
 .exact cj_
 .exact .inr y0!
def Mf.tx(h:eb_)(h0:ef!):Pu bc_ ρ M fx_:=by obtain⟨e,hw⟩:=h.mw;exact dS (aQ h0) az_ Dy_
def Mf.nb(h:eb_)(h0:ef!):Pu ok! ρ M fy!:=by obtain⟨e,hw⟩:=h.mw;exact dS (aQ h0) az_ ((eL (k:=qU_) hw rfl).trans k3n)
def b8y{R:q_}(h:U!)(wi:Bx W)(ha:e6!)(hk:de_)(h0:ef!)(h2:Aa 2 ρ=some kM_)(p0:0<=p)(p3':p<=3)
  (hR:∀M',Bp M' w O (Xw W a p0!)->Fr M O M' O->R S_ M'):Yp ρ M R:=by
 obtain⟨wt,wn,qa,hA⟩:=h;obtain⟨e0,e1,e2,L⟩:=hA.L;obtain⟨e,hn⟩:=hA.mn;have hx:Ec (fq_).length p=some p.toNat:=by
  rw[wi.nl a ha];unfold Ec;rw[KM p0,aI!]
 refine c0v (aQ (p3 h2)) (dS (hA.nb h0) (aQ (p1 h2)) ((eL hn hk).trans Dz!)) (aQ (p2 h2)) (hA.mq ha).1 hx ?_;refine hR _ ⟨wt,wn,qa,⟨e0,e1,e2,?_⟩,hA.O⟩ (hA.fr (.inr (.inr (.inr ⟨a,ha,rfl⟩))));obtain⟨u,v',ei,hu⟩:=jH ha;have nd:=wi.nd;rw[ei,LX,LA]at nd;have e1:∀l:List D,a∉l->(l.map λi=>qV!)=l.map λi=>eg!:=λl hl=>NO λi hi=>by rw[KN λz:i=a=>hl o1!]
 unfold FP at L ⊢;show HL _ _ (_::_::_::W.its.map λi=>qV!);have ei':(W.its.map λi=>qV!)=DA!++(qa a,.lst p0!)::v'.map λi=>eg!:=by
  rw[ei,LL,KL,e1 u hu,e1 v' nd.2.1.1,A!]
 have ej:DA_=DA!++(qa a,.lst fq_)::v'.map λi=>eg!:=by rw[ei,LL,KL]
 rw[ej]at L;rw[ei'];exact L.put (u:=_::_::_::u.map λi=>eg!)
end
section
def b3r(h:U!)(h0:ef!)(hx:DB!)(hk:de_)(ha:e6!):Pu (w2 Bs bc_ fC!) ρ M qV_:=by obtain⟨wt,wn,qa,hA⟩:=h;obtain⟨e1,ht⟩:=hA.mt;exact dS (hA.tx h0) lk! ((eL ht hk).trans Dz!)
def c5q:Ai (Cr q) I!=some q.1:=by simp[Cr,Ai,De,Ec]
def d1q:Ai (Cr q) a7_=some q.2.1:=by simp[Cr,Ai,De,Ec]
def d1p:Ai (Cr q) bz_=some (.bl q.2.2):=by simp[Cr,Ai,De,Ec]
def c2r(hx:Sd x)(hl:∀d∈l,Sd d):Gr neg M x (.lst l)=some (.bl (if neg then !decide (x∈l)else decide (x∈l))):=by
 have e:DC!=decide (x∈l):=by
  rw[OA,List.any_eq_true,LO];show"!w"
  .rintro⟨d,hd,he⟩;rw[lP (hl d hd) hx,LO]at he;rw[<-he];exact hd
  .intro h;exact⟨x,h,by rw[lP hx hx];simp⟩
 have n:∀l:List D,(∀d∈l,Sd d)->Bu l=true/\Di l<=5:=λl=>by
  induction l with
  |nil=>intro _;simp[Bu,Di]
  |cons a r ih=>
   intro h;obtain⟨i1,i2⟩:=ih λd hd=>h d (KA _ hd)
   have Y:=dQ (h a KD);have h2:=jD (h a KD);refine⟨by simp[Bu,Y,i1],by simp[Di];omega⟩
 obtain⟨n1,n2⟩:=n l hl;show Gr.inS neg M x (.lst l)=_;show(if Ba x&&Bu l&&decide (Di l<=40)then some (D.bl (if neg=true then ! DC! else l.any λd=>Ej d x))else none)=_;rw[KM (by rw[dQ hx,n1];simp;omega),e]
def b4l{R:q_}(h:U!)(nd:W.its.Nodup)(hB:qW!)(h0:ef!)(hx:DB!)(hk:de_)(ha:e6!)(hv:Pu fv ρ M ll_)
  (hR:∀M',Bp M' w O oZ_->Fr M O M' O->R S_ M'):Cb bc_ fC! fv ρ M R:=by
 obtain⟨wt,wn,qa,hA⟩:=h;obtain⟨e0,e1,e2,L⟩:=hA.L;refine b4n hv (hA.tx h0) lk! DD! hk eg_ (hR _ ⟨wt,wn,qa,⟨e0,Ir cL_ a e1,e2,?_⟩,hA.O⟩ (hA.fr ec!));have:=L.put (u:=[_]) (c:=.dct (Br cL_ a ll_) (Ir cL_ a e1));rw[a3c nd ha]at this ⊢;have e:(W.its.map λi=>(i,if i=a then D.lst qW_ else D.lst la!))=W.its.map λi=>(i,D.lst (((oZ_).txt i).map Cr)):=NO λi _=>by
  show _=(i,D.lst ((if i=a then l else W.txt i).map Cr));split<;>rfl
 rw[e]at this ⊢;exact this
def rV(h:f ρ=some (.int (n:Nat)))(hn:n<=100000):Ew f ρ=some ((oR!).map λi=>D.int fC_):=by unfold Ew;rw[h];show(if -1000<=qX!/\qX!<=100000 then some (Dj (qX!).toNat)else none)=_;rw[aI!];simp[Dj]
def b9a{R:q_}(h:U!)(wi:Bx W)(hB:qW!)(ht:DE_)(ha:e6!)(hk:de_)(m1:fA_)(m16:m<=16)
  (hR:∀M' ρ',Bp M' w O (setT W a (cutT kg! af!))->Fr M O M' O->R bP! M'):
  Yr DF_ M R:=by
 have hm:((m.toNat:Nat):Int)=m:=by omega
 have X7:Ai fl! bz_=some fc!:=ix2;have hc:Pu oq! DF_ M (.lst kg!):=λK hK=>by
  unfold Bi Ip;rw[rV (n:=m.toNat) (by rw[hm];exact p3 rfl) a!];refine gY ⟨by simp[big];omega,cG dm! (λd=>match d with|.int k=>.tup [g4_,g5_,.int (z+k)]|_=>.non) trivial _ _ aQ_ (by rw[fD!,MD];exact hK)⟩;obtain⟨k,cz,rfl⟩:=KY.mp hd;exact⟨[some qY!,some fl!],rfl,eh!,λ_=>aQ (bV (x:=.tup po!) (y:=.tup [.int (z+cf_)]) (by unfold Ey;rw[bV rfl rfl X7];rfl) (yH (bL (bV (bV (bV rfl rfl X7) rfl rfl) rfl rfl) rfl) rfl) rfl)⟩
 refine fA hc ?_;generalize hg:(po_).map (λk=>D.tup kf_)=me at hR;have xy:∀d∈me,Sd d:=λd hd=>by
  rw[<-hg]at hd;obtain⟨k,_,rfl⟩:=KY.mp hd;exact .inr (.inr (.inr ⟨[x,y,z+(k:Nat)],rfl⟩))
 refine fA (b3r h rfl fD_ hk ha) (b4l (l:=cutT me af!) h wi.nd hB rfl fD_ hk ha (λK hK=>?_) λM' g1 g2=>hR M' _ g1 g2);show _/\Qp _ _ _ _ [none,DG!] lj_ M _;refine⟨by simp[big];omega,cG dm! (λd=>match d with|.tup [s,c,.bl b]=>Cr (s,c,b&&!decide (s∈me))|_=>.non) trivial _ _ aQ_ ?_⟩
 .show"!9";refine⟨[ln_,DG!],rfl,eh!,λ_=>c0w DG_ (aQ (bV rfl rfl d1q)) (c0y (b:=q.2.2) (aQ (bV rfl rfl d1p)) (λe=>?_) λe=>by rw[e];rfl)⟩;rw[e];exact dS DG_ (aQ (d:=.lst me) rfl) (c2r (DH!).sd xy)
 .rw[fD!,MD];unfold cutT at hK;rw[MD]at hK;exact hK
end
section
def GG(l:aW_)(b:D)(k a:Nat):Prop:=(a=0/\∀j<k,DI_≠some b)\/∃j<k,DI_=some b/\a=j+1
def a4z{o4:D}(hl:at!<5000)(hs:∀q∈l,Sd q.1)(J:Sd b)(R:q_)(hR:∀(a:Nat) y,GG l b l.length a->R (.nx DJ_) M):
  ∀(m k a:Nat) (y:X!),at! - k=m->k<=at!->GG l b k a->Hx (Cj 7) ad! FL C7_ DJ_ M R
 |0,k,a,y,hm,hk,ha=>⟨trivial,hR a y (by rw[show l.length=k by omega];exact ha)⟩
 |m+1,k,a,y,hm,hk,ha=>by
  have c1:k<at!:=by omega
  refine aO_;show FL qZ! M _;have e1:l[k]?=some l[k]:=KZ c1;have ea:De qW_ cf_=some (Cr l[k]):=by
   show"#1";simp[c1]
  have cond:fT wT! qZ!=some (decide ((l[k]).1=b)):=by
   unfold fT;rw[bV (bV (bV rfl rfl ea) rfl c5q) (p2 rfl) (mH (hs _ hw_) J)];rfl
  have es:f2 An ba! u_ qZ!=some qL_:=by
   show qM!;simp[An]
  by_cases z:(l[k]).1=b
  .refine C8_;exact a4z (o4:=o4) hl hs J R hR m M_ M_ _ a! a! (.inr ⟨k,p!,by rw[e1];exact congrArg some z,rfl⟩)
  .refine iT C9! ?_;refine a4z (o4:=o4) hl hs J R hR m M_ a _ a! a! ?_;obtain⟨Y,h2⟩|⟨j,Y,h2,h3⟩:=ha
   .refine .inl ⟨Y,jX_⟩;by_cases y:j=k
    .rw[y,e1];exact λx=>z (MN x)
    .exact h2 j a!
   .exact Da_
def GG.wr(h:GG l b l.length a)(nd:oE_):wrT b nw l=l.take a++nw++l.drop a/\a<=at!:=by
 obtain⟨rfl,h2⟩|⟨j,Y,h2,rfl⟩:=h
 .have nb:b∉l.map c_:=λz=>by
   obtain⟨j,hj⟩:=QO.mp z;rw[LZ]at hj;have:j<at!:=by
    cases e:l[j]? with
    |none=>rw[e]at hj;cases hj
    |some q=>exact(KS.mp e).1
   exact h2 j this hj
  unfold wrT;rw[KN nb];simp
 .have hj:l[j]?=some l[j]:=KZ Y;rw[hj]at h2;have J:(ce_).1=b:=MN h2;have e:l=l.take j++l[j]::l.drop bS!:=by rw[<-PV Y,List.take_append_drop]
  have nb:b∉(l.take j).map c_:=λz=>by
   rw[e]at nd;simp only[LL,KL]at nd;rw[LX]at nd;exact nd.2.2 _ z _ c! J.symm
  have yw:b∈l.map c_:=by rw[<-J];exact KW (OB Y)
  refine⟨?_,p!⟩;unfold wrT;rw[KM yw]
  conv=>lhs;rw[e]
  rw[uU J nb,PX Y];simp only[NJ,OM,NN]
def b0z(h n:Int)(s:Str):s.cps.toList.zipIdx.map d1!=(List.range ar_).map λk=>(D.tup p0_,D.str DL!,true):=by
 apply UQ;intro i;rw[LZ,LZ,List.getElem?_zipIdx];by_cases c:i<ha_
 .have c':i<ar_:=by simpa[Str.length]using c
  rw[KZ c,List.getElem?_range c'];simp[sgn,List.getD,KZ c];simp at c;simp[c]
 .have c':¬i<ar_:=by simpa[Str.length]using c
  rw[NB a!,NB a4!];rfl
def a7d{R:q_}(hL:U!)(wi:Bx W)(hB:qW!)(ht:DE_)(ha:e6!)(hk:de_)(J:Sd b)(s16:kn_)
  (hR:∀M' ρ',Bp M' w O (setT W a (wrT b g9_ af!))->Fr M O M' O->R bP! M'):
  Sr [G!,Y!,lo!,b8_,y4,none,none,none,none,none] M R:=by
 refine fA (b3r hL rfl fD_ hk ha) (fA hE_ ?_);show Af Ds! _ DM! M _;have er:Ew wR! DM!=some ((List.range (af!).length).map λi=>D.int fC_):=rV (by
  show Bj [.lst lj_]=_;simp[Bj]) a!
 unfold Af Dp Ip;rw[er,List.range_eq_range'];refine a4z (M:=M) (o4:=.non) ht (λq hq=>(DH!).sd) J _ (λat_ y yz=>?_) (af!).length 0 0 none a! a! Dh!;obtain⟨ew,nz⟩:=yz.wr (nw:=s.cps.toList.zipIdx.map d1!) (wi.snd a ha);have hnl:(g9_).length=ar_:=by simp[Str.length]
 have hc:Pu on_ [G!,Y!,lo!,b8_,y4,some qV_,some (.int (at_:Nat)),y,none,none] M (.lst ((g9_).map Cr)):=λK hK=>by
  unfold Bi Ip;rw[rV (n:=s.length) (by show Bj [d1_]=_;simp[Bj,big];omega) a!];refine gY ⟨by simp[big];omega,cG dm! (λd=>match d with|.int k=>Cr (.tup Bh_,.str ⟨#[s.cps.toList.getD k.toNat 0]⟩,true)|_=>.non) trivial _ _ aQ_ (by rw[b0z,MD]at hK;rw[fD!,MD];exact hK)⟩;obtain⟨k,cz,rfl⟩:=KY.mp hd;have hk2:=RC.mp cz;have hc:k<ha_:=by simpa[Str.length]using hk2
  have e3:Ai aZ! qY!=some (.str DL!):=by
   show(if ar_<=big then(De s.cps.toList cf_).map _ else none)=_;rw[cH_];show"#1";rw[aI!,aI!];simp only[QF,QA];rw[KZ hc,List.getD_eq_getElem?_getD,KZ hc];rfl
  exact⟨[some qY!,lo!,b8_],rfl,eh!,λ_=>aQ (yH (bL rfl (bL (bV (bV rfl rfl ix3) rfl e3) fo_)) rfl)⟩
 refine fA hc ?_;generalize s.cps.toList.zipIdx.map d1!=nw at *;refine b4l (l:=wrT b nw af!) hL wi.nd hB rfl fD_ hk ha (aQ (bV (x:=.lst ((lj_).take at_++nw.map Cr)) (bV (b9h (xs:=(af!).map Cr) (k:=at_) le_) rfl ?_) (a4k (xs:=(af!).map Cr) (k:=at_) le_) ?_)) λM' g1 g2=>hR M' _ g1 g2
 .show hk_;rw[lf!]
 .show hk_;rw[lf!,ew];simp
end
def HL.perm{M0 M:Mh}(h:qn!)(p:l.Perm l'):HL M0 M l':=⟨λq hq=>h.cell q DN!,(p.map _).nodup_iff.mp h.nd,λq hq=>h.fr q DN!,h.kp⟩
section
def b0j{f1 f2 f3 f4:o_}(Y:fe_)(h2:hb!)(h3:p6!)(h4:f4 ρ=some d)(k:g [a,b,c,d] M K):Aj 4 g p6_ ρ M K:=by unfold Aj Ab Ad;rw[cR Y,ei_,cR h3,cR h4];exact ej!
def b8z{R:q_}(hL:U!)(wi:Bx W)(hB:ll!<4000)(hl:ed_<3900)(hn:DO!)(ha:Sd a)(hk:de_)(J:Sd b)
  (hR:∀M' ρ' O' rows',Pn W.rows al_ fg! b rows'->Bp M' w O' (Jj W al_ rows')->Fr M O M' O'->R bP! M'):
  Yq [G!,Y!,some fk_,b8_,none,none,none,none,none,none] M R:=by
 obtain⟨wt,wn,qa,hA⟩:=id hL;obtain⟨e0,e1,e2,L⟩:=hA.L;have fm:Da al_=some (some (.inr [.inl h,.inl n])):=rfl;refine fA (d:=.bl (decide DP!)) (b4o (b:=decide (a∈W.its)) (λK hK=>by rw[oX hL rfl fD_ hk];exact hK) (λe=>aQ (bV fD_ rfl ((mH ha (fP _)).trans (by simp[QI e])))) λe=>LG (.inl (NI e))) ?_;generalize hg:decide DP!=g;unfold Af;have kt:=xD (g:=λi=>D.lst la!) (v:=hF!) hn;refine b4n q2_ (hA.tx rfl) (aQ (d:=ha!) rfl) DD! fm eg_ ?_;have L1:=L.put (u:=[_]) (c:=.dct DP_ DQ!);refine⟨by show 4<=1000;decide,d9_⟩;have L2:=L1.new (c:=.lst ff_) hq;have hw2:=L2.cell (w,_) hz_;have g7:=L2.cell (wn,_) (KA _ qJ_);refine dS dn! DR! ((eL (k:=qU_) hw2 rfl).trans k3n) _ (aQ (d:=ha!) rfl _ ?_);rw[iH g7 fm eg_];have L3:=L2.put (u:=[_,_,_]) (c:=.dct DS! DS_);refine gY ?_;show Bq _ [G!,Y!,some fk_,b8_,some (.bl g),none,none,none,none,none] (mup (mup (mup M wt _) q _) wn _) R;generalize hM3:mup (mup (mup M wt (.dct DP_ DQ!)) q (.lst ff_)) wn (.dct DS! DS_)=M3 at L3 ⊢;have qM:M q=none:=by
  by_cases z:q=wt
  .rw[z,mup_same]at hq;cases hq
  .rw[mup_ne z]at hq;exact hq
 have ni:∀i∈W.its,i≠.tup bL!:=λi hi z=>hn o1!
 let dz:D->Addr:=λi=>if i=.tup bL! then q else qa i
 have a7:∀i∈W.its,dz i=qa i:=λi hi=>KN q3!;have vp:dz al_=q:=KM rfl;have q8:Mf M3 w DT! q3_ wt wn dz:=by
  refine⟨⟨e0,Ir cL_ al_ e1,Ir lp! al_ e2,?_⟩,λb=>?_⟩
  .rw[kt,xD hn]at L3;refine L3.perm ?_;have m1:(hG!).map (λi=>(i,D.lst (((q3_).txt i).map Cr)))=cL_++[(.tup bL!,.lst [])]:=by
    rw[LL];congr 1
    .exact NO λi hi=>by show(i,D.lst ((if i=_ then[]else W.txt i).map Cr))=_;rw[KN q3!]
    .show[(_,D.lst ((if _=_ then[]else _).map Cr))]=_;rw[A!];rfl
   have m2:(hG!).map (λi=>(i,D.fn (dz i)))=lp!++[(.tup bL!,.fn q)]:=by
    rw[LL];congr 1
    .exact NO λi hi=>by rw[a7 i hi]
    .show[(_,D.fn (dz _))]=_;rw[vp]
   have m3:(hG!).map (λi=>(dz i,Es.lst ((q3_).num i)))=DA_++[(q,.lst ff_)]:=by
    rw[LL];congr 1
    .exact NO λi hi=>by show(dz i,Es.lst (if i=_ then _ else W.num i))=_;rw[a7 i hi,KN q3!]
    .show[(dz _,Es.lst (if _=_ then _ else _))]=_;rw[vp,A!]
   show List.Perm _ (_::DX!::DX!::(hG!).map _);rw[m1,m2,m3];exact(List.perm_append_singleton (q,Es.lst ff_) (_::_::_::W.its.map λi=>eg!)).symm
  .show(O b\/b=q)↔_\/_\/_\/∃i∈W.its++[D.tup bL!],dz i=b;rw[hA.O,or_assoc,or_assoc,or_assoc];refine RO (RO (RO ⟨dh_,λ⟨i,hi,e⟩=>?_⟩))
   .obtain⟨i,hi,e⟩|z:=z
    .exact⟨i,LD _ hi,(a7 i hi).trans e⟩
    .exact⟨_,KJ _ pG!,vp.trans z.symm⟩
   .obtain z|z:=KR.mp hi
    .exact .inl ⟨i,z,(a7 i z).symm.trans e⟩
    .rw[ek!,vp]at e;exact .inr e.symm
 have F1:Fr M O M3 DT!:=λc hc hr=>by
  have cq:c≠q:=dU hc qM;refine⟨?_,λz=>z.elim hr cq⟩;rw[<-hM3,mup_ne λz=>hr (by rw[z];exact(hA.O wn).mpr (.inr ec!)),mup_ne cq,mup_ne λz=>hr (by rw[z];exact(hA.O wt).mpr ec!)]
 refine gQ (b0j (a:=bv_) (b:=ha!) (c:=if Et W a then a else binn) (d:=b) rfl rfl ?_ (p2 rfl) (a4w ⟨wt,wn,dz,q8⟩ dZ! (.inr (.inr (.inr ⟨[h,n],rfl⟩))) (by split;exact ha;exact fP _) J (by show ed_<_;omega) λM' rows' sf cb hF'=>hR M' _ _ rows' sf cb (F1.trans hF')))
 .unfold Ln;rw[show fT N! _=some g from rfl,p1 (k:="put") (a:=a) (r:=[b]) rfl];show(if g=true then some a else some binn)=_;rw[<-hg];by_cases c:a∈W.its\/a=root
  .rw[KM (LG c),KM (c.elim .inl λz=>.inr oa!)]
  .rw[KN λz=>c (NI z)];by_cases c2:Et W a
   .rw[KM c2,c2.resolve_left (λz=>c oa!) |>.resolve_left λz=>c gG_]
   .rw[KN c2]
 .obtain⟨z1,z2,_⟩:=jS wi q hq;exact⟨z1.sd,z2,z1.nn.1⟩
end
structure Rn(W:OW)(B:Nat):Prop where
 rows:ed_<=B
 its:ll!<=B
 txt:∀x,(br_).length<=B
def Pn.len(h:gV!):rows'.length<=rows.length+1:=by
 obtain⟨u,v,e1,e2,_⟩:=h;have Y:(da!).length<=rows.length:=by unfold wo;exact PQ _ _
 rw[e1,LK]at Y;rw[e2,LK,KO];omega
def Rn.stp(l:cM_)(h:Sv W n d W'):Rn W' bt!:=by
 have l1:=l.rows;have l2:=l.its;have l3:=l.txt;have same:Rn W bt!:=⟨p!,p!,λx=>by have:=l3 x;omega⟩;cases h with
 |put _ _ hg=>
  have:=hg.len;refine⟨by show _<=_;unfold Jj;simp only;omega,by unfold Jj;simp only[LK,OG];omega,jU_⟩;unfold Jj;simp only;split
  .simp
  .have:=l3 x;omega
 |mvY _ _ _ _ hg=>
  have:=hg.len;exact D6!
 |mvN=>exact same
 |drY _ _ hg=>
  have:=hg.len;exact D6!
 |drN=>exact same
 |@wrt a b s h m _ _ hs e=>
  split
  .refine D7_;unfold setT;simp only;split
   .obtain⟨u,v,e1,e2,_⟩:=pK b fq! af!;have:=l3 a;rw[e1,LK]at this;rw[e2];have cm:ha_<=16:=hs;simp only[LK,KQ,UI];omega
   .have:=l3 x;omega
  .exact same
 |cut=>
  split
  .refine D7_;unfold setT;simp only;split
   .unfold cutT;rw[KQ];exact same.txt _
   .exact same.txt x
  .exact same
 |set=>
  split
  .exact⟨same.rows,q8!,same.txt⟩
  .exact same
section
def eX{R:q_}(h:cA_)(k:q bG_ M R):Af (Al i (wl f)) q ρ M R:=by unfold Af Al;rw[cR h];exact k
def kT(h:qU!)(e:(k==k)=true):knd k ρ=some true:=by rw[b7f h,e]
def kF(h:qU!)(e:kQ_=false):knd k' ρ=some false:=by rw[b7f h,e]
def JD:WS:=Ap Du! Yp Du_
def JE:WS:=Ap Dt! ok_ (Ap Dt_ ol! JD)
def AO:WS:=Ap Ds_ Yq JE
def c0t:Yk=Af oh! (Af oi! AO):=c0u
def Ss(w:u0!)(x0 d nm:D):Ag:=[G!,Y!,ho_,lm_,none,none,none,none,none,none]
def dv0:Aa 0 D8!=some bw!:=rfl
def mS:Aa 2 D8!=some d:=rfl
def BH(W:OW)(M:Mh)(w:u0!)(O:bs!)(n d:D)(R:q_):Prop:=∀M' O' W' ρ',Sv W n d W'->Bp M' w O' W'->Fr M O M' O'->R bP! M'
def c8c{R:q_}(hL:U!)(wi:Bx W)(ba:cM_)(hB:ej_)(hn:DO!)(ha:Bm a)(J:Jq b)
  (hR:BH W M w O al_ fk_ R):AO (Ss w x0 fk_ al_) M R:=by
 show"!2";have l1:=ba.rows;have l2:=ba.its;refine ifT (kT mS b7h) ?_;exact b8z hL wi a! a! hn ha.sd bn J.sd λM' ρ' O' rows' hg cb hF=>hR M' O' _ ρ' (.put ha J hg) cb hF
def c3f{R:q_}(hL:U!)(wi:Bx W)(ba:cM_)(hB:ej_)(ha:Bm a)(J:Bm b)(hc:Jq c)
  (hR:BH W M w O nm hh! R):AO (Ss w x0 hh! nm) M R:=by
 show"!2";obtain⟨kb,kh⟩:=bT J;have l1:=ba.rows;refine iT au_ ?_;refine ifT (kT mS a0b) ?_;refine gQ (b0j dv0 (p1 mS) (p2 mS) (p3 mS) ?_);refine a4u hL wi a! ha.sd J.sd hc.sd bn kh λM' W' Y h2 cb hF=>?_;by_cases g:a∈W.its/\Et W b/\¬Wn W.rows a b
 .obtain⟨rows',hg,e⟩:=Y g;rw[e]at cb;exact hR M' O _ _ (.mvY ha J hc g hg) cb hF
 .rw[h2 g]at cb;exact hR M' O _ _ (.mvN ha J hc g) cb hF
def c3g{R:q_}(hL:U!)(wi:Bx W)(ba:cM_)(hB:ej_)(ha:Bm a)
  (hR:BH W M w O nm hh_ R):AO (Ss w x0 hh_ nm) M R:=by
 show"!2";have l1:=ba.rows;show"!4";refine ifT (kT mS a0c) ?_;refine gQ (b0j (c:=binn) (d:=.non) dv0 (p1 mS) rfl rfl ?_);refine a4u (kx:=p7!) hL wi a! ha.sd (fP _) an_ bn rfl λM' W' Y h2 cb hF=>?_;by_cases g:a∈W.its/\Et W binn/\¬Wn W.rows a binn
 .obtain⟨rows',hg,e⟩:=Y g;rw[e]at cb;exact hR M' O _ _ (.drY ha g hg) cb hF
 .rw[h2 g]at cb;exact hR M' O _ _ (.drN ha g) cb hF
def c8b{R:q_}(hL:U!)(wi:Bx W)(ba:cM_)(hB:ej_)(ha:Bm a)(h0:0<=p)(h3:p<=3)
  (hR:BH W M w O nm kM_ R):AO (Ss w x0 kM_ nm) M R:=by
 show"!2";have st:=Sv.set (W:=W) (n:=nm) (v:=v) ha h0 h3;show"!4";refine iT au_ ?_;refine anT (kT mS b7g) q9! dn_ dn_
 .show"#8";exact b8y hL wi c' bn dv0 mS h0 h3 λM' cb hF=>hR M' O _ _ st cb hF
 .show"#7";show"#(";show"#(";show"#9"
def b8x{R:q_}(hL:U!)(wi:Bx W)(ba:cM_)(hB:ej_)(ha:Bm a)(J:Kh b)(hs:kn_)
  (hR:BH W M w O al_ hi! R):AO (Ss w x0 hi! al_) M R:=by
 show"!2";have l2:=ba.its;have l3:=ba.txt a;have st:=Sv.wrt (W:=W) (n:=ha!) ha J hs rfl;show"!4";refine iT au_ ?_;show"#(";refine anT (kT mS a3f) q9! dn_ dn_
 .show"#8";exact a7d hL wi a! a! c' bn J.sd hs λM' ρ' cb hF=>hR M' O _ _ st cb hF
 .show"#7";show"#(";show"#9"
def c8d{R:q_}(hL:U!)(wi:Bx W)(ba:cM_)(hB:ej_)(ha:Bm a)(h0:0<=z)(Y:fA_)(h2:z+m<=16)
  (hR:BH W M w O nm fl! R):AO (Ss w x0 fl! nm) M R:=by
 show"!2";have l2:=ba.its;have l3:=ba.txt a;have st:=Sv.cut (W:=W) (n:=nm) (x:=x) (y:=y) ha h0 Y h2;show"!4";refine iT au_ ?_;show"#(";show"#(";refine anT (kT mS b7i) q9! dn_ dn_
 .show"#8";exact b9a hL wi a! a! c' bn Y a! λM' ρ' cb hF=>hR M' O _ _ st cb hF
 .show"#7";show"#9"
def c6j(o:Op):Ai o.v bA_=some o.d:=by simp[Op.v,Ai,De,Ec]
def kY(o:Op):Ai o.v I!=some cf!:=by simp[Op.v,Ai,De,Ec]
def tM(o:Op):Ai o.v a7_=some (.int o.n):=by simp[Op.v,Ai,De,Ec]
def c5a(Y:f ρ=some a)(h2:g ρ=some b):As (Ac f (Ac g Ae)) ρ=some hA_:=by simp[As,Ac,Ae,Y,h2]
def c9f{o:Op}(hL:U!)(hw:fr!)(hn:o.nm∉pre)(hd:DG o.d)(hu:Hd o.d=none)(ba:cM_)(hB:ej_)
  (hR:∀M' O' W',Sv W o.nm o.d W'->Bp M' w O' W'->Fr M O M' O'->R .non M'):Wi [bv_,o.v] M R:=by
 refine h!;rw[c0t];have e3:f2 Ai r_ aw! D9_=some o.d:=c6j o;refine eX (ρ:=D9_) e3 ?_;have e0:As wF_ Ea!=some o.nm:=c5a hI! (tM o);refine eX (ρ:=Ea!) e0 ?_;generalize hK:Ag!=K;have gc:BH W M w O o.nm o.d K:=λM' O' W' ρ' Y h2 h3=>by rw[<-hK];exact hR M' O' W' Y h2 h3
 have oz:o.nm∉W.its:=λz=>hn (hw.its _ z);clear hR hK e3 e0 hn;obtain⟨h,n,tm,d⟩:=o;generalize Op.v ⟨h,n,tm,d⟩=v;change AO (Ss w v d al_) M K;change BH W M w O al_ d K at gc;change D.tup bL!∉W.its at oz;change DG d at hd;change Hd d=none at hu;cases hd with
 |put ha J=>exact c8c hL hw.inv ba hB oz ha J gc
 |move ha J hc=>exact c3f hL hw.inv ba hB ha J hc gc
 |drop ha=>exact c3g hL hw.inv ba hB ha gc
 |write ha J _ _ hs=>exact b8x hL hw.inv ba hB ha J hs gc
 |cut ha hs Y h2=>
  obtain⟨_,_,_,e,_,_,_,_,z0,_⟩:=hs;cases e;exact c8d hL hw.inv ba hB ha z0 Y h2 gc
 |set ha Y h2 _=>exact c8b hL hw.inv ba hB ha Y h2 gc
 |undo _=>rw[wD]at hu;exact absurd hu (by simp[show qa!=true from by decide+kernel])
 |redo _=>rw[wD]at hu;exact absurd hu (by simp[show qa_=true from by decide+kernel])
end
def Rn.mono(l:cM_)(h:cD_):Rn W B':=⟨LV l.rows h,LV l.its h,λx=>LV (l.txt x) h⟩
section
def d1e(hp:bt_)(h0:kX_)(Y:q9_)(h2:Eb!)(hk:aP_)(K:T_)(hK:K Cv_ M):Ib cG! ht_ kV_ ρ M K:=by
 have c:Dx M x_=some kS_:=by simp[Dx,hp]
 simp only[Ib,wl,h0,Y,h2,c,Ed,hk];exact hK
def mT{f1 f2:o_}(Y:fe_)(h2:hb!)(k:g ag_ M K):Aj 2 g pw! ρ M K:=by unfold Aj Ab Ad;rw[cR Y,ei_];exact ej!
def rN{g:WF}{f1:o_}{K:T_}(Y:fe_)(k:g [a] M K):Aj 1 g (Ab kp_ Ad) ρ M K:=by unfold Aj Ab Ad;rw[cR Y];exact ej!
def IM:WT:=Gq w0! w1!
def IN:WS:=Ap IM w1_ Bg
def d0z{R:q_}(h:Eb_)(k1:Dx!)(k2:Dw_):Ap ft q1 q2 ρ M R:=by
 refine h _ ?_;cases b with
 |true=>rw[A!];exact k1 rfl
 |false=>rw[Q!];exact k2 rfl
def c0b(h:Eb_)(h2:b=true->∀K:Bool->Mh->Prop,K c M->fu ρ M K)(K:kF_)(hK:K (b&&c) M):Gq ft fu ρ M K:=by
 refine h _ ?_;cases b with
 |true=>rw[A!];exact h2 rfl K (by simpa using hK)
 |false=>rw[Q!];simpa using hK
def c2h{x:Op}(kj:Ec!)(hd:DG x.d)(hp:M p=some Ec_)(K:kF_)
  (hK:K (decide Ed!) M):IM ra! M K:=by
 obtain⟨k,r,e,hn,hs⟩:=d1g hd;have i0:f2 Ai nA_ F_ ra!=some T!:=b7q e;have hu:(! qH!)=decide ra_:=by
  cases hu:Hd x.d with
  |none=>
   obtain⟨Y,h2⟩:=hn hu;rw[CR!,CS!,Y,h2];rfl
  |some u=>
   obtain⟨g1,g2,hk,fh⟩:=hs u hu;rw[a7u hk];rfl
 obtain⟨kn,fm⟩:=a6f x;have hz:(∃b:Bool,(kget kb x.nm).getD Z!=.bl b/\(b=true↔kget wd x.nm=some bV!)):=by
  obtain⟨Y,h2⟩|⟨k',Y,h2⟩:=kj x.nm
  .exact⟨false,Ef!,by rw[Y];simp⟩
  .refine⟨k'=="undo",Ef!,?_⟩;rw[Y];show"!w"
   .intro z;rw[eq_of_beq z]
   .intro z;rw[D.str.inj (MN z)];exact OK _
 obtain⟨b,hb1,X8⟩:=hz;have e2:As w0_ ra!=some x.nm:=c5a (kY x) (tM x);refine c0b (b:=decide ra_) (c:=!b) (λK' uc=>?_) (λ_ K' uc=>?_) K ?_
 .unfold wT w2;rw[cR i0,cR (f:=fC wm_) rfl,a3r];rw[hu];exact uc
 .unfold Hu wT;refine d1e hp rfl e2 rfl fm _ ?_;rw[hb1];exact uc
 .have:(decide ra_&&!b)=decide Ed!:=by
   by_cases c1:Hd x.d=none
   .by_cases c2:kget wd x.nm=some bV!
    .rw[X8.mpr c2];simp[c2]
    .have:b=false:=by
      cases b with
      |true=>exact absurd (X8.mp rfl) c2
      |false=>rfl
     rw[this,LG c1,LG (⟨c1,c2⟩:_/\_)];rfl
   .rw[KP c1,KP λz:_/\_=>c1 z.1];rfl
  rw[this];exact hK
def zN{e0:Nat}(kj:Ec!):
  ∀(os:l_) (x1:D) (y:X!) (M:Mh) (O:bs!) (W:OW) (pre:e!) (B:Nat) (R:q_),(∀x∈os,DG x.d)->Ch!->(qv!).Nodup->Bp M w O W->Us W pre->Rn W B->B+20*aQ!<3800->M p=some Ec_->¬O p->
   (∀M' O' W' y',Uh W qv_ W'->Bp M' w O' W'->Ci!->Rn W' (B+20*aQ!)->Fr M O M' O'->R (.nx [O!,G!,ac_,y']) M')->
   Hx L_ ad! IN au! [O!,G!,ac_,y] M R
 |[],x1,y,M,O,W,pre,B,R,_,_,_,hL,hw,ba,_,_,_,hR=>⟨trivial,hR M O W y .nil hL ⟨pre,hw⟩ Eg! .refl⟩
 |x::os,x1,y,M,O,W,pre,B,R,hd,hp,nd,hL,hw,ba,hB,vq,X9,hR=>by
  refine aO_;simp only[KO]at hB hR;rw[KL,LA]at nd;have jp:=hd x KD;refine d0z (c2h kj jp vq) dn_ dn_
  .have c':=NI c;have ee:Pg wd hv!=x::Pg wd os:=by unfold Pg;rw[NE Eh!]
   refine gQ (mT rfl rfl (c9f hL hw k1_ jp c'.1 ba a! λM1 O1 W1 hs hL1 hF=>?_));have hq:=hF p (by rw[vq];simp) X9;refine zN kj os x1 qx! M1 O1 W1 (pre++[x.nm]) bt! R qw_ Cn_ nd.2 hL1 (b3u hs hw k1_) (ba.stp hs) a! (hq.1.trans vq) hq.2 (λM' O' W' y' g1 g2 g3 g4 g5=>hR M' O' W' y' (by rw[ee];exact .cons hs g1) g2 g3 Ej! (hF.trans g5));obtain z|z:=KR.mp z
   .exact hp y dN! z
   .rw[LB]at z;exact nd.1 Co!
  .have c':=QI c;have ee:Pg wd hv!=Pg wd os:=by unfold Pg;rw[NG Eh!]
   exact zN kj os x1 qx! M O W pre bt! R qw_ qy! nd.2 hL hw Eg! a! vq X9 (λM' O' W' y' g1 g2 g3 g4 g5=>hR M' O' W' y' (by rw[ee];exact g1) g2 g3 Ej! g5)
def c9e:Rn W0 0:=⟨KU _,KU _,λ_=>KU _⟩
def d0y:((hy_).map c_).Nodup:=by
 refine LA.mpr ⟨?_,LA.mpr ⟨?_,Ek!⟩⟩
 .intro z;obtain z|z:=KG.mp z
  .exact c4h z
  .exact c4i kr_
 .intro z;exact c4d kr_
def c2l:∀q∈k3 a b c,(ql!).isSome=true:=λq hq=>by
 obtain rfl|hq:=KG.mp hq
 .rfl
 .obtain rfl|hq:=KG.mp hq
  .rfl
  .rw[LB.mp hq];rfl
def b1e:Wc=Af wZ!
 (Af wZ_
 (Af (Dp oc! L_ IN)
 cq_)):=rfl
def c3h{f:WE->WS}{ρ:Ag}{K:T_}(hK:∀w M' O,M w=none->Bp M' w O W0->qs_->K bw! M'):
  Ot wY_ ρ M K:=by
 intro w hw;refine pc (x:=.str "rows") rfl ?_;rw[cR (f:=Dh Ae) (d:=hF!) rfl];refine pc (x:=Em!) rfl ?_;intro wt ht;refine pc (x:=DQ_) rfl ?_;intro wn hn;have L:=(((HL.new (M0:=M) (l:=[]) (c:=ea!) qt_ hw).new (c:=ea!) ht).new (c:=ea!) hn).put (u:=[_,_]) (c:=.dct En_ 3);have p:List.Perm [(wn,Es.dct [] 0),(wt,.dct [] 0),(w,.dct En_ 3)] (FP W0 w wt wn (λ_=>w) 3 0 0):=(List.reverse_perm _).symm;have L:=L.perm p;refine⟨?_,CC_,c2l,d0y,hK w _ (λb=>b=w\/b=wt\/b=wn) hw ⟨wt,wn,λ_=>w,⟨3,0,0,L.cell,L.nd,iv_,C0_⟩,λb=>?_⟩ λb J=>⟨L.kp b J,λz=>J ?_⟩⟩
 .have e1:w≠wt:=dU (N:=mup M w cK!) (by rw[mup_same];simp) ht;rw[mup_ne (dU (N:=mup (mup M w cK!) wt cK!) (by rw[mup_ne e1,mup_same];simp) hn),mup_ne e1,mup_same]
 .exact RO (RO ⟨.inl,λz=>z.elim id λ⟨i,hi,_⟩=>by cases hi⟩)
 .obtain rfl|rfl|rfl:=z
  .exact hw
  .exact L.fr (_,_) hz_
  .exact L.fr (_,_) qJ_
def a4t{ops:l_}(nd:d7!)(nn:Cq!)(hl:d7_)(hd:hs!)
  (hR:∀w M' O W',M w=none->Uh W0 Cq_ W'->Bp M' w O W'->Cr!->Rn W' 1500->qs_->R bw! M'):Lu ce! M R:=by
 refine h!;rw[b1e];have hp:(a0!).Perm ops:=cI ops;unfold Af Al;refine c3h (f:=λ_=>Bg) λw M1 O hw hL fr=>?_;refine rN (a:=qb_) rfl (a6q nd hl hd λp M2 ep f9 fg ou=>?_);have rp:¬O p:=λz=>hL.live z f9;have uh:Bp M2 w O W0:=hL.keep λc hc=>ou c λz=>rp lw!;unfold Dp Cv;refine rN (a:=qb_) rfl CU_;refine zN (wd:=ql_) (sO a0! [] [] λx=>.inl aJ_) a0! _ none M2 O W0 [] 0 _ (λx hx=>hd x Cs!) Ct! Ct_ uh c5h c9e k3! fg rp λM' O' W' y' g1 g2 g3 g4 g5=>?_;refine hR w M' O' W' hw g1 g2 g3 (g4.mono k3!) λb J=>?_;obtain⟨e1,e2⟩:=fr b J;have e3:M2 b=M1 b:=ou b λz=>by rw[<-e1,z,f9]at J;exact J rfl
 obtain⟨e4,e5⟩:=g5 b Cu! e2;exact⟨e4.trans (e3.trans e1),e5⟩
end
end K20
namespace K20
open PySem L2 DL
abbrev Za:Nat:=1000000000000000000000000000000000000000000000000000000000000
def a0u(h:cU!<Za):Ft [cm!]=some w_:=by
 have:iz_<1000000000000000000000000000000000000000000000000000000000000:=by unfold Za at h;split<;>omega
 push_cast[Ft,Qa,this]
def a0w(h:cU!<Za)(h0:0<=i)(Y:i<k):Gw [cm!,hf_]=some w_:=by push_cast[Gw,Qc,a0u h,h0,Y]
def a0v(h:cU!<Za)(Y:1<=i):Dv [cm!]=some w_:=by push_cast[Dv,Ml,a0u h,Y]
def qN(h:NameG x):Ea [x]=some w_:=by
 obtain⟨a,b,rfl,Y,h2,h3,h4⟩:=h
 push_cast[Ea,Oe,a0w (i:=a) (k:=16) ek_ Y h2,a0v (i:=b) ek_ h3]
def rD(h:Ys x):Dz [x]=some w_:=by
 obtain⟨a,b,c,rfl,Y,h2,h3,h4,h5,h6⟩:=h
 push_cast[Dz,Ky,qN ⟨a,b,rfl,Y,h2,h3,h4⟩,a0w (i:=c) (k:=16) ek_ h5 a!]
def nI(h:Bm x):Gv [x]=some w_:=by
 have n:∀s,Ea [d1_]=some Z!:=λs=>by push_cast[Ea,Oe]
 obtain rfl|rfl|h:=h
 .push_cast[Gv,Lq,n,gK]
 .push_cast[Gv,Lq,n,gK]
 .push_cast[Gv,Lq,qN h]
def xP(h:Jq x):Ff [x]=some w_:=by
 obtain rfl|h:=h
 .push_cast[Ff,Jw]
 .obtain⟨a,b,rfl,_⟩:=id h
  push_cast[Ff,Jw,qN h]
def b8s(h:Kh x):Fw [x]=some w_:=by
 obtain rfl|h:=h
 .push_cast[Fw,La]
 .obtain⟨a,b,c,rfl,_⟩:=id h
  push_cast[Fw,La,rD h]
def b0a(h0:0<=i)(Y:i<=3):Du [cm!]=some w_:=by push_cast[Du,Qb,a0w (i:=i) (k:=4) ek_ h0 a!]
def c7x(h:Ua s=true)(Y:1<=ar_)(h2:kn_):Jn [d1_]=some w_:=by
 unfold Ua at h;rw[LN,LO]at h;have hl:ar_<=big:=by unfold big;omega
 have hc:=vA dg! rfl s.cps.toList h.2;have gr:(List.map dm! s.cps.toList).all id=true:=by simp
 have z1:1<=kB_:=by omega
 have z2:kB_<=16:=by omega
 have hz:ha_<=big:=by simpa[Str.length]using hl
 have zc:Fx 1 [] (CH j_) B_ aS_ iH_ [some aZ!]=some (.lst rf_):=by
  show(if(s.cps.toList.map λc=>D.str aj!).length<=big then Option.map D.lst (Ef B_ aS_ iH_ dg! (s.cps.toList.map λc=>.str aj!))else none)=_;rw[KQ,KM hz,hc];rfl
 have hall2:Qs [.lst rf_]=some w_:=by
  simp only[Qs,vF,RX,gr]
 push_cast[Jn,Rl,zc,hl,z1,z2,hall2]
def c7s(nd:t.nd):Ks t t.A0=some Gv/\Ks t t.A7=some Ff/\Ks t t.A8=some Fw/\Ks t t.A9=some Jn/\Ks t t.B0=some Dz/\
  Ks t t.B1=some Dv/\Ks t t.B2=some Du/\Ks t t.B3=some Ft/\Ks t t.B4=some Ea:=by
 unfold Bk.nd at nd;simp only[LA,KG,MO,QR,SE]at nd;unfold Ks;refine⟨?_,?_,?_,?_,?_,?_,?_,?_,?_⟩<;>grind
def rJ(ρ:Ag)(nr:ρ=lA_):∀(cs:lB!),(∀c∈cs,∃g,Ks t c.1=some g/\g [c.2]=some w_)->
  Ef iJ_ aS_ iK! ρ hK!=some ku_/\(hK!).length=cF!
 |[],_=>aJ_
 |c::cs,h=>by
  have ih:=rJ ρ nr cs λx hx=>h x ca_;obtain⟨g,Y,h2⟩:=h c KD;subst nr;refine⟨?_,by simp only[KL,Kj,KO,ih.2]⟩;simp only[KL,Kj,Ef,ih.1];simp[Qr,Bb,Oo,Ac,Aa,Ae,Y,h2]
def xY:∀(cs:lB!),Mr Ay_=some Az_
 |[]=>rfl
 |c::cs=>by simp only[KL,Mr,xY cs,RX]
def iV(cs:lB!)(h:∀c∈cs,∃g,Ks t c.1=some g/\g [c.2]=some w_)(hl:cF!<=1000):
  Hg t [.tup lC!,.tup lB_]=some w_:=by
 have hc:=rJ lA_ rfl cs h;have hz:cF!<=big:=by unfold big;omega
 have zc:Fx 2 [] (CG r_ j_) iJ_ aS_ iK! [some (.tup lC!),some (.tup lB_)]=some (.lst ku_):=by
  show(if(hK!).length<=big then Option.map D.lst (Ef iJ_ aS_ iK! lA_ hK!)else none)=_;rw[hc.2,KM hz,hc.1];rfl
 have gr:Qs [.lst ku_]=some w_:=by
  simp only[Qs,xY,RX];simp
 push_cast[Hg,Ou,zc,gr]
def a4i(x:D)(r:e!):Bf (.tup (x::r)) d4_ none=some (.tup r):=by
 have Y:HT.sIx (aJ!+1) 0 d4_=1:=by
  simp[HT.sIx]
 have h2:HT.sIx (aJ!+1) (aJ!+1) none=aJ!+1:=by simp[HT.sIx]
 simp[Bf,Dm,Y,h2]
def iS(hk:(gb!).lookup k=some (.tup fs))(hp:Hg t [.tup r,.tup fs]=some w_)(hc:k≠"cut"):Ia t [.tup dg_]=some w_:=by
 have h0:¬(hg!+1=0):=by omega
 have he:Ax (.int (hg!+1)) I!=some Z!:=by simp[Ax,Ba,Gx,Ej,h0]
 push_cast[Ia,Og,he,AD,hk,Wj,hp,a4i,hc]
def c8a(nd:t.nd)(h:DG d):Ia t [d]=some w_:=by
 obtain⟨i1,i2,i3,i4,i5,i6,i7,i8,i9⟩:=c7s nd;have two:∀{a b:Addr×D} {P:lE_},P a->P b->∀c∈ag_,P c:=λY h2 c hc=>by
  simp only[KG,MO,QR]at hc;obtain rfl|rfl:=hc
  .exact Y
  .exact h2
 have vt:∀{a b c:Addr×D} {P:lE_},P a->P b->P c->∀x∈hM!,P x:=λY h2 h3 c hc=>by
  simp only[KG,MO,QR]at hc;obtain rfl|rfl|rfl:=hc
  .exact Y
  .exact h2
  .exact h3
 have one:∀{a:Addr×D} {P:lE_},P a->∀x∈[a],P x:=λY c hc=>by rw[LB.mp hc];exact Y
 cases h with
 |@put a b Y h2=>exact iS rfl (iV [el_,(t.A7,b)] (two em! ⟨_,i2,xP h2⟩) c!) i_
 |@move a b c Y h2 h3=>exact iS rfl (iV [el_,(t.A0,b),(t.A7,c)] (vt em! ⟨_,i1,nI h2⟩ ⟨_,i2,xP h3⟩) c!) i_
 |@drop a Y=>exact iS rfl (iV [el_] (one em!) c!) i_
 |@write a b s Y h2 h3 h4 h5=>exact iS rfl (iV [el_,(t.A8,b),(t.A9,.str s)] (vt em! ⟨_,i3,b8s h2⟩ ⟨_,i4,c7x h3 h4 h5⟩) c!) i_
 |@cut a x y z m Y h2 h3 h4=>
  have hz:0<=z:=by obtain⟨_,_,_,e,_,_,_,_,q,_⟩:=h2;cases e;exact q
  have hp:=iV (t:=t) [el_,(t.B0,.tup kd_),(t.B1,.int m)] (vt em! ⟨_,i5,rD h2⟩ ⟨_,i6,a0v ek_ h3⟩) c!;have he:Ax m8! I!=some Z!:=by simp[Ax,Ba,Gx,Ej]
  have hk:(gb!).lookup ("cut":Str)=some (.tup tU!):=rfl;simp only[KL,QC]at hp
  push_cast[Ia,Og,he,AD,hk,Wj,hp,a4i,h4]
 |@set a p n Y h2 h3 h4=>exact iS rfl (iV [el_,(t.B2,.int p),(t.B3,.int n)] (vt em! ⟨_,i7,b0a h2 h3⟩ ⟨_,i8,a0u h4⟩) c!) i_
 |@undo a Y=>exact iS rfl rk_ i_
 |@redo a Y=>exact iS rfl rk_ i_
def d2g(nd:t.nd)(Y:0<=h)(h2:h<16)(h3:1<=n)(h4:n<=2000)(h5:fA_)(h6:m<=1000)(hd:DG d):By t [.tup [aP!,aO!,d0_,d]]=some w_:=by push_cast[By,Kz,qN ⟨h,n,rfl,Y,h2,h3,h4⟩,a0v (i:=m) ek_ h5,c8a nd hd]
def mD(h:NameG x):Ba x=true/\Gx x<=1:=by obtain⟨a,b,rfl,_⟩:=h;simp[Ba,Bu,Gx,Di]
def eM(h:Bm x):Ba x=true/\Gx x<=1:=by
 obtain rfl|rfl|h:=h
 .simp[Ba,Gx]
 .simp[Ba,Gx]
 .exact mD h
def yL(h:Jq x):Ba x=true/\Gx x<=1:=by
 obtain rfl|h:=h
 .simp[Ba,Gx]
 .exact mD h
def a8b(h:Kh x):Ba x=true/\Gx x<=1:=by obtain rfl|⟨a,b,c,rfl,_⟩:=h<;>simp[Ba,Bu,Gx,Di]
def d1f(h:DG d):Ba d=true/\Gx d<=2:=by
 cases h with
 |put Y h2=>simp only[Ba,Bu,Gx,Di,eM Y,yL h2,QD,TQ];have:=(en!).2;have:=(yL h2).2;omega
 |move Y h2 h3=>simp only[Ba,Bu,Gx,Di,eM Y,eM h2,yL h3,QD,TQ];have:=(en!).2;have:=(eM h2).2;have:=(yL h3).2;omega
 |drop Y=>simp only[Ba,Bu,Gx,Di,eM Y,QD,TQ];have:=(en!).2;omega
 |write Y h2=>simp only[Ba,Bu,Gx,Di,eM Y,a8b h2,QD,TQ];have:=(en!).2;have:=(a8b h2).2;omega
 |cut Y=>simp only[Ba,Bu,Gx,Di,eM Y,QD,TQ];have:=(en!).2;omega
 |set Y=>simp only[Ba,Bu,Gx,Di,eM Y,QD,TQ];have:=(en!).2;omega
 |undo Y=>simp only[Ba,Bu,Gx,Di,mD Y,QD,TQ];have:=(mD Y).2;omega
 |redo Y=>simp only[Ba,Bu,Gx,Di,mD Y,QD,TQ];have:=(mD Y).2;omega
nonrec def hs(os:l_)(h:Int):List Op:=os.filter λo=>decide (o.h=h)
structure CP(l:l_):Prop where
 num:∀(i:Nat) (o:Op),l[i]?=some o->o.n=fC_+1
 tim:l.Pairwise λa b=>a.tm<b.tm
structure CM(o:Op):Prop where
 hh:o.h=0\/o.h=5\/o.h=15
 t1:1<=o.tm
 t2:o.tm<=1000
 n1:1<=o.n
 n2:o.n<=2000
 dg:DG o.d
structure Hist(os:l_):Prop where
 ch:∀h,CP fM!
 op:∀o∈os,CM o
def CP.nil:CP []:=⟨λi o e=>by simp at e,jk_⟩
def CP.snoc{o:Op}(h:CP l)(e:o.n=(at!:Nat)+1)(ht:∀x∈l,x.tm<o.tm):CP (l++[o]):=by
 refine⟨λi x hx=>?_,?_⟩
 .obtain c|c:=OU i at!
  .rw[NW c]at hx;exact h.num i x hx
  .rw[ML c]at hx;obtain z|z:=Nat.eq_zero_or_pos (i - at!)
   .rw[z]at hx;simp at hx;subst hx;rw[e];omega
   .rw[NB a4!]at hx;cases hx
 .rw[TV];exact⟨h.tim,List.pairwise_singleton _ _,λa ha b J=>by rw[lq!];exact ht a ha⟩
def eY{a b:l_}{h:Int}:hs (a++b) h=hs a h++hs b h:=by unfold hs;rw[UJ]
def nF{o:Op}{h:Int}:hs [o] h=if o.h=h then[o]else[]:=by
 unfold hs;by_cases c:o.h=h
 .rw[KM c,NE rm_];rfl
 .rw[KN c,NG rm_];rfl
def jB{os:l_}:o∈hs os h↔o∈os/\o.h=h:=by unfold hs;rw[NH];simp
def Hist.nil:Hist []:=⟨λh=>CP.nil,λo ho=>by cases ho⟩
def Hist.snoc{os:l_}{o:Op}(h:Hist os)(hf:CM o)(e:o.n=((hs os o.h).length:Nat)+1)(ht:∀x∈os,x.h=o.h->x.tm<o.tm):Hist (os++[o]):=by
 refine⟨λk=>?_,aE!⟩
 .rw[eY,nF];by_cases c:o.h=k
  .rw[KM c];subst c;exact(h.ch _).snoc e λx hx=>ht x (jB.mp hx).1 (jB.mp hx).2
  .rw[KN c,LR];exact h.ch k
 .obtain z|z:=KR.mp hx
  .exact h.op x z
  .rw[ek!];exact hf
structure HW(i:Nat)(os:l_)(c t:iv!):Prop where
 hist:Hist os
 len:aQ!=i
 q:∀h,c h=((fM!).length:Nat)
 u:∀x∈os,x.tm<=t x.h
 b:∀h,0<=t h/\t h<=3*i
def CM.ok(h:CM o):Ui o.v:=⟨o.h,o.n,o.tm,o.d,rfl,by obtain z|z|z:=h.hh<;>omega,by obtain z|z|z:=h.hh<;>omega,h.n1,h.n2,h.dg⟩
def a0o(os:l_)(h:Int):(fM!).length<=aQ!:=PQ _ _
def HW.step{os:l_}{c t:iv!}(hw:HW i os c t)(ha:a=0\/a=5\/a=15)(h0:0<=m)(hi:i<100)(hd:DG dd):HW Z_ (os++[⟨a,c a+1,t a+1+m / 3%3,dd⟩]) (λh=>if h=a then c a+1 else c h) (λh=>if h=a then t a+1+m / 3%3 else t h):=by
 have m1:0<=m / 3%3:=NY _ b!;have m2:m / 3%3<3:=NK _ b!;have hc:=hw.q a;have J:=hw.b a;have hl:=a0o os a;rw[hw.len]at hl;refine⟨hw.hist.snoc ⟨ha,by show 1<=t a+1+m / 3%3;omega,by show t a+1+m / 3%3<=1000;omega,by show 1<=c a+1;omega,by show c a+1<=2000;omega,hd⟩ (by show c a+1=((hs os a).length:Nat)+1;omega) (λx hx (hh:x.h=a)=>by have:=hw.u x hx;rw[hh]at this;show x.tm<t a+1+m / 3%3;omega),by rw[LK,hw.len];rfl,fv!,aE!,fv!⟩
 .show(if h=a then c a+1 else c h)=_;rw[eY,nF,LK];by_cases e:h=a
  .rw[KM e,e,A!,hc];simp
  .rw[KN e,KN (LQ e),hw.q h];simp
 .show _<=if x.h=a then t a+1+m / 3%3 else t x.h
  obtain z|z:=KR.mp hx
  .have:=hw.u x z;split
   .rename_i e;rw[e]at this;omega
   .exact this
  .rw[ek!,A!];exact PH _
 .show 0<=rq!/\rq!<=_;have:=hw.b h;split<;>omega
section
def b4m(hv:fv ρ=some d)(hx:rr_)(hl:lK!)(hk:Ec ds.length j=some k):Ve i fx fv ρ=some (.nx yJ!):=by unfold Ve;rw[hv,hx,hl];show(o6_).map _=_;rw[hk];rfl
def a0f(hx:rr_)(hl:lK!)(h:De ds j=some d):Lm i fx ρ=some d:=by unfold Lm;rw[hx,hl];exact h
def c8y(hf:cA_)(hl:lK!)(J:g!<big):Pd i f ρ=some yG!:=by unfold Pd;rw[hf,hl];show(if g!<big then _ else _)=_;rw[KM J]
def c2v(h:cA_)(n:Ee d=true):Nr f ρ=some d:=by unfold Nr;rw[h];show(if Ee d=true then _ else _)=_;rw[KM n]
end
def b6l:Dk (.int 7) b8!=some (.int (7*j)):=rfl
def b3i{base j m kk a c t:Int}{os cs ts:e!}(em:Bh [ca!,.int (base+7*j)]=some b7_)(ed:Ka [ca!,.int (base+7*j+1),.lst os,fO_]=some dd)(nd:Ee dd=true)(z:m%3=kk)
  (hc:De cs kk=some pL_)(ht:De ts kk=some (.int t))(kc:Ec cs.length kk=some k)(kt:Ec ts.length kk=some k)(bz:De ru_ kk=some ru!)(ht':De rw! kk=some rv_)
  (ha:De [D.int 0,fO_,.int 15] kk=some pJ!)(J:aQ!<big):
  Vv [ac!,am_,some N,some (.lst os),some (.lst cs),some (.lst ts),some b8!,x7,x8,x9]=some (.nx [ac!,am_,some N,some (.lst (os++[.tup [.int a,.int (c+1),.int rv!,dd]])),some (.lst ru_),some (.lst rw!),some b8!,pn!,some (.int kk),some dd]):=by
 refine(bK (iF (gA (bL rfl (bL rA_ rfl)) em))).trans ?_;refine(bK (iF (bV rfl rfl ((zF b!).trans (by rw[z]))))).trans ?_;refine(bK (b4m (bV (a0f rfl rfl hc) rfl rfl) rfl rfl kc)).trans ?_;refine(bK (b4m (bV (bV (a0f rfl rfl ht) rfl rfl) (bV (bV rfl rfl rfl) rfl (zF b!)) rfl) rfl rfl kt)).trans ?_;refine(bK (iF (c2v (gA (bL rfl (bL (bV rA_ rfl rfl) hS_)) ed) nd))).trans ?_;exact c8y (yH (bL (bV rfl rfl ha) (bL (a0f rfl rfl bz) (bL (a0f rfl rfl ht') fo_))) rfl) rfl J
def b0p(ns:v!)(base:Int)(N:Nat)(hN:N<=100):∃os:List Op,Jp [ca!,.int base,.int N]=some lQ!/\aQ!=N/\Hist os/\∀x∈os,x.tm<=3*N:=by
 let P:Nat->Ag->Prop:=λi ρ=>∃(os:l_) (c t:iv!) (x6 x7 x8 x9:X!),ρ=rF!/\aQ!=i/\HW i os c t
 obtain⟨ρ',e,os,c,t,x6,x7,x8,x9,rfl,hl,hw⟩:=oP (bnd:=Cj 6) (q:=Vv) P fm_ 0
  hV_
  ⟨[],qm!,qm!,none,none,none,none,rfl,rfl,.nil,rfl,bT_,λx h=>k0_,λ_=>by simp⟩ (by
   rintro j d ρ hd ⟨os,c,t,x6,x7,x8,x9,rfl,hl,hw⟩;unfold Dj at hd;rw[LZ]at hd;obtain⟨i',cr,rfl⟩:=KI.mp hd;obtain⟨al,he⟩:=KS.mp cr;rw[SG]at he;subst he;rw[OV]at al;have ho:∀o∈os.map Op.v,Ui o:=λo ho=>by obtain⟨x,hx,rfl⟩:=KY.mp ho;exact(hw.hist.op x hx).ok
   have lq:(au!).length<=100:=by rw[KQ];omega
   obtain⟨m,em,m0,_⟩:=fX ns (k:=base+7*(j:Nat));obtain⟨dd,ed,hd⟩:=c3j ns (base:=base+7*(j:Nat)+1) (most:=5) ho lq b! b!;have nd:=a7e hd;have J:(au!).length<big:=by unfold big;omega
   have yz:m%3=0\/m%3=1\/m%3=2:=by omega
   obtain z|z|z:=yz
   .exact⟨_,_,rfl,lT_,_,_,_,_,_,_,_,lU!,d2_,hw.step an_ a! a! hd⟩
   .exact⟨_,_,rfl,lT_,_,_,_,_,_,_,_,lU!,d2_,hw.step ec! a! a! hd⟩
   .exact⟨_,_,rfl,lT_,_,_,_,_,_,_,_,lU!,d2_,hw.step (.inr gt_) a! a! hd⟩)
 refine⟨os,?_,by simpa[Dj]using hl,hw.hist,λx hx=>by have:=hw.u x hx;have:=hw.b x.h;simp[Dj]at this;omega⟩;have hr:-1000<=(N:Int)/\(N:Int)<=100000:=by omega
 have hf:Rb (Ew A_) gF! Vv hV_=some (.nx rF!):=by
  have hi:Ew A_ hV_=some fm_:=by
   simp[Ew,Aa,hr]
  unfold Rb;rw[hi];exact e
 have hq:Qg rG_=some (.rt lQ!):=by
  show sSeq (Ma 3 Ae) (sSeq (Ma 4 js_) (sSeq (Ma 5 js_) (sSeq (Rb (Ew A_) gF! Vv) (Bd C_)))) _=_;rw[bK (ρ':=[ac!,am_,ep_,hy!,none,none,none,none,none,none]) rfl];rw[bK (ρ':=[ac!,am_,ep_,hy!,lT!,none,none,none,none,none]) rfl];rw[bK (ρ':=hV_) rfl];rw[bK hf];rfl
 unfold Jp Ce;rw[jr!];show(match Qg rG_ with|some (.rt d)=>some d|some (.nx _)=>some .non|none=>none)=_;rw[hq]
def d0d(nd:t.nd)(h:CM o):By t d6!=some w_:=by
 have a1:0<=o.h/\o.h<16:=by obtain z|z|z:=h.hh<;>omega
 exact d2g nd a1.1 a1.2 h.n1 h.n2 h.t1 h.t2 h.dg
def b6h(hf:∀a b,f a=f b->a.h=b.h):∀(os:l_),(∀h,((fM!).map f).Nodup)->(os.map f).Nodup
 |[],_=>NU
 |o::os,H=>by
  have sub:∀h,(fM!).Sublist (hs hu_ h):=λh=>by unfold hs;exact(List.sublist_cons_self o os).filter _
  rw[KL,LA];refine⟨dh_,b6h hf os λh=>((sub h).map f).nodup (H h)⟩;obtain⟨x,hx,e⟩:=KY.mp z;have hh:=hf _ _ e;have H1:=H o.h;have:hs hu_ o.h=o::hs os o.h:=by unfold hs;rw[NE c!]
  rw[this,KL,LA]at H1;exact H1.1 (KY.mpr ⟨x,jB.mpr ⟨hx,hh⟩,e⟩)
def Hist.names{os:l_}(h:Hist os):(qv!).Nodup:=by
 refine b6h rH_ os λk=>?_
 .show"#;";exact e.1
 .have hn:=(h.ch k).num;rw[SC,UP,SI];intro i j hi hj WO e;have e1:=hn i _ (KZ hi);have e2:=hn j _ (KZ hj);show"#;";omega
def Hist.keys{os:l_}(h:Hist os):(os.map Op.key).Nodup:=by
 refine b6h rH_ os λk=>?_
 .simp only[Op.key,Prod.mk.injEq]at e;exact e.2
 .rw[SC,UP];refine(h.ch k).tim.imp λ{a b} k9 e=>?_;simp only[Op.key,Prod.mk.injEq]at e;omega
end K20
namespace K20
open PySem L2 DL
open Classical
def oH(h:b6_)(hd:Gx d<=40):Ev d d=some Z!:=by unfold Ev;rw[h,pC d h,LG hd];rfl
def a5t(o:Op):Ai o.v bz_=some fx!:=by simp[Op.v,Ai,De,Ec]
def gC:∀{ds:e!},(∀d∈ds,Ba d=true)->Bu ds=true
 |[],_=>by simp[Bu]
 |d::ds,h=>by
  unfold Bu;rw[h d KD,gC λx hx=>h x ca_];rfl
def iR:∀{ds:e!},(∀d∈ds,Gx d<=n)->Di ds<=n
 |[],_=>by simp[Di]
 |d::ds,h=>by
  unfold Di;have Y:=h d KD;have h2:=iR λx hx=>h x (KA d hx);omega
def a8y{o:Op}(h:DG o.d):Ba o.v=true/\Gx o.v<=5:=by
 obtain⟨Y,h2⟩:=d1f h;show"!w"
 .show Bu kS!=true;refine gC λd hd=>?_;simp only[KG,MO,QR]at hd;obtain rfl|rfl|rfl|rfl:=hd
  .rfl
  .rfl
  .rfl
  .exact Y
 .show Di kS!+1<=5;have:Di kS!<=2:=iR λd hd=>by
   simp only[KG,MO,QR]at hd;obtain rfl|rfl|rfl|rfl:=hd
   .simp[Gx]
   .simp[Gx]
   .simp[Gx]
   .exact h2
  omega
nonrec def hF(yy:Int)(ta wa:u0!)(out:D):List b7!:=[("ours",.int yy),("taken",.fn ta),("waiting",.fn wa),("outline",out)]
section
def hF1:List.lookup rL_ cP_=some (D.int yy):=by kernel_rfl
def hF2:List.lookup rM_ cP_=some (D.fn ta):=by kernel_rfl
def hF3:List.lookup rN_ cP_=some (D.fn wa):=by kernel_rfl
def hF4:List.lookup lY_ cP_=some out:=by kernel_rfl
def hM1:List.lookup (Str.ofString "have") cP_=none:=by kernel_rfl
def hP1:Ih rL_ lZ! []=[dq_]:=by kernel_rfl
def hP2:Ih rM_ lZ_ [dq_]=fQ!:=by kernel_rfl
def hP3:Ih rN_ (.fn wa) fQ!=fQ_:=by kernel_rfl
def hP4:Ih lY_ .non fQ_=hF yy ta wa .non:=by kernel_rfl
def hP5:Ih lY_ o2 cP_=hF yy ta wa o2:=by kernel_rfl
end
structure Bt(t:Bk)(M:Mh)(yy:Int)(a ta wa:u0!)(out:D)(S:l_)(kl:v!)(ca:fR_):Prop where
 ob:M a=some (.obj t.B5 cP_)
 tk:∃ep,M ta=some (.dct fR! ep)
 wt:M wa=some eb!
 cl:∀h∈kl,M (ca h)=some (.lst ((dr!).map Op.v))
 nk:kl.Nodup
 mem:∀h,h∈kl↔hs S h≠[]
 cw:∀h∈kl,ca h≠wa
 ci:∀h∈kl,∀h'∈kl,ca h=ca h'->h=h'
 len:hZ_<=cQ!
def gD{g:Int->D}:∀{kl:v!} {x:Int},kget (kl.map λh=>(D.int h,g h)) (.int x)=if x∈kl then some (g x)else none
 |[],x=>by simp[kget]
 |k::kl,x=>by
  rw[KL];unfold kget;by_cases e:k=x
  .subst e;simp
  .rw[KN λz=>e l0!,gD];simp[LQ e]
section
def Bt.nob(hA:ag!)(hm:(cP_).lookup m=none):Dr t.B5 m M b3!:=by show(match M a with|some (.obj C' fs)=>C'=t.B5/\fs.lookup m=none|_=>False);rw[hA.ob];exact⟨rfl,hm⟩
def Bt.nol(hA:ag!)(hh:h∉kl):hs S h=[]:=SK λz=>hh ((l0_).mpr z)
def Bt.keep(hA:ag!)(k:l1!):Bt t M' yy a ta wa out S kl ca:=by obtain⟨ep,ht⟩:=hA.tk;exact{hA with ob:=(k a fS!).trans hA.ob,tk:=⟨ep,(k ta h0!).trans ht⟩,wt:=(k wa h0_).trans hA.wt,cl:=λh hh=>(k _ h1!).trans l2!}
def sH(hA:ag!):Qu gr! [v_,aP!] M l2_:=λK hK=>by
 show"#!";refine h!;by_cases c:h∈kl
 .have hl:Xb M [.fn (ca h)]=some l2_:=by
   show((Ry M h1_).map λxs=>D.int i!)=_;simp only[Ry,hA.cl h c,RX,KQ]
  exact dD (a2c (nU fS_ fT! q2_ ht (k:=l4!) rfl (by rw[gD,KM c];rfl)) hl) hK
 .have hl:Xb M [hF!]=some l2_:=by rw[hA.nol c];rfl
  exact dD (a2c (nU fS_ fT! q2_ ht (k:=l4!) rfl (by rw[gD,KN c];rfl)) hl) hK
def yG{o:Op}(hA:ag!):Qu (Fv t) h2! M (.bl (decide (o.n<=eq_))):=λK hK=>by
 refine h!;exact dD (dS l5! rX! rfl) hK
def a6t{o:Op}(hA:ag!):Qu (Gu t) h2! M (.bl rY!):=λK hK=>by
 refine h!;exact dD (dS l5! (dS rX! h2_ (d:=.int (eq_+1)) rfl) h3!) hK
nonrec def lt(S:l_)(h:Int):Int:=((dr!).getLast?.map Op.tm).getD 0
def c2m(h:xs.getLast?=some v):De xs (-1)=some v:=by
 have hl:0<i!:=by cases xs with|nil=>cases h|cons a l=>simp
 show"#1";rw[KN a!,aI!];show xs[((-1:Int)+i!).toNat]?=_;rw[show((-1:Int)+xs.length).toNat=xs.length - 1 by omega,<-List.getLast?_eq_getElem?];exact h
def oQ(hA:ag!):Qu (Ez t) [v_,aP!] M (.int (lt S h)):=λK hK=>by
 show"#!";refine h!;show Af u1! u1_ [u!,h3_] M _;have hv:=kW (dS (g:=λ_=>Ax) (ρ:=[u!,h3_]) (fH l6! l5_ (aQ (f:=Aa 1) (d:=aP!) rfl) (sH hA)) (aQ (f:=fC I!) rfl) h3!);by_cases c:hs S h=[]
 .rw[c]at hv;refine mU hv (dD hE_ ?_);unfold lt at hK;rw[c]at hK;exact hK
 .have hl:0<(dr!).length:=List.length_pos_iff.mpr c;rw[show((rT_:Int)==0)=false from by rw[NC];omega]at hv;refine fI hv ?_;have hk:=(l0_).mpr c;obtain⟨o,ho⟩:∃o,(hs S h).getLast?=some o:=by cases e:(dr!).getLast? with|some o=>exact⟨o,rfl⟩|none=>exact absurd (SJ.mp e) c
  have i1:Bs M lZ_ fT_=some h1_:=(r0_).trans (by rw[gD,a6!]);have i2:Bs M h1_ (.int (-1))=some o.v:=by
   simp only[Bs,hA.cl h hk];exact c2m (by rw[List.getLast?_map,ho];rfl)
  have e:lt S h=o.tm:=by unfold lt;rw[ho];rfl
  rw[e]at hK;exact dD (dS (dS (dS fS_ fT! i1) (aQ (d:=.int (-1)) rfl) i2) r1_ (a5t o)) hK
def b2j(hy:fy ρ=some lZ!)(hR:∀a ta wa M',Bt t M' yy a ta wa .non [] [] (λ_=>a)->R b3! M'):Hn t.B5 2 (On t) (Ab (wl fy) Ad) ρ M R:=by
 unfold Hn Ab Ad;rw[cR hy];refine⟨rfl,λa ha=>h!⟩;have L:HL M (mup M a (.obj t.B5 [])) [r4!]:=HL.new (l:=[]) qt_ ha;refine kR ?_;rw[cR (f:=Aa 1) (d:=h5!) rfl];refine gF (fs:=[]) rfl (L.cell r4! c!) b! hP1 ?_
 replace L:=L.put (u:=[]) (c:=.obj t.B5 [dq_])
 refine kR λta hta=>?_
 replace L:=L.new (c:=ea!) hta
 refine gF (fs:=[dq_]) rfl (L.cell (a,.obj t.B5 [dq_]) c!) Cf! hP2 ?_
 replace L:=L.put (u:=[_]) (c:=.obj t.B5 fQ!)
 refine kR ⟨W_,λwa hwa=>?_⟩
 replace L:=L.new (c:=hF!) hwa
 refine gF (fs:=fQ!) rfl (L.cell (a,.obj t.B5 fQ!) c!) Cg! hP3 ?_
 replace L:=L.put (u:=[_,_]) (c:=.obj t.B5 fQ_)
 refine nR ?_;rw[l9_];refine gF (fs:=fQ_) rfl (L.cell (a,.obj t.B5 fQ_) c!) Cg_ hP4 ?_
 replace L:=L.put (u:=[_,_]) (c:=.obj t.B5 r7_)
 exact⟨rfl,hR a ta wa _ ⟨L.cell (a,.obj t.B5 r7_) c!,⟨0,L.cell (ta,.dct [] 0) c!⟩,L.cell (wa,.lst []) c!,mb_,NU,λh=>by simp[hs],mb_,mb_,KU _⟩⟩
end
section
def cN(hp:bt_):Dx M x_=some kS_:=by simp[Dx,hp]
def xX(hp:qz_):Nt M x_=some (p,xs):=by simp[Nt,hp]
def JC(fa:o_)(ρ:Ag)(d:D)(M:Mh)(R:T_):Prop:=Ed (Nt M d) λ_=>wl fa ρ M λv M2=>Ed (Nt M2 d) λq=>p9_<big/\R .non BB!
def c0p(h:fo ρ M λd M1=>JC fa ρ d M1 λ_ M2=>q ρ M2 R):Af (Bq (Vw fo ht_)) q ρ M R:=h
def a4r(hp:qz_)(hf:f ρ=some v)(hl:i!<big)(k:R .non (mup M p (.lst (xs++[v])))):JC f ρ x_ M R:=by refine gY ?_;rw[cR hf,xX hp];exact gY ⟨hl,k⟩
def c0l(ho:k3_)(Y:q9_)(hp:bt_)(hk:aP_)(hl:cJ!)
  (old:∀q v,M q=none->kget h1 y=some v->K v fV!)(new:∀q,M q=none->kget h1 y=none->K cK_ (mup fV! p (.dct (Br h1 y cK_) cb!))):Jt fo ht_ (Ri Ad) ρ M K:=by
 refine ho _ ?_;rw[cN hp];refine gY ?_;rw[cR Y];refine⟨W_,d9_⟩;have pq:p≠q:=dU sc_ hq;show Ed (Dx fV! x_) _;rw[cN ((mup_ne pq).trans hp)];refine gY ?_;rw[hk];refine gY ⟨hl,?_⟩;cases e:kget h1 y with
 |some v=>exact old q v hq e
 |none=>exact new q hq e
def yE(hA:ag!)(hS:by!)(hR:∀M' bh bi,Bt t M' yy a ta wa .non md_ bh bi->R .non M'):Jo t h2! M R:=by
 obtain⟨ep,ht⟩:=hA.tk;refine h!;refine c0p ?_;have i0:f2 Ai r_ F_ [u!,J_]=some cf!:=kY o;have YA:hZ_<64:=NA hA.len hS;have q9:(dr_).length<64:=NA (a0o S o.h) hS;have at_:a≠ta:=λz=>by have:=hA.ob;rw[z,ht]at this;cases this
 have aw:a≠wa:=λz=>by have:=hA.ob;rw[z,hA.wt]at this;cases this
 have tw:ta≠wa:=λz=>by rw[z,hA.wt]at ht;cases ht
 have cA:∀h∈kl,ca h≠a:=λh hh z=>by have:=hA.cl h hh;rw[z,hA.ob]at this;cases this
 have cT:∀h∈kl,ca h≠ta:=λh hh z=>by have:=hA.cl h hh;rw[z,ht]at this;cases this
 refine c0l (k:=h7!) fS_ i0 ht rfl eg_ (λq v hq e=>?_) (λq hq e=>?_)
 .have aq:a≠q:=dU fS! hq;have tq:ta≠q:=dU h0! hq;have wq:wa≠q:=dU h0_ hq;have cq:∀h∈kl,ca h≠q:=λh hh=>dU h1! hq;rw[gD]at e;have c:o.h∈kl:=by
   by_cases c:o.h∈kl
   .exact c
   .rw[KN c]at e;cases e
  rw[KM c]at e;cases e;refine a4r (p:=ca o.h) (v:=o.v) ((mup_ne (cq _ c)).trans (hA.cl _ c)) rfl eg_ ?_;generalize e2:mup fV! (ca o.h) sf_=M2;have m2:∀b,b≠q->b≠ca o.h->M2 b=M b:=λb Y h2=>by rw[<-e2,ka_,e9!]
  have m2c:M2 (ca o.h)=some sf_:=by rw[<-e2];exact mup_same
  refine nR ?_;rw[l9_];refine gF (fs:=sg!) rfl ((m2 a aq (LQ (cA _ c))).trans hA.ob) k1! hP5 ?_;refine hR _ kl ca ⟨mup_same,⟨ep,?_⟩,?_,mf_,hA.nk,fv!,hA.cw,hA.ci,?_⟩
  .rw[sg_,m2 ta tq (LQ (cT _ c))];exact ht
  .rw[sh_,m2 wa wq (LQ (hA.cw _ c))];exact hA.wt
  .rw[mup_ne (cA h hh),eY,nF];by_cases z:o.h=h
   .rw[KM z,<-z,m2c,LL];rfl
   .rw[KN z,LR,m2 _ (cq h hh) λy=>z (hA.ci _ hh _ c y).symm];exact hA.cl h hh
  .rw[eY,nF];by_cases z:o.h=h
   .rw[KM z];subst z;simp[c]
   .rw[KN z,LR];exact hA.mem h
  .rw[LK];have:=hA.len;omega
 .have aq:a≠q:=dU fS! hq;have tq:ta≠q:=dU h0! hq;have wq:wa≠q:=dU h0_ hq;have cq:∀h∈kl,ca h≠q:=λh hh=>dU h1! hq;rw[gD]at e;have c:o.h∉kl:=by
   by_cases c:o.h∈kl
   .rw[KM c]at e;cases e
   .exact c
  have ph:Br fR! cf! cK_=fR!++sk!:=jP (λz=>by
   rw[MD]at z;obtain⟨x,hx,ex⟩:=KY.mp z;exact c (by rw[<-D.int.inj ex];exact hx))
  rw[ph];refine a4r (p:=q) (v:=o.v) (xs:=[]) ((mup_ne (LQ tq)).trans mup_same) rfl b! ?_;generalize e2:mup (mup fV! ta sl!) q (.lst ([]++d6!))=M2;have m2:∀b,b≠q->b≠ta->M2 b=M b:=λb Y h2=>by rw[<-e2,e9!,ka_,e9!]
  have m2q:M2 q=some (.lst d6!):=by rw[<-e2];exact mup_same
  have m2t:M2 ta=some sl!:=by rw[<-e2,mup_ne tq];exact mup_same
  refine nR ?_;rw[l9_];refine gF (fs:=sg!) rfl ((m2 a aq at_).trans hA.ob) k1! hP5 ?_;have nc:∀h∈kl,h≠o.h:=λh hh z=>c (z▸hh);have yr:hs S o.h=[]:=hA.nol c;refine hR _ (kl++[o.h]) (λh=>if h=o.h then q else ca h) ⟨mup_same,⟨ep+1,?_⟩,?_,mf_,?_,fv!,mf_,λh hh h' ow ee=>?_,?_⟩
  .rw[sg_,m2t,LL];congr 3
   .apply NO;intro h hh;rw[KN (nc h hh)]
   .show _=[(D.int o.h,D.fn (if o.h=o.h then q else ca o.h))];rw[A!]
  .rw[sh_,m2 wa wq (LQ tw)];exact hA.wt
  .show mup M2 a _ mi_=_;by_cases z:h=o.h
   .rw[KM z,mup_ne (LQ aq),m2q,z,eY,nF,A!,yr];rfl
   .have ow:h∈kl:=(KR.mp hh).resolve_right λy=>z mj!;rw[KN z,mup_ne (cA h ow),m2 _ (cq h ow) (cT h ow),eY,nF,KN (LQ z),LR];exact hA.cl h ow
  .rw[LX];exact⟨hA.nk,Ek!,λx hx y hy=>by rw[LB.mp hy];exact nc x hx⟩
  .rw[eY,nF,KR,LB];by_cases z:o.h=h
   .rw[KM z];simp[z]
   .rw[KN z,LR,<-hA.mem h];simp[LQ z]
  .show mi_≠wa;by_cases z:h=o.h
   .rw[KM z];exact LQ wq
   .rw[KN z];exact hA.cw h ((KR.mp hh).resolve_right λy=>z mj!)
  .have g:∀x,x∈kl++[o.h]->x≠o.h->x∈kl:=λx hx z=>(oJ!).resolve_right λy=>z mj!;have rf:mi_=(if h'=o.h then q else ca h'):=ee;by_cases z:h=o.h
   .by_cases z':h'=o.h
    .rw[z,z']
    .rw[KM z,KN z']at rf;exact absurd rf.symm (cq h' sn_)
   .by_cases z':h'=o.h
    .rw[KN z,KM z']at rf;exact absurd rf (cq h (g h hh z))
    .rw[KN z,KN z']at rf;exact hA.ci h (g h hh z) h' sn_ rf
  .rw[LK,LK];have:=hA.len;simp;omega
def a5q(h:Pu f ρ M x_)(hp:M p=some eb!):Pu (Bi nl ix (Cv f) bnd ft fe) ρ M eb!:=λK hK=>by
 refine h _ ?_;show(match M p with|some (.lst xs)=>_|_=>False);rw[hp];exact⟨LY _,hp,hK⟩
def b0w(h:k6!)(k:d5_):Af (Jb ft q) q2 ρ M R:=by refine e9_;refine h _ ?_;rw[Q!];exact k
def pJ(hA:ag!):Qu (Fg t) [v_] M I!:=λK hK=>by
 refine h!;refine fA hE_ ?_;refine fA (a5q (fB az_ hA.ob hF3) hA.wt) ?_;refine b0w mk_ ?_;exact dD hE_ hK
def a5l{o:Op}{R:T_}(hA:ag!)(hS:by!)(hn:o.n=eq_+1)(hR:∀M' bh bi,Bt t M' yy a ta wa .non md_ bh bi->R a7_ M'):Jl t h2! M R:=by
 refine h!;show Af vl! _ mk! M _;have hx:Sw vj! mk! M true:=by
  have e:rY!=true:=by rw[hn];exact OK _
  have:=kW (dR (ρ:=mk!) l6! (aQ (f:=Aa 1) rfl) (a6t (o:=o) hA));rw[e]at this;exact this
 refine mU hx ?_;refine gQ (mT rfl rfl (yE hA hS λM' bh bi d7=>?_));exact dD (dS h2_ (kU (aQ (f:=Aa 0) (d:=v_) rfl) (pJ d7)) (d:=.int 1) rfl) ml_
def Hist.next{os:l_}(h:Hist (S++o::os)):o.n=eq_+1:=by
 have:=(h.ch o.h).num (dr_).length o;rw[eY]at this;have e:hs hu_ o.h=o::hs os o.h:=by unfold hs;rw[NE c!]
 rw[e]at this;exact this (by rw[ML r!];simp)
def GH(t:Bk):WS:=Tb 2 vq_
def a7w:∀(os:l_) (x1:D) (k:Int) (y:X!) (M:Mh) (out:D) (S:l_) (kl:v!) (ca:fR_) (R:q_),Bt t M yy a ta wa out S kl ca->Hist (S++os)->(S++os).length<64->
  (∀M' bh bi vw y',Bt t M' yy a ta wa vw (S++os) bh bi->((out=.non->vw=.non)/\(os≠[]->vw=.non))->R (.nx [u!,O!,some (.int (k+(aQ!:Nat))),y']) M')->
  Hx L_ ad! (GH t) au! [u!,O!,mn!,y] M R
 |[],x1,k,y,M,out,S,kl,ca,R,hA,_,_,hR=>⟨trivial,by
  have:=hR M kl ca out y (by rw[LR];exact hA) ⟨id,λz=>absurd rfl z⟩;simpa using this⟩
 |o::os,x1,k,y,M,out,S,kl,ca,R,hA,hH,hl,hR=>by
  refine aO_;show Aj 2 (Jl t) dH_ [u!,O!,mn!,J_] M _;have lq:cQ!<64:=by rw[LK]at hl;omega
  refine mT rfl rfl (a5l hA lq hH.next λM' bh bi d7=>?_);have e:S++o::os=S++[o]++os:=by simp
  refine a7w os x1 M_ d8_ M' .non md_ bh bi R d7 (by rw[<-e];exact hH) sr! λM2 kl2 ca2 out2 y2 h2 hz=>?_;have h3:=hR M2 kl2 ca2 out2 y2 (by rw[e];exact h2) ⟨sr_,sr_⟩;have ek:k+((hu_).length:Nat)=k+1+(aQ!:Nat):=by rw[KO];omega
  rw[ek]at h3;exact h3
end
section
def a5g(h0:kX_)(Y:q9_)(h2:Eb!)(hp:bt_)(hk:aP_)(hl:cJ!)(hn:y∉h1.map c_)(hK:K z (mup M p (.dct (h1++[(y,z)]) cb!))):Jt cG! ht_ kV_ ρ M K:=by unfold Jt;rw[cR h0,cN hp];refine gY ?_;rw[cR Y,ei_,cN hp,hk];refine gY (gY ⟨hl,?_⟩);rw[oS hn,jP hn];exact hK
def b6f(o:Op):Ai o.nm I!=some cf!:=by simp[Op.nm,Ai,De,Ec]
def JK(t:Bk):WS:=Af go_
 (Af u5_
 u7_)
structure Nx(yy:Int)(S:l_)(o:Op):Prop where
 f:CM o
 y:o.h≠yy
 n:eq_<o.n
 t:lt S o.h<o.tm
def a9d{M0:Mh}(hA:su!)(h0:M0 p=none):∀(os dn:l_) (x1:D) (y3 y4 y5:X!) (ep:Nat) (M:Mh) (R:q_),su_->(∀o∈os,Nx yy S o)->((pl_).map Op.nm).Nodup->(pl_).length<64->M p=some (.dct sw! ep)->
  (∀M' bf zd ze y5',M' p=some (.dct ((pl_).map λo=>mp_) bf)->sx!->R (.nx [u!,O!,ac_,zd,ze,y5']) M')->
  Hx L_ ad! (JK t) au! [u!,O!,ac_,y3,y4,y5] M R
 |[],dn,x1,y3,y4,y5,ep,M,R,fr,_,_,_,hp,hR=>⟨trivial,hR M ep y3 y4 y5 (by rw[LR];exact hp) fr⟩
 |o::os,dn,x1,y3,y4,y5,ep,M,R,fr,hf,nd,hl,hp,hR=>by
  refine aO_;have ho:=hf o KD;have d7:=hA.keep fr;have e:dn++o::os=dn++[o]++os:=by simp
  have es:Ey C_ Ay cX! [u!,O!,ac_,J_,y4,y5]=some o.nm:=a8a o;refine fA (aQ es) ?_;have Y:Sw u3! mq_ M false:=by
   have:=kW (dR (ρ:=mq_) l6! (aQ (f:=Aa 3) rfl) (yG (o:=o) d7));rw[KP (by have:=ho.n;omega)]at this;exact this
  have h2:Sw u5! mq_ M false:=by
   refine kW (dS (aQ (d:=hp!) (b6f o)) (fB az_ d7.ob hF1) ?_);have:(o.h==yy)=false:=NC.mpr ho.y;rw[pB,this]
  refine kQ Y (kQ h2 ?_);have hnn:o.nm∉(sw!).map c_:=λz=>by
   rw[MD]at z;rw[LL,LX]at nd;exact nd.2.2 o.nm z o.nm c! rfl
  refine a5g (p:=p) (y:=o.nm) (z:=o.v) (k:=sA_) rfl rfl rfl hp rfl (by rw[KQ];rw[LK]at hl;unfold big;omega) hnn ?_;have h3:fT u6_ sB_=some false:=by
   obtain⟨n1,n2⟩:=a8y ho.f.dg;have:f2 Ev L! C_ sB_=some Z!:=oH n1 a!;show"!J"
  refine kQ (gX h3) ?_;refine a9d hA h0 os (dn++[o]) x1 d8_ (some o.nm) d8_ cb! _ R sC! (λx hx=>hf x ca_) (by rw[<-e];exact nd) sr! (by rw[mup_same,LL];rfl) λM' bf z3 z4 z5 g1 g2=>?_;exact hR M' bf z3 z4 z5 (by rw[e];exact g1) g2
def a6e{ms:l_}(hA:ag!)(hN:sD_)(nn:(fX!).Nodup)(hl:ig_)
  (hR:∀M' p ep,M p=none->M' p=some (.dct ih! ep)->kX!->R x_ M'):El t ii! M R:=by
 refine h!;intro p hp;have fr:∀b,M b≠none->mup M p cK! b=M b:=λb J=>mup_ne (dU J hp);have q8:=hA.keep fr;unfold Af Dp Cv;have ub:My d8! (.fn wa) ms_=some ms_:=by
  simp only[My,q8.wt];rw[KM (by rw[KQ];unfold big;simp;omega)];rfl
 refine dS (fB az_ q8.ob hF3) (aQ (d:=.lst du_) rfl) ub _ ?_;exact a9d (p:=p) hA hp ms [] _ none none none 0 _ _ fr hN (by simpa using nn) mo! mup_same λM' bf y3 y4 y5 g1 g2=>dD ii_ (hR M' p bf hp g1 g2)
def JV(t:Bk):WS:=Af u9!
 (Af va_
 vb!)
def c9w(h0:kX_)(Y:e4!)(h2:f ρ=some v)(hp:bt_)(hk:aP_)(hl:cJ!)(k':R S_ fu_):Cb cG! gU! (wl f) ρ M R:=by unfold Cb;rw[ei_,cR h0,cR Y,iH hp hk hl];exact k'
def b0e{M0:Mh}(hA:su!)(f9:M0 p=some (.dct h1 e0))(h0:M0 q=none):∀(qs:l_) (mf:n_) (ep:Nat) (y3 y4:X!) (M:Mh) (R:q_),su_->(∀o∈qs,kget h1 o.nm=some o.v/\Nx yy S o)->M q=some (.dct mf ep)->
  qs.Pairwise (λx y=>x.h=y.h->x.tm<y.tm)->(∀o∈qs,∀v,kget mf cf!=some v->∃m,v=.int m/\m<o.tm)->mf.length+qs.length<1000->
  (∀M' zd ze,sx!->R (.nx [u!,ac_,bi!,zd,ze]) M')->
  Hx L_ ad! (JV t) (qs.map Op.nm) [u!,ac_,bi!,y3,y4] M R
 |[],mf,ep,y3,y4,M,R,fr,_,_,_,_,_,hR=>⟨trivial,hR M y3 y4 fr⟩
 |o::qs,mf,ep,y3,y4,M,R,fr,hk,hq,pw,ht,hl,hR=>by
  refine aO_;have d7:=hA.keep fr;have hp:=(fr p (by rw[f9];simp)).trans f9;obtain⟨hko,ho⟩:=hk o KD;rw[NS]at pw;simp only[KO]at hl;have i1:Bs M x_ o.nm=some o.v:=(eL (k:=sA_) hp rfl).trans hko;have i2:Bs M o.v bz_=some fx!:=a5t o;refine fA (dS (dS ii_ (aQ (d:=o.nm) rfl) i1) r1_ i2) ?_;have ix:f2 Ai C_ F_ sG!=some cf!:=b6f o;obtain⟨m,em,hm⟩:∃m:Int,(kget mf (.int o.h)).getD (.int (lt S o.h))=.int m/\m<o.tm:=by
   cases e:kget mf cf! with
   |none=>exact⟨_,rfl,ho.t⟩
   |some v=>
    obtain⟨m,e1,e2⟩:=ht o KD v e;exact⟨m,e1,e2⟩
  have hc:Sw va! sG! M false:=by
   refine kW (dS (aQ (d:=kR_) rfl) (nU (aQ (d:=.fn q) rfl) (aQ ix) (dR aB! (aQ ix) (oQ d7)) hq (k:=h7!) rfl em) ?_);show some (D.bl (decide (o.tm<=m)))=_;rw[KP a!]
  refine fI hc ?_;refine c9w (p:=q) (y:=hp!) (v:=kR_) (k:=h7!) rfl ix rfl hq rfl br! ?_;refine b0e hA f9 h0 qs _ _ (some o.nm) (some fx!) _ R sC! sI_ mup_same pw.2 (λx hx v hv=>?_) (by have:=kput_len mf cf! fx!;omega) hR;by_cases c:o.h=x.h
  .rw[<-c,iU]at hv;cases hv;exact⟨_,rfl,pw.1 x hx c⟩
  .rw[mR λz=>c l0!]at hv;exact ht x ca_ v hv
def a9q{g:Op->D}:∀{l:l_},(fF_).Nodup->∀{o:Op},o∈l->kget (l.map λo=>(f o,g o)) (f o)=some (g o)
 |[],_,o,h=>by cases h
 |x::l,nd,o,h=>by
  rw[KL,LA]at nd;rw[KL];unfold kget;obtain rfl|h:=KG.mp h
  .rw[A!]
  .rw[KN λz=>nd.1 (by rw[z];exact KW h),a9q nd.2 h]
def Ol(o:Op):Int×Int:=(o.h,o.n)
def Hist.nkeys(h:Hist ms):(ms.map Ol).Nodup:=by have:=h.names;rw[SC,UP]at this ⊢;refine this.imp λ{x y} hxy e=>hxy ?_;simp only[Ol,Prod.mk.injEq]at e;show D.tup [.int x.h,.int x.n]=D.tup [.int y.h,.int y.n];rw[e.1,e.2]
def Hist.rise(h:Hist ms)(hx:x∈ms)(hy:y∈ms)(e:x.h=y.h)(hn:x.n<y.n):x.tm<y.tm:=by have iz:x∈hs ms y.h:=jB.mpr ⟨hx,e⟩;have hy':y∈hs ms y.h:=jB.mpr ⟨hy,rfl⟩;obtain⟨i,hi,ei⟩:=RU.mp iz;obtain⟨j,hj,ej⟩:=RU.mp hy';have Y:=(mw_).num i x (by rw[KZ hi,ei]);have h2:=(mw_).num j y (by rw[KZ hj,ej]);have:=SI.mp (mw_).tim i j hi hj a!;rw[ei,ej]at this;exact this
def b6x(h:Kr (Ol x) (Ol y)=true)(e:x.h=y.h):x.n<y.n:=by simp only[Kr,EN,Ol,e,MU,LO]at h;exact h
def vC(hA:ag!)(hH:il_)(hN:sD_)(hl:ig_)(hp:M p=some sL!)
  (hR:sL_):Je t [v_,.fn p] M R:=by
 refine h!;intro q hq;have qp:q≠p:=LQ (dU sc_ hq);have hp1:mup M q cK! p=some sL!:=(mup_ne (LQ qp)).trans hp;have nn:(fX!).Nodup:=by have:=mx!;rw[LL,LX]at this;exact mx_
 have nk:(ms.map Ol).Nodup:=by have:=hH.nkeys;rw[LL,LX]at this;exact mx_
 unfold Dp Cv;have ui:(im_).Perm ms:=cI ms;have hsort:Rx sN! [.fn p]=some (.lst ((im_).map Op.nm)):=by
  show((Dx sN! x_).bind λq=>(Xv hx!).map D.lst)=_;rw[cN hp1];show(Xv ((ih!).map c_)).map D.lst=_;have e1:(ih!).map c_=ms.map Op.nm:=by rw[MD];rfl
  have e2:(fX!).map kf2=ms.map Ol:=by rw[MD];rfl
  rw[e1];unfold Xv;rw[KM ⟨ON.mpr λd hd=>by obtain⟨o,_,rfl⟩:=KY.mp hd;rfl,by rw[e2];exact nk,vO!⟩];show some (D.lst (Jc kf2 fX!))=_;rw[sV (f:=Op.nm) (k:=Ol) (k':=kf2) λo=>rfl]
 refine a2c ii_ hsort _ ?_;refine b0e hA hp hq im_ [] 0 none none _ _ (λb J=>mup_ne (dU J hq)) (λo ho=>⟨a9q nn sQ!,hN o sQ!⟩) mup_same ?_ (λo _ v hv=>by cases hv) (by rw[ui.length_eq];simp;omega) λM' y3 y4 h=>hR M' h;have cm:Oq Ol im_:=jG nk;have:=List.Pairwise.and_mem.mp cm;exact this.imp λ{x y} h e=>hH.rise (KJ _ (ui.mem_iff.mp h.1)) (KJ _ (ui.mem_iff.mp h.2.1)) e (b6x (x:=x) (y:=y) h.2.2 e)
def a4p:∀{ys:e!},(∀y∈ys,y=D.bl true)->Mr ys=some sR_
 |[],_=>rfl
 |y::ys,h=>by
  rw[h y KD];show(Mr ys).map (true::·)=_;rw[a4p λx hx=>h x ca_];rfl
def a1f(h:cA_):Ac f Ae ρ=some [d]:=by unfold Ac;rw[h];rfl
def a9y(h:hm!):f1 g fs ρ=g ds:=by unfold f1;rw[h];rfl
def c3z{ms:l_}(nd:t.nd)(hH:∀o∈ms,CM o)(hl:ig_):Dd vd! in_=some false:=by
 obtain⟨ys,e,_,hr⟩:=lT (ρ:=dg!) (bnd:=Bb 0) (ft:=pR_) (fe:=f1 (By t) a7!) (λy=>y=D.bl true) du_ (by
  intro d hd;obtain⟨o,ho,rfl⟩:=KY.mp hd;exact⟨[J_],true,rfl,rfl,λ_=>⟨dt_,d0d nd (hH o ho),rfl⟩⟩)
 have hc:Fx 1 [] (Ek r_) B_ aS_ vc_ in_=some aD_:=by
  show(if(du_).length<=big then Option.map D.lst (Ef _ _ _ dg! du_)else none)=_;rw[KM eg_,e];rfl
 have ha:f1 Qs (Ac nI_ Ae) in_=some w_:=by
  have Y:Ac nI_ Ae in_=some [.lst ys]:=by
   exact a1f hc
  rw[a9y Y];show(Mr ys).map (λbs=>D.bl oP_)=_;rw[a4p hr];show some (D.bl ((sR_).all id))=_;rw[ON.mpr λx hx=>by obtain⟨_,_,rfl⟩:=KY.mp hx;rfl]
 unfold Dd fT;rw[ha];rfl
def Hist.nx(h:il_)(hy:mB!):∀o∈ms,Nx yy S o:=λo ho=>by
 have hc:=h.ch o.h;rw[eY]at hc;have hm:o∈hs ms o.h:=jB.mpr mB_;refine⟨h.op o mC!,hy o ho,?_,?_⟩
 .obtain⟨i,hi,e⟩:=RU.mp hm;have:=hc.num ((dr_).length+i) o (by rw[ML a!,Nat.add_sub_cancel_left,KZ hi,e]);omega
 .unfold lt;cases e:(dr_).getLast? with
  |none=>show(0:Int)<o.tm;have:=(h.op o mC!).t1;omega
  |some x=>exact(TV.mp hc.tim).2.2 x sU! o hm
def qS{ms:l_}(nd:t.nd)(hA:ag!)(hH:il_)(hy:mB!)(hl:ig_)(hR:sL_):Fo t ii! M R:=by
 refine h!;refine fI (gX (c3z nd (λo ho=>hH.op o mC!) hl)) ?_;refine gQ ?_;have hn:∀K:D->Mh->Prop,El t ii! M K->Aj 2 (El t) cs! [u!,in!] M K:=λK h=>mT rfl rfl h;have hN:=hH.nx hy;have nn:(fX!).Nodup:=by have:=mx!;rw[LL,LX]at this;exact mx_
 refine hn _ (a6e hA hN nn hl λM1 p ep h0 hp fr=>h!);exact vC sV! hH hN hl hp λM' ou=>hR M' λb J=>(ou b (by rw[fr b J];exact J)).trans fW_
def c0g(nd:t.nd)(hA:io_)(hH:il_)(hy:mB!)(hl:(S++ms).length<64)(hR:∀M' bh bi,Bt t M' yy a ta wa .non (S++ms) bh bi->R (.int mD_) M'):Vm t ii! M R:=by
 refine h!;show Af vp_ (Af (Al 2 aN!) (Af (Dp nM_ L_ (GH t)) c0_)) [u!,in!,none,none] M _;have lq:la_<64:=by rw[LK]at hl;omega
 unfold Af;refine gQ (mT rfl rfl (qS nd hA hH hy lq λM1 fr=>?_));refine aQ (f:=fC I!) (d:=bg_) rfl _ ?_;show Dp nM_ L_ (GH t) sX! M1 _;have hi:Ek r_ sX!=some du_:=a0n rfl;unfold Dp Ip;refine a7w ms _ 0 none M1 .non S kl ca _ sV! hH hl λM' bh bi vw y' d7 hz=>?_;rw[hz.1 rfl]at d7;refine dD (aQ (d:=.int mD_) (by show some (D.int (0+mD_))=_;rw[Int.zero_add])) ml_
end
def c1o(p q:α->Bool)(l:ai_)(h:∀x∈l,¬(p x=true/\q x=true)):(l.filter p++l.filter q).Perm sZ_:=by
 have Y:=List.filter_append_perm p sZ_;rw[QK,QK]at Y;have e1:(l.filter λx=>p x&&(p x||q x))=l.filter p:=OX λx _=>by cases p x<;>simp
 have e2:(l.filter λx=>(!p x)&&(p x||q x))=l.filter q:=OX λx hx=>by
  cases c:p x<;>cases d:q x<;>simp_all
 rw[e1,e2]at Y;exact Y
def xM:∀{kl:v!},kl.Nodup->(mG!).Perm (S.filter λo=>decide (o.h∈kl))
 |[],_=>by simp
 |k::kl,nd=>by
  rw[LA]at nd;refine((xM nd.2).append_left _).trans ?_;refine(c1o (λo:Op=>decide (o.h=k)) (λo=>decide (o.h∈kl)) S λx _ z=>?_).trans (List.Perm.of_eq (OX λx _=>by simp[KG]));simp only[LO]at z;exact nd.1 (z.1▸z.2)
section
def Bt.perm(hA:ag!):(mG!).Perm S:=by refine(xM hA.nk).trans (List.Perm.of_eq (ND.mpr λo ho=>?_));rw[LO,hA.mem];intro z;have:o∈hs S o.h:=jB.mpr mB_;rw[z]at this;cases this
def HH(t:Bk):WS:=Zc 1 nD!
def b0m(hA:ag!)(d6:ck M)(hS:by!):∀(ks:v!) (acc:l_) (y:X!) (R:q_),(∀h∈ks,h∈kl)->cL!+64*fj!<100000->
  (∀y',R (.nx [u!,some (.lst ((acc++ks.flatMap (hs S)).map Op.v)),y']) M)->
  Hx bD_ ck (HH t) s3! [u!,k8_,y] M R
 |[],acc,y,R,_,_,hR=>⟨d6,by have:=hR y;simpa using this⟩
 |h::ks,acc,y,R,hk,hl,hR=>by
  refine p8!;show"#!";have hh:=hk h KD;show HH t s4! M _;show Zc 1 nD! s4! M _;have i1:Bs M lZ_ fT_=some h1_:=(r0_).trans (by rw[gD,KM hh]);refine dS fS_ fT! i1 _ ?_;rw[xX l2!];refine gY ?_;have q9:(dr!).length<64:=NA (a0o S h) hS;simp only[KO]at hl;refine s4_;rw[<-LL];refine b0m hA d6 hS ks (acc++hs S h) (some fT_) R sI_ xO! λy'=>?_;have:=hR y';rw[List.flatMap_cons,<-NJ]at this;exact this
def pI(hA:ag!)(hH:aK!)(hS:by!):Qu (Fa t) [v_] M mH!:=λK hK=>by
 obtain⟨ep,ht⟩:=hA.tk;refine h!;show Af (Dp nD_ bD_ (HH t)) uW_ [u!,hy!,none] M _;unfold Af Dp Kt;refine fB az_ hA.ob hF2 _ ?_;rw[cN ht];refine gY ?_;have YA:hZ_<64:=NA hA.len hS;have ek:(fR!).map c_=kl.map D.int:=by rw[MD];rfl
 rw[ek];refine b0m hA ht hS kl [] none _ (λh hh=>hh) a4! λy'=>?_;have hp:=hA.perm;have nd:((mG!).map Op.key).Nodup:=(k2_).nodup_iff.mpr hH.keys;have he:f1 Dl dA_ [u!,some (.lst s6_),y']=some mH!:=by
  show Dl [.lst s6_]=_;rw[NN,lO nd s7!,qU hp nd]
 exact dD (aQ he) hK
structure OS(t:Bk)(M:Mh)(a o:u0!)(O:bs!)(W:OW):Prop where
 hob:∃yy ta wa,M a=some mH_
 out:Bl t M o O W 1500
def c1n(hA:io_)(hH:aK!)(hS:by!)(hr:Uh W0 mI! W')
  (hR:∀M' o O',OS t M' a o O' W'->Bt t M' yy a ta wa W! S kl ca->(∀b,M b≠none->b≠a->M' b=M b)->(∀b,M b≠none->¬O' b)->R W! M'):Cc t [v_] M R:=by
 refine h!;show Af uX! (At nE!) [u!] M _;refine mU (kW (dS (fB az_ hA.ob hF4) s9_ rfl)) ?_;refine nR ?_;have hp:(f1_).Perm S:=cI S;have hc:∀K:D->Mh->Prop,Jm t [.lst s5_] M K->Aj 1 (Jm t) (Ab nE_ Ad) [u!] M K:=λK h=>by
  show Aj 1 (Fa t) aU! [u!] M _;exact kU aB! (pI hA hH hS) _ b6!
 refine hc _ (b1i (W':=W') ((k2_).nodup_iff.mpr hH.keys) ((k2_).nodup_iff.mpr mx!) s7! (λo ho=>(hH.op o (hp.mem_iff.mp ho)).dg) (by rw[b3w hH.keys];exact hr) λo M1 O' ho hO hw fr=>?_);have fa:=fr a fS!;refine gF (fs:=hF yy ta wa .non) rfl (fa.1.trans hA.ob) k1! hP5 ?_;have h2:Bl t td! o O' W' 1500:=hO.keep λc hc=>mup_ne λz=>fa.2 lw!;have k:∀b,M b≠none->b≠a->mup M1 a mH_ b=M b:=λb J hn=>(pB!).trans (fW_).1;show"#!";have vx:Bt t td! yy a ta wa W! S kl ca:={hA with ob:=mup_same,tk:=⟨ep,(k ta h0! λz=>by rw[z,hA.ob]at ht;cases ht).trans ht⟩,wt:=(k wa h0_ λz=>by have:=hA.wt;rw[z,hA.ob]at this;cases this).trans hA.wt,cl:=λh hh=>(k _ h1! λz=>by have:=hA.cl h hh;rw[z,hA.ob]at this;cases this).trans l2!};exact dD (fB az_ mup_same hF4) (hR _ o O' ⟨⟨yy,ta,wa,mup_same⟩,h2⟩ vx k λb J=>(fW_).2)
def yS(h:a4_):Qu (Cc t) [v_] M W!:=λK hK=>by
 obtain⟨yy,ta,wa,hob⟩:=h.hob;refine h!;refine fI (kW (dS te_ s9_ rfl)) ?_;exact dD te_ hK
def OS.nob(h:a4_)(hm:pb!):Dr t.B6 m M W!:=by exact h.out.noOb hm
inductive HQ(t:Bk)(M:Mh)(yy:Int)(a ta wa:u0!)(S:l_)(kl:v!)(ca:fR_)(W:OW):Prop
 |new (h:io_) (hH:aK!) (hS:by!) (hr:mM!):HQ t M yy a ta wa S kl ca W
 |old {o:u0!} {O:bs!} (h:Bt t M yy a ta wa W! S kl ca) (hO:a4_):HQ t M yy a ta wa S kl ca W
def jI(h:f ρ M λd M1=>q bG_ M1 R):Af qq_ q ρ M R:=h
def JX(t:Bk)(M:Mh)(yy:Int)(a ta wa:u0!)(S:l_)(kl:v!)(ca:fR_)(W:OW)(M':Mh)(o:u0!)(O:bs!):Prop:=OS t M' a o O W/\Bt t M' yy a ta wa W! S kl ca/\∀b,M b≠none->b≠a->M' b=M b
def c6g(h:ey!)(hR:∀M' o O,JX t M yy a ta wa S kl ca W M' o O->R W! M'):Cc t [v_] M R:=by
 cases h with
 |new h hH hS hr=>exact c1n h hH hS hr λM' o O Y h2 h3 _=>hR M' o O ⟨Y,h2,h3⟩
 |old h hO=>exact yS hO _ (hR M _ _ ⟨hO,h,yd_⟩)
def b9u{f1 f2:o_}(Y:mM_)(h2:mN!)(k:g [b,c] M K E):Gp 2 g E pw! ρ M K:=by unfold Gp Ab Ad;rw[cR Y,ei_];exact ej!
def d0v(h:n<=2000):n<10 ^ 60:=NA h (LJ (show 2000<10 ^ 4 by decide) (Nat.pow_le_pow_right b! b!))
def Of(t:Bk)(M:Mh)(a:u0!)(W:OW)(Q:fv_):Prop:=∀K:D->Mh->Prop,(∀M' o O,OS t M' a o O W->Q M'->K W! M')->Cc t [v_] M K
def OS.of(h:a4_):Of t M a W (·=M):=λK hK=>yS h _ (hK M o O h rfl)
def HQ.of(h:ey!):Of t M a W λM'=>HQ t M' yy a ta wa S kl ca W/\∀b,M b≠none->b≠a->M' b=M b:=λK hK=>c6g h λM' o O hA=>hK M' o O hA.1 ⟨.old hA.2.1 hA.1,hA.2.2⟩
def b3m(h:iu!)(hk:as_)(hs:¬Et W x->DU x)(hR:Et W x->∀M' o O,OS t M' a o O W->Q M'->R W! M')(hE:¬Et W x->∀M',Q M'->E t.NotThere M'):Fn t ez! M R E:=by
 refine h!;show Af nO! vt_ [u!,ay!,none] M _;refine jI (rN (a:=v_) rfl (h _ λM' o O hA hq=>?_));have ht:Sw vs_ [u!,ay!,ab_] M' (!decide g0_):=a5p (kW (fH iu_ (hA.nob oM1) by_ λK hK=>a0p hA.out hk hK));by_cases c:Et W x
 .rw[LG c]at ht;exact fI ht (dD iu_ (hR c M' o O hA hq))
 .rw[KP c]at ht;unfold Af;exact mU ht ⟨⟨⟨x,rfl,hs c⟩,trivial⟩,λ_=>hE c M' hq⟩
end
section
def xA(h:jP!)(hl:i!<5000)(hR:R M! M):Hv t [.fn r] M R:=by
 obtain⟨kf,ef,kp,ep,hf,hp,K,_⟩:=h.dc;have nx:∀{u v},xs=u++v->kget kf oQ_=some c8_:=λ{u v} e=>by
  have nd:=K.nd;rw[e]at nd;rw[K.f,e];exact zP (oI_).1
 have step:∀(rest done:e!),xs=done++rest->∀R':Fl->Mh->Prop,R' (.nx [dU!,some M!,some .non]) M->
   Df t9_ ua_ (rest.length+1) [dU!,some (.lst done),some (rest.headD .non)] M R':=by
  intro rest
  induction rest with
  |nil=>
   intro done e1 R' gc;rw[LR]at e1;rw[e1]at gc;simpa[Df,Db,fT,f2,Aa,fC,Ao,Ci]using gc
  |cons y rest ih=>
   intro done e1 R' gc;have hy:y∈xs:=by rw[e1];simp
   have y0:y≠.non:=λz=>(x8_).1 (z▸hy);obtain⟨k,ek⟩:=K.hk y hy;have jr:=nx (u:=done++[y]) (v:=rest) ti!;rw[zM]at jr;have J:done.length<big:=by rw[e1]at hl;simp at hl;unfold big;omega
   have:=ih (done++[y]) ti! R' gc;rw[KO,Df];simpa[Db,fT,f2,Aa,fC,Ao,jQ y0,Af,Xl,Ed,Pd,J,Al,w2,wl,Ar,Gj,h.ob,a9x,Bs,hf,ek,jr]using this
 have jr:kget kf .non=some (xs.headD .non):=nx (u:=[]) rfl;refine h!;simp only[Ni,Af,Xl];simp[-List.headD_eq_head?_getD,Ed,Ma,Ae,Al,w2,wl,Ar,Gj,Aa,fC,h.ob,a9x,Bs,hf,jr,Da,Jb];refine⟨i!+1,step xs [] rfl _ ?_⟩;simpa[At,wl,Aa]using hR
def yR(h:ak!)(hk:as_)(hx:lf_)(hR:R p M):Fi t dX! M R:=by obtain⟨ad,rfl,hO,hI⟩:=h;obtain⟨_,e,k1,ep,rfl,_,_,_,q⟩:=hI.ty .par trivial;refine h!;simpa[Hq,At,w2,wl,Ar,Gj,Ed,Aa,hI.ob,oF1,Bs,e,hk,q x p hx]using hR
def vB(h:ak!)(w:Bx W)(hB:B<4000)(hx:dc_)(hR:R f3! M):Do t dX! M R:=by obtain⟨ad,rfl,hO,hI⟩:=h;obtain⟨k2,e2,h2,_,q⟩:=hI.dirV (b:=true);obtain⟨k,hk⟩:=oW w hx;obtain⟨hr,lr⟩:=hI.row (b:=true) hx;refine h!;simp[Gn,At,w2,wl,Ar,Gj,Ed,Aa,hI.ob,oF2,Bs,h2,hk,(q x).1 hx,Av,Ad,Dr,hr.ob,rM];exact xA hr a! hR
nonrec def shn(W:OW)(x:D):List c9_:=(br_).filter (·.2.2)
def a1p(hO:ak!)(w:Bx W)(hx:aY!)(hB:B<4000)(hR:R (.lst ((eA!).map c_)) M):Eh t dX! M R:=by
 obtain⟨ad,rfl,hO,hI⟩:=hO;obtain⟨k3,e3,h3,_,q3⟩:=hI.dirV (b:=false);obtain⟨_,h6,k6,e6,rfl,_,q6⟩:=hI.ty .hid trivial;obtain⟨k,hk⟩:=(w.nm x hx).key;obtain⟨hr,lt⟩:=hI.row (b:=false) hx;have lt:(jU!).length<=B:=lt;have hr:Hr t M _ _ _ jU!:=hr;refine h!;have yq:∀R',w2 Bs eI! m_ mR_ M R'=R' (.fn (ad (.row x false))) M:=by
  intro R';simp[w2,wl,Ar,Gj,hI.ob,oF3,Bs,h3,hk,(q3 x).1 hx,Ed,Aa]
 show At (Bi 1 [0] _ _ _ _) mR_ M _;simp only[At,Bi,Cv,Av,yq,Ad];refine⟨by simp only[Dr,hr.ob,rM.2.2.1,and_self],rfl,?_⟩;refine xA hr (NA lt a!) ?_;refine⟨by unfold big;exact LV lt a!,?_⟩;refine cG (λd=>!(kget k6 d).isSome) id trivial _ _ aQ_ ?_
 .show"!9";obtain⟨kq,ug⟩:=(w.sg x hx q hq).key;refine⟨tk!,rfl,ld!,De_⟩;simpa[wT,w2,wl,Ar,Gj,Aa,Ed,hI.ob,oF6,Gr,h6,ug]using hK
 .have e:((jU!).filter λd=>!(kget k6 d).isSome).map id=(eA!).map c_:=by
   rw[RY,PZ];congr 1;refine OX λq hq=>?_;show(!(tl!).isSome)=q.2.2;cases c:q.2.2 with
   |false=>rw[(q6 q.1).mpr ⟨x,hx,q,hq,rfl,c⟩];rfl
   |true=>
    cases z:(tl!).isSome with
    |false=>rfl
    |true=>
     obtain⟨y,hy,q',a7,e1,e2⟩:=(q6 q.1).mp z;cases w.su y hy x hx q' a7 q hq e1;have YB:q'.2.2=false:=e2;rw[iQ (b:=q'.2) (c:=q.2) (a:=q.1) (w.snd x hx) (by rw[<-e1];exact a7) hq,c]at YB;cases YB
  rw[e];exact hR
def a5e(hO:ak!)(w:Bx W)(hx:aY!)(hB:B<4000)(hl:iw!)(hj:mW_)(hR:R v M):Gh t dX! M R:=by
 obtain⟨ad,rfl,_,hI⟩:=id hO;obtain⟨_,h5,k5,e5,rfl,_,q5⟩:=hI.ty .wri trivial;refine h!;show At (Pq _ (Bi 1 [0] uA! _ _ _)) mR_ M _;simp only[At,Pq,Bi,Cv];refine fH (aQ (d:=.fn o8_) rfl) (hI.noOb bs_) by_ (λK hK=>a1p hO w hx hB hK) _ ?_;have ls:(eA!).length<=(br_).length:=PQ _ _;refine f3_;have q5:∀q∈shn W x,kget k5 q.1=some q.2.1:=λq hq=>q5 _ _ ⟨x,hx,q,(mY!).1,rfl,rfl⟩;refine cG dm! (λd=>(kget k5 d).getD .non) trivial _ _ aQ_ ?_
 .show"!9";obtain⟨kq,ug⟩:=(w.sg x hx q (mY!).1).key;refine⟨tk!,rfl,eh!,qS_⟩;simpa[w2,wl,Ar,Gj,Aa,Ed,hI.ob,oF5,Bs,h5,ug,q5 q hq]using hK
 .rw[fD!,MD,NO (g:=mX!) λq hq=>by show(kget k5 q.1).getD .non=_;rw[q5 q hq];rfl,hj];exact hR
def a4m:∀(l:aW_),(∀q∈l,∃c:Nat,q.2.1=.str aj!)->∃cs:List Nat,l.map mX!=cs.map Oj/\cF!=at!
 |[],_=>AN!
 |q::l,h=>by
  obtain⟨cs,e1,e2⟩:=a4m l λx hx=>h x ca_
  obtain⟨c,e⟩:=h q KD;exact⟨c::cs,by rw[KL,KL,e1,e];rfl,by rw[KO,KO,e2]⟩
def b7p(hw:fr!)(hx:aY!)(hl:iw!):∃s,Mo jo_ mW!=some aZ!:=by
 obtain⟨cs,e1,e2⟩:=a4m eA! λq hq=>hw.chr x hx q (mY!).1
 have ls:(eA!).length<=(br_).length:=PQ _ _;rw[e1];refine⟨Txt.join dh! hk!,?_⟩;show((Pr kC_).bind λys=>if(kd!).sum+N_*(dh!).length<=big then some (D.str (Txt.join dh! ys))else none)=_;rw[pL];show dY_=_;rw[KM (by rw[yI,xO];unfold big;omega)]
end
section
def a1g(h:U!)(wi:Bx W)(hx:Sd x)(hl:ee_):Qu Hi [bv_,x] M f3!:=λK hK=>by
 obtain⟨wt,wn,qa,hA⟩:=h;obtain⟨e,hw⟩:=hA.mw;refine h!;show At qM_ iy! M _;simp only[At,Bi,Cv,ixw (ρ:=iy!) rfl hw k3r];refine qN_;refine cG (λd=>match d with|.tup [_,p]=>decide (p=x)|_=>false) (λd=>match d with|.tup [i,_]=>i|_=>.non) trivial _ _ aQ_ ?_
 .show"!9";refine⟨cg_,rfl,λK hK=>gX (ρ:=cg_) (b:=decide (q.2=x)) ?_ _ hK,λ_ K hK=>aQ (ρ:=cg_) (f:=f2 Ai j_ F_) sE _ hK⟩;have:f2 Ax f7! r_ cg_=some (.bl (decide (q.2=x))):=bV a0e rfl (mH (jS wi q hq).2.1 hx);show"!J"
 .rw[PZ,MD];exact hK
def vG(h:U!)(hx:aY!)(hk:as_)(hl:iw!)(hj:mW_):Qu Hb [bv_,x] M v:=λK hK=>by
 refine h!;show At (Pq _ (Bi 1 [] w2_ _ _ _)) iy! M _;unfold At Pq Bi Cv;refine b3r (ρ:=iy!) h rfl (fx:=Aa 1) rfl hk hx _ f3_;refine cG (λd=>match d with|.tup [_,_,.bl b]=>b|_=>false) (λd=>match d with|.tup [_,c,_]=>c|_=>.non) trivial _ _ aQ_ ?_
 .show"!9";exact⟨[ln_],rfl,λK hK=>gX (ρ:=[ln_]) (f:=fT cX_) (b:=q.2.2) rfl _ hK,λ_ K hK=>aQ (ρ:=[ln_]) (f:=f2 Ai j_ u_) (d:=q.2.1) rfl _ hK⟩
 .rw[PZ,MD];show Ed (Mo (.str dh!) mW!) _;rw[hj];exact hK
end
structure Wd where
 its:List D
 txt:D->List c9_
 num:D->List D
 ch:D->List D
def Ur(W:OW):Wd:=⟨W.its,W.txt,W.num,chl W.rows⟩
def c0i{W V:OW}(e:Ur W=Ur V):Jr W=Jr V:=by have Y:W.its=V.its:=congrArg Wd.its e;have h2:W.txt=V.txt:=congrArg Wd.txt e;have h3:W.num=V.num:=congrArg Wd.num e;have h4:chl W.rows=chl V.rows:=congrArg Wd.ch e;unfold Jr Et;rw[Y,h2,h3,h4];congr 1;exact funext λi=>funext λp=>propext (by rw[<-fY,h4,fY])
def b9n:chl da! x=(chl rows x).filter λc=>decide (c≠i):=by unfold chl wo;rw[PZ,QK,QK];congr 1;exact OX λq _=>Bool.and_comm _ _
def c5i(h:chl r1=chl r2)(w:Wn r1 i x):Wn r2 i x:=by
 induction w with
 |here=>exact .here
 |up Y _ ih=>exact .up (fY.mp (by rw[<-h];exact fY.mpr Y)) ih
nonrec def hC(i p s:D)(ch:D->List D)(x:D):List D:=if p=x then Mu i s ((ch x).filter λc=>decide (c≠i))else(ch x).filter λc=>decide (c≠i)
def b7y(h:Pn r i p s r')(nd:(r.map c_).Nodup):chl r'=hC i p s (chl r):=funext λx=>by
 unfold hC;split
 .rename_i c;subst c;rw[h.chl_same nd,b9n]
 .rename_i c;rw[h.chl_ne c,b9n]
def IQ(l:e!)(a:D):Prop:=a∈l\/a=root\/a=binn
nonrec def mv(W:Wd)(i p s:D):Wd:=if i∈W.its/\IQ W.its p/\¬∃r,chl r=W.ch/\Wn r i p then{W with ch:=hC i p s W.ch}else W
nonrec def sT:List (Str×(List D->Wd->D->Wd)):=[("put",λr W n=>match r with
 |[a,b]=>⟨W.its++[n],yx_,yy!,hC n (if IQ W.its a then a else binn) b W.ch⟩
 |_=>W),("move",λr W _=>match r with
 |[a,b,c]=>mv W a b c
 |_=>W),("drop",λr W _=>match r with
 |[a]=>mv W a binn .non
 |_=>W),("write",λr W n=>match r,n with
 |[a,b,.str s],.tup [.int h,.int m]=>if a∈W.its then{W with txt:=λx=>if x=a then wrT b fq! af! else W.txt x}else W
 |_,_=>W),("cut",λr W _=>match r with
 |[a,.tup [.int x,.int y,.int z],.int m]=>if a∈W.its then{W with txt:=λq=>if q=a then cutT kg! af! else W.txt q}else W
 |_=>W),("set",λr W _=>match r with
 |[a,.int p,.int v]=>if a∈W.its then{W with num:=λx=>if x=a then(fq_).set p.toNat kN! else W.num x}else W
 |_=>W)]
nonrec def sF(W:Wd)(n d:D):Wd:=match d with
 |.tup (.str k::r)=>match sT.lookup k with
  |some f=>f r W n
  |none=>W
 |_=>W
def a9g(nd:(jT_).Nodup):(tw_->Pn W.rows i p s rows'->Ur {W with rows:=rows'}=mv f5! i p s)/\(¬tw_->Ur W=mv f5! i p s):=by have e:Wn W.rows i p↔∃r,chl r=(f5!).ch/\Wn r i p:=⟨λh=>zQ!,λ⟨r,Y,h2⟩=>c5i Y h2⟩;rw[e];refine⟨λc g=>?_,λc=>(KN c).symm⟩;exact(tz!).trans (KM c).symm
def c4e(h:Sv W n d W1)(nd:(jT_).Nodup):Ur W1=sF f5! n d/\(W1.rows.map c_).Nodup:=by
 cases h with
 |put _ _ g=>
  exact⟨(tz!).trans av_,g.nd nd⟩
 |mvY _ _ _ c g=>exact tB!
 |@mvN _ _ s _ _ _ c=>exact⟨((a9g (s:=s) (rows':=[]) nd).2 c).trans av_,nd⟩
 |drY _ c g=>exact tB!
 |drN _ c=>exact⟨((a9g (s:=.non) (rows':=[]) nd).2 c).trans av_,nd⟩
 |wrt _ _ _ e=>subst e;exact m0_
 |cut _ _ _ _=>exact m0_
 |set _ _ _=>exact m0_
def c4g{os:l_}(h:Uh W os W1):(jT_).Nodup->Ur W1=os.foldl (λp o=>sF p o.nm o.d) f5!:=by
 induction h with
 |nil=>exact λ_=>rfl
 |cons h _ ih=>exact λnd=>by rw[QP,<-(c4e h nd).1];exact ih (c4e h nd).2
section
variable{W V:OW}
def b3y{os:l_}(Y:Uh W0 os W)(h2:Uh W0 os V):Ur W=Ur V:=(c4g Y NU).trans (c4g h2 NU).symm
def HQ.keep(h:ey!)(k:l1!):HQ t M' yy a ta wa S kl ca W:=by
 cases h with
 |new Y h2 h3 h4=>exact .new (Y.keep k) h2 h3 h4
 |old h hO=>
  obtain⟨y,p,q,hob⟩:=hO.hob;exact .old (h.keep k) ⟨⟨y,p,q,(k a (by rw[hob];simp)).trans hob⟩,hO.out.keep λc hc=>k c (hO.out.live hc)⟩
structure HR(t:Bk)(M:Mh)(yy:Int)(a ta wa:u0!)(S:l_)(kl:v!)(ca:fR_):Prop where
 hd:∃out,Bt t M yy a ta wa out S kl ca
 q:∀W,Uh W0 mI! W->HQ t M yy a ta wa S kl ca W
def Bt.hr(h:io_)(hH:aK!)(hS:by!):HR t M yy a ta wa S kl ca:=⟨iB!,λ_ hr=>.new h hH hS hr⟩
def HQ.hr(h:ey!)(hr:mM!)(hH:aK!):HR t M yy a ta wa S kl ca:=by
 cases h with
 |new h _ hS _=>exact h.hr hH hS
 |old h hO=>
  refine⟨iB!,λV h2=>.old h ⟨hO.hob,(show Bl t M _ _ V 1500 from by have:=hO.out;unfold Bl at this ⊢;rw[c0i (b3y h2 hr)];exact this)⟩⟩
def HR.keep(h:tE!)(k:l1!):HR t M' yy a ta wa S kl ca:=by obtain⟨o,hA⟩:=h.hd;exact⟨⟨o,hA.keep k⟩,λW hr=>(h.q W hr).keep k⟩
end
def Uj(W:OW)(P:D->Prop):Prop:=∀x∈W.its,P x/\∀d∈W.num x,∃i:Int,d=.int i
def b6c(h:Uj W P)(hn:P n)(hs:Sv W n d W'):Uj W' P:=by
 cases hs with
 |put _ _ _=>
  intro x hx;show P x/\∀d∈yD_,_;by_cases c:x=n
  .rw[KM c,c];exact⟨hn,λd hd=>⟨0,by simpa using hd⟩⟩
  .rw[KN c];have iz:x∈W.its++[n]:=hx;exact h x ((KR.mp iz).resolve_right λz=>c kr_)
 |@set a p v _ _ _=>
  split
  .intro x hx;refine⟨(h x hx).1,?_⟩;show∀d∈(if x=a then(fq_).set p.toNat kN! else W.num x),_;by_cases c:x=a
   .rw[KM c];exact λd hd=>(List.mem_or_eq_of_mem_set hd).elim ((h a (c▸hx)).2 d) λz=>⟨v,z⟩
   .rw[KN c];exact(h x hx).2
  .exact h
 |_=>first|exact h|(split<;>exact h)
def b6d{os:l_}(hr:Uh W os W'):Uj W P->(∀o∈os,P o.nm)->Uj W' P:=by
 induction hr with
 |nil=>exact λh _=>h
 |cons hs _ ih=>exact λh g=>ih (b6c h (g _ KD) hs) λo ho=>g o (KA _ ho)
section
def a7x(zf:iu!)(hk:as_)(hR:∀M' o O,OS t M' a o O W->Q M'->R yW! M'):Lr t ez! M R:=by refine h!;show At vv_ [u!,ay!] M _;unfold At Av;refine rN (a:=v_) rfl (zf _ λM' o O h hQ=>⟨h.nob oM1,?_⟩);exact⟨rfl,a0p h.out hk (hR M' o O h hQ)⟩
def sN(h:a4_)(hk:as_)(hx:aY!):Qu (Cn t) ez! M W!:=λK hK=>by
 refine h!;refine fA (kU aB! (yS h)) ?_;refine fI (a5p (kW (b:=true) (fH iu_ (h.nob oM2) by_ λK hK=>gP h.out hk (by rw[LG hx];exact hK)))) ?_;exact dD iu_ hK
def a7k(h:a4_)(wi:Bx W)(hk:as_)(hx:dc_):Qu (Il t) ez! M f3!:=λK hK=>by
 refine h!;show At vw! [u!,ay!] M _;unfold At Av;exact mT (a:=v_) (b:=x) rfl rfl (b3m h.of hk (absurd hx) (λ_ M' o' O' h' e=>⟨h'.nob bs_,rfl,vB h'.out wi b! hx (by rw[show M'=M from e];exact hK)⟩) λz=>absurd hx z)
def b5p(h:a4_)(hk:as_)(hx:aY!)(hp:lf_):Qu (Nl t) ez! M p:=λK hK=>by
 refine h!;exact dD (fH tI_ m2_ by_ λK hK=>yR h.out hk hp hK) hK
def c5n(h:a4_)(wi:Bx W)(hk:as_)(hx:aY!)(hl:iw!)(hj:mW_):Qu (Sn t) ez! M v:=λK hK=>by
 refine h!;exact dD (fH tI_ m2_ by_ λK hK=>a5e h.out wi hx b! hl hj hK) hK
def c0k(h:f ρ=some false)(k:d5_):Af (Ap (Db f) Go Bg) q2 ρ M R:=fI (gX h) k
def b5a(hi:i<4):Du [dy!]=some w_:=b0a a! a!
def b6b(h:a4_)(wi:Bx W)(hk:as_)(hx:aY!)(hi:i<4)(hv:bK![i]?=some v):Qu (Lj t) [v_,x,dy!] M v:=λK hK=>by
 refine h!;have hn:Qu (Eo t) [v_,x,dy!] M W!:=λK hK=>by
  refine h!;show Af vu_ (At jg!) eB_ M _;have hp:Dd vu! eB_=some false:=by
   have:f1 Du bD! eB_=some w_:=(a9y (a1f (f:=Aa 2) (d:=dy!) rfl)).trans (b5a hi);unfold Dd fT;rw[this];rfl
  have f0:Aa 0 eB_=some b3!:=rfl;have vg:Aa 1 eB_=some x:=rfl;generalize eB_=env at hp f0 vg ⊢;exact c0k hp (dD (dR (aQ f0) (aQ vg) tH_) hK)
 have iz:Bs M e8! iA_=some v:=by
  show De bK! fC_=_;show"#1";rw[aI!,KM (by rw[wi.nl x hx];omega)];simpa using hv
 exact dD (dS (fH (nV aB! by_ m4! hn) m2_ by_ λK hK=>vP h.out wi hx hK) m4! iz) hK
def b3a(wi:Bx W):Ba f3!=true/\Gx f3!<=40:=by
 have h:∀d∈chl W.rows x,Sd d:=λd hd=>(jS wi d4! (fY.mp hd)).1.sd;show"!w"
 .show Bu mR!=true;exact gC λd hd=>dQ iD_
 .show Di mR!+1<=40;have:=iR (n:=5) λd hd=>jD iD_;omega
def GA(ft:WT)(q1 q2:WS)(ρ:Ag)(R:q_)(d:D)(M:Mh):Prop:=match d with
 |.bl b=>(if b then(if true then q1 ρ M R else q2 ρ M R)else ft ρ M λb M1=>if b then q1 ρ M1 R else q2 ρ M1 R)
 |_=>False
def a9v(h:fa ρ M (GA ft q1 q2 ρ R)):Ap (Vt (wT fa) ft) q1 q2 ρ M R:=h
def d0b(h:k6!)(k:d5_):GA ft q1 q2 ρ R Z! M:=by show(if false=true then(if true=true then q1 ρ M R else q2 ρ M R)else ft ρ M λb M1=>if b then q1 ρ M1 R else q2 ρ M1 R);refine h _ ?_;rw[Q!];exact k
def FW(g:pX_)(fb:o_)(ρ:Ag)(K:T_)(x:D)(M:Mh):Prop:=wl fb ρ M λy M2=>match g M2 x y with|some d=>K d M2|none=>False
def c9k(h:fo ρ M (FW g fb ρ K)):w2 g fo kV_ ρ M K:=h
def b3o(J:fb ρ=some y)(hg:Cv!)(k:K d M):FW g fb ρ K x M:=by unfold FW;rw[cR J,hg];exact k
def GW(t:Bk):WS:=Ap w5! b2_ Bg
def a8g(zf:iu!)(hQ:∀M',Q M'->Bp M' w Ow W)(wi:Bx W)(hl:ee_)(hk:as_)(hx:dc_)
  (hR:∀M' o O,OS t M' a o O W->Q M'->R (.nx cW!) M'):GW t cW! M R:=by
 refine a9v (c9k (mT (a:=v_) (b:=x) rfl rfl (a7x zf hk λM' o O h q=>?_)));have hL:=hQ M' q;have h2:Sw w4_ cW! M' false:=by
  refine kW (dS (dR aB! by_ (a7k h wi hk hx)) (dR dn! by_ (a1g hL wi (a0j wi hx) hl)) ?_);obtain⟨n1,n2⟩:=b3a wi (x:=x);exact oH n1 n2
 refine b3o (y:=dt_) (d:=h9!) rfl ?_ (d0b h2 (hR M' o O h q));rw[LG hx];rfl
def a8h(h:a4_)(hL:eC_)(wi:Bx W)(hl:ee_):∀(xs:e!) (y:X!) (R:q_),(∀x∈xs,Et W x)->tL_->Hx L_ ad! (GW t) xs rj! M R
 |[],y,R,_,hR=>⟨trivial,hR y⟩
 |x::xs,y,R,hx,hR=>by
  refine aO_;obtain⟨k,hk⟩:=oW wi m5!;refine a8g (Q:=λM'=>M'=M) h.of (λM' e=>by rw[e];exact hL) wi hl hk m5! λM' o' O' h' e=>?_;have e':M'=M:=e;rw[e'];exact a8h h hL wi hl xs fX_ R tM! hR
def c0x(h:hv_):Pu (Zb (Ab f Ad)) ρ M (.lst [d]):=λK hK=>by
 exact h _ ⟨by show 1<=1000;decide,hK⟩
def rW(h:hv_)(h2:Pu g ρ M e):Pu (Po (Ab f (Ab g Ad))) ρ M (.tup [d,e]):=λK hK=>by
 exact h _ (h2 _ ⟨qu!,hK⟩)
def b1d(hx:Sd x)(hp:Sd p):Ba m5_=true/\Gx m5_<=40:=by
 have d1:=jD hx;have d2:=jD hp;show"!w"
 .show Bu m6!=true;refine gC λd hd=>?_;rw[LB.mp hd];refine gC λd hd=>?_;simp only[KG,MO,QR]at hd;obtain rfl|rfl:=hd
  .exact dQ hx
  .exact dQ hp
 .have Y:Di [x,p]<=5:=iR λd hd=>by
   simp only[KG,MO,QR]at hd;obtain rfl|rfl:=hd
   .exact d1
   .exact d2
  have h2:Di m6!<=6:=iR λd hd=>by
   rw[LB.mp hd];show Di [x,p]+1<=6;omega
  show Di m6!+1<=40;omega
def b1c(hL:eC_)(wi:Bx W)(hl:ee_)(hx:aY!)(hp:lf_):
  Pu w7! cW! M m5_:=λK hK=>by
 obtain⟨wt,wn,qa,hA⟩:=hL;obtain⟨e,hw⟩:=hA.mw;unfold Bi Cv;have i1:Bs M bw! eW!=some (.lst hz!):=(eL (k:=Dk_) hw rfl).trans k3r;refine dS dn! (aQ (d:=.str "rows") rfl) i1 _ ?_;refine f3_;refine cG (λd=>match d with|.tup [i,_]=>decide (i=x)|_=>false) id trivial _ _ aQ_ ?_
 .show"!9";obtain⟨Y,h2,_⟩:=jS wi q hq;refine Dn!
  .have e1:fT jv! cg_=some lh!:=by
    have:f2 Ax aL_ r_ cg_=some (.bl lh!):=by
     show Dn_;rw[sE];exact mH Y.sd (tP!).sd
    show"!J"
   unfold Db;rw[e1];exact hK
  .rw[cR (f:=Aa 0) (d:=Be q) rfl];exact hK
 .have e2:(((hz!).filter λd=>match d with|.tup [i,_]=>decide (i=x)|_=>false).map id)=tN_:=by
   rw[RY,PZ];show(lg!).map Be=_;rw[b0n wi hp];rfl
  rw[e2];exact hK
def b2b(h:a4_)(wi:Bx W)(hk:as_)(hx:aY!):
  Pu w8! cW! M e8!:=λK hK=>by
 have hi:Ew co_ cW!=some tP_:=rV (n:=4) rfl b!;unfold Bi Ip;rw[hi];refine⟨by simp[big],?_⟩;have hl:=wi.nl x hx;refine cG dm! (λd=>match d with|.int i=>(bK!).getD i.toNat .non|_=>.non) trivial _ _ aQ_ ?_
 .obtain⟨i,hi,rfl⟩:=KY.mp hd;have cr:=RC.mp hi;refine⟨[some iA_,u!,ay!],rfl,eh!,qS_⟩;have hv:bK![i]?=some ((bK!).getD i .non):=by
   rw[List.getD_eq_getElem?_getD,KZ a!];rfl
  exact nV aB! by_ m4! (b6b h wi hk hx cr hv) _ hK
 .have e2:(((tP_).filter λ_=>true).map λd=>match d with|.int i=>(bK!).getD i.toNat .non|_=>.non)=W.num x:=by
   match hh:W.num x,hl with
   |[a,b,c,d],_=>rfl
  rw[e2];exact hK
def b2c(hn:Uj W P)(hx:aY!):Ba e8!=true/\Gx e8!<=40:=by
 have h:=(hn x hx).2;show"!w"
 .show Bu bK!=true;exact gC λd hd=>by obtain⟨i,rfl⟩:=h d hd;rfl
 .show Di bK!+1<=40;have:=iR (n:=0) (ds:=W.num x) λd hd=>by obtain⟨i,rfl⟩:=h d hd;exact KU _
  omega
def FO(t:Bk):WS:=(Af w6_
 (Af w7_
 w8_))
def c0r(h:a4_)(hL:eC_)(hw:fr!)(ba:Rn W 1500)(hn:Uj W P)(hx:aY!)(hR:R (.nx cW!) M):FO t cW! M R:=by
 have wi:=hw.inv;obtain⟨k,hk⟩:=(tP!).key;have l1:=ba.rows;have l2:=ba.txt x;obtain⟨s,hj⟩:=b7p hw hx a!;obtain⟨q,hq,e⟩:=KY.mp ((wi.ri x).mpr hx);obtain⟨q1,p⟩:=q;have e':q1=x:=e;subst e';obtain⟨_,sp,_⟩:=jS wi _ hq;refine fI ?_ ?_
 .refine kW (dS (dR aB! f8! (c5n h wi hk hx a! hj)) (dR dn! f8! (vG hL hx hk a! hj)) ?_);exact oH rfl (by show 0<=40;decide)
 refine fI ?_ ?_
 .refine kW (dS (c0x (rW f8! (dR aB! f8! (b5p h hk hx hq)))) (b1c hL wi a! hx hq) ?_);obtain⟨n1,n2⟩:=b1d (wi.nm q1 hx).sd sp;exact oH n1 n2
 refine kQ ?_ hR;obtain⟨wt,wn,qa,hA⟩:=id hL;obtain⟨e0,YC⟩:=hA.mw;obtain⟨e1,hn1⟩:=hA.mn;obtain⟨hq1,_⟩:=hA.mq hx;have i1:Bs M bw! oj!=some fy!:=(eL (k:=qU_) YC rfl).trans k3n;have i2:Bs M fy! q1=some m7_:=(eL hn1 hk).trans (by rw[lN,KM hx]);refine kW (dS (b2b h wi hk hx) (dS (dS dn! DR! i1) f8! i2) ?_);have:Tp M m7_=.lst (W.num q1):=by simp only[Tp,hq1]
 show Ev (.lst (W.num q1)) (Tp M m7_)=_;rw[this];obtain⟨n1,n2⟩:=b2c hn hx;exact oH n1 n2
def a8f(d6:ck M)(h:a4_)(hL:eC_)(hw:fr!)(ba:Rn W 1500)(hn:Uj W P):∀(xs:e!) (y:X!) (R:q_),(∀x∈xs,x∈W.its)->tL_->Hx L_ ck (FO t) xs rj! M R
 |[],y,R,_,hR=>⟨d6,hR y⟩
 |x::xs,y,R,hx,hR=>by
  refine p8!;refine c0r h hL hw ba hn m5! ?_;exact a8f d6 h hL hw ba hn xs fX_ R tM! hR
def a5n:Tv t=Af w3!
 (Af (Dp w3_ L_ (GW t))
 (Af (Dp (Kt os_) L_ (FO t))
 w9_)):=rfl
def b3f(h:tE!)(hS:aK!)(hl:by!)(hR:∀M',R w_ M'):Ll t [v_,cp!] M R:=by
 obtain⟨_,hA⟩:=h.hd;refine h!;rw[a5n];refine jI (rN (a:=cp!) rfl (a4t hS.keys hS.names hl (λo ho=>(hS.op o ho).dg) λw M1 Ow W YC hr hL hw ba fr=>?_));obtain⟨pre,hw⟩:=hw;have wi:=hw.inv;have l1:=ba.rows;have l2:=ba.its;have ra:¬Ow a:=(fr a fS!).2;have hQ:=(tT_).q W hr;have hn:Uj W λx=>x≠.tup kz!:=b6d hr (λx hx=>by cases hx) λo ho z=>by
  have:=(hS.op o ((cI S).mem_iff.mp (iI!).1)).hh;simp only[Op.nm,D.tup.injEq,TM,D.int.injEq]at z;omega
 have tx:∀{M:Mh},Bp M w Ow W->∃wt e,Bs M bw! og!=some fx_/\M wt=some CZ_:=λhL=>by
  obtain⟨wt,wn,qa,hA⟩:=hL;obtain⟨e0,h0⟩:=hA.mw;obtain⟨e1,ht⟩:=hA.mt;exact⟨wt,e1,(eL (k:=Dy!) h0 rfl).trans k3t,ht⟩
 have ek:(cL_).map c_=W.its:=by
  rw[MD];show W.its.map (λi=>i)=_;rw[List.map_id']
 obtain⟨wt,e1,i1,ht⟩:=tx hL;have kd:Ql M1 [.fn wt]=some tV!:=by
  show((Dx M1 fx_).map λq=>D.lst hx!)=_;rw[cN ht];show some (D.lst _)=_;rw[ek]
 have ad:My M1 (.lst kZ!) tV!=some (.lst (kZ!++W.its)):=by
  show(if[root,binn].length+ll!<=big then _ else none)=_;rw[KM (by simp only[KO,OH];unfold big;omega)]
 unfold Af Dp Cv;refine dS (aQ (d:=.lst kZ!) rfl) (a2c (dS dn! tV_ i1) kd) ad _ ?_;refine aO_;have cb:∀M',(∀b,M1 b≠none->b≠a->M' b=M1 b)->Bp M' w Ow W:=λM' f=>hL.keep λc hc=>f c (hL.live hc) λz=>ra lw!;refine a8g (W:=W) (Ow:=Ow) hQ.of (λM' q=>cb M' q.2) wi a! (k:=some (.inl (.inr "root"))) rfl ec! λM2 o O io q=>?_;have uh:=cb M2 q.2;refine a8h io uh wi a! (binn::W.its) (some root) _ (λx hx=>?_) λy'=>?_
 .obtain rfl|hx:=KG.mp hx
  .exact .inr gt_
  .exact .inl hx
 show Dp (Kt _) L_ (FO t) [u!,iL!,G!,y'] M2 _;obtain⟨wt2,e12,i2,vj⟩:=tx uh;unfold Dp Kt;refine dS dn! tV_ i2 _ ?_;rw[cN vj];refine gY ?_;rw[ek];refine a8f (pre:=pre) vj io uh hw ba hn W.its y' _ (λx hx=>hx) λy2=>?_;have h99:¬Et W (.tup kz!):=λz=>by
  obtain z|z|z:=z
  .exact(hn _ z).1 rfl
  .cases z
  .cases z
 exact dD (dS (dR aB! (aQ (d:=.tup kz!) rfl) λK hK=>a7x (k:=some (.inr [.inl 9,.inl 9])) io.of rfl λM' _ _ _ e=>by rw[KP h99,show M'=M2 from e];exact hK) (aQ (d:=h9!) rfl) (d:=dt_) rfl) (hR M2)
end
def a0q:∀(xs:v!) (a:Int),a<=xs.foldl max a/\∀x∈xs,x<=xs.foldl max a
 |[],a=>⟨PH _,Cd_⟩
 |y::xs,a=>by
  obtain⟨Y,h2⟩:=a0q xs (max a y);rw[QP];refine⟨p!,aE!⟩;obtain rfl|hx:=KG.mp hx
  .omega
  .exact h2 x hx
def a9w:∀(xs:v!) (a:Int),xs.foldl max a=a\/xs.foldl max a∈xs
 |[],a=>.inl rfl
 |y::xs,a=>by
  rw[QP,KG];obtain z|z:=a9w xs (max a y)
  .rw[z];omega
  .exact .inr gG_
def AZ:List Int->Int:=Xm 0 none
def b6k:∀{l:v!},l≠[]->AZ l∈l
 |[],h=>absurd rfl h
 |x::xs,_=>KG.mpr (a9w xs x)
def a6i:∀{l:v!} {x:Int},x∈l->x<=AZ l
 |y::xs,x,h=>by
  obtain rfl|h:=KG.mp h
  .exact(a0q xs x).1
  .exact(a0q xs y).2 x h
def Vh(S:l_):Int:=AZ tX_
section
def b6j(h:o∈S):o.tm<=Vh S:=a6i (LD _ (KW h))
def b6i(h0:0<=B)(h:∀x∈S,x.tm<=B):Vh S<=B:=by
 obtain z|z:=KR.mp (b6k (l:=S.map Op.tm++[0]) c!)
 .obtain⟨o,ho,e⟩:=KY.mp z;have:=h o ho;show AZ _<=B;omega
 .have h3:Vh S=0:=LB.mp z;omega
def d0t(hh:hs S h≠[]):∃o∈S,o.tm=lt S h:=by
 unfold lt;cases e:(dr!).getLast? with
 |none=>exact absurd (SJ.mp e) hh
 |some o=>exact⟨o,(jB.mp sU!).1,rfl⟩
def d0u(hH:aK!)(ho:o∈S):o.tm<=lt S o.h:=by
 have hm:o∈hs S o.h:=jB.mpr mB_;unfold lt;cases e:(dr_).getLast? with
 |none=>rw[SJ.mp e]at hm;cases hm
 |some x=>
  obtain⟨l,hl⟩:=List.getLast?_eq_some_iff.mp e;have hp:=(hH.ch o.h).tim;rw[hl]at hm hp;obtain z|z:=KR.mp hm
  .exact Int.le_of_lt ((TV.mp hp).2.2 o z x c!)
  .rw[ek!];exact PH _
def a3o(f:α->Int):∀l:List α,Mp t0!=some fF_
 |[]=>rfl
 |x::l=>by
  show(Mp t0!).map (f x::·)=_;rw[a3o f l];rfl
def a9m(h:l=[]->k=some 0):Vi k [.lst (l.map D.int)]=some s1_:=by
 show(Mp (l.map λh=>D.int (id h))).bind _=_;rw[a3o,RY];show(if l=[]then k.map D.int else some s1_)=_;split
 .rename_i z;rw[h z,z];rfl
 .rfl
def c4q:0<=Vh S:=a6i (KJ _ pG!)
def zA(hA:ag!)(hH:aK!)(hl:by!):Qu (Iv t) [v_] M (.int iM!):=λK hK=>by
 obtain⟨ep,ht⟩:=hA.tk;have hk:∀x∈S,x.h∈kl:=λx hx=>(hA.mem x.h).mpr λy=>by have hm:x∈hs S x.h:=jB.mpr ⟨hx,rfl⟩;rw[y]at hm;cases hm
 have e:AZ nd!=Vh S:=by
  have z:kl.map (lt S)=[]\/∃o∈S,o.tm=AZ nd!:=(Classical.em _).imp_right λkn=>by
   obtain⟨h,hh,e⟩:=KY.mp (b6k kn);rw[<-e];exact d0t ((l0_).mp hh)
  refine Int.le_antisymm ?_ ?_
  .obtain z|⟨o,ho,e⟩:=z
   .rw[z];exact c4q
   .rw[<-e];exact b6j ho
  .refine b6i ?_ λo ho=>Int.le_trans (d0u hH ho) (a6i (KW (f:=lt S) (hk o ho)));obtain z|⟨o,ho,e⟩:=z
   .rw[z];exact PH _
   .have:=(tg_).t1;omega
 refine h!;have hc:Pu vy! [u!] M (.lst ((nd!).map D.int)):=λK hK=>by
  unfold Bi Kt;refine fB az_ hA.ob hF2 _ ?_;rw[cN ht];have YA:hZ_<64:=NA hA.len hl;refine gY s4_;refine cG dm! (λd=>match d with|.int h=>.int (lt S h)|_=>.non) ht _ _ aQ_ ?_
  .rw[MD]at hd;obtain⟨h,_,rfl⟩:=KY.mp hd;exact⟨[h3_,u!],rfl,eh!,λ_ K hK=>dR aB! fT! (oQ hA) _ hK⟩
  .rw[fD!,MD,MD];rw[MD]at hK;exact hK
 exact dD (dS h2_ (a2c hc ((a9m λ_=>rfl).trans (by rw[e]))) rfl) hK
def a7n{f1 f2:WE}(Y:Pu f1 ρ M x)(h2:Pu f2 ρ M y)(k:g [x,y] M K):Aj 2 g Cx! ρ M K:=by exact Y _ (h2 _ ej!)
def c2g(hA:ag!)(hH:aK!)(hl:gd_)
  (hR:∀M' bh bi,Bt t M' yy a ta wa .non (S++[t6_]) bh bi->R (.tup nf_) M'):Om t [v_,d] M R:=by
 have hT:=zA hA hH a!;refine h!;refine fA (rW t7_ (dS (fH az_ l5_ t7_ (sH hA)) h2_ (d:=nf!) (by rw[Int.add_comm];rfl))) ?_;have hv:Pu vz_ [u!,ho_,some (.tup nf_)] M (Op.mk yy (1+iN_) iM! d).v:=dS t8_ (rW (kU aB! hT) (aQ (d:=d) rfl)) rfl;refine jJ (a7n aB! hv (yE hA a! λM' bh bi d7=>?_));exact dD t8_ ml_
def a7m{f1 f2 f3:o_}(Y:mM_)(h2:mN!)(h3:ua!)(k:g [b,c,d] M K E):Gp 3 g E Bu! ρ M K:=by unfold Gp Ab Ad;rw[cR Y,ei_,cR h3];exact ej!
def c8s{f1 f2 f3 f4:o_}(Y:mM_)(h2:mN!)(h3:ua!)(h4:Bu_)(k:g [b,c,d,e] M K E):Gp 4 g E p6_ ρ M K:=by unfold Gp Ab Ad;rw[cR Y,ei_,cR h3,cR h4];exact ej!
def a6w(h:R aZ!):Ed (EU c s c) R:=by unfold EU;rw[A!];exact h
def HQ.hd(h:ey!):∃out,Bt t M yy a ta wa out S kl ca:=by
 cases h with
 |new h _ _ _=>exact iB!
 |old h _=>exact iB!
def uP(h:Bm x):DU x:=by
 obtain rfl|rfl|⟨a,b,rfl,Y,h2,h3,h4⟩:=h
 .show _<=1000;decide+kernel
 .show _<=1000;decide+kernel
 .exact⟨d0v a!,d0v a!⟩
def Can(W:OW)(x y:D):Prop:=x∈W.its/\Et W y/\¬Wn W.rows x y
def b0i(h:iu!)(wi:Bx W)(hx:Bm x)(hy:Bm y)(hR:Can W x y->∀M',Q M'->R .non M')(hE:¬Can W x y->∀M',Q M'->E t.NotThere M'):Ha t [v_,x,y] M R E:=by
 obtain⟨k,hk⟩:=bT hx;obtain⟨l,hl⟩:=bT hy;refine h!;show Ap vD! vD_ Bg [u!,ay!,some y] M _;unfold Ap Hu wT Av;refine rN (a:=v_) rfl (h _ λM' o O hA hq=>⟨hA.nob bs_,rfl,rL hA.out wi hk hl λb J=>?_⟩);cases b with
 |true=>exact hR qT! M' hq
 |false=>exact⟨⟨⟨x,rfl,uP hx⟩,⟨y,rfl,uP hy⟩,trivial⟩,λ_=>hE (λz=>by have:=J.mpr z;cases this) M' hq⟩
inductive Rg
 |put (g s:D)
 |mov (i g s:D)
 |drp (i:D)
nonrec def Rg.d:Rg->D
 |.put g s=>.tup [hg_,g,s]
 |.mov i g s=>.tup [kw!,i,g,s]
 |.drp i=>.tup [pM!,i]
nonrec def Rg.gd(W:OW):Rg->Prop
 |.put g s=>Et W g
 |.mov i g s=>Can W i g
 |.drp i=>Can W i binn
nonrec def Rg.ok:Rg->Prop
 |.put g s=>Bm g/\Jq s
 |.mov i g s=>Bm i/\Bm g/\Jq s
 |.drp i=>Bm i
def Xd(S:l_)(yy:Int)(d:D):Op:=t6_
def c4a{c:Rg}(h:ey!)(wi:Bx W)(hH:aK!)(hl:gd_)(q:c.ok)
  (hG:c.gd W->∀M' bh bi,Bt t M' yy a ta wa .non (S++[Xd S yy c.d]) bh bi->R (ng!).nm M')
  (hB:¬c.gd W->∀M',HQ t M' yy a ta wa S kl ca W->R xL! M'):So t [v_,c.d] M R:=by
 refine h!;refine eX (d:=.non) rfl ?_;have go:∀{M1:Mh} {K:T_} {f:o_} {ρ:Ag},HQ t M1 yy a ta wa S kl ca W->c.gd W->Aa 0 ρ=some b3!->f ρ=some c.d->(∀M',R (ng!).nm M'->K (ng!).nm M')->Aj 2 gw! (Ab g_ (Ab (wl f) Ad)) ρ M1 K:=λ{M1 K f ρ} Y g e1 e2 hK=>by
  obtain⟨_,hA⟩:=(Y.hd);exact a7n (aQ e1) (aQ e2) (c2g hA hH hl λM' bh bi d7=>hK M' (hG g M' bh bi d7))
 unfold Af BJ;cases c with
 |put g s=>
  obtain⟨k,hk⟩:=bT q.1;refine mU gg_ ?_;unfold Al;refine a7m (b:=v_) (c:=g) (d:=s) rfl av_ av_ h!;refine jJ (b9u (b:=v_) (c:=g) rfl rfl (b3m h.of hk (λ_=>uP q.1) (λhg M1 _ _ _ hq=>?_) λhg M1 hq=>a6w nh!));show"!P"
 |mov i g s=>
  refine kQ gg_ (mU gg_ ?_);unfold Al;refine c8s (b:=v_) (c:=i) (d:=g) (e:=s) rfl av_ av_ av_ h!;refine jJ (a7m (b:=v_) (c:=i) (d:=g) rfl rfl rfl (b0i h.of wi q.1 q.2.1 uf_ λhg M1 hq=>a6w nh!));show"!P"
 |drp i=>
  refine kQ gg_ (kQ gg_ ?_);unfold Al;refine b9u (b:=v_) (c:=i) rfl av_ h!;refine jJ (a7m (b:=v_) (c:=i) (d:=binn) rfl rfl rfl (b0i h.of wi q ec! uf_ λhg M1 hq=>a6w nh!));show"!P"
def a3i:∀{xs:e!} {k:Nat} {h:Int} {x:D},(k:Int)<=h->xs[(h - k).toNat]?=some x->kget ((xs.zipIdx k).map λq=>f4_) fT_=some x
 |[],k,h,x,_,e=>by simp at e
 |y::xs,k,h,x,hk,e=>by
  rw[TC,KL];unfold kget;by_cases c:(k:Int)=h
  .rw[KM (by rw[c])];rw[<-c,Int.sub_self]at e;exact e
  .rw[KN λz=>c l0!];refine a3i a! ?_;rw[show(h - (k:Int)).toNat=(h - C6_).toNat+1 by omega,List.getElem?_cons_succ]at e;exact e
def b8b(hA:ag!)(hH:aK!)(hS:by!)
  (hR:∀M',kX!->R mH! M'):Qo t [v_,.lst (iR_).flatten] M R:=by
 refine h!;refine jI ?_;refine⟨W_,cP!⟩;have fr:∀b,M b≠none->mup M p (.dct uj! (iR_).flatten.length) b=M b:=λb J=>mup_ne (dU J hp);have q8:=hA.keep fr;unfold At Bi Cv;refine kU aB! (pI q8 hH hS) _ ?_;have pm:(f1_).Perm S:=cI S;refine⟨by rw[KQ,pm.length_eq];unfold big;omega,?_⟩;refine cG (λd=>true) id trivial _ _ aQ_ ?_
 .obtain⟨o,ho,rfl⟩:=KY.mp hd;have hf:=hH.op o (pm.mem_iff.mp ho);have J:=hf.hh;have Y:=hf.n1;refine⟨[J_,ac_],rfl,ld!,λ_ K hK=>by rw[cR (f:=Aa 0) (d:=o.v) rfl];exact hK⟩;have hg:(kget uj! cf!).getD I!=.int 0:=by
   rw[a3i (k:=0) (x:=bg_) a! (by obtain z|z|z:=J<;>rw[z]<;>rfl)];rfl
  have e:Jz (.int o.n) I!=some w_:=by
   show some (D.bl (decide (0<o.n)))=_;rw[LG a!]
  exact kW (dS l5! (nU ii_ (aQ hI!) hE_ mup_same (k:=h7!) rfl hg) e) K hK
 .rw[RY,ND.mpr λ_ _=>rfl];exact hR _ fr
def rH(hf:∀o:Op,ft gj!=some (p o)):∀(os:l_),Ef B_ ft j_ iT! au!=some un!
 |[]=>rfl
 |o::os=>by
  have ih:=rH hf os;have e1:Bb 0 o.v iT!=some gj!:=rfl;have e2:Aa 0 gj!=some o.v:=rfl;rw[KL];unfold Ef;rw[e1];show((ft gj!).bind λb=>if b then(Aa 0 gj!).bind λy=>(Ef B_ ft j_ iT! au!).map (y::·)else Ef B_ ft j_ iT! au!)=_;rw[hf,e2,ih];show(if p o=true then some (o.v::(un_).map Op.v)else some un!)=_;cases c:p o with
  |true=>rw[A!,NE c];rfl
  |false=>rw[Q!,NG (by simp[c])]
def b9x(hH:aK!)(hl:by!):Qu No [cp!,h5!,d] M (.tup [h5!,nf!,.int iM!,d]):=λK hK=>by
 refine h!;have hc:Pu xd! [iL!,gj_,ho_,none] M up_:=λK hK=>by
  show(eE_).length<=big/\_;refine f3_;refine cG dm! (λd=>match d with|.tup [_,_,z,_]=>z|_=>.non) trivial _ _ aQ_ ?_
  .obtain⟨o,_,rfl⟩:=KY.mp hd;exact⟨[J_],rfl,eh!,λ_ K hK=>aQ (ρ:=[J_]) (f:=f2 Ai j_ aC!) (a5t o) _ hK⟩
  .rw[fD!,MD];rw[MD]at hK;exact hK
 refine fA hc ?_;have e1:Fx 1 [1] eK_ B_ jv_ j_ iT_=some (.lst uq!):=by
  have e:=rH (r:=[gj_]) (ft:=fT jv!) (p:=λo=>decide (o.h=yy)) (λo=>by
   have:f2 Ax aL_ r_ [J_,gj_]=some (.bl (o.h==yy)):=bV hI! rfl h3!;unfold fT;rw[this];rfl) S
  show(if(eE_).length<=big then Option.map D.lst (Ef _ _ _ [none,gj_] eE_)else none)=_;rw[KM eg_,e];rfl
 have e2:f2 An u_ xe! iT_=some (.int (1+iN_)):=bV rfl ((a9y (a1f e1)).trans (show some (D.int ((uq!).length:Nat))=_ by rw[KQ])) rfl;have e3:f2 An u_ xf_ iT_=some (.int iM!):=by
  have Y:f2 An C_ xf! iT_=some (.lst ((tX_).map D.int)):=bV rfl rfl (by
   show dY_=_;rw[us!,LL];rfl)
  exact bV rfl ((a9y (a1f Y)).trans (a9m c!)) rfl
 exact dD (aQ (yH (bL rfl (bL e2 (bL e3 fo_))) rfl)) hK
def Hist.fl(h:Hist U)(k0:Int):Hist uu_:=by
 refine⟨λk=>?_,λo ho=>h.op o (iI!).1⟩;have e:hs uu_ k=if k=k0 then[]else hs U k:=by
  unfold hs;rw[QK];split
  .rename_i c;exact TJ.mpr λo _=>by simp[c]
  .rename_i c;exact OX λo _=>by
    by_cases z:o.h=k
    .simp[z,c]
    .simp[z]
 rw[e];split
 .exact .nil
 .exact h.ch k
end
def nes(h:b6_)(hd:Gx d<=40):Sh M d d=some Z!:=by
 have hr:Tp M d=d:=by cases d<;>first|rfl|cases h
 unfold Sh Ev;rw[hr,h,pC d h,LG hd];rfl
def c6h{S:l_}(hH:∀o∈S,DG o.d):Ba iK_=true/\Gx iK_<=40:=by
 have h:∀d∈S.map Op.v,Ba d=true/\Gx d<=5:=λd hd=>by obtain⟨o,ho,rfl⟩:=KY.mp hd;exact a8y (hH o ho)
 refine⟨gC λd hd=>(iD_).1,?_⟩;show Di eE_+1<=40;have:=iR (n:=5) λd hd=>(iD_).2;omega
section
def b4p(h:eC_)(h0:fw ρ=some bw!)(hx:lh_)(hk:as_):Pu (w2 (Gr n) fC! (w2 Bs (wl fw) gJ_)) ρ M (.bl (if n then !decide dd! else decide dd!)):=by obtain⟨wt,wn,qa,hA⟩:=h;obtain⟨e0,hw⟩:=hA.mw;obtain⟨e1,ht⟩:=hA.mt;refine dS lk! (dS (aQ h0) az_ Dy_) ?_;rw[a9u ht hk,a1l]
def c4l(hx:lh_)(sx:Sd x):Pu (w2 aT! fC! jw_) ρ M Dq!:=dS lk! az_ (a9t sx (fP "root") (fP "bin"))
def b7v(h:decide dd!=false):decide qs!=decide g0_:=by have h:=QI h;rw[OA,LO,LO];exact⟨.inr,λz=>z.resolve_left h⟩
def c4x(h:decide dd!=true):decide g0_=true:=LG (.inl (NI h))
def c4b(hL:eC_)(wi:Bx W)(hl:ee_)(hi:Bm i)(hg:Bm g)(sg:Sd g):Qu Sq [bv_,i,g] M (.bl (decide (Can W i g))):=λK hK=>by
 obtain⟨ki,b9⟩:=bT hi;obtain⟨kg,zg⟩:=bT hg;refine h!;show Af xh! xh_ gm_ M _;have Y:=kW (b4p (ρ:=gm_) (fw:=Aa 0) (fx:=Aa 1) (n:=true) hL rfl rfl b9);have h2:=a5p (c4m (kW (b4p (ρ:=gm_) (fw:=Aa 0) (fx:=Aa 2) (n:=false) hL rfl rfl zg)) (λe=>by have:=kW (c4l (M:=M) (ρ:=gm_) (fx:=Aa 2) rfl sg);rw[b7v e]at this;exact this) c4x);have h3:=c4m (c:=!decide uz!) Y (λe=>by
  have e:i∈W.its:=by simpa using e
  rw[show decide uz!=decide ns! by simp[e]];exact h2) λe=>by
  have e:i∉W.its:=by simpa using e
  simp[e]
 by_cases c:i∈W.its/\Et W g
 .rw[LG c]at h3;refine fI h3 ?_;unfold At Rh;refine(show∀{K:T_},Hc [bv_,g,i] M K->Aj 3 Hc og_ gm_ M K from λh=>b6!) (a4v hL wi hl c.2 (wi.nm i c.1) λb J=>?_);have:decide (Can W i g)=!b:=by
   rw[OA,LO];unfold Can;cases b with
   |true=>exact⟨λz=>absurd qT! z.2.2,s3_⟩
   |false=>exact⟨bT_,λ_=>⟨c.1,c.2,λz=>by have:=J.mpr z;cases this⟩⟩
  rw[this]at hK;exact hK
 .rw[KP c]at h3;rw[KP λz:Can W i g=>c ⟨z.1,z.2.1⟩]at hK;unfold Af;exact mU h3 (dD az_ hK)
def c5x:Pu xQ! ρ M (.lst (iR_).flatten):=λK hK=>⟨W_,Ae!,hK⟩
def d0a(h:ft ρ M λb M1=>if b then q1 ρ M1 R else q2 ρ M1 R):GA ft q1 q2 ρ R Z! M:=h
variable{c:Rg}
nonrec def lE(s:D)(y1:X!)(a:u0!)(S:l_)(y4 y5 y6 y7 y8 y9 je y11 y12 y13 y14:X!):Ag:=[b9_,y1,u!,iL!,y4,y5,y6,y7,y8,y9,je,y11,y12,y13,y14]
nonrec def aft(W:OW)(S:l_)(c:Rg):List Op:=if c.gd W then S++nt_ else S
def Wk(W:OW)(S:l_)(c:Rg):D:=if c.gd W then(eK!).nm else .str "refused"
def b8u:Ba gn_=true/\Gx gn_<=40:=by
 unfold Wk;split
 .exact⟨rfl,by show Di [fY!,fY!]+1<=40;simp[Di,Gx]⟩
 .exact⟨rfl,by show 0<=40;decide⟩
def FQ(t:Bk):WS:=Ap xR! b2_ Bg
def c7e(h:HQ t M 5 a ta wa S kl ca W)(wi:Bx W)(hr:mM!)(hH:aK!)(hl:gd_)(q:c.ok)(hS:Hist bV_)(q9:(bV_).length<64)
  (hR:∀M' bh bi,HR t M' 5 a ta wa bV_ bh bi->R (.nx i0!) M'):FQ t i0! M R:=by
 have go:∀M1 zh zi,HR t M1 5 a ta wa bV_ zh zi->FW Sh (Aa 13) i0! (GA xQ_ b2_ Bg i0! R) gn_ M1:=λM1 zh zi Y=>by
  obtain⟨o,hA⟩:=Y.hd;refine b3o (y:=Wk W S c) rfl (nes b8u.1 b8u.2) (d0a ?_);unfold wT w2;refine a7n aB! c5x (b8b hA hS q9 λM2 fr=>?_);refine rN (a:=.lst ((bV_).map Op.v)) rfl (mZ hS.keys q9 ?_);obtain⟨p1,p2⟩:=c6h (S:=Hz bV_) λo ho=>(hS.op o ((cI _).mem_iff.mp ho)).dg
  rw[nes p1 p2];exact hR M2 zh zi (Y.keep fr)
 refine a9v (c9k (mT (a:=v_) (b:=c.d) rfl rfl (c4a h wi hH hl q (λz M' bh bi h'=>?_) λz M' h'=>?_)))
 .have e:Wk W S c=(eK!).nm:=KM z;rw[<-e];have e2:aft W S c=S++nt_:=KM z;exact go M' bh bi (by rw[e2]at hS q9 ⊢;exact h'.hr hS q9)
 .have e:Wk W S c=.str "refused":=KN z;rw[<-e];have e2:aft W S c=S:=KN z;exact go M' kl ca (by rw[e2];exact h'.hr hr hH)
def b3v(h:Cz_)(k:q1 ρ M (λr M1=>match r with|.nx bc=>q bc M1 R|.rt d=>R aH_ M1)):Af CA! q ρ M R:=h _ k
def c9c(q:c.ok):DG c.d:=by
 cases c with
 |put g s=>exact .put q.1 q.2
 |mov i g s=>exact .move q.1 q.2.1 q.2.2
 |drp i=>exact .drop q
def c9a(hH:aK!)(hl:gd_)(hB:uF_)(b0:0<=B)(b1:B<=900)(q:c.ok):Hist bV_/\(bV_).length<=cQ!+1/\∀o∈aft W S c,o.tm<=B+1:=by
 have m1:=b6i b0 hB;have m0:=c4q (S:=S);have l:=a0o S 5;unfold aft;split
 .refine⟨hH.snoc ⟨km!,by show 1<=1+Vh S;omega,by show 1+Vh S<=1000;omega,by show 1<=1+uE_;omega,by show 1+uE_<=2000;omega,c9c q⟩ (Int.add_comm _ _) λo ho _=>by have:=b6j ho;show o.tm<1+Vh S;omega,Q_,λo ho=>?_⟩;obtain z|z:=KR.mp ho
  .have:=hB o z;omega
  .rw[ek!];show 1+Vh S<=B+1;omega
 .exact⟨hH,p!,λo ho=>by have:=hB o ho;omega⟩
def IP(t:Bk):WS:=(Af xG!
 (Af xH!
 (Af xK_
 (Af oB_
 (Af (Ap xM! (Af xN!
 (Af xN_
 xO_)) Bg)
 (FQ t))))))
nonrec def wg(W:OW)(m:Int)(i g:D):Prop:=if m=0 then Et W g else Can W i i3!
def c7f(h:HR t M 5 a ta wa S kl ca)(hH:aK!)(hl:gd_)(hB:uF_)(b0:0<=B)(b1:B<=900)(m0:0<=m)(hi:Bm i)(hg:Bm g)(sg:Sd g)(q:c.ok)(hc:∀W,c.gd W↔wg W m i g)
  (hR:∀M' S' bh bi y11 y12 y13 y14,HR t M' 5 a ta wa S' bh bi->Hist S'->S'.length<=cQ!+1->(∀o∈S',o.tm<=B+1)->R (.nx (lE s y1 a S' y4 y5 ba_ bW_ y8 eL! dF_ y11 y12 y13 y14)) M'):IP t (lE s y1 a S y4 y5 ba_ bW_ y8 eL! dF_ y11 y12 y13 y14) M R:=by
 obtain⟨_,hA⟩:=h.hd;obtain⟨kg,zg⟩:=bT hg;refine jI (rN (a:=cp!) rfl (a4t hH.keys hH.names a! (λo ho=>(tg_).dg) λw M1 Ow W _ hr hL ⟨pre,hw⟩ ba fr=>?_));have wi:=hw.inv;have l1:=ba.rows;have hq:=(tT_).q W hr;obtain⟨a1,a2,a3⟩:=c9a (W:=W) hH hl hB b0 b1 q;refine fA (ρ:=uI!) (d:=.bl wg!) (b4o (b4p (n:=false) hL rfl rfl zg) (λe=>by have:=c4l (M:=M1) (ρ:=uI!) (fx:=Aa 7) rfl sg;rw[b7v e]at this;exact this) c4x) ?_;have go:∀{zj:X!},zj=some uI_->Af oB_ (Af xP! (FQ t)) (lE s y1 a S y4 y5 ba_ bW_ y8 eL! dF_ i4_ zj y13 y14) M1 R:=λ{zj} e=>by
  subst e;refine eX (d:=.str "refused") rfl ?_;have fin:∀{y14:X!},FQ t (lE s y1 a bV_ y4 y5 ba_ bW_ y8 eL! dF_ i4_ (some uI_) (some gn_) y14) M1 R:=λ{y14}=>c7e hq wi hr hH hl q a1 a! λM' bh bi h'=>hR M' _ bh bi _ _ _ _ h' a1 a2 a3;by_cases z:c.gd W
  .rw[aft,Wk,KM z,KM z,LG z]at fin;rw[LG z];refine b3v mk_ ?_;refine fA (nV (aQ (d:=cp!) rfl) (aQ (d:=fO_) rfl) (aQ (d:=c.d) rfl) (b9x hH a!)) ?_;refine eX (d:=(eK!).nm) (a8a eK!) ?_;unfold Al;have ea:An iK_ (.lst [(eK!).v])=some (.lst ((S++nt_).map Op.v)):=by
    show dY_=_;rw[us!,LL];rfl
   rw[cR (bV (x:=cp!) (y:=.lst [(eK!).v]) rfl rfl ea)];exact fin
  .rw[aft,Wk,KN z,KN z,KP z]at fin;rw[KP z];exact fI mk_ fin
 by_cases z:m=0
 .refine fI (gX (by rw[z];rfl)) (go ?_);have:c.gd W↔Et W g:=by rw[hc];unfold wg;rw[KM z]
  rw[show decide nx!=decide ns! from by simp only[this]]
 .have e0:fT xI! nz!=some true:=by
   show some (decide (0<m))=_;rw[LG a!]
  have e3:Ln xJ! f7_ ba! nz!=some i3!:=by
   have e:f2 Ax aj_ aw! nz!=some (.bl (m==3)):=bV rfl rfl h3!;unfold Ln fT;rw[e];by_cases z:m=3
   .rw[z];rfl
   .rw[KN z,show(m==3)=false from NC.mpr z];rfl
  refine b3v (gX e0) ?_;unfold Al;refine nV dn! (aQ (d:=i) rfl) (aQ e3) (c4b hL wi a! hi (by split;exact .inr an_;exact hg) (by split;exact fP "bin";exact sg)) _ (go ?_);have:c.gd W↔Can W i i3!:=by rw[hc];unfold wg;rw[KN z]
  rw[show decide nx!=decide (Can W i i3!)from by simp only[this]]
def HE(t:Bk):WS:=(Af xp!
 (Af xs!
 (Af xu!
 (Af xz_
 (Af xB_
 (Af xF_ (IP t)))))))
def b4i:Yg t=(Af xn!
 (Af (Al 2 ja!)
 (Af (Al 3 dH!)
 (Af (Dp xq! gl_ (HE t))
 (At oD!))))):=rfl
def a6j{m k:Int}(h:f ρ=some b7_)(hk:0<k):f2 Bv f (fC ir_) ρ=some (.int (m%k)):=bV h rfl (zF hk)
structure LI(t:Bk)(s:D)(a ta wa:u0!)(j:Nat)(ρ:Ag)(M:Mh):Prop where
 e:∃S kl ca y1 y4 y5 y6 y7 y8 y9 je y11 y12 y13 y14,ρ=lE s y1 a S y4 y5 y6 y7 y8 y9 je y11 y12 y13 y14/\HR t M 5 a ta wa S kl ca/\Hist S/\cQ!<=8+j/\∀o∈S,o.tm<=24+j
def c2b:Dk m8! b8!=some (.int (4*j)):=rfl
def c9b(m0:0<=m)(m4:m<4)(hi:Bm i)(hg:Bm g)(J:Jq b)(e6:Aa 6 ρ=some i)(e7:Aa 7 ρ=some g)(e8:Aa 8 ρ=some b)(e9:Aa 9 ρ=some b7_):∃c:Rg,c.ok/\(∀W,c.gd W↔wg W m i g)/\
  f2 Ai (Dh oz_) aj_ ρ=some c.d:=by
 have l:Dh oz_ ρ=some uQ_:=by
  simp[Dh,As,Ac,Ae,fC,e6,e7,e8,Rg.d]
 have e:∀{c:Rg},Ai uQ_ b7_=some c.d->f2 Ai (Dh _) aj_ ρ=some c.d:=λh=>bV l e9 h;have:m=0\/m=1\/m=2\/m=3:=by omega
 obtain rfl|rfl|rfl|rfl:=this
 .exact⟨.put g b,⟨hg,J⟩,i8!,fw!⟩
 .exact⟨.mov i g b,⟨hi,hg,J⟩,i8!,fw!⟩
 .exact⟨.mov i g .non,⟨hi,hg,cj_⟩,i8!,fw!⟩
 .exact⟨.drp i,hi,i8!,fw!⟩
def turn{k:Int}(hj:j<6)(h:LI t aZ_ a ta wa j ρ M)(hR:∀ρ' M',LI t aZ_ a ta wa bS! ρ' M'->R bP! M'):HE t (ρ.set 4 dG_) M R:=by
 obtain⟨S,kl,ca,y1,y4,y5,y6,y7,y8,y9,je,y11,y12,y13,y14,rfl,h,hH,hl,hB⟩:=h.e;have ho:∀o∈S.map Op.v,Ui o:=λo ho=>by obtain⟨x,hx,rfl⟩:=KY.mp ho;exact(hH.op x hx).ok
 obtain⟨ys,ei,il,hy⟩:=a3k ho (by rw[KQ];omega);obtain⟨m,em,_,_⟩:=fX ns (k:=30+4*k);obtain⟨i,ex,hi⟩:=iA (xs:=uV!) (n:=m) c!;obtain⟨m2,em2,_,_⟩:=fX ns (k:=31+4*k);obtain⟨g,eg,hg⟩:=iA (xs:=uV!) (n:=m2) c!;obtain⟨m3,em3,_,_⟩:=fX ns (k:=32+4*k);obtain⟨b,eb,J⟩:=iA (xs:=.non::ys) (n:=m3) c!;obtain⟨m4,em4,_,_⟩:=fX ns (k:=33+4*k);have w0:=NY m4 (b:=4) b!;have w4:=NK m4 (b:=4) b!;have sl:Bf pN_ d4_ (some (-2))=some aD_:=by
  have e:(uV_).toNat=N_+1:=by simp;omega
  show some (D.lst (List.take ((uV_).toNat - min 1 (eN!).length) (List.drop (min 1 (eN!).length) eN!)))=_;rw[e,show min 1 (eN!).length=1 by simp];simp
 have hi:=a0g hy i hi;have hg:=a0g hy g hg;have J:Jq b:=(KG.mp J).imp_right (hy b);have ad:An xv! aD_=some (.lst (.non::ys)):=by
  show(if 1+N_<=big then some (D.lst ([.non]++ys))else none)=_;rw[cH_];rfl
 generalize eN!=its at ei ex eg sl;refine eX (d:=.lst its) (gA fo_ ei) ?_;show Af _ _ (lE aZ_ y1 a S dG_ eO! y6 y7 y8 y9 je y11 y12 y13 y14) M R;refine eX (d:=i) (gA (bL rfl (bL (gA i9! em) rfl)) ex) ?_;show Af _ _ (lE aZ_ y1 a S dG_ eO! ba_ y7 y8 y9 je y11 y12 y13 y14) M R;refine eX (d:=g) (gA (bL rfl (bL (gA i9! em2) rfl)) eg) ?_;show Af _ _ (lE aZ_ y1 a S dG_ eO! ba_ bW_ y8 y9 je y11 y12 y13 y14) M R;refine eX (d:=b) (gA (bL (bV rfl (show Ey L! gb_ xw_ _=_ from sl) ad) (bL (gA i9! em3) rfl)) eb) ?_;show Af _ _ (lE aZ_ y1 a S dG_ eO! ba_ bW_ nF_ y9 je y11 y12 y13 y14) M R;refine eX (d:=.int (m4%4)) (a6j (gA i9! em4) b!) ?_;obtain⟨c,q,hc,ed⟩:=c9b (ρ:=lE aZ_ y1 a S dG_ eO! ba_ bW_ nF_ u0_ je y11 y12 y13 y14) w0 w4 hi hg J rfl rfl rfl rfl;show Af _ _ (lE aZ_ y1 a S dG_ eO! ba_ bW_ nF_ u0_ je y11 y12 y13 y14) M R;refine eX (d:=c.d) ed ?_;exact c7f (B:=24+j) (s:=ca!) (y1:=y1) (y4:=mn!) (y5:=bN!) (y8:=cF_) (y11:=y11) (y12:=y12) (y13:=y13) (y14:=y14) h hH a! hB a! a! w0 hi hg hg.sd q hc λM' S' bh bi y11 y12 y13 y14 h' hH' l' b'=>hR _ M' ⟨S',bh,bi,_,_,_,_,_,_,_,_,_,_,_,_,rfl,h',hH',p!,λo ho=>by have:=b' o ho;omega⟩
def c4w:∀(ks:v!) (j:Nat) (ρ:Ag) (M:Mh) (R:q_),LI t aZ_ a ta wa j ρ M->j+fj!<=6->(∀ρ' M',LI t aZ_ a ta wa (j+fj!) ρ' M'->R bP! M')->Hx gl_ ad! (HE t) s3! ρ M R
 |[],j,ρ,M,R,h,_,hR=>⟨trivial,hR ρ M h⟩
 |k::ks,j,ρ,M,R,h,hj,hR=>by
  rw[KO]at hj;exact⟨trivial,turn a! h λρ' M' h'=>c4w ks bS! ρ' M' R h' a! λbc M2 h2=>hR bc M2 (by rw[KO,show j+(ks.length+1)=j+1+ks.length by omega];exact h2)⟩
def b9y{N:Nat}{R:T_}(nd:t.nd)(hN:N<=8)(hR:∀a ta wa S kl ca M',Bt t M' 5 a ta wa .non S kl ca->Hist S->cQ!<=8->(∀o∈S,o.tm<=24)->R nG_ M'):Pl t [ca!,bg_,fO_,.int N] M R:=by
 obtain⟨os,ew,hl,hH,hB⟩:=b0p ns 0 N a!;refine h!;have hc:Pu xb_ u3_ M (.lst nH!):=λK hK=>by
  have e:Ek xb! u3_=some au!:=by
   unfold Ek;rw[gA (bL rfl hS_) ew];rfl
  unfold Bi Ip;rw[e];refine gY f3_;refine cG (λd=>match d with|.tup (.int h::_)=>!decide (h=5)|_=>false) id trivial _ _ aQ_ ?_
  .obtain⟨o,ho,rfl⟩:=KY.mp hd;refine⟨jb_,rfl,λK hK=>gX (ρ:=jb_) (b:=!decide jb!) ?_ _ hK,λ_ K hK=>aQ (ρ:=jb_) (f:=Aa 0) (d:=o.v) rfl _ hK⟩;have:f2 Ev aL_ r_ jb_=some (.bl (!decide jb!)):=bV hI! rfl rfl;show"!J"
  .rw[RY,PZ];exact hK
 refine fA hc ?_;refine jI (b2j rfl λa ta wa M1 hA=>?_);have hF:=hH.fl 5;have hlf:(u4!).length<=8:=by have:=PQ (λo:Op=>!decide jb!) os;omega
 refine jJ (mT (a:=v_) (b:=.lst nH!) rfl rfl (c0g nd hA (by rw[NN];exact hF) (λo ho=>by simpa using(iI!).2) (by rw[NN];omega) λM2 kl ca vx=>?_));rw[NN]at vx;exact dD (rW aB! (aQ (d:=.lst nH!) rfl)) (hR a ta wa _ kl ca M2 vx hF hlf λo ho=>by have:=hB o (iI!).1;omega)
def b7d{ns:v!}(nd:t.nd):BA t lG_ M0 (λd _=>d=.bl true):=by
 obtain⟨m,em,m0,_⟩:=fX ns (k:=60);have hN0:0<=m%9:=NY _ b!;have hN1:m%9<9:=NK _ b!;obtain⟨N,hN⟩:∃N:Nat,(N:Int)=m%9:=⟨(m%9).toNat,p!⟩;obtain⟨n,en,n0,_⟩:=fX ns (k:=61);have hK0:0<=n%6:=NY _ b!;have hK1:n%6<6:=NK _ b!;obtain⟨k,hk⟩:∃k:Nat,(k:Int)=n%6:=⟨(n%6).toNat,p!⟩;refine h!;rw[b4i];have e1:=a6j (ρ:=[ac!,none,none,none,none,none,none,none,none,none,none,none,none,none,none]) (f:=f1 Bh xl!) (gA hS_ em) (k:=9) b!;rw[<-hN]at e1;refine jI (b0j (a:=ca!) (b:=bg_) (c:=fO_) (d:=.int N) rfl rfl rfl e1 (b9y nd a! λa ta wa S kl ca M1 hA hH hl hB=>?_));refine eX (d:=v_) rfl ?_;refine eX (d:=cp!) rfl ?_;have e2:=a6j (ρ:=lE aZ_ (some nG_) a S none none none none none none none none none none none) (f:=f1 Bh xn_) (gA hS_ en) (k:=6) b!;rw[<-hk]at e2;have e3:Ew xo! vb_=some (((uz_).map λi=>fC_).map D.int):=by
  unfold Ew;rw[e2];show(if _ then some (Dj k)else none)=_;rw[aI!,MD];rfl
 show Af (Dp _ _ _) _ vb_ M1 _;unfold Af Dp Ip;rw[e3];refine c4w (ta:=ta) (wa:=wa) _ 0 _ M1 _ ⟨S,kl,ca,_,_,_,_,_,_,_,_,_,_,_,_,rfl,hA.hr hH a!,hH,hl,hB⟩ a4! λρ' M' h'=>?_;obtain⟨S,kl,ca,y1,y4,y5,y6,y7,y8,y9,je,y11,y12,y13,y14,rfl,h,hH,hl,hB⟩:=h'.e;rw[KQ,OV]at hl;show At oD! _ M' _;unfold At;exact mT (a:=v_) (b:=cp!) rfl rfl (b3f h hH a! λ_=>rfl)
end
end K20
namespace K20
open PySem L2 DL
section
def lB(T:e_):Ok P w K mg base 1 "is_whole" z_ (Ft):=
 eE T.D3 f_ (λhr _=>(bD (bX (kI (kG c2p rfl T.S9 rfl T.S8 cQ c8v B!) (kI (c8j (kG b7t rfl T.S9 rfl T.S5 cQ c3x B!)) (gW (fN a8z a9b (cF b9s c8q rfl T.S3 c8w bX!) (aX c6i c6p aD aD) n!)))))))
end
section
def iL(T:e_):Ok P w K mg base 2 "is_from_one" z_ (Dv):=
 eE T.D5 f_ (λhr _=>(bD (bX (kI vf! (gW (fN d0e d0g B! aD n!))))))
end
section
def lC(T:e_):Ok P w K mg base 2 "is_below" m4_ (Gw):=
 eE T.D4 f_ (λhr _=>(bD (bX (kI vf! (gW (a4h kX kZ a8z a9b aD B! R_))))))
end
section
def iK(T:e_):Ok P w K mg base 3 "is_name" z_ (Ea):=
 eE T.D6 f_ (λhr _=>(bC nK_ (bD (bX (kI (aT (lC T) a_ rfl (aE aU_ (aE (gS T.T9 rfl) aK)) ae!) (gW vk!))))))
end
section
def kL(T:e_):Ok P w K mg base 4 "is_sign_name" z_ (Dz):=
 eE T.D7 f_ (λhr _=>(bC nK_ (bD (bX (kI vm! (gW (aT (lC T) a_ rfl (aE aU_ (aE nM! aK)) ae!)))))))
end
section
def a5z(T:e_):Ok P w K mg base 4 "is_item" z_ (Gv):=
 eE T.D8 f_ (λhr _=>(bD (bX (xU vn_ (xU vo! (gW vo!))))))
end
section
def vN(T:e_):Ok P w K mg base 4 "is_sibling" z_ (Ff):=
 eE T.D9 f_ (λhr _=>(bD (bX (xU vq! (gW vn_)))))
end
section
def yV(T:e_):Ok P w K mg base 5 "is_behind" z_ (Fw):=
 eE T.E1 f_ (λhr _=>(bD (bX (xU vq! (gW (aT (kL T) a_ rfl bX! ap!))))))
end
section
def a5y(T:e_):Ok P w K mg base 1 "is_sign" f8_ (Gs):=
 eE T.E2 f_ (λhr _=>(bD (bX (kI (a4h kX kZ kX kZ aR B! aR) (gW (fN wO wQ (cF b9p c8p rfl T.T3 c8u bX!) (gS T.U2 rfl) n!))))))
end
section
def a5x(T:e_):Ok P w K mg base 2 "is_text" z_ (Jn):=
 eE T.E3 f_ (λhr _=>(bC (gR (uY (xQ (gE (fF (kG a0h rfl T.S9 rfl T.T6 cQ a7o B!))) (qO (gE (b8v kX kZ kX kZ aD gu_ nM!))))) eP_ dN) (bD (bX (cF nO_ a7l rfl T.S4 a7p (aE (kH (NL:=f8_) (NF:=[]) (ix:=[]) rfl b! i_ (bQ (sc:=Ak Ps) rfl i_) Cq.nil b! rfl (c8f B!) (λ_ _ _ _ _=>bE (i:=0) (show(f8_:List Str).Nodup by decide+kernel) rfl b_) V! gv_ (λ_ _ _ _ _=>(aT (a5y T) a_ rfl bX! ap!))) aK))))))
end
section
def qX(T:e_):Ok P w K mg base 3 "is_place" z_ (Du):=
 eE T.E4 f_ (λhr _=>(bD (bX (aT (lC T) a_ rfl (aE B! (aE vv! aK)) ae!))))
end
section
def hW{g:b5!}{ps:G_}{k:Nat}(h:Ok P w K mg base k x ps g)(hm:mg x=some be!)(hp:P!=1)(hk:k<=5):∃fd ps,P!=1/\Fk P w K mg base Pj 5 ae fd ps (Zo K ps.length g)/\Eu K fd ps []/\W.keepIn K be!=true:=by obtain⟨f',fd,Y,h2,h3,h4⟩:=h;rw[hm]at h3;cases h3;exact⟨fd,ps,hp,Y.mono hk,h2,h4⟩
end
section
def c2w(T:e_):BG P w K mg base 5 1 (Ks t):=by
 intro ae g e;unfold Ks at e;show"!8"
 .show"!6";exact hW (a5z T) T.U4 rfl b!
 show"!8"
 .show"!6";exact hW (vN T) T.U5 rfl b!
 show"!8"
 .show"!6";exact hW (yV T) T.U6 rfl b!
 show"!8"
 .show"!6";exact hW (a5x T) T.U7 rfl b!
 show"!8"
 .show"!6";exact hW (kL T) T.U8 rfl b!
 show"!8"
 .show"!6";exact hW (iL T) T.U9 rfl b!
 show"!8"
 .show"!6";exact hW (qX T) T.V0 rfl b!
 show"!8"
 .show"!6";exact hW (lB T) T.V1 rfl b!
 show"!8"
 .show"!6";exact hW (iK T) T.V2 rfl b!
 cases e
end
section
def iB(T:e_):Ds P w K mg base 1 t.B5 "have" nC_ gr!:=
 cJ T.V3 T.L6 f_ (λhr _=>(aG (bA (uE cU b9l rfl T.T0 eC (aC (oN t_ dK_ p_ nP_ cu_) aM)))))
end
section
def a6c(T:e_):Xh P w K mg base 1 "Hand" t.B5 nB_ (On t):=
 yY T.L5 f_ (λhr _=>(aF (fW T.V3 T.X2 j! p_) (aF (fW T.V3 T.X3 j! fJ) (aF (fW T.V3 T.X4 j! (zH aM)) vy_))))
end
section
def a2n(T:e_):Iz P w K mg base 1 "_law_lies" xV! (Hc):=
 bW T.Q9 f_ (λhr nd=>(aF (jN LW (eH vz!) (aF (jZ (i:=3) (NL:=bY_) (NF:=[aB_]) (ix:=[1]) nd rfl b_ rfl b! i_ (bQ (sc:=Ak Tj) rfl i_) jh! b! rfl nQ! ji! V! nQ_ ji_) (aF (cH (eH (gE (a4b aF!))) c2! bN) (aG (aV (i:=1) nd rfl aV_ gw_))))) c2!))
end
section
def c1y(T:e_):Iz P w K mg base 2 "_law_can" ov_ (Sq):=
 bW T.S0 f_ (λhr _=>(aF (cH (rR (a2v (cY gx! dP p_ bo_ rfl) (tV (jY vE!)))) c2! bN) (aG (bA (b6s vF_)))))
end
section
def b5z(T:e_):Ok P w K mg base 1 "_law_cell" gx_ (Np):=
 eE T.P8 f_ (λhr _=>(bC (gR (a4b B!) vG! dN) (bD (bX aD))))
end
section
def yX(T:e_):Iz P w K mg base 1 "_law_children" e0! (Hi):=
 bW T.R5 f_ (λhr _=>(aG (bA (gH (NL:=bY_) (NF:=[aB_]) (ix:=[1]) rfl b! i_ (bQ (sc:=Ak Ng) rfl i_) jh! b! rfl nQ! ji! V! nQ_ ji_))))
end
section
def dX(T:e_):Ok P w K mg base 2 "_law_mix" gx_ (Bh):=
 eE T.P9 f_ (λhr nd=>(bC (fM (i:=2) nd rfl b_ (aX eP eQ (aX aO bI (aT (b5z T) a_ rfl vJ! ae!) (aX iY iZ aD vI!)) aD)) (bC (fM (i:=2) nd rfl b_ (aX eP eQ (aX iY iZ aq! aD) aD)) (bD (bX (aX eP eQ (aX aO bI (aX iY iZ (aX lX lY aq! aD) aD) aq!) aD))))))
end
section
def wR(T:e_):Ok P w K mg base 1 "_law_items" bF! (Hh):=
 eE T.Q0 f_ (λhr _=>(bD (bX (aX aO bI (aX aO bI nW_ (kH (NL:=bY_) (NF:=[]) (ix:=[]) rfl b! i_ (bQ (sc:=Ak Rk) rfl i_) Cq.nil b! rfl jm_ nX! V! (λ_ _ _ _ _=>c4n (bJ ap_ cB nX_ aR n!)) vK!)) (eV (n:=12) rfl)))))
end
section
def b1w(T:e_):Ok P w K mg base 1 "_law_signs" bF! (Lk):=
 eE T.Q1 f_ (λhr nd=>(bC (nJ (i:=1) nd rfl b_ (aE dB (aE vL! aK))) (bC (a7c LW rfl jm_ nd rfl b_ (bD (gR (bJ ap_ cB jn_ aR n!) (bD (a7c LW rfl (fZ rfl T.T4 (cF cU eJ rfl T.T0 eC (aE jn_ aK))) nd rfl b_ (bD (qP (i:=1) b! (cL (aE aV! (aE aV! eS_))))))) dN))) (a4c (bD (bX R_))))))
end
section
def b5v(T:e_):Ok P w K mg base 1 "_law_text" [cv_,gz_] (Nm):=
 eE T.Q2 f_ (λhr nd=>(bC (fM (i:=2) nd rfl aV_ aR) (bD (bX (c3l aR (kH (NL:=[aL!]) (NF:=[cv_,n1!]) (ix:=[0,2]) rfl b! i_ (bQ (sc:=Ak Th) rfl i_) (Cq.cons (j:=0) jo!) b! rfl (fZ rfl T.T4 (aX aO bI aD (aX eP eQ B! R_))) (λ_ _ _ _ _=>bE (i:=0) (show([aL!,cv_,n1!]:List Str).Nodup by decide+kernel) rfl b_) V! gv_ (λ_ _ _ _ _=>(aN aH aL aq! (aX eP eQ (aX lX lY R_ (aX aO bI aD (aX iY iZ aD B!))) aD) k!))))))))
end
section
def fV(T:e_):Ok P w K mg base 1 "_law_pick" n2! (Cm):=
 eE T.Q3 f_ (λhr _=>vG!)
end
section
def b5y(T:e_):Ok P w K mg base 3 "_law_deed" xU! (Ka):=
 eE T.Q4 f_ (λhr nd=>(bC (fM (i:=4) nd rfl b_ (aT gA! a_ rfl vJ! ae!)) (bC (fM (i:=5) nd rfl b_ (aT (wR T) a_ rfl c2_ ap!)) (bC (fM (i:=6) nd rfl b_ (aT dM_ a_ rfl (aE (aX aO bI (dJ aq_ cu! eA) (dJ aq_ eA cu!)) gA_) ae!)) (bC (fM (i:=7) nd rfl b_ (aT dM_ a_ rfl (aE (aX aO bI aq_ nS!) gA_) ae!)) (bC (gR (fF (kG a0h rfl T.S9 rfl T.T6 cQ a7o bZ_)) (bD (fM (i:=7) nd rfl b_ dB)) dN) (bC (fM (i:=8) nd rfl b_ (eV (n:=19) rfl)) (bC (fM (i:=9) nd rfl b_ (aN aH aL cw! vX! k!)) (bC (gR gB_ (bD (bX (cL (aE bq! vX_)))) dN) (bC (gR gB_ (bD (bX (cL (aE bq! (aE bc! vX_))))) dN) (bC (gR gB_ (bD (bX (cL (aE bq! n4_)))) dN) (bC (fM (i:=10) nd rfl b_ (aT dM_ a_ rfl (aE (aT (b1w T) a_ rfl c2_ ap!) gA_) ae!)) (bC (gR gB_ (bD (bX (cL (aE bq! (aE bc! (aE gC! (aE (aT (b5v T) a_ rfl (aE vT! eS_) ae!) aK))))))) dN) (bC (gR (uY (uX gB_ (pF (bJ lW mB gC! dB n!)))) (bD (bX (cL (aE bq! (aE bc! (aE gC! (aE (aX aO bI aD (aX eP eQ v3! (aX pU qB aD (aN aH aL gC! aD k!)))) aK))))))) dN) (bC (gR (bJ b1q d0j bq! nS! rfl) (bD (bX (cL (aE aR (aE bc! (aE v4_ (aE (aX pU qB v4_ aD) aK))))))) dN) (bC (fM (i:=11) nd rfl b_ (aX aO bI (kH (NL:=bY_) (NF:=[]) (ix:=[]) rfl b! i_ (bQ (sc:=Ak Tn) rfl i_) Cq.nil b! rfl (eZ aq!) nX! V! gv_ vK!) (lS (aE (cL (aE aD (aE (aX aO bI aD vX!) aK))) aK)))) (bD (bX (cL (aE bq! (aE (aT dM_ a_ rfl (aE (aA 11) gA_) ae!) aK)))))))))))))))))))))
end
section
def a2o(T:e_):Iz P w K mg base 1 "_law_hang" gK_ (Iy):=
 bW T.Q8 f_ (λhr nd=>(aF (jZ (i:=4) (NL:=bY_) (NF:=[aB_]) (ix:=[1]) nd rfl b_ rfl b! i_ (bQ (sc:=Ak Tk) rfl i_) jh! b! rfl nQ! ji! V! v9_ eV!) (aF (aV (i:=5) nd rfl b_ V_) (aF (jN LW (eH (uY (uX (bJ a8z a9b aq_ wa_ n!) (pF (bJ bY! qC (aN aH aL (aN aH aL bb_ aq_ k!) aD k!) aq! n!))))) (aG (aV (i:=5) nd rfl b_ (aB (aX aO bI aq_ aD))))) (aF (eS LW rfl (mK (fZ rfl T.T4 wa_)) wc! (dI 6) (aG (cH (eH (uY (uX (bJ lW mB aF! dB n!) (pF (bJ ap_ cB (aN aH aL bb_ bc! k!) (cL (aE aF! c2_)) n!))))) (aG (aV (i:=5) nd rfl b_ (aB (aX aO bI bc! aD)))) bN))) (aG (dL t_ j! aE_ (aB (aX aO bI (aX aO bI (dJ bb_ eA (dO aq_)) (lS (aE (cL wd!) aK))) (dJ bb_ (dO aq_) eA))))))))))
end
section
def a2m(T:e_):Iz P w K mg base 2 "_law_move" gK_ (Iw):=
 bW T.R0 f_ (λhr _=>(aG (cH (rR (nE (cY bp! dP p_ bo_ rfl) (jX vE!))) (aG (cH (jY (fE vF_)) (aG (cP (aP (a2o T) a_ rfl (aC j! (aC p_ jt!))))) bN)) bN)))
end
section
def c6r(T:e_):Iz P w K mg base 3 "_law_do" [bm!,bZ!] (Wi):=
 bW T.R3 f_ (λhr nd=>(aF (aV (i:=2) nd rfl aV_ cw_) (aF (aV (i:=3) nd rfl aV_ (aB (cL (aE dN_ (aE dN_ aK))))) (aG (cH b1_ (aF (aV (i:=4) nd rfl b_ (b6r (iO bp! dP bG! bo_ rfl) (qD (aB (fN ap_ cB aV! aR n!))))) (aF (dL t_ bo_ aG! nP_) (aF (dL t_ bo_ aG! (zH (aC V_ (aC V_ (aC V_ oa_))))) (aG (cP (aP (a2o T) a_ rfl (aC j! (aC aG! (aC (aB (c5e (fF bb_) aV! aR)) ob!))))))))) (aG (cH b1_ (aG (cP (aP (a2m T) a_ rfl (aC j! gH!)))) (aG (cH b1_ (aG (cP (aP (a2m T) a_ rfl (aC j! wl!)))) (aG (cH oc_ (aG (dL t_ wl_ bG! bG!)) (aG (cH oc_ (aF wn! (aF (aV (i:=6) nd rfl b_ V_) (aF (eS LW rfl (mK (fZ rfl T.T4 (cF cU eJ rfl T.T0 eC (aE aq_ aK)))) wo_ (dI 7) (aG (cH (eH (bJ ap_ cB (aN aH aL (aN aH aL aq_ bZ_ k!) aD k!) aV! n!)) (aG (aV (i:=6) nd rfl b_ (aB (aX aO bI bZ_ aD)))) bN))) (aF (jZ (i:=8) (NL:=[aL!]) (NF:=[bl_,oq_]) (ix:=[2,3]) nd rfl b_ rfl b! i_ od_ (Cq.cons (j:=2) oe!) b! rfl (mK (fZ rfl T.T4 (cF cU eJ rfl T.T0 eC (aE aV! aK)))) (λ_ _ _ _ _=>bE (i:=0) (show([aL!,bl_,oq_]:List Str).Nodup by decide+kernel) rfl b_) V! dO! (λ_ _ _ _ _=>(aB (cL (aE (aX aO bI aq! (cL bX!)) (aE (aN aH aL dN_ B! k!) (aE eW aK))))))) (aG (dL t_ bo_ bG! (aB (aX aO bI (aX aO bI (dJ aq_ eA (dO bc!)) cw!) (dJ aq_ (dO bc!) eA))))))))) (aG (cH oc_ (aF (aV (i:=9) nd rfl aV_ (gH (NL:=[aL!]) (NF:=[bl_]) (ix:=[2]) rfl b! i_ od_ jo! b! rfl (mK (fZ rfl T.T4 aV!)) (λ_ _ _ _ _=>bE (i:=0) (show([aL!,bl_]:List Str).Nodup by decide+kernel) rfl b_) V! dO! (λ_ _ _ _ _=>(aB (aX aO bI (dJ dN_ eA cu!) (cL (aE (aX aO bI (aN aH aL dN_ aD k!) B!) aK))))))) (aF wn! (aG (dL t_ bo_ bG! (gH (NL:=[jw!]) (NF:=[or_]) (ix:=[9]) rfl b! i_ od_ (Cq.cons (j:=9) Cq.nil) b! rfl (mK (eZ aq_)) (λ_ _ _ _ _=>bE (i:=0) (show([jw!,or_]:List Str).Nodup by decide+kernel) rfl b_) V! dO! (λ_ _ _ _ _=>(uC (aC dL! (aC dL! (aC (zI dL! (qD (iO gx! dP dL! p_ rfl))) aM)))))))))) bN)))))))))))))))
end
section
def yW(T:e_):Ok P w K mg base 6 "are_parts" m9! (Hg t):=
 eE T.E5 f_ (λhr _=>(bC (gR (bJ wO wQ gu_ wC_ n!) eP_ dN) (bD (bX (cF nO_ a7l rfl T.S4 a7p (aE (kH (NL:=wE_) (NF:=[]) (ix:=[]) rfl b! i_ (bQ (sc:=Ak Nd) rfl i_) Cq.nil b! rfl (c8e rfl T.T8 c8t R_ B!) (λ_ _ _ _ _=>b5d rfl (nX (bE (i:=0) wF! rfl b_) (nX (bE (i:=1) wF! rfl b_) a8q))) (c2u 0 1) gv_ (λ_ _ _ _ _=>(b9e (j:=0) (n:=1) (c2w T) a_ gy! ap!))) aK))))))
end
section
def a6a(T:e_):Ok P w K mg base 7 "is_deed" z_ (Ia t):=
 eE T.E6 f_ (λhr _=>(bC (gR (uY (xQ vh_ (qO (bJ ap_ cB gu_ aD n!)))) eP_ dN) (bC (gR (uY (xQ (gE (fF (kG a0h rfl T.S9 rfl T.T6 cQ a7o aU_))) (qO (b2w wM! rfl aU_)))) eP_ dN) (bC (gR (gE (fF (aT (yW T) a_ rfl (aE (dJ B! cu! eA) (aE (c3n wM! rfl aU_ k!) aK)) ae!))) eP_ dN) (bD (bX (xU (fN wO wQ aU_ aR n!) (gW (fN kX kZ (aX aO bI nX_ aU_) nM! n!)))))))))
end
section
def rP(T:e_):Ok P w K mg base 8 "is_operation" z_ (By t):=
 eE T.E7 f_ (λhr _=>(bC nK_ (bD (bX (kI vm! (kI vk! (gW (aT (a6a T) a_ rfl nL! ap!))))))))
end
section
def oA(T:e_):Iz P w K mg base 2 "was_taken" bE_ (Fv t):=
 bW T.L9 f_ (λhr _=>(aG (bA (iO kX (Hs.m kZ) cw_ wU_ n!))))
end
section
def pX(T:e_):Iz P w K mg base 3 "not_yet_taken" dI_ (El t):=
 bW T.N3 f_ (λhr nd=>(aF on! (aF (eS LW rfl (dY (uD aO jU gM_ p_)) eX! c5! (aF oo! (aF (cH (fE (aP (oA T) a_ rfl eX_)) (aG (aV (i:=5) nd rfl b_ (bU I_ bF (bU I_ bF dK_ (aB oo_) k!) (aB (aX pU qB oo_ aD)) k!))) (aG (cH (cY ap_ jz! (aB oo_) op! n!) eY! (aG (aV (i:=5) nd rfl b_ (wY t_ D_ bq_ aG! cu_)))))) (aG (cH (eH (bJ bY! qC aq_ aF! n!)) eY! bN))))) dP_)))
end
section
def oB(T:e_):Iz P w K mg base 2 "last_time" nG! (Ez t):=
 bW T.N0 f_ (λhr _=>(aF (cH (cY ap_ jz! (bS (iB T) a_ j! aF_) V_ n!) wX_ bN) (aG (bA (bU I_ bF (bU I_ bF (bU I_ bF dK_ p_ k!) (aB (b9d aD)) k!) V_ k!)))))
end
section
def tN(T:e_):Iz P w K mg base 3 "check_times" [H!,jd_] (Je t):=
 bW T.N4 f_ (λhr nd=>(aF on! (aG (eS LW rfl (dY (uE (vY rfl) b9k rfl T.T5 xZ aF_)) eX! c5! (aF (aV (i:=4) nd rfl b_ (bU I_ bF (bU I_ bF p_ aG! k!) V_ k!)) (aF (cH (cY kX (Hs.m kZ) bq_ (oN t_ D_ gw_ (aP (oB T) a_ rfl (aC j! (aC gw_ aM))) cu_) n!) eY! bN) (aG (dL t_ D_ gw_ bq_))))))))
end
section
def pY(T:e_):Iz P w K mg base 9 "check_message" dI_ (Fo t):=
 bW T.N5 f_ (λhr _=>(aF (cH (eH (gE (fF (cF nO_ a7l rfl T.S4 a7p (aE (kH (NL:=z_) (NF:=[]) (ix:=[]) rfl b! i_ (bQ (sc:=Ak Jh) rfl i_) Cq.nil b! rfl (eZ R_) (λ_ _ _ _ _=>bE (i:=0) (show(z_:List Str).Nodup by decide+kernel) rfl b_) V! gv_ (λ_ _ _ _ _=>(aT (rP T) a_ rfl bX! ap!))) aK))))) eY! bN) (aG (cP (aP (tN T) a_ rfl (aC j! (aC (aP (pX T) a_ rfl c6!) aM)))))))
end
section
def nA(T:e_):Iz P w K mg base 2 "is_next" bE_ (Gu t):=
 bW T.M9 f_ (λhr _=>(aG (bA (iO ap_ jz! cw_ (uD aO jU wU_ V_) n!))))
end
section
def pZ(T:e_):Iz P w K mg base 1 "accept" bE_ (Jo t):=
 bW T.N6 f_ (λhr _=>(aF (cP (a9l (wY t_ dK_ cw_ (zH aM) cu_) p_)) vy_))
end
section
def oE(T:e_):Iz P w K mg base 3 "accept_waiting" bo! (Fg t):=
 bW T.N7 f_ (λhr nd=>(aF (aV (i:=1) nd rfl b_ V_) (aF w6! (aF (jN LW (eH (bJ a9a a9c (cF cU eJ rfl T.T0 eC c2_) aD n!)) (aF iM (aF (cP (aP (pZ T) a_ rfl (aC j! ob!))) (aF (b6n (i:=1) nd rfl b_ V_) (aG w6!))))) dQ_))))
end
section
def a5w(T:e_):Iz P w K mg base 4 "receive" bE_ (Jl t):=
 bW T.N8 f_ (λhr nd=>(aF (cH (fE (aP (nA T) a_ rfl c6!)) (aF (cP (aP (pZ T) a_ rfl c6!)) (aG (bA (uD aO jU V_ (aP (oE T) a_ rfl b4_))))) bN) (aF (aV (i:=2) nd rfl b_ (b6r (aP (oA T) a_ rfl c6!) (qD (iO bp! dP p_ gM_ rfl)))) (aF (cH (rR (nE (eH (gE (fF aq!))) (jX (cY a8z (Hs.m a9b) (uE cU b9l rfl T.T0 eC (aC gM_ aM)) (aB (gS T.U3 rfl)) n!)))) (aG (cP (a9l gM_ p_))) bN) wX_))))
end
section
def c1u(T:e_):Iz P w K mg base 10 "take" dI_ (Vm t):=
 bW T.N9 f_ (λhr nd=>(aF (cP (aP (pY T) a_ rfl c6!)) (aF (aV (i:=2) nd rfl b_ V_) (aF (eS LW rfl (mK (eZ R_)) eX! c5! (aG (b6n (i:=2) nd rfl b_ (aP (a5w T) a_ rfl eX_)))) dP_))))
end
section
def b1v(T:e_):Ok P w K mg base 4 "_law_world" xU_ (Jp):=
 eE T.Q5 f_ (λhr nd=>(bC (nJ (i:=3) nd rfl b_ aK) (bC (nJ (i:=4) nd rfl b_ xd_) (bC (nJ (i:=5) nd rfl b_ xd_) (bC (a7c LW rfl (fZ rfl T.T4 aq!) nd rfl b_ (bC (fM (i:=7) nd rfl b_ (aT gA! a_ rfl (aE B! (aE xe_ aK)) ae!)) (bC (fM (i:=8) nd rfl b_ (aX eP eQ bZ_ aD)) (bC (b8w (i:=4) b! cw! (aX aO bI xg! aD)) (bC (b8w (i:=5) b! cw! (aX aO bI (aX aO bI xg_ aD) (aX eP eQ (aX lX lY bZ_ aD) aD))) (bC (fM (i:=9) nd rfl b_ (b0d (aT (b5y T) a_ rfl (aE B! (aE (aX aO bI xe_ aD) (aE aF! ov!))) (aI (aI ae!))))) (bD (qP (i:=3) b! (cL (aE (aN aH aL vL! cw! k!) (aE xg! (aE xg_ (aE bq! aK))))))))))))) (a4c (bD (bX aF!))))))))
end
section
def b5x(T:e_):Iz P w K mg base 11 "_law_hand" xW_ (Pl t):=
 bW T.R8 f_ (λhr nd=>(aF (jZ (i:=4) (NL:=bY_) (NF:=[dR!]) (ix:=[2]) nd rfl b_ rfl b! i_ (bQ (sc:=Ak Tl) rfl i_) jo! b! rfl (mK (eZ (aT (b1v T) a_ rfl (aE B! (aE R_ eS_)) (aI ae!)))) xk! V! v9_ eV!) (aF (aV (i:=5) nd rfl b_ (c2f (a6c T) a_ rfl gR!)) (aF (cP (aP (c1u T) a_ rfl xm_)) (aG (bA (uC xm_)))))))
end
section
def b5w(T:e_):Iz P w K mg base 1 "_law_next" xX_ (No):=
 bW T.R9 f_ (λhr nd=>(aF (jZ (i:=3) (NL:=bY_) (NF:=[]) (ix:=[]) nd rfl b_ rfl b! i_ xo_ Cq.nil b! rfl ox! nX! V! dO! ji_) (aG (bA (aB (cL (aE R_ (aE (aX aO bI aD (cF cU eJ rfl T.T0 eC (aE (kH (NL:=bY_) (NF:=[dR!]) (ix:=[1]) rfl b! i_ xo_ jh! b! rfl jm_ xk! V! (λ_ _ _ _ _=>c4n vA_) (λ_ _ _ _ _=>B!)) aK))) (aE (aX aO bI aD (cF (b3b rfl) c3v rfl T.T2 b9v (aE (aX aO bI aF! nW_) aK))) c2_)))))))))
end
section
def lH(T:e_):Iz P w K mg base 1 "_law_ordered" bF! (Dw):=
 bW T.Q6 f_ (λhr nd=>(aF oy! (aF (eS LW rfl ox! jG_ (dI 2) (aF (aV (i:=3) nd rfl b_ (aB (b0d wC_))) (aF (jN LW (eH (uY (uX (bJ a9a a9c aF! aD n!) (pF (bJ (c6n (Ah.units0 hr)) c6v (cL (aE xx! (aE xx! aK))) (cL (aE aV! (aE aV! aK))) n!))))) (aG (aV (i:=3) nd rfl b_ (aB xw!)))) (aG (b6m (b2x (i:=1) b! aF! aq!)))))) (tW dQ_))))
end
section
def a6b(T:e_):Iz P w K mg base 2 "_law_undone" bF! (Ls):=
 bW T.Q7 f_ (λhr nd=>(aF xD! (aF (eS LW rfl xD_ jG_ (dI 2) (aG (cH (cY bp! dP jI_ eR! rfl) (aG (dL t_ p_ jI_ (aB (fN ap_ cB jn_ aR n!)))) bN))) dQ_)))
end
section
def a2l(T:e_):Iz P w K mg base 4 "_law_play" bF! (Lu):=
 bW T.R4 f_ (λhr nd=>(aF (aV (i:=1) nd rfl b_ (oM t_ (iC aE_ nP_ (iC aE_ fJ (iC aE_ fJ tX))))) (aF (aV (i:=2) nd rfl b_ (aP (a6b T) a_ rfl b4_)) (aF (eS LW rfl xD_ eX! c5! (aG (cH (rR (nE (cY gx! dP (aB (aN aH aL jj_ aD k!)) eR! rfl) (jX (jY (fE (oN t_ D_ (aB (cL (aE jj_ (aE jj_ aK)))) eQ_ cu_)))))) (aG (cP (aP (c6r T) a_ rfl oA_))) bN))) dQ_))))
end
section
def tQ(T:e_):Iz P w K mg base 1 "_law_shown_text" e0! (Hb):=
 bW T.R6 f_ (λhr _=>(aG (bA (a9k (gH (NL:=[jw!]) (NF:=[]) (ix:=[]) rfl b! i_ (bQ (sc:=Ak Kx) rfl i_) Cq.nil b! rfl (dY (bU I_ bF bo_ p_ k!)) (λ_ _ _ _ _=>bE (i:=0) (show([jw!]:List Str).Nodup by decide+kernel) rfl b_) V! (λ_ _ _ _ _=>mP (eH (fF aU_))) ji_)))))
end
section
def fU(T:e_):Ds P w K mg base 1 t.B6 "has" aw_ gi!:=
 cJ T.V4 T.G8 f_ (λhr _=>(aG (bA (iO bp! dP p_ e2! rfl))))
end
section
def pW(T:e_):Ok P w K mg base 1 "time_and_hand" cZ! (Dg):=
 eE T.E8 f_ (λhr _=>(bD (bX vJ_)))
end
section
def lD(T:e_):Ok P w K mg base 4 "in_order" cq! (Dl):=
 eE T.E9 f_ (λhr _=>(bD (bX (b9c (pW T) (Ah.in1 (Ah.in1 a_)) rfl rfl T.T5 B!))))
end
section
def lZ(T:e_):Xh P w K mg base 1 "Row" t.B7 bR_ (Gg t):=
 yY T.F6 f_ (λhr _=>(aF (fW T.V5 T.W4 j! xS!) (aG (fW T.V5 T.W5 j! xS!))))
end
section
def vO(T:e_):Xh P w K mg base 3 "Outline" t.B6 bR_ (Hw t):=
 yY T.G7 f_ (λhr _=>(aF (fW T.V4 T.W6 j! (oM t_ (iC aE_ bX_ (iC aE_ bX_ tX)))) (aF (fW T.V4 T.W7 j! (oM t_ (iC aE_ jL! (iC aE_ jL! tX)))) (aF (fW T.V4 T.W8 j! fJ) (aF (fW T.V4 T.W9 j! fJ) (aF (fW T.V4 T.X0 j! fJ) (aG (fW T.V4 T.X1 j! fJ))))))))
end
section
def iJ(T:e_):Ok P w K mg base 1 "is_undo_or_redo" cZ! (Aw):=
 eE T.K6 f_ (λhr _=>(bD (bX (xU xV_ (gW xV_)))))
end
section
def vM(T:e_):Iz P w K mg base 5 "last_words" cq! (Gf):=
 bW T.K7 f_ (λhr nd=>(aF xD! (aF (eS LW rfl xZ! jG_ (dI 2) (aG (cH (eH (fF (aT (iJ T) a_ rfl c2_ ap!))) (aG (dL t_ p_ jI_ jI_)) bN))) dQ_)))
end
section
def b1r(T:e_):Iz P w K mg base 6 "undone" cq! (Li):=
 bW T.K8 f_ (λhr nd=>(aF (aV (i:=1) nd rfl b_ (aP (vM T) a_ rfl b4_)) (aF on! (aF (eS LW rfl ox! eX! c5! (aF oo! (aG (cH (rR (nE (eH (gE (fF (aT (iJ T) a_ rfl eS_ ap!)))) (jX (cY ap_ jz! (b6u t_ p_ bq_ cu_) aE_ n!)))) (aG (dL t_ D_ bq_ eQ_)) bN)))) dP_))))
end
section
def oG(T:e_):Ds P w K mg base 1 t.B7 "holds" aw_ (Fb t):=
 cJ T.V5 T.F7 f_ (λhr _=>(aG (bA (zI x2! (qD (iO bp! dP p_ c8! rfl))))))
end
section
def fS(T:e_):Ds P w K mg base 2 t.B7 "put_behind" xS_ (Cs t):=
 cJ T.V5 T.F8 f_ (λhr nd=>(aF (aV (i:=3) nd rfl b_ (c4u (fE (bS (oG T) a_ j! gR!)) D_ bX_)) (aF (aV (i:=4) nd rfl b_ (bU I_ bF c8! aG! k!)) (aF (dL t_ c8! aG! p_) (aF (dL t_ jM! p_ aG!) (aF (dL t_ c8! p_ bq_) (aG (dL t_ jM! bq_ p_))))))))
end
section
def tO(T:e_):Ds P w K mg base 3 t.B6 "put" gk! (Jf t):=
 cJ T.V4 T.J0 f_ (λhr nd=>(aF (aV (i:=4) nd rfl b_ (c4u (fE x3_) D_ aE_)) (aF (dL t_ oF_ p_ bq_) (aF (cP (bS (fS T) a_ (bU I_ bF e2! bq_ k!) oA_)) (aF (dL t_ e2! p_ jL!) (aF (dL t_ jM_ p_ jL!) (aG (dL t_ x4_ p_ (c2d oa_ (aB vv!))))))))))
end
section
def rQ(T:e_):Ds P w K mg base 1 t.B7 "take_out" aw_ (Im t):=
 cJ T.V5 T.F9 f_ (λhr nd=>(aF (aV (i:=2) nd rfl b_ (b6q t_ jM! p_ cu_)) (aF (aV (i:=3) nd rfl b_ (b6q t_ c8! p_ cu_)) (aF (dL t_ c8! D_ aG!) (aG (dL t_ jM! aG! D_))))))
end
section
def dG(T:e_):Ds P w K mg base 1 t.B6 "has_item" aw_ (Cf t):=
 cJ T.V4 T.G9 f_ (λhr _=>(aG (bA (iO bp! dP p_ jM_ rfl))))
end
section
def lG(T:e_):Ds P w K mg base 1 t.B6 "is_within" ni! (Fj t):=
 cJ T.V4 T.H9 f_ (λhr nd=>(aF (jN LW (eH (uY (uX (bJ lW mB R_ dB n!) (pF vz!)))) (aG (aV (i:=1) nd rfl b_ oK!))) (aG (bA x2!))))
end
section
def gZ(T:e_):Ds P w K mg base 2 t.B6 "can_move" nl_ (Ct t):=
 cJ T.V4 T.J4 f_ (λhr _=>(aG (bA (zI oL! (zI x3_ (qD (b6s (bS (lG T) a_ j! vF!))))))))
end
section
def kM(T:e_):Ds P w K mg base 3 t.B6 "move" gk! (Gi t):=
 cJ T.V4 T.J5 f_ (λhr _=>(aF (cH (jY (fE (bS (gZ T) a_ j! oL_))) (aG zE) bN) (aF (cP (bS (rQ T) a_ (bU I_ bF e2! oK! k!) aF_)) (aF (cP (bS (fS T) a_ (bU I_ bF e2! D_ k!) oA_)) (aG (dL t_ oF_ p_ D_))))))
end
section
def qA(T:e_):Ds P w K mg base 3 t.B6 "write" xT! (Hm t):=
 cJ T.V4 T.J6 f_ (λhr nd=>(aF (cH (jY (fE (bS (dG T) a_ j! gR!))) (aG zE) bN) (aF (aV (i:=5) nd rfl b_ aG!) (aG (eS LW rfl (mK (b9b rfl T.S7 bb_)) (b5d rfl (nX wc! (nX wo_ a8q))) (b8d 6 7) (aF (aV (i:=8) nd rfl b_ (aB (aX aO bI R_ (cL n4_)))) (aF (cP (bS (fS T) a_ (bU I_ bF jM_ D_ k!) (aC oO_ (aC jF_ aM)))) (aF (dL t_ (bH T.V4 T.X0 j!) oO_ oP!) (aG (aV (i:=5) nd rfl b_ oO_))))))))))
end
section
def tP(T:e_):Ds P w K mg base 2 t.B6 "cut" xT_ (Jg t):=
 cJ T.V4 T.J7 f_ (λhr nd=>(aF (cH (jY (fE oL!)) (aG zE) bN) (aG (eS LW rfl (mK (b2y rfl T.T4 aV! (aX aO bI aV! aF!))) (bE (i:=4) nd rfl b_) (dI 4) (aF (aV (i:=5) nd rfl b_ (aB (aX aO bI (dJ aq! eA cu!) (cL (aE bb_ aK))))) (aG (cH (fE (bS (oG T) a_ yb! (aC jF_ aM))) (aG (dL t_ (bH T.V4 T.X1 j!) jF_ eQ_)) bN)))))))
end
section
def kN(T:e_):Ds P w K mg base 2 t.B6 "set_number" nr_ (Fc t):=
 cJ T.V4 T.J8 f_ (λhr _=>(aG (cH (fE oL!) (aG (dL t_ yd! D_ aG!)) bN)))
end
section
def c1v(T:e_):Iz P w K mg base 4 "play" nz_ (Mw t):=
 bW T.K9 f_ (λhr _=>(aG (cH b1_ (aG (cP (bS (tO T) a_ j! (aC p_ wk!)))) (aG (cH b1_ (aG (cP (bS (kM T) a_ j! gH!))) (aG (cH b1_ (aG (cP (bS (kM T) a_ j! wl!))) (aG (cH b1_ (aG (cP (bS (qA T) a_ j! (aC p_ gH!)))) (aG (cH b1_ (aG (cP (bS (tP T) a_ j! gH!))) (aG (cH b1_ (aG (cP (bS (kN T) a_ j! gH!))) bN)))))))))))))
end
section
def b1s(T:e_):Iz P w K mg base 7 "played" cq! (Jm t):=
 bW T.L4 f_ (λhr nd=>(aF (aV (i:=1) nd rfl b_ (lK (vO T) a_ rfl)) (aF (aV (i:=2) nd rfl b_ (aP (b1r T) a_ rfl b4_)) (aF (eS LW rfl xZ! eX! c5! (aF oo! (aG (cH (cY gx! dP bq_ D_ rfl) (aG (cP (aP (c1v T) a_ rfl (aC p_ (aC bq_ (aC gw_ aM)))))) bN)))) dQ_))))
end
section
def oC(T:e_):Iz P w K mg base 5 "all_taken" bo! (Fa t):=
 bW T.L7 f_ (λhr nd=>(aF oy! (aF (eS LW rfl (a6k dK_) jG_ (dI 2) (aG (b2h (i:=1) b! (bU I_ bF dK_ D_ k!)))) (tW (aG (bA (aB (aT (lD T) a_ rfl gy! ap!))))))))
end
section
def gG(T:e_):Iz P w K mg base 8 "outline_of" bo! (Cc t):=
 bW T.L8 f_ (λhr _=>(aF (cH (cY a5u (Hs.m a6d) yl! bX_ n!) (aG (fW T.V3 T.X5 j! (aP (b1s T) a_ rfl (aC yl_ aM)))) bN) (aG (bA yl!))))
end
section
def a2j(T:e_):Iz P w K mg base 9 "there" ax_ (Lr t):=
 bW T.O6 f_ (λhr _=>(aG (bA (bS (fU T) a_ oR_ aF_))))
end
section
def lF(T:e_):Ds P w K mg base 1 t.B6 "parent_of" aw_ (Fi t):=
 cJ T.V4 T.J9 f_ (λhr _=>(aG (bA oK!)))
end
section
def eR(T:e_):Iz P w K mg base 9 "outline_with_item" ax_ (Cn t):=
 bW T.O4 f_ (λhr nd=>(aF yn! (aF (cH (jY (fE (bS (dG T) a_ D_ aF_))) eY! bN) dP_)))
end
section
def b1t(T:e_):Iz P w K mg base 10 "parent" ax_ (Nl t):=
 bW T.O7 f_ (λhr _=>(aG (bA (bS (lF T) a_ oS! aF_))))
end
section
def mO(T:e_):Ds P w K mg base 1 t.B7 "listed" bR_ (Hv t):=
 cJ T.V5 T.G6 f_ (λhr nd=>(aF oy! (aF (aV (i:=2) nd rfl b_ (bU I_ bF c8! bX_ k!)) (aF (jN LW (eH (bJ lW mB aq! dB n!)) (aF (b6m (qP (i:=1) b! aq!)) (aG (aV (i:=2) nd rfl b_ (bU I_ bF c8! D_ k!))))) (tW dQ_)))))
end
section
def jW(T:e_):Ds P w K mg base 2 t.B6 "children_of" aw_ (Do t):=
 cJ T.V4 T.K0 f_ (λhr _=>(aG (bA (a3a (mO T) a_ (bU I_ bF e2! p_ k!)))))
end
section
def jM(T:e_):AJ P w K mg base 9 "outline_with" oD_ (Fn t):=
 tR (q:=Kd t) T.O3 f_ (λhr hX nd=>(oI (d1x yn!) (oI (a9f (jY (fE (bS (fU T) a_ D_ aF_))) (fR (a2t hX T.V8 hr.hd rfl T.V7 (b6t (c7t (i:=1) hr rfl b_ b! (d1a b8i))))) (b2e bN)) (b2e dP_))))
end
section
def rO(T:e_):Iz P w K mg base 9 "outline_with" oD_ (Ik t):=(jM T).m
end
section
def a2k(T:e_):Iz P w K mg base 10 "children" ax_ (Il t):=
 bW T.O8 f_ (λhr _=>(aG (bA (bS (jW T) a_ (aP (rO T) a_ rfl c6!) aF_))))
end
section
def mJ(T:e_):Ds P w K mg base 2 t.B6 "signs_of" cr_ (Eh t):=
 cJ T.V4 T.K3 f_ (λhr _=>(aG (bA (gH (NL:=[ai!]) (NF:=bR_) (ix:=[0]) rfl b! i_ (bQ (sc:=Ak Ho) rfl i_) jC_ b! rfl (dY (a3a (mO T) a_ yb!)) yv_ V! (λ_ _ _ _ _=>mP (cY gx! dP j! (bH T.V4 T.X1 p_) rfl)) eV!))))
end
section
def nB(T:e_):Ds P w K mg base 3 t.B6 "text_of" cr_ (Gh t):=
 cJ T.V4 T.K4 f_ (λhr _=>(aG (bA (a9k (gH (NL:=[ai!]) (NF:=bR_) (ix:=[0]) rfl b! i_ (bQ (sc:=Ak Ic) rfl i_) jC_ b! rfl (dY (bS (mJ T) a_ j! aF_)) yv_ V! dO! (λ_ _ _ _ _=>(bU I_ bF (bH T.V4 T.X0 p_) j! k!)))))))
end
section
def c1t(T:e_):Iz P w K mg base 10 "text" ax_ (Sn t):=
 bW T.O9 f_ (λhr _=>(aG (bA (bS (nB T) a_ oS! aF_))))
end
section
def kO(T:e_):Ds P w K mg base 1 t.B6 "numbers_of" cr_ (Fd t):=
 cJ T.V4 T.K5 f_ (λhr _=>(aG (bA (wZ a1b c3t rfl T.T1 b0k (aC yd! aM)))))
end
section
def jV(T:e_):Iz P w K mg base 10 "outline_with_number" eQ! (Eo t):=
 bW T.O5 f_ (λhr _=>(aF (cH (eH (gE (fF (aT (qX T) a_ rfl c2_ ap!)))) eY! bN) (aG (bA oS!))))
end
section
def b1u(T:e_):Iz P w K mg base 11 "number" eQ! (Lj t):=
 bW T.P0 f_ (λhr _=>(aG (bA (bU I_ bF (bS (kO T) a_ (aP (jV T) a_ rfl yz_) aF_) D_ k!))))
end
section
def b1x(T:e_):Iz P w K mg base 12 "_law_shows" [bT!,aK_] (Ll t):=
 bW T.R7 f_ (λhr nd=>(aF (aV (i:=2) nd rfl b_ (aP (a2l T) a_ rfl aF_)) (aF (eS LW rfl (dY (uD aO jU eR! (wZ (vZ rfl) b9m rfl T.T1 b0k (aC jW_ aM)))) yB_ c5! (aG (cH (rR (a2v (cY b1p (Hs.m b6a) (aP (a2j T) a_ rfl eX_) eQ_ n!) (tV (cY bY! pV (aP (a2k T) a_ rfl eX_) (aP (yX T) a_ rfl jt!) n!)))) c2! bN))) (aF (eS LW rfl (a6k jW_) yB_ c5! (aF (cH (cY bY! pV (aP (c1t T) a_ rfl eX_) (aP (tQ T) a_ rfl jt!) n!) c2! bN) (aF (cH (cY bY! pV (c6z (aC (uC (aC aG! (aC (aP (b1t T) a_ rfl eX_) aM))) aM)) (gH (NL:=bY_) (NF:=[aB_]) (ix:=[3]) rfl b! i_ yE_ oe! b! rfl (dY jW_) ji! V! nQ_ eV!) n!) c2! bN) (aG (cH (cY bY! pV (gH (NL:=[aL!]) (NF:=[bT!,aB_]) (ix:=[0,3]) rfl b! i_ yE_ (Cq.cons (j:=0) oe!) b! rfl (mK (fZ rfl T.T4 aD)) (λ_ _ _ _ _=>bE (i:=0) (show([aL!,bT!,aB_]:List Str).Nodup by decide+kernel) rfl b_) V! dO! (λ_ _ _ _ _=>(aP (b1u T) a_ rfl (aC p_ (aC D_ b4_))))) (bU I_ bF jW_ aG! k!) n!) c2! bN))))) (aG (bA (iO c6k (Hs.m b6a) (aP (a2j T) a_ rfl (aC j! (aC eR! aM))) eQ_ n!)))))))
end
section
def yT(T:e_):Iz P w K mg base 3 "next_time" bo! (Iv t):=
 bW T.P1 f_ (λhr _=>(aG (bA (uD aO jU V_ (c2e rfl T.T2 rfl (gH (NL:=[dD_]) (NF:=bo!) (ix:=[0]) rfl b! i_ (bQ (sc:=Ak Nc) rfl i_) jC_ b! rfl (a6k dK_) (λ_ _ _ _ _=>bE (i:=0) (show([dD_,H!]:List Str).Nodup by decide+kernel) rfl b_) V! dO! (λ_ _ _ _ _=>(aP (oB T) a_ rfl w5_))))))))
end
section
def yU(T:e_):Iz P w K mg base 4 "make" [H!,"deed"] gw!:=
 bW T.P3 f_ (λhr nd=>(aF (aV (i:=2) nd rfl b_ (uC (aC op! (aC (uD aO jU (bS (iB T) a_ j! (aC op! aM)) V_) aM)))) (aF (cP (aP (pZ T) a_ rfl (aC j! (aC (uD aO jU D_ (uC (aC (aP (yT T) a_ rfl b4_) aF_))) aM)))) dP_)))
end
section
def c1s(T:e_):AJ P w K mg base 10 "put" nR! (Yn t):=
 tR (q:=Yb t) T.P4 f_ (λhr hX _=>(oI (zD (mE hX (jM T) a_ rfl c6!)) (b2e (aG (bA (aP (yU T) a_ rfl (aC j! (aC (aB (cL (aE aR wd!))) aM))))))))
end
section
def lA(T:e_):AJ P w K mg base 9 "check_move" nR_ (Ha t):=
 tR (q:=Mj t) T.P5 f_ (λhr hX _=>(fR (a9f (jY (fE (bS (gZ T) a_ oR_ oL_))) (fR (a2t hX T.V8 hr.hd rfl T.V7 (b6t (c7t (i:=1) hr rfl b_ b! (d1a (c7t (i:=2) hr rfl b_ b! b8i)))))) (b2e bN))))
end
section
def b5t(T:e_):AJ P w K mg base 10 "move" nS_ (Wg t):=
 tR (q:=Vz t) T.P6 f_ (λhr hX _=>(oI (zD (mE hX (lA T) a_ rfl yz_)) (b2e (aG (bA (aP (yU T) a_ rfl (aC j! (aC (aB (cL (aE aR (aE R_ (aE aq! eS_))))) aM))))))))
end
section
def b5u(T:e_):AJ P w K mg base 10 "drop" ax_ (Wh t):=
 tR (q:=Wa t) T.P7 f_ (λhr hX _=>(oI (zD (mE hX (lA T) a_ rfl (aC j! (aC p_ (aC aE_ aM))))) (b2e (aG (bA (aP (yU T) a_ rfl (aC j! (aC (aB (cL (aE aR gy!))) aM))))))))
end
section
def c1x(T:e_):Iz P w K mg base 11 "_law_try" [bT!,bl_] (So t):=
 bW T.S1 f_ (λhr nd=>(aF (aV (i:=2) nd rfl b_ bX_) (aF (c6x (ie:=3) (ix:=2) (L:=_) ⟨rfl,rfl,λ_=>hr.hd,nd,rfl,rfl,W_,rfl,rfl,rfl,T.V6,T.V9⟩ (c1k rfl rfl rfl T.S9 cQ rfl T.V7) (d2c T.W3) (λpn f M0 G0 F0 E hX=>(fR (a9f yO_ (fR (a6h (i:=2) nd rfl b_ (mE hX (c1s T) a_ rfl (aC j! yP!)))) (fR (a9f yO_ (fR (a6h (i:=2) nd rfl b_ (mE hX (b5t T) a_ rfl (aC j! (aC cw_ yP!))))) (fR (a6h (i:=2) nd rfl b_ (mE hX (b5u T) a_ rfl (aC j! om_)))))))))) dP_)))
end
section
def c1w(T:e_):Iz P w K mg base 6 "give" [H!,"have"] (Qo t):=
 bW T.O0 f_ (λhr nd=>(aF (aV (i:=2) nd rfl aV_ (b2k t_ rfl T.S6 rfl T.S7 rfl p_)) (aG (bA (gH (NL:=cZ!) (NF:=[nN!]) (ix:=[2]) rfl b! i_ (bQ (sc:=Ak Vx) rfl i_) jo! b! rfl (dY yl_) (λ_ _ _ _ _=>bE (i:=0) (show([bU!,nN!]:List Str).Nodup by decide+kernel) rfl b_) V! (λ_ _ _ _ _=>mP (cY a9a (Hs.m a9c) dL! (oN t_ p_ dL! V_ cu_) n!)) eV!)))))
end
def AU(K:zA!):Sp:=λvs H Q E=>∀(P:zy!) (w:zx!) (t:Bk),t.nd->Yx P w K 1 (BA t) vs H Q E
section
variable{P:zy!}{w:zx!}{K:zA!}{mg:Str->Option Value}{h:Heap}
def c8z(gb:mg "law"=some eS!)(dl:CO K mg "law" Uw [a5_])(T:Txt P w K mg j4!)(nd:Bk.nd j4!):
  ∃fd:FuncData,(∀(s:zz!) (u:zp!),BindsTo s fd jl! [("_law_script",u)])/\∀base:Heap,K.In base->base.Ns mainGlobals mg->Fk P w K mg base Pj 13 fa fd [a5_] (AU K):=by
 obtain⟨fd,Y,h2⟩:=c2k (cg:=[]) (k:=12) (P:=P) (w:=w) (q:=Yg j4!) dl eG gb (λbase ae ag A outer s H E hr=>(aF (aV (i:=1) eG.nd rfl b_ (aP (b5x T) a_ rfl (aC j! (aC V_ (aC V_ (aC (aB yT_) aM))))))
   (aF (aV (i:=2) eG.nd rfl b_ cw_)
   (aF (aV (i:=3) eG.nd rfl b_ cw_)
   (aF (eS LW rfl (mK (fZ rfl T.T4 yT_)) (bE (i:=4) eG.nd rfl b_) (dI 4) (aF (aV (i:=5) eG.nd rfl b_ (aB (aT (wR T) a_ rfl eS_ ap!)))
   (aF (aV (i:=6) eG.nd rfl b_ yV_)
   (aF (aV (i:=7) eG.nd rfl b_ yV_)
   (aF (aV (i:=8) eG.nd rfl b_ (aB (aT dM_ a_ rfl (aE (aX aO bI nW_ (dJ aq_ cu! (dO (b9d aD)))) (aE pb_ aK)) ae!)))
   (aF (aV (i:=9) eG.nd rfl b_ (aB (aX eP eQ pb_ aD)))
   (aF (aV (i:=10) eG.nd rfl b_ (aB (aN aH aL (lS (aE (cL (aE aR yX!)) (aE (cL (aE aR (aE bc! yX!))) (aE (cL (aE aR (aE bc! (aE bZ_ (aE dB aK))))) (aE (cL (aE aR n4_)) aK))))) bq! k!)))
   (aF (aV (i:=11) eG.nd rfl b_ (aP (a2l T) a_ rfl gG!))
   (aF (aV (i:=12) eG.nd rfl b_ (b6r (iO bp! dP oP! (bU I_ bF yZ_ aE_ k!) rfl) (qD (iO bp! dP oP! eR! rfl))))
   (aF (cH (eH (bJ a9a a9c bq! aD n!)) (aG (aV (i:=12) eG.nd rfl b_ (aP (c1y T) a_ rfl (aC yZ_ (aC (aB bc!) (aC (aB (c5e (bJ ap_ cB bq! aD n!) aR bZ_)) aM)))))) bN)
   (aF (aV (i:=13) eG.nd rfl b_ aE_)
   (aF (cH (eH (fF (aA 12))) (aF (aV (i:=14) eG.nd rfl b_ (aP (b5w T) a_ rfl (aC aG! (aC V_ y3!))))
   (aF (aV (i:=13) eG.nd rfl b_ (aB (dJ (aA 14) eA cu!)))
   (aG (aV (i:=3) eG.nd rfl b_ (aB (aX aO bI aF! (lS (aE (aA 14) aK)))))))) bN)
   (aG (cH (rR (a2v (cY bY! pV (aP (c1x T) a_ rfl (aC D_ y3!)) (aB (aA 13)) n!) (tV (cY bY! pV (aP (c1w T) a_ rfl (aC D_ (aC (c2c oa_ V_) aM))) (aP (lH T) a_ rfl gG!) n!)))) c2! bN))))))))))))))
   (aG (bA (aP (b1x T) a_ rfl jt!))))))))
 exact⟨fd,Y,λbase i g=>(h2 base i g).imp λvs H Q E z=>z P w _ nd⟩
def b2t{ad:u0!}{k3:Tok}{o0 o1 o2 o3 o4 o5 o6 o7:dM!}{n0 n1 n2 n3 n4 n5 n6 n7 ep:Nat}{s0 s1 s2 s3 s4 s5 s6 s7:n2_}(X:K.In h)(G:fh!)
  (ga:W.nsIn K mainGlobals "PARTS"=some (some kb_))(gl:K.lookup ad=some {cls:=.type "dict",data:=.dict #[⟨PyData.keyHash w.params "put",.str "put" k0,.ref r0⟩,⟨PyData.keyHash w.params "move",.str "move" k1,.ref r1⟩,⟨PyData.keyHash w.params "drop",.str "drop" k2,.ref r2⟩,⟨PyData.keyHash w.params "write",.str "write" k3,.ref r3⟩,⟨PyData.keyHash w.params "cut",.str "cut" k4,.ref r4⟩,⟨PyData.keyHash w.params "set",.str "set" k5,.ref r5⟩,⟨PyData.keyHash w.params "undo",.str "undo" k6,.ref r6⟩,⟨PyData.keyHash w.params "redo",.str "redo" k7,.ref r7⟩] ep})(gs:pg!=false)
  (l0:K.lookup r0=some ⟨cG_,o0,.seq #[.ref B8,.ref B9] n0,s0⟩)
  (l1:K.lookup r1=some ⟨cG_,o1,.seq #[.ref B8,.ref B8,.ref B9] n1,s1⟩)
  (l2:K.lookup r2=some ⟨cG_,o2,.seq #[.ref B8] n2,s2⟩)
  (l3:K.lookup r3=some ⟨cG_,o3,.seq #[.ref B8,.ref C2,.ref C3] n3,s3⟩)
  (l4:K.lookup r4=some ⟨cG_,o4,.seq #[.ref B8,.ref C4,.ref C5] n4,s4⟩)
  (l5:K.lookup r5=some ⟨cG_,o5,.seq #[.ref B8,.ref C6,.ref C7] n5,s5⟩)
  (l6:K.lookup r6=some ⟨cG_,o6,.seq #[.ref C8] n6,s6⟩)
  (l7:K.lookup r7=some ⟨cG_,o7,.seq #[.ref C8] n7,s7⟩)
  :∀X:Cx,X.prog=P->X.w=w->X.K=K->X.mg=mg->Ul X "PARTS" (Hy j4!):=λg9 e1 e2 e3 e4=>
 b8e (rows:=[("put",k0,r0),("move",k1,r1),("drop",k2,r2),("write",k3,r3),("cut",k4,r4),("set",k5,r5),("undo",k6,r6),("redo",k7,r7)]) (w:=w) e2 e3 e4 (dZ X G ga) gs gl (show(["put","move","drop","write","cut","set","undo","redo"]:List Str).Nodup by decide+kernel) ⟨rfl,gL (fs:=[B8,B9]) l0 (by show 2<=1000;decide),rfl,gL (fs:=[B8,B8,B9]) l1 kc_,rfl,gL (fs:=[B8]) l2 pl!,rfl,gL (fs:=[B8,C2,C3]) l3 kc_,rfl,gL (fs:=[B8,C4,C5]) l4 kc_,rfl,gL (fs:=[B8,C6,C7]) l5 kc_,rfl,gL (fs:=[C8]) l6 pl!,rfl,gL (fs:=[C8]) l7 pl!,trivial⟩
end
end K20
open PySem PySem.W PyProof.Rows
set_option maxRecDepth 100000 in
set_option maxHeartbeats 0 in
theorem PySem.Challenge.cw_manyhands_k20_own_places_holds : PySem.Challenge.rw_manyhands_k20_own_places.Holds := by
 w_on;o_law;k_head;(case hw=>w_witness2)
 k_fill
 refine L2.b3n (l:=PySem.Challenge.rw_manyhands_k20_own_places) (n:=63) (k:=13) (x:="_law_script") (CX:=L2.Pj) (sp:=K20.AU) rfl (by decide) rfl ⟨rfl,by decide,by decide,rfl⟩ (λw h Y=>W.kIn_of Y) ?F (λK H a ns hl _ hS P w t nd=>DL.c2j hS (K20.b7d nd)) (λ_ _ _ _ z=>z)
 case F=>
  intro w mg fa h KX G hmg;refine' K20.c8z hmg ?dl ⟨?D3,?D4,?D5,?D6,?D7,?D8,?D9,?E1,?E2,?E3,?E4,?E5,?E6,?E7,?E8,?E9,?F6,?F7,?F8,?F9,?G6,?G7,?G8,?G9,?H9,?J0,?J4,?J5,?J6,?J7,?J8,?J9,?K0,?K3,?K4,?K5,?K6,?K7,?K8,?K9,?L4,?L5,?L6,?L7,?L8,?L9,?M9,?N0,?N3,?N4,?N5,?N6,?N7,?N8,?N9,?O0,?O3,?O4,?O5,?O6,?O7,?O8,?O9,?P0,?P1,?P3,?P4,?P5,?P6,?P7,?P8,?P9,?Q0,?Q1,?Q2,?Q3,?Q4,?Q5,?Q6,?Q7,?Q8,?Q9,?R0,?R3,?R4,?R5,?R6,?R7,?R8,?R9,?S0,?S1,?S2,?S3,?S4,?S5,?S6,?S7,?S8,?S9,?T0,?T1,?T2,?T3,?T4,?T5,?T6,?T7,?T8,?T9,?U0,?U1,?U2,?U3,?U4,?U5,?U6,?U7,?U8,?U9,?V0,?V1,?V2,?V3,?V4,?V5,?V6,?V7,?V8,?V9,?W3,?W4,?W5,?W6,?W7,?W8,?W9,?X0,?X1,?X2,?X3,?X4,?X5,?gp⟩ ?nd
  (case F6=>show"!!")
  (case G7=>show"!!")
  (case L5=>(dsimp only;refine' DL.b6o (DL.dZ KX G ?g) ?a ?i ?l ?c ?k ?mm ?kc ?b;(case g=>k_is);(case a=>k_is);(case i=>k_is);(case l=>k_is);(case c=>k_is);(case k=>k_is);(case mm=>k_is);(case kc=>k_is);(case b=>exact λ_ _ _ _ _ _=>DL.jF λ_ _=>rfl)))
  (case D3=>show"!#")
  (case D4=>show"!$")
  (case D5=>show"!#")
  (case D6=>show"!#")
  (case D7=>show"!#")
  (case D8=>show"!#")
  (case D9=>show"!#")
  (case E1=>show"!#")
  (case E2=>show"!#")
  (case E3=>show"!#")
  (case E4=>show"!#")
  (case E5=>show"!$")
  (case E6=>show"!#")
  (case E7=>show"!#")
  (case E8=>show"!#")
  (case E9=>show"!#")
  (case F7=>show"!%")
  (case F8=>show"!&")
  (case F9=>show"!%")
  (case G6=>(dsimp only;refine' DL.dM ?a ?i ?l ?c ?k ?b;(case a=>k_is);(case i=>k_is);(case l=>k_is);(case c=>k_is);(case k=>k_is);(case b=>exact λ_ _ _ _ _ _=>DL.mI λ_=>rfl)))
  (case G8=>show"!%")
  (case G9=>show"!%")
  (case H9=>show"!&")
  (case J0=>show"!'")
  (case J4=>show"!&")
  (case J5=>show"!'")
  (case J6=>(dsimp only;refine' DL.dM ?a ?i ?l ?c ?k ?b;(case a=>k_is);(case i=>k_is);(case l=>k_is);(case c=>k_is);(case k=>k_is);(case b=>exact λ_ _ _ _ _ _=>DL.us5 λ_ _ _ _ _=>rfl)))
  (case J7=>show"!'")
  (case J8=>show"!'")
  (case J9=>show"!%")
  (case K0=>show"!%")
  (case K3=>show"!%")
  (case K4=>show"!%")
  (case K5=>show"!%")
  (case K6=>show"!#")
  (case K7=>show"!#")
  (case K8=>show"!#")
  (case K9=>show"!(")
  (case L4=>show"!#")
  (case L6=>show"!%")
  (case L7=>show"!#")
  (case L8=>show"!#")
  (case L9=>show"!$")
  (case M9=>show"!$")
  (case N0=>show"!$")
  (case N3=>show"!$")
  (case N4=>show"!$")
  (case N5=>show"!$")
  (case N6=>show"!$")
  (case N7=>show"!#")
  (case N8=>show"!$")
  (case N9=>show"!$")
  (case O0=>show"!$")
  (case O3=>show"!$")
  (case O4=>show"!$")
  (case O5=>show"!(")
  (case O6=>show"!$")
  (case O7=>show"!$")
  (case O8=>show"!$")
  (case O9=>show"!$")
  (case P0=>show"!(")
  (case P1=>show"!#")
  (case P3=>show"!$")
  (case P4=>show"!(")
  (case P5=>show"!(")
  (case P6=>show"!)")
  (case P7=>show"!$")
  (case P8=>show"!$")
  (case P9=>show"!$")
  (case Q0=>show"!#")
  (case Q1=>show"!#")
  (case Q2=>show"!$")
  (case Q3=>show"!$")
  (case Q4=>show"!)")
  (case Q5=>show"!(")
  (case Q6=>show"!#")
  (case Q7=>show"!#")
  (case Q8=>show"!)")
  (case Q9=>show"!(")
  (case R0=>show"!)")
  (case R3=>show"!$")
  (case R4=>show"!#")
  (case R5=>show"!$")
  (case R6=>show"!$")
  (case R7=>show"!$")
  (case R8=>show"!)")
  (case R9=>show"!(")
  (case S0=>show"!(")
  (case S1=>show"!$")
  (case S2=>show"!#")
  (case dl=>(refine' DL.c3i KX G ?a ?l ?c ?k ?b;(case a=>k_is);(case l=>k_is);(case c=>k_is);(case k=>k_is);(case b=>exact λ_ _ _ _ _ _=>DL.mI λ_=>rfl)))
  (case S3=>show"!*")
  (case S4=>show"!*")
  (case S5=>show"!*")
  (case S6=>show"!*")
  (case S7=>show"!*")
  (case S8=>show"!*")
  (case S9=>show"!*")
  (case T0=>show"!*")
  (case T1=>show"!*")
  (case T2=>show"!*")
  (case T3=>show"!*")
  (case T4=>show"!*")
  (case T5=>show"!*")
  (case T6=>show"!*")
  (case T7=>show"!*")
  (case T8=>show"!*")
  (case T9=>show"!+")
  (case U0=>show"!+")
  (case U1=>show"!+")
  (case U2=>show"!+")
  (case U3=>show"!+")
  (case U4=>show"!,")
  (case U5=>show"!,")
  (case U6=>show"!,")
  (case U7=>show"!,")
  (case U8=>show"!,")
  (case U9=>show"!,")
  (case V0=>show"!,")
  (case V1=>show"!,")
  (case V2=>show"!,")
  (case V3=>show"!-")
  (case V4=>show"!-")
  (case V5=>show"!-")
  (case V6=>show"!,")
  (case V7=>show"!,")
  (case V8=>(dsimp only;refine' XS.c7v ?xqa ?xqb ?xqc ?xqd ?xqe ?xqf ?xqg ?xqh;(case xqa=>k_is);(case xqb=>k_is);(case xqc=>k_is);(case xqd=>rfl);(case xqe=>k_is);(case xqf=>k_is);(case xqg=>rfl);(case xqh=>k_is)))
  (case V9=>(dsimp only;refine' XS.c8r ?ta ?tb ?tc;(case ta=>k_is);(case tb=>k_is);(case tc=>k_is)))
  (case W3=>(dsimp only;k_is))
  (case W4=>show"!.")
  (case W5=>show"!.")
  (case W6=>show"!.")
  (case W7=>show"!.")
  (case W8=>show"!.")
  (case W9=>show"!.")
  (case X0=>show"!.")
  (case X1=>show"!.")
  (case X2=>show"!.")
  (case X3=>show"!.")
  (case X4=>show"!.")
  (case X5=>show"!.")
  (case gp=>(refine' K20.b2t KX G ?ga ?gl ?gs ?l0 ?l1 ?l2 ?l3 ?l4 ?l5 ?l6 ?l7;(case ga=>k_is);(case gl=>k_is);(case gs=>decide);(case l0=>k_is);(case l1=>k_is);(case l2=>k_is);(case l3=>k_is);(case l4=>k_is);(case l5=>k_is);(case l6=>k_is);(case l7=>k_is)))
  (case nd=>(unfold K20.Bk.nd;decide))
