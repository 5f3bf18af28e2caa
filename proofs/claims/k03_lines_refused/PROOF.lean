import PyProof.Rows.All
import Wide.All
import OpenK.AllK
import Wide.FinOn
import Lean
import PyProof.EqAt
import PyProof.EqKinds
import PyProof.TupleCall
import KE.KIntText
import PyProof.ExcBaseAll.ValueError
import PyProof.Rows.SortShell
import PyProof.Rows.CallKwBuiltin
import KE.KSortKey
import KE.KDictSum
import KE.KRevIter
import PyProof.ExcClass
import PyProof.RulesTry
import PyProof.ExcClass3
import PyProof.FString
import PyProof.ReprStr
import PyProof.ExcAttrAll.ValueError
import PyProof.ReprRoads
import PyProof.Rows.StrSub
import KE.IntTextText
import PyProof.StrLawsRepr
import PySem.Challenge.RW_manyhands_k03_lines_refused
set_option linter.all false
set_option Elab.async false
set_option maxRecDepth 100000
set_option maxHeartbeats 4000000
abbrev AA:=@Option.bind_eq_some_iff
abbrev AB:=@PySem.wpAny_bind
abbrev AC:=@List.mem_cons_of_mem
abbrev AD:=@PySem.Heap.get?_push_of_some
abbrev AE:=@Bool.and_eq_true
abbrev AF:=@Option.map_eq_some_iff
abbrev AG:=@PySem.wpAny_pure
abbrev AH:=@decide_eq_true_eq
abbrev AI:=@Option.bind_some
abbrev AJ:=@List.size_toArray
abbrev AK:=@List.length_map
abbrev AL:=@PySem.Heap.lt_size
abbrev AM:=@List.mem_cons_self
abbrev AN:=@List.mem_cons
abbrev AO:=@List.map_cons
abbrev AQ:=@List.length_cons
abbrev AR:=@if_neg
abbrev AS:=@if_pos
abbrev AT:=@List.getElem?_eq_some_iff
abbrev AU:=@Nat.le_refl
abbrev AV:=@Nat.lt_of_lt_of_le
abbrev AW:=@decide_eq_false
abbrev AX:=@List.mem_append_right
abbrev AY:=@List.getElem?_set_ne
abbrev AZ:=@List.mem_append
abbrev BA:=@PySem.Heap.get?_push_size
abbrev BB:=@Bool.false_ne_true
abbrev BC:=@Nat.ne_of_lt
abbrev BD:=@decide_eq_true
abbrev BE:=@List.mem_append_left
abbrev BF:=@List.length_append
abbrev BG:=@Nat.le_trans
abbrev BH:=@Bool.false_eq_true
abbrev BI:=@PySem.wpAny_field
abbrev BJ:=@Option.some.inj
abbrev BK:=@PySem.wpAny_truthy_bool
abbrev BL:=@Array.getElem?_eq_getElem
abbrev BM:=@List.getElem?_set_self
abbrev BN:=@List.not_mem_nil
abbrev BO:=@List.getElem?_map
abbrev BP:=@List.append_nil
abbrev BQ:=@List.all_eq_true
abbrev BR:=@PySem.wpAny_holding
abbrev BS:=@beq_eq_false_iff_ne
abbrev BU:=@Ne.symm
abbrev BV:=@PySem.wpAny_mono
abbrev BW:=@PySem.Heap.get?_update_self
abbrev BX:=@Array.getElem?_eq_some_iff
abbrev BY:=@List.map_append
abbrev BZ:=@Bool.or_eq_true
abbrev CA:=@List.lookup_cons
abbrev CB:=@PySem.Heap.get?_update_other
abbrev CC:=@PySem.wpAny_newObj_type
abbrev CD:=@List.any_cons
abbrev CF:=@List.mem_map
abbrev CG:=@List.getElem?_append_right
abbrev CH:=@PySem.wpAny_callSpecial?_slot
abbrev CI:=@List.drop_eq_nil_of_le
abbrev CJ:=@List.getElem?_append_left
abbrev CK:=@List.length_singleton
abbrev CL:=@List.getElem?_eq_getElem
abbrev CM:=@Int.emod_lt_of_pos
abbrev CN:=@List.length_take
abbrev CO:=@PySem.Obj.isFreed_of_fields
abbrev CP:=@PySem.wpAny_setField_rec
abbrev CQ:=@PySem.wpAny_call_entry
abbrev CS:=@PySem.mem_of_lookup
abbrev CT:=@List.nodup_cons
abbrev CU:=@List.length_set
abbrev CV:=@List.find?_cons
abbrev CW:=@PySem.Heap.size_after_update
abbrev CY:=@List.drop_eq_getElem_cons
abbrev CZ:=@Bool.and_assoc
abbrev DB:=@if_false
abbrev DC:=@List.mem_of_getElem?
abbrev DD:=@PySem.Obj.data_mapFields
abbrev DF:=@Int.emod_nonneg
abbrev DH:=@Bool.eq_iff_iff
abbrev DJ:=@Nat.ne_of_gt
abbrev DK:=@Nat.zero_le
abbrev DM:=@List.filterMap_cons
abbrev DN:=@List.all_cons
abbrev DO:=@Array.length_toList
abbrev DP:=@PySem.wpAny_execs_nil
abbrev DQ:=@List.length_drop
abbrev DR:=@if_true
abbrev DU:=@PySem.F.plainAttrs_str
abbrev DV:=@PySem.sizeLine_eq
abbrev DX:=@PySem.Sem.wp_mono
abbrev DY:=@List.map_map
abbrev DZ:=@List.length_replicate
abbrev EA:=@PySem.wpAny_seqItems
abbrev EB:=@PySem.Heap.size_push
abbrev EC:=@or_false
abbrev ED:=@of_decide_eq_true
abbrev EE:=@Nat.lt_irrefl
abbrev EF:=@PySem.F.slot_NoneType_hash
abbrev EG:=@PySem.F.excBase_ValueError
abbrev EH:=@List.getElem?_of_mem
abbrev EI:=@PySem.wpAny_loadPart_at
abbrev EJ:=@PySem.F.entry_str_split
abbrev EL:=@PySem.F.slot_tuple_iterator_next
abbrev EN:=@PySem.wpAny_setField
abbrev EO:=@Option.map_some
abbrev EQ:=@List.sum_cons
abbrev ER:=@List.mem_filterMap
abbrev ES:=@List.getElem?_replicate
abbrev ET:=@List.forIn_cons
abbrev EU:=@PySem.F.slot_str_split
abbrev EV:=@PySem.Heap.SameBut.update
abbrev EW:=@PySem.wpAny_rule
abbrev EX:=@PySem.Sem.wp_bind'
abbrev EY:=@List.take_of_length_le
abbrev EZ:=@PyProof.Rows.slot_tuple_getitem
abbrev FA:=@List.length_range
abbrev FB:=@PySem.wpAny_standAt
abbrev FC:=@PySem.wpAny_dictEpoch
abbrev FD:=@List.mem_of_mem_take
abbrev FE:=@PyProof.Rows.callWith_type1
abbrev FF:=@Nat.le_of_eq
abbrev FG:=@List.mem_range
abbrev FH:=@PySem.typeIs_str
abbrev FI:=@PySem.wpAny_specialOf
abbrev FJ:=@PySem.wpAny_passesOwn
abbrev FK:=@beq_iff_eq
abbrev FL:=@PySem.slot_dict_contains
abbrev FM:=@PySem.F.args_tuple_add_2
abbrev FN:=@Option.isSome_iff_exists
abbrev FO:=@PySem.F.entry_tuple_add
abbrev FP:=@Bool.and_self
abbrev FQ:=@PySem.wpAny_Call_Name_kw
abbrev FR:=@decide_eq_decide
abbrev FS:=@PySem.Sem.wp_cmd_standAt
abbrev FT:=@PySem.F.type_str_split
abbrev FU:=@PySem.F.slot_tuple_add
abbrev FV:=@PySem.F.slot_str_split
abbrev FW:=@PySem.call_meets
abbrev FX:=@Nat.zero_add
abbrev FY:=@Nat.min_eq_left
abbrev FZ:=@List.of_mem_zip
abbrev GA:=@List.mem_filter
abbrev GB:=@List.map_nil
abbrev GC:=@List.cons.injEq
abbrev GE:=@List.all_map
abbrev GF:=@Eq.symm
abbrev GG:=@PySem.Paired.length
abbrev GH:=@List.mem_of_mem_drop
abbrev GI:=@Bool.and_eq_true_iff
abbrev GJ:=@PySem.toDigits_len_pow
abbrev GK:=@Bool.false_and
abbrev GL:=@List.map_congr_left
abbrev GM:=@PySem.wpAny_isTrue_Compare1
abbrev GN:=@PySem.PassesOwn.never
abbrev GO:=@List.getElem_range
abbrev GP:=@PySem.F.slot_zip_next
abbrev GQ:=@Bool.or_false
abbrev GR:=@Bool.not_true
abbrev GS:=@PySem.wpAny_updateSeq_pair
abbrev GT:=@List.getElem?_set
abbrev GU:=@Int.toNat_natCast
abbrev GV:=@PySem.Calls.evalArgs_plain
abbrev GW:=@PySem.wpAny_loadPart
abbrev GX:=@Nat.le_of_lt
abbrev GY:=@List.any_nil
abbrev GZ:=@Nat.min_eq_right
abbrev HA:=@List.getElem_mem
abbrev HB:=@List.drop_length
abbrev HC:=@Array.toList_inj
abbrev HD:=@PySem.wpAny_pyIter_tuple
abbrev HE:=@PySem.wpAny_onRaise
abbrev HF:=@PySem.W.kia_one
abbrev HG:=@Nat.le_succ
abbrev HH:=@List.foldl_cons
abbrev HI:=@PySem.F.args_str_split_3
abbrev HJ:=@PySem.F.args_str_split_2
abbrev HK:=@PySem.Calls.spliced_cons
set_option hygiene false in
local macro_rules|`(tactic|push_cast)=>`(tactic|simp[Az,Ar,Am,Cb,Ax,Ba,Aq,Bo,Aw,Bh,Cn,Be,fT,Bj,Aa,Bs,f2,De,Co,Dg,Di,Dd,Au,Bg,f1,Ab,Ad,Bt,fC,Bu,Ai,An,Br,Bm,Av,As,Bb,Bl,Cp,Ct,Ay,Bd,Ck,Aj,Ah,Af,Al,Ae,Ap,Cu,Ao,HT.sIx,List.getElem?_cons_zero,List.getElem?_cons_succ])|`(tactic|push_cast[$x,*])=>`(tactic|simp[Az,Ar,Am,Cb,Ax,Ba,Aq,Bo,Aw,Bh,Cn,Be,fT,Bj,Aa,Bs,f2,De,Co,Dg,Di,Dd,Au,Bg,f1,Ab,Ad,Bt,fC,Bu,Ai,An,Br,Bm,Av,As,Bb,Bl,Cp,Ct,Ay,Bd,Ck,Aj,Ah,Af,Al,Ae,Ap,Cu,Ao,HT.sIx,List.getElem?_cons_zero,List.getElem?_cons_succ,$x,*])
namespace PySem.W.Fast
noncomputable def tw12489893581953284435:=0
noncomputable def tw5790124692058377295:=0
noncomputable def tw4738117485118860842:=0
noncomputable def tw18066078445300295348:=0
noncomputable def tw7216945101448705755:=0
noncomputable def tw1106123167291471005:=0
noncomputable def tw744191422002992319:=0
noncomputable def tw857163164614428892:=0
noncomputable def tw13611665240266123510:=0
noncomputable def tw9716928944531723376:=0
noncomputable def tw12548413991493567965:=0
noncomputable def tw8044501213580133865:=0
noncomputable def tw15129016045359579866:=0
noncomputable def tw13587020210458054568:=0
noncomputable def tw15114885599490917775:=0
noncomputable def tw10026190821505430985:=0
noncomputable def tw7355212512888309245:=0
noncomputable def tw704760154675344409:=0
noncomputable def tw7297191889756674145:=0
noncomputable def tw7569591296066615568:=0
noncomputable def tw10217898555416050687:=0
noncomputable def tw12380578360375542278:=0
noncomputable def tw4894649030312054070:=0
noncomputable def tw5638926688561002452:=0
noncomputable def tw10102248641818895451:=0
noncomputable def tw6506056058681960755:=0
noncomputable def tw14768601258021543293:=0
noncomputable def tw1107333140054285431:=0
noncomputable def tw5569560737056834255:=0
noncomputable def tw9681667498084023181:=0
noncomputable def tw9724072655868819285:=0
noncomputable def tw16607892136451002204:=0
noncomputable def tw14103205805203306665:=0
noncomputable def tw17558741929630212992:=0
noncomputable def tw6999504257294571581:=0
noncomputable def tw14415439480197732975:=0
noncomputable def tw3893387762074537985:=0
noncomputable def tw1605775056167149500:=0
noncomputable def tw4821203515189436294:=0
noncomputable def tw16373036703818355116:=0
noncomputable def tw13821990696520408454:=0
noncomputable def tw1882555991044045876:=0
noncomputable def tw10558204774838636699:=0
noncomputable def tw829213616103425771:=0
noncomputable def tw7325357841231337679:=0
noncomputable def tw16030867958059077651:=0
noncomputable def tw9909422931945468419:=0
noncomputable def tw8971790590823811524:=0
noncomputable def tw11499233313920074053:=0
noncomputable def tw6091577190977013458:=0
noncomputable def tw2775103409403010479:=0
noncomputable def tw3790576220495792362:=0
noncomputable def tw6465796103215214033:=0
noncomputable def tw8814510290562566364:=0
noncomputable def tw11315362915112866071:=0
noncomputable def tw10412343835102850244:=0
noncomputable def tw13637958714808681066:=0
noncomputable def tw1495551205742410345:=0
noncomputable def tw10995809132172299709:=0
noncomputable def tw7421722281874112164:=0
noncomputable def tw10090359954414065516:=0
noncomputable def tw17690964142716764676:=0
noncomputable def tw3178265536774624013:=0
noncomputable def tw4462096944395670180:=0
noncomputable def tw15262416834569164289:=0
noncomputable def tw8707961138903154704:=0
noncomputable def tw12375672423809763306:=0
noncomputable def tw7257135708016192697:=0
noncomputable def tw7291609313393809709:=0
noncomputable def tw2762956009269193013:=0
noncomputable def tw1049574257118519607:=0
noncomputable def tw3828526769095068130:=0
noncomputable def tw14203010510302381866:=0
noncomputable def tw15372144533464885506:=0
noncomputable def tw16625053861104222170:=0
noncomputable def tw2969829777515947503:=0
noncomputable def tw10967344812324047545:=0
noncomputable def tw9576335999291454417:=0
noncomputable def tw10808499774440522347:=0
noncomputable def tw5342277672719225296:=0
noncomputable def tw15247791694840238746:=0
noncomputable def tw15435605150962387192:=0
noncomputable def tw5053951593300547543:=0
noncomputable def tw9242741491829457122:=0
noncomputable def tw633238334138999147:=0
noncomputable def tw5567454851508425009:=0
noncomputable def tw4053979486426368058:=0
noncomputable def tw4906119230039207322:=0
noncomputable def tw10355830867586637554:=0
noncomputable def tw16477317766345826247:=0
noncomputable def tw990280913680602401:=0
noncomputable def tw13503986303130369362:=0
noncomputable def tw7688578744860776165:=0
noncomputable def tw7268501365437834636:=0
noncomputable def tw5953595456624404069:=0
noncomputable def tw8235616375001648953:=0
noncomputable def tw13917000851218369199:=0
noncomputable def tw15889390992058649993:=0
noncomputable def tw15762661646651174085:=0
noncomputable def tw16826228356272761284:=0
noncomputable def tw5454612463196078373:=0
noncomputable def tw18121301698608494557:=0
noncomputable def tw6487490277830623888:=0
noncomputable def tw13517387541086573055:=0
noncomputable def tw12705753554281478916:=0
noncomputable def tw11736361036641060082:=0
noncomputable def tw4537306921996649837:=0
noncomputable def tw577363053281612215:=0
noncomputable def tw2501501228354402698:=0
noncomputable def tw11779439757760314992:=0
noncomputable def tw1565815302630236091:=0
noncomputable def tw13417615124355782028:=0
noncomputable def tw9955818260278210146:=0
noncomputable def tw16444183777888359715:=0
noncomputable def tw6314489633904238852:=0
noncomputable def tw2029773781232733988:=0
noncomputable def tw16962366414261093432:=0
noncomputable def tw2700567819814726811:=0
noncomputable def tw16234856238219281046:=0
noncomputable def tw5791664375013863284:=0
noncomputable def tw7792756758404512149:=0
noncomputable def tw16922717024485049770:=0
noncomputable def tw10100503861849036758:=0
noncomputable def tw15429033558924993873:=0
noncomputable def tw5829476349977714471:=0
noncomputable def tw6834121769963093114:=0
noncomputable def tw13790831104521965379:=0
noncomputable def tw17063943148167619754:=0
noncomputable def tw9263189338052521877:=0
noncomputable def tw2035270221863410255:=0
noncomputable def tw3245083323811051565:=0
noncomputable def tw18037815097295890533:=0
noncomputable def tw17110759529275655737:=0
noncomputable def tw16336944117294808006:=0
noncomputable def tw17802296634093291779:=0
noncomputable def tw14684046164908748941:=0
noncomputable def tw10995788930548585911:=0
noncomputable def tw17806797657989291710:=0
noncomputable def tw9863524730264060835:=0
noncomputable def tw12951434679139090825:=0
noncomputable def tw670332697555581389:=0
noncomputable def tw15196197531494544874:=0
noncomputable def tw7565145713577986084:=0
noncomputable def tw6597097774020696327:=0
noncomputable def tw14674163786678760562:=0
noncomputable def tw5453217824116616849:=0
noncomputable def tw15406103442360089790:=0
noncomputable def tw14241753388309322113:=0
noncomputable def tw2355359946276445350:=0
noncomputable def tw6456637675806770837:=0
noncomputable def tw15628725613391354845:=0
noncomputable def tw16692974421057071656:=0
noncomputable def tw9488496051033837510:=0
noncomputable def tw1099733496496590056:=0
noncomputable def tw8980953966346255:=0
noncomputable def tw1585644525338790886:=0
noncomputable def tw1179808307398410614:=0
noncomputable def tw16930276803237063237:=0
noncomputable def tw3521340801685700557:=0
noncomputable def tw2859629930484552494:=0
noncomputable def tw1339928199028733796:=0
noncomputable def tw18332078474628853008:=0
noncomputable def tw13354586299135411151:=0
noncomputable def tw2092586174087545549:=0
noncomputable def tw3836827024929446107:=0
noncomputable def tw18024468527183370704:=0
noncomputable def tw14211116866141314825:=0
noncomputable def tw5583468933601642112:=0
noncomputable def tw1944456966385014946:=0
noncomputable def tw5924049505636654158:=0
noncomputable def tw8112662407064662731:=0
noncomputable def tw13674440101805178816:=0
noncomputable def tw14653660297682170991:=0
noncomputable def tw310892978274701070:=0
noncomputable def tw10399176551143098249:=0
noncomputable def tw13277026445766607408:=0
noncomputable def tw14093276424637543968:=0
noncomputable def tw15969331164684814162:=0
noncomputable def tw2474803928618614348:=0
noncomputable def tw14036686075497611883:=0
noncomputable def tw2172900923102643629:=0
noncomputable def tw13004287803687557213:=0
noncomputable def tw9181197638853368453:=0
noncomputable def tw18056382688452166131:=0
noncomputable def tw13239626102236552532:=0
noncomputable def tw17028847217109717142:=0
noncomputable def tw9543490540881070962:=0
noncomputable def tw13296141357830278736:=0
noncomputable def tw5706478375558798128:=0
noncomputable def tw10362697556246691975:=0
noncomputable def tw2994898359859611812:=0
noncomputable def tw14066400484235257846:=0
noncomputable def tw755253354865693817:=0
noncomputable def tw132797340016164710:=0
noncomputable def tw15546174926749619304:=0
noncomputable def tw11968251190767331738:=0
noncomputable def tw14409148863472137171:=0
noncomputable def tw14847503903368948809:=0
noncomputable def tw9066979420198233894:=0
noncomputable def tw4124196302693809948:=0
noncomputable def tw15512108661817380805:=0
noncomputable def tw15266249649769328565:=0
noncomputable def tw1419127753314655104:=0
noncomputable def tw11230809605359156268:=0
noncomputable def tw975115723508019324:=0
noncomputable def tw5263537959158887627:=0
noncomputable def tw9878863256283890821:=0
noncomputable def tw14014543225327454294:=0
noncomputable def tw3544356115283496126:=0
noncomputable def tw17758071711665040841:=0
noncomputable def tw9511302443738790711:=0
noncomputable def tw5606796288096491043:=0
noncomputable def tw2184730916981902640:=0
noncomputable def tw15467985695998561697:=0
noncomputable def tw14709998825306302764:=0
noncomputable def tw14041468548642814476:=0
noncomputable def tw10549999491541845002:=0
noncomputable def tw1698170204722339934:=0
noncomputable def tw2345422279498070660:=0
noncomputable def tw4859547260736665404:=0
noncomputable def tw8989138543496463439:=0
noncomputable def tw5398084331342449524:=0
noncomputable def tw3709385257940329578:=0
noncomputable def tw9038370761114943198:=0
noncomputable def tw11144994820152085892:=0
noncomputable def tw16810100317461756536:=0
noncomputable def tw9543640873793100521:=0
noncomputable def tw8408526901548116697:=0
noncomputable def tw11538242978849042847:=0
noncomputable def tw11469296268623383601:=0
noncomputable def tw8687709893007407191:=0
noncomputable def tw6599705675616779923:=0
noncomputable def tw14197500159374904862:=0
noncomputable def tw6381953784847966206:=0
noncomputable def tw4644229387982101663:=0
end PySem.W.Fast
noncomputable section
namespace L2
open PySem PySem.Spec PyProof.Rows
abbrev Key:=Sum Int Str
def Ll:Key→Value→Bool
 |.inl k,v=>Value.isInt k v
 |.inr x,v=>Value.isStrOf x v
def Up(w:World):Key→Int
 |.inl k=>hashInt k
 |.inr x=>hashStr w x
theorem aV:∀{k:Key} {v:Value},Ll k v=true→(∃i t,k=Sum.inl i∧v=Value.int i t)∨(∃x t,k=Sum.inr x∧v=Value.str x t)
 |.inl i,v,h=>by
  obtain⟨t,e⟩:=Value.isInt_shape (k:=i) (v:=v) h;exact .inl ⟨i,t,rfl,e⟩
 |.inr x,v,h=>by
  obtain⟨t,e⟩:=Value.isStrOf_shape (x:=x) (v:=v) h;exact .inr ⟨x,t,rfl,e⟩
theorem sO(i:Int)(t:Tok):Ll (.inl i) (.int i t)=true:=by simp[Ll,Value.isInt]
theorem mJ(x:Str)(t:Tok):Ll (.inr x) (.str x t)=true:=by simp[Ll,Value.isStrOf]
theorem b6m(a b:Int):decide ((Sum.inl a:Key)=Sum.inl b)=(a==b):=by
 by_cases e:a=b
 ·subst e;simp
 ·have h:¬(Sum.inl a:Key)=Sum.inl b:=fun q=>e (Sum.inl.inj q);rw[AW h];exact(BS.mpr e).symm
theorem b6i(a b:Str):decide ((Sum.inr a:Key)=Sum.inr b)=decide (a=b):=by
 by_cases e:a=b
 ·subst e;simp
 ·have h:¬(Sum.inr a:Key)=Sum.inr b:=fun q=>e (Sum.inr.inj q);rw[AW h,AW e]
theorem b6l(a:Int)(b:Str):decide ((Sum.inl a:Key)=Sum.inr b)=false:=AW (fun q=>nomatch q)
theorem b6j(a:Str)(b:Int):decide ((Sum.inr a:Key)=Sum.inl b)=false:=AW (fun q=>nomatch q)
def mixKind(prog:Program)(w:World):PySem.KeyKind prog w Key where
 is:=Ll
 hash:=Up w
 inj:=fun v a b ha hb=>by
  obtain⟨i,t,rfl,rfl⟩|⟨x,t,rfl,rfl⟩:=aV ha
  ·obtain⟨j,u,rfl,e⟩|⟨y,u,rfl,e⟩:=aV hb
   ·injection e with e1 _;rw[e1]
   ·exact nomatch e
  ·obtain⟨j,u,rfl,e⟩|⟨y,u,rfl,e⟩:=aV hb
   ·exact nomatch e
   ·injection e with e1 _;rw[e1]
 byValue:=fun k v h=>by
  obtain⟨i,t,rfl,rfl⟩|⟨x,t,rfl,rfl⟩:=aV h<;>rfl
 pyHash:=fun hv h=>by
  obtain⟨i,t,rfl,rfl⟩|⟨x,t,rfl,rfl⟩:=aV hv
  ·exact wpAny_pyHash_int h
  ·exact wpAny_pyHash_str h
 eqBool:=fun hu hv h=>by
  obtain⟨i,t,rfl,rfl⟩|⟨x,t,rfl,rfl⟩:=aV hu
  ·obtain⟨j,u,rfl,rfl⟩|⟨y,u,rfl,rfl⟩:=aV hv
   ·rw[b6m]at h;exact wpAny_eqBool_int h
   ·rw[b6l]at h;exact SeqAt.EqAt.int_str i t y u _ _ _ _ h
  ·obtain⟨j,u,rfl,rfl⟩|⟨y,u,rfl,rfl⟩:=aV hv
   ·rw[b6j]at h;exact SeqAt.EqAt.str_int x t j u _ _ _ _ h
   ·rw[b6i]at h;exact wpAny_eqBool_str h
 «strs»:=fun k x t v h=>by
  obtain⟨i,u,rfl,e⟩|⟨y,u,rfl,e⟩:=aV h
  ·exact nomatch e
  ·injection e with e1 _
   subst e1;cases v<;>rfl
theorem xB(prog:Program)(w:World)(i:Int)(t:Tok):(mixKind prog w).is (.inl i) (.int i t)=true:=sO i t
theorem iB(prog:Program)(w:World)(x:Str)(t:Tok):(mixKind prog w).is (.inr x) (.str x t)=true:=mJ x t
end L2
namespace L2
open PySem PySem.Spec PyProof.Rows
inductive V where
 |non|bl (b:Bool)|int (i:Int)|str (x:Str)|byt (b:Array UInt8)|flt (b:UInt64)|ref (a:Addr)|ty (n:String)
 deriving DecidableEq
def Cg:V→Value→Prop
 |.non,u=>u=Value.none
 |.bl b,u=>u=Value.bool b
 |.int i,u=>∃t,u=Value.int i t
 |.str x,u=>∃t,u=Value.str x t
 |.byt b,u=>∃t,u=Value.bytes b t
 |.flt b,u=>∃t,u=Value.float b t
 |.ref a,u=>u=Value.ref a
 |.ty n,u=>u=Value.type n
abbrev Bw:List V→List Value→Prop:=Paired Cg
theorem Bw.length{xs:List V}{us:List Value}(r:Bw xs us):xs.length=us.length:=GG r
theorem Bw.get:∀{xs:List V} {us:List Value} {i:Nat} {x:V},Bw xs us→xs[i]?=some x→∃u,us[i]?=some u∧Cg x u
 |_,_,_,_,.nil,e=>by simp at e
 |_,_,0,_,.cons r _,e=>by simp at e;subst e;exact⟨_,rfl,r⟩
 |_,_,i+1,x,.cons _ t,e=>by
  obtain⟨u,h1,h2⟩:=Bw.get (i:=i) (x:=x) t (by simpa using e);exact⟨u,by simpa using h1,h2⟩
theorem Bw.set{x:V}{u:Value}(r:Cg x u):∀{xs:List V} {us:List Value} (i:Nat),Bw xs us→Bw (xs.set i x) (us.set i u)
 |_,_,_,.nil=>.nil
 |_,_,0,.cons _ t=>.cons r t
 |_,_,i+1,.cons q t=>.cons q (Bw.set r i t)
theorem Bw.append:∀{xs ys:List V} {us ws:List Value},Bw xs us→Bw ys ws→Bw (xs++ys) (us++ws)
 |_,_,_,_,.nil,s=>s
 |_,_,_,_,.cons r t,s=>.cons r (Bw.append t s)
theorem Bw.take:∀{xs:List V} {us:List Value} (n:Nat),Bw xs us→Bw (xs.take n) (us.take n)
 |_,_,0,_=>.nil
 |_,_,_+1,.nil=>.nil
 |_,_,n+1,.cons r t=>.cons r (Bw.take n t)
theorem Bw.drop:∀{xs:List V} {us:List Value} (n:Nat),Bw xs us→Bw (xs.drop n) (us.drop n)
 |_,_,0,r=>r
 |_,_,_+1,.nil=>.nil
 |_,_,n+1,.cons _ t=>Bw.drop n t
def Nq:Option V→Option Value→Prop
 |some v,some u=>Cg v u
 |none,none=>True
 |_,_=>False
def KV{κ:Type}:List (κ×V)→List (κ×Value)→Prop:=Paired fun(p:κ×V) (q:κ×Value)=>p.1=q.1∧Cg p.2 q.2
def kV:Key→V
 |.inl i=>.int i
 |.inr x=>.str x
inductive HO where
 |lst (xs:List V)
 |tup (xs:List V)
 |dK (kvs:List (Key×V))|dT (kvs:List (List Key×V))
 |set (S:Int→Bool) (n:Nat)
 |ins (C dx:Addr) (fs:List (Str×V))
 |own (x:Addr)
 |xd (fs:List (Str×V))
 |met (f x:Addr)
 |rng (lo hi:Int)
 |frz (o:Obj) (u:HO)
 |tbl (ps:Array Value)
 |ext (φ:Heap→Prop)
abbrev Hp:=Addr→Option HO
def upd(H:Hp)(a:Addr)(o:HO):Hp:=fun b=>if b=a then some o else H b
theorem bY{H:Hp}{a:Addr}{o:HO}:upd H a o a=some o:=by unfold upd;rw[AS rfl]
theorem aT{H:Hp}{a b:Addr}{o:HO}(h:b≠a):upd H a o b=H b:=by unfold upd;rw[AR h]
theorem bO{H:Hp}{a b:Addr}{o:HO}(h:H a=some o)(h':H b=none):a≠b:=by
 intro e;subst e;rw[h]at h';cases h'
section
variable(P:Program)(w:World)
def Dw(H:Hp)(h:Heap)(a:Addr):HO→Prop
 |.lst xs=>xs.length≤sizeLine∧∃(its:List Value) (n:Nat),Bw xs its∧h.get? a=some {cls:=.type "list",data:=.seq its.toArray n}
 |.tup xs=>xs.length≤sizeLine∧∃its:List Value,Bw xs its∧IsTup h a its.toArray
 |.dK kvs=>kvs.length≤sizeLine∧(a==sysModules)=false∧∃vs,KV kvs vs∧h.DictOf (mixKind P w) a vs
 |.dT kvs=>kvs.length≤sizeLine∧(a==sysModules)=false∧∃xs:List (List Key×Addr×Value),
   Paired (fun(p:List Key×V) (q:List Key×Addr×Value)=>p.1=q.1∧H q.2.1=some (.tup (p.1.map kV))∧Cg p.2 q.2.2) kvs xs∧
   ∃o es ep,h.get? a=some o∧o.ExactDict∧o.data=.dict es ep∧es.toList=xs.map (entryOfKey (tupleKind (mixKind P w)))∧(xs.map (·.1)).Nodup
 |.set S n=>h.SetOf (intKind P w) a S n
 |.ins C dx fs=>H dx=some (.own a)∧fs.length≤1000∧dx≠a∧h.get? a=some (W.instObj C dx)∧
   ∃mA,h.Ns1 dx mA∧(∀f,Nq (fs.lookup f) (mA f))∧PySem.Within mA (fs.map (·.1))
 |.own _=>∃o,h.get? a=some o
 |.xd fs=>∃mA,h.Ns1 a mA∧∀f,Nq (fs.lookup f) (mA f)
 |.rng lo hi=>∃t u v,h.get? a=some {cls:=.type "range",data:=.fields #[.int lo t,.int hi u,.int 1 v]}
 |.frz o u=>h.get? a=some o∧Dw H h a u
 |.tbl ps=>h.get? a=some {cls:=.none,data:=.fields ps}
 |.met f x=>h.get? a=some (W.methodObj (.ref f) (.ref x))
 |.ext φ=>φ h∧(∃o,h.get? a=some o)∧∀h1 h2:Heap,φ h1→(∀o,h1.get? a=some o→h2.get? a=some o)→φ h2
def Hf(H:Hp)(h:Heap):Prop:=∀a o,H a=some o→Dw P w H h a o
end
section
variable{P:Program}{w:World}{H H':Hp}{h h':Heap}{a:Addr}{o:HO}
theorem Dw.lt(x:Dw P w H h a o):a<h.objs.size:=by
 cases o with
 |lst xs=>obtain⟨_,_,_,_,e⟩:=x;exact AL e
 |tup xs=>obtain⟨_,_,_,p⟩:=x;exact p.lt
 |dK kvs=>obtain⟨_,_,_,_,o,_,_,e,_⟩:=x;exact AL e
 |dT kvs=>obtain⟨_,_,_,_,o,_,_,e,_⟩:=x;exact AL e
 |set S n=>obtain⟨o,_,_,_,e,_⟩:=x;exact AL e
 |ins C dx fs=>obtain⟨_,_,_,e,_⟩:=x;exact AL e
 |own y=>obtain⟨_,e⟩:=x;exact AL e
 |xd fs=>obtain⟨_,⟨_,_,_,e,_⟩,_⟩:=x;exact AL e
 |rng lo hi=>obtain⟨_,_,_,e⟩:=x;exact AL e
 |frz ob u=>obtain⟨e,_⟩:=x;exact AL e
 |tbl ps=>exact AL (show h.get? a=some _ from x)
 |met f y=>exact AL (show h.get? a=some _ from x)
 |ext φ=>obtain⟨_,⟨_,e⟩,_⟩:=x;exact AL e
theorem Paired.mapP{α β:Type}{F G:α→β→Prop}:∀{l₁:List α} {l₂:List β},Paired F l₁ l₂→(∀a b,F a b→G a b)→Paired G l₁ l₂
 |_,_,.nil,_=>.nil
 |_,_,.cons r t,f=>.cons (f _ _ r) (Paired.mapP t f)
theorem Dw.stay(x:Dw P w H h a o)(k:∀b u,(b=a∨H b=some (.own a))→h.get? b=some u→h'.get? b=some u)
  (ho:∀b,H b=some (.own a)→H' b=some (.own a))(ht:∀b xs,H b=some (.tup xs)→H' b=some (.tup xs)):Dw P w H' h' a o:=by
 induction o with
 |lst xs=>obtain⟨z,its,n,r,e⟩:=x;exact⟨z,its,n,r,k _ _ (.inl rfl) e⟩
 |tup xs=>obtain⟨z,its,r,ob,e,c⟩:=x;exact⟨z,its,r,ob,k _ _ (.inl rfl) e,c⟩
 |dK kvs=>obtain⟨z,y,vs,r,ob,es,ep,e,c⟩:=x;exact⟨z,y,vs,r,ob,es,ep,k _ _ (.inl rfl) e,c⟩
 |dT kvs=>
  obtain⟨z,y,xs,r,ob,es,ep,e,c⟩:=x;exact⟨z,y,xs,Paired.mapP r fun p q z=>⟨z.1,ht _ _ z.2.1,z.2.2⟩,ob,es,ep,k _ _ (.inl rfl) e,c⟩
 |set S n=>obtain⟨ob,es,ep,t,e,c⟩:=x;exact⟨ob,es,ep,t,k _ _ (.inl rfl) e,c⟩
 |ins C dx fs=>
  obtain⟨d,z,ne,e,mA,⟨od,es,ep,e2,c⟩,r⟩:=x;exact⟨ho _ d,z,ne,k _ _ (.inl rfl) e,mA,⟨od,es,ep,k _ _ (.inr d) e2,c⟩,r⟩
 |own y=>obtain⟨ob,e⟩:=x;exact⟨ob,k _ _ (.inl rfl) e⟩
 |xd fs=>obtain⟨mA,⟨od,es,ep,e,c⟩,r⟩:=x;exact⟨mA,⟨od,es,ep,k _ _ (.inl rfl) e,c⟩,r⟩
 |rng lo hi=>obtain⟨t,u,v,e⟩:=x;exact⟨t,u,v,k _ _ (.inl rfl) e⟩
 |frz ob u ih=>obtain⟨e,q⟩:=x;exact⟨k _ _ (.inl rfl) e,ih q⟩
 |tbl ps=>
  have e:h.get? a=some {cls:=.none,data:=.fields ps}:=x;show h'.get? a=some {cls:=.none,data:=.fields ps};exact k a _ (.inl rfl) e
 |met f y=>
  have e:h.get? a=some (W.methodObj (.ref f) (.ref y)):=x;show h'.get? a=some (W.methodObj (.ref f) (.ref y));exact k a _ (.inl rfl) e
 |ext φ=>obtain⟨p,⟨o,e⟩,st⟩:=x;exact⟨st _ _ p fun o q=>k _ _ (.inl rfl) q,⟨o,k _ _ (.inl rfl) e⟩,st⟩
theorem Hf.lt(x:Hf P w H h)(e:H a=some o):a<h.objs.size:=(x a o e).lt
theorem Hf.fresh(x:Hf P w H h)(e:h.objs.size≤a):H a=none:=by
 cases q:H a with
 |none=>rfl
 |some u=>exact absurd (AV (x.lt q) e) (EE _)
theorem Hf.kept(x:Hf P w H h)(k:∀b u,h.get? b=some u→h'.get? b=some u):Hf P w H h':=fun a o e=>
 (x a o e).stay (fun b u _ q=>k b u q) (fun _ q=>q) fun _ _ q=>q
theorem Hf.laid(x:Hf P w H h)(k:∀b u,h.get? b=some u→h'.get? b=some u)(hp:h.objs.size≤a)(new:Dw P w (upd H a o) h' a o):Hf P w (upd H a o) h':=fun b u e=>by
 have hn:=x.fresh hp;by_cases hb:b=a
 ·subst hb;rw[bY]at e;cases e;exact new
 ·rw[aT hb]at e;exact(x b u e).stay (fun c v _ q=>k c v q) (fun c q=>by rw[aT (bO q hn)];exact q) fun c xs q=>by rw[aT (bO q hn)];exact q
end
def Rd(H:Hp)(a:Addr)(u:HO):Prop:=H a=some u∨∃o,H a=some (.frz o u)
theorem Rd.ok{P:Program}{w:World}{H:Hp}{h:Heap}{a:Addr}{u:HO}(r:Rd H a u)(x:Hf P w H h):Dw P w H h a u:=by
 obtain r|⟨o,r⟩:=r
 ·exact x a u r
 ·obtain⟨_,q⟩:=x a _ r;exact q
def Uy:Option HO→Prop
 |some (.lst _)=>True
 |some (.dK _)=>True
 |some (.dT _)=>True
 |some (.set _ _)=>True
 |some (.ins _ _ _)=>True
 |some (.ext _)=>True
 |_=>False
section
variable{P:Program}{w:World}{H:Hp}{h h':Heap}{x e:Addr}{o':HO}
theorem Hf.write(ok:Hf P w H h)(mu:Uy (H x))(he:e=x∨H e=some (.own x))(k:∀b u,b≠e→h.get? b=some u→h'.get? b=some u)(heo:∃u,h'.get? e=some u)
  (new:Dw P w (upd H x o') h' x o'):Hf P w (upd H x o') h':=fun b u q=>by
 have nown:∀c y,H c=some (.own y)→c≠x:=fun c y r z=>by subst z;rw[r]at mu;exact mu
 have ntup:∀c xs,H c=some (.tup xs)→c≠x:=fun c xs r z=>by subst z;rw[r]at mu;exact mu
 by_cases hb:b=x
 ·subst hb;rw[bY]at q;cases q;exact new
 ·rw[aT hb]at q;by_cases hbe:b=e
  ·have q':H b=some (.own x):=by
    obtain z|z:=he
    ·exact absurd (hbe.trans z) hb
    ·rw[hbe];exact z
   rw[q]at q';cases q';obtain⟨v,hv⟩:=heo;exact⟨v,by rw[hbe];exact hv⟩
  ·refine(ok b u q).stay (fun c v hc r=>k c v ?_ r) (fun c r=>by rw[aT (nown c b r)];exact r) fun c xs r=>by rw[aT (ntup c xs r)];exact r
   obtain rfl|hc:=hc
   ·exact hbe
   ·rintro rfl;obtain z|z:=he
    ·exact nown c b hc z
    ·rw[hc]at z;cases z;exact hb rfl
end
structure Un(fs ex:List Addr)(H H':Hp)(h h':Heap):Prop where
 keep:∀b o,h.get? b=some o→H b=none→b∉fs→b∉ex→h'.get? b=some o
 slot:∀b o,h.get? b=some o→H b=none→b∈fs→b∉ex→∃sl,h'.get? b=some {o with slots:=sl}
 free:∀b o,h.get? b=some o→H b=none→b∉ex→H' b=none
 there:∀b o,h.get? b=some o→b∉ex→∃o',h'.get? b=some o'
 tups:∀b xs,H b=some (.tup xs)→H' b=some (.tup xs)
 frzs:∀b o u,H b=some (.frz o u)→H' b=some (.frz o u)
 tbls:∀b ps,H b=some (.tbl ps)→∃more,H' b=some (.tbl (ps++more))
section
variable{fs fs' ex ex':List Addr}{H H1 H2:Hp}{h h1 h2 h':Heap}{a x e:Addr}{o:HO}
theorem Un.any(u:Un fs ex H H1 h h1){b:Addr}(q:h.get? b=some ob)(n:H b=none)(hx:b∉ex):∃sl,h1.get? b=some {ob with slots:=sl}:=by
 by_cases hb:b∈fs
 ·exact u.slot b ob q n hb hx
 ·exact⟨ob.slots,u.keep b ob q n hb hx⟩
theorem Un.kept(k:∀b u,h.get? b=some u→h'.get? b=some u):Un fs ex H H h h':=
 ⟨fun b ob q _ _ _=>k b ob q,fun b ob q _ _ _=>⟨ob.slots,k b ob q⟩,fun _ _ _ n _=>n,fun b ob q _=>⟨ob,k b ob q⟩,fun _ _ q=>q,fun _ _ _ q=>q,fun _ ps q=>⟨#[],by rw[q];simp⟩⟩
theorem Un.refl:Un fs ex H H h h:=Un.kept fun _ _ q=>q
theorem Un.laid(k:∀b u,h.get? b=some u→h'.get? b=some u)(hp:h.objs.size≤a)(hn:H a=none):Un fs ex H (upd H a o) h h' where
 keep:=fun b u q _ _ _=>k b u q
 slot:=fun b u q _ _ _=>⟨u.slots,k b u q⟩
 free:=fun b u q n _=>by rw[aT (BC (AV (AL q) hp))];exact n
 there:=fun b u q _=>⟨u,k b u q⟩
 tups:=fun b xs q=>by rw[aT (bO q hn)];exact q
 frzs:=fun b u xs q=>by rw[aT (bO q hn)];exact q
 tbls:=fun b ps q=>⟨#[],by rw[aT (bO q hn),q];simp⟩
theorem Un.write(mu:Uy (H x))(he:e=x∨H e=some (.own x))(k:∀b u,b≠e→h.get? b=some u→h'.get? b=some u)(heo:∃u,h'.get? e=some u):Un fs ex H (upd H x o) h h':=by
 have hx:∀b,H b=none→b≠x:=fun b n z=>by subst z;rw[n]at mu;exact mu
 have hb:∀b,H b=none→b≠e:=fun b n z=>by
  subst z;obtain r|r:=he
  ·exact hx b n r
  ·rw[n]at r;cases r
 have hm:∀b u,H b=some u→¬Uy (some u)→b≠x:=fun b u q nm z=>by subst z;rw[q]at mu;exact nm mu
 refine⟨fun b u q n _ _=>k b u (hb b n) q,fun b u q n _ _=>⟨u.slots,k b u (hb b n) q⟩,fun b u q n _=>by rw[aT (hx b n)];exact n,fun b u q _=>?_,
  fun b xs q=>by rw[aT (hm b _ q fun z=>z)];exact q,fun b u xs q=>by rw[aT (hm b _ q fun z=>z)];exact q,fun b ps q=>⟨#[],by rw[aT (hm b _ q fun z=>z),q];simp⟩⟩
 by_cases hbe:b=e
 ·subst hbe;exact heo
 ·exact⟨u,k b u hbe q⟩
theorem Un.mono(u:Un fs ex H H1 h h1)(hs:∀b∈fs,b∈fs')(hx:∀b∈ex,b∈ex'):Un fs' ex' H H1 h h1:=
 ⟨fun b ob q n hb he=>u.keep b ob q n (fun z=>hb (hs b z)) fun z=>he (hx b z),fun _ _ q n _ he=>u.any q n fun z=>he (hx _ z),fun b ob q n he=>u.free b ob q n fun z=>he (hx b z),fun b ob q he=>u.there b ob q fun z=>he (hx b z),u.tups,u.frzs,u.tbls⟩
end
def Vg(h:Heap)(H:Hp):List Addr:=(List.range h.objs.size).filter fun a=>(H a).isSome
def Mr(h:Heap)(H:Hp):Heap:=W.hideAll h (Vg h H)
theorem a4j(h:Heap)(H:Hp):(Mr h H).objs.size=h.objs.size:=W.hideAll_size _ _
theorem a8q{h:Heap}{H:Hp}{b:Addr}{o:Obj}(e:h.get? b=some o)(n:H b=none):(Mr h H).get? b=some o:=
 W.hideAll_get _ e fun hm=>by
  have q:(H b).isSome=true:=(GA.mp hm).2;rw[n]at q;simp at q
theorem b1w{h:Heap}{H:Hp}{b:Addr}{o:Obj}(e:(Mr h H).get? b=some o):h.get? b=some o∧H b=none:=by
 have e':h.get? b=some o:=W.of_hideAll (Vg h H) e;refine⟨e',?_⟩;cases q:H b with
 |none=>rfl
 |some x=>
  have hm:b∈Vg h H:=GA.mpr ⟨FG.mpr (AL e'),by simp[q]⟩;have z:(Mr h H).get? b=none:=W.hideAll_none (Vg h H) hm;rw[z]at e;cases e
def Rn(g h:Heap)(L:Addr):List (Addr×Obj):=(List.range h.objs.size).filterMap fun a=>if a=L∨(g.get? a).isSome=true then none else(h.get? a).map fun o=>(a,o)
def rest(g h:Heap)(L d:Addr):List (Addr×Obj):=(Rn g h L).filter fun p=>decide (p.1≠d)
end L2
namespace L2
open PySem PySem.Spec PyProof.Rows
structure Mod(K:W.Frag)(mg:Str→Option Value)(base:Heap):Prop where
 kin:K.In base
 glob:base.Ns mainGlobals mg
 blt:∃mb,base.Ns builtinsNs mb∧∀x:Str,x≠"__name__"→mb x=bootBuiltins x
 nolimit:base.NoLimit
structure Cx where
 prog:Program
 w:World
 K:W.Frag
 mg:Str→Option Value
 base:Heap
 A:Around
 N:List Str
 s₀:Shared
 H₀:Hp
 env:Env
 outer:List Env
 stack:List Env
 ex:List Addr
 fn:Str→Bool
 calm:Bool
 pn:List (Addr×Obj)
 xe:Value→Shared→Prop
def frs(l:List Env):List Addr:=l.filterMap (·.frame)
abbrev Cx.fs(X:Cx):List Addr:=frs X.outer
def Qo(sc:Scope)(x:Str):Prop:=sc.names.lookup x=some .local∨sc.names.lookup x=some .cell∨sc.names.lookup x=some .free
def Pm(sc:Scope)(x:Str):Prop:=sc.names.lookup x=some .local∨sc.names.lookup x=some .cell
def Uz(env:Env)(h:Heap)(m:Str→Option Value)(x:Str)(u:Value):Prop:=
 (env.kindOf x=some .local∧m x=some u)∨((env.kindOf x=some .cell∨env.kindOf x=some .free)∧∃c,env.cells.lookup x=some c∧h.IsCell c (some u))
structure Cx.Ok(X:Cx):Prop where
 mod:Mod X.K X.mg X.base
 kind:X.env.scope.kind=.function
 glob:X.env.globals=mainGlobals
 blt:X.env.builtins=builtinsNs
 above:X.s₀.heap.objs.size≤X.env.locals
 inj:∀x y c,X.env.cells.lookup x=some c→X.env.cells.lookup y=some c→x=y
 has:∀x,(X.env.kindOf x=some .cell∨X.env.kindOf x=some .free)→∃c,X.env.cells.lookup x=some c
 cab:∀x c,X.fn x=true→X.env.cells.lookup x=some c→X.s₀.heap.objs.size≤c
 hd:X.calm=true→X.A.handled=none
 frames:X.A.frames=some X.stack
 stk:X.stack=X.outer∨(X.stack=X.env::X.outer∧X.env.frame=some X.env.locals)
 exf:∀b∈X.ex,b≠X.env.locals∧∀x c,X.env.cells.lookup x=some c→c≠b
 bs:∀b o,X.base.get? b=some o→X.s₀.heap.get? b=some o∧X.H₀ b=none
 bsz:X.base.objs.size≤X.s₀.heap.objs.size
 noex:∀b o,X.base.get? b=some o→b∉X.ex
 exfs:∀b∈X.ex,b∉X.fs
 funs:X.s₀.heap.FunFrames X.base X.outer
 frf:∀b∈X.fs,X.H₀ b=none
structure Inv(X:Cx)(pins:List (Addr×Obj))(σ:List (Option V))(H:Hp)(s:Shared):Prop where
 ok:X.Ok
 os:s.os=X.s₀.os
 bare:AllBare s.gens
 base:Un X.fs X.ex X.H₀ H X.s₀.heap s.heap
 loc:∃m,s.heap.Ns X.env.locals m∧∀(i:Nat) (x:Str) (v:V),X.N[i]?=some x→σ[i]?=some (some v)→Qo X.env.scope x→∃u,Cg v u∧Uz X.env s.heap m x u
 cell:∀x c,X.env.cells.lookup x=some c→∃v,s.heap.IsCell c v
 free:H X.env.locals=none
 freeC:∀x c,X.env.cells.lookup x=some c→H c=none
 pin:∀p∈X.pn++pins,s.heap.get? p.1=some p.2∧H p.1=none∧p.1≠X.env.locals∧p.1∉X.fs∧∀v,p.2.data≠.cell v
 hok:Hf X.prog X.w H s.heap
 len:σ.length=X.N.length
section
variable{X:Cx}{pins:List (Addr×Obj)}{σ:List (Option V)}{H H':Hp}{s:Shared}{h':Heap}
theorem Cx.Ok.nofr(ok:X.Ok){b:Addr}{o:Obj}(e:X.base.get? b=some o):b∉X.fs:=fun hb=>by
 have:=(ok.funs.mem hb).1;rw[e]at this;cases this
theorem Inv.bs(I:Inv X pins σ H s):∀b o,X.base.get? b=some o→s.heap.get? b=some o∧H b=none:=fun b o e=>
 ⟨I.base.keep b o (I.ok.bs b o e).1 (I.ok.bs b o e).2 (I.ok.nofr e) (I.ok.noex b o e),I.base.free b o (I.ok.bs b o e).1 (I.ok.bs b o e).2 (I.ok.noex b o e)⟩
theorem Inv.bk(I:Inv X pins σ H s):∀b o,X.base.get? b=some o→s.heap.get? b=some o:=fun b o e=>(I.bs b o e).1
theorem Inv.mod(I:Inv X pins σ H s):Mod X.K X.mg X.base:=I.ok.mod
theorem Inv.kIn(I:Inv X pins σ H s):X.K.In s.heap:=I.ok.mod.kin.keeps I.bk
theorem Inv.lt(I:Inv X pins σ H s):X.env.locals<s.heap.objs.size:=let⟨_,hn,_⟩:=I.loc;hn.lt
theorem Inv.sz(I:Inv X pins σ H s):X.s₀.heap.objs.size≤s.heap.objs.size:=BG I.ok.above (GX I.lt)
theorem Inv.nofs(I:Inv X pins σ H s){a:Addr}(h:s.heap.objs.size≤a):a∉X.fs:=fun hb=>by
 obtain⟨_,o,ho,_⟩:=I.ok.funs.mem hb;exact absurd (AV (AL ho) (BG I.sz h)) (EE _)
theorem Inv.cne(I:Inv X pins σ H s):∀x c,X.env.cells.lookup x=some c→c≠X.env.locals:=fun x c e z=>by
 obtain⟨v,o,ho,hd⟩:=I.cell x c e;obtain⟨m,⟨o',es,ep,ho',hd',_⟩,_⟩:=I.loc;rw[z,ho']at ho;cases ho;rw[hd']at hd;cases hd
theorem Inv.funs(I:Inv X pins σ H s):s.heap.FunFrames X.base X.outer:=by
 have all:∀(l:List Env),(∀b∈frs l,b∈X.fs)→X.s₀.heap.FunFrames X.base l→s.heap.FunFrames X.base l:=by
  intro l
  induction l with
  |nil=>intro _ _;trivial
  |cons env r ih=>
   intro hs hl;obtain⟨hk,⟨L,o,hf,hn,ho,hd⟩,hr⟩:=hl;have hL:L∈X.fs:=hs L (by unfold frs;rw[DM,hf];exact AM);obtain⟨sl,e⟩:=I.base.slot L o ho (I.ok.frf L hL) hL fun z=>I.ok.exfs L z hL
   exact⟨hk,⟨L,_,hf,hn,e,hd⟩,ih (fun b hb=>hs b (by unfold frs;rw[DM,hf];exact AC _ hb)) hr⟩
 exact all X.outer (fun _ hb=>hb) I.ok.funs
theorem Inv.stack(I:Inv X pins σ H s):s.heap.FunFrames X.base X.stack:=by
 obtain e|⟨e,hf⟩:=I.ok.stk
 ·rw[e];exact I.funs
 ·rw[e];obtain⟨m,hn,_⟩:=I.loc;refine .cons (by rw[I.ok.kind];decide) hf hn ?_ I.funs;exact Heap.get?_none_of_le (BG I.ok.bsz I.ok.above)
theorem Inv.stkSub(I:Inv X pins σ H s):∀b∈frs X.stack,b∈X.env.locals::X.fs:=fun b hb=>by
 obtain e|⟨e,hf⟩:=I.ok.stk
 ·rw[e]at hb;exact AC _ hb
 ·rw[e]at hb;unfold frs at hb;rw[DM,hf]at hb;exact hb
theorem Inv.stkFree(I:Inv X pins σ H s):∀b∈frs X.stack,H b=none:=fun b hb=>by
 obtain e|hb:=AN.mp (I.stkSub b hb)
 ·rw[e];exact I.free
 ·obtain⟨_,o,ho,_⟩:=I.ok.funs.mem hb;exact I.base.free b o ho (I.ok.frf b hb) fun z=>I.ok.exfs b z hb
theorem Inv.step{g':Array GenState}{t':Nat}{d':Drawn}{ch:List Addr}(I:Inv X pins σ H s)
  (hch:∀b∈ch,(b∈X.ex∨X.s₀.heap.objs.size≤b)∧b≠X.env.locals∧(∀x c,X.env.cells.lookup x=some c→c≠b)∧∀p∈X.pn++pins,p.1≠b)
  (keep:∀b o,b≠X.env.locals→b∉X.fs→b∉ch→s.heap.get? b=some o→H b=none→h'.get? b=some o)
  (slot:∀b o,b≠X.env.locals→b∈X.fs→b∉ch→s.heap.get? b=some o→H b=none→∃sl,h'.get? b=some {o with slots:=sl})(free:∀b o,b∉ch→s.heap.get? b=some o→H b=none→H' b=none)
  (there:∀b o,b∉ch→s.heap.get? b=some o→∃o',h'.get? b=some o')
  (tups:∀b xs,H b=some (.tup xs)→H' b=some (.tup xs))(frzs:∀b o u,H b=some (.frz o u)→H' b=some (.frz o u))(tbls:∀b ps,H b=some (.tbl ps)→∃more,H' b=some (.tbl (ps++more)))
  (ns:∀m,s.heap.Ns X.env.locals m→h'.Ns X.env.locals m)(hok:Hf X.prog X.w H' h')(hg:AllBare g'):
  Inv X pins σ H' {s with heap:=h',gens:=g',drawn:=d',toks:=t'}:=by
 have neL:∀b o,X.s₀.heap.get? b=some o→b≠X.env.locals:=fun b o e=>BC (AV (AL e) I.ok.above);have neC:∀b o,X.s₀.heap.get? b=some o→b∉X.ex→b∉ch:=fun b o e hx hb=>by
  obtain z|z:=(hch b hb).1
  ·exact hx z
  ·exact absurd (AV (AL e) z) (EE _)
 have cellK:∀x c,X.env.cells.lookup x=some c→∀v,s.heap.IsCell c v→h'.IsCell c v:=fun x c e v ⟨o,ho,hd⟩=>by
  have nch:c∉ch:=fun z=>(hch c z).2.2.1 x c e rfl;by_cases hc:c∈X.fs
  ·obtain⟨sl,q⟩:=slot c o (I.cne x c e) hc nch ho (I.freeC x c e);exact⟨_,q,hd⟩
  ·exact⟨o,keep c o (I.cne x c e) hc nch ho (I.freeC x c e),hd⟩
 refine⟨I.ok,I.os,hg,⟨fun b o e n hb hx=>?_,fun b o e n hb hx=>?_,fun b o e n hx=>?_,fun b o e hx=>?_,fun b xs e=>tups b xs (I.base.tups b xs e),fun b o xs e=>frzs b o xs (I.base.frzs b o xs e),fun b ps e=>?_⟩,?_,fun x c e=>?_,?_,fun x c e=>?_,fun p hp=>?_,hok,I.len⟩
 ·exact keep b o (neL b o e) hb (neC b o e hx) (I.base.keep b o e n hb hx) (I.base.free b o e n hx)
 ·obtain⟨sl,e1⟩:=I.base.slot b o e n hb hx;obtain⟨sl',e2⟩:=slot b _ (neL b o e) hb (neC b o e hx) e1 (I.base.free b o e n hx);exact⟨sl',e2⟩
 ·obtain⟨o',e1⟩:=I.base.there b o e hx;exact free b o' (neC b o e hx) e1 (I.base.free b o e n hx)
 ·obtain⟨o',e1⟩:=I.base.there b o e hx;exact there b o' (neC b o e hx) e1
 ·obtain⟨m1,e1⟩:=I.base.tbls b ps e;obtain⟨m2,e2⟩:=tbls b _ e1;exact⟨m1++m2,by rw[e2,Array.append_assoc]⟩
 ·obtain⟨m,hn,hl⟩:=I.loc;refine⟨m,ns m hn,fun i x v e1 e2 e3=>?_⟩;obtain⟨u,r,l⟩:=hl i x v e1 e2 e3;refine⟨u,r,?_⟩;obtain l|⟨k,c,e,z⟩:=l
  ·exact .inl l
  ·exact .inr ⟨k,c,e,cellK x c e _ z⟩
 ·obtain⟨v,z⟩:=I.cell x c e;exact⟨v,cellK x c e v z⟩
 ·obtain⟨m,⟨o,_,_,ho,_⟩,_⟩:=I.loc;exact free _ o (fun z=>(hch _ z).2.1 rfl) ho I.free
 ·obtain⟨v,o,ho,hd⟩:=I.cell x c e;exact free c o (fun z=>(hch c z).2.2.1 x c e rfl) ho (I.freeC x c e)
 ·obtain⟨e,n,ne,nf,d⟩:=I.pin p hp;have nch:p.1∉ch:=fun z=>(hch p.1 z).2.2.2 p hp rfl;exact⟨keep p.1 p.2 ne nf nch e n,free p.1 p.2 nch e n,ne,nf,d⟩
theorem Inv.un{t':Nat}(I:Inv X pins σ H s)(u:Un X.fs [] H H' s.heap h')(hok:Hf X.prog X.w H' h'):Inv X pins σ H' {s with heap:=h',toks:=t'}:=by
 obtain⟨m,⟨o,es,ep,ho,r⟩,_⟩:=id I.loc;obtain⟨sl,hL⟩:=u.any ho I.free (by simp);exact I.step (g':=s.gens) (d':=s.drawn) (ch:=[]) (fun _ z=>nomatch z) (fun b o _ hb _ e n=>u.keep b o e n hb (by simp)) (fun b o _ hb _ e n=>u.slot b o e n hb (by simp)) (fun b o _ e n=>u.free b o e n (by simp)) (fun b o _ e=>u.there b o e (by simp)) u.tups u.frzs u.tbls (fun m' hm=>by
  obtain⟨o',es',ep',ho',r'⟩:=hm;rw[ho]at ho';cases ho';exact⟨_,es',ep',hL,r'⟩) hok I.bare
theorem Inv.call{g':Array GenState}{t':Nat}{d':Drawn}{ch:List Addr}(I:Inv X pins σ H s)(u:Un (frs X.stack) ch H H' s.heap h')(hok:Hf X.prog X.w H' h')(hg:AllBare g')
  (hch:∀b∈ch,(b∈X.ex∨X.s₀.heap.objs.size≤b)∧b≠X.env.locals∧(∀x c,X.env.cells.lookup x=some c→c≠b)∧∀p∈X.pn++pins,p.1≠b):
  Inv X pins σ H' {s with heap:=h',gens:=g',drawn:=d',toks:=t'}:=by
 obtain⟨m,⟨o,es,ep,ho,r⟩,_⟩:=id I.loc;obtain⟨sl,hL⟩:=u.any ho I.free fun z=>(hch _ z).2.1 rfl
 exact I.step (ch:=ch) hch (fun b o hL hb hc e n=>u.keep b o e n (fun z=>(AN.mp (I.stkSub b z)).elim hL hb) hc) (fun b o _ _ hc e n=>u.any e n hc) (fun b o hc e n=>u.free b o e n hc) (fun b o hc e=>u.there b o e hc) u.tups u.frzs u.tbls (fun m' hm=>by
  obtain⟨o',es',ep',ho',r'⟩:=hm;rw[ho]at ho';cases ho';exact⟨_,es',ep',hL,r'⟩) hok hg
theorem Inv.turned{t':Nat}(I:Inv X pins σ H s)(k:∀b o,b≠it→s.heap.get? b=some o→h'.get? b=some o)(hn:H it=none)(hL:it≠X.env.locals)
  (h1:it∈X.ex∨X.s₀.heap.objs.size≤it)(h2:∀x c,X.env.cells.lookup x=some c→c≠it)(h3:∀p∈X.pn++pins,p.1≠it):Inv X pins σ H {s with heap:=h',toks:=t'}:=by
 have nit:∀b u,H b=some u→b≠it:=fun b u e z=>by rw[z,hn]at e;cases e
 refine I.step (g':=s.gens) (d':=s.drawn) (ch:=[it]) (fun b hb=>?_) (fun b o _ _ hc e _=>k b o (fun z=>hc (by simp[z])) e) (fun b o _ _ hc e _=>⟨o.slots,k b o (fun z=>hc (by simp[z])) e⟩) (fun _ _ _ _ n=>n)
  (fun b o hc e=>⟨o,k b o (fun z=>hc (by simp[z])) e⟩) (fun _ _ e=>e) (fun _ _ _ e=>e) (fun b ps e=>⟨#[],by rw[e];simp⟩) (fun m hm=>?_) (fun b u e=>?_) I.bare
 ·have e:b=it:=by simpa using hb
  subst e;exact⟨h1,hL,h2,h3⟩
 ·obtain⟨o,es,ep,ho,r⟩:=hm;exact⟨o,es,ep,k _ o (BU hL) ho,r⟩
 ·refine(I.hok b u e).stay (fun c v hc q=>k c v ?_ q) (fun _ q=>q) fun _ _ q=>q;obtain z|z:=hc
  ·rw[z];exact nit b u e
  ·exact nit c _ z
theorem Inv.tok(I:Inv X pins σ H s)(t:Nat):Inv X pins σ H {s with toks:=t}:=I.un (h':=s.heap) (t':=t) Un.refl I.hok
theorem Inv.kept{t':Nat}(I:Inv X pins σ H s)(k:∀b u,s.heap.get? b=some u→h'.get? b=some u):Inv X pins σ H {s with heap:=h',toks:=t'}:=I.un (Un.kept k) (I.hok.kept k)
theorem Inv.laid{a:Addr}{o:HO}{t':Nat}(I:Inv X pins σ H s)(k:∀b u,s.heap.get? b=some u→h'.get? b=some u)(hp:s.heap.objs.size≤a)(new:Dw X.prog X.w (upd H a o) h' a o):
  Inv X pins σ (upd H a o) {s with heap:=h',toks:=t'}:=I.un (Un.laid k hp (I.hok.fresh hp)) (I.hok.laid k hp new)
theorem Inv.write{x e:Addr}{o:HO}{t':Nat}(I:Inv X pins σ H s)(mu:Uy (H x))(he:e=x∨H e=some (.own x))(k:∀b u,b≠e→s.heap.get? b=some u→h'.get? b=some u)(heo:∃u,h'.get? e=some u)
  (new:Dw X.prog X.w (upd H x o) h' x o):Inv X pins σ (upd H x o) {s with heap:=h',toks:=t'}:=I.un (Un.write mu he k heo) (I.hok.write mu he k heo new)
theorem Inv.pins_of{pins':List (Addr×Obj)}(I:Inv X pins σ H s)(h:∀p∈pins',s.heap.get? p.1=some p.2∧H p.1=none∧p.1≠X.env.locals∧p.1∉X.fs∧∀v,p.2.data≠.cell v):Inv X pins' σ H s:=
 ⟨I.ok,I.os,I.bare,I.base,I.loc,I.cell,I.free,I.freeC,fun p hp=>(AZ.mp hp).elim (fun z=>I.pin p (BE _ z)) (h p),I.hok,I.len⟩
theorem wW{N:List Str}(hN:N.Nodup){i j:Nat}{x:Str}(a:N[i]?=some x)(b:N[j]?=some x):i=j:=by
 obtain⟨h1,e1⟩:=AT.mp a;obtain⟨h2,e2⟩:=AT.mp b;exact(List.getElem_inj hN).mp (e1.trans e2.symm)
theorem rW{M:Model}{A:Around}{E:Value→Shared→Prop}{i:Nat}{x:Str}{v:V}{u:Value}{Q:Unit→Shared→Prop}(I:Inv X pins σ H s)(hN:X.N.Nodup)(hi:X.N[i]?=some x)(hx:Pm X.env.scope x)(r:Cg v u)
  (h:∀s',Inv X pins (σ.set i (some v)) H s'→(∃a,Heap.SameBut a s.heap s'.heap∧(a=X.env.locals∨X.env.cells.lookup x=some a))→Q () s')(hf:X.fn x=true∨X.env.scope.names.lookup x=some .local:=by first|exact .inl rfl|exact .inr rfl|assumption):wpAny M A (storeName X.env x u) Q E s:=by
 obtain⟨m,hn,hl⟩:=id I.loc;have hcls:(X.env.scope.kind==.class||(X.env.scope.kind==.module&&X.env.locals != X.env.globals))=false:=by rw[I.ok.kind];rfl
 have hiσ:i<σ.length:=by rw[I.len];exact(AT.mp hi).1
 have cne:=I.cne;have tracked:∀{a:Addr} {h':Heap},(∃o,s.heap.get? a=some o∧H a=none)→Heap.SameBut a s.heap h'→Hf X.prog X.w H h':=fun{a h'} ha hs b ob e=>by
  obtain⟨_,_,hfree⟩:=ha;refine(I.hok b ob e).stay (fun c w' hc q=>(hs.2 c ?_).trans q) (fun _ q=>q) fun _ _ q=>q;rintro rfl;obtain rfl|hc:=hc
  ·rw[hfree]at e;cases e
  ·rw[hfree]at hc;cases hc
 obtain hk|hk:=hx
 ·refine wpAny_storeName_local hk hn (fun h' hn' hs=>?_) hcls;obtain⟨oL,_,_,hoL,_⟩:=id hn;refine h _ ⟨I.ok,I.os,I.bare,⟨fun b o e n hb hx=>?_,fun b o e n hb hx=>?_,I.base.free,fun b o e hx=>?_,I.base.tups,I.base.frzs,I.base.tbls⟩,⟨_,hn',fun j y v' e1 e2 e3=>?_⟩,fun y c e=>?_,I.free,I.freeC,fun p hp=>?_,tracked ⟨oL,hoL,I.free⟩ hs,by simpa using I.len⟩ ⟨_,hs,.inl rfl⟩
  ·exact(hs.2 b (BC (AV (AL e) I.ok.above))).trans (I.base.keep b o e n hb hx)
  ·obtain⟨sl,e1⟩:=I.base.slot b o e n hb hx;exact⟨sl,(hs.2 b (BC (AV (AL e) I.ok.above))).trans e1⟩
  ·obtain⟨o',e1⟩:=I.base.there b o e hx;exact⟨o',(hs.2 b (BC (AV (AL e) I.ok.above))).trans e1⟩
  ·by_cases hj:j=i
   ·subst hj;rw[hi]at e1;cases e1;rw[BM hiσ]at e2;cases e2;exact⟨u,r,.inl ⟨hk,by simp⟩⟩
   ·rw[AY (BU hj)]at e2;obtain⟨u',r',q⟩:=hl j y v' e1 e2 e3;refine⟨u',r',?_⟩;obtain⟨k,e⟩|⟨k,c,e,z⟩:=q
    ·refine .inl ⟨k,?_⟩;have:y≠x:=fun e=>hj (wW hN e1 (e▸hi));simp[this,e]
    ·exact .inr ⟨k,c,e,z.sameBut hs (cne y c e)⟩
  ·obtain⟨w',z⟩:=I.cell y c e;exact⟨w',z.sameBut hs (cne y c e)⟩
  ·obtain⟨e,n,ne,nf,d⟩:=I.pin p hp;exact⟨(hs.2 p.1 ne).trans e,n,ne,nf,d⟩
 ·have hfn:X.fn x=true:=by
   obtain z|z:=hf
   ·exact z
   ·rw[z]at hk;cases hk
  obtain⟨c,hc⟩:=I.ok.has x (.inl hk);obtain⟨w',z⟩:=I.cell x c hc;refine wpAny_storeName_cell I.ok.kind hk hc z (fun h' hc' hs=>?_);obtain⟨oc,hoc,hocd⟩:=id z;refine h {s with heap:=h'} ⟨I.ok,I.os,I.bare,⟨fun b o e n hb hx=>?_,fun b o e n hb hx=>?_,I.base.free,fun b o e hx=>?_,I.base.tups,I.base.frzs,I.base.tbls⟩,⟨m,hn.sameBut hs (BU (cne x c hc)),fun j y v' e1 e2 e3=>?_⟩,fun y c' e=>?_,I.free,I.freeC,fun p hp=>?_,tracked ⟨oc,hoc,I.freeC x c hc⟩ hs,by simpa using I.len⟩ ⟨c,hs,.inr hc⟩
  ·exact(hs.2 b (BC (AV (AL e) (I.ok.cab x c hfn hc)))).trans (I.base.keep b o e n hb hx)
  ·obtain⟨sl,e1⟩:=I.base.slot b o e n hb hx;exact⟨sl,(hs.2 b (BC (AV (AL e) (I.ok.cab x c hfn hc)))).trans e1⟩
  ·obtain⟨o',e1⟩:=I.base.there b o e hx;exact⟨o',(hs.2 b (BC (AV (AL e) (I.ok.cab x c hfn hc)))).trans e1⟩
  ·by_cases hj:j=i
   ·subst hj;rw[hi]at e1;cases e1;rw[BM hiσ]at e2;cases e2;exact⟨u,r,.inr ⟨.inl hk,c,hc,hc'⟩⟩
   ·rw[AY (BU hj)]at e2;obtain⟨u',r',q⟩:=hl j y v' e1 e2 e3;refine⟨u',r',?_⟩;obtain q|⟨k,c',e,z'⟩:=q
    ·exact .inl q
    ·refine .inr ⟨k,c',e,z'.sameBut hs ?_⟩;rintro rfl;exact hj (wW hN e1 (I.ok.inj _ _ _ e hc▸hi))
  ·by_cases hcc:c'=c
   ·subst hcc;exact⟨_,hc'⟩
   ·obtain⟨w2,z2⟩:=I.cell y c' e;exact⟨w2,z2.sameBut hs hcc⟩
  ·obtain⟨e,n,ne,nf,d⟩:=I.pin p hp;refine⟨(hs.2 p.1 ?_).trans e,n,ne,nf,d⟩;intro q;rw[q,hoc]at e;have q':oc=p.2:=BJ e;exact d w' (by rw[←q'];exact hocd)
theorem gU{M:Model}{A:Around}{E:Value→Shared→Prop}{i:Nat}{x:Str}{v:V}{u:Value}{Q:Unit→Shared→Prop}(I:Inv X pins σ H s)(hN:X.N.Nodup)(hi:X.N[i]?=some x)(hx:Pm X.env.scope x)(r:Cg v u)
  (h:∀s',Inv X pins (σ.set i (some v)) H s'→Q () s')(hf:X.fn x=true∨X.env.scope.names.lookup x=some .local:=by first|exact .inl rfl|exact .inr rfl|assumption):wpAny M A (storeName X.env x u) Q E s:=
 rW I hN hi hx r (fun s' I' _=>h s' I') hf
theorem Inv.call'{s':Shared}{ch:List Addr}(I:Inv X pins σ H s)(ho:s'.os=s.os)(u:Un (frs X.stack) ch H H' s.heap s'.heap)(hok:Hf X.prog X.w H' s'.heap)(hg:AllBare s'.gens)
  (hch:∀b∈ch,(b∈X.ex∨X.s₀.heap.objs.size≤b)∧b≠X.env.locals∧(∀x c,X.env.cells.lookup x=some c→c≠b)∧∀p∈X.pn++pins,p.1≠b):Inv X pins σ H' s':=by
 obtain⟨h',g',d',t',o'⟩:=s';have e:o'=s.os:=ho;subst e;exact I.call (g':=g') (t':=t') (d':=d') u hok hg hch
end
abbrev XK:=Value→Option Addr→Hp→Prop
abbrev St:=List (Option V)
abbrev VK:=V→Hp→Prop
abbrev TE:=St→Hp→VK→Prop
abbrev TT:=St→Hp→(Bool→Hp→Prop)→Prop
abbrev TA:=St→Hp→(List V→Hp→Prop)→Prop
structure Ends where
 nx:St→Hp→Prop
 rt:VK
 bk:St→Hp→Prop:=fun _ _=>False
 ct:St→Hp→Prop:=fun _ _=>False
abbrev TS:=Ends→St→Hp→Prop
inductive EP(X:Cx)(pins:List (Addr×Obj))(σ:St)(Q:VK)(u:Value)(s':Shared):Prop
 |mk (v:V) (H':Hp) (I:Inv X pins σ H' s') (r:Cg v u) (q:Q v H'):EP X pins σ Q u s'
inductive TP(X:Cx)(pins:List (Addr×Obj))(σ:St)(Q:Bool→Hp→Prop)(b:Bool)(s':Shared):Prop
 |mk (H':Hp) (I:Inv X pins σ H' s') (q:Q b H'):TP X pins σ Q b s'
inductive AP(X:Cx)(pins:List (Addr×Obj))(σ:St)(Q:List V→Hp→Prop)(us:List Value)(s':Shared):Prop
 |mk (vs:List V) (H':Hp) (I:Inv X pins σ H' s') (r:Bw vs us) (q:Q vs H'):AP X pins σ Q us s'
def SP(X:Cx)(pins:List (Addr×Obj))(D:Ends)(f:Flow)(s':Shared):Prop:=
 match f with
 |.next=>∃σ' H',Inv X pins σ' H' s'∧D.nx σ' H'
 |.brk=>∃σ' H',Inv X pins σ' H' s'∧D.bk σ' H'
 |.cont=>∃σ' H',Inv X pins σ' H' s'∧D.ct σ' H'
 |.ret u=>∃v σ' H',Inv X pins σ' H' s'∧Cg v u∧D.rt v H'
def PE(X:Cx)(e:Expr)(t:TE):Prop:=
 ∀(pins:List (Addr×Obj)) (s:Shared) (σ:St) (H:Hp) (Q:VK),Inv X pins σ H s→t σ H Q→wpAny (model X.prog X.w) X.A (eval e X.env) (EP X pins σ Q) X.xe s
def PT(X:Cx)(e:Expr)(t:TT):Prop:=
 ∀(pins:List (Addr×Obj)) (s:Shared) (σ:St) (H:Hp) (Q:Bool→Hp→Prop),Inv X pins σ H s→t σ H Q→wpAny (model X.prog X.w) X.A (isTrue e X.env (eval e X.env)) (TP X pins σ Q) X.xe s
def PW(X:Cx)(e:Expr)(t:TT):Prop:=
 ∀(whole:Sem Value) (pins:List (Addr×Obj)) (s:Shared) (σ:St) (H:Hp) (Q:Bool→Hp→Prop),Inv X pins σ H s→t σ H Q→wpAny (model X.prog X.w) X.A (isTrue e X.env whole) (TP X pins σ Q) X.xe s
theorem PW.pt{X:Cx}{e:Expr}{t:TT}(h:PW X e t):PT X e t:=h _
def PA(X:Cx)(es:List Expr)(t:TA):Prop:=
 ∀(pos:Pos) (pins:List (Addr×Obj)) (s:Shared) (σ:St) (H:Hp) (Q:List V→Hp→Prop),Inv X pins σ H s→t σ H Q→wpAny (model X.prog X.w) X.A (spliced (backTo pos (starEach es X.env))) (AP X pins σ Q) X.xe s
def PS(X:Cx)(st:Stmt)(t:TS):Prop:=
 ∀(pins:List (Addr×Obj)) (s:Shared) (σ:St) (H:Hp) (D:Ends),Inv X pins σ H s→t D σ H→wpAny (model X.prog X.w) X.A (exec st X.env) (SP X pins D) X.xe s
def Mb(X:Cx)(st:List Stmt)(t:TS):Prop:=
 ∀(pins:List (Addr×Obj)) (s:Shared) (σ:St) (H:Hp) (D:Ends),Inv X pins σ H s→t D σ H→wpAny (model X.prog X.w) X.A (execs st X.env) (SP X pins D) X.xe s
theorem bX{α:Type}{t:Sem α}{Q Q':α→Shared→Prop}{M:Model}{A:Around}{E:Value→Shared→Prop}{s:Shared}(h:wpAny M A t Q E s)(hQ:∀a s,Q a s→Q' a s):wpAny M A t Q' E s:=BV h hQ fun _ _ x=>x
end L2
namespace L2
open PySem PySem.Spec PyProof.Rows
section
variable{X:Cx}
theorem bin{a b:Expr}{ta tb:TE}(ha:PE X a ta)(hb:PE X b tb){pins:List (Addr×Obj)}{s:Shared}{σ:St}{H:Hp}{R:V→V→Hp→Prop}(I:Inv X pins σ H s)(h:ta σ H fun x H1=>tb σ H1 fun y H2=>R x y H2)
  {α:Type}{Q:α→Shared→Prop}{f:Value→Value→Sem α}
  (hf:∀v u s2 x y H2,Inv X pins σ H2 s2→Cg x v→Cg y u→R x y H2→wpAny (model X.prog X.w) X.A (f v u) Q X.xe s2):
  wpAny (model X.prog X.w) X.A (eval a X.env) (fun v s₁=>wpAny (model X.prog X.w) X.A (eval b X.env) (fun u s₂=>wpAny (model X.prog X.w) X.A (f v u) Q X.xe s₂) X.xe s₁) X.xe s:=by
 refine bX (ha pins s σ H _ I h) fun v s1 ⟨x,H1,I1,r1,q1⟩=>?_;refine bX (hb pins s1 σ H1 _ I1 q1) fun u s2 ⟨y,H2,I2,r2,q2⟩=>?_;exact hf v u s2 x y H2 I2 r1 r2 q2
def Vs(i:Nat):TE:=fun σ H Q=>∃v,σ[i]?=some (some v)∧Q v H
def tC(v:V):TE:=fun _ H Q=>Q v H
theorem gX{i:Nat}{x:Str}{pos:Pos}(hN:X.N[i]?=some x)(hv:Qo X.env.scope x)(hd:(x==("__debug__":Str))=false:=by decide)(hcd:(x==("__classdict__":Str))=false:=by decide):PE X (.Name x pos) (Vs i):=by
 intro pins s σ H Q I h;obtain⟨v,e,h⟩:=h;obtain⟨m,hn,hl⟩:=I.loc;obtain⟨u,r,l⟩:=hl i x v hN e hv;have fin:EP X pins σ Q u s:=⟨v,H,I,r,h⟩;obtain⟨hk,hm⟩|⟨hk,c,hc,hcell⟩:=l
 ·exact wpAny_Name (wpAny_loadName_local I.ok.kind hk hn hm fin) hd
 ·obtain hk|hk:=hk
  ·exact wpAny_Name (wpAny_loadName_cell I.ok.kind hk hc hcell fin) hd
  ·exact wpAny_Name (wpAny_loadName_free I.ok.kind hk hc hcell fin hcd) hd
theorem b5g {i j pos}:PE X (.Constant (.int i) j pos) (tC (.int i)):=fun _ _ _ H _ I h=>wpAny_Constant_int ⟨.int i,H,I.tok _,⟨_,rfl⟩,h⟩
theorem b8f {b j pos}:PE X (.Constant (.bool b) j pos) (tC (.bl b)):=fun _ _ _ H _ I h=>Constant_bool ⟨.bl b,H,I,rfl,h⟩
theorem b5f {j pos}:PE X (.Constant .none j pos) (tC .non):=fun _ _ _ H _ I h=>Constant_none ⟨.non,H,I,rfl,h⟩
theorem a6n {x j pos}:PE X (.Constant (.str x) j pos) (tC (.str x)):=fun _ _ _ H _ I h=>Calls.Constant_str ⟨.str x,H,I.tok _,⟨_,rfl⟩,h⟩
def Gl(X:Cx)(x:Str):Prop:=X.env.kindOf x=some .globalImplicit
theorem eJ{E:Value→Shared→Prop}{pins:List (Addr×Obj)}{s:Shared}{σ:St}{H:Hp}{x:Str}{u:Value}{pos:Pos}{Q:Value→Shared→Prop}(I:Inv X pins σ H s)(hg:Gl X x)(hm:X.mg x=some u)(h:Q u s)
  (hd:(x==("__debug__":Str))=false:=by decide):wpAny (model X.prog X.w) X.A (eval (.Name x pos) X.env) Q E s:=
 Calls.Name_function_global I.ok.kind hg (Calls.loadGlobal_global (by rw[I.ok.glob];exact I.mod.glob.keeps I.bk) hm h) hd
theorem iG{E:Value→Shared→Prop}{pins:List (Addr×Obj)}{s:Shared}{σ:St}{H:Hp}{x:Str}{u:Value}{pos:Pos}{Q:Value→Shared→Prop}(I:Inv X pins σ H s)(hg:Gl X x)(hm:X.mg x=none)(hv:bootBuiltins x=some u)(h:Q u s)
  (hn:x≠"__name__":=by decide)(hd:(x==("__debug__":Str))=false:=by decide):wpAny (model X.prog X.w) X.A (eval (.Name x pos) X.env) Q E s:=by
 obtain⟨mb,h1,h2⟩:=I.mod.blt;exact Calls.Name_function_global I.ok.kind hg (Calls.loadGlobal_builtin (by rw[I.ok.glob];exact I.mod.glob.keeps I.bk) hm (by rw[I.ok.blt];exact h1.keeps I.bk) ((h2 x hn).trans hv) h) hd
theorem a1i{x:Str}{v:V}{u:Value}{pos:Pos}(hg:Gl X x)(hm:X.mg x=some u)(r:Cg v u)(hd:(x==("__debug__":Str))=false:=by decide):PE X (.Name x pos) (tC v):=
 fun _ _ _ H _ I h=>eJ I hg hm ⟨v,H,I,r,h⟩ hd
theorem a1j{x:Str}{v:V}{u:Value}{pos:Pos}(hg:Gl X x)(hm:X.mg x=none)(hv:bootBuiltins x=some u)(r:Cg v u)(hn:x≠"__name__":=by decide)(hd:(x==("__debug__":Str))=false:=by decide):PE X (.Name x pos) (tC v):=
 fun _ _ _ H _ I h=>iG I hg hm hv ⟨v,H,I,r,h⟩ hn hd
variable{a b:Expr}{ta tb:TE}{pos:Pos}
def PC(X:Cx)(op:CmpOp)(a b:Expr)(t:TE):Prop:=
 ∀(pins:List (Addr×Obj)) (s:Shared) (σ:St) (H:Hp) (Q:VK),Inv X pins σ H s→t σ H Q→
  wpAny (model X.prog X.w) X.A (eval a X.env) (fun v s₁=>wpAny (model X.prog X.w) X.A (eval b X.env) (fun u s₂=>wpAny (model X.prog X.w) X.A (compareOp op v u) (EP X pins σ Q) X.xe s₂) X.xe s₁) X.xe s
theorem a7p(b:Expr){op:CmpOp}(h:op≠.In)(h2:op≠.NotIn):behindInMarks op b=false:=by
 have e1:(op==CmpOp.In)=false:=by cases op<;>first|rfl|exact absurd rfl h
 have e2:(op==CmpOp.NotIn)=false:=by cases op<;>first|rfl|exact absurd rfl h2
 cases b<;>simp[behindInMarks,e1,e2]
def tB(t:TE):TT:=fun σ H Q=>t σ H fun x H1=>∃c,x=.bl c∧Q c H1
theorem b9y{op:CmpOp}{t:TE}(h:PC X op a b t)(h1:behindInMarks op b=false:=by first|exact a7p _ (by decide) (by decide)|rfl):PT X (.Compare a [op] [b] pos) (tB t):=by
 intro pins s σ H Q I hw;refine GM (bX (h pins s σ H _ I hw) fun v s1 h1=>bX h1 fun u s2 h2=>bX h2 fun c s3 ⟨x,H1,I1,r1,q1⟩=>?_) h1;obtain⟨d,rfl,q⟩:=q1;cases r1;exact BK ⟨H1,I1,q⟩
theorem b4u{e:Expr}{t:TE}(h:PE X e t)(he:∀whole,isTrue e X.env whole=(do let v ←whole;standAt e.pos;holding [v] (truthy v)):=by intro _;rfl):PT X e (tB t):=by
 intro pins s σ H Q I hw;refine isTrue_plain (bX (h pins s σ H _ I hw) fun v s1 ⟨x,H1,I1,r1,q1⟩=>?_) (he _);obtain⟨d,rfl,q⟩:=q1;cases r1;exact BK ⟨H1,I1,q⟩
variable{tA tB':TT}{rest:List Expr}
def Vz(t u:TT):TT:=fun σ H Q=>t σ H fun c H1=>if c=true then u σ H1 Q else Q false H1
def Xb(t u:TT):TT:=fun σ H Q=>t σ H fun c H1=>if c=true then Q true H1 else u σ H1 Q
def Vv(t:TT):TT:=fun σ H Q=>t σ H fun c H1=>Q (!c) H1
theorem b0w(ha:PT X a tA):PW X (.BoolOp .And [a] pos) tA:=by
 intro wh pins s σ H Q I h;refine isTrue_and (bX (ha pins s σ H Q I h) fun c s1 e=>?_);cases c with
 |true=>exact isTrue_and_nil e
 |false=>exact e
theorem b4s(ha:PT X a tA):PW X (.BoolOp .Or [a] pos) tA:=by
 intro wh pins s σ H Q I h;refine isTrue_or (bX (ha pins s σ H Q I h) fun c s1 e=>?_);cases c with
 |false=>exact isTrue_or_nil e
 |true=>exact e
theorem b4t(ha:PT X a tA)(hb:PW X (.BoolOp .And (b::rest) pos) tB'):PW X (.BoolOp .And (a::b::rest) pos) (Vz tA tB'):=by
 intro wh pins s σ H Q I h;refine isTrue_and (bX (ha pins s σ H _ I h) fun c s1 ⟨H1,I1,q1⟩=>?_);cases c with
 |true=>exact hb wh pins s1 σ H1 Q I1 q1
 |false=>exact⟨H1,I1,q1⟩
theorem b8c(ha:PT X a tA)(hb:PW X (.BoolOp .Or (b::rest) pos) tB'):PW X (.BoolOp .Or (a::b::rest) pos) (Xb tA tB'):=by
 intro wh pins s σ H Q I h;refine isTrue_or (bX (ha pins s σ H _ I h) fun c s1 ⟨H1,I1,q1⟩=>?_);cases c with
 |true=>exact⟨H1,I1,q1⟩
 |false=>exact hb wh pins s1 σ H1 Q I1 q1
theorem b4v(ha:PT X a tA):PT X (.UnaryOp .Not a pos) (Vv tA):=by
 intro pins s σ H Q I h;exact isTrue_not (bX (ha pins s σ H (fun c H1=>Q (!c) H1) I h) fun _ _ ⟨H2,I2,q⟩=>⟨H2,I2,q⟩)
def Tu(ta tb:TE):TE:=fun σ H Q=>ta σ H fun x H1=>∃c,x=.bl c∧if c=true then tb σ H1 Q else Q (.bl false) H1
def Vu(ta tb:TE):TE:=fun σ H Q=>ta σ H fun x H1=>∃c,x=.bl c∧if c=true then Q (.bl true) H1 else tb σ H1 Q
def Tp(ta:TE):TE:=fun σ H Q=>ta σ H fun x H1=>∃c,x=.bl c∧Q (.bl (!c)) H1
theorem a6p {op}{t:TE}(h:PE X a t):PE X (.BoolOp op [a] pos) t:=fun pins s σ H Q I hw=>BoolOp_one (h pins s σ H Q I hw)
theorem a6x(ha:PE X a ta)(hb:PE X (.BoolOp .And (b::rest) pos) tb):PE X (.BoolOp .And (a::b::rest) pos) (Tu ta tb):=by
 intro pins s σ H Q I h;refine BoolOp_and (bX (ha pins s σ H _ I h) fun v s1 ⟨x,H1,I1,r1,q1⟩=>?_);obtain⟨c,rfl,q1⟩:=q1;cases r1;refine BK ?_;cases c with
 |true=>exact hb pins s1 σ H1 Q I1 q1
 |false=>exact⟨.bl false,H1,I1,rfl,q1⟩
theorem b8e(ha:PE X a ta)(hb:PE X (.BoolOp .Or (b::rest) pos) tb):PE X (.BoolOp .Or (a::b::rest) pos) (Vu ta tb):=by
 intro pins s σ H Q I h;refine BoolOp_or (bX (ha pins s σ H _ I h) fun v s1 ⟨x,H1,I1,r1,q1⟩=>?_);obtain⟨c,rfl,q1⟩:=q1;cases r1;refine BK ?_;cases c with
 |false=>exact hb pins s1 σ H1 Q I1 q1
 |true=>exact⟨.bl true,H1,I1,rfl,q1⟩
theorem b5e(ha:PE X a ta):PE X (.UnaryOp .Not a pos) (Tp ta):=by
 intro pins s σ H Q I h;refine UnaryOp_ (bX (ha pins s σ H _ I h) fun v s1 ⟨x,H1,I1,r1,q1⟩=>?_);obtain⟨c,rfl,q1⟩:=q1;cases r1;exact not_of (BK ⟨.bl (!c),H1,I1,rfl,q1⟩)
def Xc(t:TT)(ta tb:TE):TE:=fun σ H Q=>t σ H fun c H1=>if c=true then ta σ H1 Q else tb σ H1 Q
theorem a6s{c:Expr}(hc:PT X c tA)(ha:PE X a ta)(hb:PE X b tb):PE X (.IfExp c a b pos) (Xc tA ta tb):=by
 intro pins s σ H Q I h;refine wpAny_IfExp (bX (hc pins s σ H _ I h) fun d s1 ⟨H1,I1,q1⟩=>?_);cases d with
 |true=>exact ha pins s1 σ H1 Q I1 q1
 |false=>exact hb pins s1 σ H1 Q I1 q1
end
end L2
namespace L2
open PySem PySem.Spec PyProof.Rows
def Ei(K:W.Frag)(H:Hp)(a:Addr)(xs:List V):Prop:=
 Rd H a (.lst xs)∨
  ∃(o:Obj) (its:Array Value) (n:Nat),K.lookup a=some o∧o.cls=.type "list"∧o.dict=none∧o.data=.seq its n∧its.size≤sizeLine∧Bw xs its.toList
def Eb(K:W.Frag)(H:Hp)(a:Addr)(xs:List V):Prop:=
 Rd H a (.tup xs)∨
  ∃(o:Obj) (its:Array Value) (n:Nat),K.lookup a=some o∧o.cls=.type "tuple"∧o.data=.seq its n∧its.size≤sizeLine∧Bw xs its.toList
def Wi:Value→Option V
 |.none=>some .non
 |.bool b=>some (.bl b)
 |.int i _=>some (.int i)
 |.str x _=>some (.str x)
 |.bytes b _=>some (.byt b)
 |.float b _=>some (.flt b)
 |.ref a=>some (.ref a)
 |.type n=>some (.ty n)
 |_=>none
theorem Cg.abs{x:V}{u:Value}(r:Cg x u):Wi u=some x:=by
 cases x with
 |non=>cases r;rfl
 |bl _=>cases r;rfl
 |int _=>obtain⟨t,rfl⟩:=r;rfl
 |str _=>obtain⟨t,rfl⟩:=r;rfl
 |byt _=>obtain⟨t,rfl⟩:=r;rfl
 |flt _=>obtain⟨t,rfl⟩:=r;rfl
 |ref _=>cases r;rfl
 |ty _=>cases r;rfl
theorem Cg.inj{x y:V}{u:Value}(r:Cg x u)(q:Cg y u):x=y:=BJ (r.abs.symm.trans q.abs)
theorem Bw.inj:∀{xs ys:List V} {us:List Value},Bw xs us→Bw ys us→xs=ys
 |_,_,_,.nil,.nil=>rfl
 |_,_,_,.cons r t,.cons r' t'=>by rw[r.inj r',Bw.inj t t']
section
variable{X:Cx}{pins:List (Addr×Obj)}{σ:St}{H:Hp}{s:Shared}{a:Addr}{xs ys:List V}
theorem Ei.of{K:W.Frag}(h:H a=some (.lst xs)):Ei K H a xs:=.inl (.inl h)
theorem Eb.of{K:W.Frag}(h:H a=some (.tup xs)):Eb K H a xs:=.inl (.inl h)
theorem Inv.list(I:Inv X pins σ H s)(h:Ei X.K H a xs):∃its:List Value,Bw xs its∧PlainL s.heap a its.toArray∧xs.length≤sizeLine:=by
 obtain h|⟨o,its,n,hk,hc,hd,hs,hz,r⟩:=h
 ·obtain⟨z,its,n,r,e⟩:=h.ok I.hok;exact⟨its,r,⟨_,n,e,rfl,rfl,rfl⟩,z⟩
 ·refine⟨its.toList,r,⟨o,n,I.kIn a o hk,hc,hd,by simpa using hs⟩,?_⟩;have e:=r.length;simp only[DO]at e;omega
theorem Inv.tuple(I:Inv X pins σ H s)(h:Eb X.K H a xs):∃its:List Value,Bw xs its∧IsTup s.heap a its.toArray∧xs.length≤sizeLine:=by
 obtain h|⟨o,its,n,hk,hc,hs,hz,r⟩:=h
 ·obtain⟨z,its,r,p⟩:=h.ok I.hok;exact⟨its,r,p,z⟩
 ·refine⟨its.toList,r,⟨o,I.kIn a o hk,hc,n,by simpa using hs⟩,?_⟩;have e:=r.length;simp only[DO]at e;omega
theorem Inv.list_inj(I:Inv X pins σ H s)(h:Ei X.K H a xs)(h':Ei X.K H a ys):xs=ys:=by
 obtain⟨its,r,⟨o,n,e,_,_,d⟩,_⟩:=I.list h;obtain⟨its',r',⟨o',n',e',_,_,d'⟩,_⟩:=I.list h';rw[e]at e';cases e';rw[d]at d';injection d' with d1 _
 have:its=its':=by simpa using congrArg Array.toList d1
 subst this;exact r.inj r'
theorem Inv.tuple_inj(I:Inv X pins σ H s)(h:Eb X.K H a xs)(h':Eb X.K H a ys):xs=ys:=by
 obtain⟨its,r,⟨o,e,_,n,d⟩,_⟩:=I.tuple h;obtain⟨its',r',⟨o',e',_,n',d'⟩,_⟩:=I.tuple h';rw[e]at e';cases e';rw[d]at d';injection d' with d1 _
 have:its=its':=by simpa using congrArg Array.toList d1
 subst this;exact r.inj r'
end
abbrev Cx.wish(X:Cx)(E:Value→Shared→Prop):Cx:={X with xe:=E}
abbrev Cx.nox(X:Cx):Cx:=X.wish fun _ _=>False
theorem Cx.Ok.wish{X:Cx}(ok:X.Ok)(E:Value→Shared→Prop):(X.wish E).Ok:=
 ⟨ok.mod,ok.kind,ok.glob,ok.blt,ok.above,ok.inj,ok.has,ok.cab,ok.hd,ok.frames,ok.stk,ok.exf,ok.bs,ok.bsz,ok.noex,ok.exfs,ok.funs,ok.frf⟩
theorem Cx.Ok.unwish{X:Cx}{E:Value→Shared→Prop}(ok:(X.wish E).Ok):X.Ok:=
 ⟨ok.mod,ok.kind,ok.glob,ok.blt,ok.above,ok.inj,ok.has,ok.cab,ok.hd,ok.frames,ok.stk,ok.exf,ok.bs,ok.bsz,ok.noex,ok.exfs,ok.funs,ok.frf⟩
section
variable{X:Cx}{pins:List (Addr×Obj)}{σ:St}{H:Hp}{s:Shared}{E:Value→Shared→Prop}
theorem Inv.wish(I:Inv X pins σ H s)(E:Value→Shared→Prop):Inv (X.wish E) pins σ H s:=⟨I.ok.wish E,I.os,I.bare,I.base,I.loc,I.cell,I.free,I.freeC,I.pin,I.hok,I.len⟩
theorem Inv.unwish(I:Inv (X.wish E) pins σ H s):Inv X pins σ H s:=⟨I.ok.unwish,I.os,I.bare,I.base,I.loc,I.cell,I.free,I.freeC,I.pin,I.hok,I.len⟩
theorem SP.unwish{D:Ends}{f:Flow}{s':Shared}(h:SP (X.wish E) pins D f s'):SP X pins D f s':=by
 cases f with
 |next=>obtain⟨σ',H',I,q⟩:=h;exact⟨σ',H',I.unwish,q⟩
 |brk=>obtain⟨σ',H',I,q⟩:=h;exact⟨σ',H',I.unwish,q⟩
 |cont=>obtain⟨σ',H',I,q⟩:=h;exact⟨σ',H',I.unwish,q⟩
 |ret u=>obtain⟨v,σ',H',I,r,q⟩:=h;exact⟨v,σ',H',I.unwish,r,q⟩
theorem Mb.nox{st:List Stmt}{t:TS}(h:Mb X.nox st t):Mb X st t:=fun pins s σ H D I hw=>
 BV (h pins s σ H D (I.wish _) hw) (fun _ _ q=>q.unwish) fun _ _ z=>False.elim z
end
section
variable{X:Cx}{st:Stmt}{rest:List Stmt}{t u:TS}{e:Expr}{te:TE}{pos:Pos}
def Tq:TS:=fun D σ H=>D.nx σ H
def Tl(t u:TS):TS:=fun D σ H=>t {D with nx:=u D} σ H
theorem a1e:Mb X [] Tq:=fun _ _ σ H _ I h=>DP ⟨σ,H,I,h⟩
theorem wL(h1:PS X st t)(h2:Mb X rest u):Mb X (st::rest) (Tl t u):=by
 intro pins s σ H D I h;refine wpAny_execs_cons (bX (h1 pins s σ H {D with nx:=u D} I h) fun f s1 q=>?_);cases f with
 |next=>
  obtain⟨σ',H',I',q⟩:=q;exact h2 pins s1 σ' H' D I' q
 |ret v=>exact q
 |brk=>exact q
 |cont=>exact q
theorem tX(h1:PS X st t):Mb X [st] t:=by
 intro pins s σ H D I h;refine wpAny_execs_cons (bX (h1 pins s σ H D I h) fun f s1 q=>?_);cases f with
 |next=>exact DP q
 |ret v=>exact q
 |brk=>exact q
 |cont=>exact q
theorem Inv.quiet{pins:List (Addr×Obj)}{σ:St}{H:Hp}{s:Shared}(I:Inv X pins σ H s):interactive X.env=false:=by simp[interactive,I.ok.kind]
def Tt(te:TE):TS:=fun D σ H=>te σ H fun _ H1=>D.nx σ H1
theorem b1c(he:PE X e te)(hs:swapsWith e none pos.line X.env=pure false:=by rfl):PS X (.Expr e pos) (Tt te):=by
 intro pins s σ H D I h;exact wpAny_Expr_any (bX (he pins s σ H _ I h) fun v s1 ⟨x,H1,I1,r1,q1⟩=>⟨σ,H1,I1,q1⟩) I.quiet hs
def Tn(te:TE):TS:=fun D σ H=>te σ H D.rt
theorem a6g(he:PE X e te):PS X (.Return (some e) pos) (Tn te):=by
 intro pins s σ H D I h;exact wpAny_Return_some (bX (he pins s σ H _ I h) fun v s1 ⟨x,H1,I1,r1,q1⟩=>⟨x,σ,H1,I1,r1,q1⟩)
def Ts(c:TT)(t u:TS):TS:=fun D σ H=>c σ H fun b H1=>if b=true then t D σ H1 else u D σ H1
theorem b4b{c:Expr}{a b:List Stmt}{tc:TT}(hc:PT X c tc)(ha:Mb X a t)(hb:Mb X b u):PS X (.If c a b pos) (Ts tc t u):=by
 intro pins s σ H D I h;refine wpAny_If (bX (hc pins s σ H _ I h) fun d s1 ⟨H1,I1,q1⟩=>?_);cases d with
 |true=>exact ha pins s1 σ H1 D I1 q1
 |false=>exact hb pins s1 σ H1 D I1 q1
end
abbrev TG:=V→St→Hp→(St→Hp→Prop)→Prop
abbrev Sx:=List V→St→Hp→(St→Hp→Prop)→Prop
def PG(X:Cx)(target:Expr)(t:TG):Prop:=
 ∀(pins:List (Addr×Obj)) (s:Shared) (σ:St) (H:Hp) (v:V) (u:Value) (Q:St→Hp→Prop),Inv X pins σ H s→Cg v u→t v σ H Q→
  wpAny (model X.prog X.w) X.A (assign target X.env u) (fun _ s'=>∃σ' H',Inv X pins σ' H' s'∧Q σ' H') X.xe s
def Vk(X:Cx)(ts:List Expr)(t:Sx):Prop:=
 ∀(pins:List (Addr×Obj)) (s:Shared) (σ:St) (H:Hp) (vs:List V) (us:List Value) (Q:St→Hp→Prop),Inv X pins σ H s→Bw vs us→t vs σ H Q→
  wpAny (model X.prog X.w) X.A (assignInOrder ((assignEach ts X.env).map (·.2)) us) (fun _ s'=>∃σ' H',Inv X pins σ' H' s'∧Q σ' H') X.xe s
abbrev Ro:=V→V→V→Hp→(Hp→Prop)→Prop
def Pf(X:Cx)(t:Ro):Prop:=
 ∀(pins:List (Addr×Obj)) (s:Shared) (σ:St) (H:Hp) (o i v:V) (ov iv u:Value) (Q:Hp→Prop),Inv X pins σ H s→Cg o ov→Cg i iv→Cg v u→t o i v H Q→
  wpAny (model X.prog X.w) X.A (setItem ov iv u) (fun _ s'=>∃H',Inv X pins σ H' s'∧Q H') X.xe s
section
variable{X:Cx}{pos:Pos}
def Lm(i:Nat):TG:=fun v σ H Q=>Q (σ.set i (some v)) H
theorem cI{i:Nat}{x:Str}(hN:X.N.Nodup)(hi:X.N[i]?=some x)(hx:Pm X.env.scope x)(hf:X.fn x=true∨X.env.scope.names.lookup x=some .local:=by first|exact .inl rfl|exact .inr rfl|assumption):PG X (.Name x pos) (Lm i):=by
 intro pins s σ H v u Q I r h;exact wpAny_assign_Name (gU I hN hi hx r (fun s' I'=>⟨_,H,I',h⟩) hf)
def Uv:Sx:=fun vs σ H Q=>vs=[]∧Q σ H
def Pz(t:TG)(u:Sx):Sx:=fun vs σ H Q=>∃v r,vs=v::r∧t v σ H fun σ' H'=>u r σ' H' Q
theorem b1i:Vk X [] Uv:=by
 intro pins s σ H vs us Q I r h;obtain⟨e,h⟩:=h;subst e;cases r;exact assignInOrder_nil ⟨σ,H,I,h⟩
theorem wO{e:Expr}{es:List Expr}{t:TG}{u:Sx}(h1:PG X e t)(h2:Vk X es u)
  (hs:(assignEach (e::es) X.env).map (·.2)=assign e X.env::(assignEach es X.env).map (·.2):=by rfl):Vk X (e::es) (Pz t u):=by
 intro pins s σ H vs us Q I r h;obtain⟨v,vr,e1,h⟩:=h;subst e1;cases r with
 |cons r rr=>
  rw[hs];refine assignInOrder_cons (bX (h1 pins s σ H _ _ _ I r h) fun _ s1 ⟨σ1,H1,I1,q1⟩=>?_);exact h2 pins s1 σ1 H1 _ _ Q I1 rr q1
def Uu(K:W.Frag)(n:Nat)(t:Sx):TG:=fun v σ H Q=>∃a xs,v=.ref a∧Eb K H a xs∧xs.length=n∧t xs σ H Q
theorem b5b{es:List Expr}{k:Nat}{t:Sx}{n:Nat}(hc:X.calm=true)(h:Vk X es t)
  (hn:(assignEach es X.env).length=n:=by rfl)(hst:(assignEach es X.env).findIdx? (·.1)=none:=by rfl):PG X (.Tuple es k pos) (Uu X.K n t):=by
 intro pins s σ H v u Q I r hw;obtain⟨a,xs,e1,hq,hl,hw⟩:=hw;subst e1;cases r;obtain⟨its,rv,ht,hz⟩:=I.tuple hq;refine assign_Tuple_tuple (I.ok.hd hc) ht (by simp[hn,←hl,rv.length]) hst fun h' hx=>?_;have I1:Inv X pins σ H {s with heap:=h'}:=I.kept (t':=s.toks) fun b o e=>hx b o (BC (AL e)) e;exact h pins _ σ H xs _ Q I1 (by simpa using rv) hw
def Wh(to ti:TE)(t:Ro):TG:=fun v σ H Q=>to σ H fun o H1=>ti σ H1 fun i H2=>t o i v H2 fun H3=>Q σ H3
theorem a6m{o:Expr}{to ti:TE}{t:Ro}(ho:PE X o to)(hi:PE X i ti)(hs:Pf X t)
  (ha:∀v,assign (.Subscript o i pos) X.env v=(do
   let ov ←holding [v] (eval o X.env)
   let iv ←holding [v,ov] (eval i X.env)
   standAt pos
   holding [v,ov,iv] (setItem ov iv v)
   release [v,ov,iv] []):=by intro _;rfl):PG X (.Subscript o i pos) (Wh to ti t):=by
 intro pins s σ H v u Q I r h;rw[ha];refine AB (BR (bX (ho pins s σ H _ I h) fun ov s1 ⟨x,H1,I1,r1,q1⟩=>?_));refine AB (BR (bX (hi pins s1 σ H1 _ I1 q1) fun iv s2 ⟨y,H2,I2,r2,q2⟩=>?_));refine AB (FB (AB (BR (bX (hs pins s2 σ H2 x y v ov iv u _ I2 r1 r2 r q2) fun _ s3 ⟨H3,I3,q3⟩=>?_))));exact wpAny_release ⟨σ,H3,I3,q3⟩
def Qv(te:TE)(g:TG):TS:=fun D σ H=>te σ H fun x H1=>g x σ H1 D.nx
theorem a6i{tg e:Expr}{te:TE}{g:TG}(he:PE X e te)(hg:PG X tg g)(hs:swapsWithSole [tg] e pos.line X.env=pure false:=by rfl)(hw:swappedStores [tg] e X.env=pure none:=by rfl)
  (h1:(assignEach [tg] X.env).map (·.2)=[assign tg X.env]:=by rfl):PS X (.Assign [tg] e pos) (Qv te g):=by
 intro pins s σ H D I h;refine wpAny_Assign_stores (bX (he pins s σ H _ I h) fun v s1 ⟨x,H1,I1,r1,q1⟩=>?_) hs hw;rw[h1];exact bX (hg pins s1 σ H1 x v _ I1 r1 q1) fun _ s2 q=>q
theorem tY{i:Nat}{x:Str}{e:Expr}{te:TE}(hN:X.N.Nodup)(hi:X.N[i]?=some x)(hx:Pm X.env.scope x)(he:PE X e te)(hs:swapsWith e (some (.Name x pos')) pos.line X.env=pure false:=by rfl)(hf:X.fn x=true∨X.env.scope.names.lookup x=some .local:=by first|exact .inl rfl|exact .inr rfl|assumption):
  PS X (.Assign [.Name x pos'] e pos) (Qv te (Lm i)):=by
 intro pins s σ H D I h;refine wpAny_Assign_Name (bX (he pins s σ H _ I h) fun v s1 ⟨y,H1,I1,r1,q1⟩=>?_) hs;exact gU I1 hN hi hx r1 (fun s2 I2=>⟨_,H1,I2,q1⟩) hf
end
structure It where
 go:Nat→Hp→Prop
 yld:Nat→Hp→V→Hp→Prop
 stop:Nat→Hp→Prop
def Jg(X:Cx)(pins:List (Addr×Obj))(H:Hp)(b:Addr):Prop:=
 H b=none∧b≠X.env.locals∧b∉X.fs∧(b∈X.ex∨X.s₀.heap.objs.size≤b)∧(∀x c,X.env.cells.lookup x=some c→c≠b)∧∀p∈X.pn++pins,p.1≠b
theorem Inv.fpOk{X:Cx}{pins:List (Addr×Obj)}{σ:St}{H H':Hp}{s:Shared}{b:Addr}(I:Inv X pins σ H s)(hb:s.heap.objs.size≤b)(hn:H' b=none):Jg X pins H' b:=by
 refine⟨hn,DJ (AV I.lt hb),I.nofs hb,.inr (BG I.sz hb),fun x c e z=>?_,fun p hp z=>?_⟩
 ·obtain⟨v,q⟩:=I.cell x c e;exact absurd (AV q.lt (by rw[z];exact hb)) (EE _)
 ·exact absurd (AV (AL (I.pin p hp).1) (by rw[z];exact hb)) (EE _)
structure Ms(P:Program)(w:World)(K:W.Frag)(tg:Expr)(J:It)(fp:List Addr)(it:Addr)(tn:Nat→Heap→Prop):Prop where
 mem:it∈fp
 obj:∀i h,tn i h→∀b∈fp,∃o,h.get? b=some o∧∀v,o.data≠.cell v
 keep:∀i h h',tn i h→(∀b∈fp,∀o,h.get? b=some o→h'.get? b=some o)→tn i h'
 item:∀(X:Cx),X.prog=P→X.w=w→X.K=K→X.calm=true→∀(i:Nat) (pins:List (Addr×Obj)) (s:Shared) (σ:St) (H:Hp) (E:Value→Shared→Prop),Inv X pins σ H s→(∀b∈fp,Jg X pins H b)→tn i s.heap→J.go i H→
  wpAny (model P w) X.A (pyNext (.ref it)) (fun r s1=>∃u,r=some u∧
   wpAny (model P w) X.A (letOwnedTupleGo tg (.ref it) u) (fun _ s2=>∃x H',Inv X pins σ H' s2∧Cg x u∧J.yld i H x H'∧tn (i+1) s2.heap∧∀b∈fp,H' b=none) E s1) E s
 done:∀(X:Cx),X.prog=P→X.w=w→X.K=K→X.calm=true→∀(i:Nat) (pins:List (Addr×Obj)) (s:Shared) (σ:St) (H:Hp) (E:Value→Shared→Prop),Inv X pins σ H s→(∀b∈fp,Jg X pins H b)→tn i s.heap→J.stop i H→
  wpAny (model P w) X.A (pyNext (.ref it)) (fun r s1=>r=none∧Inv X pins σ H s1) E s
 self:∀(A:Around) (i:Nat) (s:Shared) (Q:Value→Shared→Prop) (E:Value→Shared→Prop),tn i s.heap→Q (.ref it) s→wpAny (model P w) A (pyIter (.ref it)) Q E s
abbrev TI:=St→Hp→(It→Hp→Prop)→Prop
def Wk(X:Cx)(pins:List (Addr×Obj))(σ:St)(tg:Expr)(R:It→Hp→Prop)(itv:Value)(s2:Shared):Prop:=
 ∃(it:Addr) (fp:List Addr) (tn:Nat→Heap→Prop) (J:It) (H':Hp),itv=.ref it∧Inv X pins σ H' s2∧Ms X.prog X.w X.K tg J fp it tn∧tn 0 s2.heap∧(∀b∈fp,Jg X pins H' b)∧R J H'
def PI(X:Cx)(tg iter:Expr)(wi:TI):Prop:=
 ∀(pins:List (Addr×Obj)) (s:Shared) (σ:St) (H:Hp) (R:It→Hp→Prop),Inv X pins σ H s→wi σ H R→
  wpAny (model X.prog X.w) X.A (eval iter X.env) (fun v s1=>wpAny (model X.prog X.w) X.A (pyIter v) (Wk X pins σ tg R) X.xe s1) X.xe s
theorem a8t{M:Model}{A:Around}{E:Value→Shared→Prop}{s:Shared}{tg:Expr}{u:Value}{o:Obj}{n:String}{vs:Array Value}{Q:Unit→Shared→Prop}(ho:s.heap.get? it=some o)(hc:o.cls=.type n)(hd:o.data=.fields vs)
  (hn:["enumerate","zip","dict_itemiterator","dict_reverseitemiterator","odict_iterator","itertools.zip_longest","itertools.pairwise"].contains n=false)(hQ:Q () s):wpAny M A (letOwnedTupleGo tg (.ref it) u) Q E s:=by
 unfold letOwnedTupleGo;cases tg<;>first
  |exact AG hQ
  |(cases u<;>first
    |exact AG hQ
    |(refine AB (wpAny_load ho ?_);rw[hc,hd];show wpAny M A (if(["enumerate","zip","dict_itemiterator","dict_reverseitemiterator","odict_iterator","itertools.zip_longest","itertools.pairwise"].contains n&&vs[0]?==some (rawInt _))=true then _ else _) Q E s;rw[AR (by intro h;rw[hn,GK]at h;cases h)];exact AG hQ))
def Wm(K:W.Frag)(a:Addr):It:=
 ⟨fun i H=>∃xs x,Ei K H a xs∧xs[i]?=some x,fun i H x H'=>H'=H∧∀xs,Ei K H a xs→xs[i]?=some x,fun i H=>∃xs,Ei K H a xs∧xs.length≤i⟩
def Wl(K:W.Frag)(a:Addr):It:=
 ⟨fun i H=>∃xs x,Eb K H a xs∧xs[i]?=some x,fun i H x H'=>H'=H∧∀xs,Eb K H a xs→xs[i]?=some x,fun i H=>∃xs,Eb K H a xs∧xs.length≤i⟩
def Vp(lo:Int)(n:Nat):It:=⟨fun i _=>i<n,fun i H x H'=>H'=H∧x=.int (lo+i),fun i _=>n≤i⟩
theorem a2s{P:Program}{w:World}{K:W.Frag}{tg:Expr}(a it:Addr):Ms P w K tg (Wm K a) [it] it (fun i h=>h.IsListIter it a i) where
 mem:=by simp
 obj:=fun i h st b hb=>by
  have e:b=it:=by simpa using hb
  subst e;obtain⟨o,e,c,d⟩:=st;exact⟨o,e,fun v z=>by rw[d]at z;cases z⟩
 keep:=fun i h h' st k=>st.at fun o e=>k it (by simp) o e
 item:=by
  intro X hP hw hK hc i pins s σ H E I hf st hg;subst hP hw hK;obtain⟨xs,x,hq,hx⟩:=hg;obtain⟨its,rv,p,hz⟩:=I.list hq;obtain⟨u,hu,ru⟩:=rv.get hx;obtain⟨f0,f1,f2,f3,f4,f5⟩:=hf it (by simp);refine wpAny_pyNext_list_item st p.isList (x:=u) (by simpa using hu) fun h' st' sb=>?_;have I1:Inv X pins σ H {s with heap:=h'}:=I.turned (t':=s.toks) (fun b o hb e=>(sb.2 b hb).trans e) f0 f1 f3 f4 f5;obtain⟨o,e,c,d⟩:=id st';exact⟨u,rfl,a8t (s:={s with heap:=h'}) e c d (by decide) ⟨x,H,I1,ru,⟨rfl,fun ys hy=>by rw[I.list_inj hy hq];exact hx⟩,st',fun b hb=>(hf b hb).1⟩⟩
 done:=by
  intro X hP hw hK hc i pins s σ H E I hf st hg;subst hP hw hK;obtain⟨xs,hq,hx⟩:=hg;obtain⟨its,rv,p,hz⟩:=I.list hq;obtain⟨f0,f1,f2,f3,f4,f5⟩:=hf it (by simp);have hl:=rv.length;exact wpAny_pyNext_list_end (I.ok.hd hc) st p.isList (by simp;omega) fun h' eb=>⟨rfl,I.turned (t':=s.toks) (fun b o hb e=>eb b o hb e) f0 f1 f3 f4 f5⟩
 self:=fun _ _ _ _ _ st h=>wpAny_pyIter_listiter st h
theorem yI{P:Program}{w:World}{K:W.Frag}{tg:Expr}(a it:Addr):Ms P w K tg (Wl K a) [it] it (fun i h=>h.IsTupleIter it a i) where
 mem:=by simp
 obj:=fun i h st b hb=>by
  have e:b=it:=by simpa using hb
  subst e;obtain⟨o,e,c,d⟩:=st;exact⟨o,e,fun v z=>by rw[d]at z;cases z⟩
 keep:=fun i h h' st k=>st.at fun o e=>k it (by simp) o e
 item:=by
  intro X hP hw hK hc i pins s σ H E I hf st hg;subst hP hw hK;obtain⟨xs,x,hq,hx⟩:=hg;obtain⟨its,rv,p,hz⟩:=I.tuple hq;obtain⟨u,hu,ru⟩:=rv.get hx;obtain⟨f0,f1,f2,f3,f4,f5⟩:=hf it (by simp);refine wpAny_pyNext_tuple_item st (show s.heap.IsTuple a its.toArray from p) (x:=u) (by simpa using hu) fun h' st' sb=>?_;have I1:Inv X pins σ H {s with heap:=h'}:=I.turned (t':=s.toks) (fun b o hb e=>(sb.2 b hb).trans e) f0 f1 f3 f4 f5;obtain⟨o,e,c,d⟩:=id st';exact⟨u,rfl,a8t (s:={s with heap:=h'}) e c d (by decide) ⟨x,H,I1,ru,⟨rfl,fun ys hy=>by rw[I.tuple_inj hy hq];exact hx⟩,st',fun b hb=>(hf b hb).1⟩⟩
 done:=by
  intro X hP hw hK hc i pins s σ H E I hf st hg;subst hP hw hK;obtain⟨xs,hq,hx⟩:=hg;obtain⟨its,rv,p,hz⟩:=I.tuple hq;obtain⟨f0,f1,f2,f3,f4,f5⟩:=hf it (by simp);have hl:=rv.length;exact wpAny_pyNext_tuple_end (I.ok.hd hc) st (show s.heap.IsTuple a its.toArray from p) (by simp;omega) fun h' eb=>⟨rfl,I.turned (t':=s.toks) (fun b o hb e=>eb b o hb e) f0 f1 f3 f4 f5⟩
 self:=fun _ _ _ _ _ st h=>wpAny_pyIter_tupleiter st h
theorem yJ{P:Program}{w:World}{K:W.Frag}{tg:Expr}(it:Addr)(lo:Int)(n:Nat):Ms P w K tg (Vp lo n) [it] it (fun i h=>IsRangeIter h it (lo+(i:Nat)*1) ((n:Int) - (i:Nat)) 1) where
 mem:=by simp
 obj:=fun i h st b hb=>by
  have e:b=it:=by simpa using hb
  subst e;exact⟨_,st,fun v z=>by
   have z':Data.fields _=Data.cell v:=z;cases z'⟩
 keep:=fun i h h' st k=>k it (by simp) _ st
 item:=by
  intro X hP hw hK hc i pins s σ H E I hf st hg;subst hP hw hK;obtain⟨f0,f1,f2,f3,f4,f5⟩:=hf it (by simp);have W:=Walks.range (prog:=X.prog) (w:=X.w) (I.ok.hd hc) it lo 1 n;refine W.item i s _ _ hg st fun v h' tk hv st' kk=>?_;obtain⟨t,rfl⟩:=hv;have I1:Inv X pins σ H {s with heap:=h',toks:=tk}:=I.turned (fun b o hb e=>kk b o (by simpa using hb) e) f0 f1 f3 f4 f5;refine⟨_,rfl,a8t (s:={s with heap:=h',toks:=tk}) (n:="range_iterator") st' rfl rfl (by decide) ⟨.int (lo+i),H,I1,⟨t,?_⟩,⟨rfl,rfl⟩,st',fun b hb=>(hf b hb).1⟩⟩;rw[Int.mul_one]
 done:=by
  intro X hP hw hK hc i pins s σ H E I hf st hg;subst hP hw hK;obtain⟨f0,f1,f2,f3,f4,f5⟩:=hf it (by simp);exact wpAny_pyNext_range_end (I.ok.hd hc) st (by have:n≤i:=hg;omega) fun h' eb=>⟨rfl,I.turned (t':=s.toks) (fun b o hb e=>eb b o hb e) f0 f1 f3 f4 f5⟩
 self:=fun _ _ _ _ _ st h=>wpAny_pyIter_rangeiter st h
end L2
namespace L2
open PySem PySem.Spec PyProof.Rows
section
variable{X:Cx}{tg:Expr}
def Ut(K:W.Frag)(tl:TE):TI:=fun σ H R=>tl σ H fun x H1=>∃a,x=.ref a∧(∃xs,Ei K H1 a xs)∧R (Wm K a) H1
def Lr(K:W.Frag)(tl:TE):TI:=fun σ H R=>tl σ H fun x H1=>∃a,x=.ref a∧(∃xs,Eb K H1 a xs)∧R (Wl K a) H1
theorem b1h{l:Expr}{tl:TE}(hl:PE X l tl):PI X tg l (Ut X.K tl):=by
 intro pins s σ H R I h;refine bX (hl pins s σ H _ I h) fun v s1 ⟨x,H1,I1,r1,q1⟩=>?_;obtain⟨a,e,⟨xs,hq⟩,q⟩:=q1;subst e;cases r1;obtain⟨its,rv,p,hz⟩:=I1.list hq;refine wpAny_pyIter_list p.isList ?_;refine⟨s1.heap.objs.size,[s1.heap.objs.size],_,_,H1,rfl,I1.kept (t':=s1.toks) fun b o e=>AD _ e,a2s a _,⟨_,BA _ rfl,rfl,rfl⟩,fun b hb=>?_,q⟩;have e:b=s1.heap.objs.size:=by simpa using hb
 subst e;exact I1.fpOk (AU _) (I1.hok.fresh (AU _))
theorem b4z{l:Expr}{tl:TE}(hl:PE X l tl):PI X tg l (Lr X.K tl):=by
 intro pins s σ H R I h;refine bX (hl pins s σ H _ I h) fun v s1 ⟨x,H1,I1,r1,q1⟩=>?_;obtain⟨a,e,⟨xs,hq⟩,q⟩:=q1;subst e;cases r1;obtain⟨its,rv,p,hz⟩:=I1.tuple hq;refine HD (show s1.heap.IsTuple a its.toArray from p) ?_;refine⟨s1.heap.objs.size,[s1.heap.objs.size],_,_,H1,rfl,I1.kept (t':=s1.toks) fun b o e=>AD _ e,yI a _,⟨_,BA _ rfl,rfl,rfl⟩,fun b hb=>?_,q⟩;have e:b=s1.heap.objs.size:=by simpa using hb
 subst e;exact I1.fpOk (AU _) (I1.hok.fresh (AU _))
theorem a6c{pins:List (Addr×Obj)}{σ:St}{H:Hp}{s:Shared}{R:It→Hp→Prop}{E:Value→Shared→Prop}{lo hi:Int}{t u v:Tok}{tk:Nat}(I:Inv X pins σ H s)(h1:-(2 ^ 62)≤lo)(h2:lo<2 ^ 62)(h3:-(2 ^ 62)≤hi)(h4:hi<2 ^ 62)
  (q:R (Vp lo (hi - lo).toNat) H):wpAny (model X.prog X.w) X.A (pyIter (.ref s.heap.objs.size)) (Wk X pins σ tg R) E {s with heap:=s.heap.push {cls:=.type "range",data:=.fields #[.int lo t,.int hi u,.int 1 v]},toks:=tk}:=by
 refine wpAny_pyIter_range (IsRange.new ..) (small_one h1 h2 h3 h4) ?_;have I1:Inv X pins σ H {s with heap:=s.heap.push {cls:=.type "range",data:=.fields #[.int lo t,.int hi u,.int 1 v]},toks:=tk}:=I.kept fun b o e=>AD _ e;refine⟨(s.heap.push {cls:=.type "range",data:=.fields #[.int lo t,.int hi u,.int 1 v]}).objs.size,[(s.heap.push {cls:=.type "range",data:=.fields #[.int lo t,.int hi u,.int 1 v]}).objs.size],_,_,H,rfl,
  I1.kept (t':=tk) fun b o e=>AD _ e,yJ _ lo (hi - lo).toNat,?_,fun b hb=>?_,q⟩
 ·have e1:lo+((0:Nat):Int)*1=lo:=by simp
  have e2:(((hi - lo).toNat:Nat):Int) - ((0:Nat):Int)=Builtin.Range.rangeSize lo hi 1:=by rw[rangeSize_one];split<;>omega
  show IsRangeIter _ _ (lo+((0:Nat):Int)*1) ((((hi - lo).toNat:Nat):Int) - ((0:Nat):Int)) 1;rw[e1,e2];exact BA _ rfl
 ·have e:b=(s.heap.push {cls:=.type "range",data:=.fields #[.int lo t,.int hi u,.int 1 v]}).objs.size:=by simpa using hb
  subst e;exact I1.fpOk (AU _) (I1.hok.fresh (AU _))
def Us(ta:TA):TI:=fun σ H R=>ta σ H fun vs H1=>∃j:Int,vs=[.int j]∧-(2 ^ 62)≤j∧j<2 ^ 62∧R (Vp 0 j.toNat) H1
theorem a3i{a:Expr}{ta:TA}{p pos:Pos}(hg:Gl X "range")(hm:X.mg "range"=none)(ha:PA X [a] ta)(hs:starEach [a] X.env=[(false,eval a X.env)]:=by rfl):PI X tg (.Call (.Name "range" p) [a] [] pos) (Us ta):=by
 intro pins s σ H R I h;refine Call_ (iG I hg hm boot_range (FE (bX (ha pos pins s σ H _ I h) fun us s1 ⟨vs,H1,I1,r1,q1⟩=>?_) hs rfl));obtain⟨j,e,q1,q2,q⟩:=q1;subst e;cases r1 with
 |cons r rr=>
  cases rr;obtain⟨t,rfl⟩:=r;exact call_range_1 (a6c I1 (by omega) (by omega) q1 q2 (by simpa using q))
def Vx(wi:TI)(g:TG)(tb:TS):TS:=fun D σ H=>wi σ H fun J H1=>∃W:Nat→Nat→St→Hp→Prop,(∃m,W 0 m σ H1)∧∀i m σ H,W i m σ H→
 (J.stop i H∧D.nx σ H)∨(J.go i H∧∃N:St→Hp→Prop,(∀σ' H',N σ' H'→∃m',m'<m∧W (i+1) m' σ' H')∧∀x H',J.yld i H x H'→g x σ H' fun σ2 H2=>tb {D with nx:=N,ct:=N,bk:=D.nx} σ2 H2)
def Jl(fp:List Addr)(h:Heap):List (Addr×Obj):=fp.filterMap fun b=>(h.get? b).map fun o=>(b,o)
theorem dP{fp:List Addr}{h:Heap}{b:Addr}{o:Obj}(hb:b∈fp)(e:h.get? b=some o):(b,o)∈Jl fp h:=ER.mpr ⟨b,hb,by rw[e];rfl⟩
theorem a3v{fp:List Addr}{h:Heap}{p:Addr×Obj}(hp:p∈Jl fp h):p.1∈fp∧h.get? p.1=some p.2:=by
 obtain⟨b,hb,e⟩:=ER.mp hp;cases q:h.get? b with
 |none=>rw[q]at e;cases e
 |some o=>
  rw[q]at e;have e':(b,o)=p:=BJ e;subst e';exact⟨hb,q⟩
theorem Inv.pinned{pins:List (Addr×Obj)}{σ:St}{H:Hp}{s:Shared}{fp:List Addr}(I:Inv X pins σ H s)(hf:∀b∈fp,Jg X pins H b)(ho:∀b∈fp,∃o,s.heap.get? b=some o∧∀v,o.data≠.cell v):Inv X (pins++Jl fp s.heap) σ H s:=
 I.pins_of fun p hp=>(AZ.mp hp).elim (fun z=>I.pin p (AX _ z)) fun z=>by
  obtain⟨hb,e⟩:=a3v z;obtain⟨f0,f1,f2,_⟩:=hf p.1 hb;obtain⟨o,e',d⟩:=ho p.1 hb;rw[e]at e';cases e';exact⟨e,f0,f1,f2,d⟩
theorem Inv.unpinned{pins pl:List (Addr×Obj)}{σ:St}{H:Hp}{s:Shared}(I:Inv X (pins++pl) σ H s):Inv X pins σ H s:=I.pins_of fun p hp=>I.pin p (AX _ (BE _ hp))
theorem b4x{body:List Stmt}{wi:TI}{g:TG}{tb:TS}{pos:Pos}(hp:PassesOwn (model X.prog X.w) X.A X.env X.xe)(hc:X.calm=true)(hi:PI X tg iter wi)(hg:PG X tg g)(hb:Mb X body tb)
  (hs:∀x,foldedSetIterable iter X.env x=pure x:=by intro _;rfl):PS X (.For tg iter body [] pos) (Vx wi g tb):=by
 intro pins s σ H D I h;refine wpAny_For (bX (hi pins s σ H _ I h) fun v s1 h1=>bX h1 fun itv s2 h2=>?_) hs;obtain⟨it,fp,tn,J,H2,e,I2,T,st2,f2,W,⟨m0,w0⟩,turn⟩:=h2;subst e;have stat:∀{H':Hp},(∀b∈fp,H' b=none)→∀b∈fp,Jg X pins H' b:=fun hn b hb=>⟨hn b hb,(f2 b hb).2⟩;refine codeAny_forLoop_any (fun n s'=>∃i σ' H',Inv X pins σ' H' s'∧tn i s'.heap∧(∀b∈fp,H' b=none)∧W i n σ' H') ?_ m0 ⟨0,σ,H2,I2,st2,fun b hb=>(f2 b hb).1,w0⟩;rintro n s3 ⟨i,σ3,H3,I3,st3,fr3,w3⟩;obtain⟨stop,qn⟩|⟨go,N,hN,step⟩:=turn i n σ3 H3 w3
 ·refine FJ hp (bX (T.done X rfl rfl rfl hc i pins s3 σ3 H3 X.xe I3 (stat fr3) st3 stop) fun r s4 ⟨hr,I4⟩=>?_);subst hr;exact DP ⟨σ3,H3,I4,qn⟩
 ·refine FJ hp (bX (T.item X rfl rfl rfl hc i pins s3 σ3 H3 X.xe I3 (stat fr3) st3 go) fun r s4 ⟨u,hr,h4⟩=>?_);subst hr;refine FJ hp (bX h4 fun _ s5 ⟨x,H5,I5,r5,y5,st5,fr5⟩=>?_);have I5':=I5.pinned (stat fr5) (T.obj _ _ st5);refine FJ hp (bX (hg _ s5 σ3 H5 x u _ I5' r5 (step x H5 y5)) fun _ s6 ⟨σ6,H6,I6,q6⟩=>?_);refine FJ hp (bX (hb _ s6 σ6 H6 _ I6 q6) fun f s7 q7=>?_);have again:∀{σ7:St} {H7:Hp},Inv X (pins++Jl fp s5.heap) σ7 H7 s7→N σ7 H7→∃m,m<n∧∃i σ' H',Inv X pins σ' H' s7∧tn i s7.heap∧(∀b∈fp,H' b=none)∧W i m σ' H':=fun{σ7 H7} I7 n7=>by
   obtain⟨m',hm,w7⟩:=hN σ7 H7 n7;refine⟨m',hm,i+1,σ7,H7,I7.unpinned,T.keep _ _ _ st5 fun b hb o e=>(I7.pin (b,o) (AX _ (AX _ (dP hb e)))).1,fun b hb=>?_,w7⟩;obtain⟨o,e,d⟩:=T.obj _ _ st5 b hb;exact(I7.pin (b,o) (AX _ (AX _ (dP hb e)))).2.1
  cases f with
  |next=>obtain⟨σ7,H7,I7,n7⟩:=q7;exact again I7 n7
  |cont=>obtain⟨σ7,H7,I7,n7⟩:=q7;exact again I7 n7
  |brk=>obtain⟨σ7,H7,I7,q7⟩:=q7;exact⟨σ7,H7,I7.unpinned,q7⟩
  |ret v=>obtain⟨x7,σ7,H7,I7,r7,q7⟩:=q7;exact⟨x7,σ7,H7,I7.unpinned,r7,q7⟩
end
end L2
namespace L2
open PySem PySem.Spec PyProof.Rows
abbrev R2:=V→V→Hp→VK→Prop
def Es(X:Cx)(f:Value→Value→Sem Value)(r:R2):Prop:=
 ∀(pins:List (Addr×Obj)) (s:Shared) (σ:St) (H:Hp) (x y:V) (v u:Value) (Q:VK),Inv X pins σ H s→Cg x v→Cg y u→r x y H Q→
  wpAny (model X.prog X.w) X.A (f v u) (EP X pins σ Q) X.xe s
def Ej(X:Cx)(f:Value)(r:List V→Hp→VK→Prop):Prop:=
 ∀(pins:List (Addr×Obj)) (s:Shared) (σ:St) (H:Hp) (xs:List V) (us:List Value) (Q:VK),Inv X pins σ H s→Bw xs us→r xs H Q→
  wpAny (model X.prog X.w) X.A (call f us) (EP X pins σ Q) X.xe s
def Wj(X:Cx)(r:V→Hp→(Bool→Hp→Prop)→Prop):Prop:=
 ∀(pins:List (Addr×Obj)) (s:Shared) (σ:St) (H:Hp) (x:V) (v:Value) (Q:Bool→Hp→Prop),Inv X pins σ H s→Cg x v→r x H Q→
  wpAny (model X.prog X.w) X.A (truthy v) (TP X pins σ Q) X.xe s
def Sn(r:R2)(ta tb:TE):TE:=fun σ H Q=>ta σ H fun x H1=>tb σ H1 fun y H2=>r x y H2 Q
def rI(C:Int→Int→Prop)(g:Int→Int→V):R2:=fun x y H Q=>∃i j,x=.int i∧y=.int j∧C i j∧Q (g i j) H
def Mo(g:Int→Int→V):R2:=fun x y H Q=>∃i j,x=.int i∧y=.int j∧Q (g i j) H
section
variable{X:Cx}{a b c:Expr}{ta tb tc:TE}{pos:Pos}
theorem b7s(ha:PE X a ta)(hb:PE X b tb){pins:List (Addr×Obj)}{s:Shared}{σ:St}{H:Hp}{R:V→V→Hp→Prop}(I:Inv X pins σ H s)
  (h:ta σ H fun x H1=>tb σ H1 fun y H2=>R x y H2){Q:Value→Shared→Prop}{f:Value→Value→Sem Value}
  (hf:∀v u s2 x y H2,Inv X pins σ H2 s2→Cg x v→Cg y u→R x y H2→wpAny (model X.prog X.w) X.A (f v u) Q X.xe s2):
  wpAny (model X.prog X.w) X.A (eval a X.env) (fun v s₁=>wpAny (model X.prog X.w) X.A (eval b X.env) (fun u s₂=>wpAny (model X.prog X.w) X.A (f v u) Q X.xe s₂) X.xe s₁) X.xe s:=by
 refine bX (ha pins s σ H _ I h) fun v s1 ⟨x,H1,I1,r1,q1⟩=>?_;refine bX (hb pins s1 σ H1 _ I1 q1) fun u s2 ⟨y,H2,I2,r2,q2⟩=>?_;exact hf v u s2 x y H2 I2 r1 r2 q2
theorem a6o{op:Operator}{r:R2}(ho:Es X (binaryOp op) r)(ha:PE X a ta)(hb:PE X b tb):PE X (.BinOp a op b pos) (Sn r ta tb):=by
 intro pins s σ H Q I h;exact wpAny_BinOp (b7s ha hb I h fun v u s2 x y H2 I2 rx ry q=>ho pins s2 σ H2 x y v u Q I2 rx ry q)
theorem opI{f:Value→Value→Sem Value}{C:Int→Int→Prop}{g:Int→Int→Int}
  (rule:∀(i j:Int) (t u:Tok) (s:Shared) (Q:Value→Shared→Prop) (E:Value→Shared→Prop),C i j→Q (.int (g i j) s.toks) {s with toks:=s.toks+1}→wpAny (model X.prog X.w) X.A (f (.int i t) (.int j u)) Q E s):
  Es X f (rI C fun i j=>.int (g i j)):=by
 intro pins s σ H x y v u Q I rx ry h;obtain⟨i,j,rfl,rfl,hc,q⟩:=h;obtain⟨t,rfl⟩:=rx;obtain⟨t',rfl⟩:=ry;exact rule i j t t' s _ _ hc ⟨.int (g i j),H,I.tok _,⟨_,rfl⟩,q⟩
theorem b8j{f:Value→Value→Sem Value}{g:Int→Int→Int}
  (rule:∀(i j:Int) (t u:Tok) (s:Shared) (Q:Value→Shared→Prop) (E:Value→Shared→Prop),Q (.int (g i j) s.toks) {s with toks:=s.toks+1}→wpAny (model X.prog X.w) X.A (f (.int i t) (.int j u)) Q E s):
  Es X f (Mo fun i j=>.int (g i j)):=by
 intro pins s σ H x y v u Q I rx ry h;obtain⟨i,j,rfl,rfl,q⟩:=h;obtain⟨t,rfl⟩:=rx;obtain⟨t',rfl⟩:=ry;exact rule i j t t' s _ _ ⟨.int (g i j),H,I.tok _,⟨_,rfl⟩,q⟩
theorem b1t{f:Value→Value→Sem Value}{g:Int→Int→Bool}
  (rule:∀(i j:Int) (t u:Tok) (s:Shared) (Q:Value→Shared→Prop) (E:Value→Shared→Prop),Q (.bool (g i j)) s→wpAny (model X.prog X.w) X.A (f (.int i t) (.int j u)) Q E s):
  Es X f (Mo fun i j=>.bl (g i j)):=by
 intro pins s σ H x y v u Q I rx ry h;obtain⟨i,j,rfl,rfl,q⟩:=h;obtain⟨t,rfl⟩:=rx;obtain⟨t',rfl⟩:=ry;exact rule i j t t' s _ _ ⟨.bl (g i j),H,I,rfl,q⟩
def Tb(i j:Int):Prop:=0<j∧j<1073741824
def Ta(i j:Int):Prop:=0≤j∧j≤1000000∧i.natAbs<2 ^ 64
def Qi(i j:Int):Prop:=(-(2 ^ 64)<i∧i<2 ^ 64)∨(-(2 ^ 64)<j∧j<2 ^ 64)
theorem Qi.ok{i j:Int}(h:Qi i j):IntMulOk i j:=by
 obtain⟨h1,h2⟩|⟨h1,h2⟩:=h
 ·exact .of_left (intBits_le_64 h1 h2)
 ·exact .of_right (intBits_le_64 h1 h2)
theorem b5n:Es X (binaryOp .Add) (Mo fun i j=>.int (i+j)):=b8j fun _ _ _ _ _ _ _ q=>add_int q
theorem a7a:Es X (binaryOp .Sub) (Mo fun i j=>.int (i - j)):=b8j fun _ _ _ _ _ _ _ q=>sub_int q
theorem lY:Es X (binaryOp .Mult) (rI Qi fun i j=>.int (i*j)):=opI fun _ _ _ _ _ _ _ hc q=>mul_int q hc.ok
theorem jB:Es X (binaryOp .FloorDiv) (rI Tb fun i j=>.int (i / j)):=opI fun i j _ _ _ _ _ hc q=>by
 have h1:(0:Int)<j:=hc.1;have h2:j<1073741824:=hc.2;exact floordiv_int (by omega) (by rw[Int.fdiv_eq_ediv_of_nonneg i (by omega)];exact q) (.inl (PyProof.noPylong_small (by omega)))
theorem cA:Es X (binaryOp .Mod) (rI (fun _ j=>0<j) fun i j=>.int (i%j)):=opI fun i j _ _ _ _ _ hc q=>by
 have h1:(0:Int)<j:=hc;exact mod_int' (by omega) (by rw[Int.fmod_eq_emod_of_nonneg i (by omega)];exact q)
theorem b5i:Es X (binaryOp .Pow) (rI Ta fun i j=>.int (i ^ j.toNat)):=opI fun _ _ _ _ _ _ _ hc q=>pow_int_small hc.1 hc.2.1 hc.2.2 q
end
def Wa:V→V→Bool
 |.non,.non=>true|.non,.int _=>true|.int _,.non=>true|.non,.bl _=>true|.bl _,.non=>true|.non,.str _=>true|.str _,.non=>true
 |.int _,.int _=>true|.bl _,.bl _=>true|.str _,.str _=>true|.byt _,.byt _=>true
 |.int _,.str _=>true|.str _,.int _=>true|.bl _,.str _=>true|.str _,.bl _=>true
 |_,_=>false
def Wv:R2:=fun x y H Q=>Wa x y=true∧Q (.bl (!decide (x=y))) H
theorem a2h{i j:Int}:decide (V.int i=V.int j)=(i==j):=by
 rw[DH];simp
theorem b7g{i j:Bool}:decide (V.bl i=V.bl j)=(i==j):=by
 rw[DH];simp
theorem a2g:decide (V.str i=V.str j)=(i==j):=by
 rw[DH];simp
theorem b3n{i j:Array UInt8}:decide (V.byt i=V.byt j)=(i.toList==j.toList):=by
 rw[DH];cases i;cases j;simp
section
variable{X:Cx}{a b c:Expr}{ta tb tc:TE}{pos:Pos}
theorem cK{pins:List (Addr×Obj)}{σ:St}{H:Hp}{s:Shared}{Q:VK}{k k':Bool}(I:Inv X pins σ H s)(q:Q (.bl k) H)(e:k=k'):EP X pins σ Q (.bool k') s:=by
 subst e;exact⟨.bl k,H,I,rfl,q⟩
theorem sG:Es X (compareOp .NotEq) Wv:=by
 intro pins s σ H x y v u Q I rx ry h;obtain⟨hs,q⟩:=h;cases x with
 |non=>
  cases rx;cases y with
  |non=>cases ry;exact PySem.EqNone.ne_none_none (cK I q (by simp))
  |bl j=>cases ry;exact PySem.EqNone.ne_none_bool (cK I q (by simp))
  |int j=>obtain⟨t',rfl⟩:=ry;exact PySem.EqNone.ne_none_int (cK I q (by simp))
  |str j=>obtain⟨t',rfl⟩:=ry;exact PySem.EqNone.ne_none_str (cK I q (by simp))
  |_=>exact absurd (show false=true from hs) BB
 |bl i=>
  cases rx;cases y with
  |non=>cases ry;exact PySem.EqNone.ne_bool_none (cK I q (by simp))
  |bl j=>cases ry;exact ne_bool (cK I q (congrArg not b7g))
  |str j=>obtain⟨t',rfl⟩:=ry;exact PySem.EqMixed.ne_bool_str (cK I q (by simp))
  |_=>exact absurd (show false=true from hs) BB
 |int i=>
  obtain⟨t,rfl⟩:=rx;cases y with
  |non=>cases ry;exact PySem.EqNone.ne_int_none (cK I q (by simp))
  |int j=>obtain⟨t',rfl⟩:=ry;exact ne_int (cK I q (congrArg not a2h))
  |str j=>obtain⟨t',rfl⟩:=ry;exact PySem.EqMixed.ne_int_str (cK I q (by simp))
  |_=>exact absurd (show false=true from hs) BB
 |str i=>
  obtain⟨t,rfl⟩:=rx;cases y with
  |non=>cases ry;exact PySem.EqNone.ne_str_none (cK I q (by simp))
  |bl j=>cases ry;exact PySem.EqMixed.ne_str_bool (cK I q (by simp))
  |int j=>obtain⟨t',rfl⟩:=ry;exact PySem.EqMixed.ne_str_int (cK I q (by simp))
  |str j=>obtain⟨t',rfl⟩:=ry;exact ne_str (cK I q (congrArg not a2g))
  |_=>exact absurd (show false=true from hs) BB
 |byt i=>
  obtain⟨t,rfl⟩:=rx;cases y with
  |byt j=>obtain⟨t',rfl⟩:=ry;exact W.ne_bytes (cK I q (congrArg not b3n))
  |_=>exact absurd (show false=true from hs) BB
 |_=>cases y<;>exact absurd (show false=true from hs) BB
theorem a7c:Es X (compareOp .Lt) (Mo fun i j=>.bl (decide (i<j))):=b1t fun _ _ _ _ _ _ _ q=>lt_int q
theorem b8g:Es X (compareOp .LtE) (Mo fun i j=>.bl (decide (i≤j))):=b1t fun _ _ _ _ _ _ _ q=>le_int q
theorem b8h:Es X (compareOp .Gt) (Mo fun i j=>.bl (decide (j<i))):=b1t fun _ _ _ _ _ _ _ q=>gt_int q
theorem b8i:Es X (compareOp .GtE) (Mo fun i j=>.bl (decide (j≤i))):=b1t fun _ _ _ _ _ _ _ q=>ge_int q
theorem a3o:Es X (compareOp .In) (fun x y H Q=>∃i j,x=.str i∧y=.str j∧Q (.bl (!(Builtin.Str.occurrences j i 0 j.length 1).isEmpty)) H):=by
 intro pins s σ H x y v u Q I rx ry h;obtain⟨i,j,rfl,rfl,q⟩:=h;obtain⟨t,rfl⟩:=rx;obtain⟨t',rfl⟩:=ry;exact in_str (cK I q rfl)
theorem zD:Es X (compareOp .Is) (fun x y H Q=>y=.non∧Q (.bl (decide (x=.non))) H):=by
 intro pins s σ H x y v u Q I rx ry h;obtain⟨rfl,q⟩:=h;cases ry;refine is_none_gen (cK I q ?_);cases x<;>first
  |(cases rx;rfl)
  |(obtain⟨t,rfl⟩:=rx;rfl)
theorem a1k:Es X (compareOp .IsNot) (fun x y H Q=>y=.non∧Q (.bl (!decide (x=.non))) H):=by
 intro pins s σ H x y v u Q I rx ry h;obtain⟨rfl,q⟩:=h;cases ry;refine isnot_none_gen (cK I q ?_);cases x<;>first
  |(cases rx;rfl)
  |(obtain⟨t,rfl⟩:=rx;rfl)
theorem Es.or{f:Value→Value→Sem Value}{r r':R2}(h:Es X f r)(h':Es X f r'):Es X f (fun x y H Q=>r x y H Q∨r' x y H Q):=by
 intro pins s σ H x y v u Q I rx ry q;obtain q|q:=q
 ·exact h pins s σ H x y v u Q I rx ry q
 ·exact h' pins s σ H x y v u Q I rx ry q
theorem aL(b:Expr){op:CmpOp}(h:op≠.In:=by decide)(h2:op≠.NotIn:=by decide):behindInMarks op b=false:=by
 have e1:(op==CmpOp.In)=false:=by cases op<;>first|rfl|exact absurd rfl h
 have e2:(op==CmpOp.NotIn)=false:=by cases op<;>first|rfl|exact absurd rfl h2
 cases b<;>simp[behindInMarks,e1,e2]
theorem b1o{op:CmpOp}{r:R2}(ho:Es X (compareOp op) r)(ha:PE X a ta)(hb:PE X b tb)(hm:behindInMarks op b=false):PE X (.Compare a [op] [b] pos) (Sn r ta tb):=by
 intro pins s σ H Q I h;exact wpAny_Compare1 (b7s ha hb I h fun v u s2 x y H2 I2 rx ry q=>ho pins s2 σ H2 x y v u Q I2 rx ry q) hm
def Sa(t:TE):TT:=fun σ H Q=>t σ H fun x H'=>∃k,x=.bl k∧Q k H'
theorem b0x{op:CmpOp}{r:R2}(ho:Es X (compareOp op) r)(ha:PE X a ta)(hb:PE X b tb)(hm:behindInMarks op b=false):PT X (.Compare a [op] [b] pos) (Sa (Sn r ta tb)):=by
 intro pins s σ H Q I h;refine GM (bX (ha pins s σ H _ I h) fun v s1 ⟨x,H1,I1,r1,q1⟩=>bX (hb pins s1 σ H1 _ I1 q1) fun u s2 ⟨y,H2,I2,r2,q2⟩=>
  bX (ho pins s2 σ H2 x y v u _ I2 r1 r2 q2) fun c s3 ⟨z,H3,I3,r3,k,e,q3⟩=>?_) hm
 subst e;cases r3;exact BK ⟨H3,I3,q3⟩
def Pq(r r':R2)(ta tb tc:TE):TE:=fun σ H Q=>ta σ H fun x H1=>tb σ H1 fun y H2=>r x y H2 fun z H3=>∃k,z=.bl k∧
 (if k=true then tc σ H3 fun w' H4=>r' y w' H4 Q else Q (.bl false) H3)
theorem a6u{op op':CmpOp}{r r':R2}(ho:Es X (compareOp op) r)(ho':Es X (compareOp op') r')(ha:PE X a ta)(hb:PE X b tb)(hc:PE X c tc)
  (hm:lastMarks [op,op'] [b,c]=false:=by with_unfolding_all rfl):PE X (.Compare a [op,op'] [b,c] pos) (Pq r r' ta tb tc):=by
 intro pins s σ H Q I h;refine Compare_chain (bX (ha pins s σ H _ I h) fun v s1 ⟨x,H1,I1,r1,q1⟩=>chain_link (bX (hb pins s1 σ H1 _ I1 q1) fun u s2 ⟨y,H2,I2,r2,q2⟩=>
  bX (ho pins s2 σ H2 x y v u _ I2 r1 r2 q2) fun d s3 ⟨z,H3,I3,r3,k,e,q3⟩=>?_)) hm
 subst e;cases r3;refine BK ?_;cases k with
 |false=>exact ite_ff ⟨.bl false,H3,I3,rfl,q3⟩
 |true=>exact ite_tt (chain_last (bX (hc pins s3 σ H3 _ I3 q3) fun w' s4 ⟨z',H4,I4,r4,q4⟩=>ho' pins s4 σ H4 y z' u w' Q I4 r2 r4 q4))
theorem a6f{op op':CmpOp}{r r':R2}(ho:Es X (compareOp op) r)(ho':Es X (compareOp op') r')(ha:PE X a ta)(hb:PE X b tb)(hc:PE X c tc)
  (hm:lastMarks [op,op'] [b,c]=false:=by with_unfolding_all rfl):PT X (.Compare a [op,op'] [b,c] pos) (Sa (Pq r r' ta tb tc)):=by
 intro pins s σ H Q I h;refine isTrue_chain (bX (ha pins s σ H _ I h) fun v s1 ⟨x,H1,I1,r1,q1⟩=>test_link (bX (hb pins s1 σ H1 _ I1 q1) fun u s2 ⟨y,H2,I2,r2,q2⟩=>
  bX (ho pins s2 σ H2 x y v u _ I2 r1 r2 q2) fun d s3 ⟨z,H3,I3,r3,k,e,q3⟩=>?_)) hm
 subst e;cases r3;refine BK ?_;cases k with
 |false=>
  obtain⟨k',e',q'⟩:=q3;cases e';exact ite_ff ⟨H3,I3,q'⟩
 |true=>
  refine ite_tt (test_last (bX (hc pins s3 σ H3 _ I3 q3) fun w' s4 ⟨z',H4,I4,r4,q4⟩=>bX (ho' pins s4 σ H4 y z' u w' _ I4 r2 r4 q4) fun d' s5 ⟨z2,H5,I5,r5,k2,e2,q5⟩=>?_));subst e2;cases r5;exact BK ⟨H5,I5,q5⟩
def Uw(K:W.Frag)(x:V)(H:Hp)(k:Bool):Prop:=
 match x with
 |.non=>k=false
 |.bl b=>k=b
 |.int i=>k=(i != 0)
 |.str y=>y.length≤sizeLine∧k=((y.length:Int) != 0)
 |.byt y=>y.size≤sizeLine∧k=((y.size:Int) != 0)
 |.ref p=>(∃xs,Ei K H p xs∧k=!xs.isEmpty)∨(∃xs,Eb K H p xs∧k=!xs.isEmpty)∨∃kvs,H p=some (.dK kvs)∧k=!kvs.isEmpty
 |_=>False
theorem zZ{κ:Type}{kvs:List (κ×V)}{vs:List (κ×Value)}(r:KV kvs vs):(!vs.isEmpty)=!kvs.isEmpty:=by
 cases r<;>rfl
theorem qI{xs:List V}{its:List Value}(r:Bw xs its):(!its.toArray.isEmpty)=!xs.isEmpty:=by
 cases r<;>simp
theorem mI:(sizeLine:Nat)<2 ^ 63:=by rw[DV];decide
theorem b4m:Wj X (fun x H Q=>∃k,Uw X.K x H k∧Q k H):=by
 intro pins s σ H x v Q I rx h;obtain⟨k,e,q⟩:=h;have hl:=mI;have hs:sizeLine=16777216:=DV;cases x with
 |non=>
  cases rx;have e':k=false:=e;subst e';exact truthy_none ⟨H,I,q⟩
 |bl b=>
  cases rx;have e':k=b:=e;subst e';exact BK ⟨H,I,q⟩
 |int i=>
  obtain⟨t,rfl⟩:=rx;have e':k=(i != 0):=e;subst e';exact PySem.P.truthy_int ⟨H,I,q⟩
 |str y=>
  obtain⟨t,rfl⟩:=rx;obtain⟨hy,e'⟩:y.length≤sizeLine∧k=((y.length:Int) != 0):=e;subst e';exact PySem.P.truthy_str (by omega) ⟨H,I.tok _,q⟩
 |byt y=>
  obtain⟨t,rfl⟩:=rx;obtain⟨hy,e'⟩:y.size≤sizeLine∧k=((y.size:Int) != 0):=e;subst e';exact W.truthy_bytes (by omega) ⟨H,I.tok _,q⟩
 |ref p=>
  cases rx;have e':(∃xs,Ei X.K H p xs∧k=!xs.isEmpty)∨(∃xs,Eb X.K H p xs∧k=!xs.isEmpty)∨∃kvs,H p=some (.dK kvs)∧k=!kvs.isEmpty:=e;obtain⟨xs,hx,e'⟩|⟨xs,hx,e'⟩|⟨kvs,hx,e'⟩:=e'
  ·subst e';obtain⟨its,r,pl,hz⟩:=I.list hx;have hlen:=r.length;exact wpAny_truthy_list pl.isList (by simp only[AJ];omega) ⟨H,I.tok _,by rw[qI r];exact q⟩
  ·subst e';obtain⟨its,r,pl,hz⟩:=I.tuple hx;have hlen:=r.length;exact truthy_tuple pl (by simp only[AJ];omega) ⟨H,I.tok _,by rw[qI r];exact q⟩
  ·subst e';obtain⟨hz,hS,vs,r,m⟩:kvs.length≤sizeLine∧(p==sysModules)=false∧∃vs,KV kvs vs∧s.heap.DictOf (mixKind X.prog X.w) p vs:=I.hok p _ hx;have hlen:kvs.length=vs.length:=GG r;exact wpAny_truthy_dict hS m (by omega) ⟨H,I.tok _,by rw[zZ r];exact q⟩
 |_=>exact(show False from e).elim
theorem a6e(ha:PE X a ta)(he:∀whole,isTrue a X.env whole=(do let v ←whole;standAt a.pos;holding [v] (truthy v))):
  PT X a (fun σ H Q=>ta σ H fun x H'=>∃k,Uw X.K x H' k∧Q k H'):=by
 intro pins s σ H Q I h;exact isTrue_plain (bX (ha pins s σ H _ I h) fun v s1 ⟨x,H1,I1,r1,q1⟩=>b4m pins s1 σ H1 x v Q I1 r1 q1) (he _)
theorem zF:Es X (binaryOp .Add) (fun x y H Q=>∃i j,x=.str i∧y=.str j∧i.length+j.length≤sizeLine∧Q (.str (i++j)) H):=by
 intro pins s σ H x y v u Q I rx ry h;obtain⟨i,j,rfl,rfl,hz,q⟩:=h;obtain⟨t,rfl⟩:=rx;obtain⟨t',rfl⟩:=ry;exact add_str (fun t' tk=>⟨.str (i++j),H,I.tok _,⟨_,rfl⟩,q⟩) hz
theorem gR{x:V}(r:Bw [x] us):∃u,us=[u]∧Cg x u:=by
 cases r with
 |cons r1 r2=>cases r2;exact⟨_,rfl,r1⟩
theorem vR{x y:V}(r:Bw [x,y] us):∃u w',us=[u,w']∧Cg x u∧Cg y w':=by
 cases r with
 |cons r1 r2=>
  cases r2 with
  |cons r3 r4=>cases r4;exact⟨_,_,rfl,r1,r3⟩
theorem b0b:Ej X (.builtin "abs") (fun xs H Q=>∃i,xs=[.int i]∧Q (.int (if i<0 then -i else i)) H):=by
 intro pins s σ H xs us Q I r h;obtain⟨i,rfl,q⟩:=h;obtain⟨u,rfl,t,rfl⟩:=gR r;exact call_abs_int fun u tk=>⟨.int (if i<0 then -i else i),H,I.tok _,⟨_,rfl⟩,q⟩
theorem vH:Ej X (.type "str") (fun xs H Q=>∃i,xs=[.int i]∧i.natAbs.log2<1920∧Q (.str (toString i)) H):=by
 intro pins s σ H xs us Q I r h;obtain⟨i,rfl,hz,q⟩:=h;obtain⟨u,rfl,t,rfl⟩:=gR r;exact PySem.P.str_of_int hz ⟨.str _,H,I.tok _,⟨_,rfl⟩,q⟩
theorem a9y:Ej X (.builtin "ord") (fun xs H Q=>∃x,xs=[.str x]∧x.length=1∧Q (.int (x.cps.getD 0 0:Nat)) H):=by
 intro pins s σ H xs us Q I r h;obtain⟨x,rfl,hz,q⟩:=h;obtain⟨u,rfl,t,rfl⟩:=gR r;exact ord_of_one hz ⟨.int _,H,I.tok _,⟨_,rfl⟩,q⟩
def Sz(K:W.Frag)(x:V)(H:Hp)(n:Nat):Prop:=
 match x with
 |.str y=>y.length≤sizeLine∧n=y.length
 |.byt y=>y.size≤sizeLine∧n=y.size
 |.ref p=>(∃xs,Ei K H p xs∧n=xs.length)∨∃xs,Eb K H p xs∧n=xs.length
 |_=>False
theorem bV:Ej X (.builtin "len") (fun xs H Q=>∃x n,xs=[x]∧Sz X.K x H n∧Q (.int n) H):=by
 intro pins s σ H xs us Q I r h;obtain⟨x,n,rfl,e,q⟩:=h;obtain⟨u,rfl,rx⟩:=gR r;have hl:=mI;have hs:sizeLine=16777216:=DV;cases x with
 |str y=>
  obtain⟨t,rfl⟩:=rx;obtain⟨hy,e'⟩:y.length≤sizeLine∧n=y.length:=e;subst e';exact len_str (by omega) ⟨.int _,H,I.tok _,⟨_,rfl⟩,q⟩
 |byt y=>
  obtain⟨t,rfl⟩:=rx;obtain⟨hy,e'⟩:y.size≤sizeLine∧n=y.size:=e;subst e';exact W.len_bytes (by omega) ⟨.int _,H,I.tok _,⟨_,rfl⟩,q⟩
 |ref p=>
  cases rx;have e':(∃xs,Ei X.K H p xs∧n=xs.length)∨∃xs,Eb X.K H p xs∧n=xs.length:=e;obtain⟨xs,hx,e'⟩|⟨xs,hx,e'⟩:=e'
  ·subst e';obtain⟨its,r',pl,hz⟩:=I.list hx;have hlen:=r'.length;exact Calls.call_len_list pl.isList (by simp only[AJ];omega) ⟨.int xs.length,H,I.tok _,⟨_,by simp only[AJ];rw[hlen]⟩,q⟩
  ·subst e';obtain⟨its,r',pl,hz⟩:=I.tuple hx;have hlen:=r'.length;exact len_tuple pl (by simp only[AJ];omega) ⟨.int xs.length,H,I.tok _,⟨_,by simp only[AJ];rw[hlen]⟩,q⟩
 |_=>exact(show False from e).elim
end
end L2
namespace L2
open PySem PySem.Spec PyProof.Rows
section
variable{prog:Program}{w:World}{A:Around}{E:Value→Shared→Prop}{s:Shared}{K:W.Frag}{x dx C f:Addr}{mA:Str→Option Value}{name:Str}{v:Value}
end
theorem Nq.some_of{v:V}{o:Option Value}(r:Nq (some v) o):∃u,o=some u∧Cg v u:=by
 cases o with
 |none=>exact(show False from r).elim
 |some u=>exact⟨u,rfl,r⟩
section
variable{X:Cx}{pins:List (Addr×Obj)}{σ:St}{H:Hp}{s:Shared}{a C dx:Addr}{fs:List (Str×V)}{f:Str}{v:V}{A:Around}{E:Value→Shared→Prop}
end
end L2
namespace L2
open PySem PySem.Spec PyProof.Rows
structure Cc(k:Nat)(A:Around):Prop where
 hd:A.handled=none
 dp:A.depth+3*k+5<recursionLimit
 un:A.units+16*k+200<cLine
 gd:A.guards=some []
theorem Cc.mono{j k:Nat}{A:Around}(r:Cc k A)(h:j≤k):Cc j A:=⟨r.hd,by have:=r.dp;omega,by have:=r.un;omega,r.gd⟩
theorem Cc.deeper{k:Nat}{A:Around}(r:Cc (k+1) A)(env:Env):Cc k (A.deeper env):=
 ⟨r.hd,by have:=r.dp;show A.depth+1+3*k+5<_;omega,by have:=r.un;show A.units+3+16*k+200<_;omega,r.gd⟩
theorem Cc.depth{k:Nat}{A:Around}(r:Cc k A):A.depth<recursionLimit:=by have:=r.dp;omega
theorem Cc.units{k:Nat}{A:Around}(r:Cc k A):A.units+64<cLine:=by have:=r.un;omega
def Vw:TA:=fun _ H Q=>Q [] H
def Sb(ta:TE)(tr:TA):TA:=fun σ H Q=>ta σ H fun x H1=>tr σ H1 fun xs H2=>Q (x::xs) H2
section
variable{X:Cx}{e:Expr}{es:List Expr}{te:TE}{t:TA}{pos:Pos}
theorem dD:PA X [] Vw:=fun _ _ _ _ H Q I h=>Calls.spliced_nil ⟨[],H,I,.nil,h⟩
theorem bR(ha:PE X e te)(hr:PA X es t)(hs:starEach (e::es) X.env=(false,eval e X.env)::starEach es X.env:=by rfl):PA X (e::es) (Sb te t):=by
 intro pos pins s σ H Q I h;rw[hs];show wpAny _ _ (spliced ((false,eval e X.env)::backTo pos (starEach es X.env))) _ _ s;refine HK (bX (ha pins s σ H _ I h) fun u s1 ⟨x,H1,I1,r1,q1⟩=>?_);exact bX (hr pos pins s1 σ H1 _ I1 q1) fun us s2 ⟨xs,H2,I2,r2,q2⟩=>⟨x::xs,H2,I2,.cons r1 r2,q2⟩
def Vt(t:TA):TE:=fun σ H Q=>t σ H fun xs H1=>xs.length≤sizeLine∧∀p,H1 p=none→Q (.ref p) (upd H1 p (.tup xs))
def Tr(t:TA):TE:=fun σ H Q=>t σ H fun xs H1=>xs.length≤sizeLine∧∀p,H1 p=none→Q (.ref p) (upd H1 p (.lst xs))
theorem b5c {x1}(h:PA X es t):PE X (.Tuple es x1 pos) (Vt t):=by
 intro pins s σ H Q I hq;refine wpAny_Tuple_spliced (bX (h pos pins s σ H _ I hq) fun us s1 ⟨xs,H1,I1,r,z,q⟩=>⟨by rw[←r.length];exact z,?_⟩);have hf:H1 s1.heap.objs.size=none:=I1.hok.fresh (AU _);refine⟨.ref s1.heap.objs.size,upd H1 s1.heap.objs.size (.tup xs),I1.laid (t':=s1.toks) (fun b u e=>AD _ e) (AU _) ?_,rfl,q _ hf⟩;exact⟨z,us,r,⟨_,BA _ rfl,rfl,_,rfl⟩⟩
theorem a6q(h:PA X es t):PE X (.List es pos) (Tr t):=by
 intro pins s σ H Q I hq;refine wpAny_List_spliced (bX (h pos pins s σ H _ I hq) fun us s1 ⟨xs,H1,I1,r,z,q⟩=>⟨by rw[←r.length];exact z,?_⟩);have hf:H1 s1.heap.objs.size=none:=I1.hok.fresh (AU _);refine⟨.ref s1.heap.objs.size,upd H1 s1.heap.objs.size (.lst xs),I1.laid (t':=s1.toks) (fun b u e=>AD _ e) (AU _) ?_,rfl,q _ hf⟩;exact⟨z,us,0,r,BA _ rfl⟩
end
abbrev Sp:=List V→Hp→VK→XK→Prop
abbrev Mu:=List Env→Hp→Shared→XK→Value→Shared→Prop
structure Qg(P:Program)(w:World)(K:W.Frag)(mg:Str→Option Value)(base:Heap)(A:Around)(outer:List Env)(s:Shared)(H:Hp):Prop where
 frames:A.frames=some outer
 mod:Mod K mg base
 bs:∀b o,base.get? b=some o→s.heap.get? b=some o∧H b=none
 bsz:base.objs.size≤s.heap.objs.size
 funs:s.heap.FunFrames base outer
 frf:∀b∈frs outer,H b=none
 hok:Hf P w H s.heap
 bare:AllBare s.gens
def CE(outer:List Env)(P:Program)(w:World)(H:Hp)(s:Shared)(Q:VK)(u:Value)(s':Shared):Prop:=
 ∃v H',s'.os=s.os∧AllBare s'.gens∧Un (frs outer) [] H H' s.heap s'.heap∧Hf P w H' s'.heap∧Cg v u∧Q v H'
def CR(CX:Mu)(outer:List Env)(P:Program)(w:World)(H:Hp)(s:Shared)(Q:VK)(E:XK)(r:Result)(s':Shared):Prop:=
 match r with
 |.ok (.ret u)=>CE outer P w H s Q u s'
 |.ok _=>False
 |.error e=>CX outer H s E e s'
structure Kg(P:Program)(w:World)(K:W.Frag)(mg:Str→Option Value)(base:Heap)(CX:Mu)(k:Nat)(f:Addr)(fd:FuncData)(ps:List Str)(sp:Sp):Prop where
 len:∀vs H Q E,sp vs H Q E→vs.length=ps.length
 run:∀(A:Around) (outer:List Env) (s:Shared) (H:Hp) (args:Args) (us:List Value) (vs:List V) (Q:VK) (E:XK),Cc k A→Qg P w K mg base A outer s H→BindsTo s fd args (ps.zip us)→Bw vs us→sp vs H Q E→
  codeAny (model P w) A (.call (.ref f) args) (CR CX outer P w H s Q E) s
theorem Kg.mono{P:Program}{w:World}{K:W.Frag}{mg:Str→Option Value}{base:Heap}{CX:Mu}{j k:Nat}{f:Addr}{fd:FuncData}{ps:List Str}{sp:Sp}(F:Kg P w K mg base CX j f fd ps sp)(h:j≤k):
  Kg P w K mg base CX k f fd ps sp:=⟨F.len,fun A outer s H args us vs Q E hr=>F.run A outer s H args us vs Q E (hr.mono h)⟩
section
variable{X:Cx}{pins:List (Addr×Obj)}{σ:St}{H:Hp}{s s':Shared}
theorem Inv.env0(I:Inv X pins σ H s):Qg X.prog X.w X.K X.mg X.base X.A X.stack s H:=
 ⟨I.ok.frames,I.ok.mod,I.bs,BG I.ok.bsz I.sz,I.stack,I.stkFree,I.hok,I.bare⟩
theorem Inv.after{Q:VK}{u:Value}(I:Inv X pins σ H s)(h:CE X.stack X.prog X.w H s Q u s'):EP X pins σ Q u s':=by
 obtain⟨v,H',os,bare,un,hok,r,q⟩:=h;obtain⟨hh,g,d,t,os'⟩:=s';obtain rfl:os'=s.os:=os;exact⟨v,H',I.call (h':=hh) (g':=g) (d':=d) (t':=t) (ch:=[]) un hok bare (fun b z=>absurd z (by simp)),r,q⟩
end
def Sc(sp:Sp)(dvs:List V)(E:XK)(t:TA):TE:=fun σ H Q=>t σ H fun vs H1=>sp (vs++dvs) H1 Q E
def Ev(K:W.Frag)(fd:FuncData)(ps:List Str)(ds:List Value):Prop:=
 ∀(s:Shared) (us:List Value),K.In s.heap→(us++ds).length=ps.length→BindsTo s fd ⟨us,[]⟩ (ps.zip (us++ds))
theorem Ev.all{K:W.Frag}{fd:FuncData}{ps:List Str}(h:∀us:List Value,us.length=ps.length→bindArgs fd ⟨us,[]⟩=pure (ps.zip us)):Ev K fd ps []:=fun s us _ hl=>by
 rw[BP]at hl ⊢;exact .of_eq (h us hl)
def Jr(CX:Mu)(X:Cx)(E:XK):Prop:=∀(pins:List (Addr×Obj)) (σ:St) (H:Hp) (s:Shared) (e:Value) (s':Shared),Inv X pins σ H s→CX X.stack H s E e s'→X.xe e s'
section
variable{X:Cx}{CX:Mu}{k:Nat}{f C:Addr}{fd:FuncData}{ps:List Str}{sp:Sp}{dvs:List V}{ds:List Value}{E:XK}{x m:Str}{p pos apos:Pos}{e o:Expr}{es:List Expr}{ta:TE}{t:TA}
theorem a5u{pins:List (Addr×Obj)}{σ:St}{H:Hp}{s:Shared}{Q:VK}(F:Kg X.prog X.w X.K X.mg X.base CX k f fd ps sp)(hr:Cc k X.A)(hb:Ev X.K fd ps ds)(hd:Bw dvs ds)(hx:Jr CX X E)
  (I:Inv X pins σ H s)(r:Bw vs us)(h:sp (vs++dvs) H Q E):wpAny (model X.prog X.w) X.A (call (.ref f) us) (EP X pins σ Q) X.xe s:=by
 have r2:Bw (vs++dvs) (us++ds):=r.append hd;have hl:(us++ds).length=ps.length:=by rw[←r2.length];exact F.len _ _ _ _ h
 refine wpAny_call (codeAny_mono (F.run X.A X.stack s H ⟨us,[]⟩ (us++ds) (vs++dvs) Q E hr I.env0 (hb s us I.kIn hl) r2 h) fun r s' hq=>?_);cases r with
 |error e=>exact hx pins σ H s e s' I hq
 |ok fl=>
  cases fl with
  |ret u=>exact I.after hq
  |next=>exact False.elim hq
  |brk=>exact False.elim hq
  |cont=>exact False.elim hq
theorem b1p(F:Kg X.prog X.w X.K X.mg X.base CX k f fd ps sp)(hr:Cc k X.A)(hg:Gl X x)(hm:X.mg x=some (.ref f))(hk:W.keepIn X.K (.ref f)=true)(hb:Ev X.K fd ps ds)(hd:Bw dvs ds)(hx:Jr CX X E)
  (ha:PA X (e::es) t)(hdb:(x==("__debug__":Str))=false:=by decide)(he:starEach (e::es) X.env=(false,eval e X.env)::starEach es X.env:=by rfl)(hpl:(backTo pos (starEach es X.env)).any (·.1)=false:=by rfl):
  PE X (.Call (.Name x p) (e::es) [] pos) (Sc sp dvs E t):=by
 intro pins s σ H Q I h;refine FQ (eJ I hg hm ?_ hdb);refine W.callWith_K (h₀:=X.base) I.ok.mod.kin hk (bX (ha pos pins s σ H _ I h) fun us s1 ⟨vs,H1,I1,r,q⟩=>⟨I1.kIn,?_⟩) he hpl;exact a5u F hr hb hd hx I1 r q
end
structure Bi(N P:List Str)(sc:Scope):Prop where
 kind:sc.kind=.function
 co:sc.isCoroutine=false
 gen:sc.isGenerator=false
 nd:N.Nodup
 pre:N.take P.length=P
 par:∀x∈P,sc.names.lookup x=some .local∨sc.names.lookup x=some .cell
 nofree:∀y∈sc.names,y.2≠.free
theorem tH{kindOf:Str→Option NameKind}{x:Str}:∀{binds:List (Str×Value)} {m:Str→Option Value},(∀v,(x,v)∉binds)→bindL kindOf binds m x=m x
 |[],_,_=>rfl
 |(n,v)::r,m,h=>by
  unfold bindL;rw[tH fun w hw=>h w (AC _ hw)];split
  ·have:x≠n:=by rintro rfl;exact h v AM
   simp[this]
  ·rfl
theorem tJ{kindOf:Str→Option NameKind}{x:Str}:∀{binds:List (Str×Value)} {m:Str→Option Value},(∀v,(x,v)∉binds)→bindC kindOf binds m x=m x
 |[],_,_=>rfl
 |(n,v)::r,m,h=>by
  unfold bindC;rw[tJ fun w hw=>h w (AC _ hw)];split
  ·rfl
  ·have:x≠n:=by rintro rfl;exact h v AM
   simp[this]
theorem tI{kindOf:Str→Option NameKind}{x:Str}{v:Value}:∀{P:List Str} {vs:List Value} {i:Nat} {m:Str→Option Value},P.Nodup→P[i]?=some x→vs[i]?=some v→kindOf x=some .local→
  bindL kindOf (P.zip vs) m x=some v
 |[],_,_,_,_,h,_,_=>by simp at h
 |_::_,[],_,_,_,_,h,_=>by simp at h
 |p::P,w::vs,0,m,nd,h1,h2,hk=>by
  simp at h1 h2;subst h1;subst h2;show bindL kindOf ((p,w)::P.zip vs) m p=_;unfold bindL;rw[tH fun v hv=>(CT.mp nd).1 (FZ hv).1,AS hk];simp
 |p::P,w::vs,i+1,m,nd,h1,h2,hk=>by
  show bindL kindOf ((p,w)::P.zip vs) m x=_;unfold bindL;exact tI (i:=i) (CT.mp nd).2 (by simpa using h1) (by simpa using h2) hk
theorem tK{kindOf:Str→Option NameKind}{x:Str}{v:Value}:∀{P:List Str} {vs:List Value} {i:Nat} {m:Str→Option Value},P.Nodup→P[i]?=some x→vs[i]?=some v→kindOf x≠some .local→
  bindC kindOf (P.zip vs) m x=some v
 |[],_,_,_,_,h,_,_=>by simp at h
 |_::_,[],_,_,_,_,h,_=>by simp at h
 |p::P,w::vs,0,m,nd,h1,h2,hk=>by
  simp at h1 h2;subst h1;subst h2;show bindC kindOf ((p,w)::P.zip vs) m p=_;unfold bindC;rw[tJ fun v hv=>(CT.mp nd).1 (FZ hv).1,AR hk];simp
 |p::P,w::vs,i+1,m,nd,h1,h2,hk=>by
  show bindC kindOf ((p,w)::P.zip vs) m x=_;unfold bindC;exact tK (i:=i) (CT.mp nd).2 (by simpa using h1) (by simpa using h2) hk
def start(N:List Str)(vs:List V):St:=vs.map some++List.replicate (N.length - vs.length) none
def Gd(CX:Mu)(P:Program)(w:World)(K:W.Frag)(mg:Str→Option Value)(base:Heap)(N:List Str)(qual:Str)(scope:Scope)(f:Addr)(cd:Value)(A:Around)(outer:List Env)(s:Shared)(H:Hp)(E:XK):Cx where
 prog:=P
 w:=w
 K:=K
 mg:=mg
 base:=base
 A:=A.deeper (envOfC qual scope s.heap.objs.size f cd)
 N:=N
 s₀:=s
 H₀:=H
 env:=envOfC qual scope s.heap.objs.size f cd
 outer:=outer
 stack:=envOfC qual scope s.heap.objs.size f cd::outer
 ex:=[]
 calm:=true
 fn:=fun _=>true
 pn:=[]
 xe:=fun e s'=>wpAny (model P w) (A.deeper (envOfC qual scope s.heap.objs.size f cd)) (leaving (envOfC qual scope s.heap.objs.size f cd) e) (fun _ s''=>CX outer H s E e s'') (fun e' s''=>CX outer H s E e' s'') s'
theorem yB{sc:Scope}{n:Nat}{x:Str}(h:sc.names.lookup x=some .cell):∃c,(cellsFrom n sc.names []).lookup x=some c:=by
 have q:=W.cellsFrom_some sc.names n [] (.inl h);exact FN.mp q
theorem sQ{CX:Mu}{P:Program}{w:World}{K:W.Frag}{mg:Str→Option Value}{base:Heap}{ps:List Str}{scope:Scope}{f:Addr}{A:Around}{outer:List Env}{s:Shared}{H:Hp}{E:XK}{vs:List V}
  (S:Bi N ps scope)(hd:A.handled=none)(e0:Qg P w K mg base A outer s H)(hl:vs.length=ps.length)(r:Bw vs us)
  (x:InCallC s s.heap.objs.size (bindL (envOfC qual scope s.heap.objs.size f cd).kindOf (ps.zip us) fun _=>none) (cellsFrom (s.heap.objs.size+1) scope.names []) (bindC (envOfC qual scope s.heap.objs.size f cd).kindOf (ps.zip us) fun _=>none) s1):
  Inv (Gd CX P w K mg base N qual scope f cd A outer s H E) [] (start N vs) H s1:=by
 have hpl:ps.length≤N.length:=by have:=congrArg List.length S.pre;rw[CN]at this;omega
 obtain⟨h1,tk,rfl,hk⟩:=x.done;have noA:∀b:Addr,b∉(Gd CX P w K mg base N qual scope f cd A outer s H E).ex:=fun b z=>absurd (show b∈([]:List Addr)from z) (by simp);refine⟨⟨e0.mod,S.kind,rfl,rfl,AU _,fun y z c h1 h2=>?_,fun y hy=>?_,fun y c _ h=>?_,fun _=>hd,Around.frames_deeper e0.frames,.inr ⟨rfl,rfl⟩,fun b z=>absurd z (noA b),e0.bs,e0.bsz,fun b _ _=>noA b,fun b z=>absurd z (noA b),e0.funs,e0.frf⟩,
  rfl,e0.bare,Un.kept hk,⟨_,x.toInCall.ns,fun i y v h1 h2 h3=>?_⟩,fun y c h=>⟨_,x.cell y c h⟩,e0.hok.fresh (AU _),fun y c h=>?_,fun p hp=>absurd (show p∈([]:List (Addr×Obj))from hp) (by simp),e0.hok.kept hk,?_⟩
 ·exact name_of_addr x.apart (CS h1) (CS h2)
 ·have hy:scope.names.lookup y=some .cell∨scope.names.lookup y=some .free:=hy;obtain hy|hy:=hy
  ·exact yB hy
  ·exact absurd rfl (S.nofree _ (CS hy))
 ·exact GX (x.above y c (CS h))
 ·have hi:i<vs.length:=by
   unfold start at h2;by_cases hi:i<vs.length
   ·exact hi
   ·rw[CG (by simpa using hi)]at h2;rw[ES]at h2;split at h2<;>cases h2
  have ha:vs[i]?=some v:=by
   unfold start at h2;rw[CJ (by simpa using hi),BO]at h2;cases e:vs[i]? with
   |none=>rw[e]at h2;cases h2
   |some a=>rw[e]at h2;cases h2;rfl
  obtain⟨u,hu,rv⟩:=r.get ha;have hp:ps[i]?=some y:=by
   rw[←S.pre,List.getElem?_take_of_lt (by omega)];exact h1
  have ndP:ps.Nodup:=by rw[←S.pre];exact S.nd.sublist (List.take_sublist _ _)
  refine⟨u,rv,?_⟩;obtain k|k:=S.par y (DC hp)
  ·exact .inl ⟨k,tI ndP hp hu k⟩
  ·obtain⟨c,e⟩:=yB (n:=s.heap.objs.size+1) k;refine .inr ⟨.inl k,c,e,?_⟩;have q:=x.cell y c e;rw[tK ndP hp hu (by show scope.names.lookup y≠_;rw[k];decide)]at q;exact q
 ·exact e0.hok.fresh (GX (x.above y c (CS h)))
 ·unfold start;show _=N.length;rw[BF,AK,DZ];omega
theorem b9l{CX:Mu}{P:Program}{w:World}{K:W.Frag}{mg:Str→Option Value}{base:Heap}{k:Nat}{f:Addr}{name:Str}{params:Arguments}{body:List Stmt}{kV:Value}{an od:Option Addr}
  {osl:Array (Option Value)}{ps:List Str}{sp:Sp}(lk:K.lookup f=some ⟨oc,od,.func (W.fnOf name qual params body scope dV kV doc pm an cdv ct),osl⟩)(hcd:W.codeIn K cdv qual=true)(S:Bi N ps scope)
  (len:∀vs H Q E,sp vs H Q E→vs.length=ps.length)
  (hbody:∀(A:Around) (outer:List Env) (s:Shared) (H:Hp) (vs:List V) (Q:VK) (E:XK),Cc k (A.deeper (envOfC qual scope s.heap.objs.size f cdv))→sp vs H Q E→
   ∃t,Mb (Gd CX P w K mg base N qual scope f cdv A outer s H E) body t∧t {nx:=fun _ H'=>Q .non H',rt:=Q} (start N vs) H):
  Kg P w K mg base CX (k+1) f (W.fnOf name qual params body scope dV kV doc pm an cdv ct) ps sp:=by
 refine⟨len,fun A outer s H args us vs Q E hr e0 hb r hsp=>?_⟩;have hl:=len _ _ _ _ hsp;have KX:K.In s.heap:=e0.mod.kin.keeps fun b o e=>(e0.bs b o e).1;have lim:s.heap.NoLimit:=e0.mod.nolimit.keeps fun b o e=>(e0.bs b o e).1;have hkind:∀y∈ps.zip us,scope.names.lookup y.1=some .local∨(scope.names.lookup y.1=some .cell∧((cellsFrom (s.heap.objs.size+1) scope.names []).lookup y.1).isSome=true):=fun⟨n,v⟩ hy=>by
  obtain q|q:=S.par n (FZ hy).1
  ·exact .inl q
  ·exact .inr ⟨q,W.cellsFrom_some _ _ _ (.inl q)⟩
 refine codeAny_call_function hr.depth (KX _ _ lk) rfl S.co S.gen rfl (W.codeRec_of KX hcd) (hb _ _ _ _ ?_);refine wpAny_newFunctionEnv_cells S.kind hkind fun env he s1 x=>?_;subst he;refine⟨lim.keeps x.toInCall.keep,codeAny_func ?_⟩;obtain⟨t,ht,hq⟩:=hbody A outer s H vs Q E (hr.deeper _) hsp;have I:Inv (Gd CX P w K mg base N qual scope f cdv A outer s H E) [] (start N vs) H s1:=sQ S hr.hd e0 hl r x;refine BV (ht [] s1 (start N vs) H _ I hq) (fun fl s' hs=>?_) fun e s' hs=>hs;have fin:∀{σ':St} {H':Hp} {v:V} {u:Value},Inv (Gd CX P w K mg base N qual scope f cdv A outer s H E) [] σ' H' s'→Cg v u→Q v H'→CE outer P w H s Q u s':=
  fun{σ' H' v u} J rv q=>⟨v,H',J.os,J.bare,J.base,J.hok,rv,q⟩
 cases fl with
 |ret u=>
  obtain⟨v,σ',H',J,rv,q⟩:=hs;exact fin J rv q
 |next=>
  obtain⟨σ',H',J,q⟩:=hs;exact fin (v:=V.non) (u:=Value.none) J rfl q
 |brk=>
  obtain⟨_,_,_,q⟩:=hs;exact False.elim q
 |cont=>
  obtain⟨_,_,_,q⟩:=hs;exact False.elim q
end L2
namespace L2
open PySem PySem.Spec PyProof.Rows
section
variable{X:Cx}{x:Str}{p pos:Pos}{e:Expr}{es:List Expr}{t:TA}{id T:String}{r:List V→Hp→VK→Prop}
def Vy(r:List V→Hp→VK→Prop)(t:TA):TE:=fun σ H Q=>t σ H fun vs H1=>r vs H1 Q
theorem gY(hc:Ej X (.builtin id) r)(hg:Gl X x)(hm:X.mg x=none)(hv:bootBuiltins x=some (.builtin id))(ha:PA X (e::es) t)(hn:x≠"__name__":=by decide)(hdb:(x==("__debug__":Str))=false:=by decide)
  (he:starEach (e::es) X.env=(false,eval e X.env)::starEach es X.env:=by rfl)(hpl:(backTo pos (starEach es X.env)).any (·.1)=false:=by rfl):PE X (.Call (.Name x p) (e::es) [] pos) (Vy r t):=by
 intro pins s σ H Q I h;refine FQ (iG I hg hm hv ?_ hn hdb);exact PyProof.Rows.callWith_builtin1 (bX (ha pos pins s σ H _ I h) fun us s1 ⟨vs,H1,I1,r1,q1⟩=>hc pins s1 σ H1 vs us Q I1 r1 q1) he hpl
theorem a3k(hc:Ej X (.type T) r)(hg:Gl X x)(hm:X.mg x=none)(hv:bootBuiltins x=some (.type T))(ha:PA X (e::es) t)(hn:x≠"__name__":=by decide)(hdb:(x==("__debug__":Str))=false:=by decide)
  (he:starEach (e::es) X.env=(false,eval e X.env)::starEach es X.env:=by rfl)(hpl:(backTo pos (starEach es X.env)).any (·.1)=false:=by rfl):PE X (.Call (.Name x p) (e::es) [] pos) (Vy r t):=by
 intro pins s σ H Q I h;refine FQ (iG I hg hm hv ?_ hn hdb);exact FE (bX (ha pos pins s σ H _ I h) fun us s1 ⟨vs,H1,I1,r1,q1⟩=>hc pins s1 σ H1 vs us Q I1 r1 q1) he hpl
end
end L2
namespace HT
open PySem PyProof.Rows
section
open PySem.SeqAt
open PySem.AutoSeq1 (wpAny_loadPart')
open PySem.MeetsSeq PySem.MeetsSeq2 PySem.MeetsSeq3
end
section
variable{prog:Program}{w:World}{A:Around}{E:Value→Shared→Prop}{s:Shared}
theorem cat_tup{t b:Addr}{vs ws:List Value}{Q:Value→Shared→Prop}(ht:IsTup s.heap t vs.toArray)(hb:IsTup s.heap b ws.toArray)(hv:vs≠[])
  (h1:ws=[]→Q (.ref t) s)(h2:ws≠[]→Q (.ref s.heap.objs.size) {s with heap:=s.heap.push {cls:=.type "tuple",data:=.seq (vs++ws).toArray}})
  (hsz:vs.length+ws.length≤sizeLine):wpAny (model prog w) A (binaryOp .Add (.ref t) (.ref b)) Q E s:=by
 obtain⟨⟨cls,dd,data,sl⟩,ho,hc,n,hd⟩:=id ht;obtain⟨⟨cls2,dd2,data2,sl2⟩,ho2,hc2,n2,hd2⟩:=id hb;simp only at hc hd hc2 hd2;subst hc hd hc2 hd2;have e:vs.toArray++ws.toArray=(vs++ws).toArray:=by simp
 by_cases hw:ws=[]
 ·exact concat_meets ⟨_,ho,rfl⟩ ⟨_,ho2,rfl⟩ noFill_tuple_add seq_tuple_add FU FO (FM _ _)
   (tuple_addW1 t b vs.toArray ws.toArray n n2 dd dd2 sl sl2 (by simpa using hv) (by simp[hw])) ⟨ho,ho2,h1 hw⟩
 ·refine concat_meets ⟨_,ho,rfl⟩ ⟨_,ho2,rfl⟩ noFill_tuple_add seq_tuple_add FU FO (FM _ _)
   (tuple_addW2 t b vs.toArray ws.toArray n n2 dd dd2 sl sl2 (by simpa using hv) (by simpa using hw) (by rw[AJ,AJ];exact hsz)) ⟨ho,ho2,?_⟩
  rw[e];exact h2 hw
def sIx(n d:Nat):Option Int→Nat
 |none=>d
 |some v=>if v<0 then(v+(n:Int)).toNat else min v.toNat n
theorem sIx_nat(n d k:Nat):sIx n d (some (k:Int))=min k n:=by
 show(if(k:Int)<0 then((k:Int)+(n:Int)).toNat else min (k:Int).toNat n)=min k n;rw[AR (by omega),GU]
theorem b4o(n d:Nat)(hd:d≤n)(o:Option Int):sIx n d o≤n:=by
 cases o with
 |none=>exact hd
 |some v=>
  show(if v<0 then(v+(n:Int)).toNat else min v.toNat n)≤n;by_cases hv:v<0
  ·rw[AS hv];omega
  ·rw[AR hv];exact Nat.min_le_right _ _
theorem a2n(v:Int)(n d:Nat):(if v<0 then max (v+(n:Int)) 0 else min v (n:Int))=((sIx n d (some v):Nat):Int):=by
 show(if v<0 then max (v+(n:Int)) 0 else min v (n:Int))=(((if v<0 then(v+(n:Int)).toNat else min v.toNat n):Nat):Int);by_cases hv:v<0
 ·simp only[AS hv];omega
 ·simp only[AR hv];omega
theorem a0n(lo hi:Option Int)(n:Nat):Builtin.Slice.sliceAdjust lo hi 1 (n:Int)=(((sIx n 0 lo:Nat):Int),((sIx n n hi:Nat):Int)):=by
 have h1:¬((1:Int)<0):=by omega
 unfold Builtin.Slice.sliceAdjust;simp only[h1,DB];refine Prod.ext ?_ ?_
 ·cases lo with
  |none=>rfl
  |some v=>exact a2n v n 0
 ·cases hi with
  |none=>rfl
  |some v=>exact a2n v n n
theorem yZ(i j:Nat):Builtin.Slice.slicePlaces (i:Int) (j:Int) 1=j - i:=by
 unfold Builtin.Slice.slicePlaces;have h1:(1:Int)>0:=by omega
 simp only[h1,DR,Int.ediv_one];split<;>omega
theorem oU{v:Value}{o:Option Int}{Q:Option Int→Shared→Prop}(p:IsPart v o)(h:Q o s):wpAny (model prog w) A (Builtin.Slice.slicePartIndex v) Q E s:=by
 cases p with
 |none=>exact slicePart_none h
 |int i t=>exact slicePart_int h
theorem lV{lo hi:Option Int}{n:Nat}{Q:Int×Int×Nat→Shared→Prop}(hs:s.heap.IsSliceOf sl vl vu .none)(pl:IsPart vl lo)(pu:IsPart vu hi)
  (h:Q (((sIx n 0 lo:Nat):Int),1,sIx n n hi - sIx n 0 lo) s):wpAny (model prog w) A (Builtin.Slice.sliceApplied (.ref sl) (pure (n:Int))) Q E s:=by
 obtain⟨os,hos,hcs,hds⟩:=id hs;unfold Builtin.Slice.sliceApplied Builtin.Slice.sliceFields;refine AB (AB (BI hos hds (x:=vl) rfl (AB (BI hos hds (x:=vu) rfl (AB (BI hos hds (x:=.none) rfl (AG ?_)))))));refine AB (slicePart_none ?_);show wpAny _ _ (if((1:Int)==0)=true then _ else _) _ _ s;rw[AR (by decide)];refine AB (oU pl (AB (oU pu (AB (AG ?_)))));show wpAny _ _ (match Builtin.Slice.sliceAdjust lo hi 1 (n:Int)with|(lo,hi)=>pure (lo,(1:Int),Builtin.Slice.slicePlaces lo hi 1)) _ _ s;rw[a0n lo hi n];show wpAny _ _ (pure (((sIx n 0 lo:Nat):Int),(1:Int),Builtin.Slice.slicePlaces ((sIx n 0 lo:Nat):Int) ((sIx n n hi:Nat):Int) 1)) _ _ s;rw[yZ];exact AG h
theorem a6l(xs:Array Value)(i k:Nat):((List.range k).filterMap fun(m:Nat)=>xs[((i:Int)+(m:Int)*1).toNat]?).toArray=((xs.toList.drop i).take k).toArray:=by
 have e:(fun(m:Nat)=>xs[((i:Int)+(m:Int)*1).toNat]?)=fun m=>xs[i+m]?:=by
  funext m;have:((i:Int)+(m:Int)*1).toNat=i+m:=by omega
  rw[this]
 rw[e];have:=pick_run xs i k;rw[List.filterMap_map]at this;have e2:((fun x=>xs[x]?)∘fun x=>i+x)=fun m=>xs[i+m]?:=rfl;rw[e2]at this;rw[this]
theorem getItem_tuple_cut{t:Addr}{items:Array Value}{lo hi:Option Int}{Q:Value→Shared→Prop}(ht:IsTup s.heap t items)(hs:s.heap.IsSliceOf sl vl vu .none)(pl:IsPart vl lo)(pu:IsPart vu hi)
  (hw:¬(sIx items.size 0 lo=0∧sIx items.size items.size hi=items.size))
  (h:Q (.ref s.heap.objs.size) {s with heap:=s.heap.push {cls:=.type "tuple",data:=.seq ((items.toList.drop (sIx items.size 0 lo)).take (sIx items.size items.size hi - sIx items.size 0 lo)).toArray}})
  (hsz:items.size≤sizeLine):wpAny (model prog w) A (getItem (.ref t) (.ref sl)) Q E s:=by
 have htake:sizeOk (.seq ((items.toList.drop (sIx items.size 0 lo)).take (sIx items.size items.size hi - sIx items.size 0 lo)).toArray):=by
  show((items.toList.drop (sIx items.size 0 lo)).take (sIx items.size items.size hi - sIx items.size 0 lo)).toArray.size≤sizeLine;rw[AJ,CN,DQ,DO];omega
 have hj:sIx items.size items.size hi≤items.size:=b4o _ _ (AU _) hi;obtain⟨os,hos,hcs,hds⟩:=id hs;have hTs:s.TypeIs (.ref sl) "slice":=⟨os,hos,hcs⟩;unfold getItem
 try with_reducible refine BR ?_
 first|refine AB (AG ?_)|skip
 refine AB (wpAny_sequenceKey ht.typeIs (by decide) ?_);refine AB (CH (name:=Str.ofString "__getitem__") ht.typeIs EZ
  (CQ EZ ht.typeIs entry_tuple_getitem ?_ (args_tuple_getitem _ _)))
 show wpAny _ _ (Builtin.Tuple.tupleItemsOf (.ref t)>>=_) _ _ s;refine AB (tupleItemsOf_ ht ?_);refine AB (wpAny_typeOf hTs ?_);rw[AS (by decide)];refine AB (lV hs pl pu ?_);have hno:¬((((sIx items.size 0 lo:Nat):Int)==0&&(1:Int)==1&&(sIx items.size items.size hi - sIx items.size 0 lo)==items.size)=true):=by
  intro q;rw[AE,AE]at q;have q1:((sIx items.size 0 lo:Nat):Int)=0:=eq_of_beq q.1.1;have q2:sIx items.size items.size hi - sIx items.size 0 lo=items.size:=eq_of_beq q.2;exact hw ⟨by omega,by omega⟩
 show wpAny _ _ (if(((sIx items.size 0 lo:Nat):Int)==0&&(1:Int)==1&&(sIx items.size items.size hi - sIx items.size 0 lo)==items.size)=true then _ else _) _ _ s;rw[AR hno,a6l]
 first
  |exact AB (m:=Builtin.Tuple.tupleExact _) (CC (AG ⟨_,rfl,AG h⟩) htake)
  |exact AB (m:=Builtin.Tuple.tupleExact _) (CC (AB (AG (AG ⟨_,rfl,AG h⟩))) htake)
  |exact AB (AB (m:=Builtin.Tuple.tupleExact _) (CC (AG (AG ⟨_,rfl,AG h⟩)) htake))
  |exact AB (AB (m:=Builtin.Tuple.tupleExact _) (CC (AG ⟨_,rfl,AG h⟩) htake))
end
end HT
namespace L2
open PySem PySem.Spec PyProof.Rows
abbrev TO:=St→Hp→(Option Int→Hp→Prop)→Prop
def PO(X:Cx)(e:Option Expr)(t:TO):Prop:=
 ∀(pins:List (Addr×Obj)) (s:Shared) (σ:St) (H:Hp) (Q:Option Int→Hp→Prop),Inv X pins σ H s→t σ H Q→
  wpAny (model X.prog X.w) X.A (evalPart e X.env) (fun u s'=>∃o H',Inv X pins σ H' s'∧IsPart u o∧Q o H') X.xe s
def Qu:TO:=fun _ H Q=>Q none H
def To(t:TE):TO:=fun σ H Q=>t σ H fun x H1=>∃i,x=.int i∧Q (some i) H1
section
variable{X:Cx}{e:Expr}{te:TE}{lo hi:Option Expr}{tl th:TO}{pos p2:Pos}
theorem b1e:PO X none Qu:=by
 intro pins s σ H Q I h;rw[evalPart_none];exact AG ⟨none,H,I,.none,h⟩
theorem b1d(h:PE X e te):PO X (some e) (To te):=by
 intro pins s σ H Q I hw;rw[evalPart_some];refine bX (h pins s σ H _ I hw) fun u s1 ⟨x,H1,I1,r1,q1⟩=>?_;obtain⟨i,rfl,q⟩:=q1;obtain⟨t,rfl⟩:=r1;exact⟨some i,H1,I1,.int i t,q⟩
def Rp(X:Cx)(r:V→Option Int→Option Int→Hp→VK→Prop):Prop:=
 ∀(pins:List (Addr×Obj)) (s:Shared) (σ:St) (H:Hp) (x:V) (v vl vu:Value) (lo hi:Option Int) (sl:Addr) (Q:VK),Inv X pins σ H s→Cg x v→s.heap.IsSliceOf sl vl vu .none→IsPart vl lo→IsPart vu hi→r x lo hi H Q→
  ∃T id,typeLookup (.type T) "__getitem__"=pure (some (.builtin id))∧s.TypeIs v T∧wpAny (model X.prog X.w) X.A (getItem v (.ref sl)) (EP X pins σ Q) X.xe s
theorem Rp.or{r r':V→Option Int→Option Int→Hp→VK→Prop}(h:Rp X r)(h':Rp X r'):Rp X (fun x lo hi H Q=>r x lo hi H Q∨r' x lo hi H Q):=by
 intro pins s σ H x v vl vu lo hi sl Q I rx hs pl pu q;obtain q|q:=q
 ·exact h pins s σ H x v vl vu lo hi sl Q I rx hs pl pu q
 ·exact h' pins s σ H x v vl vu lo hi sl Q I rx hs pl pu q
def Wt(r:V→Option Int→Option Int→Hp→VK→Prop)(te:TE)(tl th:TO):TE:=fun σ H Q=>te σ H fun x H1=>tl σ H1 fun l H2=>th σ H2 fun u H3=>r x l u H3 Q
theorem wP{r:V→Option Int→Option Int→Hp→VK→Prop}(hr:Rp X r)(he:PE X e te)(hl:PO X lo tl)(hu:PO X hi th):PE X (.Subscript e (.Slice lo hi none p2) pos) (Wt r te tl th):=by
 intro pins s σ H Q I h;refine Subscript_ (bX (he pins s σ H _ I h) fun v s1 ⟨x,H1,I1,r1,q1⟩=>?_);refine wpAny_Slice (bX (hl pins s1 σ H1 _ I1 q1) fun vl s2 ⟨l,H2,I2,pl,q2⟩=>bX (hu pins s2 σ H2 _ I2 q2) fun vu s3 ⟨u,H3,I3,pu,q3⟩=>?_);rw[evalPart_none];refine AG ?_;have I4:Inv X pins σ H3 {s3 with heap:=s3.heap.push {cls:=.type "slice",data:=.fields #[vl,vu,.none]}}:=I3.kept (t':=s3.toks) fun b ob q=>AD _ q;obtain⟨T,id,hT,ht,hg⟩:=hr pins {s3 with heap:=s3.heap.push {cls:=.type "slice",data:=.fields #[vl,vu,.none]}} σ H3 x v vl vu l u s3.heap.objs.size Q I4 r1 (Heap.IsSliceOf.new ..) pl pu q3;show wpAny (model X.prog X.w) X.A (subscriptTail e (.Slice lo hi none p2) v (.ref s3.heap.objs.size)) (EP X pins σ Q) X.xe {s3 with heap:=s3.heap.push {cls:=.type "slice",data:=.fields #[vl,vu,.none]}};exact tail_any (ops:=[.ref s3.heap.objs.size,v]) ht hT hg (by with_unfolding_all rfl)
def Nm(xs:List V)(lo hi:Option Int):List V:=(xs.drop (HT.sIx xs.length 0 lo)).take (HT.sIx xs.length xs.length hi - HT.sIx xs.length 0 lo)
theorem nQ(xs:List V)(lo hi:Option Int):(Nm xs lo hi).length≤xs.length:=by
 unfold Nm;rw[CN,DQ];omega
def Sr(K:W.Frag):V→Option Int→Option Int→Hp→VK→Prop:=fun x lo hi H Q=>∃a xs,x=.ref a∧Eb K H a xs∧
 ¬(HT.sIx xs.length 0 lo=0∧HT.sIx xs.length xs.length hi=xs.length)∧∀p,H p=none→Q (.ref p) (upd H p (.tup (Nm xs lo hi)))
theorem a5m:Rp X (Sr X.K):=by
 intro pins s σ H x v vl vu lo hi sl Q I rx hs pl pu h;obtain⟨a,xs,rfl,hx,hw,q⟩:=h;cases rx;obtain⟨its,r,ht,hz⟩:=I.tuple hx;have hlen:its.toArray.size=xs.length:=by rw[AJ];exact r.length.symm
 refine⟨"tuple",_,EZ.lookup,ht.typeIs,?_⟩;refine HT.getItem_tuple_cut ht hs pl pu (by rw[hlen];exact hw) ?_ (by rw[hlen];exact hz);rw[hlen];refine⟨.ref s.heap.objs.size,_,I.laid (t':=s.toks) (o:=.tup (Nm xs lo hi)) (fun b ob q=>AD _ q) (AU _) ?_,rfl,q _ (I.hok.fresh (AU _))⟩;exact⟨BG (nQ xs lo hi) hz,_,(r.drop (HT.sIx xs.length 0 lo)).take (HT.sIx xs.length xs.length hi - HT.sIx xs.length 0 lo),IsTup.new _ _⟩
def Sd(K:W.Frag):R2:=fun x y H Q=>∃a b xs ys,x=.ref a∧y=.ref b∧Eb K H a xs∧Eb K H b ys∧xs≠[]∧xs.length+ys.length≤sizeLine∧
 (ys=[]→Q (.ref a) H)∧(ys≠[]→∀p,H p=none→Q (.ref p) (upd H p (.tup (xs++ys))))
theorem Bw.nil_iff{xs:List V}(r:Bw xs us):us=[]↔xs=[]:=by
 cases r with
 |nil=>simp
 |cons _ _=>simp
theorem b1s:Es X (binaryOp .Add) (Sd X.K):=by
 intro pins s σ H x y v u Q I rx ry h;obtain⟨a,b,xs,ys,rfl,rfl,ha,hb,hx,hz,q1,q2⟩:=h;cases rx;cases ry;obtain⟨its,r1,p1,_⟩:=I.tuple ha;obtain⟨its2,r2,p2,_⟩:=I.tuple hb;refine HT.cat_tup p1 p2 (fun z=>hx (r1.nil_iff.mp z)) (fun z=>⟨.ref a,H,I,rfl,q1 (r2.nil_iff.mp z)⟩) (fun z=>?_) (by rw[←r1.length,←r2.length];exact hz);refine⟨.ref s.heap.objs.size,_,I.laid (t':=s.toks) (o:=.tup (xs++ys)) (fun b ob q=>AD _ q) (AU _) ?_,rfl,q2 (fun w=>z (r2.nil_iff.mpr w)) _ (I.hok.fresh (AU _))⟩;exact⟨by rw[BF];exact hz,_,r1.append r2,IsTup.new _ _⟩
end
end L2
namespace L2
open PySem PySem.Spec PyProof.Rows
def Ct(n:Nat)(i:Int):Option Nat:=if 0≤i then(if i<n then some i.toNat else none)else if -(n:Int)≤i then some (i+n).toNat else none
def Cp{α:Type}(xs:List α)(i:Int):Option α:=(Ct xs.length i).bind fun j=>xs[j]?
theorem a2a{n:Nat}{i:Int}{j:Nat}(h:Ct n i=some j):seqIndex? i n=some j∧j<n∧-(n:Int)≤i∧i<n:=by
 unfold Ct at h;by_cases h0:0≤i
 ·rw[AS h0]at h;by_cases h1:i<n
  ·rw[AS h1]at h;have e:i.toNat=j:=BJ h;exact⟨by rw[seqIndex_of h0 h1,e],by omega,by omega,h1⟩
  ·rw[AR h1]at h;cases h
 ·rw[AR h0]at h;by_cases h1:-(n:Int)≤i
  ·rw[AS h1]at h;have e:(i+n).toNat=j:=BJ h;exact⟨by rw[seqIndex_neg (by omega) h1,e],by omega,h1,by omega⟩
  ·rw[AR h1]at h;cases h
theorem vL{α:Type}{xs:List α}{i:Int}{v:α}(h:Cp xs i=some v):∃j,seqIndex? i xs.length=some j∧xs[j]?=some v∧j<xs.length∧-(xs.length:Int)≤i∧i<xs.length:=by
 unfold Cp at h;cases e:Ct xs.length i with
 |none=>rw[e]at h;cases h
 |some j=>
  rw[e]at h;obtain⟨h1,h2,h3,h4⟩:=a2a e;exact⟨j,h1,h,h2,h3,h4⟩
def Ko(b:Expr):Prop:=∀o i,subscripted b false o i=operate [o,i] (getItem o i)
def Ph(X:Cx)(r:R2):Prop:=
 ∀(value slice:Expr) (pins:List (Addr×Obj)) (s:Shared) (σ:St) (H:Hp) (x y:V) (v u:Value) (Q:VK),Inv X pins σ H s→Cg x v→Cg y u→r x y H Q→
  subscripted slice false v u=operate [v,u] (getItem v u)→wpAny (model X.prog X.w) X.A (subscriptTail value slice v u) (EP X pins σ Q) X.xe s
def Vm(X:Cx)(id:String)(r:V→List V→Hp→VK→Prop):Prop:=
 ∀(pins:List (Addr×Obj)) (s:Shared) (σ:St) (H:Hp) (x:V) (xs:List V) (v:Value) (us:List Value) (Q:VK),Inv X pins σ H s→Cg x v→Bw xs us→r x xs H Q→
  wpAny (model X.prog X.w) X.A (call (.builtin id) (v::us)) (EP X pins σ Q) X.xe s
section
variable{X:Cx}{a b:Expr}{ta tb:TE}{pos:Pos}
theorem Ph.or{r r':R2}(h:Ph X r)(h':Ph X r'):Ph X (fun x y H Q=>r x y H Q∨r' x y H Q):=by
 intro value slice pins s σ H x y v u Q I rx ry q hs;obtain q|q:=q
 ·exact h value slice pins s σ H x y v u Q I rx ry q hs
 ·exact h' value slice pins s σ H x y v u Q I rx ry q hs
theorem a6r{r:R2}(hr:Ph X r)(ha:PE X a ta)(hb:PE X b tb)(hs:Ko b):PE X (.Subscript a b pos) (Sn r ta tb):=by
 intro pins s σ H Q I h;exact Subscript_ (b7s ha hb I h fun v u s2 x y H2 I2 rx ry q=>hr a b pins s2 σ H2 x y v u Q I2 rx ry q (hs _ _))
def Uc(K:W.Frag):R2:=fun x y H Q=>∃p xs i v,x=.ref p∧y=.int i∧Ei K H p xs∧Cp xs i=some v∧Q v H
def Ua(K:W.Frag):R2:=fun x y H Q=>∃p xs i v,x=.ref p∧y=.int i∧Eb K H p xs∧Cp xs i=some v∧Q v H
def Ub:R2:=fun x y H Q=>∃z i c,x=.str z∧y=.int i∧z.length≤sizeLine∧Cp z.cps.toList i=some c∧Q (.str ⟨#[c]⟩) H
theorem a1z:Ph X (Uc X.K):=by
 intro value slice pins s σ H x y v u Q I rx ry h hs;obtain⟨p,xs,i,z,rfl,rfl,hq,he,q⟩:=h;cases rx;obtain⟨t,rfl⟩:=ry;obtain⟨its,r,pl,hz⟩:=I.list hq;obtain⟨j,h1,h2,h3,h4,h5⟩:=vL he;obtain⟨w,ew,rw'⟩:=r.get h2;have hl:=r.length;have hn:=mI;have fin:EP X pins σ Q w s:=⟨z,H,I,rw',q⟩;by_cases h0:0≤i
 ·have hj:i.toNat=j:=by
   rw[seqIndex_of h0 h5]at h1;exact BJ h1
  exact item_listR pl.isList h0 (by omega) (by rw[hj];simpa using ew) fin hs
 ·have hj:(i+(its.toArray.size:Int)).toNat=j:=by
   rw[seqIndex_neg (by omega) h4]at h1;rw[AJ,←hl];exact BJ h1
  exact subscriptTail_builtinR (x:=w) pl.isList.typeIs slot_list_getitem.lookup
   (wpAny_getItem_list_neg (Q:=fun r s'=>r=w∧EP X pins σ Q r s') pl.isList (by omega) (by rw[AJ]<;>omega) (by omega) (by rw[hj];simpa using ew) ⟨rfl,fin⟩) hs
theorem b6n:Ph X (Ua X.K):=by
 intro value slice pins s σ H x y v u Q I rx ry h hs;obtain⟨p,xs,i,z,rfl,rfl,hq,he,q⟩:=h;cases rx;obtain⟨t,rfl⟩:=ry;obtain⟨its,r,pl,hz⟩:=I.tuple hq;obtain⟨j,h1,h2,h3,h4,h5⟩:=vL he;obtain⟨w,ew,rw'⟩:=r.get h2;have hl:=r.length;have hn:=mI;have fin:EP X pins σ Q w s:=⟨z,H,I,rw',q⟩;exact subscriptTail_builtinR (x:=w) pl.typeIs slot_tuple_getitem.lookup
  (getItem_tuple (j:=j) (Q:=fun r s'=>r=w∧EP X pins σ Q r s') pl (by omega) (by omega) (by rw[AJ,←hl];exact h1) (by simpa using ew) ⟨rfl,fin⟩) hs
theorem b6o:Ph X Ub:=by
 intro value slice pins s σ H x y v u Q I rx ry h hs;obtain⟨z,i,c,rfl,rfl,hz,he,q⟩:=h;obtain⟨t,rfl⟩:=rx;obtain⟨t',rfl⟩:=ry;obtain⟨j,h1,h2,h3,h4,h5⟩:=vL he;have hl:z.cps.toList.length=z.length:=by simp[Str.length]
 rw[hl]at h1 h4 h5;have hn:=mI;exact tail_any (FH s z t) slot_str_getitem.lookup (getItem_str (c:=c) (by
  have e1:decide (i< -(2 ^ 63:Int))=false:=AW (by omega);have e2:decide (i≥2 ^ 63)=false:=AW (by omega);rw[e1,e2,GQ]) (by rw[h1];simpa using h2) ⟨.str ⟨#[c]⟩,H,I.tok _,⟨_,rfl⟩,q⟩) hs
def Wc(K:W.Frag):R2:=fun x y H Q=>Uc K x y H Q∨Ua K x y H Q∨Ub x y H Q
theorem aR:Ph X (Wc X.K):=a1z.or (b6n.or b6o)
theorem zW(its:List Value)(n j:Nat)(u:Value):Obj.mapSeq (·.setIfInBounds j u) {cls:=.type "list",data:=.seq its.toArray n}={cls:=.type "list",data:=.seq (its.set j u).toArray n}:=by
 simp[Obj.mapSeq]
theorem Inv.lst{pins:List (Addr×Obj)}{σ:St}{H:Hp}{s:Shared}{p:Addr}{xs:List V}(I:Inv X pins σ H s)(h:H p=some (.lst xs)):
  ∃(its:List Value) (n:Nat),Bw xs its∧s.heap.get? p=some {cls:=.type "list",data:=.seq its.toArray n}∧xs.length≤sizeLine:=by
 obtain⟨z,its,n,r,e⟩:=I.hok p _ h;exact⟨its,n,r,e,z⟩
theorem Inv.lstUpd{pins:List (Addr×Obj)}{σ:St}{H:Hp}{s:Shared}{p:Addr}{xs ys:List V}{its its':List Value}{n n':Nat}{f:Obj→Obj}(I:Inv X pins σ H s)(h:H p=some (.lst xs))
  (ho:s.heap.get? p=some {cls:=.type "list",data:=.seq its.toArray n})(hf:f {cls:=.type "list",data:=.seq its.toArray n}={cls:=.type "list",data:=.seq its'.toArray n'})(r:Bw ys its')(hz:ys.length≤sizeLine)(t:Nat):
  Inv X pins σ (upd H p (.lst ys)) {s with heap:=s.heap.update p f,toks:=t}:=by
 have e:(s.heap.update p f).get? p=some {cls:=.type "list",data:=.seq its'.toArray n'}:=by
  rw[BW f ho (by rw[hf]<;>rfl),hf]
 refine I.write (x:=p) (e:=p) (by rw[h];trivial) (.inl rfl) (fun b u hb q=>(CB _ _ (BU hb)).trans q) ⟨_,e⟩ ?_;exact⟨hz,its',n',r,e⟩
def Tv:V→V→V→Hp→(Hp→Prop)→Prop:=fun o i v H Q=>∃p xs k j,o=.ref p∧i=.int k∧H p=some (.lst xs)∧Ct xs.length k=some j∧Q (upd H p (.lst (xs.set j v)))
theorem vZ:Pf X Tv:=by
 intro pins s σ H o i v ov iv u Q I ro ri rv h;obtain⟨p,xs,k,j,rfl,rfl,hp,hj,q⟩:=h;cases ro;obtain⟨t,rfl⟩:=ri;obtain⟨its,n,r,ho,hz⟩:=I.lst hp;obtain⟨h1,h2,h3,h4⟩:=a2a hj;have hl:=r.length;have hn:=mI;have I':Inv X pins σ (upd H p (.lst (xs.set j v))) {s with heap:=s.heap.update p (Obj.mapSeq (·.setIfInBounds j u))}:=
  I.lstUpd hp ho (zW its n j u) (r.set rv j) (by rw[CU];exact hz) s.toks
 by_cases h0:0≤k
 ·have hk:k.toNat=j:=by
   rw[seqIndex_of h0 h4]at h1;exact BJ h1
  exact W.ki_setAt ho h0 (by omega) (by rw[AJ,←hl];exact h4) (by rw[hk];exact⟨_,I',q⟩)
 ·have hk:(k+(its.toArray.size:Int)).toNat=j:=by
   rw[seqIndex_neg (by omega) h3]at h1;rw[AJ,←hl];exact BJ h1
  exact W.ki_setBack ho (by omega) (by rw[AJ,←hl];exact h3) (by omega) (by rw[hk];exact⟨_,I',q⟩)
theorem tO(lo hi:Option Int)(n:Nat):(sliceBounds lo hi none n).1=((HT.sIx n 0 lo:Nat):Int)∧(sliceBounds lo hi none n).2.1=((HT.sIx n n hi:Nat):Int)∧(sliceBounds lo hi none n).2.2=1:=by
 refine⟨?_,?_,rfl⟩
 ·cases lo with
  |none=>simp[sliceBounds,HT.sIx]
  |some i=>
   simp only[sliceBounds,HT.sIx,Option.getD_none,show(1:Int)>0 by decide,DR];by_cases h:i<0
   ·simp only[h,DR]<;>omega
   ·simp only[h,DB]<;>omega
 ·cases hi with
  |none=>simp[sliceBounds,HT.sIx]
  |some i=>
   simp only[sliceBounds,HT.sIx,Option.getD_none,show(1:Int)>0 by decide,DR];by_cases h:i<0
   ·simp only[h,DR]<;>omega
   ·simp only[h,DB]<;>omega
theorem rF(its:List Value)(lo hi:Option Int):slicePick its.toArray lo hi none=((its.drop (HT.sIx its.length 0 lo)).take (HT.sIx its.length its.length hi - HT.sIx its.length 0 lo)).toArray:=by
 obtain⟨h1,h2,h3⟩:=tO lo hi its.toArray.size;unfold slicePick;rw[h1,h2,h3];simp only[sliceRange_one,pick_run,AJ]<;>rfl
def Wb(K:W.Frag):V→Option Int→Option Int→Hp→VK→Prop:=fun x lo hi H Q=>∃a xs,x=.ref a∧Ei K H a xs∧∀p,H p=none→Q (.ref p) (upd H p (.lst (Nm xs lo hi)))
theorem a0x:Rp X (Wb X.K):=by
 intro pins s σ H x v vl vu lo hi sl Q I rx hs pl pu h;obtain⟨a,xs,rfl,hx,q⟩:=h;cases rx;obtain⟨its,r,ht,hz⟩:=I.list hx;have hlen:=r.length;refine⟨"list",_,slot_list_getitem.lookup,ht.isList.typeIs,?_⟩;refine wpAny_getItem_list_slice ht.isList hs pl pu .none (by simp) ?_ (by rw[AJ]<;>omega);rw[rF,←hlen];refine⟨.ref s.heap.objs.size,_,I.laid (t':=s.toks) (o:=.lst (Nm xs lo hi)) (fun b ob q=>AD _ q) (AU _) ?_,rfl,q _ (I.hok.fresh (AU _))⟩;exact⟨BG (nQ xs lo hi) hz,_,0,(r.drop (HT.sIx xs.length 0 lo)).take (HT.sIx xs.length xs.length hi - HT.sIx xs.length 0 lo),BA _ rfl⟩
def Hs:V→Bool
 |.non=>true
 |.bl _=>true
 |.int _=>true
 |.str _=>true
 |_=>false
def Qk:V→V→Bool
 |.non,.non=>true
 |.bl a,.bl b=>a==b
 |.bl a,.int b=>(if a then 1 else 0)==b
 |.int a,.bl b=>a==(if b then 1 else 0)
 |.int a,.int b=>a==b
 |.str a,.str b=>a==b
 |_,_=>false
theorem b6x{A:Around}{s:Shared}{y x:V}{u v:Value}(ry:Cg y u)(rx:Cg x v)(fy:Hs y=true)(fx:Hs x=true):SeqAt.EqAt A s u v (Qk y x):=by
 cases y with
 |non=>
  cases ry;cases x with
  |non=>cases rx;exact SeqAt.EqAt.same _
  |bl b=>cases rx;exact SeqAt.EqAt.none_bool b
  |int b=>obtain⟨t,rfl⟩:=rx;exact SeqAt.EqAt.none_int b t
  |str b=>obtain⟨t,rfl⟩:=rx;exact SeqAt.EqAt.none_str b t
  |_=>exact absurd (show false=true from fx) BB
 |bl a=>
  cases ry;cases x with
  |non=>cases rx;exact SeqAt.EqAt.bool_none a
  |bl b=>cases rx;exact SeqAt.EqAt.bool_bool a b
  |int b=>obtain⟨t,rfl⟩:=rx;exact SeqAt.EqAt.bool_int a b t
  |str b=>obtain⟨t,rfl⟩:=rx;exact SeqAt.EqAt.bool_str a b t
  |_=>exact absurd (show false=true from fx) BB
 |int a=>
  obtain⟨t',rfl⟩:=ry;cases x with
  |non=>cases rx;exact SeqAt.EqAt.int_none a t'
  |bl b=>cases rx;exact SeqAt.EqAt.int_bool a t' b
  |int b=>obtain⟨t,rfl⟩:=rx;exact SeqAt.EqAt.int_int a t' b t
  |str b=>obtain⟨t,rfl⟩:=rx;exact SeqAt.EqAt.int_str a t' b t
  |_=>exact absurd (show false=true from fx) BB
 |str a=>
  obtain⟨t',rfl⟩:=ry;cases x with
  |non=>cases rx;exact SeqAt.EqAt.str_none a t'
  |bl b=>cases rx;exact SeqAt.EqAt.str_bool a t' b
  |int b=>obtain⟨t,rfl⟩:=rx;exact SeqAt.EqAt.str_int a t' b t
  |str b=>obtain⟨t,rfl⟩:=rx;exact SeqAt.EqAt.str_str a t' b t
  |_=>exact absurd (show false=true from fx) BB
 |_=>exact absurd (show false=true from fy) BB
def Rl(x:V)(u:Value):Bool:=match u with
 |.none=>Qk .non x
 |.bool b=>Qk (.bl b) x
 |.int i _=>Qk (.int i) x
 |.str z _=>Qk (.str z) x
 |_=>false
theorem a9c{x y:V}{u:Value}(r:Cg y u)(f:Hs y=true):Rl x u=Qk y x:=by
 cases y with
 |non=>cases r;rfl
 |bl b=>cases r;rfl
 |int i=>obtain⟨t,rfl⟩:=r;rfl
 |str z=>obtain⟨t,rfl⟩:=r;rfl
 |_=>exact absurd (show false=true from f) BB
theorem vN{x:V}:∀{xs:List V} {us:List Value},Bw xs us→xs.all Hs=true→us.any (Rl x)=xs.any fun y=>Qk y x
 |_,_,.nil,_=>rfl
 |y::xs,u::us,.cons r t,f=>by
  rw[DN,AE]at f;rw[CD,CD,a9c r f.1,vN t f.2]
theorem pU{A:Around}{s:Shared}{x:V}{v:Value}(rx:Cg x v)(fx:Hs x=true):∀{xs:List V} {us:List Value},Bw xs us→xs.all Hs=true→∀u∈us,SeqAt.EqAt A s u v (Rl x u)
 |_,_,.nil,_=>fun u hu=>by cases hu
 |y::xs,u::us,.cons r t,f=>fun u' hu=>by
  rw[DN,AE]at f;obtain rfl|hu:=AN.mp hu
  ·rw[a9c r f.1];exact b6x r rx f.1 fx
  ·exact pU rx fx t f.2 u' hu
def Vj(x:V)(xs:List V):Bool:=xs.any fun y=>Qk y x
def Uj(K:W.Frag)(neg:Bool):R2:=fun x y H Q=>∃p xs,y=.ref p∧(Ei K H p xs∨Eb K H p xs)∧Hs x=true∧xs.all Hs=true∧Q (.bl (if neg then !Vj x xs else Vj x xs)) H
theorem jA:Es X (compareOp .In) (Uj X.K false):=by
 intro pins s σ H x y v u Q I rx ry h;obtain⟨p,xs,rfl,hq,fx,fs,q⟩:=h;cases ry;obtain hq|hq:=hq
 ·obtain⟨its,r,pl,hz⟩:=I.list hq;refine SeqAt.in_listAt (Rl x) pl.isList (fun w hw=>pU rx fx r fs w (by simpa using hw)) ⟨.bl _,H,I,rfl,?_⟩;rw[show its.toArray.any (Rl x)=its.any (Rl x)by simp,vN r fs];exact q
 ·obtain⟨its,r,pl,hz⟩:=I.tuple hq;refine SeqAt.in_tupleAt (Rl x) pl (fun w hw=>pU rx fx r fs w (by simpa using hw)) ⟨.bl _,H,I,rfl,?_⟩;rw[show its.toArray.any (Rl x)=its.any (Rl x)by simp,vN r fs];exact q
theorem dA:Ej X (.type "tuple") (fun xs H Q=>∃p ys,xs=[.ref p]∧((Ei X.K H p ys∧∀l,H l=none→Q (.ref l) (upd H l (.tup ys)))∨(Eb X.K H p ys∧Q (.ref p) H))):=by
 intro pins s σ H xs us Q I r h;obtain⟨p,ys,rfl,h⟩:=h;obtain⟨u,rfl,rx⟩:=gR r;cases rx;obtain⟨hq,q⟩|⟨hq,q⟩:=h
 ·obtain⟨its,r',pl,hz⟩:=I.list hq;have hlen:=r'.length;refine call_tuple_list pl.isList (fun h' kp=>?_) (by simp only[AJ]<;>omega);have I1:Inv X pins σ H {s with heap:=h'}:=I.kept (t':=s.toks) kp;have I2:Inv X pins σ (upd H h'.objs.size (.tup ys)) {s with heap:=h'.push {cls:=.type "tuple",data:=.seq its.toArray}}:=
   I1.laid (t':=s.toks) (fun b o e=>AD _ e) (AU _) (show Dw X.prog X.w _ _ _ (.tup ys)from⟨hz,its,r',IsTup.new _ _⟩)
  exact⟨.ref h'.objs.size,_,I2,rfl,q _ (I1.hok.fresh (AU _))⟩
 ·obtain⟨its,r',pl,hz⟩:=I.tuple hq;exact call_tuple_same pl ⟨.ref p,H,I,rfl,q⟩
def Wo(K:W.Frag)(T:String)(x:V)(H:Hp):Prop:=match x with
 |.str _=>T="str"
 |.int _=>T="int"
 |.ref p=>(T="list"∧∃xs,Ei K H p xs)∨(T="tuple"∧∃o,K.lookup p=some o∧o.cls=.type "tuple"∧o.dict=none)∨
   (T="dict"∧((∃kvs,H p=some (.dK kvs))∨∃kvs,H p=some (.dT kvs)))∨(T="set"∧∃S n,H p=some (.set S n))
 |_=>False
theorem b4l{pins:List (Addr×Obj)}{σ:St}{H:Hp}{s:Shared}{T:String}{x:V}{v:Value}(I:Inv X pins σ H s)(r:Cg x v)(ty:Wo X.K T x H):
  s.TypeIs v T∧∀a,v=.ref a→∃ob,s.heap.get? a=some ob∧ob.dict=none:=by
 cases x with
 |str z=>
  obtain⟨t,rfl⟩:=r;cases (show T="str" from ty);exact⟨FH s z t,fun _ e=>nomatch e⟩
 |int i=>
  obtain⟨t,rfl⟩:=r;cases (show T="int" from ty);exact⟨typeIs_int s i t,fun _ e=>nomatch e⟩
 |ref p=>
  cases r;obtain⟨rfl,xs,hq⟩|⟨rfl,o,hk,hc,hd⟩|⟨rfl,hk⟩|⟨rfl,S,n,hk⟩:=ty
  ·obtain⟨its,_,pl,_⟩:=I.list hq;refine⟨pl.isList.typeIs,fun a e=>?_⟩;cases e;obtain⟨o,n,e,c,hd,_⟩:=pl;exact⟨o,e,hd⟩
  ·refine⟨⟨o,I.kIn p o hk,hc⟩,fun a e=>?_⟩;cases e;exact⟨o,I.kIn _ o hk,hd⟩
  ·have z:∃o,s.heap.get? p=some o∧o.ExactDict:=by
    obtain⟨kvs,hk⟩|⟨kvs,hk⟩:=hk
    ·obtain⟨_,_,_,_,o,_,_,e,ex,_⟩:=I.hok p _ hk;exact⟨o,e,ex⟩
    ·obtain⟨_,_,_,_,o,_,_,e,ex,_⟩:=I.hok p _ hk;exact⟨o,e,ex⟩
   obtain⟨o,e,ex⟩:=z;refine⟨⟨o,e,ex.1⟩,fun a e2=>?_⟩;cases e2;exact⟨o,e,ex.2.1⟩
  ·obtain⟨o,_,_,_,e,ex,_⟩:=I.hok p _ hk;refine⟨⟨o,e,ex.1⟩,fun a e2=>?_⟩;cases e2;exact⟨o,e,ex.2.1⟩
 |_=>exact False.elim ty
def Xd(K:W.Frag)(T:String)(r:V→List V→Hp→VK→Prop)(to:TE)(t:TA):TE:=fun σ H Q=>to σ H fun x H1=>Wo K T x H1∧t σ H1 fun xs H2=>r x xs H2 Q
variable{o e:Expr}{es:List Expr}{to:TE}{t:TA}{name:Str}{apos cpos:Pos}{T id:String}{r:V→List V→Hp→VK→Prop}
theorem sE(pa:PlainAttrs T)(slot:Slot T name id)(hty:typeOf (.builtin id)=pure (.type "method_descriptor"))(hm:Vm X id r)(ho:PE X o to)(ha:PA X (e::es) t)
  (hbase:attributeBase o name X.env (eval o X.env)=eval o X.env:=by rfl)
  (hfew:((backTo cpos (starEach (e::es) X.env)).all (fun x=>!x.1)&&(backToKw cpos (keywordEach [] X.env)).all (fun x=>x.1.isSome)
   &&decide ((e::es).length+([]:List Keyword).length+(if([]:List Keyword).isEmpty then 0 else 1)<30))=true:=by rfl)
  (hline:(apos.endLine==cpos.line)=true:=by rfl) (hs:starEach (e::es) X.env=(false,eval e X.env)::starEach es X.env:=by rfl) (hplain:(backTo cpos (starEach es X.env)).any (·.1)=false:=by rfl):
  PE X (.Call (.Attribute o name apos) (e::es) [] cpos) (Xd X.K T r to t):=by
 intro pins s σ H Q I h;refine wpAny_Call_method_late hbase hfew hline rfl (bX (ho pins s σ H _ I h) fun v s1 ⟨x,H1,I1,r1,ty,q1⟩=>?_);obtain⟨h1,h2⟩:=b4l I1 r1 ty;refine⟨T,id,pa,slot,hty,h1,h2,?_⟩;have hA:=ha cpos pins s1 σ H1 _ I1 q1;rw[hs]at hA ⊢;refine Calls.callWith_builtin (by show(false||(backTo cpos (starEach es X.env)).any (·.1))=false;rw[hplain]<;>rfl) (GV ?_);exact bX hA fun us s2 ⟨vs,H2,I2,r2,q2⟩=>hm pins s2 σ H2 x vs v us Q I2 r1 r2 q2
end
end L2
namespace L2
open PySem PySem.Spec PyProof.Rows
def Xk(X:Cx)(id:String)(r:V→List V→Hp→VK→Prop):Prop:=
 ∀(pins:List (Addr×Obj)) (s:Shared) (σ:St) (H:Hp) (x:V) (xs:List V) (v:Value) (us:List Value) (Q:VK),Inv X pins σ H s→Cg x v→Bw xs us→r x xs H Q→
  wpAny (model X.prog X.w) X.A (call (.builtin id) (v::us)) (EP X pins σ Q) X.xe s
theorem Bw.one:∀{x:V} {us:List Value},Bw [x] us→∃u,us=[u]∧Cg x u
 |_,_,.cons r .nil=>⟨_,rfl,r⟩
section
variable{X:Cx}{pins:List (Addr×Obj)}{σ:St}{H:Hp}{s:Shared}{l b:Addr}{xs ys zs:List V}
theorem Inv.lset{its its':List Value}{n:Nat}{f:Array Value→Array Value}{t':Nat}(I:Inv X pins σ H s)(hH:H l=some (.lst xs))
  (e:s.heap.get? l=some {cls:=.type "list",data:=.seq its.toArray n})(hf:f its.toArray=its'.toArray)(hv:Bw ys its')(hz:ys.length≤sizeLine):
  Inv X pins σ (upd H l (.lst ys)) {s with heap:=s.heap.update l (Obj.mapSeq f),toks:=t'}:=by
 have q:=PySem.IsL.update e f;rw[hf]at q;refine I.write (x:=l) (e:=l) (by rw[hH];exact trivial) (.inl rfl) (fun b' u hb hu=>(CB s.heap (Obj.mapSeq f) (BU hb)).trans hu) ⟨_,q⟩ ?_;exact⟨hz,its',_,hv,q⟩
theorem Inv.lnew{its:List Value}{t':Nat}(I:Inv X pins σ H s)(hv:Bw ys its)(hz:ys.length≤sizeLine):
  Inv X pins σ (upd H s.heap.objs.size (.lst ys)) {s with heap:=s.heap.push {cls:=.type "list",data:=.seq its.toArray},toks:=t'}:=
 I.laid (fun _ _ q=>AD _ q) (AU _) ⟨hz,its,0,hv,BA _ rfl⟩
theorem Inv.fresh(I:Inv X pins σ H s):H s.heap.objs.size=none:=I.hok.fresh (AU _)
theorem Inv.lstM(I:Inv X pins σ H s)(hH:H l=some (.lst xs)):xs.length≤sizeLine∧∃(its:List Value) (n:Nat),Bw xs its∧xs.length=its.length∧s.heap.get? l=some {cls:=.type "list",data:=.seq its.toArray n}:=by
 obtain⟨z,its,n,r,e⟩:=I.hok l _ hH;exact⟨z,its,n,r,r.length,e⟩
end
section
variable{X:Cx}
def Ra:V→List V→Hp→VK→Prop:=fun x vs H Q=>∃l xs y,x=.ref l∧vs=[y]∧H l=some (.lst xs)∧xs.length<sizeLine∧Q .non (upd H l (.lst (xs++[y])))
theorem a3z:Xk X "list.append" Ra:=by
 intro pins s σ H x vs v us Q I rx rv h;obtain⟨l,xs,y,rfl,rfl,hH,hz,q⟩:=h;cases rx;obtain⟨u,rfl,ru⟩:=rv.one;obtain⟨z,its,n,r,hl,e⟩:=I.lstM hH;refine FW F.slot_list_append ⟨_,e,rfl⟩ F.entry_list_append (F.args_list_append_2 _ _) (PySem.list_append l its.toArray n u (by rw[AJ];omega)) ⟨e,?_⟩;refine⟨.non,_,I.lset (its':=its++[u]) hH e (by simp) (r.append (.cons ru .nil)) ?_,rfl,q⟩;rw[BF,CK];omega
end
end L2
namespace L2
open PySem PySem.Spec PyProof.Rows
section
variable{κ:Type} [DecidableEq κ]
def Ih(kvs:List (κ×V))(k:κ):Option V:=(kvs.find? fun kv=>decide (kv.1=k)).map (·.2)
theorem a5d{p:κ×V}{r:List (κ×V)}{k:κ}(e:p.1=k):Ih (p::r) k=some p.2:=by simp[Ih,CV,e]
theorem a5e{p:κ×V}{r:List (κ×V)}{k:κ}(e:¬p.1=k):Ih (p::r) k=Ih r k:=by simp[Ih,CV,e]
theorem Nq.isSome_eq{o:Option V}{u:Option Value}(r:Nq o u):o.isSome=u.isSome:=by
 cases o with
 |none=>cases u with
  |none=>rfl
  |some _=>exact(show False from r).elim
 |some _=>cases u with
  |none=>exact(show False from r).elim
  |some _=>rfl
theorem KV.val{kvs:List (κ×V)}{vs:List (κ×Value)}(r:KV kvs vs)(k:κ):Nq (Ih kvs k) (valueAt vs k):=by
 unfold KV at r
 induction r with
 |nil=>exact True.intro
 |@cons p q ps qs h t ih=>
  obtain⟨h1,h2⟩:=h;by_cases e:p.1=k
  ·have e':q.1=k:=h1.symm.trans e;have b:valueAt (q::qs) k=some q.2:=by simp[valueAt,CV,e']
   rw[a5d e,b];exact h2
  ·have e':¬q.1=k:=fun z=>e (h1.trans z);have b:valueAt (q::qs) k=valueAt qs k:=by simp[valueAt,CV,e']
   rw[a5e e,b];exact ih
end
theorem a8j{P:Program}{w:World}{k:Key}{u:Value}(r:Cg (kV k) u):(mixKind P w).is k u=true:=by
 cases k with
 |inl i=>obtain⟨t,e⟩:=(show∃t,u=Value.int i t from r);subst e;exact xB P w i t
 |inr x=>obtain⟨t,e⟩:=(show∃t,u=Value.str x t from r);subst e;exact iB P w x t
theorem mK{P:Program}{w:World}:∀{ks:List Key} {us:List Value},Bw (ks.map kV) us→ItemsAre (mixKind P w) ks us
 |[],_,r=>by rw[GB]at r;cases r;exact .nil
 |k::ks,_,r=>by
  rw[AO]at r;cases r with
  |cons h t=>exact .cons (a8j h) (mK t)
abbrev KT(H:Hp):List (List Key×V)→List (List Key×Addr×Value)→Prop:=Paired fun p q=>p.1=q.1∧H q.2.1=some (.tup (p.1.map kV))∧Cg p.2 q.2.2
section
variable{P:Program}{w:World}{H:Hp}{h:Heap}{a:Addr}
theorem b8b{u:HO}(ok:Hf P w H h)(e:Rd H a u):Dw P w H h a u:=e.ok ok
theorem b6k{ks:List Key}(ok:Hf P w H h)(e:H a=some (.tup (ks.map kV))):(tupleKind (mixKind P w)).is h ks a:=by
 obtain⟨_,its,r,o,h1,h2,n,h3⟩:=(show Dw P w H h a (.tup (ks.map kV))from ok a _ e);exact⟨o,its.toArray,n,h1,h2,h3,by simpa using mK r⟩
theorem b9q{kvs:List (List Key×V)}(ok:Hf P w H h)(e:Rd H a (.dT kvs)):kvs.length≤sizeLine∧(a==sysModules)=false∧
  ∃xs,KT H kvs xs∧h.DictOfH (tupleKind (mixKind P w)) a xs:=by
 obtain⟨z,y,xs,r,o,es,ep,h1,h2,h3,h4,h5⟩:=(show Dw P w H h a (.dT kvs)from b8b ok e);refine⟨z,y,xs,r,o,es,ep,h1,h2,h3,h4,fun x hx=>?_,h5⟩;have all:∀{l:List (List Key×V)} {m:List (List Key×Addr×Value)},KT H l m→∀x∈m,(tupleKind (mixKind P w)).is h x.1 x.2.1:=by
  intro l m q
  induction q with
  |nil=>intro x hx;exact nomatch hx
  |@cons p q ps qs hq t ih=>
   intro x hx;obtain e|hx:=AN.mp hx
   ·subst e;exact b6k ok (by rw[←hq.1];exact hq.2.1)
   ·exact ih x hx
 exact all r x hx
theorem qN{kvs:List (List Key×V)}(ok:Hf P w H h)(e:H a=some (.dT kvs)):kvs.length≤sizeLine∧(a==sysModules)=false∧
  ∃xs,KT H kvs xs∧h.DictOfH (tupleKind (mixKind P w)) a xs:=b9q ok (.inl e)
end
section
variable{X:Cx}{pins:List (Addr×Obj)}{σ:St}{H:Hp}{s:Shared}{a:Addr}{y v:V}{u r:Value}{o:Option V}{A:Around}{E:Value→Shared→Prop}
theorem b3t{h':Heap}{t':Nat}{ob:HO}(I:Inv X pins σ H s)(mu:Uy (H a))(hs:Heap.SameBut a s.heap h')(he:∃q,h'.get? a=some q)(new:Dw X.prog X.w (upd H a ob) h' a ob):
  Inv X pins σ (upd H a ob) {s with heap:=h',toks:=t'}:=
 I.write (x:=a) (e:=a) mu (.inl rfl) (fun b q hb z=>(hs.2 b hb).trans z) he new
end
def Ux(i:Expr):Prop:=∀ov iv,subscripted i false ov iv=operate [ov,iv] (getItem ov iv)
theorem b0o{prog:Program}{w:World}{A:Around}{E:Value→Shared→Prop}{s:Shared}{pos:Pos}{T id:String}{Q:Value→Shared→Prop}
  (hl:typeLookup (.type T) "__getitem__"=pure (some (.builtin id)))(hs:Ux slice)
  (h:wpAny (model prog w) A (eval value env) (fun o s₁=>wpAny (model prog w) A (eval slice env) (fun i s₂=>s₂.TypeIs o T∧wpAny (model prog w) A (getItem o i) Q E s₂) E s₁) E s):
  wpAny (model prog w) A (eval (.Subscript value slice pos) env) Q E s:=by
 refine Subscript_ (BV h (fun o s₁ h₁=>BV h₁ (fun i s₂ h₂=>?_) fun _ _ x=>x) fun _ _ x=>x);obtain⟨hT,h₂⟩:=h₂;unfold subscriptTail;refine AB ?_;rw[getitemInPython_of_ne hT.not_modules];refine AB (FI hT hl ?_);have fin:wpAny (model prog w) A (subscripted slice false o i) (fun r s₃=>wpAny (model prog w) A (letTemporaryGo value o r>>=fun _=>pure r) Q E s₃) E s₂:=by
  rw[hs o i];exact wpAny_operating (BV h₂ (fun r s₃ h₃=>AB (wpAny_letTemporaryGo (AG h₃))) fun _ _ x=>x)
 first
  |exact AG (AB fin)
  |exact AB (AG (AB fin))
  |exact AB fin
structure M1(X:Cx)(o:Expr)(m:Str)(apos:Pos)(e:Expr)(cpos:Pos):Prop where
 base:attributeBase o m X.env (eval o X.env)=eval o X.env
 few:((backTo cpos (starEach [e] X.env)).all (fun x=>!x.1)&&(backToKw cpos (keywordEach [] X.env)).all (fun x=>x.1.isSome)
  &&decide (([e]:List Expr).length+([]:List Keyword).length+(if([]:List Keyword).isEmpty then 0 else 1)<30))=true
 line:(apos.endLine==cpos.line)=true
 trees:backTo cpos (starEach [e] X.env)=[(false,eval e X.env)]
structure M2(X:Cx)(o:Expr)(m:Str)(apos:Pos)(e f:Expr)(cpos:Pos):Prop where
 base:attributeBase o m X.env (eval o X.env)=eval o X.env
 few:((backTo cpos (starEach [e,f] X.env)).all (fun x=>!x.1)&&(backToKw cpos (keywordEach [] X.env)).all (fun x=>x.1.isSome)
  &&decide (([e,f]:List Expr).length+([]:List Keyword).length+(if([]:List Keyword).isEmpty then 0 else 1)<30))=true
 line:(apos.endLine==cpos.line)=true
 trees:backTo cpos (starEach [e,f] X.env)=[(false,eval e X.env),(false,eval f X.env)]
end L2
namespace Att
open PySem PySem.W PySem.Calls PyProof.Rows
theorem nY{P:Params}{h:Heap}:∀(ns:List Int) (vs:List Value),WellAll P h vs (ns.map WData.int)→IntsAre vs ns:=by
 intro ns
 induction ns with
 |nil=>
  intro vs w;rw[GB]at w;cases w;exact .nil
 |cons n ns ih=>
  intro vs w;rw[AO]at w;cases w with
  |cons a b=>
   cases a;exact .cons _ _ (ih _ b)
theorem a2w{l:OpenLaw}{n:Nat}(hn:l.most=some n){P:Params}{h:Heap}{args:List WData}
  (hpre:l.row.toRowW.claim.pre args=true)(hwl:WellAll P h vals args):
  ∃a vs ns,vals=[Value.ref a]∧args=[WData.list (ns.map WData.int)]∧h.get? a=some {cls:=.type "list",data:=.seq vs.toArray}∧IntsAre vs ns∧ns.length≤n:=by
 have hsh:WShape.hasAll [] args [.list .int]=true:=(pre_splitW hpre).1;have hc:l.pre.holds [] {args:=args}=true:=(pre_splitW hpre).2;obtain⟨d,r,rfl,h1,h2⟩:=hasAllW_cons hsh;obtain rfl:=hasAllW_nil h2;obtain⟨xs,rfl,h3⟩:=hasW_list h1;obtain⟨ns,rfl⟩:=items_int h3;have hlen:ns.length≤n:=by
  unfold OpenLaw.pre at hc;have h4:(WTm.not (.lt (.lit (.int (n:Int))) (.len (.arg 0)))).holds [] {args:=[.list (ns.map .int)]}=true:=by
   have h4:=(holds_andW hc).1;rw[hn]at h4;exact h4
  have h5:=condW_of h4 (w_not (w_lt w_lit (w_len_list (w_arg rfl))));rw[AK]at h5;refine Nat.le_of_not_lt fun q=>?_;have q':(n:Int)<((ns.length:Nat):Int):=by omega
  first
   |(rw[BD q']at h5;exact absurd h5 (by decide))
   |(simp at h5;omega)
 cases hwl with
 |cons w1 w2=>
  cases w2;cases w1 with
  |list ho hall=>exact⟨_,_,ns,rfl,rfl,ho,nY ns _ hall,hlen⟩
theorem a3h(l:OpenLaw)(args:List WData):l.row.toRowW.claim.post args (.bool true) args=true:=
 postW_of (r:=l.row.toRowW) (X:=(true==true))
  (show WShape.has [] (.bool true) .bool=true by first|rfl|decide|simp[WShape.has,WShape.arms,WShape.armsAll])
  (show(WTm.eq .res (.lit (.bool true))).value [] {args:=args,res:=some (.bool true),after:=args}=some (.bool (true==true))from w_eq_bool (w_res rfl) w_lit) rfl
section
variable{prog:Program}{w:World}{A:Around}{E:Value→Shared→Prop}{s:Shared}{K:Frag}
end
end Att
namespace L2
open PySem PySem.Spec PyProof.Rows
theorem rU:∀{vs:List Value} {ns:List Int},IntsAre vs ns→Bw (ns.map V.int) vs
 |_,_,.nil=>.nil
 |_,_,.cons n t h=>.cons ⟨t,rfl⟩ (rU h)
def Rs(H:Hp):Prop:=∀b,H b=none∨∃o xs,H b=some (.frz o (.lst xs))
end L2
namespace L2
open PySem PySem.Spec PyProof.Rows
end L2
namespace L2
open PySem PySem.Spec PyProof.Rows
def Fi(s:Stmt):Arguments:=match s with
 |.FunctionDef _ a _ _ _ _ _ _ _ _=>a
 |_=>{posonlyargs:=[],args:=[],vararg:=none,kwonlyargs:=[],kw_defaults:=[],kwarg:=none,defaults:=[]}
def Dr(s:Stmt):List Stmt:=match s with
 |.FunctionDef _ _ b _ _ _ _ _ _ _=>b
 |_=>[]
def Ag(s:Stmt):Scope:=match s with
 |.FunctionDef _ _ _ _ _ _ sc _ _ _=>sc
 |_=>{kind:=.function,names:=[],isGenerator:=false,isCoroutine:=false}
abbrev Oa:Mu:=fun _ _ _ _ _ _=>False
abbrev E0:XK:=fun _ _ _=>False
theorem b4c{X:Cx}:Jr Oa X E0:=fun _ _ _ _ _ _ _ h=>h.elim
structure Sj(K:W.Frag)(x qual:Str)(st:Stmt)(f:Addr)(fd:FuncData):Prop where
 ex:∃(oc:Value) (od:Option Addr) (kV doc pm:Value) (an:Option Addr) (cdv ct:Value) (osl:Array (Option Value)),
  fd=W.fnOf x qual (Fi st) (Dr st) (Ag st) .none kV doc pm an cdv ct∧K.lookup f=some ⟨oc,od,.func fd,osl⟩∧W.codeIn K cdv qual=true
 kp:W.keepIn K (.ref f)=true
section
variable{P:Program}{w:World}{K:W.Frag}{mg:Str→Option Value}{base:Heap}
theorem Sj.ok{x:Str}{st:Stmt}{f:Addr}{fd:FuncData}{ps:List Str}{k:Nat}{sp:Sp}(F:Sj K x qual st f fd)(S:Bi N ps (Ag st))(len:∀vs H Q E,sp vs H Q E→vs.length=ps.length)
  (hbody:∀(cdv:Value) (A:Around) (outer:List Env) (s:Shared) (H:Hp) (vs:List V) (Q:VK) (E:XK),Cc k (A.deeper (envOfC qual (Ag st) s.heap.objs.size f cdv))→sp vs H Q E→
   ∃t,Mb (Gd Oa P w K mg base N qual (Ag st) f cdv A outer s H E).nox (Dr st) t∧t {nx:=fun _ H'=>Q .non H',rt:=Q} (start N vs) H):Kg P w K mg base Oa (k+1) f fd ps sp:=by
 obtain⟨oc,od,kV,doc,pm,an,cdv,ct,osl,rfl,lk,hcd⟩:=F.ex;refine b9l lk hcd S len fun A outer s H vs Q E hr hsp=>?_;obtain⟨t,h,q⟩:=hbody cdv A outer s H vs Q E hr hsp;exact⟨t,h.nox,q⟩
theorem Sj.binds{x:Str}{st:Stmt}{f:Addr}{fd:FuncData}{ps:List Str}(F:Sj K x qual st f fd)
  (h:∀(kV doc pm:Value) (an:Option Addr) (cdv ct:Value) (us:List Value),us.length=ps.length→bindArgs (W.fnOf x qual (Fi st) (Dr st) (Ag st) .none kV doc pm an cdv ct) ⟨us,[]⟩=pure (ps.zip us)):Ev K fd ps []:=by
 obtain⟨oc,od,kV,doc,pm,an,cdv,ct,osl,rfl,lk,hcd⟩:=F.ex;exact .all (h kV doc pm an cdv ct)
theorem a0b{x:Str}{st:Stmt}{f:Addr}{od an:Option Addr}{osl:Array (Option Value)}{kV:Value}(l:K.lookup f=some ⟨oc,od,.func (W.fnOf x qual (Fi st) (Dr st) (Ag st) .none kV doc pm an cdv ct),osl⟩)
  (c:W.codeIn K cdv qual=true)(k:W.keepIn K (.ref f)=true):Sj K x qual st f (W.fnOf x qual (Fi st) (Dr st) (Ag st) .none kV doc pm an cdv ct):=⟨⟨oc,od,kV,doc,pm,an,cdv,ct,osl,rfl,l,c⟩,k⟩
end
theorem a2u{n:Nat}(h:n≤1000):n<sizeLine:=Nat.lt_of_le_of_lt h (by decide)
theorem nX{A B:Prop}(h:B):if false=true then A else B:=by
 rw[AR BB];exact h
theorem nW{A B:Prop}(h:A):if true=true then A else B:=by
 rw[AS rfl];exact h
def Cf(H H':Hp):Prop:=∀b o,H b=some o→H' b=some o
theorem Cf.refl(H:Hp):Cf H H:=fun _ _ h=>h
theorem Cf.trans{H H1 H2:Hp}(a:Cf H H1)(b:Cf H1 H2):Cf H H2:=fun c o h=>b c o (a c o h)
theorem Cf.free{H H':Hp}(e:Cf H H'){l:Addr}(h:H' l=Option.none):H l=Option.none:=by
 cases q:H l with
 |none=>rfl
 |some o=>
  rw[e l o q]at h;cases h
theorem Cf.seq{K:W.Frag}{H H':Hp}{a:Addr}{xs:List V}(e:Cf H H')(h:Ei K H a xs):Ei K H' a xs:=by
 rcases h with(h|⟨o,h⟩)|h
 ·exact .inl (.inl (e _ _ h))
 ·exact .inl (.inr ⟨o,e _ _ h⟩)
 ·exact .inr h
end L2
namespace L2
open PySem PySem.Spec PyProof.Rows
theorem Inv.track{X:Cx}{pins:List (Addr×Obj)}{σ:St}{H:Hp}{s:Shared}{D:Addr}{ys:List V}{us:List Value}{n:Nat}(I:Inv X pins σ H s)
  (hD:s.heap.get? D=some {cls:=.type "list",data:=.seq us.toArray n})(r:Bw ys us)(hz:ys.length≤sizeLine)(hn:H D=none)(hs:X.s₀.heap.objs.size≤D)(hL:D≠X.env.locals)
  (hc:∀x c,X.env.cells.lookup x=some c→c≠D)(hp:∀p∈X.pn++pins,p.1≠D):Inv X pins σ (upd H D (.lst ys)) s:=by
 have ne:∀b u,H b=some u→b≠D:=fun b u e=>bO e hn;refine I.step (g':=s.gens) (d':=s.drawn) (t':=s.toks) (h':=s.heap) (ch:=[D]) (fun b hb=>?_) (fun b o _ _ _ e _=>e) (fun b o _ _ _ e _=>⟨o.slots,e⟩) (fun b o hc e n=>?_) (fun b o _ e=>⟨o,e⟩)
  (fun b xs e=>by rw[aT (ne b _ e)];exact e) (fun b o u e=>by rw[aT (ne b _ e)];exact e) (fun b ps e=>⟨#[],by rw[aT (ne b _ e),e];simp⟩) (fun m hm=>hm) (fun b u e=>?_) I.bare
 ·have e:b=D:=by simpa using hb
  subst e;exact⟨.inr hs,hL,hc,hp⟩
 ·rw[aT (by simpa using hc)];exact n
 ·by_cases hb:b=D
  ·subst hb;rw[bY]at e;cases e;exact⟨hz,us,n,r,hD⟩
  ·rw[aT hb]at e;exact(I.hok b u e).stay (fun _ _ _ q=>q) (fun c q=>by rw[aT (ne c _ q)];exact q) fun c xs q=>by rw[aT (ne c _ q)];exact q
def closOf(cells:List (Str×Addr)):List (Str×NameKind)→List (Str×Addr)→List (Str×Addr)
 |[],acc=>acc
 |(n,k)::r,acc=>if k==.free then closOf cells r ((n,(cells.lookup n).getD 0)::acc)else closOf cells r acc
structure Pi(X:Cx)(scope:Scope)(cl:List (Str×Addr)):Prop where
 eq:closureFor scope X.env=pure cl
 sub:∀x c,cl.lookup x=some c→X.env.cells.lookup x=some c
 all:∀x,scope.names.lookup x=some .free→∃c,cl.lookup x=some c
theorem mR{env:Env}:∀(names:List (Str×NameKind)) (acc:List (Str×Addr)),(∀p∈names,p.2=.free→∃c,env.cells.lookup p.1=some c)→
  (forIn names acc fun x r=>(match x with|(name,kind)=>if(kind==NameKind.free)=true then(do let a ←cellOf env name;pure (ForInStep.yield ((name,a)::r)))else pure (ForInStep.yield r):Sem (ForInStep (List (Str×Addr)))))=(pure (closOf env.cells names acc):Sem (List (Str×Addr)))
 |[],acc,_=>rfl
 |(n,k)::r,acc,h=>by
  rw[ET];cases hk:(k==NameKind.free)with
  |true=>
   obtain⟨c,hc⟩:=h (n,k) AM (by simpa using hk);have hc':env.cells.lookup n=some c:=hc;have e:cellOf env n=pure c:=by unfold cellOf;rw[hc']
   have ih:=mR r ((n,c)::acc) fun p hp=>h p (AC _ hp);have e2:closOf env.cells ((n,k)::r) acc=closOf env.cells r ((n,c)::acc):=by
    show(if(k==NameKind.free)=true then _ else _)=_;rw[AS hk,hc'];rfl
   rw[e2,←ih];simp only[hk,DR,e];rfl
  |false=>
   have ih:=mR r acc fun p hp=>h p (AC _ hp);have e2:closOf env.cells ((n,k)::r) acc=closOf env.cells r acc:=by
    show(if(k==NameKind.free)=true then _ else _)=_;rw[AR (by rw[hk];exact BB)]
   rw[e2,←ih];simp only[hk];rfl
theorem kE(cells:List (Str×Addr)):∀(names:List (Str×NameKind)) (acc:List (Str×Addr)),(∀p∈names,p.2=.free→∃c,cells.lookup p.1=some c)→(∀p∈acc,cells.lookup p.1=some p.2)→∀p∈closOf cells names acc,cells.lookup p.1=some p.2
 |[],_,_,h=>h
 |(n,k)::r,acc,hn,h=>by
  unfold closOf;split
  ·rename_i hk;obtain⟨c,hc⟩:=hn (n,k) AM (by simpa using hk);refine kE cells r _ (fun p hp=>hn p (AC _ hp)) fun p hp=>?_;obtain rfl|hp:=AN.mp hp
   ·have hc':cells.lookup n=some c:=hc;rw[hc'];rfl
   ·exact h p hp
  ·exact kE cells r _ (fun p hp=>hn p (AC _ hp)) h
theorem kG(cells:List (Str×Addr)):∀(names:List (Str×NameKind)) (acc:List (Str×Addr)) (x:Str),(∃c,(x,c)∈acc)→∃c,(x,c)∈closOf cells names acc
 |[],_,_,h=>h
 |(n,k)::r,acc,x,h=>by
  unfold closOf;split
  ·exact kG cells r _ x (let⟨c,hc⟩:=h;⟨c,AC _ hc⟩)
  ·exact kG cells r _ x h
theorem kF(cells:List (Str×Addr)):∀(names:List (Str×NameKind)) (acc:List (Str×Addr)) (x:Str),(x,NameKind.free)∈names→∃c,(x,c)∈closOf cells names acc
 |[],_,_,h=>nomatch h
 |(n,k)::r,acc,x,h=>by
  unfold closOf;obtain h|h:=AN.mp h
  ·cases h;rw[AS (by rfl)];exact kG cells r _ _ ⟨_,AM⟩
  ·split
   ·exact kF cells r _ x h
   ·exact kF cells r _ x h
theorem jK{β:Type}:∀{l:List (Str×β)} {x:Str} {c:β},(x,c)∈l→∃d,l.lookup x=some d
 |[],_,_,h=>nomatch h
 |(n,k)::r,x,c,h=>by
  cases hx:(x==n)with
  |true=>exact⟨k,by simp[CA,hx]⟩
  |false=>
   obtain h|h:=AN.mp h
   ·cases h;simp at hx
   ·obtain⟨d,hd⟩:=jK h;exact⟨d,by simp[CA,hx,hd]⟩
theorem vG{X:Cx}{scope:Scope}(h:∀p∈scope.names,p.2=.free→∃c,X.env.cells.lookup p.1=some c):∃cl,Pi X scope cl:=by
 refine⟨closOf X.env.cells scope.names [],?_,fun x c e=>?_,fun x e=>?_⟩
 ·have e:=mR (env:=X.env) scope.names [] h;simp only[closureFor];rw[show(forIn scope.names ([]:List (Str×Addr)) fun x r=>(match x with|(name,kind)=>if(kind==NameKind.free)=true then(do let a ←cellOf X.env name;pure (ForInStep.yield ((name,a)::r)))else pure (ForInStep.yield r):Sem (ForInStep (List (Str×Addr)))))=pure (closOf X.env.cells scope.names [])from e];rfl
 ·exact kE X.env.cells scope.names [] h (fun _ z=>nomatch z) (x,c) (CS e)
 ·obtain⟨c,hc⟩:=kF X.env.cells scope.names [] x (CS e);exact jK hc
def He(X:Cx)(scope:Scope)(cl:List (Str×Addr))(C:Addr)(N:List Str)(s₂:Shared)(H₂:Hp)(fp:List Addr):Cx:=
 {X with N:=N,s₀:=s₂,H₀:=H₂,env:=compEnvC scope cl C X.env,outer:=X.stack,stack:=X.stack,ex:=fp,fn:=fun _=>false,pn:=[],xe:=fun _ _=>False}
theorem iE{env:Env}:∀{names:List (Str×NameKind)} {x:Str},(∀y∈names,y.2≠.cell)→
  ((names.map fun(n,k)=>if(k==NameKind.free&&env.scope.kind==.function&&env.kindOf n==some .cell)then(n,NameKind.cell)else(n,k)).lookup x=some .cell∨
     (names.map fun(n,k)=>if(k==NameKind.free&&env.scope.kind==.function&&env.kindOf n==some .cell)then(n,NameKind.cell)else(n,k)).lookup x=some .free)→names.lookup x=some .free
 |[],_,_,h=>by simp at h
 |(n,k)::r,x,hc,h=>by
  have ih:=@iE env r x fun y hy=>hc y (AC _ hy);have hk:k≠.cell:=hc (n,k) AM;rw[AO]at h;by_cases hf:(k==NameKind.free&&env.scope.kind==.function&&env.kindOf n==some .cell)=true
  ·simp only[hf,DR]at h;cases hx:x==n with
   |true=>
    simp only[CA,hx];simp only[AE,FK]at hf;rw[hf.1.1]
   |false=>
    simp only[CA,hx]at h ⊢;exact ih h
  ·simp only[hf]at h;cases hx:x==n with
   |true=>
    simp only[BH,DB,CA,hx]at h ⊢;obtain h|h:=h
    ·cases h;exact absurd rfl hk
    ·exact h
   |false=>
    simp only[BH,DB,CA,hx]at h ⊢;exact ih h
theorem iF{env:Env}:∀{names:List (Str×NameKind)} {x:Str},names.lookup x=some .free→
  ((names.map fun(n,k)=>if(k==NameKind.free&&env.scope.kind==.function&&env.kindOf n==some .cell)then(n,NameKind.cell)else(n,k)).lookup x=some .cell∨
     (names.map fun(n,k)=>if(k==NameKind.free&&env.scope.kind==.function&&env.kindOf n==some .cell)then(n,NameKind.cell)else(n,k)).lookup x=some .free)
 |[],_,h=>by simp at h
 |(n,k)::r,x,h=>by
  have ih:=@iF env r x;rw[AO];by_cases hf:(k==NameKind.free&&env.scope.kind==.function&&env.kindOf n==some .cell)=true
  ·simp only[hf,DR];cases hx:x==n with
   |true=>exact .inl (by simp[CA,hx])
   |false=>
    simp only[CA,hx]at h ⊢;exact ih h
  ·simp only[hf];cases hx:x==n with
   |true=>
    simp only[BH,DB,CA,hx]at h ⊢;exact .inr h
   |false=>
    simp only[BH,DB,CA,hx]at h ⊢;exact ih h
structure Eh(X:Cx)(scope:Scope)(NF:List Str)(ix:List Nat):Prop where
 len:NF.length=ix.length
 at_:∀(k:Nat) (x:Str),NF[k]?=some x→∃j,ix[k]?=some j∧X.N[j]?=some x∧scope.names.lookup x=some .free∧(X.env.kindOf x=some .cell∨X.env.kindOf x=some .free)
theorem Eh.nil{X:Cx}:Eh X scope [] []:=⟨rfl,fun k x e=>by simp at e⟩
theorem Eh.cons{X:Cx}{scope:Scope}{j:Nat}{ix:List Nat}(h:Eh X scope NF ix)(h1:X.N[j]?=some x:=by rfl)(h2:scope.names.lookup x=some .free:=by rfl)
  (h3:X.env.kindOf x=some .cell∨X.env.kindOf x=some .free:=by first|exact Or.inl rfl|exact Or.inr rfl):Eh X scope (x::NF) (j::ix):=
 ⟨by simp[h.len],fun k y e=>by
  cases k with
  |zero=>simp at e;subst e;exact⟨j,rfl,h1,h2,h3⟩
  |succ k=>simpa using h.at_ k y (by simpa using e)⟩
def Je(nl:Nat)(ix:List Nat)(σ:St):St:=List.replicate nl none++ix.map fun j=>(σ[j]?).join
theorem b7j{X:Cx}{pins:List (Addr×Obj)}{σ:St}{H2:Hp}{s2:Shared}{scope:Scope}{cl:List (Str×Addr)}{fp:List Addr}
  (hkind:scope.kind=.function)(hcell:∀y∈scope.names,y.2≠.cell)(hcl:Pi X scope cl)(I2:Inv X pins σ H2 s2)(f2:∀b∈fp,Jg X pins H2 b)(flt:∀b∈fp,b<s2.heap.objs.size)(hC:s2.heap.objs.size≤C):
  (He X scope cl C N s2 H2 fp).Ok where
 mod:=I2.ok.mod
 kind:=hkind
 glob:=I2.ok.glob
 blt:=I2.ok.blt
 above:=hC
 inj:=fun x y c h1 h2=>I2.ok.inj x y c (hcl.sub x c h1) (hcl.sub y c h2)
 has:=fun x h=>hcl.all x (iE hcell h)
 cab:=fun _ _ h=>nomatch h
 hd:=I2.ok.hd
 frames:=I2.ok.frames
 stk:=.inl rfl
 exf:=fun b hb=>⟨BC (AV (flt b hb) hC),fun x c h=>(f2 b hb).2.2.2.2.1 x c (hcl.sub x c h)⟩
 bs:=I2.bs
 bsz:=BG I2.ok.bsz I2.sz
 noex:=fun b o e hb=>by
  obtain z|z:=(f2 b hb).2.2.2.1
  ·exact I2.ok.noex b o e z
  ·exact absurd (AV (AL e) (BG I2.ok.bsz z)) (EE _)
 exfs:=fun b hb hf=>by
  obtain⟨_,f1,f3,_⟩:=f2 b hb;obtain z|z:=AN.mp (I2.stkSub b hf)
  ·exact f1 z
  ·exact f3 z
 funs:=I2.stack
 frf:=I2.stkFree
theorem xK{X:Cx}{pins:List (Addr×Obj)}{σ:St}{H2:Hp}{s2:Shared}{scope:Scope}{cl:List (Str×Addr)}{D:Addr}{oD:Obj}{NL:List Str}{ix:List Nat}{fp:List Addr}{h₁:Heap}{t:Nat}{m:Str→Option Value}
  (hkind:scope.kind=.function)(hcell:∀y∈scope.names,y.2≠.cell)(hcl:Pi X scope cl)(cap:Eh X scope NF ix)(I2:Inv X pins σ H2 s2)(f2:∀b∈fp,Jg X pins H2 b)(flt:∀b∈fp,b<s2.heap.objs.size)
  (hC:s2.heap.objs.size≤C)(hD:s2.heap.objs.size≤D)(hDC:D≠C)(old:∀b u,s2.heap.get? b=some u→h₁.get? b=some u)(hn:h₁.Ns C m)(hoD:h₁.get? D=some oD)(hdD:∀v,oD.data≠.cell v):
  Inv (He X scope cl C (NL++NF) s2 H2 fp) ((X.pn++pins)++[(D,oD)]) (Je NL.length ix σ) H2 {s2 with heap:=h₁,toks:=t}:=by
 refine⟨b7j hkind hcell hcl I2 f2 flt hC,rfl,I2.bare,Un.kept old,⟨m,hn,fun i x v e1 e2 e3=>?_⟩,fun x c h=>?_,I2.hok.fresh hC,fun x c h=>I2.freeC x c (hcl.sub x c h),fun p hp=>?_,I2.hok.kept old,?_⟩
 ·have e1':(NL++NF)[i]?=some x:=e1;unfold Je at e2;by_cases hi:i<NL.length
  ·rw[CJ (by simpa using hi),ES]at e2;rw[AS hi]at e2;cases e2
  ·rw[CG (by simpa using hi),BO,DZ]at e2;rw[CG (by simpa using hi)]at e1';obtain⟨j,hj,hN,hf,hk⟩:=cap.at_ _ _ e1';rw[hj]at e2;have e3':(σ[j]?).join=some v:=BJ e2;have e4:σ[j]?=some (some v):=by
    cases q:σ[j]? with
    |none=>rw[q]at e3';cases e3'
    |some o=>rw[q]at e3';exact congrArg some e3'
   obtain⟨m2,_,hl⟩:=I2.loc;have hv:Qo X.env.scope x:=hk.elim (fun z=>.inr (.inl z)) fun z=>.inr (.inr z);obtain⟨u,r,l⟩:=hl j x v hN e4 hv;refine⟨u,r,.inr ?_⟩;obtain⟨k,_⟩|⟨_,c,hc,z⟩:=l
   ·obtain z|z:=hk
    ·rw[z]at k;cases k
    ·rw[z]at k;cases k
   ·obtain⟨c',hc'⟩:=hcl.all x hf;have e5:=hcl.sub x c' hc';rw[hc]at e5;cases e5;obtain⟨o,ho,hd⟩:=z;exact⟨iF hf,c,hc',⟨o,old _ _ ho,hd⟩⟩
 ·obtain⟨v,o,ho,hd⟩:=I2.cell x c (hcl.sub x c h);exact⟨v,o,old _ _ ho,hd⟩
 ·have nst:∀b,b≠X.env.locals→b∉X.fs→b∉frs X.stack:=fun b h1 h2 h3=>(AN.mp (I2.stkSub b h3)).elim h1 h2;have hp':p∈(X.pn++pins)++[(D,oD)]:=by simpa[He]using hp
  obtain hp'|hp':=AZ.mp hp'
  ·obtain⟨e,n,ne,nf,d⟩:=I2.pin p hp';exact⟨old _ _ e,n,BC (AV (AL e) hC),nst _ ne nf,d⟩
  ·have e:p=(D,oD):=by simpa using hp'
   subst e;exact⟨hoD,I2.hok.fresh hD,hDC,nst _ (DJ (AV I2.lt hD)) (I2.nofs hD),hdD⟩
 ·show(Je NL.length ix σ).length=(NL++NF).length;unfold Je;rw[BF,BF,AK,DZ,cap.len]
theorem vF{R:Result→Shared→Prop}{E:Value→Shared→Prop}(I:Nat→Shared→Prop)
  (hE:∀e s',E e s'→notedBy (model prog w) A env (fun e s'=>R (.error e) s') e s')
  (turn:∀n s,I n s→wpAny (model prog w) A (pyNext it) (fun r s₁=>match r with
   |none=>R (.ok .next) s₁
   |some v=>wpAny (model prog w) A (letOwnedTupleGo target it v) (fun _ s₁'=>wpAny (model prog w) A (assign target env v) (fun _ s₂=>
     wpAny (model prog w) A (forIn ifs true fun c r=>if r=true then do let ok ←isTrue c env (eval c env);pure (ForInStep.yield ok)else pure (ForInStep.yield r)) (fun ok s₃=>
      if ok=true then wpAny (model prog w) A (eval elt env) (fun x s₄=>
       wpAny (model prog w) A (call (.builtin "list.append") [acc,x]) (fun _ s₅=>∃m,m<n∧I m s₅) E s₄) E s₃
      else∃m,m<n∧I m s₃) E s₂) E s₁') E s₁) E s)
  (n:Nat) (h:I n s):codeAny (model prog w) A (.compLoop (.ListComp elt [⟨target,iter,ifs,0⟩] scope pos) 0 it acc env) R s:=by
 refine codeAny_loop rfl I (fun n s hI=>?_) n h;refine wpAny_noted ?_;rw[compTurn_list];refine AB (FB (AB (BV (turn n s hI) (fun r s₁ h₁=>?_) hE)));cases r with
 |none=>exact AG h₁
 |some v=>
  refine AB (BV h₁ (fun _ s₁' h₁'=>?_) hE);refine AB (BV h₁' (fun _ s₂ h₂=>AB (BV h₂ (fun ok s₃ h₃=>?_) hE)) hE);cases ok with
  |false=>exact AG ⟨rfl,h₃⟩
  |true=>
   exact AB (AB (BV h₃ (fun x s₄ h₄=>AB (BV h₄ (fun _ s₅ h₅=>AG (AG ⟨rfl,h₅⟩)) hE)) hE))
def Js(X:Cx)(ifs:List Expr)(t:TT):Prop:=
 ∀(pins:List (Addr×Obj)) (s:Shared) (σ:St) (H:Hp) (Q:Bool→Hp→Prop),Inv X pins σ H s→t σ H Q→
  wpAny (model X.prog X.w) X.A (forIn ifs true fun c r=>if r=true then do let ok ←isTrue c X.env (eval c X.env);pure (ForInStep.yield ok)else pure (ForInStep.yield r)) (TP X pins σ Q) X.xe s
def Tk:TT:=fun _ H Q=>Q true H
theorem wN{X:Cx}:Js X [] Tk:=fun pins s σ H Q I h=>wpAny_tests_nil ⟨H,I,h⟩
theorem a6k{X:Cx}{t:TT}(h:PT X c t):Js X [c] t:=fun pins s σ H Q I hw=>wpAny_tests_one (h pins s σ H Q I hw)
def Nu(J:It)(g:TG)(tt:TT)(te:TE)(Fin:List V→Hp→Prop)(σ:St)(H:Hp):Prop:=∃W:Nat→Nat→List V→St→Hp→Prop,(∃m,W 0 m [] σ H)∧∀i m ys σ H,W i m ys σ H→ys.length≤sizeLine∧
 ((J.stop i H∧Fin ys H)∨(J.go i H∧∀x H',J.yld i H x H'→g x σ H' fun σ2 H2=>tt σ2 H2 fun b H3=>if b=true then te σ2 H3 fun y H4=>∃m',m'<m∧W (i+1) m' (ys++[y]) σ2 H4 else∃m',m'<m∧W (i+1) m' ys σ2 H3))
abbrev Hk(us:List Value)(n:Nat):Obj:={cls:=.type "list",data:=.seq us.toArray n}
theorem tF{X:Cx}{scope:Scope}{NL:List Str}{ix:List Nat}{cl:List (Str×Addr)}{g:TG}{tt:TT}{te:TE}{E:Value→Shared→Prop}
  {pins:List (Addr×Obj)}{σ:St}{H2:Hp}{s2:Shared}{fp:List Addr}{tn:Nat→Heap→Prop}{J:It}{Fin:List V→Hp→Prop}{RR:Value→Addr→Result→Shared→Prop}
  (hkind:scope.kind=.function)(hcell:∀y∈scope.names,y.2≠.cell)(hcl:Pi X scope cl)(cap:Eh X scope NF ix)(calm:X.calm=true)
  (hg:∀C s₂ H₂ fp,PG (He X scope cl C (NL++NF) s₂ H₂ fp) tg g)(hi:∀C s₂ H₂ fp,Js (He X scope cl C (NL++NF) s₂ H₂ fp) ifs tt)(he:∀C s₂ H₂ fp,PE (He X scope cl C (NL++NF) s₂ H₂ fp) elt te)
  (I2:Inv X pins σ H2 s2)(T:Ms X.prog X.w X.K tg J fp it tn)(st2:tn 0 s2.heap)(f2:∀b∈fp,Jg X pins H2 b)(hw:Nu J g tt te Fin (Je NL.length ix σ) H2)
  (hRR:∀(D C:Addr) (us:List Value) (n:Nat) (ys:List V) (H':Hp) (s':Shared),Inv X pins σ H' s'→s'.heap.get? D=some (Hk us n)→Bw ys us→ys.length≤sizeLine→H' D=none→s2.heap.objs.size≤D→s2.heap.objs.size≤C→D≠C→H' C=none→
   (∃m,s'.heap.Ns C m)→Fin ys H'→RR (.ref D) C (.ok .next) s'):
  wpAny (model X.prog X.w) X.A (newList []) (fun acc s₃=>wpAny (model X.prog X.w) X.A (newFunctionEnv scope X.env.globals cl [] X.env.qual none .none (some X.env)) (fun cenv s₄=>
   codeAny (model X.prog X.w) X.A (.compStart (.ListComp elt [⟨tg,iter,ifs,0⟩] scope pos) 0 (.ref it) acc {cenv with scope:=relabel scope X.env}) (RR acc cenv.locals) s₄) E s₃) E s2:=by
 obtain⟨W,⟨m0,w0⟩,turn⟩:=hw;have flt:∀b∈fp,b<s2.heap.objs.size:=fun b hb=>let⟨o,e,_⟩:=T.obj _ _ st2 b hb;AL e;refine CC (wpAny_newFunctionEnv hcell (by intro y hy;simp at hy) (fun h₁ hns₁ hsb₁=>?_) hkind);dsimp only at hns₁ hsb₁ ⊢;generalize hH2:s2.heap.push {cls:=.type "list",dict:=none,data:=.seq ([]:List Value).toArray}=G2 at hns₁ hsb₁ ⊢;have hC:G2.objs.size=s2.heap.objs.size+1:=by rw[←hH2,EB]
 have hDC:s2.heap.objs.size≠G2.objs.size:=by rw[hC];exact BC (Nat.lt_succ_self _)
 have hCle:s2.heap.objs.size≤G2.objs.size:=by rw[hC];exact HG _
 have below:∀b,b<s2.heap.objs.size→b≠G2.objs.size:=fun b hb=>by rw[hC];exact BC (Nat.lt_succ_of_lt hb)
 have old:∀b o,s2.heap.get? b=some o→h₁.get? b=some o:=fun b o e=>hsb₁.extBut b o (below b (AL e)) (AD _ (hH2▸AD _ e));have hacc:h₁.get? s2.heap.objs.size=some (Hk [] 0):=hsb₁.extBut _ _ hDC (AD _ (hH2▸BA _ rfl));have st1:tn 0 h₁:=T.keep _ _ _ st2 fun b _ o e=>old b o e;have I1:=xK (NL:=NL) (t:=s2.toks+([]:List (Str×Value)).length) hkind hcell hcl cap I2 f2 flt hCle (AU _) hDC old hns₁ hacc (fun v z=>by cases z);have stat:∀{H':Hp} {oD:Obj},(∀b∈fp,H' b=none)→∀b∈fp,Jg (He X scope cl G2.objs.size (NL++NF) s2 H2 fp) ((X.pn++pins)++[(s2.heap.objs.size,oD)]) H' b:=fun{H' oD} hn b hb=>by
  obtain⟨_,f1,f3,f4,f5,f6⟩:=f2 b hb;refine⟨hn b hb,below b (flt b hb),fun z=>(AN.mp (I2.stkSub b z)).elim f1 f3,.inl hb,fun x c h=>f5 x c (hcl.sub x c h),fun p hp=>?_⟩;have hp':p∈(X.pn++pins)++[(s2.heap.objs.size,oD)]:=by simpa[He]using hp
  obtain hp'|hp':=AZ.mp hp'
  ·exact f6 p hp'
  ·have e:p=(s2.heap.objs.size,oD):=by simpa using hp'
   subst e;exact DJ (flt b hb)
 have loop:∀s₃:Shared,s₃={s2 with heap:=h₁,toks:=s2.toks+([]:List (Str×Value)).length}→
   codeAny (model X.prog X.w) X.A (.compLoop (.ListComp elt [⟨tg,iter,ifs,0⟩] scope pos) 0 (.ref it) (.ref s2.heap.objs.size) (compEnvC scope cl G2.objs.size X.env)) (RR (.ref s2.heap.objs.size) G2.objs.size) s₃:=by
  rintro s₃ rfl;refine vF (E:=fun _ _=>False) (fun k s'=>∃i ys us n σ' H',Inv (He X scope cl G2.objs.size (NL++NF) s2 H2 fp) ((X.pn++pins)++[(s2.heap.objs.size,Hk us n)]) σ' H' s'∧tn i s'.heap∧(∀b∈fp,H' b=none)∧Bw ys us∧W i k ys σ' H')
   (fun _ _ z=>z.elim) ?_ m0 ⟨0,[],[],0,_,H2,I1,st1,fun b hb=>(f2 b hb).1,.nil,w0⟩
  rintro k s' ⟨i,ys,us,n,σ',H',I',st',fr',rv,w'⟩;obtain⟨hlen,hcase⟩:=turn i k ys σ' H' w';obtain⟨stop,fin⟩|⟨go,step⟩:=hcase
  ·refine bX (T.done (He X scope cl G2.objs.size (NL++NF) s2 H2 fp) rfl rfl rfl calm i _ s' σ' H' _ I' (stat fr') st' stop) fun r s4 ⟨hr,I4⟩=>?_;subst hr;have hpD:=I4.pin (s2.heap.objs.size,Hk us n) (by simp[He]);have IX:Inv X pins σ H' s4:=I2.call' (ch:=fp) I4.os I4.base I4.hok I4.bare fun b hb=>by
    obtain⟨_,f1,f3,f4,f5,f6⟩:=f2 b hb;exact⟨f4,f1,f5,f6⟩
   obtain⟨mC,hnC,_⟩:=I4.loc;exact hRR _ _ us n ys H' s4 IX hpD.1 rv hlen hpD.2.1 (AU _) hCle hDC I4.free ⟨mC,hnC⟩ fin
  ·refine bX (T.item (He X scope cl G2.objs.size (NL++NF) s2 H2 fp) rfl rfl rfl calm i _ s' σ' H' _ I' (stat fr') st' go) fun r s4 ⟨u,hr,h4⟩=>?_;subst hr;refine bX h4 fun _ s5 ⟨x,H5,I5,r5,y5,st5,fr5⟩=>?_;have I5':=I5.pinned (stat fr5) (T.obj _ _ st5);refine bX (hg _ _ _ _ _ s5 σ' H5 x u _ I5' r5 (step x H5 y5)) fun _ s6 ⟨σ6,H6,I6,q6⟩=>?_;refine bX (hi _ _ _ _ _ s6 σ6 H6 _ I6 q6) fun ok s7 ⟨H7,I7,q7⟩=>?_;have keepT:∀{σ8:St} {H8:Hp} {s8:Shared},Inv (He X scope cl G2.objs.size (NL++NF) s2 H2 fp) (((X.pn++pins)++[(s2.heap.objs.size,Hk us n)])++Jl fp s5.heap) σ8 H8 s8→tn (i+1) s8.heap∧∀b∈fp,H8 b=none:=fun{σ8 H8 s8} I8=>by
    refine⟨T.keep _ _ _ st5 fun b hb o e=>(I8.pin (b,o) (AX _ (AX _ (dP hb e)))).1,fun b hb=>?_⟩;obtain⟨o,e,d⟩:=T.obj _ _ st5 b hb;exact(I8.pin (b,o) (AX _ (AX _ (dP hb e)))).2.1
   cases ok with
   |false=>
    simp only[BH,DB]at q7 ⊢;obtain⟨m',hm,w7⟩:=q7;obtain⟨t7,n7⟩:=keepT I7;exact⟨m',hm,i+1,ys,us,n,σ6,H7,I7.unpinned,t7,n7,rv,w7⟩
   |true=>
    simp only[DR]at q7 ⊢;refine bX (he _ _ _ _ _ s7 σ6 H7 _ I7 q7) fun yv s8 ⟨y,H8,I8,r8,m',hm,w8⟩=>?_;obtain⟨t8,n8⟩:=keepT I8;have pD:=I8.pin (s2.heap.objs.size,Hk us n) (AX _ (BE _ (by simp)));have hul:us.length=ys.length:=rv.length.symm;refine wpAny_list_append_plain (items:=us.toArray) (hsz:=by simpa[hul]using hlen) ⟨n,pD.1⟩ fun h9 hl9 hs9=>?_;obtain⟨n9,e9⟩:=hl9;have I8a:Inv (He X scope cl G2.objs.size (NL++NF) s2 H2 fp) (X.pn++pins) σ6 H8 s8:=I8.pins_of fun p hp=>I8.pin p (AX _ (BE _ (BE _ hp)));have I9:Inv (He X scope cl G2.objs.size (NL++NF) s2 H2 fp) (X.pn++pins) σ6 H8 {s8 with heap:=h9,toks:=s8.toks}:=by
     refine I8a.turned (it:=s2.heap.objs.size) (fun b o hb e=>(hs9.2 b hb).trans e) pD.2.1 hDC (.inr (AU _)) (fun x c h=>?_) fun p hp=>?_
     ·obtain⟨v,o,ho,_⟩:=I2.cell x c (hcl.sub x c h);exact BC (AL ho)
     ·have hp':p∈X.pn++pins:=by simpa[He]using hp
      exact BC (AL (I2.pin p hp').1)
    have e9':h9.get? s2.heap.objs.size=some (Hk (us++[yv]) n9):=by
     rw[e9,List.push_toArray]
    refine⟨m',hm,i+1,ys++[y],us++[yv],n9,σ6,H8,I9.pins_of fun p hp=>?_,T.keep _ _ _ t8 fun b hb o e=>(hs9.2 b (BC (flt b hb))).trans e,n8,rv.append (.cons r8 .nil),w8⟩;obtain hp|hp:=AZ.mp hp
    ·exact I9.pin p (AX _ hp)
    ·have e:p=(s2.heap.objs.size,Hk (us++[yv]) n9):=by simpa using hp
     subst e;exact⟨e9',pD.2.1,pD.2.2.1,pD.2.2.2.1,fun v z=>by cases z⟩
 exact codeAny_compStart_list (loop _ rfl) (T.self _ 0 _ _ _ st1 (loop _ rfl))
def Pp(nl:Nat)(ix:List Nat)(wi:TI)(g:TG)(tt:TT)(te:TE):TE:=fun σ H Q=>wi σ H fun J H1=>Nu J g tt te (fun ys H'=>∀p,H' p=none→Q (.ref p) (upd H' p (.lst ys))) (Je nl ix σ) H1
theorem b1n{X:Cx}{scope:Scope}{NL:List Str}{ix:List Nat}{wi:TI}{g:TG}{tt:TT}{te:TE}
  (hkind:scope.kind=.function)(hcell:∀y∈scope.names,y.2≠.cell)(hnames:∀y∈scope.names,y.2=.local→scope.names.lookup y.1=some .local)
  (hfree:∀y∈scope.names,y.2=.free→(X.env.kindOf y.1=some .cell∨X.env.kindOf y.1=some .free))(cap:Eh X scope NF ix)(calm:X.calm=true)(hit:PI X tg iter wi)
  (hg:∀cl C s₂ H₂ fp,PG (He X scope cl C (NL++NF) s₂ H₂ fp) tg g)(hi:∀cl C s₂ H₂ fp,Js (He X scope cl C (NL++NF) s₂ H₂ fp) ifs tt)(he:∀cl C s₂ H₂ fp,PE (He X scope cl C (NL++NF) s₂ H₂ fp) elt te)
  (hs:∀x,foldedSetIterable iter X.env x=pure x:=by intro _;rfl):
  PE X (.ListComp elt [⟨tg,iter,ifs,0⟩] scope pos) (Pp NL.length ix wi g tt te):=by
 intro pins s σ H Q I h;obtain⟨cl,hcl⟩:=vG (X:=X) (scope:=scope) fun p hp hf=>I.ok.has p.1 (hfree p hp hf)
 rw[eval_ListComp];refine wpAny_comprehension_free (use:=none) rfl hs hcl.eq hkind hnames (bX (hit pins s σ H _ I h) fun v s1 h1=>bX h1 fun itv s2 h2=>?_);obtain⟨it,fp,tn,J,H2,e,I2,T,st2,f2,hw⟩:=h2;subst e;refine tF (RR:=fun acc C=>compPost (model X.prog X.w) X.A X.xe none (EP X pins σ Q) acc C) hkind hcell hcl cap calm (hg cl) (hi cl) (he cl) I2 T st2 f2 hw fun D C us n ys H' s' I' eD rv hlen nD hD hC hDC nC ⟨m,hn⟩ fin=>?_;refine⟨m,hn,fun h' hs'=>?_⟩;have lt2:∀b,b<s2.heap.objs.size→b≠C∧b≠D:=fun b hb=>⟨BC (AV hb hC),BC (AV hb hD)⟩;have cl2:∀x c,X.env.cells.lookup x=some c→c<s2.heap.objs.size:=fun x c h=>let⟨_,_,ho,_⟩:=I2.cell x c h;AL ho;have pn2:∀p∈X.pn++pins,p.1<s2.heap.objs.size:=fun p hp=>AL (I2.pin p hp).1;have IC:Inv X pins σ H' {s' with heap:=h',toks:=s'.toks}:=I'.turned (it:=C) (fun b o hb e=>(hs'.2 b hb).trans e) nC (BU (lt2 _ I2.lt).1) (.inr (BG I2.sz hC)) (fun x c h=>(lt2 c (cl2 x c h)).1) fun p hp=>(lt2 _ (pn2 p hp)).1;have ID:=IC.track (D:=D) (us:=us) (n:=n) ((hs'.2 D hDC).trans eD) rv hlen nD (BG I2.sz hD) (BU (lt2 _ I2.lt).2) (fun x c h=>(lt2 c (cl2 x c h)).2) fun p hp=>(lt2 _ (pn2 p hp)).2;exact⟨.ref D,_,ID,rfl,fin D nD⟩
end L2
namespace DL
open PySem PySem.Spec PyProof.Rows L2
abbrev St:=L2.St
inductive D where
 |non|bl (b:Bool)|int (i:Int)|str (x:Str)|tup (xs:List D)|lst (xs:List D)|fn (a:Addr)|dk (kvs:List (L2.Key×V))
mutual
def Bf(K:W.Frag)(H:Hp):D→V→Prop
 |.non,v=>v=V.non
 |.bl b,v=>v=V.bl b
 |.int i,v=>v=V.int i
 |.str x,v=>v=V.str x
 |.tup xs,v=>∃a vs,v=V.ref a∧Eb K H a vs∧At K H xs vs
 |.lst xs,v=>∃a vs,v=V.ref a∧Ei K H a vs∧At K H xs vs
 |.fn a,v=>v=V.ref a
 |.dk kvs,v=>∃a,v=V.ref a∧Rd H a (.dK kvs)
def At(K:W.Frag)(H:Hp):List D→List V→Prop
 |[],vs=>vs=[]
 |d::ds,vs=>∃v r,vs=v::r∧Bf K H d v∧At K H ds r
end
mutual
def Dt:D→Bool
 |.lst _=>false
 |.dk _=>false
 |.tup xs=>Dv xs
 |_=>true
def Dv:List D→Bool
 |[]=>true
 |d::ds=>Dt d&&Dv ds
end
mutual
def dep:D→Nat
 |.lst xs=>Eg xs+1
 |.tup xs=>Eg xs+1
 |_=>0
def Eg:List D→Nat
 |[]=>0
 |d::ds=>max (dep d) (Eg ds)
end
section
variable{K:W.Frag}{H H':Hp}
mutual
theorem Bf.map(ht:∀a vs,Eb K H a vs→Eb K H' a vs)(hl:∀a vs,Ei K H a vs→Ei K H' a vs)(hd:∀a kvs,Rd H a (.dK kvs)→Rd H' a (.dK kvs)):∀(d:D) (v:V),Bf K H d v→Bf K H' d v
 |.non,_,h=>h
 |.bl _,_,h=>h
 |.int _,_,h=>h
 |.str _,_,h=>h
 |.tup xs,_,h=>by
  unfold Bf at h ⊢;obtain⟨a,vs,e,q,r⟩:=h;exact⟨a,vs,e,ht a vs q,At.map ht hl hd xs vs r⟩
 |.lst xs,_,h=>by
  unfold Bf at h ⊢;obtain⟨a,vs,e,q,r⟩:=h;exact⟨a,vs,e,hl a vs q,At.map ht hl hd xs vs r⟩
 |.fn _,_,h=>h
 |.dk kvs,_,h=>by
  unfold Bf at h ⊢;obtain⟨a,e,q⟩:=h;exact⟨a,e,hd a kvs q⟩
theorem At.map(ht:∀a vs,Eb K H a vs→Eb K H' a vs)(hl:∀a vs,Ei K H a vs→Ei K H' a vs)(hd:∀a kvs,Rd H a (.dK kvs)→Rd H' a (.dK kvs)):∀(ds:List D) (vs:List V),At K H ds vs→At K H' ds vs
 |[],_,h=>h
 |d::ds,_,h=>by
  unfold At at h ⊢;obtain⟨v,r,e,q,t⟩:=h;exact⟨v,r,e,Bf.map ht hl hd d v q,At.map ht hl hd ds r t⟩
end
mutual
theorem Bf.mapT(ht:∀a vs,Eb K H a vs→Eb K H' a vs):∀(d:D) (v:V),Dt d=true→Bf K H d v→Bf K H' d v
 |.non,_,_,h=>h
 |.bl _,_,_,h=>h
 |.int _,_,_,h=>h
 |.str _,_,_,h=>h
 |.tup xs,_,n,h=>by
  unfold Dt at n;unfold Bf at h ⊢;obtain⟨a,vs,e,q,r⟩:=h;exact⟨a,vs,e,ht a vs q,At.mapT ht xs vs n r⟩
 |.lst xs,_,n,_=>by
  unfold Dt at n;cases n
 |.fn _,_,_,h=>h
 |.dk _,_,n,_=>by
  unfold Dt at n;cases n
theorem At.mapT(ht:∀a vs,Eb K H a vs→Eb K H' a vs):∀(ds:List D) (vs:List V),Dv ds=true→At K H ds vs→At K H' ds vs
 |[],_,_,h=>h
 |d::ds,_,n,h=>by
  unfold Dv at n;rw[AE]at n;unfold At at h ⊢;obtain⟨v,r,e,q,t⟩:=h;exact⟨v,r,e,Bf.mapT ht d v n.1 q,At.mapT ht ds r n.2 t⟩
end
theorem aZ(e:Cf H H'){a:Addr}(h:Eb K H a xs):Eb K H' a xs:=by
 rcases h with(h|⟨o,h⟩)|h
 ·exact .inl (.inl (e _ _ h))
 ·exact .inl (.inr ⟨o,e _ _ h⟩)
 ·exact .inr h
theorem a1b(e:Cf H H'){a:Addr}{o:HO}(h:Rd H a o):Rd H' a o:=by
 obtain h|⟨u,h⟩:=h
 ·exact .inl (e _ _ h)
 ·exact .inr ⟨u,e _ _ h⟩
theorem Bf.mono(e:Cf H H')(h:Bf K H d v):Bf K H' d v:=Bf.map (fun _ _ q=>aZ e q) (fun _ _ q=>e.seq q) (fun _ _ q=>a1b e q) d v h
theorem At.mono(e:Cf H H')(h:At K H ds vs):At K H' ds vs:=At.map (fun _ _ q=>aZ e q) (fun _ _ q=>e.seq q) (fun _ _ q=>a1b e q) ds vs h
theorem Bf.non:Bf K H .non V.non:=by unfold Bf;rfl
theorem Bf.bl{b:Bool}:Bf K H (.bl b) (V.bl b):=by unfold Bf;rfl
theorem Bf.int{i:Int}:Bf K H (.int i) (V.int i):=by unfold Bf;rfl
theorem Bf.str:Bf K H (.str x) (V.str x):=by unfold Bf;rfl
theorem Bf.fn{a:Addr}:Bf K H (.fn a) (V.ref a):=by unfold Bf;rfl
theorem Bf.tup{a:Addr}(h:Eb K H a vs)(r:At K H ds vs):Bf K H (.tup ds) (V.ref a):=by unfold Bf;exact⟨a,vs,rfl,h,r⟩
theorem Bf.lst{a:Addr}(h:Ei K H a vs)(r:At K H ds vs):Bf K H (.lst ds) (V.ref a):=by unfold Bf;exact⟨a,vs,rfl,h,r⟩
theorem At.nil:At K H [] []:=by unfold At;rfl
theorem At.cons(h:Bf K H d v)(t:At K H ds vs):At K H (d::ds) (v::vs):=by unfold At;exact⟨v,vs,rfl,h,t⟩
theorem aF:∀{ds:List D} {vs:List V},At K H ds vs→ds.length=vs.length
 |[],vs,h=>by unfold At at h;subst h;rfl
 |d::ds,vs,h=>by
  unfold At at h;obtain⟨v,r,e,_,t⟩:=h;rw[e,AQ,AQ,aF t]
theorem eM:∀{ds:List D} {vs:List V} {i:Nat} {d:D},At K H ds vs→ds[i]?=some d→∃v,vs[i]?=some v∧Bf K H d v
 |[],_,_,_,_,e=>by simp at e
 |c::ds,vs,i,d,h,e=>by
  unfold At at h;obtain⟨v,r,e1,q,t⟩:=h;subst e1;cases i with
  |zero=>simp at e;subst e;exact⟨v,rfl,q⟩
  |succ i=>
   obtain⟨u,h1,h2⟩:=eM (i:=i) (d:=d) t (by simpa using e);exact⟨u,by simpa using h1,h2⟩
theorem cF:∀{ds es:List D} {vs ws:List V},At K H ds vs→At K H es ws→At K H (ds++es) (vs++ws)
 |[],_,_,_,h,k=>by unfold At at h;subst h;exact k
 |c::ds,_,vs,_,h,k=>by
  unfold At at h;obtain⟨u,r,e1,q,t⟩:=h;subst e1;exact At.cons q (cF t k)
theorem sB:∀{ds:List D} {vs:List V} (n:Nat),At K H ds vs→At K H (ds.take n) (vs.take n)
 |_,_,0,_=>At.nil
 |[],_,n+1,h=>by unfold At at h;subst h;exact At.nil
 |c::ds,vs,n+1,h=>by
  unfold At at h;obtain⟨u,r,e1,q,t⟩:=h;subst e1;exact At.cons q (sB n t)
theorem sC:∀{ds:List D} {vs:List V} (n:Nat),At K H ds vs→At K H (ds.drop n) (vs.drop n)
 |_,_,0,h=>h
 |[],_,n+1,h=>by unfold At at h;subst h;exact At.nil
 |c::ds,vs,n+1,h=>by
  unfold At at h;obtain⟨u,r,e1,q,t⟩:=h;subst e1;exact sC n t
theorem pC(hd:Bf K H d v):∀{ds:List D} {vs:List V} (n:Nat),At K H ds vs→At K H (ds.set n d) (vs.set n v)
 |[],_,_,h=>by unfold At at h;subst h;exact At.nil
 |c::ds,vs,n,h=>by
  unfold At at h;obtain⟨u,r,e1,q,t⟩:=h;subst e1;cases n with
  |zero=>exact At.cons hd t
  |succ n=>exact At.cons q (pC hd n t)
theorem bZ(h:At K H [] vs):vs=[]:=by unfold At at h;exact h
theorem bN(h:At K H (d::ds) vs):∃v r,vs=v::r∧Bf K H d v∧At K H ds r:=by unfold At at h;exact h
theorem aX(h:Bf K H (.tup ds) v):∃a vs,v=V.ref a∧Eb K H a vs∧At K H ds vs:=by unfold Bf at h;exact h
theorem aY(h:Bf K H (.lst ds) v):∃a vs,v=V.ref a∧Ei K H a vs∧At K H ds vs:=by unfold Bf at h;exact h
theorem aU{i:Int}(h:Bf K H (.int i) v):v=V.int i:=by unfold Bf at h;exact h
theorem bU{i:Bool}(h:Bf K H (.bl i) v):v=V.bl i:=by unfold Bf at h;exact h
theorem aP(h:Bf K H (.str i) v):v=V.str i:=by unfold Bf at h;exact h
theorem cW(h:Bf K H .non v):v=V.non:=by unfold Bf at h;exact h
theorem gW{a:Addr}(h:Bf K H (.fn a) v):v=V.ref a:=by unfold Bf at h;exact h
theorem b4p{kvs:List (L2.Key×V)}(h:Bf K H (.dk kvs) v):∃a,v=V.ref a∧Rd H a (.dK kvs):=by unfold Bf at h;exact h
theorem gV{o:HO}(h:H p=none):Cf H (upd H p o):=fun b u e=>by rw[aT (bO e h)];exact e
theorem dZ(h:H p=none)(r:At K H ds vs):Bf K (upd H p (.tup vs)) (.tup ds) (V.ref p):=Bf.tup (Eb.of bY) (r.mono (gV h))
theorem bP(h:H p=none)(r:At K H ds vs):Bf K (upd H p (.lst vs)) (.lst ds) (V.ref p):=Bf.lst (Ei.of bY) (r.mono (gV h))
end
structure Cr(G H G' H':Hp):Prop where
 g:Cf G G'
 h:Cf H H'
 sub:Cf G' H'
 new:∀b,G' b≠none→G b≠none∨H b=none
theorem Cr.refl{G H:Hp}(s:Cf G H):Cr G H G H:=⟨Cf.refl G,Cf.refl H,s,fun _ h=>.inl h⟩
theorem Cr.trans{G H G1 H1 G2 H2:Hp}(a:Cr G H G1 H1)(b:Cr G1 H1 G2 H2):Cr G H G2 H2:=
 ⟨a.g.trans b.g,a.h.trans b.h,b.sub,fun c h=>(b.new c h).elim (fun z=>a.new c z) fun z=>.inr (a.h.free z)⟩
theorem Cr.laid{G H:Hp}{o:HO}(s:Cf G H)(hp:H p=none):Cr G H (upd G p o) (upd H p o):=by
 refine⟨gV (s.free hp),gV hp,fun b u e=>?_,fun b h=>?_⟩
 ·by_cases hb:b=p
  ·subst hb;rw[bY]at e ⊢;exact e
  ·rw[aT hb]at e ⊢;exact s b u e
 ·by_cases hb:b=p
  ·subst hb;exact .inr hp
  ·rw[aT hb]at h;exact .inl h
abbrev Ac:=List (Option D)
structure OR(K:W.Frag)(own:List Nat)(G H:Hp)(σ:St)(ρ:Ac):Prop where
 sub:Cf G H
 len:ρ.length=σ.length
 at_:∀(i:Nat) (d:D),ρ[i]?=some (some d)→i∉own→∃v,σ[i]?=some (some v)∧Bf K G d v
 own_:∀i∈own,∃p ds vs,ρ[i]?=some (some (.lst ds))∧σ[i]?=some (some (V.ref p))∧H p=some (.lst vs)∧G p=none∧At K G ds vs
 dis:∀i∈own,∀j∈own,i≠j→∀p q,σ[i]?=some (some (V.ref p))→σ[j]?=some (some (V.ref q))→p≠q
theorem OR.grow{K:W.Frag}{own:List Nat}{G H G' H':Hp}{σ:St}{ρ:Ac}(h:OR K own G H σ ρ)(x:Cr G H G' H'):OR K own G' H' σ ρ where
 sub:=x.sub
 len:=h.len
 at_:=fun i d q n=>let⟨v,h1,h2⟩:=h.at_ i d q n;⟨v,h1,h2.mono x.g⟩
 own_:=fun i hi=>by
  obtain⟨p,ds,vs,h1,h2,h3,h4,h5⟩:=h.own_ i hi;refine⟨p,ds,vs,h1,h2,x.h _ _ h3,?_,h5.mono x.g⟩;cases q:G' p with
  |none=>rfl
  |some o=>
   rcases x.new p (by rw[q];simp)with z|z
   ·exact absurd h4 z
   ·rw[h3]at z;cases z
 dis:=h.dis
theorem OR.set{K:W.Frag}{own:List Nat}{G H:Hp}{σ:St}{ρ:Ac}{i:Nat}(h:OR K own G H σ ρ)(hi:i∉own)(r:Bf K G d v):OR K own G H (σ.set i (some v)) (ρ.set i (some d)) where
 sub:=h.sub
 len:=by rw[CU,CU,h.len]
 at_:=fun j c q n=>by
  by_cases hj:i=j
  ·subst hj;by_cases hi:i<ρ.length
   ·rw[BM hi]at q;cases q;exact⟨v,by rw[BM (by rw[←h.len];exact hi)],r⟩
   ·rw[List.getElem?_eq_none (by rw[CU];omega)]at q;cases q
  ·rw[AY hj]at q;rw[AY hj];exact h.at_ j c q n
 own_:=fun j hj=>by
  have ne:i≠j:=fun e=>hi (e▸hj);rw[AY ne,AY ne];exact h.own_ j hj
 dis:=fun j hj k hk hne p q e1 e2=>by
  have ne:i≠j:=fun e=>hi (e▸hj);have ne2:i≠k:=fun e=>hi (e▸hk);rw[AY ne]at e1;rw[AY ne2]at e2;exact h.dis j hj k hk hne p q e1 e2
def Gu(own:List Nat)(σ:St):List Addr:=own.filterMap fun i=>match σ[i]? with|some (some (V.ref p))=>some p|_=>none
theorem mH{own:List Nat}{σ:St}(h:p∈Gu own σ):∃i∈own,σ[i]?=some (some (V.ref p)):=by
 obtain⟨i,hi,e⟩:=ER.mp h;refine⟨i,hi,?_⟩;split at e
 ·rename_i q he;cases e;exact he
 ·cases e
theorem a5v{own:List Nat}{σ:St}{i:Nat}(hi:i∈own)(h:σ[i]?=some (some (V.ref p))):p∈Gu own σ:=ER.mpr ⟨i,hi,by rw[h]⟩
def Jk(own:List Nat)(σ:St)(G H:Hp):Hp:=fun b=>if b∈Gu own σ then H b else G b
theorem OR.full{K:W.Frag}{own:List Nat}{G H:Hp}{σ:St}{ρ:Ac}(h:OR K own G H σ ρ):OR K [] (Jk own σ G H) H σ ρ:=by
 have s1:Cf G (Jk own σ G H):=fun b o e=>by
  unfold Jk;split
  ·exact h.sub b o e
  ·exact e
 have s2:Cf (Jk own σ G H) H:=fun b o e=>by
  unfold Jk at e;split at e
  ·exact e
  ·exact h.sub b o e
 refine⟨s2,h.len,fun i d q _=>?_,fun i hi=>(by cases hi),fun i hi=>(by cases hi)⟩;by_cases hi:i∈own
 ·obtain⟨p,ds,vs,h1,h2,h3,h4,h5⟩:=h.own_ i hi;rw[h1]at q;cases q;refine⟨_,h2,Bf.lst (Ei.of (xs:=vs) ?_) (h5.mono s1)⟩;unfold Jk;rw[AS (a5v hi h2)];exact h3
 ·obtain⟨v,h1,h2⟩:=h.at_ i d q hi;exact⟨v,h1,h2.mono s1⟩
def Le(ρ ρ':Ac):Prop:=ρ.length=ρ'.length∧∀(i:Nat) (d:D),ρ[i]?=some (some d)→ρ'[i]?=some (some d)
theorem OR.le{K:W.Frag}{G H:Hp}{σ:St}{ρ ρ':Ac}(h:OR K [] G H σ ρ')(l:Le ρ ρ'):OR K [] G H σ ρ:=⟨h.sub,l.1.trans h.len,fun i d q n=>h.at_ i d (l.2 i d q) n,fun i hi=>(by cases hi),fun i hi=>(by cases hi)⟩
theorem Le.set{ρ ρ':Ac}{i:Nat}(h:Le ρ ρ')(hi:ρ[i]?=some none):Le ρ (ρ'.set i (some d)):=by
 refine⟨by rw[CU];exact h.1,fun j c q=>?_⟩;have:i≠j:=fun e=>by subst e;rw[hi]at q;cases q
 rw[AY this];exact h.2 j c q
theorem Le.refl(ρ:Ac):Le ρ ρ:=⟨rfl,fun _ _ h=>h⟩
def Qb(nl:Nat)(ix:List Nat)(ρ:Ac):Ac:=List.replicate nl none++ix.map fun j=>(ρ[j]?).join
theorem OR.cap{K:W.Frag}{own:List Nat}{G H:Hp}{σ:St}{ρ:Ac}(h:OR K own G H σ ρ)(nl:Nat)(ix:List Nat)(hx:∀j∈ix,j∉own):OR K [] G H (Je nl ix σ) (Qb nl ix ρ):=by
 unfold Je Qb;refine⟨h.sub,by simp,fun i d q _=>?_,fun i hi=>(by cases hi),fun i hi=>(by cases hi)⟩;by_cases hi:i<nl
 ·rw[CJ (by simpa using hi),ES,AS hi]at q;cases q
 ·rw[CG (by simpa using hi),BO,DZ]at q;rw[CG (by simpa using hi),BO,DZ];cases e:ix[i - nl]? with
  |none=>rw[e]at q;cases q
  |some j=>
   rw[e]at q;have q':(ρ[j]?).join=some d:=BJ q;have q2:ρ[j]?=some (some d):=by
    cases z:ρ[j]? with
    |none=>rw[z]at q';cases q'
    |some o=>rw[z]at q';exact congrArg some q'
   obtain⟨v,h1,h2⟩:=h.at_ j d q2 (hx j (DC e));exact⟨v,by simp[h1],h2⟩
inductive tD(K:W.Frag)(own:List Nat)(f:Ac→Option D)(σ:St)(H:Hp)(Q:VK):Prop
 |mk (G:Hp) (ρ:Ac) (d:D) (o:OR K own G H σ ρ) (e:f ρ=some d) (k:∀v G' H',Cr G H G' H'→Bf K G' d v→Q v H'):tD K own f σ H Q
inductive Ws(K:W.Frag)(own:List Nat)(f:Ac→Option (List D))(σ:St)(H:Hp)(Q:List V→Hp→Prop):Prop
 |mk (G:Hp) (ρ:Ac) (ds:List D) (o:OR K own G H σ ρ) (e:f ρ=some ds) (k:∀vs G' H',Cr G H G' H'→At K G' ds vs→Q vs H'):Ws K own f σ H Q
inductive Ry(K:W.Frag)(own:List Nat)(f:Ac→Option Bool)(σ:St)(H:Hp)(Q:Bool→Hp→Prop):Prop
 |mk (G:Hp) (ρ:Ac) (b:Bool) (o:OR K own G H σ ρ) (e:f ρ=some b) (k:∀G' H',Cr G H G' H'→Q b H'):Ry K own f σ H Q
structure DE(X:Cx)(own:List Nat)(e:Expr)(f:Ac→Option D):Prop where
 ok:PE X e (tD X.K own f)
structure DA(X:Cx)(own:List Nat)(es:List Expr)(f:Ac→Option (List D)):Prop where
 ok:PA X es (Ws X.K own f)
structure DT(X:Cx)(own:List Nat)(e:Expr)(f:Ac→Option Bool):Prop where
 ok:PT X e (Ry X.K own f)
structure DW(X:Cx)(own:List Nat)(e:Expr)(f:Ac→Option Bool):Prop where
 ok:PW X e (Ry X.K own f)
section
variable{X:Cx}{own:List Nat}{e a b c:Expr}{es:List Expr}{pos:Pos}{f fa fb fc:Ac→Option D}{fs:Ac→Option (List D)}{ft fu:Ac→Option Bool}
theorem cD{t:TE}(h:PE X e t)(hw:∀σ G H Q ρ d,OR X.K own G H σ ρ→f ρ=some d→(∀v G' H',Cr G H G' H'→Bf X.K G' d v→Q v H')→t σ H Q):DE X own e f:=⟨fun pins s σ H Q I ⟨G,ρ,d,er,e,k⟩=>h pins s σ H Q I (hw σ G H Q ρ d er e k)⟩
theorem a9r{t:TA}(h:PA X es t)(hw:∀σ G H Q ρ d,OR X.K own G H σ ρ→fs ρ=some d→(∀v G' H',Cr G H G' H'→At X.K G' d v→Q v H')→t σ H Q):DA X own es fs:=⟨fun p pins s σ H Q I ⟨G,ρ,d,er,e,k⟩=>h p pins s σ H Q I (hw σ G H Q ρ d er e k)⟩
theorem qN{t:TT}(h:PT X e t)(hw:∀σ G H Q ρ d,OR X.K own G H σ ρ→ft ρ=some d→(∀G' H',Cr G H G' H'→Q d H')→t σ H Q):DT X own e ft:=⟨fun pins s σ H Q I ⟨G,ρ,d,er,e,k⟩=>h pins s σ H Q I (hw σ G H Q ρ d er e k)⟩
theorem b4h{t:TT}(h:PW X e t)(hw:∀σ G H Q ρ d,OR X.K own G H σ ρ→ft ρ=some d→(∀G' H',Cr G H G' H'→Q d H')→t σ H Q):DW X own e ft:=⟨fun wh pins s σ H Q I ⟨G,ρ,d,er,e,k⟩=>h wh pins s σ H Q I (hw σ G H Q ρ d er e k)⟩
def Mk(f:Ac→Option D):Ac→Option D:=fun ρ=>(f ρ).bind fun d=>if Dt d then some d else none
theorem b3q(h:DE X [] e f):DE X own e (Mk f):=cD h.ok fun σ G H Q ρ d er e k=>by
 obtain⟨d',e1,e2⟩:=AA.mp e;split at e2
 ·rename_i hn;cases e2;refine⟨Jk own σ G H,ρ,d,er.full,e1,fun v G' H' x r=>?_⟩;have hroot:∀b,b∈Gu own σ→∃vs,G' b=some (.lst vs):=fun b hb=>by
   obtain⟨i,hi,q⟩:=mH hb;obtain⟨p,ds,vs,h1,h2,h3,h4,h5⟩:=er.own_ i hi;rw[q]at h2;cases h2;refine⟨vs,x.g _ _ ?_⟩;unfold Jk;rw[AS hb];exact h3
  have hG:∀b,b∈Gu own σ→G b=none:=fun b hb=>by
   obtain⟨i,hi,q⟩:=mH hb;obtain⟨p,ds,vs,h1,h2,h3,h4,h5⟩:=er.own_ i hi;rw[q]at h2;cases h2;exact h4
  refine k v (fun b=>if b∈Gu own σ then none else G' b) H' ⟨fun b o z=>?_,x.h,fun b o z=>?_,fun b z=>?_⟩ (Bf.mapT (fun a vs q=>?_) d v hn r)
  ·have hb:b∉Gu own σ:=fun hb=>by rw[hG b hb]at z;cases z
   show(if b∈Gu own σ then none else G' b)=some o;rw[AR hb];refine x.g _ _ ?_;unfold Jk;rw[AR hb];exact z
  ·have z':(if b∈Gu own σ then none else G' b)=some o:=z;split at z'
   ·cases z'
   ·exact x.sub _ _ z'
  ·have z':(if b∈Gu own σ then none else G' b)≠none:=z;split at z'
   ·exact absurd rfl z'
   ·rename_i hb;obtain y|y:=x.new b z'
    ·unfold Jk at y;rw[AR hb]at y;exact .inl y
    ·exact .inr y
  ·have ne:∀u,G' a=some u→(∀ws,u≠.lst ws)→(if a∈Gu own σ then none else G' a)=some u:=fun u e1 hu=>by
    rw[AR (fun hb=>by obtain⟨ws,e2⟩:=hroot a hb;rw[e1]at e2;exact hu ws (BJ e2))];exact e1
   rcases q with(q|⟨o,q⟩)|q
   ·exact .inl (.inl (ne _ q fun _ z=>nomatch z))
   ·exact .inl (.inr ⟨o,ne _ q fun _ z=>nomatch z⟩)
   ·exact .inr q
 ·cases e2
def Aa(i:Nat):Ac→Option D:=fun ρ=>(ρ[i]?).join
def fC(d:D):Ac→Option D:=fun _=>some d
theorem sP{ρ:Ac}{i:Nat}(h:(ρ[i]?).join=some d):ρ[i]?=some (some d):=by
 cases z:ρ[i]? with
 |none=>rw[z]at h;cases h
 |some o=>rw[z]at h;exact congrArg some h
theorem aA(i:Nat){x:Str}(hi:i∉own:=by decide)(hN:X.N[i]?=some x:=by rfl)(hv:Qo X.env.scope x:=by first|exact Or.inl rfl|exact Or.inr (Or.inl rfl)|exact Or.inr (Or.inr rfl))(hd:(x==("__debug__":Str))=false:=by decide)
  (hcd:(x==("__classdict__":Str))=false:=by decide):DE X own (.Name x pos) (Aa i):=
 cD (gX hN hv hd hcd) fun σ G H Q ρ d er e k=>let⟨v,h1,h2⟩:=er.at_ i d (sP e) hi;⟨v,h1,k v G H (Cr.refl er.sub) h2⟩
theorem a9q{t:TE}(h:PE X e t)(ht:∀σ H Q,Q v H→t σ H Q)(r:∀H,Bf X.K H d v):DE X own e (fC d):=
 cD h fun σ G H Q ρ d' er e' k=>by
  cases e';exact ht σ H Q (k v G H (Cr.refl er.sub) (r G))
theorem aC{i:Int}{j:Nat}:DE X own (.Constant (.int i) j pos) (fC (.int i)):=a9q b5g (fun _ _ _ h=>h) fun _=>Bf.int
theorem aW{j:Nat}:DE X own (.Constant (.str i) j pos) (fC (.str i)):=a9q a6n (fun _ _ _ h=>h) fun _=>Bf.str
theorem gN{i:Bool}{j:Nat}:DE X own (.Constant (.bool i) j pos) (fC (.bl i)):=a9q b8f (fun _ _ _ h=>h) fun _=>Bf.bl
theorem cV{j:Nat}:DE X own (.Constant .none j pos) (fC .non):=a9q b5f (fun _ _ _ h=>h) fun _=>Bf.non
theorem b3o{x:Str}{i:Int}(hg:Gl X x)(hm:X.mg x=some (.int i t))(hd:(x==("__debug__":Str))=false:=by decide):DE X own (.Name x pos) (fC (.int i)):=
 a9q (a1i (v:=V.int i) hg hm ⟨t,rfl⟩ hd) (fun _ _ _ h=>h) fun _=>Bf.int
def f2(g:D→D→Option D)(fa fb:Ac→Option D):Ac→Option D:=fun ρ=>(fa ρ).bind fun x=>(fb ρ).bind fun y=>g x y
def Fz(K:W.Frag)(r:R2)(g:D→D→Option D):Prop:=∀{x y:V} {dx dy d:D} {G H:Hp} {Q:VK},Cf G H→Bf K G dx x→Bf K G dy y→g dx dy=some d→(∀v G' H',Cr G H G' H'→Bf K G' d v→Q v H')→r x y H Q
theorem two{g:D→D→Option D}{r:R2}(hg:Fz X.K r g){σ:St}{G H:Hp}{Q:VK}{ρ:Ac}(er:OR X.K own G H σ ρ)(e:f2 g fa fb ρ=some d)(k:∀v G' H',Cr G H G' H'→Bf X.K G' d v→Q v H'):
  Sn r (tD X.K own fa) (tD X.K own fb) σ H Q:=by
 unfold f2 at e;obtain⟨x,e1,e⟩:=AA.mp e;obtain⟨y,e2,e⟩:=AA.mp e;exact⟨G,ρ,x,er,e1,fun u G1 H1 s1 r1=>⟨G1,ρ,y,er.grow s1,e2,fun w G2 H2 s2 r2=>hg s2.sub (r1.mono s2.g) r2 e fun v G' H' s3 r3=>k v G' H' (s1.trans (s2.trans s3)) r3⟩⟩
theorem aO{op:Operator}{r:R2}{g:D→D→Option D}(ho:Es X (binaryOp op) r)(hg:Fz X.K r g)(ha:DE X own a fa)(hb:DE X own b fb):DE X own (.BinOp a op b pos) (f2 g fa fb):=
 cD (a6o ho ha.ok hb.ok) fun σ G H Q ρ d er e k=>two hg er e k
theorem dU{op:CmpOp}{r:R2}{g:D→D→Option D}(ho:Es X (compareOp op) r)(hg:Fz X.K r g)(ha:DE X own a fa)(hb:DE X own b fb)(hm:behindInMarks op b=false):DE X own (.Compare a [op] [b] pos) (f2 g fa fb):=
 cD (b1o ho ha.ok hb.ok hm) fun σ G H Q ρ d er e k=>two hg er e k
theorem bE{r:R2}{g:D→D→Option D}(hr:Ph X r)(hg:Fz X.K r g)(ha:DE X own a fa)(hb:DE X own b fb)(hs:Ko b):DE X own (.Subscript a b pos) (f2 g fa fb):=
 cD (a6r hr ha.ok hb.ok hs) fun σ G H Q ρ d er e k=>two hg er e k
def fT(f:Ac→Option D):Ac→Option Bool:=fun ρ=>(f ρ).bind fun d=>match d with|.bl b=>some b|_=>none
theorem gH{ρ:Ac}{b:Bool}(h:fT f ρ=some b):f ρ=some (.bl b):=by
 unfold fT at h;obtain⟨d,e,h⟩:=AA.mp h;cases d<;>first|(cases h;exact e)|cases h
theorem aS{op:CmpOp}{r:R2}{g:D→D→Option D}(ho:Es X (compareOp op) r)(hg:Fz X.K r g)(ha:DE X own a fa)(hb:DE X own b fb)(hm:behindInMarks op b=false):DT X own (.Compare a [op] [b] pos) (fT (f2 g fa fb)):=
 qN (b0x ho ha.ok hb.ok hm) fun σ G H Q ρ d er e k=>two (own:=own) (Q:=fun x H'=>∃k,x=.bl k∧Q k H') hg er (gH e) fun v G' H' s' r'=>by
  cases bU r';exact⟨d,rfl,k G' H' s'⟩
theorem eC(h:DE X own e f)(he:∀whole,isTrue e X.env whole=(do let v ←whole;standAt e.pos;holding [v] (truthy v)):=by intro _;rfl):DT X own e (fT f):=
 qN (b4u h.ok he) fun σ G H Q ρ d er e k=>⟨G,ρ,.bl d,er,gH e,fun v G' H' s' r'=>by
  cases bU r';exact⟨d,rfl,k G' H' s'⟩⟩
def Qs:D→Option Bool
 |.lst xs=>some (!xs.isEmpty)
 |.tup xs=>some (!xs.isEmpty)
 |.bl b=>some b
 |.int i=>some (i != 0)
 |.non=>some false
 |_=>none
theorem nO{K:W.Frag}{H:Hp}{ds:List D}{vs:List V}(h:At K H ds vs):(!ds.isEmpty)=!vs.isEmpty:=by
 have:=aF h;cases ds<;>cases vs<;>simp_all
theorem a9g(h:DE X own e f)(he:∀whole,isTrue e X.env whole=(do let v ←whole;standAt e.pos;holding [v] (truthy v)):=by intro _;rfl):DT X own e (fun ρ=>(f ρ).bind Qs):=
 qN (a6e h.ok he) fun σ G H Q ρ b er e k=>by
  obtain⟨d,e1,e2⟩:=AA.mp e;refine⟨G,ρ,d,er,e1,fun v G' H' s' r'=>⟨b,?_,k G' H' s'⟩⟩;cases d with
  |non=>cases cW r';cases e2;exact(rfl:false=false)
  |bl x=>cases bU r';cases e2;exact rfl
  |int i=>cases aU r';cases e2;exact(rfl:(i != 0)=(i != 0))
  |str x=>cases e2
  |fn a=>cases e2
  |dk a=>cases e2
  |tup xs=>
   obtain⟨a,vs,e3,q,r3⟩:=aX r';subst e3;cases e2;exact .inr (.inl ⟨vs,aZ s'.sub q,nO r3⟩)
  |lst xs=>
   obtain⟨a,vs,e3,q,r3⟩:=aY r';subst e3;cases e2;exact .inl ⟨vs,s'.sub.seq q,nO r3⟩
def Bh(ft fu:Ac→Option Bool):Ac→Option Bool:=fun ρ=>(ft ρ).bind fun b=>if b then fu ρ else some false
def Cn(ft fu:Ac→Option Bool):Ac→Option Bool:=fun ρ=>(ft ρ).bind fun b=>if b then some true else fu ρ
def Be(ft:Ac→Option Bool):Ac→Option Bool:=fun ρ=>(ft ρ).map (!·)
variable{rest:List Expr}
theorem lK(h:DT X own a ft):DW X own (.BoolOp .And [a] pos) ft:=⟨b0w h.ok⟩
theorem dR(h:DT X own a ft):DW X own (.BoolOp .Or [a] pos) ft:=⟨b4s h.ok⟩
theorem qM(ha:DT X own a ft)(hb:DW X own (.BoolOp .And (b::rest) pos) fu):DW X own (.BoolOp .And (a::b::rest) pos) (Bh ft fu):=
 b4h (b4t ha.ok hb.ok) fun σ G H Q ρ d er e k=>by
  obtain⟨x,e1,e⟩:=AA.mp e;refine⟨G,ρ,x,er,e1,fun G1 H1 s1=>?_⟩;cases x with
  |true=>exact nW ⟨G1,ρ,d,er.grow s1,e,fun G2 H2 s2=>k G2 H2 (s1.trans s2)⟩
  |false=>cases e;exact nX (k G1 H1 s1)
theorem fD(ha:DT X own a ft)(hb:DW X own (.BoolOp .Or (b::rest) pos) fu):DW X own (.BoolOp .Or (a::b::rest) pos) (Cn ft fu):=
 b4h (b8c ha.ok hb.ok) fun σ G H Q ρ d er e k=>by
  obtain⟨x,e1,e⟩:=AA.mp e;refine⟨G,ρ,x,er,e1,fun G1 H1 s1=>?_⟩;cases x with
  |false=>exact nX ⟨G1,ρ,d,er.grow s1,e,fun G2 H2 s2=>k G2 H2 (s1.trans s2)⟩
  |true=>cases e;exact nW (k G1 H1 s1)
theorem gP(h:DW X own e ft):DT X own e ft:=⟨h.ok.pt⟩
theorem eV(h:DT X own a ft):DT X own (.UnaryOp .Not a pos) (Be ft):=
 qN (b4v h.ok) fun σ G H Q ρ d er e k=>by
  obtain⟨x,e1,rfl⟩:=AF.mp e;exact⟨G,ρ,x,er,e1,fun G1 H1 s1=>k G1 H1 s1⟩
def Aq(fa fb:Ac→Option D):Ac→Option D:=fun ρ=>(fT fa ρ).bind fun b=>if b then fb ρ else some (.bl false)
def Bo(fa fb:Ac→Option D):Ac→Option D:=fun ρ=>(fT fa ρ).bind fun b=>if b then some (.bl true)else fb ρ
def Aw(fa:Ac→Option D):Ac→Option D:=fun ρ=>(fT fa ρ).map fun b=>.bl (!b)
theorem dS{op:BoolOp}(h:DE X own a fa):DE X own (.BoolOp op [a] pos) fa:=⟨a6p h.ok⟩
theorem eW(ha:DE X own a fa)(hb:DE X own (.BoolOp .And (b::rest) pos) fb):DE X own (.BoolOp .And (a::b::rest) pos) (Aq fa fb):=
 cD (a6x ha.ok hb.ok) fun σ G H Q ρ d er e k=>by
  obtain⟨x,e1,e⟩:=AA.mp e;refine⟨G,ρ,.bl x,er,gH e1,fun v G1 H1 s1 r1=>?_⟩;cases bU r1;refine⟨x,rfl,?_⟩;cases x with
  |true=>exact nW ⟨G1,ρ,d,er.grow s1,e,fun v G2 H2 s2 r2=>k v G2 H2 (s1.trans s2) r2⟩
  |false=>cases e;exact nX (k _ G1 H1 s1 Bf.bl)
theorem sW(ha:DE X own a fa)(hb:DE X own (.BoolOp .Or (b::rest) pos) fb):DE X own (.BoolOp .Or (a::b::rest) pos) (Bo fa fb):=
 cD (b8e ha.ok hb.ok) fun σ G H Q ρ d er e k=>by
  obtain⟨x,e1,e⟩:=AA.mp e;refine⟨G,ρ,.bl x,er,gH e1,fun v G1 H1 s1 r1=>?_⟩;cases bU r1;refine⟨x,rfl,?_⟩;cases x with
  |false=>exact nX ⟨G1,ρ,d,er.grow s1,e,fun v G2 H2 s2 r2=>k v G2 H2 (s1.trans s2) r2⟩
  |true=>cases e;exact nW (k _ G1 H1 s1 Bf.bl)
theorem b7h(ha:DE X own a fa):DE X own (.UnaryOp .Not a pos) (Aw fa):=
 cD (b5e ha.ok) fun σ G H Q ρ d er e k=>by
  obtain⟨x,e1,rfl⟩:=AF.mp e;refine⟨G,ρ,.bl x,er,gH e1,fun v G1 H1 s1 r1=>?_⟩;cases bU r1;exact⟨x,rfl,k _ G1 H1 s1 Bf.bl⟩
def Cu(ft:Ac→Option Bool)(fa fb:Ac→Option D):Ac→Option D:=fun ρ=>(ft ρ).bind fun b=>if b then fa ρ else fb ρ
theorem xV(hc:DT X own c ft)(ha:DE X own a fa)(hb:DE X own b fb):DE X own (.IfExp c a b pos) (Cu ft fa fb):=
 cD (a6s hc.ok ha.ok hb.ok) fun σ G H Q ρ d er e k=>by
  obtain⟨x,e1,e⟩:=AA.mp e;refine⟨G,ρ,x,er,e1,fun G1 H1 s1=>?_⟩;cases x with
  |true=>exact nW ⟨G1,ρ,d,er.grow s1,e,fun v G2 H2 s2 r2=>k v G2 H2 (s1.trans s2) r2⟩
  |false=>exact nX ⟨G1,ρ,d,er.grow s1,e,fun v G2 H2 s2 r2=>k v G2 H2 (s1.trans s2) r2⟩
def f3(g h:D→D→Option D)(fa fb fc:Ac→Option D):Ac→Option D:=fun ρ=>(fa ρ).bind fun x=>(fb ρ).bind fun y=>(g x y).bind fun z=>match z with
 |.bl true=>(fc ρ).bind fun w=>h y w
 |.bl false=>some (.bl false)
 |_=>none
def Ad:Ac→Option (List D):=fun _=>some []
def Ab(f:Ac→Option D)(fs:Ac→Option (List D)):Ac→Option (List D):=fun ρ=>(f ρ).bind fun d=>(fs ρ).bind fun ds=>some (d::ds)
theorem aE:DA X own [] Ad:=a9r dD fun σ G H Q ρ d er e k=>by
 cases e;exact k [] G H (Cr.refl er.sub) At.nil
theorem aB(h:DE X own e f)(hs:DA X own es fs)(hst:starEach (e::es) X.env=(false,eval e X.env)::starEach es X.env:=by rfl):DA X own (e::es) (Ab f fs):=
 a9r (bR h.ok hs.ok hst) fun σ G H Q ρ d er e' k=>by
  obtain⟨x,e1,e'⟩:=AA.mp e';obtain⟨xs,e2,e'⟩:=AA.mp e';cases e';exact⟨G,ρ,x,er,e1,fun v G1 H1 s1 r1=>⟨G1,ρ,xs,er.grow s1,e2,fun vs G2 H2 s2 r2=>k _ G2 H2 (s1.trans s2) (At.cons (r1.mono s2.g) r2)⟩⟩
def Ay(fs:Ac→Option (List D)):Ac→Option D:=fun ρ=>(fs ρ).bind fun ds=>if ds.length≤1000 then some (.tup ds)else none
def Bd(fs:Ac→Option (List D)):Ac→Option D:=fun ρ=>(fs ρ).bind fun ds=>if ds.length≤1000 then some (.lst ds)else none
theorem kP{n:Nat}(h:n≤1000):n≤sizeLine:=GX (a2u h)
theorem cU{x1:Nat}(h:DA X own es fs):DE X own (.Tuple es x1 pos) (Ay fs):=
 cD (b5c h.ok) fun σ G H Q ρ d er e k=>by
  obtain⟨ds,e1,e⟩:=AA.mp e;split at e
  ·rename_i hl;cases e;refine⟨G,ρ,ds,er,e1,fun vs G1 H1 s1 r1=>⟨by rw[←aF r1];exact kP hl,fun p hp=>k _ _ _ (s1.trans (Cr.laid s1.sub hp)) (dZ (s1.sub.free hp) r1)⟩⟩
  ·cases e
theorem mQ(h:DA X own es fs):DE X own (.List es pos) (Bd fs):=
 cD (a6q h.ok) fun σ G H Q ρ d er e k=>by
  obtain⟨ds,e1,e⟩:=AA.mp e;split at e
  ·rename_i hl;cases e;refine⟨G,ρ,ds,er,e1,fun vs G1 H1 s1 r1=>⟨by rw[←aF r1];exact kP hl,fun p hp=>k _ _ _ (s1.trans (Cr.laid s1.sub hp)) (bP (s1.sub.free hp) r1)⟩⟩
  ·cases e
def Fj(K:W.Frag)(r:List V→Hp→VK→Prop)(g:List D→Option D):Prop:=∀{vs:List V} {ds:List D} {d:D} {G H:Hp} {Q:VK},Cf G H→At K G ds vs→g ds=some d→(∀v G' H',Cr G H G' H'→Bf K G' d v→Q v H')→r vs H Q
def f1(g:List D→Option D)(fs:Ac→Option (List D)):Ac→Option D:=fun ρ=>(fs ρ).bind g
theorem bL{id:String}{x:Str}{r:List V→Hp→VK→Prop}{g:List D→Option D}(hc:Ej X (.builtin id) r)(hd:Fj X.K r g)(hg:Gl X x)(hm:X.mg x=none)(hv:bootBuiltins x=some (.builtin id))(ha:DA X own (e::es) fs)(hn:x≠"__name__":=by decide)
  (hdb:(x==("__debug__":Str))=false:=by decide)(he:starEach (e::es) X.env=(false,eval e X.env)::starEach es X.env:=by rfl)(hpl:(backTo pos (starEach es X.env)).any (·.1)=false:=by rfl):DE X own (.Call (.Name x p) (e::es) [] pos) (f1 g fs):=
 cD (gY hc hg hm hv ha.ok hn hdb he hpl) fun σ G H Q ρ d er e' k=>by
  obtain⟨ds,e1,e'⟩:=AA.mp e';exact⟨G,ρ,ds,er,e1,fun vs G1 H1 s1 r1=>hd s1.sub r1 e' fun v G2 H2 s2 r2=>k v G2 H2 (s1.trans s2) r2⟩
theorem fU{T:String}{x:Str}{r:List V→Hp→VK→Prop}{g:List D→Option D}(hc:Ej X (.type T) r)(hd:Fj X.K r g)(hg:Gl X x)(hm:X.mg x=none)(hv:bootBuiltins x=some (.type T))(ha:DA X own (e::es) fs)(hn:x≠"__name__":=by decide)
  (hdb:(x==("__debug__":Str))=false:=by decide)(he:starEach (e::es) X.env=(false,eval e X.env)::starEach es X.env:=by rfl)(hpl:(backTo pos (starEach es X.env)).any (·.1)=false:=by rfl):DE X own (.Call (.Name x p) (e::es) [] pos) (f1 g fs):=
 cD (a3k hc hg hm hv ha.ok hn hdb he hpl) fun σ G H Q ρ d er e' k=>by
  obtain⟨ds,e1,e'⟩:=AA.mp e';exact⟨G,ρ,ds,er,e1,fun vs G1 H1 s1 r1=>hd s1.sub r1 e' fun v G2 H2 s2 r2=>k v G2 H2 (s1.trans s2) r2⟩
def So(K:W.Frag)(n:Nat)(g:List D→Option D):Sp:=fun vs H Q _=>vs.length=n∧∃G ds d,Cf G H∧At K G ds vs∧g ds=some d∧∀v G' H',Cr G H G' H'→Bf K G' d v→Q v H'
theorem b3r{k:Nat}{ps:List Str}{g:List D→Option D}{x:Str}(F:Kg X.prog X.w X.K X.mg X.base Oa k fad fd ps (So X.K ps.length g))(hr:Cc k X.A)(hg:Gl X x)(hm:X.mg x=some (.ref fad))(hk:W.keepIn X.K (.ref fad)=true)
  (hb:Ev X.K fd ps [])(ha:DA X own (e::es) fs)(hn:(e::es).length=ps.length:=by rfl)(hlen:∀ρ ds,fs ρ=some ds→ds.length=ps.length)
  (hdb:(x==("__debug__":Str))=false:=by decide)(he:starEach (e::es) X.env=(false,eval e X.env)::starEach es X.env:=by rfl)(hpl:(backTo pos (starEach es X.env)).any (·.1)=false:=by rfl):
  DE X own (.Call (.Name x p) (e::es) [] pos) (f1 g fs):=
 cD (b1p F hr hg hm hk hb .nil b4c ha.ok hdb he hpl) fun σ G H Q ρ d er e' k=>by
  obtain⟨ds,e1,e'⟩:=AA.mp e';refine⟨G,ρ,ds,er,e1,fun vs G1 H1 s1 r1=>?_⟩;show So X.K ps.length g (vs++[]) H1 Q E0;rw[BP];exact⟨by rw[←aF r1];exact hlen ρ ds e1,G1,ds,d,s1.sub,r1,e',fun v G2 H2 s2 r2=>k v G2 H2 (s1.trans s2) r2⟩
end
theorem aK{ρ:Ac}{ds:List D}(h:Ad ρ=some ds):ds.length=0:=by cases h;rfl
theorem aD{f:Ac→Option D}{fs:Ac→Option (List D)}{n:Nat}(hf:∀ρ ds,fs ρ=some ds→ds.length=n):∀(ρ:Ac) (ds:List D),Ab f fs ρ=some ds→ds.length=n+1:=fun ρ ds e=>by
 obtain⟨x,e1,e⟩:=AA.mp e;obtain⟨xs,e2,e⟩:=AA.mp e;cases e;rw[AQ,hf ρ xs e2]
theorem pH{h:Heap}{its:Array Value}(p:PlainL h a its):∃n sl,h.get? a=some {cls:=.type "list",dict:=none,data:=.seq its n,slots:=sl}:=by
 obtain⟨⟨cls,dd,data,sl⟩,n,e,h1,h2,h3⟩:=p;simp only at h1 h2 h3;subst h1 h2 h3;exact⟨n,sl,e⟩
section
variable{X:Cx}
def Se(K:W.Frag):R2:=fun x y H Q=>∃l b xs zs,x=.ref l∧y=.ref b∧Ei K H l xs∧Ei K H b zs∧xs.length+zs.length≤sizeLine∧∀p,H p=none→Q (.ref p) (upd H p (.lst (xs++zs)))
theorem a1l:Es X (binaryOp .Add) (Se X.K):=by
 intro pins s σ H x y v u Q I rx ry h;obtain⟨l,b,xs,zs,rfl,rfl,hH,hB,hz,q⟩:=h;cases rx;cases ry;obtain⟨its,r,pl,z⟩:=I.list hH;obtain⟨its2,r2,pl2,z2⟩:=I.list hB;obtain⟨n,sl,e⟩:=pH pl;obtain⟨n2,sl2,e2⟩:=pH pl2;have h1:=r.length;have h2:=r2.length;refine concat_meets ⟨_,e,rfl⟩ ⟨_,e2,rfl⟩ PySem.noFill_list_add PySem.seq_list_add PySem.F.slot_list_add PySem.F.entry_list_add (PySem.F.args_list_add_2 _ _)
  (list_addW l b its.toArray its2.toArray n n2 none none sl sl2 (by rw[AJ,AJ];omega)) ⟨e,e2,?_⟩
 have ea:its.toArray++its2.toArray=(its++its2).toArray:=by simp
 rw[ea];exact⟨.ref _,_,I.lnew (t':=s.toks) (r.append r2) (by rw[BF];omega),rfl,q _ I.fresh⟩
def Pt(K:W.Frag):R2:=fun x y H Q=>∃a b ys,x=.ref a∧y=.ref b∧Eb K H a []∧Eb K H b ys∧Q (.ref b) H
theorem a7e:Es X (binaryOp .Add) (Pt X.K):=by
 intro pins s σ H x y v u Q I rx ry h;obtain⟨a,b,ys,rfl,rfl,ha,hb,q⟩:=h;cases rx;cases ry;obtain⟨its,r1,p1,_⟩:=I.tuple ha;obtain⟨its2,r2,p2,_⟩:=I.tuple hb;obtain⟨⟨cls,dd,data,sl⟩,ho,hc,n,hd⟩:=id p1;obtain⟨⟨cls2,dd2,data2,sl2⟩,ho2,hc2,n2,hd2⟩:=id p2;simp only at hc hd hc2 hd2;subst hc hd hc2 hd2;have e0:its=[]:=r1.nil_iff.mpr rfl;exact concat_meets ⟨_,ho,rfl⟩ ⟨_,ho2,rfl⟩ noFill_tuple_add seq_tuple_add FU FO (FM _ _)
  (tuple_addW0 a b its.toArray its2.toArray n n2 dd dd2 sl sl2 (by simp[e0])) ⟨ho,ho2,⟨.ref b,H,I,rfl,q⟩⟩
abbrev Ci:Nat:=100000
theorem cE{n:Nat}(h:n≤Ci):n≤sizeLine:=BG h (by rw[DV];decide)
def An:D→D→Option D
 |.int i,.int j=>some (.int (i+j))
 |.str x,.str y=>if x.length+y.length≤Ci then some (.str (x++y))else none
 |.tup xs,.tup ys=>if xs.length+ys.length≤Ci then some (.tup (xs++ys))else none
 |.lst xs,.lst ys=>if xs.length+ys.length≤Ci then some (.lst (xs++ys))else none
 |_,_=>none
def Mp(K:W.Frag):R2:=fun x y H Q=>Mo (fun i j=>.int (i+j)) x y H Q∨((∃i j,x=.str i∧y=.str j∧i.length+j.length≤sizeLine∧Q (.str (i++j)) H)∨(Sd K x y H Q∨(Pt K x y H Q∨Se K x y H Q)))
theorem aJ:Es X (binaryOp .Add) (Mp X.K):=b5n.or (zF.or (b1s.or (a7e.or a1l)))
theorem bB{K:W.Frag}:Fz K (Mp K) An:=by
 intro x y dx dy d G H Q sub rx ry e k;unfold An at e;split at e
 ·cases aU rx;cases aU ry;cases e;exact .inl ⟨_,_,rfl,rfl,k _ G H (Cr.refl sub) Bf.int⟩
 ·cases aP rx;cases aP ry;split at e
  ·rename_i hl;cases e;exact .inr (.inl ⟨_,_,rfl,rfl,cE hl,k _ G H (Cr.refl sub) Bf.str⟩)
  ·cases e
 ·obtain⟨a,vs,rfl,qa,ra⟩:=aX rx;obtain⟨b,ws,rfl,qb,rb⟩:=aX ry;split at e
  ·rename_i hl;cases e;have l1:=aF ra;have l2:=aF rb;by_cases hv:vs=[]
   ·subst hv;refine .inr (.inr (.inr (.inl ⟨a,b,ws,rfl,rfl,aZ sub qa,aZ sub qb,k _ G H (Cr.refl sub) ?_⟩)));have:(_:List D)=[]:=List.length_eq_zero_iff.mp l1;rw[this,List.nil_append];exact Bf.tup qb rb
   ·refine .inr (.inr (.inl ⟨a,b,vs,ws,rfl,rfl,aZ sub qa,aZ sub qb,hv,by rw[←l1,←l2];exact cE hl,fun hw=>?_,fun hw p hp=>?_⟩))
    ·subst hw;have:(_:List D)=[]:=List.length_eq_zero_iff.mp l2;refine k _ G H (Cr.refl sub) ?_;rw[this,BP];exact Bf.tup qa ra
    ·exact k _ _ _ (Cr.laid sub hp) (dZ (sub.free hp) (cF ra rb))
  ·cases e
 ·obtain⟨a,vs,rfl,qa,ra⟩:=aY rx;obtain⟨b,ws,rfl,qb,rb⟩:=aY ry;split at e
  ·rename_i hl;cases e;exact .inr (.inr (.inr (.inr ⟨a,b,vs,ws,rfl,rfl,sub.seq qa,sub.seq qb,by rw[←aF ra,←aF rb];exact cE hl,fun p hp=>k _ _ _ (Cr.laid sub hp) (bP (sub.free hp) (cF ra rb))⟩)))
  ·cases e
 ·cases e
def Bg(c:Int→Int→Bool)(g:Int→Int→D):D→D→Option D
 |.int i,.int j=>if c i j=true then some (g i j)else none
 |_,_=>none
theorem uB{K:W.Frag}{C:Int→Int→Prop}{c:Int→Int→Bool}{g:Int→Int→D}{gv:Int→Int→V}(hc:∀i j,c i j=true→C i j)(hg:∀i j H,Bf K H (g i j) (gv i j)):Fz K (rI C gv) (Bg c g):=by
 intro x y dx dy d G H Q sub rx ry e k;unfold Bg at e;split at e
 ·cases aU rx;cases aU ry;split at e
  ·rename_i h;cases e;exact⟨_,_,rfl,rfl,hc _ _ h,k _ G H (Cr.refl sub) (hg _ _ G)⟩
  ·cases e
 ·cases e
def Au(g:Int→Int→D):D→D→Option D
 |.int i,.int j=>some (g i j)
 |_,_=>none
theorem oF{K:W.Frag}{g:Int→Int→D}{gv:Int→Int→V}(hg:∀i j H,Bf K H (g i j) (gv i j)):Fz K (Mo gv) (Au g):=by
 intro x y dx dy d G H Q sub rx ry e k;unfold Au at e;split at e
 ·cases aU rx;cases aU ry;cases e;exact⟨_,_,rfl,rfl,k _ G H (Cr.refl sub) (hg _ _ G)⟩
 ·cases e
def Br:D→D→Option D:=Au fun i j=>.int (i - j)
theorem a7l{K:W.Frag}:Fz K (Mo fun i j=>.int (i - j)) Br:=oF fun _ _ _=>Bf.int
def Ka(i j:Int):Bool:=(decide (-(2 ^ 64)<i)&&decide (i<2 ^ 64))||(decide (-(2 ^ 64)<j)&&decide (j<2 ^ 64))
theorem b5s{K:W.Frag}:Fz K (rI Qi fun i j=>.int (i*j)) (Bg Ka fun i j=>.int (i*j)):=uB (fun i j h=>by
 unfold Ka at h;simp only[BZ,AE,AH]at h;exact h) fun _ _ _=>Bf.int
theorem b5t{K:W.Frag}:Fz K (rI (fun _ j=>0<j) fun i j=>.int (i%j)) (Bg (fun _ j=>decide (0<j)) fun i j=>.int (i%j)):=uB (fun i j h=>by simpa using h) fun _ _ _=>Bf.int
theorem b1x{K:W.Frag}:Fz K (rI Tb fun i j=>.int (i / j)) (Bg (fun _ j=>decide (0<j)&&decide (j<1073741824)) fun i j=>.int (i / j)):=uB (fun i j h=>by
 simp only[AE,AH]at h;exact h) fun _ _ _=>Bf.int
theorem b5r{K:W.Frag}:Fz K (rI Ta fun i j=>.int (i ^ j.toNat)) (Bg (fun i j=>decide (0≤j)&&decide (j≤1000000)&&decide (i.natAbs<2 ^ 64)) fun i j=>.int (i ^ j.toNat)):=uB (fun i j h=>by
 simp only[AE,AH]at h;exact⟨h.1.1,h.1.2,h.2⟩) fun _ _ _=>Bf.int
theorem b8p{K:W.Frag}:Fz K (Mo fun i j=>.bl (decide (i<j))) (Au fun i j=>.bl (decide (i<j))):=oF fun _ _ _=>Bf.bl
theorem b8q{K:W.Frag}:Fz K (Mo fun i j=>.bl (decide (j<i))) (Au fun i j=>.bl (decide (j<i))):=oF fun _ _ _=>Bf.bl
theorem b8r{K:W.Frag}:Fz K (Mo fun i j=>.bl (decide (j≤i))) (Au fun i j=>.bl (decide (j≤i))):=oF fun _ _ _=>Bf.bl
def Ju(x y:Str):Bool:=!decide (y.cps.toList<x.cps.toList)
theorem a3n:Es X (compareOp .LtE) (fun x y H Q=>∃i j,x=.str i∧y=.str j∧Q (.bl (Ju i j)) H):=by
 intro pins s σ H x y v u Q I rx ry h;obtain⟨i,j,rfl,rfl,q⟩:=h;obtain⟨t,rfl⟩:=rx;obtain⟨t',rfl⟩:=ry;exact PySem.P.le_str (cK I q rfl)
def Ap:D→Bool
 |.non=>true
 |_=>false
def Al:D→D→Option D
 |x,.non=>some (.bl (Ap x))
 |_,_=>none
theorem rZ{K:W.Frag}{H:Hp}(r:Bf K H d x):decide (x=V.non)=Ap d:=by
 cases d with
 |non=>cases cW r;rfl
 |bl b=>cases bU r;rfl
 |int b=>cases aU r;rfl
 |str b=>cases aP r;rfl
 |tup b=>obtain⟨a,vs,rfl,_⟩:=aX r;rfl
 |lst b=>obtain⟨a,vs,rfl,_⟩:=aY r;rfl
 |fn b=>cases gW r;rfl
 |dk b=>obtain⟨a,rfl,_⟩:=b4p r;rfl
theorem zM{K:W.Frag}:Fz K (fun x y H Q=>y=.non∧Q (.bl (decide (x=.non))) H) Al:=by
 intro x y dx dy d G H Q sub rx ry e k;unfold Al at e;split at e
 ·cases cW ry;cases e;refine⟨rfl,?_⟩;rw[rZ rx];exact k _ G H (Cr.refl sub) Bf.bl
 ·cases e
def Ae:D→D→Option D
 |x,.non=>some (.bl (!Ap x))
 |_,_=>none
theorem a1m{K:W.Frag}:Fz K (fun x y H Q=>y=.non∧Q (.bl (!decide (x=.non))) H) Ae:=by
 intro x y dx dy d G H Q sub rx ry e k;unfold Ae at e;split at e
 ·cases cW ry;cases e;refine⟨rfl,?_⟩;rw[rZ rx];exact k _ G H (Cr.refl sub) Bf.bl
 ·cases e
def Bl:D→D→Option D
 |.tup xs,.int i=>Cp xs i
 |.lst xs,.int i=>Cp xs i
 |.str x,.int i=>if x.length≤Ci then(Cp x.cps.toList i).map fun c=>.str ⟨#[c]⟩else none
 |_,_=>none
theorem kL{K:W.Frag}{H:Hp}{i:Int}(r:At K H ds vs)(h:Cp ds i=some d):∃v,Cp vs i=some v∧Bf K H d v:=by
 unfold Cp at h ⊢;obtain⟨j,h1,h2⟩:=AA.mp h;obtain⟨v,h3,h4⟩:=eM r h2;exact⟨v,AA.mpr ⟨j,by rw[←aF r];exact h1,h3⟩,h4⟩
theorem bC{K:W.Frag}:Fz K (Wc K) Bl:=by
 intro x y dx dy d G H Q sub rx ry e k;unfold Bl at e;split at e
 ·obtain⟨a,vs,rfl,qa,ra⟩:=aX rx;cases aU ry;obtain⟨v,h1,h2⟩:=kL ra e;exact .inr (.inl ⟨a,vs,_,v,rfl,rfl,aZ sub qa,h1,k v G H (Cr.refl sub) h2⟩)
 ·obtain⟨a,vs,rfl,qa,ra⟩:=aY rx;cases aU ry;obtain⟨v,h1,h2⟩:=kL ra e;exact .inl ⟨a,vs,_,v,rfl,rfl,sub.seq qa,h1,k v G H (Cr.refl sub) h2⟩
 ·cases aP rx;cases aU ry;split at e
  ·rename_i hl;obtain⟨c,h1,rfl⟩:=AF.mp e;exact .inr (.inr ⟨_,_,c,rfl,rfl,cE hl,h1,k _ G H (Cr.refl sub) Bf.str⟩)
  ·cases e
 ·cases e
def Ao{α:Type}(xs:List α)(lo hi:Option Int):List α:=(xs.drop (HT.sIx xs.length 0 lo)).take (HT.sIx xs.length xs.length hi - HT.sIx xs.length 0 lo)
theorem pF{K:W.Frag}{H:Hp}(r:At K H ds vs)(lo hi:Option Int):At K H (Ao ds lo hi) (Nm vs lo hi):=by
 unfold Ao Nm;rw[aF r];exact sB _ (sC _ r)
end
end DL
namespace DL
open PySem PySem.Spec PyProof.Rows L2
section
variable{X:Cx}{own:List Nat}{e a b c:Expr}{es:List Expr}{pos p2:Pos}{f fa fb fc:Ac→Option D}{fs:Ac→Option (List D)}{ft fu:Ac→Option Bool}{ol oh:Ac→Option (Option Int)}
inductive Qt(K:W.Frag)(own:List Nat)(o:Ac→Option (Option Int))(σ:St)(H:Hp)(Q:Option Int→Hp→Prop):Prop
 |mk (G:Hp) (ρ:Ac) (i:Option Int) (r:OR K own G H σ ρ) (e:o ρ=some i) (k:∀G' H',Cr G H G' H'→Q i H'):Qt K own o σ H Q
def Ah:Ac→Option (Option Int):=fun _=>some none
def Af(f:Ac→Option D):Ac→Option (Option Int):=fun ρ=>(f ρ).bind fun d=>match d with|.int i=>some (some i)|_=>none
theorem bM:PO X none (Qt X.K own Ah):=fun pins s σ H Q I ⟨G,ρ,i,er,e,k⟩=>by
 cases e;exact b1e pins s σ H Q I (k G H (Cr.refl er.sub))
theorem bD(h:DE X own e f):PO X (some e) (Qt X.K own (Af f)):=fun pins s σ H Q I ⟨G,ρ,i,er,e',k⟩=>by
 obtain⟨d,e1,e2⟩:=AA.mp e';refine b1d h.ok pins s σ H Q I ⟨G,ρ,d,er,e1,fun v G' H' s' r'=>?_⟩;cases d<;>first
  |cases e2
  |skip
 cases aU r';exact⟨_,rfl,k G' H' s'⟩
def Aj:D→Option Int→Option Int→Option D
 |.tup xs,lo,hi=>if HT.sIx xs.length 0 lo=0∧HT.sIx xs.length xs.length hi=xs.length then none else some (.tup (Ao xs lo hi))
 |.lst xs,lo,hi=>some (.lst (Ao xs lo hi))
 |_,_,_=>none
def Ck(f:Ac→Option D)(ol oh:Ac→Option (Option Int)):Ac→Option D:=fun ρ=>(f ρ).bind fun d=>(ol ρ).bind fun l=>(oh ρ).bind fun h=>Aj d l h
theorem bQ{lo hi:Option Expr}(ha:DE X own a fa)(hl:PO X lo (Qt X.K own ol))(hh:PO X hi (Qt X.K own oh)):DE X own (.Subscript a (.Slice lo hi none p2) pos) (Ck fa ol oh):=
 cD (wP (Rp.or a5m a0x) ha.ok hl hh) fun σ G H Q ρ d er e k=>by
  obtain⟨x,e1,e⟩:=AA.mp e;obtain⟨l,e2,e⟩:=AA.mp e;obtain⟨h,e3,e⟩:=AA.mp e;refine⟨G,ρ,x,er,e1,fun v G1 H1 s1 r1=>⟨G1,ρ,l,er.grow s1,e2,fun G2 H2 s2=>⟨G2,ρ,h,er.grow (s1.trans s2),e3,fun G3 H3 s3=>?_⟩⟩⟩;have r3:Bf X.K G3 x v:=(r1.mono s2.g).mono s3.g;have s4:Cr G H G3 H3:=s1.trans (s2.trans s3);have sub:=s4.sub;unfold Aj at e;split at e
  ·split at e
   ·cases e
   ·rename_i hw;cases e;obtain⟨p,vs,rfl,q,rr⟩:=aX r3;refine .inl ⟨p,vs,rfl,aZ sub q,?_,fun p hp=>k _ _ _ (s4.trans (Cr.laid sub hp)) (dZ (sub.free hp) (pF rr l h))⟩;rw[←aF rr];exact hw
  ·cases e;obtain⟨p,vs,rfl,q,rr⟩:=aY r3;exact .inr ⟨p,vs,rfl,sub.seq q,fun p hp=>k _ _ _ (s4.trans (Cr.laid sub hp)) (bP (sub.free hp) (pF rr l h))⟩
  ·cases e
def Wp:D→Value
 |.non=>.type "NoneType"
 |.bl _=>.type "bool"
 |.int _=>.type "int"
 |.str _=>.type "str"
 |.tup _=>.type "tuple"
 |.lst _=>.type "list"
 |.fn _=>.none
 |.dk _=>.none
def Uf(K:W.Frag)(T:String):List V→Hp→VK→Prop:=fun xs H Q=>∃x d b,xs=[x,.ty T]∧Bf K H d x∧W.kitOne K (Wp d) (.type T)=some b∧(∀a,d≠.fn a)∧(∀a,d≠.dk a)∧Q (.bl b) H
theorem b0a{T:String}:Ej X (.builtin "isinstance") (Uf X.K T):=by
 intro pins s σ H xs us Q I r h;obtain⟨x,d,b,rfl,rx,e,hf,hf2,q⟩:=h;obtain⟨u,w',rfl,r1,r2⟩:=vR r;cases r2;have fin:∀tk,EP X pins σ Q (.bool b) {s with toks:=tk}:=fun tk=>⟨.bl b,H,I.tok tk,rfl,q⟩;cases d with
 |non=>cases cW rx;cases r1;exact HF W.kitx_none I.kIn True.intro e (fun z=>nomatch z) fin
 |bl y=>cases bU rx;cases r1;exact HF W.kitx_bool I.kIn True.intro e (fun z=>nomatch z) fin
 |int y=>cases aU rx;obtain⟨t,rfl⟩:=r1;exact HF W.kitx_int I.kIn True.intro e (fun z=>nomatch z) fin
 |str y=>cases aP rx;obtain⟨t,rfl⟩:=r1;exact HF W.kitx_str I.kIn True.intro e (fun z=>nomatch z) fin
 |tup ys=>
  obtain⟨a,vs,rfl,qa,ra⟩:=aX rx;cases r1;obtain⟨its,_,⟨o,h1,h2,_⟩,_⟩:=I.tuple qa;exact HF W.kitx_tuple I.kIn ⟨o,h1,h2⟩ e (fun z=>nomatch z) fin
 |lst ys=>
  obtain⟨a,vs,rfl,qa,ra⟩:=aY rx;cases r1;obtain⟨its,_,pl,_⟩:=I.list qa;obtain⟨o,n,h1,h2,_⟩:=pl;exact HF W.kitx_list I.kIn ⟨o,h1,h2⟩ e (fun z=>nomatch z) fin
 |fn a=>exact absurd rfl (hf a)
 |dk a=>exact absurd rfl (hf2 a)
def Bs(T:String):D→Option Bool
 |.non=>some (T=="NoneType")
 |.bl _=>some (T=="bool"||T=="int")
 |.int _=>some (T=="int")
 |.str _=>some (T=="str")
 |.tup _=>some (T=="tuple")
 |.lst _=>some (T=="list")
 |.fn _=>none
 |.dk _=>none
structure Qf(K:W.Frag)(T:String):Prop where
 ok:∀d b,Bs T d=some b→W.kitOne K (Wp d) (.type T)=some b
theorem uP:W.kitOne [] (.type "NoneType") (.type "int")=some ("int"=="NoneType"):=by decide+kernel
theorem xG:W.kitOne [] (.type "bool") (.type "int")=some ("int"=="bool"||"int"=="int"):=by decide+kernel
theorem uT:W.kitOne [] (.type "int") (.type "int")=some ("int"=="int"):=by decide+kernel
theorem uN:W.kitOne [] (.type "str") (.type "int")=some ("int"=="str"):=by decide+kernel
theorem uL:W.kitOne [] (.type "tuple") (.type "int")=some ("int"=="tuple"):=by decide+kernel
theorem uR:W.kitOne [] (.type "list") (.type "int")=some ("int"=="list"):=by decide+kernel
theorem b2s{K:W.Frag}:Qf K "int":=⟨fun d b h=>match d,b,h with
 |.non,b,h=>by cases h;exact uP
 |.bl _,b,h=>by cases h;exact xG
 |.int _,b,h=>by cases h;exact uT
 |.str _,b,h=>by cases h;exact uN
 |.tup _,b,h=>by cases h;exact uL
 |.lst _,b,h=>by cases h;exact uR
 |.fn _,b,h=>by cases h
 |.dk _,b,h=>by cases h⟩
theorem rN:W.kitOne [] (.type "NoneType") (.type "bool")=some ("bool"=="NoneType"):=by decide+kernel
theorem uU:W.kitOne [] (.type "bool") (.type "bool")=some ("bool"=="bool"||"bool"=="int"):=by decide+kernel
theorem rP:W.kitOne [] (.type "int") (.type "bool")=some ("bool"=="int"):=by decide+kernel
theorem rM:W.kitOne [] (.type "str") (.type "bool")=some ("bool"=="str"):=by decide+kernel
theorem rL:W.kitOne [] (.type "tuple") (.type "bool")=some ("bool"=="tuple"):=by decide+kernel
theorem rO:W.kitOne [] (.type "list") (.type "bool")=some ("bool"=="list"):=by decide+kernel
theorem a8n{K:W.Frag}:Qf K "bool":=⟨fun d b h=>match d,b,h with
 |.non,b,h=>by cases h;exact rN
 |.bl _,b,h=>by cases h;exact uU
 |.int _,b,h=>by cases h;exact rP
 |.str _,b,h=>by cases h;exact rM
 |.tup _,b,h=>by cases h;exact rL
 |.lst _,b,h=>by cases h;exact rO
 |.fn _,b,h=>by cases h
 |.dk _,b,h=>by cases h⟩
theorem uO:W.kitOne [] (.type "NoneType") (.type "str")=some ("str"=="NoneType"):=by decide+kernel
theorem xF:W.kitOne [] (.type "bool") (.type "str")=some ("str"=="bool"||"str"=="int"):=by decide+kernel
theorem uS:W.kitOne [] (.type "int") (.type "str")=some ("str"=="int"):=by decide+kernel
theorem uM:W.kitOne [] (.type "str") (.type "str")=some ("str"=="str"):=by decide+kernel
theorem uK:W.kitOne [] (.type "tuple") (.type "str")=some ("str"=="tuple"):=by decide+kernel
theorem uQ:W.kitOne [] (.type "list") (.type "str")=some ("str"=="list"):=by decide+kernel
theorem uX{K:W.Frag}:Qf K "str":=⟨fun d b h=>match d,b,h with
 |.non,b,h=>by cases h;exact uO
 |.bl _,b,h=>by cases h;exact xF
 |.int _,b,h=>by cases h;exact uS
 |.str _,b,h=>by cases h;exact uM
 |.tup _,b,h=>by cases h;exact uK
 |.lst _,b,h=>by cases h;exact uQ
 |.fn _,b,h=>by cases h
 |.dk _,b,h=>by cases h⟩
theorem qA:W.kitOne [] (.type "NoneType") (.type "tuple")=some ("tuple"=="NoneType"):=by decide+kernel
theorem rQ:W.kitOne [] (.type "bool") (.type "tuple")=some ("tuple"=="bool"||"tuple"=="int"):=by decide+kernel
theorem qC:W.kitOne [] (.type "int") (.type "tuple")=some ("tuple"=="int"):=by decide+kernel
theorem pZ:W.kitOne [] (.type "str") (.type "tuple")=some ("tuple"=="str"):=by decide+kernel
theorem pY:W.kitOne [] (.type "tuple") (.type "tuple")=some ("tuple"=="tuple"):=by decide+kernel
theorem qB:W.kitOne [] (.type "list") (.type "tuple")=some ("tuple"=="list"):=by decide+kernel
theorem fN{K:W.Frag}:Qf K "tuple":=⟨fun d b h=>match d,b,h with
 |.non,b,h=>by cases h;exact qA
 |.bl _,b,h=>by cases h;exact rQ
 |.int _,b,h=>by cases h;exact qC
 |.str _,b,h=>by cases h;exact pZ
 |.tup _,b,h=>by cases h;exact pY
 |.lst _,b,h=>by cases h;exact qB
 |.fn _,b,h=>by cases h
 |.dk _,b,h=>by cases h⟩
def Bj(T:String)(f:Ac→Option D):Ac→Option D:=fun ρ=>(f ρ).bind fun d=>(Bs T d).map D.bl
theorem fJ{T:String}{x:Str}(ht:Qf X.K T)(hg:Gl X "isinstance")(hm:X.mg "isinstance"=none)(hg2:Gl X x)(hm2:X.mg x=none)(hv:bootBuiltins "isinstance"=some (.builtin "isinstance"))(hv2:bootBuiltins x=some (.type T))(ha:DE X own a fa)
  (hn2:x≠"__name__":=by decide)(hd2:(x==("__debug__":Str))=false:=by decide)
  (he:starEach [a,.Name x p2] X.env=(false,eval a X.env)::starEach [.Name x p2] X.env:=by rfl)(he2:starEach [.Name x p2] X.env=(false,eval (.Name x p2) X.env)::starEach [] X.env:=by rfl)
  (hpl:(backTo pos (starEach [.Name x p2] X.env)).any (·.1)=false:=by rfl):DE X own (.Call (.Name "isinstance" p) [a,.Name x p2] [] pos) (Bj T fa):=
 cD (gY (r:=Uf X.K T) b0a hg hm hv (bR ha.ok (bR (a1j (v:=V.ty T) hg2 hm2 hv2 rfl hn2 hd2) dD he2) he) (by decide) (by decide) he hpl) fun σ G H Q ρ d er e k=>by
  obtain⟨x,e1,e⟩:=AA.mp e;obtain⟨b,e2,rfl⟩:=AF.mp e;exact⟨G,ρ,x,er,e1,fun v G1 H1 s1 r1=>⟨v,x,b,rfl,r1.mono s1.sub,ht.ok x b e2,fun a z=>(by subst z;cases e2),fun a z=>(by subst z;cases e2),k _ G1 H1 s1 Bf.bl⟩⟩
theorem cM{K:W.Frag}{H:Hp}(h:At K H [d] vs):∃v,vs=[v]∧Bf K H d v:=by
 obtain⟨v,r,rfl,h1,h2⟩:=bN h;cases bZ h2;exact⟨v,rfl,h1⟩
def Bb:List D→Option D
 |[.tup xs]=>some (.int xs.length)
 |[.lst xs]=>some (.int xs.length)
 |[.str x]=>if x.length≤Ci then some (.int x.length)else none
 |_=>none
theorem dG{K:W.Frag}:Fj K (fun xs H Q=>∃x n,xs=[x]∧Sz K x H n∧Q (.int n) H) Bb:=by
 intro vs ds d G H Q sub r e k;unfold Bb at e;split at e
 ·obtain⟨v,rfl,rv⟩:=cM r;obtain⟨a,ws,rfl,q,rr⟩:=aX rv;cases e;exact⟨_,_,rfl,.inr ⟨ws,aZ sub q,aF rr⟩,k _ G H (Cr.refl sub) Bf.int⟩
 ·obtain⟨v,rfl,rv⟩:=cM r;obtain⟨a,ws,rfl,q,rr⟩:=aY rv;cases e;exact⟨_,_,rfl,.inl ⟨ws,sub.seq q,aF rr⟩,k _ G H (Cr.refl sub) Bf.int⟩
 ·obtain⟨v,rfl,rv⟩:=cM r;cases aP rv;split at e
  ·rename_i hl;cases e;exact⟨_,_,rfl,⟨cE hl,rfl⟩,k _ G H (Cr.refl sub) Bf.int⟩
  ·cases e
 ·cases e
def Bt:List D→Option D
 |[.int i]=>some (.int (if i<0 then -i else i))
 |_=>none
theorem b7n{K:W.Frag}:Fj K (fun xs H Q=>∃i,xs=[.int i]∧Q (.int (if i<0 then -i else i)) H) Bt:=by
 intro vs ds d G H Q sub r e k;unfold Bt at e;split at e
 ·obtain⟨v,rfl,rv⟩:=cM r;cases aU rv;cases e;exact⟨_,rfl,k _ G H (Cr.refl sub) Bf.int⟩
 ·cases e
def Rg:List D→Option D
 |[.str x]=>if x.length=1 then some (.int (x.cps.getD 0 0:Nat))else none
 |_=>none
theorem b7m{K:W.Frag}:Fj K (fun xs H Q=>∃x,xs=[.str x]∧x.length=1∧Q (.int (x.cps.getD 0 0:Nat)) H) Rg:=by
 intro vs ds d G H Q sub r e k;unfold Rg at e;split at e
 ·obtain⟨v,rfl,rv⟩:=cM r;cases aP rv;split at e
  ·rename_i hl;cases e;exact⟨_,rfl,hl,k _ G H (Cr.refl sub) Bf.int⟩
  ·cases e
 ·cases e
def Fm:List D→Option D
 |[.lst xs]=>some (.tup xs)
 |[.tup xs]=>some (.tup xs)
 |_=>none
theorem iV{K:W.Frag}:Fj K (fun xs H Q=>∃p ys,xs=[.ref p]∧((Ei K H p ys∧∀l,H l=none→Q (.ref l) (upd H l (.tup ys)))∨(Eb K H p ys∧Q (.ref p) H))) Fm:=by
 intro vs ds d G H Q sub r e k;unfold Fm at e;split at e
 ·obtain⟨v,rfl,rv⟩:=cM r;obtain⟨a,ws,rfl,q,rr⟩:=aY rv;cases e;exact⟨a,ws,rfl,.inl ⟨sub.seq q,fun p hp=>k _ _ _ (Cr.laid sub hp) (dZ (sub.free hp) rr)⟩⟩
 ·obtain⟨v,rfl,rv⟩:=cM r;obtain⟨a,ws,rfl,q,rr⟩:=aX rv;cases e;exact⟨a,ws,rfl,.inr ⟨aZ sub q,k _ G H (Cr.refl sub) rv⟩⟩
 ·cases e
theorem oP:∀{bs:List Bool} {us:List Value},Bw (bs.map V.bl) us→us=bs.map Value.bool
 |[],_,.nil=>rfl
 |b::bs,_,.cons r t=>by cases r;rw[oP t];rfl
def Ul(K:W.Frag):List V→Hp→VK→Prop:=fun xs H Q=>∃(p:Addr) (bs:List Bool),xs=[.ref p]∧Ei K H p (bs.map V.bl)∧Q (.bl (bs.all id)) H
theorem a4v:∀(bs:List Bool),((List.range bs.length).all fun i=>(bs[i]?).getD true)=bs.all id:=fun bs=>by
 rw[DH,BQ,BQ];constructor
 ·intro h x hx;obtain⟨i,hi,rfl⟩:=List.mem_iff_getElem.mp hx;have:=h i (FG.mpr hi);simpa[hi]using this
 ·intro h i hi;have hi':=FG.mp hi;simpa[hi']using h bs[i] (HA hi')
theorem qW(hc:X.calm=true):Ej X (.builtin "all") (Ul X.K):=by
 intro pins s σ H xs us Q I r h;obtain⟨p,bs,rfl,hq,q⟩:=h;obtain⟨u,rfl,r1⟩:=gR r;cases r1;obtain⟨its,rv,pl,hz⟩:=I.list hq;have e:=oP rv;subst e;have hl:=pl.isList;have hlt:p<s.heap.objs.size:=by obtain⟨_,e,_⟩:=hl;exact AL e
 refine call_all_walk (wpAny_pyIter_list hl ?_);refine⟨s.heap.objs.size,[s.heap.objs.size,p],[s.heap.objs.size],(bs.map Value.bool).toArray.size,_,_,fun i=>(bs[i]?).getD true,rfl,Walks.list (A:=X.A.in1) (I.ok.hd hc) _ p (BC hlt) (bs.map Value.bool).toArray,
  ⟨⟨_,BA _ rfl,rfl,rfl⟩,hl.push _⟩,fun i v s' Q' E' hP hQ=>?_,fun h' tk hk=>?_⟩
 ·have hP':(bs.map Value.bool)[i]?=some v:=by simpa using hP
  rw[BO]at hP';obtain⟨b,hb,rfl⟩:=AF.mp hP';simp only[hb,Option.getD_some]at hQ;exact BK hQ
 ·have e:((List.range (bs.map Value.bool).toArray.size).all fun i=>(bs[i]?).getD true)=bs.all id:=by
   rw[AJ,AK];exact a4v bs
  rw[e];exact⟨.bl _,H,I.kept (t':=tk) fun b x ex=>hk b x (fun hm=>by rw[List.mem_singleton.mp hm]at ex;exact EE _ (AL ex)) (AD _ ex),rfl,q⟩
def Jf:List D→Option (List Bool)
 |[]=>some []
 |.bl b::r=>(Jf r).map (b::·)
 |_=>none
def Jq:List D→Option D
 |[.lst xs]=>(Jf xs).map fun bs=>.bl (bs.all id)
 |_=>none
theorem sA{K:W.Frag}{H:Hp}:∀{ds:List D} {vs:List V} {bs:List Bool},At K H ds vs→Jf ds=some bs→vs=bs.map V.bl
 |[],vs,bs,r,e=>by cases bZ r;cases e;rfl
 |d::ds,vs,bs,r,e=>by
  obtain⟨v,t,rfl,r1,r2⟩:=bN r;cases d<;>first|cases e|skip
  obtain⟨bs',e1,rfl⟩:=AF.mp e;cases bU r1;rw[sA r2 e1];rfl
theorem a0k{K:W.Frag}:Fj K (Ul K) Jq:=by
 intro vs ds d G H Q sub r e k;unfold Jq at e;split at e
 ·obtain⟨v,rfl,rv⟩:=cM r;obtain⟨a,ws,rfl,q,rr⟩:=aY rv;obtain⟨bs,e1,rfl⟩:=AF.mp e;have:=sA rr e1;subst this;exact⟨a,bs,rfl,sub.seq q,k _ G H (Cr.refl sub) Bf.bl⟩
 ·cases e
end
end DL
namespace DL
open PySem PySem.Spec PyProof.Rows L2
def Qp(K:W.Frag)(J:It)(ds:List D)(G1:Hp):Prop:=∀(i:Nat) (G' H':Hp),Cf G1 G'→Cf G' H'→
 (∀d,ds[i]?=some d→J.go i H'∧∀x H'',J.yld i H' x H''→∃G'',Cr G' H' G'' H''∧Bf K G'' d x)∧(i=ds.length→J.stop i H')
inductive Wr(K:W.Frag)(own:List Nat)(fi:Ac→Option (List D))(σ:St)(H:Hp)(R:It→Hp→Prop):Prop
 |mk (G:Hp) (ρ:Ac) (ds:List D) (o:OR K own G H σ ρ) (e:fi ρ=some ds) (k:∀J G1 H1,Cr G H G1 H1→Qp K J ds G1→R J H1):Wr K own fi σ H R
structure DI(X:Cx)(own:List Nat)(tg iter:Expr)(fi:Ac→Option (List D)):Prop where
 ok:PI X tg iter (Wr X.K own fi)
section
variable{X:Cx}{own:List Nat}{e a b c tg:Expr}{es:List Expr}{pos p2:Pos}{f fa fb fc:Ac→Option D}{fs fi:Ac→Option (List D)}{ft fu:Ac→Option Bool}
theorem xS{wi:TI}(h:PI X tg e wi)(hw:∀σ G H R ρ ds,OR X.K own G H σ ρ→fi ρ=some ds→(∀J G1 H1,Cr G H G1 H1→Qp X.K J ds G1→R J H1)→wi σ H R):DI X own tg e fi:=⟨fun pins s σ H R I ⟨G,ρ,ds,er,e,k⟩=>h pins s σ H R I (hw σ G H R ρ ds er e k)⟩
def Gc(f:Ac→Option D):Ac→Option (List D):=fun ρ=>(f ρ).bind fun d=>match d with|.lst xs=>some xs|_=>none
def Lr(f:Ac→Option D):Ac→Option (List D):=fun ρ=>(f ρ).bind fun d=>match d with|.tup xs=>some xs|_=>none
theorem a8m{K:W.Frag}{G1:Hp}{ad:Addr}(q:Ei K G1 ad vs)(r:At K G1 ds vs):Qp K (Wm K ad) ds G1:=by
 intro i G' H' s1 s2;have q':Ei K H' ad vs:=s2.seq (s1.seq q);refine⟨fun d hd=>?_,fun hi=>⟨vs,q',by rw[←aF r,hi];exact AU _⟩⟩;obtain⟨v,h1,h2⟩:=eM r hd;refine⟨⟨vs,v,q',h1⟩,fun x H'' hy=>?_⟩;obtain⟨e1,e2⟩:=hy;subst e1;have:=e2 vs q';rw[h1]at this;cases this;exact⟨G',Cr.refl s2,h2.mono s1⟩
theorem b2q{K:W.Frag}{G1:Hp}{ad:Addr}(q:Eb K G1 ad vs)(r:At K G1 ds vs):Qp K (Wl K ad) ds G1:=by
 intro i G' H' s1 s2;have q':Eb K H' ad vs:=aZ s2 (aZ s1 q);refine⟨fun d hd=>?_,fun hi=>⟨vs,q',by rw[←aF r,hi];exact AU _⟩⟩;obtain⟨v,h1,h2⟩:=eM r hd;refine⟨⟨vs,v,q',h1⟩,fun x H'' hy=>?_⟩;obtain⟨e1,e2⟩:=hy;subst e1;have:=e2 vs q';rw[h1]at this;cases this;exact⟨G',Cr.refl s2,h2.mono s1⟩
theorem fE(h:DE X own a fa):DI X own tg a (Gc fa):=xS (b1h h.ok) fun σ G H R ρ ds er e k=>by
 obtain⟨d,e1,e2⟩:=AA.mp e;cases d<;>first|cases e2|skip
 refine⟨G,ρ,_,er,e1,fun v G1 H1 s1 r1=>?_⟩;obtain⟨p,vs,rfl,q,rr⟩:=aY r1;exact⟨p,rfl,⟨vs,s1.sub.seq q⟩,k _ G1 H1 s1 (a8m q rr)⟩
theorem a9k(h:DE X own a fa):DI X own tg a (Lr fa):=xS (b4z h.ok) fun σ G H R ρ ds er e k=>by
 obtain⟨d,e1,e2⟩:=AA.mp e;cases d<;>first|cases e2|skip
 refine⟨G,ρ,_,er,e1,fun v G1 H1 s1 r1=>?_⟩;obtain⟨p,vs,rfl,q,rr⟩:=aX r1;exact⟨p,rfl,⟨vs,aZ s1.sub q⟩,k _ G1 H1 s1 (b2q q rr)⟩
def Cv(n:Nat):List D:=(List.range n).map fun i=>.int (i:Nat)
def Ha(f:Ac→Option D):Ac→Option (List D):=fun ρ=>(f ρ).bind fun d=>match d with|.int j=>if -1000≤j∧j≤100000 then some (Cv j.toNat)else none|_=>none
theorem a4e{K:W.Frag}{G1:Hp}{n:Nat}:Qp K (Vp 0 n) (Cv n) G1:=by
 intro i G' H' s1 s2;unfold Cv;refine⟨fun d hd=>?_,fun hi=>by rw[AK,FA]at hi;exact FF hi.symm⟩;rw[BO]at hd;obtain⟨j,hj,rfl⟩:=AF.mp hd;obtain⟨hl,he⟩:=AT.mp hj;rw[GO]at he;subst he;rw[FA]at hl;refine⟨hl,fun x H'' hy=>?_⟩;obtain⟨e1,e2⟩:=hy;subst e1 e2;refine⟨G',Cr.refl s2,?_⟩;rw[Int.zero_add];exact Bf.int
theorem lL{pos:Pos}(hg:Gl X "range")(hm:X.mg "range"=none)(h:DE X own a fa)(hs:starEach [a] X.env=[(false,eval a X.env)]:=by rfl)(hs1:starEach (a::[]) X.env=(false,eval a X.env)::starEach [] X.env:=by rfl):
  DI X own tg (.Call (.Name "range" p) [a] [] pos) (Ha fa):=xS (a3i hg hm (bR h.ok dD hs1) hs) fun σ G H R ρ ds er e k=>by
 obtain⟨d,e1,e2⟩:=AA.mp e;cases d<;>first|cases e2|skip
 rename_i j;have e3:(if -1000≤j∧j≤100000 then some (Cv j.toNat)else none)=some ds:=e2;split at e3
 ·rename_i hj;cases e3;refine⟨G,ρ,_,er,e1,fun v G1 H1 s1 r1=>?_⟩;cases aU r1;exact⟨j,rfl,by omega,by omega,k _ G1 H1 s1 a4e⟩
 ·cases e3
def Cy(bnd:D→Ac→Option Ac)(ft:Ac→Option Bool)(fe:Ac→Option D)(ρ:Ac):List D→Option (List D)
 |[]=>some []
 |d::ds=>(bnd d ρ).bind fun ρ1=>(ft ρ1).bind fun b=>if b then(fe ρ1).bind fun y=>(Cy bnd ft fe ρ ds).map (y::·)else Cy bnd ft fe ρ ds
def GD(K:W.Frag)(g:TG)(bnd:D→Ac→Option Ac):Prop:=∀{x:V} {d:D} {σ:St} {G H:Hp} {ρ ρ1:Ac} {Q:St→Hp→Prop},OR K [] G H σ ρ→Bf K G d x→bnd d ρ=some ρ1→(∀σ1,OR K [] G H σ1 ρ1→Le ρ ρ1→Q σ1 H)→g x σ H Q
def Ca(i:Nat):D→Ac→Option Ac:=fun d ρ=>match ρ[i]? with|some none=>some (ρ.set i (some d))|_=>none
theorem cP{K:W.Frag}(i:Nat):GD K (Lm i) (Ca i):=by
 intro x d σ G H ρ ρ1 Q er r e k;unfold Ca at e;split at e
 ·rename_i h;cases e;exact k _ (er.set (by simp) r) ((Le.refl ρ).set h)
 ·cases e
def Lp(i j:Nat):D→Ac→Option Ac:=fun d ρ=>match d with
 |.tup [x,y]=>(Ca i x ρ).bind fun ρ1=>Ca j y ρ1
 |_=>none
theorem Le.trans{ρ ρ1 ρ2:Ac}(a:Le ρ ρ1)(b:Le ρ1 ρ2):Le ρ ρ2:=⟨a.1.trans b.1,fun i d h=>b.2 i d (a.2 i d h)⟩
theorem b2v{K:W.Frag}(i j:Nat):GD K (Uu K 2 (Pz (Lm i) (Pz (Lm j) Uv))) (Lp i j):=by
 intro x d σ G H ρ ρ1 Q er r e k;unfold Lp at e;split at e
 ·obtain⟨ρ2,e1,e2⟩:=AA.mp e;obtain⟨p,vs,rfl,q,rr⟩:=aX r;obtain⟨v1,t1,rfl,r1,rr⟩:=bN rr;obtain⟨v2,t2,rfl,r2,rr⟩:=bN rr;cases bZ rr;refine⟨p,[v1,v2],rfl,aZ er.sub q,rfl,v1,[v2],rfl,?_⟩;refine cP i er r1 e1 fun σ1 er1 l1=>⟨v2,[],rfl,?_⟩;exact cP j er1 r2 e2 fun σ2 er2 l2=>⟨rfl,k σ2 er2 (l1.trans l2)⟩
 ·cases e
def Db(nl:Nat)(ix:List Nat)(fi:Ac→Option (List D))(bnd:D→Ac→Option Ac)(ft:Ac→Option Bool)(fe:Ac→Option D):Ac→Option D:=fun ρ=>(fi ρ).bind fun ds=>if ds.length≤Ci then(Cy bnd ft fe (Qb nl ix ρ) ds).map D.lst else none
theorem a9v{K:W.Frag}{J:It}{ds:List D}{G1 H1:Hp}{g:TG}{bnd:D→Ac→Option Ac}{ft:Ac→Option Bool}{fe:Ac→Option D}{ρ0:Ac}{σ0:St}{Fin:List V→Hp→Prop}
  (hb:ds.length≤Ci)(itd:Qp K J ds G1)(hg:GD K g bnd)(er:OR K [] G1 H1 σ0 ρ0)(e:Cy bnd ft fe ρ0 ds=some total)(k:∀ys G' H',Cr G1 H1 G' H'→At K G' total ys→Fin ys H'):
  Nu J g (Ry K [] ft) (tD K [] fe) Fin σ0 H1:=by
 refine⟨fun i m ys σ' H'=>i≤ds.length∧m=ds.length - i∧∃G' ws r,Cr G1 H1 G' H'∧OR K [] G' H' σ' ρ0∧At K G' ws ys∧ws.length≤i∧Cy bnd ft fe ρ0 (ds.drop i)=some r∧ws++r=total,
  ⟨ds.length,DK _,rfl,G1,[],total,Cr.refl er.sub,er,At.nil,DK _,e,rfl⟩,?_⟩
 rintro i m ys σ' H' ⟨hi,rfl,G',ws,r,x,er',rw',hw,er2,et⟩;refine⟨cE (by rw[←aF rw'];omega),?_⟩;obtain⟨hgo,hstop⟩:=itd i G' H' x.g er'.sub;by_cases hlt:i<ds.length
 ·right;have hd:ds[i]?=some ds[i]:=by simp[hlt]
  have hdrop:ds.drop i=ds[i]::ds.drop (i+1):=CY hlt;rw[hdrop]at er2;unfold Cy at er2;obtain⟨ρ1,e1,er2⟩:=AA.mp er2;obtain⟨b,e2,er2⟩:=AA.mp er2;obtain⟨go,yl⟩:=hgo _ hd;refine⟨go,fun v H2 hy=>?_⟩;obtain⟨G2,x2,r2⟩:=yl v H2 hy;refine hg (er'.grow x2) r2 e1 fun σ1 er1 le1=>⟨G2,ρ1,b,er1,e2,fun G3 H3 x3=>?_⟩;have er3:=er1.grow x3;have x13:Cr G1 H1 G3 H3:=x.trans (x2.trans x3);cases b with
  |true=>
   obtain⟨y,e3,er2⟩:=AA.mp er2;obtain⟨zs,e4,rfl⟩:=AF.mp er2;refine nW ⟨G3,ρ1,y,er3,e3,fun u G4 H4 x4 r4=>⟨_,?_,hlt,rfl,G4,ws++[y],zs,x13.trans x4,(er3.grow x4).le le1,?_,?_,e4,?_⟩⟩
   ·omega
   ·exact cF (((rw'.mono x2.g).mono x3.g).mono x4.g) (At.cons r4 At.nil)
   ·rw[BF,CK];omega
   ·rw[List.append_assoc];exact et
  |false=>
   refine nX ⟨_,?_,hlt,rfl,G3,ws,r,x13,er3.le le1,(rw'.mono x2.g).mono x3.g,by omega,er2,et⟩;omega
 ·left;have hil:i=ds.length:=by omega
  refine⟨hstop hil,k ys G' H' x ?_⟩;rw[hil,HB]at er2;cases er2;rw[BP]at et;subst et;exact rw'
theorem fF{scope:Scope}{NL:List Str}{ix:List Nat}{g:TG}{bnd:D→Ac→Option Ac}{fe:Ac→Option D}
  (hkind:scope.kind=.function)(hcell:∀y∈scope.names,y.2≠.cell)(hnames:∀y∈scope.names,y.2=.local→scope.names.lookup y.1=some .local)
  (hfree:∀y∈scope.names,y.2=.free→(X.env.kindOf y.1=some .cell∨X.env.kindOf y.1=some .free))(cap:Eh X scope NF ix)(hix:∀j∈ix,j∉own)(calm:X.calm=true)(hit:DI X own tg iter fi)
  (hg:∀cl C s₂ H₂ fp,PG (He X scope cl C (NL++NF) s₂ H₂ fp) tg g)(hgd:GD X.K g bnd)(hi:∀cl C s₂ H₂ fp,Js (He X scope cl C (NL++NF) s₂ H₂ fp) ifs (Ry X.K [] ft))(he:∀cl C s₂ H₂ fp,DE (He X scope cl C (NL++NF) s₂ H₂ fp) [] elt fe)
  (hs:∀x,foldedSetIterable iter X.env x=pure x:=by intro _;rfl):
  DE X own (.ListComp elt [⟨tg,iter,ifs,0⟩] scope pos) (Db NL.length ix fi bnd ft fe):=
 cD (b1n hkind hcell hnames hfree cap calm hit.ok hg hi (fun x0 x1 x2 x3 x4=>(he x0 x1 x2 x3 x4).ok) hs) fun σ G H Q ρ d er e k=>by
  obtain⟨ds,e1,e⟩:=AA.mp e;split at e
  ·rename_i hb;obtain⟨total,e2,rfl⟩:=AF.mp e;refine⟨G,ρ,ds,er,e1,fun J G1 H1 x1 itd=>?_⟩;refine a9v hb itd hgd ((er.grow x1).cap NL.length ix hix) e2 fun ys G' H' x r p hp=>?_;exact k _ _ _ (x1.trans (x.trans (Cr.laid x.sub hp))) (bP (x.sub.free hp) r)
  ·cases e
theorem kM:Js X [] (Ry X.K [] fun _=>some true):=fun pins s σ H Q I ⟨G,ρ,b,er,e,k⟩=>by
 cases e;exact wN pins s σ H Q I (k G H (Cr.refl er.sub))
theorem b8d(h:DT X [] c ft):Js X [c] (Ry X.K [] ft):=a6k h.ok
end
inductive Fl where
 |nx (ρ:Ac)|rt (d:D)
structure SR(K:W.Frag)(own:List Nat)(G0 F0 G H:Hp)(σ:St)(ρ:Ac):Prop where
 or:OR K own G H σ ρ
 ext:Cr G0 F0 G H
 fr:∀i∈own,∀p,σ[i]?=some (some (V.ref p))→F0 p=none
inductive Vf(K:W.Frag)(G0 F0:Hp)(own own':List Nat)(f:Ac→Option Fl)(E:Ends)(σ:St)(H:Hp):Prop
 |mk (G:Hp) (ρ:Ac) (r:Fl) (o:SR K own G0 F0 G H σ ρ) (e:f ρ=some r) (k:match(generalizing:=false) r with
  |.nx ρ'=>∀G' σ' H',SR K own' G0 F0 G' H' σ' ρ'→E.nx σ' H'
  |.rt d=>∀v G' H',Cr G0 F0 G' H'→Bf K G' d v→E.rt v H'):Vf K G0 F0 own own' f E σ H
structure DS(X:Cx)(own own':List Nat)(st:Stmt)(f:Ac→Option Fl):Prop where
 ok:∀G0 F0,PS X st (Vf X.K G0 F0 own own' f)
structure Qh(X:Cx)(own own':List Nat)(st:List Stmt)(f:Ac→Option Fl):Prop where
 ok:∀G0 F0,Mb X st (Vf X.K G0 F0 own own' f)
section
variable{X:Cx}{own own1 own2:List Nat}{st:Stmt}{rest body:List Stmt}{e a b c tg:Expr}{es:List Expr}{pos p2:Pos}{f fa fb fc:Ac→Option D}{fs fi:Ac→Option (List D)}{ft fu:Ac→Option Bool}{q1 q2 q3:Ac→Option Fl}
theorem a9j{t:TS}(h:PS X st t)(hw:∀G0 F0 E σ G H ρ r,SR X.K own G0 F0 G H σ ρ→q1 ρ=some r→(match r with
  |.nx ρ'=>∀G' σ' H',SR X.K own1 G0 F0 G' H' σ' ρ'→E.nx σ' H'
  |.rt d=>∀v G' H',Cr G0 F0 G' H'→Bf X.K G' d v→E.rt v H')→t E σ H):DS X own own1 st q1:=⟨fun G0 F0 pins s σ H E I ⟨G,ρ,r,er,e,k⟩=>h pins s σ H E I (hw G0 F0 E σ G H ρ r er e k)⟩
theorem SR.grow{K:W.Frag}{G0 F0 G H G' H':Hp}{σ:St}{ρ:Ac}(s:SR K own G0 F0 G H σ ρ)(x:Cr G H G' H'):SR K own G0 F0 G' H' σ ρ:=⟨s.or.grow x,s.ext.trans x,s.fr⟩
theorem SR.set{K:W.Frag}{G0 F0 G H:Hp}{σ:St}{ρ:Ac}{i:Nat}(s:SR K own G0 F0 G H σ ρ)(hi:i∉own)(r:Bf K G d v):SR K own G0 F0 G H (σ.set i (some v)) (ρ.set i (some d)):=
 ⟨s.or.set hi r,s.ext,fun j hj p e=>by
  have ne:i≠j:=fun z=>hi (z▸hj);rw[AY ne]at e;exact s.fr j hj p e⟩
def Ba:Ac→Option Fl:=fun ρ=>some (.nx ρ)
def Am(q1 q2:Ac→Option Fl):Ac→Option Fl:=fun ρ=>(q1 ρ).bind fun r=>match r with|.nx ρ'=>q2 ρ'|.rt d=>some (.rt d)
theorem bJ:Qh X own own [] Ba:=⟨fun G0 F0 pins s σ H E I ⟨G,ρ,r,er,e,k⟩=>by
 cases e;exact a1e pins s σ H E I (k G σ H er)⟩
theorem aH(h1:DS X own own1 st q1)(h2:Qh X own1 own2 rest q2):Qh X own own2 (st::rest) (Am q1 q2):=⟨fun G0 F0 pins s σ H E I ⟨G,ρ,r,er,e,k⟩=>by
 refine wL (h1.ok G0 F0) (h2.ok G0 F0) pins s σ H E I ?_;obtain⟨r1,e1,e2⟩:=AA.mp e;refine⟨G,ρ,r1,er,e1,?_⟩;cases r1 with
 |nx ρ'=>exact fun G' σ' H' er'=>⟨G',ρ',r,er',e2,k⟩
 |rt d=>
  cases e2;exact k⟩
theorem aI(h1:DS X own own1 st q1):Qh X own own1 [st] q1:=⟨fun G0 F0=>tX (h1.ok G0 F0)⟩
theorem SR.free{K:W.Frag}{G0 F0 G H:Hp}{σ:St}{ρ:Ac}(s:SR K own G0 F0 G H σ ρ):SR K [] G0 F0 (Jk own σ G H) H σ ρ:=by
 have o:=s.or.full;refine⟨o,⟨fun b u e=>?_,s.ext.h,o.sub,fun b h=>?_⟩,fun i hi=>(by cases hi)⟩
 ·have z:=s.ext.g b u e;unfold Jk;split
  ·exact s.or.sub b u z
  ·exact z
 ·unfold Jk at h;split at h
  ·rename_i hb;obtain⟨i,hi,q⟩:=mH hb;exact .inr (s.fr i hi b q)
  ·exact s.ext.new b h
theorem qO(h:Qh X [] own2 rest q1):Qh X own own2 rest q1:=⟨fun G0 F0 pins s σ H E I ⟨G,ρ,r,er,e,k⟩=>h.ok G0 F0 pins s σ H E I ⟨_,ρ,r,er.free,e,k⟩⟩
def Ar(f:Ac→Option D):Ac→Option Fl:=fun ρ=>(f ρ).map Fl.rt
theorem aQ(h:DE X own e f):DS X own own1 (.Return (some e) pos) (Ar f):=a9j (a6g h.ok) fun G0 F0 E σ G H ρ r er e' k=>by
 obtain⟨d,e1,rfl⟩:=AF.mp e';exact⟨G,ρ,d,er.or,e1,fun v G' H' x r=>k v G' H' (er.ext.trans x) r⟩
def Ax(i:Nat)(f:Ac→Option D):Ac→Option Fl:=fun ρ=>(f ρ).map fun d=>.nx (ρ.set i (some d))
theorem cL{i:Nat}(hN:X.N.Nodup)(hi:X.N[i]?=some x)(hx:Pm X.env.scope x)(h:DE X own e f)(hio:i∉own:=by decide)(hs:swapsWith e (some (.Name x p2)) pos.line X.env=pure false:=by rfl)
  (hf:X.fn x=true∨X.env.scope.names.lookup x=some .local:=by first|exact .inl rfl|exact .inr rfl|assumption):DS X own own (.Assign [.Name x p2] e pos) (Ax i f):=
 a9j (tY hN hi hx h.ok hs hf) fun G0 F0 E σ G H ρ r er e' k=>by
  obtain⟨d,e1,rfl⟩:=AF.mp e';exact⟨G,ρ,d,er.or,e1,fun v G' H' x r=>k G' _ H' ((er.grow x).set hio r)⟩
def Cb(ft:Ac→Option Bool)(q1 q2:Ac→Option Fl):Ac→Option Fl:=fun ρ=>(ft ρ).bind fun b=>if b then q1 ρ else q2 ρ
theorem cH{b1 b2:List Stmt}(hc:DT X own c ft)(h1:Qh X own own1 b1 q1)(h2:Qh X own own1 b2 q2):DS X own own1 (.If c b1 b2 pos) (Cb ft q1 q2):=⟨fun G0 F0 pins s σ H E I ⟨G,ρ,r,er,e',k⟩=>by
 refine b4b hc.ok (h1.ok G0 F0) (h2.ok G0 F0) pins s σ H E I ?_;obtain⟨x,e1,e2⟩:=AA.mp e';refine⟨G,ρ,x,er.or,e1,fun G' H' x'=>?_⟩;cases x with
 |true=>exact nW ⟨G',ρ,r,er.grow x',e2,k⟩
 |false=>exact nX ⟨G',ρ,r,er.grow x',e2,k⟩⟩
def La(i:Nat)(fs:Ac→Option (List D)):Ac→Option Fl:=fun ρ=>(fs ρ).bind fun ds=>if ds.length≤1000 then some (.nx (ρ.set i (some (.lst ds))))else none
theorem SR.ownNew{K:W.Frag}{G0 F0 G H:Hp}{σ:St}{ρ:Ac}{i:Nat}(s:SR K own G0 F0 G H σ ρ)(hi:i∉own)(hl:i<σ.length)(r:At K G ds vs)(hp:H p=none):
  SR K (i::own) G0 F0 G (upd H p (.lst vs)) (σ.set i (some (V.ref p))) (ρ.set i (some (.lst ds))):=by
 have hiρ:i<ρ.length:=by rw[s.or.len];exact hl
 have subU:Cf H (upd H p (.lst vs)):=gV hp;have ne:∀{b u},H b=some u→b≠p:=fun e=>bO e hp;refine⟨⟨s.or.sub.trans subU,by rw[CU,CU,s.or.len],fun j d q n=>?_,fun j hj=>?_,fun j hj k hk hne a b e1 e2=>?_⟩,⟨s.ext.g,s.ext.h.trans subU,s.or.sub.trans subU,s.ext.new⟩,fun j hj a e=>?_⟩
 ·have hji:i≠j:=fun z=>n (by rw[z];exact AM);rw[AY hji]at q ⊢;exact s.or.at_ j d q fun z=>n (AC _ z)
 ·obtain z|z:=AN.mp hj
  ·subst z;exact⟨p,ds,vs,by rw[BM hiρ],by rw[BM hl],bY,s.or.sub.free hp,r⟩
  ·have hji:i≠j:=fun y=>hi (y▸z);obtain⟨a,ds',vs',h1,h2,h3,h4,h5⟩:=s.or.own_ j z;exact⟨a,ds',vs',by rw[AY hji];exact h1,by rw[AY hji];exact h2,by rw[aT (ne h3)];exact h3,h4,h5⟩
 ·have look:∀{j:Nat} {a:Addr},j∈i::own→(σ.set i (some (V.ref p)))[j]?=some (some (V.ref a))→(j=i∧a=p)∨(j≠i∧j∈own∧σ[j]?=some (some (V.ref a))∧a≠p):=fun{j a} hj e=>by
   by_cases hji:i=j
   ·subst hji;rw[BM hl]at e;cases e;exact .inl ⟨rfl,rfl⟩
   ·rw[AY hji]at e;have hm:j∈own:=(AN.mp hj).elim (fun z=>absurd z.symm hji) id;obtain⟨a',ds',vs',h1,h2,h3,h4,h5⟩:=s.or.own_ j hm;rw[e]at h2;cases h2;exact .inr ⟨BU hji,hm,e,ne h3⟩
  obtain⟨z1,z2⟩|⟨z1,z2,z3,z4⟩:=look hj e1
  ·obtain⟨y1,y2⟩|⟨y1,y2,y3,y4⟩:=look hk e2
   ·exact absurd (z1.trans y1.symm) hne
   ·rw[z2];exact BU y4
  ·obtain⟨y1,y2⟩|⟨y1,y2,y3,y4⟩:=look hk e2
   ·rw[y2];exact z4
   ·exact s.or.dis j z2 k y2 hne a b z3 y3
 ·by_cases hji:i=j
  ·subst hji;rw[BM hl]at e;cases e;exact s.ext.h.free hp
  ·rw[AY hji]at e;exact s.fr j ((AN.mp hj).elim (fun z=>absurd z.symm hji) id) a e
theorem qP{i:Nat}{p4:Pos}(hN:X.N.Nodup)(hi:X.N[i]?=some x)(hx:Pm X.env.scope x)(h:DA X own es fs)(hio:i∉own:=by decide)
  (hf:X.fn x=true∨X.env.scope.names.lookup x=some .local:=by first|exact .inl rfl|exact .inr rfl|assumption)(hs':swapsWith (.List es p2) (some (.Name x p3)) p4.line X.env=pure false:=by rfl):DS X own (i::own) (.Assign [.Name x p3] (.List es p2) p4) (La i fs):=⟨fun G0 F0 pins s σ H E I ⟨G,ρ,r,er,e',k⟩=>by
  refine tY hN hi hx (a6q h.ok) hs' hf pins s σ H E I ?_;have hl:i<σ.length:=by rw[I.len];exact(AT.mp hi).1
  obtain⟨ds,e1,e2⟩:=AA.mp e';split at e2
  ·rename_i hsz;cases e2;exact⟨G,ρ,ds,er.or,e1,fun vs G' H' x r=>⟨by rw[←aF r];exact kP hsz,fun p hp=>k G' _ _ ((er.grow x).ownNew hio hl r hp)⟩⟩
  ·cases e2⟩
theorem SR.upd{K:W.Frag}{G0 F0 G H:Hp}{σ:St}{ρ:Ac}{i:Nat}(s:SR K own G0 F0 G H σ ρ)(hi:i∈own)(hp:σ[i]?=some (some (V.ref p)))(r:At K G ds vs):
  SR K own G0 F0 G (upd H p (.lst vs)) σ (ρ.set i (some (.lst ds))):=by
 obtain⟨p',ds',vs',h1,h2,h3,h4,h5⟩:=s.or.own_ i hi;rw[hp]at h2;cases h2;have hG:∀{b u},G b=some u→b≠p:=fun e=>bO e h4;have hF:∀{b u},F0 b=some u→b≠p:=fun e=>bO e (s.fr i hi p hp);have hiρ:i<ρ.length:=(AT.mp h1).1;refine⟨⟨fun b u e=>by rw[aT (hG e)];exact s.or.sub b u e,by rw[CU,s.or.len],fun j d q n=>?_,fun j hj=>?_,s.or.dis⟩,⟨s.ext.g,fun b u e=>by rw[aT (hF e)];exact s.ext.h b u e,fun b u e=>by rw[aT (hG e)];exact s.or.sub b u e,s.ext.new⟩,s.fr⟩
 ·have hji:i≠j:=fun z=>n (z▸hi);rw[AY hji]at q;exact s.or.at_ j d q n
 ·by_cases hji:i=j
  ·subst hji;exact⟨p,ds,vs,by rw[BM hiρ],hp,bY,h4,r⟩
  ·obtain⟨a,ds2,vs2,g1,g2,g3,g4,g5⟩:=s.or.own_ j hj;have ne:a≠p:=BU (s.or.dis i hi j hj hji p a hp g2);exact⟨a,ds2,vs2,by rw[AY hji];exact g1,g2,by rw[aT ne];exact g3,g4,g5⟩
def Gn(i:Nat)(f:Ac→Option D):Ac→Option Fl:=fun ρ=>(f ρ).bind fun d=>match ρ[i]? with|some (some (.lst ds))=>if ds.length<Ci then some (.nx (ρ.set i (some (.lst (ds++[d])))))else none|_=>none
theorem fR{i:Nat}{x:Str}{apos cpos:Pos}(hio:i∈own:=by decide)(h:DE X own e f)(hN:X.N[i]?=some x:=by rfl)(hv:Qo X.env.scope x:=by first|exact Or.inl rfl|exact Or.inr (Or.inl rfl)|exact Or.inr (Or.inr rfl))
  (hd:(x==("__debug__":Str))=false:=by decide)(hcd:(x==("__classdict__":Str))=false:=by decide)
  (hst:starEach (e::[]) X.env=(false,eval e X.env)::starEach [] X.env:=by rfl)(hfew:((backTo cpos (starEach [e] X.env)).all (fun x=>!x.1)&&(backToKw cpos (keywordEach [] X.env)).all (fun x=>x.1.isSome)
   &&decide ([e].length+([]:List Keyword).length+(if([]:List Keyword).isEmpty then 0 else 1)<30))=true:=by rfl) (hline:(apos.endLine==cpos.line)=true:=by rfl)
  (hbase:attributeBase (.Name x npos) "append" X.env (eval (.Name x npos) X.env)=eval (.Name x npos) X.env:=by rfl) (hplain:(backTo cpos (starEach [] X.env)).any (·.1)=false:=by rfl) (hsw:swapsWith (.Call (.Attribute (.Name x npos) "append" apos) [e] [] cpos) none pos.line X.env=pure false:=by rfl):
  DS X own own (.Expr (.Call (.Attribute (.Name x npos) "append" apos) [e] [] cpos) pos) (Gn i f):=⟨fun G0 F0 pins s σ H E I ⟨G,ρ,r,er,e',k⟩=>by
  refine b1c (sE PySem.F.plainAttrs_list PySem.F.slot_list_append PySem.F.type_list_append a3z (gX hN hv hd hcd) (bR h.ok dD hst) hbase hfew hline hst hplain) hsw pins s σ H E I ?_;obtain⟨d,e1,e2⟩:=AA.mp e';obtain⟨p,ds,vs,h1,h2,h3,h4,h5⟩:=er.or.own_ i hio;rw[h1]at e2;simp only at e2;split at e2
  ·rename_i hl;cases e2;refine⟨V.ref p,h2,.inl ⟨rfl,vs,Ei.of h3⟩,G,ρ,d,er.or,e1,fun v G' H' x r=>⟨p,vs,v,rfl,rfl,x.h _ _ h3,?_,?_⟩⟩
   ·rw[←aF h5];exact AV hl (cE (AU _))
   ·exact k G' σ _ ((er.grow x).upd hio h2 (cF (h5.mono x.g) (At.cons r At.nil)))
  ·cases e2⟩
def Na(i:Nat)(fx fv:Ac→Option D):Ac→Option Fl:=fun ρ=>(fv ρ).bind fun d=>(fx ρ).bind fun x=>match x,ρ[i]? with|.int j,some (some (.lst ds))=>(Ct ds.length j).map fun k=>.nx (ρ.set i (some (.lst (ds.set k d))))|_,_=>none
theorem a9i{i:Nat}{x:Str}{fx fv:Ac→Option D}(hio:i∈own:=by decide)(hx:DE X own ix fx)(hv:DE X own e fv)(hN:X.N[i]?=some x:=by rfl)(hvis:Qo X.env.scope x:=by first|exact Or.inl rfl|exact Or.inr (Or.inl rfl)|exact Or.inr (Or.inr rfl))
  (hd:(x==("__debug__":Str))=false:=by decide)(hcd:(x==("__classdict__":Str))=false:=by decide)
  (ha:∀v,assign (.Subscript (.Name x npos) ix p2) X.env v=(do
   let ov ←holding [v] (eval (.Name x npos) X.env)
   let iv ←holding [v,ov] (eval ix X.env)
   standAt p2
   holding [v,ov,iv] (setItem ov iv v)
   release [v,ov,iv] []):=by intro _;rfl)
  (hs:swapsWithSole [.Subscript (.Name x npos) ix p2] e pos.line X.env=pure false:=by rfl) (hw:swappedStores [.Subscript (.Name x npos) ix p2] e X.env=pure none:=by rfl)
  (h1:(assignEach [.Subscript (.Name x npos) ix p2] X.env).map (·.2)=[assign (.Subscript (.Name x npos) ix p2) X.env]:=by rfl):
  DS X own own (.Assign [.Subscript (.Name x npos) ix p2] e pos) (Na i fx fv):=⟨fun G0 F0 pins s σ H E I ⟨G,ρ,r,er,e',k⟩=>by
  refine a6i hv.ok (a6m (gX hN hvis hd hcd) hx.ok vZ ha) hs hw h1 pins s σ H E I ?_;obtain⟨d,e1,e2⟩:=AA.mp e';obtain⟨z,e3,e4⟩:=AA.mp e2;obtain⟨p,ds,vs,h1,h2,h3,h4,h5⟩:=er.or.own_ i hio;rw[h1]at e4;cases z<;>first|cases e4|skip
  rename_i j;obtain⟨n,e5,rfl⟩:=AF.mp (show(Ct ds.length j).map _=some r from e4);refine⟨G,ρ,d,er.or,e1,fun v G' H' x r=>⟨V.ref p,h2,G',ρ,.int j,er.or.grow x,e3,fun iv G2 H2 x2 r2=>?_⟩⟩;cases aU r2;refine⟨p,vs,j,n,rfl,rfl,(x.trans x2).h _ _ h3,by rw[←aF h5];exact e5,?_⟩;exact k G2 σ _ (((er.grow x).grow x2).upd hio h2 (pC (r.mono x2.g) n ((h5.mono x.g).mono x2.g)))⟩
def Ke(i:Nat)(fx:Ac→Option D):Ac→Option D:=fun ρ=>(fx ρ).bind fun x=>match x,ρ[i]? with|.int j,some (some (.lst ds))=>Cp ds j|_,_=>none
theorem vE{i:Nat}{x:Str}{fx:Ac→Option D}(hio:i∈own:=by decide)(hx:DE X own ix fx)(hs:Ko ix)(hN:X.N[i]?=some x:=by rfl)(hvis:Qo X.env.scope x:=by first|exact Or.inl rfl|exact Or.inr (Or.inl rfl)|exact Or.inr (Or.inr rfl))
  (hd:(x==("__debug__":Str))=false:=by decide)(hcd:(x==("__classdict__":Str))=false:=by decide):DE X own (.Subscript (.Name x npos) ix pos) (Ke i fx):=
 cD (a6r a1z (gX hN hvis hd hcd) hx.ok hs) fun σ G H Q ρ d er e k=>by
  obtain⟨z,e3,e4⟩:=AA.mp e;obtain⟨p,ds,vs,h1,h2,h3,h4,h5⟩:=er.own_ i hio;rw[h1]at e4;cases z<;>first|cases e4|skip
  rename_i j;have e5:Cp ds j=some d:=e4;obtain⟨v,e6,r6⟩:=kL h5 e5;refine⟨V.ref p,h2,G,ρ,.int j,er,e3,fun iv G2 H2 x2 r2=>?_⟩;cases aU r2;exact⟨p,vs,j,v,rfl,rfl,Ei.of (x2.h _ _ h3),e6,k v G2 H2 x2 (r6.mono x2.g)⟩
def Lk(bnd:D→Ac→Option Ac)(q:Ac→Option Fl):List D→Ac→Option Fl
 |[],ρ=>some (.nx ρ)
 |d::ds,ρ=>(bnd d ρ).bind fun ρ1=>(q ρ1).bind fun r=>match r with|.nx ρ2=>Lk bnd q ds ρ2|.rt d=>some (.rt d)
def Im(fi:Ac→Option (List D))(bnd:D→Ac→Option Ac)(q:Ac→Option Fl):Ac→Option Fl:=fun ρ=>(fi ρ).bind fun ds=>Lk bnd q ds ρ
def Ln(F0 G1:Hp):Hp:=fun b=>match F0 b with|some o=>some o|none=>G1 b
theorem SR.base{K:W.Frag}{G0 F0 G1 H1:Hp}{σ:St}{ρ:Ac}(s:SR K own G0 F0 G1 H1 σ ρ):SR K own G1 (Ln F0 G1) G1 H1 σ ρ:=by
 refine⟨s.or,⟨Cf.refl _,fun b u e=>?_,s.or.sub,fun b h=>.inl h⟩,fun i hi p e=>?_⟩
 ·unfold Ln at e;split at e
  ·rename_i o ho;cases e;exact s.ext.h b _ ho
  ·exact s.or.sub b u e
 ·obtain⟨p',ds,vs,h1,h2,h3,h4,h5⟩:=s.or.own_ i hi;rw[e]at h2;cases h2;unfold Ln;rw[s.fr i hi p e];exact h4
theorem qK{G0 F0 G1 H1 G' H':Hp}(x:Cr G0 F0 G1 H1)(y:Cr G1 (Ln F0 G1) G' H'):Cr G0 F0 G' H':=by
 refine⟨x.g.trans y.g,fun b u e=>y.h b u ?_,y.sub,fun b h=>?_⟩
 ·unfold Ln;rw[e]
 ·obtain z|z:=y.new b h
  ·exact x.new b z
  ·right;unfold Ln at z;split at z
   ·cases z
   ·assumption
theorem SR.unbase{K:W.Frag}{G0 F0 G1 H1 G' H':Hp}{σ:St}{ρ:Ac}(x:Cr G0 F0 G1 H1)(s:SR K own G1 (Ln F0 G1) G' H' σ ρ):SR K own G0 F0 G' H' σ ρ:=
 ⟨s.or,qK x s.ext,fun i hi p e=>by
  have z:=s.fr i hi p e;unfold Ln at z;split at z
  ·cases z
  ·assumption⟩
def Hm(i:Nat):D→Ac→Option Ac:=fun d ρ=>some (ρ.set i (some d))
theorem vB{i:Nat}(hp:PassesOwn (model X.prog X.w) X.A X.env X.xe)(hc:X.calm=true)(hit:DI X own (.Name x p2) iter fi)(hN:X.N.Nodup)(hi:X.N[i]?=some x)(hx:Pm X.env.scope x)(hb:Qh X own own body q1)(hio:i∉own:=by decide)
  (hf:X.fn x=true∨X.env.scope.names.lookup x=some .local:=by first|exact .inl rfl|exact .inr rfl|assumption)(hs:∀x,foldedSetIterable iter X.env x=pure x:=by intro _;rfl):
  DS X own own (.For (.Name x p2) iter body [] pos) (Im fi (Hm i) q1):=⟨fun G0 F0 pins s σ H E I ⟨G,ρ,r,er,e',k⟩=>by
 obtain⟨ds,e1,e2⟩:=AA.mp e';have hb':Mb X body (fun E σ H=>∃A B,Vf X.K A B own own q1 E σ H):=fun pins s σ H E I ⟨A,B,h⟩=>hb.ok A B pins s σ H E I h;refine b4x hp hc hit.ok (cI hN hi hx hf) hb' hs pins s σ H E I ⟨G,ρ,ds,er.or,e1,fun J G1 H1 x1 itd=>?_⟩;have x01:Cr G0 F0 G1 H1:=er.ext.trans x1;refine⟨fun n m σ' H'=>n≤ds.length∧m=ds.length - n∧∃G' ρ',SR X.K own G1 (Ln F0 G1) G' H' σ' ρ'∧Lk (Hm i) q1 (ds.drop n) ρ'=some r,
  ⟨ds.length,DK _,rfl,G1,ρ,(er.grow x1).base,e2⟩,?_⟩
 rintro n m σ' H' ⟨hn,rfl,G',ρ',er',e3⟩;obtain⟨hgo,hstop⟩:=itd n G' H' er'.ext.g er'.or.sub;by_cases hlt:n<ds.length
 ·right;have hd:ds[n]?=some ds[n]:=by simp[hlt]
  have hdrop:ds.drop n=ds[n]::ds.drop (n+1):=CY hlt;rw[hdrop]at e3;unfold Lk at e3;obtain⟨ρ1,e4,e3⟩:=AA.mp e3;obtain⟨r1,e5,e3⟩:=AA.mp e3;cases e4;obtain⟨go,yl⟩:=hgo _ hd;refine⟨go,fun σ2 H2=>∃G2 ρ2,SR X.K own G1 (Ln F0 G1) G2 H2 σ2 ρ2∧Lk (Hm i) q1 (ds.drop (n+1)) ρ2=some r,fun σ2 H2 ⟨G2,ρ2,h1,h2⟩=>⟨ds.length - (n+1),by omega,hlt,rfl,G2,ρ2,h1,h2⟩,fun v H2 hy=>?_⟩;obtain⟨G2,x2,r2⟩:=yl v H2 hy;refine⟨G1,Ln F0 G1,G2,_,r1,(er'.grow x2).set hio r2,e5,?_⟩;cases r1 with
  |nx ρ2=>exact fun G3 σ3 H3 er3=>⟨G3,ρ2,er3,e3⟩
  |rt d=>
   cases e3;exact fun w G3 H3 x3 r3=>k w G3 H3 (qK x01 x3) r3
 ·left;have hil:n=ds.length:=by omega
  refine⟨hstop hil,?_⟩;rw[hil,HB]at e3;cases e3;exact k G' σ' H' (SR.unbase x01 er')⟩
theorem oR{K:W.Frag}{G H:Hp}{N:List Str}{ds:List D}(s:Cf G H)(r:At K G ds vs):OR K [] G H (L2.start N vs) (ds.map some++List.replicate (N.length - ds.length) none):=by
 have hl:=aF r;unfold L2.start;refine⟨s,by simp[hl],fun i d q _=>?_,fun i hi=>(by cases hi),fun i hi=>(by cases hi)⟩;by_cases hi:i<ds.length
 ·rw[CJ (by simpa using hi),BO]at q;obtain⟨d',h1,h2⟩:=AF.mp q;cases h2;obtain⟨v,h3,h4⟩:=eM r h1;exact⟨v,by rw[CJ (by simpa[←hl]using hi),BO,h3];rfl,h4⟩
 ·rw[CG (by simpa using hi),ES]at q;split at q<;>cases q
end
theorem b7e{K:W.Frag}{mg:Str→Option Value}{st:Stmt}{N ps:List Str}{k:Nat}{own':List Nat}{q:Ac→Option Fl}{g:List D→Option D}
  (F:Sj K x qual st fad fd)(S:Bi N ps (Ag st))
  (hb:∀(cdv:Value) (A:Around) (outer:List Env) (s:Shared) (H:Hp) (E:XK),Cc k (A.deeper (envOfC qual (Ag st) s.heap.objs.size fad cdv))→Qh (Gd Oa P w K mg base N qual (Ag st) fad cdv A outer s H E).nox [] own' (Dr st) q)
  (hg:∀ds d,ds.length=ps.length→g ds=some d→q (ds.map some++List.replicate (N.length - ds.length) none)=some (.rt d)∨∃ρ,q (ds.map some++List.replicate (N.length - ds.length) none)=some (.nx ρ)∧d=.non):
  Kg P w K mg base Oa (k+1) fad fd ps (So K ps.length g):=by
 refine F.ok S (fun vs H Q E h=>h.1) (fun cdv A outer s H vs Q E hr h=>?_);obtain⟨hl,G,ds,d,sub,r,e,kk⟩:=h;refine⟨_,(hb cdv A outer s H E hr).ok G H,?_⟩;have er:=oR (N:=N) sub r;rcases hg ds d (by rw[aF r];exact hl) e with z|⟨ρ,z,rfl⟩
 ·exact⟨G,_,_,⟨er,Cr.refl sub,fun i hi=>(by cases hi)⟩,z,fun v G' H' x r=>kk v G' H' x r⟩
 ·exact⟨G,_,_,⟨er,Cr.refl sub,fun i hi=>(by cases hi)⟩,z,fun G' σ' H' er'=>kk _ G' H' er'.ext Bf.non⟩
mutual
def Cw:D→D→Bool
 |.non,.non=>true
 |.bl a,.bl b=>a==b
 |.bl a,.int b=>(if a then 1 else 0)==b
 |.int a,.bl b=>a==(if b then 1 else 0)
 |.int a,.int b=>a==b
 |.str a,.str b=>a==b
 |.tup xs,.tup ys=>Fg xs ys
 |.lst xs,.lst ys=>Fg xs ys
 |_,_=>false
def Fg:List D→List D→Bool
 |[],[]=>true
 |x::xs,y::ys=>Cw x y&&Fg xs ys
 |_,_=>false
end
mutual
def Bv:D→Bool
 |.fn _=>false
 |.dk _=>false
 |.tup xs=>Cs xs
 |.lst xs=>Cs xs
 |_=>true
def Cs:List D→Bool
 |[]=>true
 |d::ds=>Bv d&&Cs ds
end
section
variable{X:Cx}{pins:List (Addr×Obj)}{σ:St}{H:Hp}{s:Shared}
theorem oQ(I:Inv X pins σ H s)(h:Eb X.K H a vs)(h':Ei X.K H a ws):False:=by
 obtain⟨_,_,⟨o,e,c,_⟩,_⟩:=I.tuple h;obtain⟨_,_,⟨o',n,e',c',_⟩,_⟩:=I.list h';rw[e]at e';cases e';rw[c]at c';exact absurd c' (by simp)
mutual
theorem tW(I:Inv X pins σ H s):∀(d d':D) (v:V),Bv d=true→Bv d'=true→Bf X.K H d v→Bf X.K H d' v→d=d'
 |.non,d',v,n,n',r,r'=>by
  cases cW r;cases d'<;>first
   |rfl
   |(unfold Bf at r';cases r';done)
   |(obtain⟨a,vs,e,_⟩:=aX r';cases e)
   |(obtain⟨a,vs,e,_⟩:=aY r';cases e)
   |(unfold Bv at n';cases n')
 |.bl b,d',v,n,n',r,r'=>by
  cases bU r;cases d'<;>first
   |(cases bU r';rfl;done)
   |(unfold Bf at r';cases r';done)
   |(obtain⟨a,vs,e,_⟩:=aX r';cases e)
   |(obtain⟨a,vs,e,_⟩:=aY r';cases e)
   |(unfold Bv at n';cases n')
 |.int b,d',v,n,n',r,r'=>by
  cases aU r;cases d'<;>first
   |(cases aU r';rfl;done)
   |(unfold Bf at r';cases r';done)
   |(obtain⟨a,vs,e,_⟩:=aX r';cases e)
   |(obtain⟨a,vs,e,_⟩:=aY r';cases e)
   |(unfold Bv at n';cases n')
 |.str b,d',v,n,n',r,r'=>by
  cases aP r;cases d'<;>first
   |(cases aP r';rfl;done)
   |(unfold Bf at r';cases r';done)
   |(obtain⟨a,vs,e,_⟩:=aX r';cases e)
   |(obtain⟨a,vs,e,_⟩:=aY r';cases e)
   |(unfold Bv at n';cases n')
 |.tup xs,d',v,n,n',r,r'=>by
  obtain⟨a,vs,rfl,q,rr⟩:=aX r;cases d' with
  |tup ys=>
   obtain⟨a',vs',e,q',rr'⟩:=aX r';cases e;have:=I.tuple_inj q q';subst this;unfold Bv at n n';rw[pE I xs ys vs n n' rr rr']
  |lst ys=>
   obtain⟨a',vs',e,q',rr'⟩:=aY r';cases e;exact(oQ I q q').elim
  |fn b=>unfold Bv at n';cases n'
  |dk b=>unfold Bv at n';cases n'
  |non=>cases cW r'
  |bl b=>cases bU r'
  |int b=>cases aU r'
  |str b=>cases aP r'
 |.lst xs,d',v,n,n',r,r'=>by
  obtain⟨a,vs,rfl,q,rr⟩:=aY r;cases d' with
  |lst ys=>
   obtain⟨a',vs',e,q',rr'⟩:=aY r';cases e;have:=I.list_inj q q';subst this;unfold Bv at n n';rw[pE I xs ys vs n n' rr rr']
  |tup ys=>
   obtain⟨a',vs',e,q',rr'⟩:=aX r';cases e;exact(oQ I q' q).elim
  |fn b=>unfold Bv at n';cases n'
  |dk b=>unfold Bv at n';cases n'
  |non=>cases cW r'
  |bl b=>cases bU r'
  |int b=>cases aU r'
  |str b=>cases aP r'
 |.fn a,d',v,n,n',r,r'=>by unfold Bv at n;cases n
 |.dk a,d',v,n,n',r,r'=>by unfold Bv at n;cases n
theorem pE(I:Inv X pins σ H s):∀(ds es:List D) (vs:List V),Cs ds=true→Cs es=true→At X.K H ds vs→At X.K H es vs→ds=es
 |[],es,vs,n,n',r,r'=>by
  cases bZ r;cases es with
  |nil=>rfl
  |cons e es=>obtain⟨v,t,z,_⟩:=bN r';cases z
 |d::ds,es,vs,n,n',r,r'=>by
  obtain⟨v,t,rfl,r1,r2⟩:=bN r;cases es with
  |nil=>cases bZ r'
  |cons e es=>
   obtain⟨v',t',z,r1',r2'⟩:=bN r';cases z;unfold Cs at n n';rw[AE]at n n';rw[tW I d e v n.1 n'.1 r1 r1',pE I ds es t n.2 n'.2 r2 r2']
end
mutual
theorem iQ:∀d:D,Bv d=true→Cw d d=true
 |.non,_=>by simp[Cw]
 |.bl b,_=>by simp[Cw]
 |.int i,_=>by simp[Cw]
 |.str s,_=>by simp[Cw]
 |.tup xs,h=>by unfold Cw;exact dQ xs (by unfold Bv at h;exact h)
 |.lst xs,h=>by unfold Cw;exact dQ xs (by unfold Bv at h;exact h)
 |.fn a,h=>by simp[Bv]at h
 |.dk k,h=>by simp[Bv]at h
theorem dQ:∀ds:List D,Cs ds=true→Fg ds ds=true
 |[],_=>by simp[Fg]
 |d::ds,h=>by
  unfold Cs at h;rw[AE]at h;unfold Fg;rw[iQ d h.1,dQ ds h.2];rfl
end
theorem wF(I:Inv X pins σ H s)(d d':D)(v:V)(n:Bv d=true)(n':Bv d'=true)(r:Bf X.K H d v)(r':Bf X.K H d' v):Cw d d'=true:=by
 rw[←tW I d d' v n n' r r'];exact iQ d n
theorem sS(A:Around):A.in1.units=A.units+1:=rfl
theorem iW:∀(xs ys:List D),xs.length=ys.length→((List.range xs.length).all fun j=>Cw (xs.getD j .non) (ys.getD j .non))=Fg xs ys
 |[],[],_=>rfl
 |x::xs,y::ys,h=>by
  have ih:=iW xs ys (by simpa using h);unfold Fg;rw[AQ,List.range_succ_eq_map,DN,←ih,GE];rfl
 |[],_::_,h=>by simp at h
 |_::_,[],h=>by simp at h
theorem iR:∀(xs ys:List D),xs.length≠ys.length→Fg xs ys=false
 |[],[],h=>absurd rfl h
 |x::xs,y::ys,h=>by
  unfold Fg;rw[iR xs ys (by simpa using h),Bool.and_false]
 |[],_::_,_=>rfl
 |_::_,[],_=>rfl
theorem lI{ds es:List D}{us us':List Value}(rd:At X.K H ds vs)(re:At X.K H es ws)(rv:Bw vs us)(rw':Bw ws us')
  (h:∀(j:Nat) u u',us[j]?=some u→us'[j]?=some u'→SeqAt.EqAt A s u u' (Cw (ds.getD j .non) (es.getD j .non))):
  ∀j (h1:j<us.toArray.size) (h2:j<us'.toArray.size),SeqAt.EqAt A s us.toArray[j] us'.toArray[j] (Cw (ds.getD j .non) (es.getD j .non)):=fun j h1 h2=>by
 have l1:j<us.length:=by simpa using h1
 have l2:j<us'.length:=by simpa using h2
 exact h j _ _ (by simp[l1]) (by simp[l2])
theorem sD{ds es:List D}{A:Around}(I:Inv X pins σ H s)(qa:Eb X.K H a vs)(qb:Eb X.K H b ws)(rd:At X.K H ds vs)(re:At X.K H es ws)(hu:A.units<cLine)
  (h:∀(us us':List Value),Bw vs us→Bw ws us'→∀(j:Nat) u u',us[j]?=some u→us'[j]?=some u'→SeqAt.EqAt A.in1 s u u' (Cw (ds.getD j .non) (es.getD j .non))):SeqAt.RcAt A s (.ref a) (.ref b) (Fg ds es):=by
 obtain⟨us,rv,p1,_⟩:=I.tuple qa;obtain⟨us',rw',p2,_⟩:=I.tuple qb;have h1:=aF rd;have h2:=aF re;have h3:=rv.length;have h4:=rw'.length;have z:=SeqAt.RcAt.tuples (A:=A) (e:=fun j=>Cw (ds.getD j .non) (es.getD j .non)) p1 p2 hu (lI rd re rv rw' (h us us' rv rw'));have e:((List.range (min us.toArray.size us'.toArray.size)).all (fun j=>Cw (ds.getD j .non) (es.getD j .non))&&us.toArray.size==us'.toArray.size)=Fg ds es:=by
  rw[AJ,AJ,←h3,←h4,←h1,←h2];by_cases hl:ds.length=es.length
  ·rw[hl,Nat.min_self,←hl,iW ds es hl,hl];simp
  ·rw[iR ds es hl];have:(ds.length==es.length)=false:=by simpa using hl
   rw[this,Bool.and_false]
 rw[e]at z;exact z
theorem wJ{ds es:List D}{A:Around}(I:Inv X pins σ H s)(qa:Ei X.K H a vs)(qb:Ei X.K H b ws)(rd:At X.K H ds vs)(re:At X.K H es ws)(hu:A.units<cLine)
  (h:∀(us us':List Value),Bw vs us→Bw ws us'→∀(j:Nat) u u',us[j]?=some u→us'[j]?=some u'→SeqAt.EqAt A.in1 s u u' (Cw (ds.getD j .non) (es.getD j .non))):SeqAt.RcAt A s (.ref a) (.ref b) (Fg ds es):=by
 obtain⟨us,rv,p1,_⟩:=I.list qa;obtain⟨us',rw',p2,_⟩:=I.list qb;have h1:=aF rd;have h2:=aF re;have h3:=rv.length;have h4:=rw'.length;by_cases hl:ds.length=es.length
 ·have z:=SeqAt.RcAt.lists (A:=A) (e:=fun j=>Cw (ds.getD j .non) (es.getD j .non)) p1.isList p2.isList (by rw[AJ,AJ];omega) hu (lI rd re rv rw' (h us us' rv rw'));rw[AJ,←h3,←h1,iW ds es hl]at z;exact z
 ·rw[iR ds es hl];exact SeqAt.RcAt.lists_lengths p1.isList p2.isList (by rw[AJ,AJ,←h3,←h4,←h1,←h2];simpa using hl) hu
theorem a8o(I:Inv X pins σ H s)(q:Eb X.K H a vs):∃items,s.heap.IsTuple a items:=let⟨its,_,p,_⟩:=I.tuple q;⟨_,p⟩
theorem a4h(I:Inv X pins σ H s)(q:Ei X.K H a vs):∃items,s.heap.IsList a items:=let⟨its,_,p,_⟩:=I.list q;⟨_,p.isList⟩
inductive RV(X:Cx)(H:Hp)(s:Shared):D→Value→Prop
 |non:RV X H s .non .none
 |bl (b:Bool):RV X H s (.bl b) (.bool b)
 |int (i:Int) (t:Tok):RV X H s (.int i) (.int i t)
 |str (x:Str) (t:Tok):RV X H s (.str x) (.str x t)
 |tup {xs:List D} {a:Addr} {its:Array Value}:s.heap.IsTuple a its→RV X H s (.tup xs) (.ref a)
 |lst {xs:List D} {a:Addr} {its:Array Value}:s.heap.IsList a its→RV X H s (.lst xs) (.ref a)
theorem rY(I:Inv X pins σ H s)(n:Bv d=true)(r:Bf X.K H d v)(ru:Cg v u):RV X H s d u:=by
 cases d with
 |non=>cases cW r;cases ru;exact .non
 |bl b=>cases bU r;cases ru;exact .bl b
 |int b=>cases aU r;obtain⟨t,rfl⟩:=ru;exact .int b t
 |str b=>cases aP r;obtain⟨t,rfl⟩:=ru;exact .str b t
 |tup ys=>obtain⟨a,ws,rfl,q,_⟩:=aX r;cases ru;obtain⟨its,p⟩:=a8o I q;exact .tup p
 |lst ys=>obtain⟨a,ws,rfl,q,_⟩:=aY r;cases ru;obtain⟨its,p⟩:=a4h I q;exact .lst p
 |fn a=>unfold Bv at n;cases n
 |dk a=>unfold Bv at n;cases n
theorem iS(I:Inv X pins σ H s){A:Around}(n:Bv d=true)(n':Bv d'=true)(hu:A.units<cLine)(r:Bf X.K H d v)(r':Bf X.K H d' v')(ru:Cg v u)(ru':Cg v' u')(hT:∀xs ys,d=.tup xs→d'=.tup ys→SeqAt.EqAt A s u u' (Cw d d'))(hL:∀xs ys,d=.lst xs→d'=.lst ys→SeqAt.EqAt A s u u' (Cw d d')):SeqAt.EqAt A s u u' (Cw d d'):=by
 cases rY I n r ru<;>cases rY I n' r' ru'
 all_goals first|exact hT _ _ rfl rfl|exact hL _ _ rfl rfl|(unfold Cw;with_reducible first|exact .none_none|exact .same _|exact .none_bool _|exact .none_int _ _|exact .none_str _ _|exact .none_tuple ‹_› hu|exact .none_list ‹_› hu|exact .bool_none _|exact .bool_bool _ _|exact .bool_int _ _ _|exact .bool_str _ _ _|exact .bool_tuple _ ‹_› hu|exact .bool_list _ ‹_› hu|exact .int_none _ _|exact .int_bool _ _ _|exact .int_int _ _ _ _|exact .int_str _ _ _ _|exact .int_tuple _ _ ‹_› hu|exact .int_list _ _ ‹_› hu|exact .str_none _ _|exact .str_bool _ _ _|exact .str_int _ _ _ _|exact .str_str _ _ _ _|exact .str_tuple _ _ ‹_› hu|exact .str_list _ _ ‹_› hu|exact .tuple_none ‹_› hu|exact .tuple_bool _ ‹_› hu|exact .tuple_int _ _ ‹_› hu|exact .tuple_str _ _ ‹_› hu|exact .tuple_list ‹_› ‹_› hu|exact .list_none ‹_› hu|exact .list_bool _ ‹_› hu|exact .list_int _ _ ‹_› hu|exact .list_str _ _ ‹_› hu|exact .list_tuple ‹_› ‹_› hu)
theorem b4q(I:Inv X pins σ H s){A:Around}(n:Bv d=true)(n':Bv d'=true)(hu:A.units<cLine)(r:Bf X.K H d v)(r':Bf X.K H d' v')(ru:Cg v u)(ru':Cg v' u')(hT:∀xs ys,d=.tup xs→d'=.tup ys→SeqAt.RcAt A s u u' (Cw d d'))(hL:∀xs ys,d=.lst xs→d'=.lst ys→SeqAt.RcAt A s u u' (Cw d d')):SeqAt.RcAt A s u u' (Cw d d'):=by
 cases rY I n r ru<;>cases rY I n' r' ru'
 all_goals first|exact hT _ _ rfl rfl|exact hL _ _ rfl rfl|(unfold Cw;with_reducible first|exact .none_none|exact .same _|exact .none_bool _|exact .none_int _ _|exact .none_str _ _|exact .none_tuple ‹_› hu|exact .none_list ‹_› hu|exact .bool_none _|exact .bool_bool _ _|exact .bool_int _ _ _|exact .bool_str _ _ _|exact .bool_tuple _ ‹_› hu|exact .bool_list _ ‹_› hu|exact .int_none _ _|exact .int_bool _ _ _|exact .int_int _ _ _ _|exact .int_str _ _ _ _|exact .int_tuple _ _ ‹_› hu|exact .int_list _ _ ‹_› hu|exact .str_none _ _|exact .str_bool _ _ _|exact .str_int _ _ _ _|exact .str_str _ _ _ _|exact .str_tuple _ _ ‹_› hu|exact .str_list _ _ ‹_› hu|exact .tuple_none ‹_› hu|exact .tuple_bool _ ‹_› hu|exact .tuple_int _ _ ‹_› hu|exact .tuple_str _ _ ‹_› hu|exact .tuple_list ‹_› ‹_› hu|exact .list_none ‹_› hu|exact .list_bool _ ‹_› hu|exact .list_int _ _ ‹_› hu|exact .list_str _ _ ‹_› hu|exact .list_tuple ‹_› ‹_› hu)
mutual
theorem a9d(I:Inv X pins σ H s):∀(d d':D) (A:Around) (v v':V) (u u':Value),Bv d=true→Bv d'=true→A.units+dep d<cLine→Bf X.K H d v→Bf X.K H d' v'→Cg v u→Cg v' u'→SeqAt.EqAt A s u u' (Cw d d')
 |.non,d',A,v,v',u,u',n,n',hu,r,r',ru,ru'=>iS I n n' (by omega) r r' ru ru' (fun _ _ e=>by cases e) (fun _ _ e=>by cases e)
 |.bl _,d',A,v,v',u,u',n,n',hu,r,r',ru,ru'=>iS I n n' (by omega) r r' ru ru' (fun _ _ e=>by cases e) (fun _ _ e=>by cases e)
 |.int _,d',A,v,v',u,u',n,n',hu,r,r',ru,ru'=>iS I n n' (by omega) r r' ru ru' (fun _ _ e=>by cases e) (fun _ _ e=>by cases e)
 |.str _,d',A,v,v',u,u',n,n',hu,r,r',ru,ru'=>iS I n n' (by omega) r r' ru ru' (fun _ _ e=>by cases e) (fun _ _ e=>by cases e)
 |.fn _,d',A,v,v',u,u',n,n',hu,r,r',ru,ru'=>iS I n n' (by omega) r r' ru ru' (fun _ _ e=>by cases e) (fun _ _ e=>by cases e)
 |.dk _,d',A,v,v',u,u',n,n',hu,r,r',ru,ru'=>iS I n n' (by omega) r r' ru ru' (fun _ _ e=>by cases e) (fun _ _ e=>by cases e)
 |.tup xs,d',A,v,v',u,u',n,n',hu,r,r',ru,ru'=>iS I n n' (by omega) r r' ru ru' (fun _ ys e e'=>by
  cases e;subst e';obtain⟨a,vs,rfl,q,rr⟩:=aX r;obtain⟨b,ws,rfl,q',rr'⟩:=aX r';cases ru;cases ru';by_cases hab:a=b
  ·subst hab;rw[wF I _ _ _ n n' r r'];exact .same _
  ·unfold Bv at n n';unfold dep at hu;unfold Cw;exact .of_refs hab (sD I q q' rr rr' (by omega) fun us us' rv rw'=>gJ I xs ys A.in1 vs ws us us' n n' (by show A.units+1+Eg xs<cLine;omega) rr rr' rv rw')) (fun _ _ e=>by cases e)
 |.lst xs,d',A,v,v',u,u',n,n',hu,r,r',ru,ru'=>iS I n n' (by omega) r r' ru ru' (fun _ _ e=>by cases e) (fun _ ys e e'=>by
  cases e;subst e';obtain⟨a,vs,rfl,q,rr⟩:=aY r;obtain⟨b,ws,rfl,q',rr'⟩:=aY r';cases ru;cases ru';by_cases hab:a=b
  ·subst hab;rw[wF I _ _ _ n n' r r'];exact .same _
  ·unfold Bv at n n';unfold dep at hu;unfold Cw;exact .of_refs hab (wJ I q q' rr rr' (by omega) fun us us' rv rw'=>gJ I xs ys A.in1 vs ws us us' n n' (by show A.units+1+Eg xs<cLine;omega) rr rr' rv rw'))
theorem gJ(I:Inv X pins σ H s):∀(ds es:List D) (A:Around) (vs ws:List V) (us us':List Value),Cs ds=true→Cs es=true→A.units+Eg ds<cLine→At X.K H ds vs→At X.K H es ws→Bw vs us→Bw ws us'→
  ∀(j:Nat) u u',us[j]?=some u→us'[j]?=some u'→SeqAt.EqAt A s u u' (Cw (ds.getD j .non) (es.getD j .non))
 |[],es,A,vs,ws,us,us',n,n',hu,r,r',rv,rw',j,u,u',e,e'=>by
  cases bZ r;cases rv;simp at e
 |d::ds,es,A,vs,ws,us,us',n,n',hu,r,r',rv,rw',j,u,u',e,e'=>by
  obtain⟨v,t,rfl,r1,r2⟩:=bN r;cases es with
  |nil=>
   cases bZ r';cases rw';simp at e'
  |cons c es=>
   obtain⟨w,t',rfl,r1',r2'⟩:=bN r';unfold Cs at n n';rw[AE]at n n';unfold Eg at hu;cases rv with
   |cons rv1 rv2=>
    cases rw' with
    |cons rw1 rw2=>
     cases j with
     |zero=>
      simp at e e';subst e e';exact a9d I d c A v w _ _ n.1 n'.1 (by omega) r1 r1' rv1 rw1
     |succ j=>
      exact gJ I ds es A t t' _ _ n.2 n'.2 (by omega) r2 r2' rv2 rw2 j u u' (by simpa using e) (by simpa using e')
end
theorem b4r(I:Inv X pins σ H s)(d d':D){A:Around}(n:Bv d=true)(n':Bv d'=true)(hu:A.units+dep d<cLine)(r:Bf X.K H d v)(r':Bf X.K H d' v')(ru:Cg v u)(ru':Cg v' u'):SeqAt.RcAt A s u u' (Cw d d'):=
 b4q I n n' (by omega) r r' ru ru' (fun xs ys e e'=>by
  subst e e';obtain⟨a,vs,rfl,q,rr⟩:=aX r;obtain⟨b,ws,rfl,q',rr'⟩:=aX r';cases ru;cases ru';unfold Bv at n n';unfold dep at hu;unfold Cw;exact sD I q q' rr rr' (by omega) fun us us' rv rw'=>gJ I xs ys A.in1 vs ws us us' n n' (by show A.units+1+Eg xs<cLine;omega) rr rr' rv rw') (fun xs ys e e'=>by
  subst e e';obtain⟨a,vs,rfl,q,rr⟩:=aY r;obtain⟨b,ws,rfl,q',rr'⟩:=aY r';cases ru;cases ru';unfold Bv at n n';unfold dep at hu;unfold Cw;exact wJ I q q' rr rr' (by omega) fun us us' rv rw'=>gJ I xs ys A.in1 vs ws us us' n n' (by show A.units+1+Eg xs<cLine;omega) rr rr' rv rw')
def Uk(K:W.Frag):R2:=fun x y H Q=>∃dx dy,Bf K H dx x∧Bf K H dy y∧Bv dx=true∧Bv dy=true∧dep dx≤40∧Q (.bl (Cw dx dy)) H
theorem bF(hu:X.A.units+64<cLine):Es X (compareOp .Eq) (Uk X.K):=by
 intro pins s σ H x y v u Q I rx ry h;obtain⟨dx,dy,r1,r2,n1,n2,hd,q⟩:=h;exact b4r I dx dy n1 n2 (by omega) r1 r2 rx ry X.prog X.w X.xe _ ⟨.bl _,H,I,rfl,q⟩
def Bc:D→D→Option D:=fun x y=>if Bv x&&Bv y&&decide (dep x≤40)then some (.bl (Cw x y))else none
theorem bG{K:W.Frag}:Fz K (Uk K) Bc:=by
 intro x y dx dy d G H Q sub rx ry e k;unfold Bc at e;split at e
 ·rename_i h;rw[AE,AE,AH]at h;cases e;exact⟨dx,dy,rx.mono sub,ry.mono sub,h.1.1,h.1.2,h.2,k _ G H (Cr.refl sub) Bf.bl⟩
 ·cases e
end
end DL
namespace DL
open PySem PySem.Spec PyProof.Rows L2
section
variable{X:Cx}{own:List Nat}{e a b c o i tg:Expr}{es:List Expr}{pos p2:Pos}{f fa fb fc fe:Ac→Option D}{fs fi:Ac→Option (List D)}{ft fu:Ac→Option Bool}
def Ai(g g':D→D→Option D)(fa fb fc:Ac→Option D):Ac→Option D:=fun ρ=>(fa ρ).bind fun x=>(fb ρ).bind fun y=>(g x y).bind fun z=>match z with
 |.bl true=>(fc ρ).bind fun u=>g' y u
 |.bl false=>some (.bl false)
 |_=>none
theorem qQ{op op':CmpOp}{r r':R2}{g g':D→D→Option D}(ho:Es X (compareOp op) r)(hg:Fz X.K r g)(ho':Es X (compareOp op') r')(hg':Fz X.K r' g')(ha:DE X own a fa)(hb:DE X own b fb)(hc:DE X own c fc)
  (hm:lastMarks [op,op'] [b,c]=false:=by with_unfolding_all rfl):DE X own (.Compare a [op,op'] [b,c] pos) (Ai g g' fa fb fc):=
 cD (a6u ho ho' ha.ok hb.ok hc.ok hm) fun σ G H Q ρ d er e k=>by
  obtain⟨x,e1,e⟩:=AA.mp e;obtain⟨y,e2,e⟩:=AA.mp e;obtain⟨z,e3,e⟩:=AA.mp e;refine⟨G,ρ,x,er,e1,fun v G1 H1 s1 r1=>⟨G1,ρ,y,er.grow s1,e2,fun w G2 H2 s2 r2=>hg s2.sub (r1.mono s2.g) r2 e3 fun t G3 H3 s3 r3=>?_⟩⟩;have s13:=s1.trans (s2.trans s3);cases z<;>first|cases e|skip
  rename_i bb;cases bU r3;refine⟨bb,rfl,?_⟩;cases bb with
  |true=>
   obtain⟨u,e4,e⟩:=AA.mp e;exact nW ⟨G3,ρ,u,er.grow s13,e4,fun q G4 H4 s4 r4=>hg' s4.sub ((r2.mono s3.g).mono s4.g) r4 e fun v G5 H5 s5 r5=>k v G5 H5 (s13.trans (s4.trans s5)) r5⟩
  |false=>
   cases e;exact nX (k _ G3 H3 s13 Bf.bl)
def Fc:D→Bool
 |.non=>true
 |.bl _=>true
 |.int _=>true
 |.str _=>true
 |_=>false
theorem xM{K:W.Frag}{H:Hp}(h:Fc d=true)(r:Bf K H d v):Hs v=true:=by
 cases d<;>first
  |(cases h;done)
  |(cases cW r;rfl)
  |(cases bU r;rfl)
  |(cases aU r;rfl)
  |(cases aP r;rfl)
theorem b2z{K:W.Frag}{H:Hp}(h:Fc d=true)(h':Fc d'=true)(r:Bf K H d v)(r':Bf K H d' v'):Qk v v'=Cw d d':=by
 cases d<;>first
  |(cases h;done)
  |skip
 all_goals (cases d'<;>first
  |(cases h';done)
  |skip)
 all_goals first
  |(cases cW r)
  |(cases bU r)
  |(cases aU r)
  |(cases aP r)
 all_goals first
  |(cases cW r')
  |(cases bU r')
  |(cases aU r')
  |(cases aP r')
 all_goals simp[Qk,Cw]
theorem xO{K:W.Frag}{H:Hp}:∀{ds:List D} {vs:List V},ds.all Fc=true→At K H ds vs→vs.all Hs=true
 |[],vs,_,r=>by cases bZ r;rfl
 |d::ds,vs,h,r=>by
  obtain⟨v,t,rfl,r1,r2⟩:=bN r;rw[DN,AE]at h;rw[DN,AE];exact⟨xM h.1 r1,xO h.2 r2⟩
theorem xN{K:W.Frag}{H:Hp}(hx:Fc x=true)(rx:Bf K H x v):∀{ds:List D} {vs:List V},ds.all Fc=true→At K H ds vs→Vj v vs=ds.any fun d=>Cw d x
 |[],vs,_,r=>by cases bZ r;rfl
 |d::ds,vs,h,r=>by
  obtain⟨w,t,rfl,r1,r2⟩:=bN r;rw[DN,AE]at h;have ih:=xN hx rx h.2 r2;unfold Vj at ih ⊢;rw[CD,CD,ih,b2z h.1 hx r1 rx]
def Ss:D→Option (List D)
 |.tup xs=>some xs
 |.lst xs=>some xs
 |_=>none
def Iy(neg:Bool):D→D→Option D:=fun x y=>(Ss y).bind fun ds=>if Fc x&&ds.all Fc then some (.bl (if neg then !(ds.any fun d=>Cw d x)else ds.any fun d=>Cw d x))else none
theorem a1n{K:W.Frag}{neg:Bool}:Fz K (Uj K neg) (Iy neg):=by
 intro x y dx dy d G H Q sub rx ry e k;obtain⟨ds,e1,e⟩:=AA.mp e;split at e
 ·rename_i h;rw[AE]at h;cases e;have fin:∀{p:Addr} {vs:List V},(Ei K H p vs∨Eb K H p vs)→At K G ds vs→y=V.ref p→Uj K neg x y H Q:=fun{p vs} q r ey=>by
   refine⟨p,vs,ey,q,xM h.1 rx,xO h.2 r,?_⟩;rw[xN h.1 rx h.2 r];exact k _ G H (Cr.refl sub) Bf.bl
  cases dy<;>first|(cases e1;done)|skip
  ·cases e1;obtain⟨p,vs,ey,q,r⟩:=aX ry;exact fin (.inr (aZ sub q)) r ey
  ·cases e1;obtain⟨p,vs,ey,q,r⟩:=aY ry;exact fin (.inl (sub.seq q)) r ey
 ·cases e
structure Nt(X:Cx)(x:Str)(tab:List (Str×D)):Prop where
 ex:∃(ad:Addr) (kvs:List (L2.Key×V)) (vs:List (L2.Key×Value)),X.mg x=some (.ref ad)∧(ad==sysModules)=false∧(∀h:Heap,X.K.In h→h.DictOf (mixKind X.prog X.w) ad vs)∧KV kvs vs∧
  (∀y,Ih kvs (Sum.inr y)=none↔tab.lookup y=none)∧∀y d,tab.lookup y=some d→∃v,Ih kvs (Sum.inr y)=some v∧∀H,Bf X.K H d v
def Pd(tab:List (Str×D))(neg:Bool)(f:Ac→Option D):Ac→Option D:=fun ρ=>(f ρ).bind fun d=>match d with|.str y=>some (.bl (if neg then !(tab.lookup y).isSome else(tab.lookup y).isSome))|_=>none
def Nj(tab:List (Str×D))(f:Ac→Option D):Ac→Option D:=fun ρ=>(f ρ).bind fun d=>match d with|.str y=>tab.lookup y|_=>none
theorem b3p{x:Str}{tab:List (Str×D)}(hd:Nt X x tab)(hg:Gl X x)(ha:DE X own a fa)(hs':Ux a)(hdb:(x==("__debug__":Str))=false:=by decide):DE X own (.Subscript (.Name x p2) a pos) (Nj tab fa):=by
 obtain⟨ad,kvs,vs,hmg,hsys,hdo,rel,hn,hs⟩:=hd.ex;refine cD (t:=fun σ H Q=>tD X.K own fa σ H fun v H1=>∃y u,v=.str y∧Ih kvs (Sum.inr y)=some u∧Q u H1) (fun pins s σ H Q I h=>?_) fun σ G H Q ρ d er e k=>?_
 ·refine b0o PySem.F.slot_dict_getitem.lookup hs' (eJ I hg hmg (bX (ha.ok pins s σ H _ I h) fun v s1 ⟨y,H1,I1,r1,z,u,hz,hu,q1⟩=>?_) hdb);subst hz;have dd:=hdo _ I1.kIn;obtain⟨w',hw,rw'⟩:=Nq.some_of (v:=u) (o:=valueAt vs (Sum.inr z)) (by rw[←hu];exact rel.val (Sum.inr z));have ty:s1.TypeIs (.ref ad) "dict":=by
   obtain⟨o,es,ep,h1,h2,_⟩:=dd;exact⟨o,h1,h2.1⟩
  exact⟨ty,wpAny_getItem_of (knd:=mixKind X.prog X.w) (k:=Sum.inr z) (a8j (k:=Sum.inr z) r1) dd.mapOf hw ⟨u,H1,I1.tok _,rw',q1⟩⟩
 ·obtain⟨x,e1,e⟩:=AA.mp e;cases x<;>first|(cases e;done)|skip
  rename_i y;obtain⟨v,hv,hr⟩:=hs y d e;refine⟨G,ρ,_,er,e1,fun w G1 H1 s1 r1=>?_⟩;cases aP r1;exact⟨y,v,rfl,hv,k _ G1 H1 s1 (hr G1)⟩
def Ok(P:Program)(w:World)(K:W.Frag)(mg:Str→Option Value)(base:Heap)(k:Nat)(x:Str)(ps:List Str)(g:List D→Option D):Prop:=
 ∃fad fd,Kg P w K mg base Oa k fad fd ps (So K ps.length g)∧Ev K fd ps []∧mg x=some (.ref fad)∧W.keepIn K (.ref fad)=true
theorem aG{k:Nat}{ps:List Str}{g:List D→Option D}{x:Str}(F:Ok X.prog X.w X.K X.mg X.base k x ps g)(hr:Cc k X.A)(hg:Gl X x)(ha:DA X own (e::es) fs)(hlen:∀ρ ds,fs ρ=some ds→ds.length=ps.length)
  (hn:(e::es).length=ps.length:=by rfl)(hdb:(x==("__debug__":Str))=false:=by decide)(he:starEach (e::es) X.env=(false,eval e X.env)::starEach es X.env:=by rfl)(hpl:(backTo pos (starEach es X.env)).any (·.1)=false:=by rfl):
  DE X own (.Call (.Name x p) (e::es) [] pos) (f1 g fs):=by
 obtain⟨fad,fd,h1,h2,h3,h4⟩:=F;exact b3r h1 hr hg h3 h4 h2 ha hn hlen hdb he hpl
def Sk(P:Program)(w:World)(K:W.Frag)(mg:Str→Option Value)(base:Heap)(k n:Nat)(tab:Addr→Option (List D→Option D)):Prop:=
 ∀fad g,tab fad=some g→∃fd ps,ps.length=n∧Kg P w K mg base Oa k fad fd ps (So K ps.length g)∧Ev K fd ps []∧W.keepIn K (.ref fad)=true
def Jo(tab:Addr→Option (List D→Option D))(i:Nat)(fs:Ac→Option (List D)):Ac→Option D:=fun ρ=>(Aa i ρ).bind fun d=>match d with|.fn fad=>(tab fad).bind fun g=>(fs ρ).bind g|_=>none
theorem a9p{k n j:Nat}{tab:Addr→Option (List D→Option D)}{x:Str}(F:Sk X.prog X.w X.K X.mg X.base k n tab)(hr:Cc k X.A)(ha:DA X own (e::es) fs)(hlen:∀ρ ds,fs ρ=some ds→ds.length=n)
  (hj:j∉own:=by decide)(hN:X.N[j]?=some x:=by rfl)(hv:Qo X.env.scope x:=by first|exact Or.inl rfl|exact Or.inr (Or.inl rfl)|exact Or.inr (Or.inr rfl))(hdb:(x==("__debug__":Str))=false:=by decide)(hcd:(x==("__classdict__":Str))=false:=by decide)
  (he:starEach (e::es) X.env=(false,eval e X.env)::starEach es X.env:=by rfl)(hpl:(backTo pos (starEach es X.env)).any (·.1)=false:=by rfl):
  DE X own (.Call (.Name x p) (e::es) [] pos) (Jo tab j fs):=⟨by
 intro pins s σ H Q I h;obtain⟨G,ρ,d,er,e1,kk⟩:=h;obtain⟨z,e2,e1⟩:=AA.mp e1;cases z<;>first|(cases e1;done)|skip
 rename_i fad;obtain⟨g,e3,e1⟩:=AA.mp e1;obtain⟨ds,e4,e1⟩:=AA.mp e1;obtain⟨fd,ps,hps,F1,F2,F3⟩:=F fad g e3;obtain⟨v,h1,h2⟩:=er.at_ j _ (sP e2) hj;cases gW h2;refine FQ (bX (gX hN hv hdb hcd pins s σ H (fun u H'=>u=.ref fad∧H'=H) I ⟨_,h1,rfl,rfl⟩) fun u s1 ⟨y,H1,I1,r1,hy,hH⟩=>?_);subst hy hH;cases r1;refine W.callWith_K (h₀:=X.base) I1.ok.mod.kin F3 (bX (ha.ok pos pins s1 σ H1 _ I1 ⟨G,ρ,ds,er,e4,fun vs G2 H2 s2 r2=>(?_:(fun vs H2=>So X.K ps.length g vs H2 Q E0) vs H2)⟩) fun us s2 ⟨vs,H2,I2,r2,q2⟩=>⟨I2.kIn,?_⟩) he hpl
 ·exact⟨by rw[←aF r2,hlen ρ ds e4,hps],G2,ds,d,s2.sub,r2,e1,fun v G3 H3 s3 r3=>kk v G3 H3 (s2.trans s3) r3⟩
 ·exact a5u (dvs:=[]) (ds:=[]) F1 hr F2 .nil b4c I2 r2 (by rw[BP];exact q2)⟩
def Vo(x:Str):It:=⟨fun i _=>i<x.cps.size,fun i H v H'=>H'=H∧∃c,x.cps[i]?=some c∧v=.str ⟨#[c]⟩,fun i _=>x.cps.size≤i⟩
def Og(f:Ac→Option D):Ac→Option (List D):=fun ρ=>(f ρ).bind fun d=>match d with|.str x=>some (x.cps.toList.map fun c=>.str ⟨#[c]⟩)|_=>none
theorem b2r{K:W.Frag}{G1:Hp}{x:Str}:Qp K (Vo x) (x.cps.toList.map fun c=>.str ⟨#[c]⟩) G1:=by
 intro i G' H' s1 s2;refine⟨fun d hd=>?_,fun hi=>by rw[AK,DO]at hi;exact FF hi.symm⟩;rw[BO]at hd;obtain⟨c,hc,rfl⟩:=AF.mp hd;rw[Array.getElem?_toList]at hc;refine⟨(BX.mp hc).1,fun v H'' hy=>?_⟩;obtain⟨e1,c',hc',e2⟩:=hy;subst e1;rw[hc]at hc';cases hc';subst e2;exact⟨G',Cr.refl s2,Bf.str⟩
theorem vS{K:W.Frag}{x:Str}{St':Nat→Heap→Prop}(hd:∀i h,St' i h→∃o,h.get? it=some o∧∀v,o.data≠.cell v)
  (W:∀A':Around,A'.handled=none→Walks P w A' it [it] [it] x.cps.size (SignAt x) St')(hself:∀(A:Around) (i:Nat) (s:Shared) (Q:Value→Shared→Prop) (E:Value→Shared→Prop),St' i s.heap→Q (.ref it) s→wpAny (model P w) A (pyIter (.ref it)) Q E s):
  Ms P w K (.Name y py) (Vo x) [it] it (fun i h=>i≤x.cps.size∧St' i h) where
 mem:=by simp
 obj:=fun i h st b hb=>by
  have e:b=it:=by simpa using hb
  subst e;exact hd i h st.2
 keep:=fun i h h' st k=>⟨st.1,by
  have Wd:=W callerA rfl;exact Wd.frame i h h' st.2 fun b hb o e=>k b hb o e⟩
 item:=by
  intro X hP hw hK hc i pins s σ H E I hf st hg;subst hP hw hK;obtain⟨f0,f1,f2,f3,f4,f5⟩:=hf it (by simp);refine(W X.A (I.ok.hd hc)).item i s _ _ hg st.2 fun v h' tk hv st' kk=>?_;obtain⟨cc,u,hcc,rfl⟩:=hv;have I1:Inv X pins σ H {s with heap:=h',toks:=tk}:=I.turned (fun b o hb e=>kk b o (by simpa using hb) e) f0 f1 f3 f4 f5;exact⟨_,rfl,AG ⟨.str ⟨#[cc]⟩,H,I1,⟨u,rfl⟩,⟨rfl,cc,hcc,rfl⟩,⟨hg,st'⟩,fun b hb=>(hf b hb).1⟩⟩
 done:=by
  intro X hP hw hK hc i pins s σ H E I hf st hg;subst hP hw hK;obtain⟨f0,f1,f2,f3,f4,f5⟩:=hf it (by simp);have hi:i=x.cps.size:=Nat.le_antisymm st.1 hg;subst hi;exact(W X.A (I.ok.hd hc)).done s _ _ st.2 fun h' tk kk=>⟨rfl,I.turned (fun b o hb e=>kk b o (by simpa using hb) e) f0 f1 f3 f4 f5⟩
 self:=fun A i s Q E st h=>hself A i s Q E st.2 h
end
end DL
namespace DL
open PySem PySem.Spec PyProof.Rows L2
section
variable{X:Cx}{own:List Nat}{e a b c o i tg:Expr}{es:List Expr}{pos p2:Pos}{f fa fb fc fe:Ac→Option D}{fs fi:Ac→Option (List D)}{ft fu:Ac→Option Bool}
theorem b5a{tl:TE}(hl:PE X a tl):PI X (.Name y py) a (fun σ H R=>tl σ H fun v H1=>∃x,v=.str x∧R (Vo x) H1):=by
 intro pins s σ H R I h;refine bX (hl pins s σ H _ I h) fun v s1 ⟨u,H1,I1,r1,x,hx,q⟩=>?_;subst hx;obtain⟨t,rfl⟩:=r1;have cell0:∀(ty:String) (i:Nat) (h:Heap),h.IsStrIter s1.heap.objs.size ty x t i→∃o,h.get? s1.heap.objs.size=some o∧∀v,o.data≠.cell v:=fun ty i h st=>by
  obtain⟨o,e,c,d⟩:=st;exact⟨o,e,fun v z=>by rw[d]at z;cases z⟩
 have fin:∀(ob:Obj) (St':Nat→Heap→Prop),Ms X.prog X.w X.K (.Name y py) (Vo x) [s1.heap.objs.size] s1.heap.objs.size (fun i h=>i≤x.cps.size∧St' i h)→St' 0 (s1.heap.push ob)→
   Wk X pins σ (.Name y py) R (.ref s1.heap.objs.size) {s1 with heap:=s1.heap.push ob}:=fun ob St' T st=>by
  refine⟨s1.heap.objs.size,[s1.heap.objs.size],_,_,H1,rfl,I1.kept (t':=s1.toks) fun b o e=>AD _ e,T,⟨DK _,st⟩,fun b hb=>?_,q⟩;have e:b=s1.heap.objs.size:=by simpa using hb
  subst e;exact I1.fpOk (AU _) (I1.hok.fresh (AU _))
 cases ha:x.cps.all (·<128)with
 |false=>
  exact wpAny_pyIter_wide ha (fin _ _ (vS (fun i h st=>cell0 _ i h st) (fun A' hA=>Walks.strWide hA _ x t) fun A i s Q E st h=>wpAny_pyIter_striter_wide st h) ⟨_,BA _ rfl,rfl,rfl⟩)
 |true=>
  exact wpAny_pyIter_ascii ha (fin _ _ (vS (fun i h st=>cell0 _ i h st) (fun A' hA=>Walks.strAscii hA _ x t) fun A i s Q E st h=>wpAny_pyIter_striter_ascii st h) ⟨_,BA _ rfl,rfl,rfl⟩)
theorem a9l(h:DE X own a fa):DI X own (.Name y py) a (Og fa):=xS (b5a h.ok) fun σ G H R ρ ds er e k=>by
 obtain⟨d,e1,e2⟩:=AA.mp e;cases d with
 |str x=>
  cases e2;refine⟨G,ρ,_,er,e1,fun v G1 H1 s1 r1=>?_⟩;cases aP r1;exact⟨x,rfl,k _ G1 H1 s1 b2r⟩
 |_=>cases e2
theorem rS:∀{ys:List Str} {us:List Value},Bw (ys.map V.str) us→StrsAre us ys
 |[],_,.nil=>.nil
 |y::ys,_,.cons r t=>by
  obtain⟨k,rfl⟩:=r;exact .cons y k (rS t)
def Tz(K:W.Frag):V→List V→Hp→VK→Prop:=fun x vs H Q=>∃(z:Str) (p:Addr) (ys:List Str),x=.str z∧vs=[.ref p]∧Ei K H p (ys.map V.str)∧(ys.map (·.length)).sum+ys.length*z.length≤16777216∧Q (.str (Txt.join z ys)) H
theorem a1q:Vm X "str.join" (Tz X.K):=by
 intro pins s σ H x xs v us Q I rx r h;obtain⟨z,p,ys,rfl,rfl,hq,hz,q⟩:=h;obtain⟨t,rfl⟩:=rx;obtain⟨u,rfl,r1⟩:=gR r;cases r1;obtain⟨its,rv,pl,_⟩:=I.list hq;exact join_list pl.isList (by simpa using rS rv) hz fun t' k=>⟨.str _,H,I.tok _,⟨_,rfl⟩,q⟩
def Ij:List D→Option (List Str)
 |[]=>some []
 |.str x::r=>(Ij r).map (x::·)
 |_=>none
theorem pB{K:W.Frag}{H:Hp}:∀{ds:List D} {vs:List V} {ys:List Str},At K H ds vs→Ij ds=some ys→vs=ys.map V.str
 |[],vs,ys,r,e=>by cases bZ r;cases e;rfl
 |d::ds,vs,ys,r,e=>by
  obtain⟨v,t,rfl,r1,r2⟩:=bN r;cases d<;>first|(cases e;done)|skip
  obtain⟨ys',e1,rfl⟩:=AF.mp e;cases aP r1;rw[pB r2 e1];rfl
def Ft:D→D→Option D
 |.str z,.lst xs=>(Ij xs).bind fun ys=>if(ys.map (·.length)).sum+ys.length*z.length≤Ci then some (.str (Txt.join z ys))else none
 |_,_=>none
def Fw(fo fa:Ac→Option D):Ac→Option D:=fun ρ=>(fo ρ).bind fun x=>(fa ρ).bind fun y=>Ft x y
theorem oJ{fo:Ac→Option D}{apos cpos:Pos}(ho:DE X own o fo)(ha:DE X own a fa)
  (hbase:attributeBase o "join" X.env (eval o X.env)=eval o X.env:=by rfl)
  (hfew:((backTo cpos (starEach [a] X.env)).all (fun x=>!x.1)&&(backToKw cpos (keywordEach [] X.env)).all (fun x=>x.1.isSome)
   &&decide ([a].length+([]:List Keyword).length+(if([]:List Keyword).isEmpty then 0 else 1)<30))=true:=by rfl)
  (hline:(apos.endLine==cpos.line)=true:=by rfl) (hs:starEach (a::[]) X.env=(false,eval a X.env)::starEach [] X.env:=by rfl) (hplain:(backTo cpos (starEach [] X.env)).any (·.1)=false:=by rfl):
  DE X own (.Call (.Attribute o "join" apos) [a] [] cpos) (Fw fo fa):=
 cD (sE DU PySem.F.slot_str_join PySem.F.type_str_join a1q ho.ok (bR ha.ok dD hs) hbase hfew hline hs hplain) fun σ G H Q ρ d er e k=>by
  obtain⟨x,e1,e⟩:=AA.mp e;obtain⟨y,e2,e⟩:=AA.mp e;unfold Ft at e;split at e
  ·obtain⟨ys,e3,e⟩:=AA.mp e;split at e
   ·rename_i hl;cases e;refine⟨G,ρ,_,er,e1,fun v G1 H1 s1 r1=>?_⟩;cases aP r1;refine⟨rfl,G1,ρ,_,er.grow s1,e2,fun w G2 H2 s2 r2=>?_⟩;obtain⟨p,vs,rfl,q,rr⟩:=aY r2;have:=pB rr e3;subst this;exact⟨_,p,ys,rfl,rfl,s2.sub.seq q,BG hl (by decide),k _ G2 H2 (s1.trans s2) Bf.str⟩
   ·cases e
  ·cases e
end
section
variable{prog:Program}{w:World}{A:Around}{E:Value→Shared→Prop}{s:Shared}
theorem uC{n:Nat}{xs:Array Value}{Q:Value→Shared→Prop}(g1:s.heap.IsTupleIter jt tt n)(g2:s.heap.IsTuple tt xs)(g3:xs[n]?=some v)
  (k:∀h',h'.IsTupleIter jt tt (n+1)→Heap.SameBut jt s.heap h'→Q v {s with heap:=h'}):wpAny (model prog w) A (Builtin.SmallTypes.nextOf (.ref jt)) Q E s:=by
 obtain⟨ob,eo,ec,ed⟩:=id g1;obtain⟨ot,eot,_,nt,edt⟩:=g2;unfold Builtin.SmallTypes.nextOf;refine AB (CH (name:=Str.ofString "__next__") g1.typeIs EL (CQ EL g1.typeIs F.entry_tuple_iterator_next ?_ (F.args_tuple_iterator_next_1 _)));show wpAny _ _ (field (.ref jt) 0>>=_) _ _ s;refine AB (BI eo ed (x:=.ref tt) rfl ?_);rw[AR (show¬((Value.ref tt==Value.none)=true)from BB)];refine AB (BI eo ed (x:=.int n 0) rfl ?_);refine AB (EA eot edt ?_);simp only[GU,g3];refine AB (EN eo ed (by simp) (AG ⟨v,rfl,AG (k _ ?_ (EV ..))⟩));exact⟨_,BW _ eo (CO (DD ed _)),(Obj.cls_mapFields ..).trans ec,by rw[DD ed];simp[rawInt]⟩
theorem pP{n:Nat}{xs:Array Value}{Q:Value→Shared→Prop}(hh:A.handled=none)(g1:s.heap.IsTupleIter jt tt n)(g2:s.heap.IsTuple tt xs)(g3:xs[n]?=none)
  (k:∀h' e,Heap.ExtBut jt s.heap h'→(∃o,h'.get? e=some o∧o.cls=.type "StopIteration")→E (.ref e) {s with heap:=h'}):wpAny (model prog w) A (Builtin.SmallTypes.nextOf (.ref jt)) Q E s:=by
 obtain⟨ob,eo,ec,ed⟩:=id g1;obtain⟨ot,eot,_,nt,edt⟩:=g2;unfold Builtin.SmallTypes.nextOf;refine AB (CH (name:=Str.ofString "__next__") g1.typeIs EL (CQ EL g1.typeIs F.entry_tuple_iterator_next ?_ (F.args_tuple_iterator_next_1 _)));show wpAny _ _ (field (.ref jt) 0>>=_) _ _ s;refine AB (BI eo ed (x:=.ref tt) rfl ?_);rw[AR (show¬((Value.ref tt==Value.none)=true)from BB)];refine AB (BI eo ed (x:=.int n 0) rfl ?_);refine AB (EA eot edt ?_);simp only[GU,g3];refine AB (EW (AB (EN eo ed (by simp) ?_)));refine AB ?_;simp only[newExc,newTuple];refine AB (CC ?_ (by size_fits));refine AB (m:=firstArgMember _ _) (wpAny_of_eq (a:=Value.none) (by first|rfl|(simp only[firstArgMember];rfl)) ?_);refine CC ?_ (by size_fits);simp only[raiseNew];refine AB (wpAny_handled ?_)
 first|rw[show A.in1.handled=none from hh]|rw[hh]
 refine AB (AG (wpAny_throw ?_));exact k _ _ (((EV ..).extBut.push _).push _) ⟨_,BA _ rfl,rfl⟩
theorem bA{h h':Heap}{n:Nat}(x:h.IsTupleIter aa tt n)(hs:Heap.ExtBut bb h h')(ne:aa≠bb):h'.IsTupleIter aa tt n:=let⟨ob,eo,r⟩:=x;⟨ob,hs _ _ ne eo,r⟩
theorem yG{TI TO:Addr}{k1 k2:Nat}{xs ys:Array Value}{Q:Value→Shared→Prop}(D:ZipApart z TI TO i1 i2 l1 l2)
  (gz:IsZip s.heap z TI TO .none)(gI:IsPair s.heap TI (.ref i1) (.ref i2))(gO:IsPair s.heap TO p q)
  (g1:s.heap.IsTupleIter i1 l1 k1)(g2:s.heap.IsTupleIter i2 l2 k2)(gl1:s.heap.IsTuple l1 xs)(gl2:s.heap.IsTuple l2 ys)(gx:xs[k1]?=some x)(gy:ys[k2]?=some y)
  (kk:∀h',IsZip h' z TI TO (rawInt s.heap.objs.size)→IsPair h' TO x y→h'.IsTupleIter i1 l1 (k1+1)→h'.IsTupleIter i2 l2 (k2+1)→IsPair h' s.heap.objs.size x y→
   (∀c ob,c≠z→c≠TO→c≠i1→c≠i2→s.heap.get? c=some ob→h'.get? c=some ob)→Q (.ref s.heap.objs.size) {s with heap:=h'}):
  wpAny (model prog w) A (Builtin.«zip.__next__» ⟨[.ref z],[]⟩) (fun fin s'=>∃v,fin=.done (.ret v)∧Q v s') E s:=by
 show wpAny _ _ (field (.ref z) 2>>=_) _ _ _;refine AB (BI gz rfl (x:=.bool false) rfl ?_);refine AB (BI gz rfl (x:=.ref TI) rfl ?_);refine AB (EA gI rfl ?_);refine AB ?_;unfold Builtin.SmallTypes.ownedTupleIsFree;refine AB (BI gz rfl (x:=.none) rfl (AG ?_));simp only[DR];refine AB (EW ?_);refine AB (BI gz rfl (x:=.ref TO) rfl ?_);refine AB (CP gz (by simp) fun h1 gz1 hs1=>?_)
 replace gz1:IsZip h1 z TI TO .ellipsis:=gz1
 refine AB ?_;simp only[List.zipIdx_cons,List.zipIdx_nil,ET,List.forIn_nil];refine AB (AB (HE ?_));refine AB (uC (bA g1 hs1.extBut D.i1z) (gl1.extBut hs1.extBut D.l1z) gx fun h2 g12 hs2=>AG ?_);have gO2:IsPair h2 TO p q:=hs2.extBut _ _ D.TOi1 (hs1.extBut _ _ D.TOz gO);refine AB (EA gO2 rfl ?_);refine AB (GS gO2 fun h3 gO3 hs3=>?_)
 replace gO3:IsPair h3 TO x q:=gO3
 refine AB (wpAny_letGo (AG ?_));refine AB (AB (HE ?_));refine AB (uC (bA (bA (bA g2 hs1.extBut D.i2z) hs2.extBut D.i12.symm) hs3.extBut D.TOi2.symm) (((gl2.extBut hs1.extBut D.l2z).extBut hs2.extBut D.l2i1).extBut hs3.extBut D.l2TO) gy fun h4 g24 hs4=>AG ?_);have gO4:IsPair h4 TO x q:=hs4.extBut _ _ D.TOi2 gO3;refine AB (EA gO4 rfl ?_);refine AB (GS gO4 fun h5 gO5 hs5=>?_)
 replace gO5:IsPair h5 TO x y:=gO5
 refine AB (wpAny_letGo (AG (AG ?_)));refine AB (EA gO5 rfl ?_);refine AB (wpAny_newTuple ?_);have sz:h5.objs.size=s.heap.objs.size:=by rw[hs5.1,hs4.1,hs3.1,hs2.1,hs1.1]
 have gz5:IsZip h5 z TI TO .ellipsis:=hs5.extBut _ _ D.TOz.symm (hs4.extBut _ _ D.i2z.symm (hs3.extBut _ _ D.TOz.symm (hs2.extBut _ _ D.i1z.symm gz1)));have gk5:∀c ob,c≠z→c≠TO→c≠i1→c≠i2→s.heap.get? c=some ob→h5.get? c=some ob:=fun c ob c1 c2 c3 c4 e=>hs5.extBut _ _ c2 (hs4.extBut _ _ c4 (hs3.extBut _ _ c2 (hs2.extBut _ _ c3 (hs1.extBut _ _ c1 e))));have g15:h5.IsTupleIter i1 l1 (k1+1):=bA (bA (bA g12 hs3.extBut D.TOi1.symm) hs4.extBut D.i12) hs5.extBut D.TOi1.symm;have g25:h5.IsTupleIter i2 l2 (k2+1):=bA g24 hs5.extBut D.TOi2.symm;have zlt:z<h5.objs.size:=AL gz5;refine AB ?_;unfold Builtin.SmallTypes.ownedTupleHandOut;have gz6:IsZip (h5.push {cls:=.type "tuple",data:=.seq #[x,y]}) z TI TO .ellipsis:=AD _ gz5;refine AB (CP gz6 (by simp) fun h7 gz7 hs7=>?_)
 replace gz7:IsZip h7 z TI TO (rawInt h5.objs.size):=gz7
 refine CP gz7 (by simp) fun h8 gz8 hs8=>?_
 replace gz8:IsZip h8 z TI TO (rawInt h5.objs.size):=gz8
 have up:∀c ob,c≠z→h5.get? c=some ob→h8.get? c=some ob:=fun c ob c1 e=>hs8.extBut _ _ c1 (hs7.extBut _ _ c1 (AD _ e));have gT8:IsPair h8 h5.objs.size x y:=hs8.extBut _ _ (DJ zlt) (hs7.extBut _ _ (DJ zlt) (BA _ rfl));rw[sz]at gz8 gT8;refine AG ⟨_,rfl,?_⟩;rw[sz];obtain⟨ob1,eo1,r1⟩:=g15;obtain⟨ob2,eo2,r2⟩:=g25;exact kk h8 gz8 (up _ _ D.TOz gO5) ⟨ob1,up _ _ D.i1z eo1,r1⟩ ⟨ob2,up _ _ D.i2z eo2,r2⟩ gT8 fun c ob c1 c2 c3 c4 e=>up c ob c1 (gk5 c ob c1 c2 c3 c4 e)
theorem a2o{TI TO:Addr}{k1 k2:Nat}{xs ys:Array Value}{Q:Fin→Shared→Prop}(hh:A.handled=none)(D:ZipApart z TI TO i1 i2 l1 l2)
  (gz:IsZip s.heap z TI TO .none)(gI:IsPair s.heap TI (.ref i1) (.ref i2))(gO:IsPair s.heap TO p q)
  (g1:s.heap.IsTupleIter i1 l1 k1)(g2:s.heap.IsTupleIter i2 l2 k2)(gl1:s.heap.IsTuple l1 xs)(gl2:s.heap.IsTuple l2 ys)(ge:xs[k1]?=none∨ys[k2]?=none)
  (kk:∀h' e,(∀c ob,c≠z→c≠TO→c≠i1→c≠i2→s.heap.get? c=some ob→h'.get? c=some ob)→(∃ob,h'.get? e=some ob∧ob.cls=.type "StopIteration")→E (.ref e) {s with heap:=h'}):
  wpAny (model prog w) A (Builtin.«zip.__next__» ⟨[.ref z],[]⟩) Q E s:=by
 show wpAny _ _ (field (.ref z) 2>>=_) _ _ _;refine AB (BI gz rfl (x:=.bool false) rfl ?_);refine AB (BI gz rfl (x:=.ref TI) rfl ?_);refine AB (EA gI rfl ?_);refine AB ?_;unfold Builtin.SmallTypes.ownedTupleIsFree;refine AB (BI gz rfl (x:=.none) rfl (AG ?_));simp only[DR];refine AB (EW ?_);refine AB (BI gz rfl (x:=.ref TO) rfl ?_);refine AB (CP gz (by simp) fun h1 gz1 hs1=>?_)
 replace gz1:IsZip h1 z TI TO .ellipsis:=gz1
 refine AB ?_;simp only[List.zipIdx_cons,List.zipIdx_nil,ET,List.forIn_nil];refine AB (AB (HE ?_));cases gx:xs[k1]? with
 |none=>
  refine AB (pP hh (bA g1 hs1.extBut D.i1z) (gl1.extBut hs1.extBut D.l1z) gx fun h2 e hs2 he=>?_);obtain⟨oe,hoe,hce⟩:=he;have gz2:IsZip h2 z TI TO .ellipsis:=hs2 _ _ D.i1z.symm gz1;have hez:e≠z:=fun x=>by subst x;rw[gz2]at hoe;cases hoe;simp at hce
  refine CP gz2 (by simp) fun h3 _ hs3=>kk h3 e (fun c ob c1 _ c3 _ x=>hs3.extBut _ _ c1 (hs2 _ _ c3 (hs1.extBut _ _ c1 x))) ⟨oe,hs3.extBut _ _ hez hoe,hce⟩
 |some x=>
  have gy:ys[k2]?=none:=by
   obtain h|h:=ge
   ·rw[gx]at h;cases h
   ·exact h
  refine AB (uC (bA g1 hs1.extBut D.i1z) (gl1.extBut hs1.extBut D.l1z) gx fun h2 g12 hs2=>AG ?_);have gO2:IsPair h2 TO p q:=hs2.extBut _ _ D.TOi1 (hs1.extBut _ _ D.TOz gO);refine AB (EA gO2 rfl ?_);refine AB (GS gO2 fun h3 gO3 hs3=>?_);refine AB (wpAny_letGo (AG ?_));refine AB (AB (HE ?_));refine AB (pP hh (bA (bA (bA g2 hs1.extBut D.i2z) hs2.extBut D.i12.symm) hs3.extBut D.TOi2.symm) (((gl2.extBut hs1.extBut D.l2z).extBut hs2.extBut D.l2i1).extBut hs3.extBut D.l2TO) gy fun h4 e hs4 he=>?_);obtain⟨oe,hoe,hce⟩:=he;have gz4:IsZip h4 z TI TO .ellipsis:=hs4 _ _ D.i2z.symm (hs3.extBut _ _ D.TOz.symm (hs2.extBut _ _ D.i1z.symm gz1));have hez:e≠z:=fun x=>by subst x;rw[gz4]at hoe;cases hoe;simp at hce
  refine CP gz4 (by simp) fun h5 _ hs5=>kk h5 e (fun c ob c1 c2 c3 c4 x=>hs5.extBut _ _ c1 (hs4 _ _ c4 (hs3.extBut _ _ c2 (hs2.extBut _ _ c3 (hs1.extBut _ _ c1 x))))) ⟨oe,hs5.extBut _ _ hez hoe,hce⟩
end
end DL
namespace DL
open PySem PySem.Spec PyProof.Rows L2
section
variable{prog:Program}{w:World}{A:Around}{E:Value→Shared→Prop}{s:Shared}
theorem yY{TI TO:Addr}{k1 k2:Nat}{xs ys:Array Value}{p:Value}{Q:Option Value→Shared→Prop}(D:ZipApart z TI TO i1 i2 l1 l2)
  (gz:IsZip s.heap z TI TO .none)(gI:IsPair s.heap TI (.ref i1) (.ref i2))(gO:IsPair s.heap TO p q)
  (g1:s.heap.IsTupleIter i1 l1 k1)(g2:s.heap.IsTupleIter i2 l2 k2)(gl1:s.heap.IsTuple l1 xs)(gl2:s.heap.IsTuple l2 ys)(gx:xs[k1]?=some x)(gy:ys[k2]?=some y)
  (kk:∀h',IsZip h' z TI TO (rawInt s.heap.objs.size)→IsPair h' TO x y→h'.IsTupleIter i1 l1 (k1+1)→h'.IsTupleIter i2 l2 (k2+1)→IsPair h' s.heap.objs.size x y→
   (∀c ob,c≠z→c≠TO→c≠i1→c≠i2→s.heap.get? c=some ob→h'.get? c=some ob)→Q (some (.ref s.heap.objs.size)) {s with heap:=h'}):
  wpAny (model prog w) A (pyNext (.ref z)) Q E s:=by
 have gT:s.TypeIs (.ref z) "zip":=⟨_,gz,rfl⟩;unfold pyNext;exact AB (wpAny_attempt (CH (name:=Str.ofString "__next__") gT GP (CQ GP gT F.entry_zip_next
  (yG D gz gI gO g1 g2 gl1 gl2 gx gy fun h' a1 a2 a3 a4 a5 a6=>AG (kk h' a1 a2 a3 a4 a5 a6)) (F.args_zip_next_1 _))))
theorem rH{TI TO:Addr}{k1 k2:Nat}{xs ys:Array Value}{p:Value}{Q:Option Value→Shared→Prop}(hh:A.handled=none)(D:ZipApart z TI TO i1 i2 l1 l2)
  (gz:IsZip s.heap z TI TO .none)(gI:IsPair s.heap TI (.ref i1) (.ref i2))(gO:IsPair s.heap TO p q)
  (g1:s.heap.IsTupleIter i1 l1 k1)(g2:s.heap.IsTupleIter i2 l2 k2)(gl1:s.heap.IsTuple l1 xs)(gl2:s.heap.IsTuple l2 ys)(ge:xs[k1]?=none∨ys[k2]?=none)
  (kk:∀h',(∀c ob,c≠z→c≠TO→c≠i1→c≠i2→s.heap.get? c=some ob→h'.get? c=some ob)→Q none {s with heap:=h'}):wpAny (model prog w) A (pyNext (.ref z)) Q E s:=by
 have gT:s.TypeIs (.ref z) "zip":=⟨_,gz,rfl⟩;unfold pyNext;refine AB (wpAny_attempt (CH (name:=Str.ofString "__next__") gT GP (CQ GP gT F.entry_zip_next
  (a2o hh D gz gI gO g1 g2 gl1 gl2 ge fun h' e hk he=>?_) (F.args_zip_next_1 _))))
 obtain⟨ob,ho,hc⟩:=he;exact AB (wpAny_isInstance (T:="StopIteration") (b:=true) ⟨ob,ho,hc⟩ isSubtype_stop (AG (kk _ hk)))
abbrev Ve(h:Heap)(l1:Addr):Heap:=h.push {cls:=.type "tuple_iterator",data:=.fields #[.ref l1,.int 0 0]}
abbrev Vd(h:Heap)(l1 l2:Addr):Heap:=(Ve h l1).push {cls:=.type "tuple_iterator",data:=.fields #[.ref l2,.int 0 0]}
abbrev Vc(h:Heap)(l1 l2:Addr):Heap:=(Vd h l1 l2).push {cls:=.type "tuple",data:=.seq #[.ref h.objs.size,.ref (Ve h l1).objs.size]}
abbrev Vb(h:Heap)(l1 l2:Addr):Heap:=(Vc h l1 l2).push {cls:=.type "tuple",data:=.seq #[.none,.none]}
abbrev Tc(h:Heap)(l1 l2:Addr):Heap:=(Vb h l1 l2).push {cls:=.type "zip",data:=.fields #[.none,.bool false,.bool false,.ref (Vd h l1 l2).objs.size,.ref (Vc h l1 l2).objs.size]}
theorem zT(l1 l2:Addr)(xs ys:Array Value):
  Meets (Builtin.«zip.__new__» ⟨[.type "zip",.ref l1,.ref l2],[]⟩) (fun _ R s=>s.heap.IsTuple l1 xs∧s.heap.IsTuple l2 ys∧R (.ok (.ret (.ref (Vb s.heap l1 l2).objs.size))) {s with heap:=Tc s.heap l1 l2}):=
 .of_wp fun prog w A R s h=>by
  obtain⟨hp,g,d,tk,os⟩:=s;obtain⟨gl1,gl2,h⟩:=h;have hsub:=sub_zip;have gL1:Heap.IsTuple (Shared.heap ⟨hp,g,d,tk,os⟩) l1 xs:=gl1;have gL2:Heap.IsTuple (Shared.heap ⟨hp.push {cls:=.type "tuple_iterator",data:=.fields #[.ref l1,.int 0 0]},g,d,tk,os⟩) l2 ys:=let⟨ob,eo,r⟩:=gl2;⟨ob,AD _ eo,r⟩
  wp_walk using HD gL1,HD gL2
  exact⟨_,rfl,h⟩
theorem b0c{xs ys:Array Value}{Q:Value→Shared→Prop}(gl1:s.heap.IsTuple l1 xs)(gl2:s.heap.IsTuple l2 ys)
  (kk:∀h',IsZip h' (s.heap.objs.size+4) (s.heap.objs.size+2) (s.heap.objs.size+3) .none→IsPair h' (s.heap.objs.size+2) (.ref s.heap.objs.size) (.ref (s.heap.objs.size+1))→
   IsPair h' (s.heap.objs.size+3) .none .none→h'.IsTupleIter s.heap.objs.size l1 0→h'.IsTupleIter (s.heap.objs.size+1) l2 0→(∀c ob,s.heap.get? c=some ob→h'.get? c=some ob)→Q (.ref (s.heap.objs.size+4)) {s with heap:=h'}):
  wpAny (model prog w) A (call (.type "zip") [.ref l1,.ref l2]) Q E s:=by
 refine callType_new F.called_zip (by decide) (F.typeCall_zip_2 _ _) (F.newCall_zip_2 _ _) (fun obj=>F.args_object_init_3 obj _ _) F.entry_zip_new (zT l1 l2 xs ys) ⟨gl1,gl2,?_⟩;have z1:(Ve s.heap l1).objs.size=s.heap.objs.size+1:=EB ..;have z2:(Vd s.heap l1 l2).objs.size=s.heap.objs.size+2:=by rw[EB,z1]
 have z3:(Vc s.heap l1 l2).objs.size=s.heap.objs.size+3:=by rw[EB,z2]
 have z4:(Vb s.heap l1 l2).objs.size=s.heap.objs.size+4:=by rw[EB,z3]
 have y5:(Tc s.heap l1 l2).get? (Vb s.heap l1 l2).objs.size=some _:=BA _ rfl;have y4:(Tc s.heap l1 l2).get? (Vc s.heap l1 l2).objs.size=some _:=AD _ (BA _ rfl);have y3:(Tc s.heap l1 l2).get? (Vd s.heap l1 l2).objs.size=some _:=AD _ (AD _ (BA _ rfl));have y2:(Tc s.heap l1 l2).get? (Ve s.heap l1).objs.size=some _:=AD _ (AD _ (AD _ (BA _ rfl)));have y1:(Tc s.heap l1 l2).get? s.heap.objs.size=some _:=AD _ (AD _ (AD _ (AD _ (BA _ rfl))));show _∧_;rw[z2,z3,z4]at y5;rw[z1,z2]at y3;rw[z3]at y4;rw[z1]at y2;rw[z4];exact⟨⟨_,y5,rfl⟩,kk _ y5 y3 y4 ⟨_,y1,rfl,rfl⟩ ⟨_,y2,rfl,rfl⟩ fun c ob x=>AD _ (AD _ (AD _ (AD _ (AD _ x))))⟩
end
def Vn(K:W.Frag)(a b:Addr):It:=
 ⟨fun i H=>∃xs ys x y,Eb K H a xs∧Eb K H b ys∧xs[i]?=some x∧ys[i]?=some y,
   fun i H v H'=>∃T,v=.ref T∧H T=none∧∀xs ys,Eb K H a xs→Eb K H b ys→∃x y,xs[i]?=some x∧ys[i]?=some y∧H'=upd H T (.tup [x,y]),
   fun i H=>∃xs ys,Eb K H a xs∧Eb K H b ys∧(xs.length≤i∨ys.length≤i)⟩
theorem a2r{w:World}{K:W.Frag}{elts:List Expr}{n1:Nat}{tp:Pos}{a b TI TO:Addr}(D:ZipApart z TI TO i1 i2 a b):
  Ms P w K (.Tuple elts n1 tp) (Vn K a b) [z,TI,TO,i1,i2] z (fun i h=>IsZip h z TI TO .none∧IsPair h TI (.ref i1) (.ref i2)∧(∃p q,IsPair h TO p q)∧h.IsTupleIter i1 a i∧h.IsTupleIter i2 b i) where
 mem:=by simp
 obj:=fun i h st c hc=>by
  obtain⟨s1,s2,⟨p,q,s3⟩,⟨o4,s4,c4,d4⟩,⟨o5,s5,c5,d5⟩⟩:=st;simp only[AN,BN,EC]at hc;obtain rfl|rfl|rfl|rfl|rfl:=hc
  ·exact⟨_,s1,fun v y=>by cases y⟩
  ·exact⟨_,s2,fun v y=>by cases y⟩
  ·exact⟨_,s3,fun v y=>by cases y⟩
  ·exact⟨o4,s4,fun v y=>by rw[d4]at y;cases y⟩
  ·exact⟨o5,s5,fun v y=>by rw[d5]at y;cases y⟩
 keep:=fun i h h' st k=>by
  obtain⟨s1,s2,⟨p,q,s3⟩,⟨o4,s4,r4⟩,⟨o5,s5,r5⟩⟩:=st;exact⟨k z (by simp) _ s1,k TI (by simp) _ s2,⟨p,q,k TO (by simp) _ s3⟩,⟨o4,k i1 (by simp) _ s4,r4⟩,⟨o5,k i2 (by simp) _ s5,r5⟩⟩
 item:=by
  intro X hP hw hK hc i pins s σ H E I hf st hg;subst hP hw hK;obtain⟨xs,ys,x,y,qa,qb,hx,hy⟩:=hg;obtain⟨s1,s2,⟨p,q,s3⟩,s4,s5⟩:=st;obtain⟨ia,ra,ta,za⟩:=I.tuple qa;obtain⟨ib,rb,tb,zb⟩:=I.tuple qb;obtain⟨u,hu,ru⟩:=ra.get hx;obtain⟨v,hv,rv⟩:=rb.get hy;refine yY D s1 s2 s3 s4 s5 ta tb (x:=u) (y:=v) (by simpa using hu) (by simpa using hv) fun h' a1 a2 a3 a4 a5 a6=>?_;refine⟨_,rfl,wpAny_letOwnedTupleGo_zip (s:={s with heap:=h'}) a1 fun h2 b1 hs2=>?_⟩;have hs2':Heap.SameBut z h' h2:=hs2;have neT:∀c o,s.heap.get? c=some o→s.heap.objs.size≠c:=fun c o e=>DJ (AL e);have fz:=hf z (by simp);have fO:=hf TO (by simp);have f1:=hf i1 (by simp);have f2:=hf i2 (by simp);have I1:Inv X pins σ H {s with heap:=h2,toks:=s.toks}:=by
   have nit:∀(c:Addr),c∈[z,TO,i1,i2]→H c=none:=fun c hc=>by
    simp only[AN,BN,EC]at hc;obtain rfl|rfl|rfl|rfl:=hc
    ·exact fz.1
    ·exact fO.1
    ·exact f1.1
    ·exact f2.1
   have kp:∀c o,c∉[z,TO,i1,i2]→s.heap.get? c=some o→h2.get? c=some o:=fun c o hc e=>by
    simp only[AN,BN,EC,not_or]at hc;exact hs2'.extBut _ _ hc.1 (a6 c o hc.1 hc.2.1 hc.2.2.1 hc.2.2.2 e)
   refine I.step (g':=s.gens) (d':=s.drawn) (ch:=[z,TO,i1,i2]) (fun c hc=>?_) (fun c o _ _ hc e _=>kp c o hc e) (fun c o _ _ hc e _=>⟨o.slots,kp c o hc e⟩) (fun _ _ _ _ n=>n) (fun c o hc e=>⟨o,kp c o hc e⟩) (fun _ _ e=>e) (fun _ _ _ e=>e) (fun c ps e=>⟨#[],by rw[e];simp⟩) (fun m hm=>?_) (fun c o e=>?_) I.bare
   ·simp only[AN,BN,EC]at hc;obtain rfl|rfl|rfl|rfl:=hc
    ·exact⟨fz.2.2.2.1,fz.2.1,fz.2.2.2.2.1,fz.2.2.2.2.2⟩
    ·exact⟨fO.2.2.2.1,fO.2.1,fO.2.2.2.2.1,fO.2.2.2.2.2⟩
    ·exact⟨f1.2.2.2.1,f1.2.1,f1.2.2.2.2.1,f1.2.2.2.2.2⟩
    ·exact⟨f2.2.2.2.1,f2.2.1,f2.2.2.2.2.1,f2.2.2.2.2.2⟩
   ·obtain⟨o,es,ep,ho,r⟩:=hm;refine⟨o,es,ep,kp _ o ?_ ho,r⟩;simp only[AN,BN,EC,not_or];exact⟨BU fz.2.1,BU fO.2.1,BU f1.2.1,BU f2.2.1⟩
   ·refine(I.hok c o e).stay (fun d o' hd e'=>kp d o' (fun hm=>?_) e') (fun _ e'=>e') fun _ _ e'=>e';have hn:=nit d hm;obtain rfl|hd:=hd
    ·rw[hn]at e;cases e
    ·rw[hn]at hd;cases hd
  have hnT:H s.heap.objs.size=none:=I.hok.fresh (AU _);have eT:h2.get? s.heap.objs.size=some {cls:=.type "tuple",data:=.seq #[u,v]}:=hs2'.extBut _ _ (neT z _ s1) a5;have I2:Inv X pins σ (upd H s.heap.objs.size (.tup [x,y])) {s with heap:=h2,toks:=s.toks}:=by
   have ne:∀c o,H c=some o→c≠s.heap.objs.size:=fun c o e=>bO e hnT;have hpin:∀p∈X.pn++pins,p.1≠s.heap.objs.size:=fun p hp=>BC (AL (I.pin p hp).1);refine Inv.step (s:={s with heap:=h2,toks:=s.toks}) (g':=s.gens) (d':=s.drawn) (t':=s.toks) (h':=h2) (ch:=[s.heap.objs.size]) I1 (fun c hc=>?_) (fun c o _ _ _ e _=>e) (fun c o _ _ _ e _=>⟨o.slots,e⟩) (fun c o hc e n=>?_) (fun c o _ e=>⟨o,e⟩)
    (fun c xs e=>by rw[aT (ne c _ e)];exact e) (fun c o u e=>by rw[aT (ne c _ e)];exact e) (fun c ps e=>⟨#[],by rw[aT (ne c _ e),e];simp⟩) (fun m hm=>hm) (fun c o e=>?_) I1.bare
   ·have e:c=s.heap.objs.size:=by simpa using hc
    subst e;exact⟨.inr I.sz,DJ I.lt,fun x c h=>(fun z=>by obtain⟨v,o,ho,_⟩:=I.cell x c h;rw[z]at ho;exact absurd (AL ho) (EE _)),hpin⟩
   ·rw[aT (by simpa using hc)];exact n
   ·by_cases hb:c=s.heap.objs.size
    ·subst hb;rw[bY]at e;cases e;exact⟨by show 2≤sizeLine;rw[DV];decide,[u,v],.cons ru (.cons rv .nil),⟨_,eT,rfl,_,rfl⟩⟩
    ·rw[aT hb]at e;exact(I1.hok c o e).stay (fun _ _ _ q=>q) (fun d q=>by rw[aT (ne d _ q)];exact q) fun d xs q=>by rw[aT (ne d _ q)];exact q
  refine⟨.ref s.heap.objs.size,_,I2,rfl,⟨_,rfl,hnT,fun xs' ys' qa' qb'=>⟨x,y,?_,?_,rfl⟩⟩,⟨b1,hs2'.extBut _ _ D.TIz (a6 TI _ D.TIz D.TITO D.TIi1 D.TIi2 s2),⟨u,v,hs2'.extBut _ _ D.TOz a2⟩,bA a3 hs2'.extBut D.i1z,bA a4 hs2'.extBut D.i2z⟩,fun c hc=>?_⟩
  ·rw[I.tuple_inj qa' qa];exact hx
  ·rw[I.tuple_inj qb' qb];exact hy
  ·have hcn:=(hf c hc).1;have hc':∃o,s.heap.get? c=some o:=by
    obtain⟨o4,t4,_⟩:=s4;obtain⟨o5,t5,_⟩:=s5;simp only[AN,BN,EC]at hc;obtain rfl|rfl|rfl|rfl|rfl:=hc
    ·exact⟨_,s1⟩
    ·exact⟨_,s2⟩
    ·exact⟨_,s3⟩
    ·exact⟨_,t4⟩
    ·exact⟨_,t5⟩
   obtain⟨o,ho⟩:=hc';rw[aT (BU (neT c o ho))];exact hcn
 done:=by
  intro X hP hw hK hc i pins s σ H E I hf st hg;subst hP hw hK;obtain⟨xs,ys,qa,qb,hend⟩:=hg;obtain⟨s1,s2,⟨p,q,s3⟩,s4,s5⟩:=st;obtain⟨ia,ra,ta,za⟩:=I.tuple qa;obtain⟨ib,rb,tb,zb⟩:=I.tuple qb;have l1:=ra.length;have l2:=rb.length;refine rH (I.ok.hd hc) D s1 s2 s3 s4 s5 ta tb (by
   obtain h|h:=hend
   ·left;simp;omega
   ·right;simp;omega) fun h2 a6=>⟨rfl,?_⟩
  have fz:=hf z (by simp);have fO:=hf TO (by simp);have f1:=hf i1 (by simp);have f2:=hf i2 (by simp);have nit:∀(c:Addr),c∈[z,TO,i1,i2]→H c=none:=fun c hc=>by
   simp only[AN,BN,EC]at hc;obtain rfl|rfl|rfl|rfl:=hc
   ·exact fz.1
   ·exact fO.1
   ·exact f1.1
   ·exact f2.1
  have kp:∀c o,c∉[z,TO,i1,i2]→s.heap.get? c=some o→h2.get? c=some o:=fun c o hc e=>by
   simp only[AN,BN,EC,not_or]at hc;exact a6 c o hc.1 hc.2.1 hc.2.2.1 hc.2.2.2 e
  refine I.step (g':=s.gens) (d':=s.drawn) (t':=s.toks) (ch:=[z,TO,i1,i2]) (fun c hc=>?_) (fun c o _ _ hc e _=>kp c o hc e) (fun c o _ _ hc e _=>⟨o.slots,kp c o hc e⟩) (fun _ _ _ _ n=>n) (fun c o hc e=>⟨o,kp c o hc e⟩) (fun _ _ e=>e) (fun _ _ _ e=>e) (fun c ps e=>⟨#[],by rw[e];simp⟩) (fun m hm=>?_) (fun c o e=>?_) I.bare
  ·simp only[AN,BN,EC]at hc;obtain rfl|rfl|rfl|rfl:=hc
   ·exact⟨fz.2.2.2.1,fz.2.1,fz.2.2.2.2.1,fz.2.2.2.2.2⟩
   ·exact⟨fO.2.2.2.1,fO.2.1,fO.2.2.2.2.1,fO.2.2.2.2.2⟩
   ·exact⟨f1.2.2.2.1,f1.2.1,f1.2.2.2.2.1,f1.2.2.2.2.2⟩
   ·exact⟨f2.2.2.2.1,f2.2.1,f2.2.2.2.2.1,f2.2.2.2.2.2⟩
  ·obtain⟨o,es,ep,ho,r⟩:=hm;refine⟨o,es,ep,kp _ o ?_ ho,r⟩;simp only[AN,BN,EC,not_or];exact⟨BU fz.2.1,BU fO.2.1,BU f1.2.1,BU f2.2.1⟩
  ·refine(I.hok c o e).stay (fun d o' hd e'=>kp d o' (fun hm=>?_) e') (fun _ e'=>e') fun _ _ e'=>e';have hn:=nit d hm;obtain rfl|hd:=hd
   ·rw[hn]at e;cases e
   ·rw[hn]at hd;cases hd
 self:=fun A i s Q E st h=>wpAny_pyIter_zip st.1 h
section
variable{X:Cx}{own:List Nat}{e a b c o i tg:Expr}{es elts:List Expr}{pos p2 p tp:Pos}{f fa fb fc fe:Ac→Option D}{n1:Nat}
theorem b1g{ta:TA}(hg:Gl X "zip")(hm:X.mg "zip"=none)(hv:bootBuiltins "zip"=some (.type "zip"))(ha:PA X [a,b] ta)(hs:starEach [a,b] X.env=(false,eval a X.env)::starEach [b] X.env:=by rfl)(hpl:(backTo pos (starEach [b] X.env)).any (·.1)=false:=by rfl):
  PI X (.Tuple elts n1 tp) (.Call (.Name "zip" p) [a,b] [] pos) (fun σ H R=>ta σ H fun vs H1=>∃x y xs ys,vs=[.ref x,.ref y]∧Eb X.K H1 x xs∧Eb X.K H1 y ys∧R (Vn X.K x y) H1):=by
 intro pins s σ H R I h;refine Call_ (iG I hg hm hv (FE (bX (ha pos pins s σ H _ I h) fun us s1 ⟨vs,H1,I1,r1,q1⟩=>?_) hs hpl));obtain⟨x,y,xs,ys,rfl,qx,qy,q⟩:=q1;obtain⟨u,u',rfl,ru,ru'⟩:=vR r1;cases ru;cases ru';obtain⟨ia,ra,ta',za⟩:=I1.tuple qx;obtain⟨ib,rb,tb',zb⟩:=I1.tuple qy;have lx:x<s1.heap.objs.size:=by obtain⟨ob,eo,_⟩:=ta';exact AL eo
 have ly:y<s1.heap.objs.size:=by obtain⟨ob,eo,_⟩:=tb';exact AL eo
 refine b0c ta' tb' fun h' a1 a2 a3 a4 a5 a6=>?_;refine wpAny_pyIter_zip a1 ?_;have I2:Inv X pins σ H1 {s1 with heap:=h',toks:=s1.toks}:=I1.kept (t':=s1.toks) a6;have D:ZipApart (s1.heap.objs.size+4) (s1.heap.objs.size+2) (s1.heap.objs.size+3) s1.heap.objs.size (s1.heap.objs.size+1) x y:=by
  constructor<;>(intro z;have z':@Eq Nat _ _:=z;have l1:@LT.lt Nat _ x _:=lx;have l2:@LT.lt Nat _ y _:=ly;omega)
 refine⟨_,_,_,Vn X.K x y,H1,rfl,I2,a2r D,⟨a1,a2,⟨_,_,a3⟩,a4,a5⟩,fun c hc=>?_,q⟩;have hle:s1.heap.objs.size≤c:=by
  simp only[AN,BN,EC]at hc;obtain rfl|rfl|rfl|rfl|rfl:=hc<;>omega
 exact I1.fpOk hle (I1.hok.fresh hle)
def Gk:List D→List D→List D
 |x::xs,y::ys=>.tup [x,y]::Gk xs ys
 |_,_=>[]
def Sv(fa fb:Ac→Option D):Ac→Option (List D):=fun ρ=>(fa ρ).bind fun x=>(fb ρ).bind fun y=>match x,y with|.tup xs,.tup ys=>some (Gk xs ys)|_,_=>none
theorem vQ:∀(xs ys:List D) (n:Nat) (d:D),(Gk xs ys)[n]?=some d→∃x y,xs[n]?=some x∧ys[n]?=some y∧d=.tup [x,y]
 |[],_,n,d,h=>by simp[Gk]at h
 |_::_,[],n,d,h=>by simp[Gk]at h
 |x::xs,y::ys,0,d,h=>by
  simp[Gk]at h;exact⟨x,y,rfl,rfl,h.symm⟩
 |x::xs,y::ys,n+1,d,h=>by
  obtain⟨u,v,h1,h2,h3⟩:=vQ xs ys n d (by simpa[Gk]using h);exact⟨u,v,by simpa using h1,by simpa using h2,h3⟩
theorem vP:∀(xs ys:List D),xs.length≤(Gk xs ys).length∨ys.length≤(Gk xs ys).length
 |[],ys=>.inl (DK _)
 |_::_,[]=>.inr (DK _)
 |x::xs,y::ys=>by
  obtain h|h:=vP xs ys
  ·left;simp[Gk];exact h
  ·right;simp[Gk];exact h
theorem b2p{K:W.Frag}{G1:Hp}{es:List D}(qa:Eb K G1 x vs)(qb:Eb K G1 y ws)(ra:At K G1 ds vs)(rb:At K G1 es ws):Qp K (Vn K x y) (Gk ds es) G1:=by
 intro n G' H' s1 s2;have qa':Eb K H' x vs:=aZ s2 (aZ s1 qa);have qb':Eb K H' y ws:=aZ s2 (aZ s1 qb);refine⟨fun d hd=>?_,fun hn=>⟨vs,ws,qa',qb',?_⟩⟩
 ·obtain⟨u,v,h1,h2,rfl⟩:=vQ ds es n d hd;obtain⟨v1,g1,r1⟩:=eM ra h1;obtain⟨v2,g2,r2⟩:=eM rb h2;refine⟨⟨vs,ws,v1,v2,qa',qb',g1,g2⟩,fun x' H'' hy=>?_⟩;obtain⟨T,rfl,hT,hh⟩:=hy;obtain⟨x1,y1,e1,e2,rfl⟩:=hh vs ws qa' qb';rw[g1]at e1;rw[g2]at e2;cases e1;cases e2;exact⟨_,Cr.laid s2 hT,dZ (s2.free hT) (At.cons (r1.mono s1) (At.cons (r2.mono s1) At.nil))⟩
 ·rw[hn,←aF ra,←aF rb];exact vP ds es
theorem b7d(hg:Gl X "zip")(hm:X.mg "zip"=none)(hv:bootBuiltins "zip"=some (.type "zip"))(ha:DE X own a fa)(hb:DE X own b fb)(hs:starEach [a,b] X.env=(false,eval a X.env)::starEach [b] X.env:=by rfl)
  (hs2:starEach [b] X.env=(false,eval b X.env)::starEach [] X.env:=by rfl)(hpl:(backTo pos (starEach [b] X.env)).any (·.1)=false:=by rfl):DI X own (.Tuple elts n1 tp) (.Call (.Name "zip" p) [a,b] [] pos) (Sv fa fb):=
 xS (b1g hg hm hv (bR ha.ok (bR hb.ok dD hs2) hs) hs hpl) fun σ G H R ρ ds er e k=>by
  obtain⟨x,e1,e⟩:=AA.mp e;obtain⟨y,e2,e⟩:=AA.mp e;cases x with
  |tup xs=>
   cases y with
   |tup ys=>
    cases e;refine⟨G,ρ,_,er,e1,fun v G1 H1 s1 r1=>⟨G1,ρ,_,er.grow s1,e2,fun w G2 H2 s2 r2=>?_⟩⟩;obtain⟨p,vs,rfl,q,rr⟩:=aX (r1.mono s2.g);obtain⟨p',ws,rfl,q',rr'⟩:=aX r2;exact⟨p,p',vs,ws,rfl,aZ s2.sub q,aZ s2.sub q',k _ G2 H2 (s1.trans s2) (b2p q q' rr rr')⟩
   |_=>cases e
  |_=>cases e
end
end DL
namespace DL
open PySem PySem.Spec PyProof.Rows L2
def Bm:D→D→Option D:=Bg Ka fun i j=>.int (i*j)
theorem lZ{K:W.Frag}:Fz K (rI Qi fun i j=>.int (i*j)) Bm:=b5s
def Av:D→D→Option D:=Bg (fun _ j=>decide (0<j)) fun i j=>.int (i%j)
theorem cB{K:W.Frag}:Fz K (rI (fun _ j=>0<j) fun i j=>.int (i%j)) Av:=b5t
def As:D→D→Option D:=Bg (fun _ j=>decide (0<j)&&decide (j<1073741824)) fun i j=>.int (i / j)
theorem jC{K:W.Frag}:Fz K (rI Tb fun i j=>.int (i / j)) As:=b1x
def Bu:D→D→Option D:=Bg (fun i j=>decide (0≤j)&&decide (j≤1000000)&&decide (i.natAbs<2 ^ 64)) fun i j=>.int (i ^ j.toNat)
theorem b5o{K:W.Frag}:Fz K (rI Ta fun i j=>.int (i ^ j.toNat)) Bu:=b5r
def De:D→D→Option D:=Au fun i j=>.bl (decide (i<j))
theorem a7f{K:W.Frag}:Fz K (Mo fun i j=>.bl (decide (i<j))) De:=b8p
def Dg:D→D→Option D:=Au fun i j=>.bl (decide (j<i))
theorem b8k{K:W.Frag}:Fz K (Mo fun i j=>.bl (decide (j<i))) Dg:=b8q
def Di:D→D→Option D:=Au fun i j=>.bl (decide (j≤i))
theorem b8l{K:W.Frag}:Fz K (Mo fun i j=>.bl (decide (j≤i))) Di:=b8r
section
variable{X:Cx}{own:List Nat}{pos p2:Pos}
theorem gZ:Es X (compareOp .LtE) (fun x y H Q=>Mo (fun i j=>.bl (decide (i≤j))) x y H Q∨∃i j,x=.str i∧y=.str j∧Q (.bl (Ju i j)) H):=b8g.or a3n
def Co:D→D→Option D
 |.int i,.int j=>some (.bl (decide (i≤j)))
 |.str x,.str y=>some (.bl (Ju x y))
 |_,_=>none
theorem hJ{K:W.Frag}:Fz K (fun x y H Q=>Mo (fun i j=>.bl (decide (i≤j))) x y H Q∨∃i j,x=.str i∧y=.str j∧Q (.bl (Ju i j)) H) Co:=by
 intro x y dx dy d G H Q sub rx ry e k;unfold Co at e;split at e
 ·cases aU rx;cases aU ry;cases e;exact .inl ⟨_,_,rfl,rfl,k _ G H (Cr.refl sub) Bf.bl⟩
 ·cases aP rx;cases aP ry;cases e;exact .inr ⟨_,_,rfl,rfl,k _ G H (Cr.refl sub) Bf.bl⟩
 ·cases e
def Dd:D→D→Option D
 |.int i,.int j=>some (.bl (!(i==j)))
 |.str x,.str y=>some (.bl (!(x==y)))
 |_,_=>none
theorem sH{K:W.Frag}:Fz K Wv Dd:=by
 intro x y dx dy d G H Q sub rx ry e k;unfold Dd at e;split at e
 ·cases aU rx;cases aU ry;cases e;refine⟨rfl,?_⟩;rw[a2h];exact k _ G H (Cr.refl sub) Bf.bl
 ·cases aP rx;cases aP ry;cases e;refine⟨rfl,?_⟩;rw[a2g];exact k _ G H (Cr.refl sub) Bf.bl
 ·cases e
theorem fS{x:Str}{i:Int}(hm:∃t,X.mg x=some (.int i t))(hg:Gl X x)(hd:(x==("__debug__":Str))=false:=by decide):DE X own (.Name x pos) (fC (.int i)):=by
 obtain⟨t,ht⟩:=hm;exact b3o hg ht hd
end
theorem bS{X:Cx}{scope sc:Scope}(h:X.env.scope=sc)(hd:∀y∈scope.names,y.2=.free→(sc.names.lookup y.1=some .cell∨sc.names.lookup y.1=some .free)):
  ∀y∈scope.names,y.2=.free→(X.env.kindOf y.1=some .cell∨X.env.kindOf y.1=some .free):=fun y hy hf=>by
 unfold Env.kindOf;rw[h];exact hd y hy hf
section
variable{X:Cx}{own:List Nat}{a b c:Expr}{pos p2:Pos}{fa fb fc:Ac→Option D}
theorem a9h{op op':CmpOp}{r r':R2}{g g':D→D→Option D}(ho:Es X (compareOp op) r)(hg:Fz X.K r g)(ho':Es X (compareOp op') r')(hg':Fz X.K r' g')(ha:DE X own a fa)(hb:DE X own b fb)(hc:DE X own c fc)
  (hm:lastMarks [op,op'] [b,c]=false:=by with_unfolding_all rfl):DT X own (.Compare a [op,op'] [b,c] pos) (fT (Ai g g' fa fb fc)):=
 qN (a6f ho ho' ha.ok hb.ok hc.ok hm) fun σ G H Q ρ d er e k=>by
  have e:=gH e;obtain⟨x,e1,e⟩:=AA.mp e;obtain⟨y,e2,e⟩:=AA.mp e;obtain⟨z,e3,e⟩:=AA.mp e;refine⟨G,ρ,x,er,e1,fun v G1 H1 s1 r1=>⟨G1,ρ,y,er.grow s1,e2,fun w G2 H2 s2 r2=>hg s2.sub (r1.mono s2.g) r2 e3 fun t G3 H3 s3 r3=>?_⟩⟩;have s13:=s1.trans (s2.trans s3);cases z with
  |bl bb=>
   cases bU r3;refine⟨bb,rfl,?_⟩;cases bb with
   |true=>
    obtain⟨u,e4,e⟩:=AA.mp e;refine nW ⟨G3,ρ,u,er.grow s13,e4,fun q G4 H4 s4 r4=>hg' s4.sub ((r2.mono s3.g).mono s4.g) r4 e fun v G5 H5 s5 r5=>?_⟩;cases bU r5;exact⟨d,rfl,k G5 H5 (s13.trans (s4.trans s5))⟩
   |false=>
    cases e;exact nX ⟨false,rfl,k G3 H3 s13⟩
  |_=>cases e
theorem a4o{x:Str}{tab:List (Str×D)}(hd:Nt X x tab)(hg:Gl X x)(ha:DE X own a fa)(hm:behindInMarks .NotIn (.Name x p2)=false:=by rfl)(hdb:(x==("__debug__":Str))=false:=by decide):DT X own (.Compare a [.NotIn] [.Name x p2] pos) (fT (Pd tab true fa)):=by
 obtain⟨ad,kvs,vs,hmg,hsys,hdo,rel,hn,hs⟩:=hd.ex;refine qN (t:=fun σ H Q=>tD X.K own fa σ H fun v H1=>∃y,v=.str y∧Q (!(Ih kvs (Sum.inr y)).isSome) H1) (fun pins s σ H Q I h=>?_) fun σ G H Q ρ d er e k=>?_
 ·refine GM (bX (ha.ok pins s σ H _ I h) fun v s1 ⟨y,H1,I1,r1,z,hz,q1⟩=>eJ I1 hg hmg ?_ hdb) hm;subst hz;refine wpAny_notIn_of (knd:=mixKind X.prog X.w) (k:=Sum.inr z) (a8j (k:=Sum.inr z) r1) hsys (hdo _ I1.kIn).mapOf ?_;rw[←(rel.val (Sum.inr z)).isSome_eq];exact BK ⟨H1,I1.tok _,q1⟩
 ·have e:=gH e;obtain⟨x,e1,e⟩:=AA.mp e;cases x with
  |str y=>
   cases e;refine⟨G,ρ,_,er,e1,fun v G1 H1 s1 r1=>?_⟩;cases aP r1;refine⟨y,rfl,?_⟩;have hb:(Ih kvs (Sum.inr y)).isSome=(tab.lookup y).isSome:=by
    cases ht:tab.lookup y with
    |none=>rw[(hn y).mpr ht];rfl
    |some d=>obtain⟨v,hv,_⟩:=hs y d ht;rw[hv];rfl
   rw[hb];exact k G1 H1 s1
  |_=>cases e
end
theorem dH:bootBuiltins "len"=some (.builtin "len"):=by decide+kernel
theorem b7r:bootBuiltins "abs"=some (.builtin "abs"):=by decide+kernel
theorem b7q:bootBuiltins "ord"=some (.builtin "ord"):=by decide+kernel
theorem a0l:bootBuiltins "all"=some (.builtin "all"):=by decide+kernel
theorem bI:bootBuiltins "isinstance"=some (.builtin "isinstance"):=by decide+kernel
theorem b0d:bootBuiltins "int"=some (.type "int"):=by decide+kernel
theorem b3x:bootBuiltins "bool"=some (.type "bool"):=by decide+kernel
theorem qZ:bootBuiltins "str"=some (.type "str"):=by decide+kernel
theorem dB:bootBuiltins "tuple"=some (.type "tuple"):=by decide+kernel
theorem b7p:bootBuiltins "zip"=some (.type "zip"):=by decide+kernel
def Hg(K:W.Frag)(mg:Str→Option Value)(x:Str)(st:Stmt)(ps:List Str):Prop:=∃fad fd,Sj K x x st fad fd∧Ev K fd ps []∧mg x=some (.ref fad)
def Az(N:List Str)(n:Nat)(q:Ac→Option Fl)(ds:List D):Option D:=if ds.length=n then(match q (ds.map some++List.replicate (N.length - ds.length) none)with|some (.rt d)=>some d|some (.nx _)=>some .non|none=>none)else none
theorem cC{K:W.Frag}{mg:Str→Option Value}{st:Stmt}{ps:List Str}{k:Nat}{own':List Nat}{q:Ac→Option Fl}(h:Hg K mg x st ps)(S:Bi N ps (Ag st))
  (hb:∀{fad:Addr} {cdv:Value} {A:Around} {outer:List Env} {s:Shared} {H:Hp} {E:XK},Cc k (A.deeper (envOfC x (Ag st) s.heap.objs.size fad cdv))→Qh (Gd Oa P w K mg base N x (Ag st) fad cdv A outer s H E).nox [] own' (Dr st) q):
  Ok P w K mg base (k+1) x ps (Az N ps.length q):=by
 obtain⟨fad,fd,F,B,m⟩:=h;refine⟨fad,fd,b7e F S (fun cdv A outer s H E hr=>hb hr) (fun ds d hl e=>?_),B,m,F.kp⟩;unfold Az at e;rw[AS hl]at e;split at e
 ·cases e;left;assumption
 ·cases e;right;exact⟨_,by assumption,rfl⟩
 ·cases e
def Uo:Const→Option D
 |.int i=>some (.int i)
 |.str i=>some (.str i)
 |.bool i=>some (.bl i)
 |.none=>some .non
 |_=>none
mutual
def Of:Nat→Expr→Option D
 |0,_=>none
 |n+1,e=>match e with
  |.Constant c _ _=>Uo c
  |.Tuple es _ _=>(Oe n es).bind fun ds=>if ds.length≤1000 then some (.tup ds)else none
  |.List es _=>(Oe n es).bind fun ds=>if ds.length≤1000 then some (.lst ds)else none
  |_=>none
def Oe:Nat→List Expr→Option (List D)
 |0,_=>none
 |n+1,[]=>some []
 |n+1,e::es=>(Of n e).bind fun d=>(Oe n es).bind fun ds=>some (d::ds)
end
section
variable{X:Cx}{own:List Nat}
theorem a8f{n:Nat}(h:Of n e=some d):starEach (e::es) X.env=(false,eval e X.env)::starEach es X.env:=by
 cases n with
 |zero=>unfold Of at h;cases h
 |succ n=>
  cases e<;>first|rfl|(simp[Of]at h;done)
mutual
theorem eE:∀{n:Nat} {e:Expr} {d:D},Of n e=some d→DE X own e (fC d)
 |0,e,d,h=>by unfold Of at h;cases h
 |n+1,e,d,h=>by
  unfold Of at h;split at h
  ·unfold Uo at h;split at h
   ·cases h;exact aC
   ·cases h;exact aW
   ·cases h;exact gN
   ·cases h;exact cV
   ·cases h
  ·obtain⟨ds,e1,e2⟩:=AA.mp h;split at e2
   ·rename_i hl;cases e2;refine cD (cU (a0e e1)).ok fun σ G H Q ρ d er e k=>?_;cases e;refine⟨G,ρ,_,er,?_,k⟩;show(Option.some ds).bind _=_;simp[hl]
   ·cases e2
  ·obtain⟨ds,e1,e2⟩:=AA.mp h;split at e2
   ·rename_i hl;cases e2;refine cD (mQ (a0e e1)).ok fun σ G H Q ρ d er e k=>?_;cases e;refine⟨G,ρ,_,er,?_,k⟩;show(Option.some ds).bind _=_;simp[hl]
   ·cases e2
  ·cases h
theorem a0e:∀{n:Nat} {es:List Expr} {ds:List D},Oe n es=some ds→DA X own es (fun _=>some ds)
 |0,e,d,h=>by unfold Oe at h;cases h
 |n+1,[],d,h=>by
  unfold Oe at h;cases h;exact aE
 |n+1,e::es,d,h=>by
  unfold Oe at h;obtain⟨d1,e1,h⟩:=AA.mp h;obtain⟨ds,e2,h⟩:=AA.mp h;cases h;exact a9r (aB (eE e1) (a0e e2) (a8f e1)).ok fun σ G H Q ρ d er e k=>⟨G,ρ,_,er,e,k⟩
end
end
end DL
namespace DL
open PySem PySem.Spec PyProof.Rows L2
section
variable{P:Program}{w:World}{K:W.Frag}{mg:Str→Option Value}{h:Heap}
theorem bH{st:Stmt}{ps:List Str}{od an:Option Addr}{osl:Array (Option Value)}{kV:Value}(X:K.In h)(G:h.Ns mainGlobals mg)
  (a:W.nsIn K mainGlobals x=some (some (.ref f)))(l:K.lookup f=some ⟨oc,od,.func (W.fnOf x x (Fi st) (Dr st) (Ag st) .none kV doc pm an cdv ct),osl⟩)
  (c:W.codeIn K cdv x=true)(k:W.keepIn K (.ref f)=true)
  (b:∀(kV doc pm:Value) (an:Option Addr) (cdv ct:Value) (us:List Value),us.length=ps.length→bindArgs (W.fnOf x x (Fi st) (Dr st) (Ag st) .none kV doc pm an cdv ct) ⟨us,[]⟩=pure (ps.zip us)):Hg K mg x st ps:=
 ⟨f,_,a0b l c k,(a0b l c k).binds b,W.mg_of X G a⟩
def Rv(K:W.Frag)(mg:Str→Option Value)(x:Str)(st:Stmt)(ps:List Str):Prop:=∃fad fd,Sj K x x st fad fd∧(∀us:List Value,us.length=ps.length→bindArgs fd ⟨us,[]⟩=pure (ps.zip us))∧mg x=some (.ref fad)
theorem b3l{st:Stmt}{ps:List Str}{od an:Option Addr}{osl:Array (Option Value)}{kV:Value}(X:K.In h)(G:h.Ns mainGlobals mg)
  (a:W.nsIn K mainGlobals x=some (some (.ref f)))(l:K.lookup f=some ⟨oc,od,.func (W.fnOf x x (Fi st) (Dr st) (Ag st) .none kV doc pm an cdv ct),osl⟩)
  (c:W.codeIn K cdv x=true)(k:W.keepIn K (.ref f)=true)
  (b:∀(kV doc pm:Value) (an:Option Addr) (cdv ct:Value) (us:List Value),us.length=ps.length→bindArgs (W.fnOf x x (Fi st) (Dr st) (Ag st) .none kV doc pm an cdv ct) ⟨us,[]⟩=pure (ps.zip us)):Rv K mg x st ps:=
 ⟨f,_,a0b l c k,b _ _ _ _ _ _,W.mg_of X G a⟩
theorem oI{i:Int}(X:K.In h)(G:h.Ns mainGlobals mg)(a:W.nsIn K mainGlobals x=some (some (.int i tk))):∃tk,mg x=some (.int i tk):=⟨tk,W.mg_of X G a⟩
theorem dC(X:K.In h)(G:h.Ns mainGlobals mg)(e:W.nsIn K mainGlobals x=some (some (.ref a))):mg x=some (.ref a):=W.mg_of X G e
theorem cN(X:K.In h)(G:h.Ns mainGlobals mg)(e:W.nsIn K mainGlobals x=some none):mg x=none:=W.mg_none_of X G e
theorem sR{K:W.Frag}{H:Hp}:∀(ns:List Int),At K H (ns.map D.int) (ns.map V.int)
 |[]=>At.nil
 |n::r=>At.cons Bf.int (sR r)
abbrev Np:=Str×Tok×Addr
def Sq(w:World)(r:Np):DictEntry:=⟨PyData.keyHash w.params r.1,.str r.1 r.2.1,.ref r.2.2⟩
def Oi(K:W.Frag):List Np→List (Str×D)→Prop
 |[],[]=>True
 |r::rs,t::ts=>r.1=t.1∧(∀H,Bf K H t.2 (V.ref r.2.2))∧Oi K rs ts
 |_,_=>False
abbrev On(rows:List Np):List (L2.Key×V):=rows.map fun r=>(Sum.inr r.1,V.ref r.2.2)
abbrev Nc(rows:List Np):List (L2.Key×Value):=rows.map fun r=>(Sum.inr r.1,Value.ref r.2.2)
theorem pA{P:Program}:∀(rows:List Np),Pairs (mixKind P w) (rows.map (Sq w)) (Nc rows)
 |[]=>.nil
 |r::rs=>.cons (iB P w r.1 r.2.1) rfl (pA rs)
theorem lW:∀{rows:List Np} {tab:List (Str×D)},Oi K rows tab→(Ih (On rows) (Sum.inr y)=none↔tab.lookup y=none)∧∀d,tab.lookup y=some d→∃v,Ih (On rows) (Sum.inr y)=some v∧∀H,Bf K H d v
 |[],[],_=>⟨⟨fun _=>rfl,fun _=>rfl⟩,fun d e=>by cases e⟩
 |[],t::ts,h=>h.elim
 |r::rs,[],h=>h.elim
 |r::rs,(x,d0)::ts,h=>by
  obtain⟨h1,h2,h3⟩:=h;have ih:=lW (y:=y) h3;have h1':r.1=x:=h1;unfold Ih at ih ⊢;simp only[AO,CV,CA];by_cases e:y=x
  ·subst e;have:decide ((Sum.inr r.1:L2.Key)=Sum.inr y)=true:=by simp[h1']
   simp only[this,beq_self_eq_true];refine⟨⟨fun z=>by simp at z,fun z=>by simp at z⟩,fun d z=>?_⟩;cases z;exact⟨_,rfl,h2⟩
  ·have e1:decide ((Sum.inr r.1:L2.Key)=Sum.inr y)=false:=by
    rw[h1'];exact AW fun z=>e (Sum.inr.inj z).symm
   have e2:(y==x)=false:=by simp[e]
   simp only[e1,e2];exact ih
theorem a1x:∀(rows:List Np),KV (On rows) (Nc rows)
 |[]=>.nil
 |r::rs=>.cons ⟨rfl,rfl⟩ (a1x rs)
theorem a8u{X:Cx}{x:Str}{ad:Addr}{rows:List Np}{tab:List (Str×D)}{ep:Nat}(hw:X.w=w)(hK:X.K=K)(hmg:X.mg=mg)(hm:mg x=some (.ref ad))(hs:(ad==sysModules)=false)(hl:K.lookup ad=some {cls:=.type "dict",data:=.dict (rows.map (Sq w)).toArray ep})
  (nd:(rows.map (·.1)).Nodup)(ht:Oi K rows tab):Nt X x tab:=by
 subst hw hK hmg;refine⟨ad,On rows,Nc rows,hm,hs,fun h hK=>⟨_,_,_,hK _ _ hl,⟨rfl,rfl,rfl⟩,rfl,?_,?_,?_⟩,a1x rows,fun y=>(lW ht).1,fun y d=>(lW ht).2 d⟩
 ·intro e he;have he':e∈rows.map (Sq X.w):=by simpa using he
  obtain⟨r,hr,rfl⟩:=CF.mp he';exact⟨Sum.inr r.1,iB _ _ r.1 r.2.1,rfl⟩
 ·simpa using pA (w:=X.w) (P:=X.prog) rows
 ·have e:(Nc rows).map (·.1)=(rows.map (·.1)).map (Sum.inr:Str→L2.Key):=by simp[Nc]
  rw[e];exact List.Pairwise.map _ (fun a b hab z=>hab (Sum.inr.inj z)) nd
theorem wH{H:Hp}:∀(fs:List Addr),At K H (fs.map D.fn) (fs.map V.ref)
 |[]=>At.nil
 |n::r=>At.cons (by unfold Bf;rfl) (wH r)
theorem rT:∀(fs:List Addr),Bw (fs.map V.ref) (fs.map Value.ref)
 |[]=>.nil
 |n::r=>.cons rfl (rT r)
theorem eA{fs:List Addr}{od:Option Addr}{n:Nat}{sl:Array (Option Value)}(l:K.lookup a=some ⟨.type "tuple",od,.seq (fs.map Value.ref).toArray n,sl⟩)(hz:fs.length≤1000)(H:Hp):Bf K H (.tup (fs.map D.fn)) (V.ref a):=
 Bf.tup (.inr ⟨_,_,n,l,rfl,rfl,by simpa using kP hz,by simpa using rT fs⟩) (wH fs)
end
end DL
namespace DL
open PySem PySem.Spec PyProof.Rows L2
section
variable{X:Cx}{own own1:List Nat}{e a b c o:Expr}{es:List Expr}{pos p2:Pos}{f fa fb fc fe:Ac→Option D}{fs fi:Ac→Option (List D)}{ft fu:Ac→Option Bool}{st:Stmt}{q1:Ac→Option Fl}
theorem yC:Ej X (.type "str") (fun xs H Q=>(∃i,xs=[.int i]∧i.natAbs.log2<1920∧Q (.str (toString i)) H)∨∃z,xs=[.str z]∧Q (.str z) H):=by
 intro pins s σ H xs us Q I r h;obtain h|⟨z,rfl,q⟩:=h
 ·exact vH pins s σ H xs us Q I r h
 ·obtain⟨u,rfl,t,rfl⟩:=gR r;exact PySem.P.str_of_str ⟨.str z,H,I,⟨_,rfl⟩,q⟩
def Kr:List D→Option D
 |[.int i]=>if i.natAbs.log2<1920 then some (.str (toString i))else none
 |[.str z]=>some (.str z)
 |_=>none
theorem a9x{K:W.Frag}:Fj K (fun xs H Q=>(∃i,xs=[.int i]∧i.natAbs.log2<1920∧Q (.str (toString i)) H)∨∃z,xs=[.str z]∧Q (.str z) H) Kr:=by
 intro vs ds d G H Q sub r e k;unfold Kr at e;split at e
 ·obtain⟨v,rfl,rv⟩:=cM r;cases aU rv;split at e
  ·rename_i hl;cases e;exact .inl ⟨_,rfl,hl,k _ G H (Cr.refl sub) Bf.str⟩
  ·cases e
 ·obtain⟨v,rfl,rv⟩:=cM r;cases aP rv;cases e;exact .inr ⟨_,rfl,k _ G H (Cr.refl sub) Bf.str⟩
 ·cases e
theorem a4s:Ej X (.type "int") (fun xs H Q=>∃z n,xs=[.str z]∧PySem.intText? z=some n∧z.length≤640∧Q (.int n) H):=by
 intro pins s σ H xs us Q I r h;obtain⟨z,n,rfl,hn,hl,q⟩:=h;obtain⟨u,rfl,t,rfl⟩:=gR r;exact W.KIN.call_text hn hl ⟨.int n,H,I.tok _,⟨_,rfl⟩,q⟩
def Ou:List D→Option D
 |[.str z]=>if z.length≤640 then(PySem.intText? z).map D.int else none
 |_=>none
theorem b3w{K:W.Frag}:Fj K (fun xs H Q=>∃z n,xs=[.str z]∧PySem.intText? z=some n∧z.length≤640∧Q (.int n) H) Ou:=by
 intro vs ds d G H Q sub r e k;unfold Ou at e;split at e
 ·obtain⟨v,rfl,rv⟩:=cM r;cases aP rv;split at e
  ·rename_i hl;obtain⟨n,e1,rfl⟩:=AF.mp e;exact⟨_,n,rfl,e1,hl,k _ G H (Cr.refl sub) Bf.int⟩
  ·cases e
 ·cases e
def Pc:D→D→Option D
 |.str i,.str j=>some (.bl (!(Builtin.Str.occurrences j i 0 j.length 1).isEmpty))
 |x,y=>Iy false x y
theorem zE:Es X (compareOp .In) (fun x y H Q=>Uj X.K false x y H Q∨∃i j,x=.str i∧y=.str j∧Q (.bl (!(Builtin.Str.occurrences j i 0 j.length 1).isEmpty)) H):=jA.or a3o
theorem zG{K:W.Frag}:Fz K (fun x y H Q=>Uj K false x y H Q∨∃i j,x=.str i∧y=.str j∧Q (.bl (!(Builtin.Str.occurrences j i 0 j.length 1).isEmpty)) H) Pc:=by
 intro x y dx dy d G H Q sub rx ry e k;unfold Pc at e;split at e
 ·cases aP rx;cases aP ry;cases e;exact .inr ⟨_,_,rfl,rfl,k _ G H (Cr.refl sub) Bf.bl⟩
 ·exact .inl (a1n sub rx ry e k)
def Ex(x y:Str)(lim:Nat):List Str:=
 if(decide (x.length<y.length)||decide (Builtin.Str.strKind x<Builtin.Str.strKind y))=true then[x]else
 if(Builtin.Str.occurrences x y 0 x.length lim).isEmpty=true then[x]else Builtin.Str.partsBetween x (Builtin.Str.occurrences x y 0 x.length lim) y.length
theorem lT:∀(l:List Str) (k:Nat),Bw (l.map V.str) (strsFrom k l)
 |[],_=>.nil
 |y::r,k=>.cons ⟨k,rfl⟩ (lT r (k+1))
theorem sI(x y:Str)(lim:Nat)(h:lim≤Ci+1):(Builtin.Str.partsBetween x (Builtin.Str.occurrences x y 0 x.length lim) y.length).length≤sizeLine:=by
 rw[length_partsBetween];have:=StrLaws.occ_length_le x y 0 x.length lim;have h2:Ci+2≤sizeLine:=by rw[DV];decide
 omega
def Qy:V→List V→Hp→VK→Prop:=fun x vs H Q=>∃(z y:Str),x=.str z∧vs=[.str y]∧(y.length==0)=false∧z.length≤Ci∧∀p,H p=none→Q (.ref p) (upd H p (.lst ((Ex z y (z.length+1)).map V.str)))
theorem sL:Vm X "str.split" Qy:=by
 intro pins s σ H x xs v us Q I rx r h;obtain⟨z,y,rfl,rfl,hy,hz,q⟩:=h;obtain⟨t,rfl⟩:=rx;obtain⟨u,rfl,t',rfl⟩:=gR r;have q':=q _ I.fresh;unfold Ex at q';cases h1:(decide (z.length<y.length)||decide (Builtin.Str.strKind z<Builtin.Str.strKind y))with
 |true=>
  rw[h1]at q';refine FW EU (FH _ _ _) EJ (HJ _ _) (meets_str_split_cannot_occur z y t t' h1) ?_;exact⟨.ref _,_,I.lnew (t':=s.toks) (ys:=[V.str z]) (its:=[.str z t]) (.cons ⟨t,rfl⟩ .nil) (by show 1≤sizeLine;rw[DV];decide),rfl,q'⟩
 |false=>
  rw[h1]at q';cases hf:(Builtin.Str.occurrences z y 0 z.length (z.length+1)).isEmpty with
  |true=>
   rw[hf]at q';refine FW EU (FH _ _ _) EJ (HJ _ _) (meets_str_split_not_found z y t t' h1 hy hf) ?_;exact⟨.ref _,_,I.lnew (t':=s.toks) (ys:=[V.str z]) (its:=[.str z t]) (.cons ⟨t,rfl⟩ .nil) (by show 1≤sizeLine;rw[DV];decide),rfl,q'⟩
  |false=>
   rw[hf]at q';have hs:=sI z y (z.length+1) (by omega);refine FW EU (FH _ _ _) EJ (HJ _ _) (meets_str_split_sep z y t t' h1 hy hf (cE hz) hs) ?_;exact⟨.ref _,_,I.lnew (ys:=(Builtin.Str.partsBetween z (Builtin.Str.occurrences z y 0 z.length (z.length+1)) y.length).map V.str) (lT _ _) (by rw[AK];exact hs),rfl,q'⟩
def Qx:V→List V→Hp→VK→Prop:=fun x vs H Q=>∃(z y:Str) (k:Int),x=.str z∧vs=[.str y,.int k]∧(y.length==0)=false∧z.length≤Ci∧0≤k∧k≤1000∧∀p,H p=none→Q (.ref p) (upd H p (.lst ((Ex z y (limitOf z k)).map V.str)))
theorem a3y:Vm X "str.split" Qx:=by
 intro pins s σ H x xs v us Q I rx r h;obtain⟨z,y,k,rfl,rfl,hy,hz,k0,k1,q⟩:=h;obtain⟨t,rfl⟩:=rx;obtain⟨u,u2,rfl,⟨t',rfl⟩,⟨t2,rfl⟩⟩:=vR r;have q':=q _ I.fresh;have hk:(decide (k< -(2 ^ 63:Int))||decide (k≥2 ^ 63))=false:=by
  rw[Bool.or_eq_false_iff,decide_eq_false_iff_not,decide_eq_false_iff_not];omega
 have hlim:limitOf z k≤Ci+1:=by
  unfold limitOf Ci at *;split<;>omega
 unfold Ex at q';cases h1:(decide (z.length<y.length)||decide (Builtin.Str.strKind z<Builtin.Str.strKind y))with
 |true=>
  rw[h1]at q';refine FW EU (FH _ _ _) EJ (HI _ _ _) (meets_str_split_max_cannot_occur z y k t t' t2 hk h1) ?_;exact⟨.ref _,_,I.lnew (t':=s.toks) (ys:=[V.str z]) (its:=[.str z t]) (.cons ⟨t,rfl⟩ .nil) (by show 1≤sizeLine;rw[DV];decide),rfl,q'⟩
 |false=>
  rw[h1]at q';cases hf:(Builtin.Str.occurrences z y 0 z.length (limitOf z k)).isEmpty with
  |true=>
   rw[hf]at q';refine FW EU (FH _ _ _) EJ (HI _ _ _) (meets_str_split_max_not_found z y k t t' t2 hk h1 hy hf) ?_;exact⟨.ref _,_,I.lnew (t':=s.toks) (ys:=[V.str z]) (its:=[.str z t]) (.cons ⟨t,rfl⟩ .nil) (by show 1≤sizeLine;rw[DV];decide),rfl,q'⟩
  |false=>
   rw[hf]at q';have hs:=sI z y (limitOf z k) hlim;refine FW EU (FH _ _ _) EJ (HI _ _ _) (meets_str_split_sep_max z y k t t' t2 hk h1 hy hf (cE hz) hs) ?_;exact⟨.ref _,_,I.lnew (ys:=(Builtin.Str.partsBetween z (Builtin.Str.occurrences z y 0 z.length (limitOf z k)) y.length).map V.str) (lT _ _) (by rw[AK];exact hs),rfl,q'⟩
def Md(l:List Str):D:=.lst (l.map D.str)
theorem iY{K:W.Frag}{H:Hp}:∀(l:List Str),At K H (l.map D.str) (l.map V.str)
 |[]=>At.nil
 |_::r=>At.cons Bf.str (iY r)
def Hh:D→D→Option D
 |.str z,.str y=>if y.length≠0∧z.length≤Ci then some (Md (Ex z y (z.length+1)))else none
 |_,_=>none
def Ew(fo fa:Ac→Option D):Ac→Option D:=fun ρ=>(fo ρ).bind fun x=>(fa ρ).bind fun y=>Hh x y
theorem mP{fo:Ac→Option D}{apos cpos:Pos}(ho:DE X own o fo)(ha:DE X own a fa)
  (hbase:attributeBase o "split" X.env (eval o X.env)=eval o X.env:=by rfl)
  (hfew:((backTo cpos (starEach [a] X.env)).all (fun x=>!x.1)&&(backToKw cpos (keywordEach [] X.env)).all (fun x=>x.1.isSome)
   &&decide ([a].length+([]:List Keyword).length+(if([]:List Keyword).isEmpty then 0 else 1)<30))=true:=by rfl)
  (hline:(apos.endLine==cpos.line)=true:=by rfl) (hs:starEach (a::[]) X.env=(false,eval a X.env)::starEach [] X.env:=by rfl) (hplain:(backTo cpos (starEach [] X.env)).any (·.1)=false:=by rfl):
  DE X own (.Call (.Attribute o "split" apos) [a] [] cpos) (Ew fo fa):=
 cD (sE DU FV FT sL ho.ok (bR ha.ok dD hs) hbase hfew hline hs hplain) fun σ G H Q ρ d er e k=>by
  obtain⟨x,e1,e⟩:=AA.mp e;obtain⟨y,e2,e⟩:=AA.mp e;unfold Hh at e;split at e
  ·split at e
   ·rename_i hl;cases e;refine⟨G,ρ,_,er,e1,fun v G1 H1 s1 r1=>?_⟩;cases aP r1;refine⟨rfl,G1,ρ,_,er.grow s1,e2,fun w G2 H2 s2 r2=>?_⟩;cases aP r2;exact⟨_,_,rfl,rfl,by simpa using hl.1,hl.2,fun p hp=>k _ _ _ ((s1.trans s2).trans (Cr.laid s2.sub hp)) (bP (s2.sub.free hp) (iY _))⟩
   ·cases e
  ·cases e
def Ki:D→D→D→Option D
 |.str z,.str y,.int k=>if y.length≠0∧z.length≤Ci∧0≤k∧k≤1000 then some (Md (Ex z y (limitOf z k)))else none
 |_,_,_=>none
def Ov(fo fa fb:Ac→Option D):Ac→Option D:=fun ρ=>(fo ρ).bind fun x=>(fa ρ).bind fun y=>(fb ρ).bind fun z=>Ki x y z
theorem a4p{fo:Ac→Option D}{apos cpos:Pos}(ho:DE X own o fo)(ha:DE X own a fa)(hb:DE X own b fb)
  (hbase:attributeBase o "split" X.env (eval o X.env)=eval o X.env:=by rfl)
  (hfew:((backTo cpos (starEach [a,b] X.env)).all (fun x=>!x.1)&&(backToKw cpos (keywordEach [] X.env)).all (fun x=>x.1.isSome)
   &&decide ([a,b].length+([]:List Keyword).length+(if([]:List Keyword).isEmpty then 0 else 1)<30))=true:=by rfl)
  (hline:(apos.endLine==cpos.line)=true:=by rfl) (hs:starEach (a::[b]) X.env=(false,eval a X.env)::starEach [b] X.env:=by rfl) (hs2:starEach (b::[]) X.env=(false,eval b X.env)::starEach [] X.env:=by rfl) (hplain:(backTo cpos (starEach [b] X.env)).any (·.1)=false:=by rfl):
  DE X own (.Call (.Attribute o "split" apos) [a,b] [] cpos) (Ov fo fa fb):=
 cD (sE DU FV FT a3y ho.ok (bR ha.ok (bR hb.ok dD hs2) hs) hbase hfew hline hs hplain) fun σ G H Q ρ d er e k=>by
  obtain⟨x,e1,e⟩:=AA.mp e;obtain⟨y,e2,e⟩:=AA.mp e;obtain⟨z,e3,e⟩:=AA.mp e;unfold Ki at e;split at e
  ·split at e
   ·rename_i hl;cases e;refine⟨G,ρ,_,er,e1,fun v G1 H1 s1 r1=>?_⟩;cases aP r1;refine⟨rfl,G1,ρ,_,er.grow s1,e2,fun w G2 H2 s2 r2=>?_⟩;cases aP r2;refine⟨G2,ρ,_,er.grow (s1.trans s2),e3,fun w G3 H3 s3 r3=>?_⟩;cases aU r3;exact⟨_,_,_,rfl,rfl,by simpa using hl.1,hl.2.1,hl.2.2.1,hl.2.2.2,fun p hp=>k _ _ _ ((s1.trans (s2.trans s3)).trans (Cr.laid s3.sub hp)) (bP (s3.sub.free hp) (iY _))⟩
   ·cases e
  ·cases e
end
end DL
namespace XS
open PySem
abbrev frA(l:List Env):List Addr:=l.filterMap (·.frame)
structure Kp(bad fr:List Addr)(h h':Heap):Prop where
 old:∀b o,b∉bad→b∉fr→h.get? b=some o→h'.get? b=some o
 frm:∀b o,b∈fr→h.get? b=some o→∃sl,h'.get? b=some {o with slots:=sl}
 thr:∀b o,h.get? b=some o→∃o',h'.get? b=some o'
 sz:h.objs.size≤h'.objs.size
theorem Kp.refl(bad fr:List Addr)(h:Heap):Kp bad fr h h:=⟨fun _ _ _ _ e=>e,fun _ o _ e=>⟨o.slots,e⟩,fun _ o e=>⟨o,e⟩,AU _⟩
theorem Kp.trans{bad fr:List Addr}(a:Kp bad fr h1 h2)(b:Kp bad fr h2 h3):Kp bad fr h1 h3:=
 ⟨fun x o l m e=>b.old x o l m (a.old x o l m e),fun x o m e=>by
  obtain⟨sl,e1⟩:=a.frm x o m e;obtain⟨sl2,e2⟩:=b.frm x _ m e1;exact⟨sl2,e2⟩,fun x o e=>let⟨o1,e1⟩:=a.thr x o e;b.thr x o1 e1,BG a.sz b.sz⟩
theorem Kp.weak{bad bad' fr:List Addr}(a:Kp bad fr h h')(hb:∀b∈bad,b∈bad'):Kp bad' fr h h':=⟨fun x o l m e=>a.old x o (fun z=>l (hb x z)) m e,a.frm,a.thr,a.sz⟩
theorem Kp.skip{bad bad' fr:List Addr}{h1:Heap}(a:Kp bad fr h1 h2)(b:Kp bad' fr h2 h3)(hb:∀x∈bad',x∈bad∨h1.get? x=none):Kp bad fr h1 h3:=
 ⟨fun x o l m e=>b.old x o (fun z=>(hb x z).elim l fun q=>by rw[q]at e;cases e) m (a.old x o l m e),fun x o m e=>by
  obtain⟨sl,e1⟩:=a.frm x o m e;obtain⟨sl2,e2⟩:=b.frm x _ m e1;exact⟨sl2,e2⟩,fun x o e=>let⟨o1,e1⟩:=a.thr x o e;b.thr x o1 e1,BG a.sz b.sz⟩
structure XN(n:Heap)(h:Heap)(e:Addr)(cls:Value):Prop where
 new:n.get? e=none
 ex:∃oe vs,h.get? e=some oe∧oe.cls=cls∧oe.data=.fields vs∧vs[1]?=some .none
structure XF(n:Heap)(h:Heap)(e T:Addr)(cls fl:Value):Prop where
 new:n.get? e=none
 ex:∃oe vs oT ts,h.get? e=some oe∧oe.cls=cls∧oe.data=.fields vs∧vs[1]?=some (.ref T)∧n.get? T=none∧T≠e∧h.get? T=some oT∧oT.data=.fields ts∧ts[3]?=some fl
section
variable{M:Model}{A:Around}{E:Value→Shared→Prop}{s:Shared}{base:Heap}{env:Env}{outer:List Env}{L e:Addr}{n:Heap}{cls fl:Value}{Q:Unit→Shared→Prop}
theorem a8v(hl:s.heap.FunFrames base (env::outer))(hn:∀b∈frA (env::outer),∃o,n.get? b=some o)(he:n.get? e=none):e∉frA (env::outer):=fun hm=>by obtain⟨o,q⟩:=hn e hm;rw[he]at q;cases q
theorem b4f{oe:Obj}{vs:Array Value}{hadNext:Bool}(hfr:A.frames=some (env::outer))(hl:s.heap.FunFrames base (env::outer))(hf:env.frame=some L)(hn:∀b∈frA (env::outer),∃o,n.get? b=some o)(hns:∀b,s.heap.objs.size≤b→n.get? b=none)
  (hne:n.get? e=none)(he:s.heap.get? e=some oe)(hc:oe.cls=cls)(hd:oe.data=.fields vs)(hsz:1<vs.size)
  (k:∀h' T,s.heap.objs.size≤T→XF n h' e T cls (rawInt L)→Kp [e] (frA (env::outer)) s.heap h'→h'.FunFrames base (env::outer)→Q () {s with heap:=h'}):
  wpAny M A (do setField (.ref e) 1 (←EntryCells.newEntry head (←frameOf env) .none (rawInt L) .none (←entryPlaceOf L hadNext))) Q E s:=by
 have hef:=a8v (s:=s) hl hn hne;refine AB (wpAny_frameOf_fun hfr hl hf fun h1 so=>?_);refine AB (wpAny_entryPlaceOf fun pl hpl=>?_);unfold EntryCells.newEntry newFields;refine AB (CC ?_ (hpl.sizeOk5 _ _ _ _ _));have e1:h1.get? e=some oe:=(so.2.1 e hef).trans he;have eT:e<h1.objs.size:=AL e1;generalize hob:({cls:=.type "traceback",dict:=none,data:=.fields ([head,.ref L,.none,rawInt L,.none]++(if pl.isEmpty then List.replicate 6 Value.none else pl)).toArray}:Obj)=ob;have hobd:ob.data=.fields ([head,.ref L,.none,rawInt L,.none]++(if pl.isEmpty then List.replicate 6 Value.none else pl)).toArray:=by rw[←hob]
 have hobf:ob.isFreed=false:=CO hobd;have e2:(h1.push ob).get? e=some oe:=AD _ e1;refine EN e2 hd hsz ?_;have d3:=DD hd (·.setIfInBounds 1 (Value.ref h1.objs.size));have e3:=BW (Obj.mapFields (·.setIfInBounds 1 (Value.ref h1.objs.size))) e2 (CO d3);have oth:∀b o,b≠e→h1.get? b=some o→((h1.push ob).update e (Obj.mapFields (·.setIfInBounds 1 (Value.ref h1.objs.size)))).get? b=some o:=fun b o hb eb=>by
  rw[CB _ _ (BU hb)];exact AD _ eb
 have tT:((h1.push ob).update e (Obj.mapFields (·.setIfInBounds 1 (Value.ref h1.objs.size)))).get? h1.objs.size=some ob:=by
  rw[CB _ _ (BC eT)];exact BA _ hobf
 have s1:s.heap.objs.size=h1.objs.size:=so.1.symm;refine k _ h1.objs.size (by rw[s1];exact AU _) ⟨hne,_,_,ob,_,e3,(Obj.cls_mapFields _ _).trans hc,d3,by simp[hsz],hns _ (by omega),DJ eT,tT,hobd,?_⟩ ⟨fun b o hb hbf eb=>?_,fun b o hb eb=>?_,fun b o eb=>?_,by rw[CW,EB,s1];exact HG _⟩ (hl.of_keeps fun b o eb hnf=>?_)
 ·obtain rfl|⟨_,_,_,_,_,_,_,rfl⟩:=hpl<;>simp
 ·refine oth b o (fun z=>hb (by simp[z])) ?_;rw[so.2.1 b hbf];exact eb
 ·obtain⟨sl,eb'⟩:=so.2.2 b o eb;exact⟨sl,oth b _ (fun z=>hef (z▸hb)) eb'⟩
 ·obtain⟨sl,eb'⟩:=so.2.2 b o eb;by_cases hbe:b=e
  ·subst hbe;exact⟨_,e3⟩
  ·exact⟨_,oth b _ hbe eb'⟩
 ·obtain⟨sl,eb'⟩:=so.2.2 b o eb;exact⟨_,oth b _ (fun z=>by subst z;rw[he]at eb;cases eb;exact hnf _ hd) eb',rfl⟩
theorem pL(hfr:A.frames=some (env::outer))(hl:s.heap.FunFrames base (env::outer))(hf:env.frame=some L)(hn:∀b∈frA (env::outer),∃o,n.get? b=some o)(hns:∀b,s.heap.objs.size≤b→n.get? b=none)(x:XN n s.heap e cls)
  (k:∀h' T,s.heap.objs.size≤T→XF n h' e T cls (rawInt L)→Kp [e] (frA (env::outer)) s.heap h'→h'.FunFrames base (env::outer)→Q () {s with heap:=h'}):wpAny M A (noteFrame (.ref e) env) Q E s:=by
 obtain⟨hne,oe,vs,he,hc,hd,h1⟩:=x;unfold noteFrame;simp only[hf];refine AB (BI he hd h1 ?_);rw[AR (show¬((Value.none != Value.none)=true)by decide)];exact b4f hfr hl hf hn hns hne he hc hd (BX.mp h1).1 k
variable{T:Addr}
theorem sK(hfr:A.frames=some (env::outer))(hl:s.heap.FunFrames base (env::outer))(hf:env.frame=some L)(hn:∀b∈frA (env::outer),∃o,n.get? b=some o)(hns:∀b,s.heap.objs.size≤b→n.get? b=none)(x:XF n s.heap e T cls fl)(hfl:fl≠rawInt L)
  (k:∀h' T',s.heap.objs.size≤T'→XF n h' e T' cls (rawInt L)→Kp [e,T] (frA (env::outer)) s.heap h'→h'.FunFrames base (env::outer)→Q () {s with heap:=h'}):wpAny M A (noteFrame (.ref e) env) Q E s:=by
 obtain⟨hne,oe,vs,oT,ts,he,hc,hd,h1,hT,hTe,ht,hdT,h3⟩:=x;unfold noteFrame;simp only[hf];refine AB (BI he hd h1 ?_);rw[AS (show(Value.ref T != Value.none)=true by simp)];refine AB (BI ht hdT h3 ?_);rw[AR (show¬((fl==rawInt L)=true)by simpa using hfl)];refine AB (EN ht hdT (BX.mp h3).1 ?_);have oth:∀b,b≠T→(s.heap.update T (Obj.mapFields (·.setIfInBounds 3 Value.none))).get? b=s.heap.get? b:=fun b hb=>CB _ _ (BU hb);have hTf:T∉frA (env::outer):=a8v (s:=s) hl hn hT;have kp:Kp [e,T] (frA (env::outer)) s.heap (s.heap.update T (Obj.mapFields (·.setIfInBounds 3 Value.none))):=
  ⟨fun b o hb _ eb=>by rw[oth b (fun z=>hb (by simp[z]))];exact eb,fun b o hb eb=>⟨o.slots,by rw[oth b (fun z=>hTf (z▸hb))];exact eb⟩,fun b o eb=>by
   by_cases hb:b=T
   ·subst hb;exact⟨_,BW _ ht (CO (DD hdT _))⟩
   ·exact⟨o,by rw[oth b hb];exact eb⟩,FF (CW ..).symm⟩
 have hl':(s.heap.update T (Obj.mapFields (·.setIfInBounds 3 Value.none))).FunFrames base (env::outer):=hl.of_keeps fun b o eb hnf=>⟨o,by
  rw[oth b (fun z=>by subst z;rw[ht]at eb;cases eb;exact hnf _ hdT)];exact eb,rfl⟩
 have hz:(s.heap.update T (Obj.mapFields (·.setIfInBounds 3 Value.none))).objs.size=s.heap.objs.size:=CW ..;refine b4f (s:={s with heap:=s.heap.update T (Obj.mapFields (·.setIfInBounds 3 Value.none))}) hfr hl' hf hn (by rw[hz];exact hns) hne ((oth e (BU hTe)).trans he) hc hd (BX.mp h1).1 fun h' T' a0 a1 a2 a3=>k h' T' (by rw[←hz];exact a0) a1 (kp.trans (a2.weak (by simp))) a3
theorem sJ(hf:env.frame=some L)(x:XF n s.heap e T cls (rawInt L))(k:Q () s):wpAny M A (noteFrame (.ref e) env) Q E s:=by
 obtain⟨hne,oe,vs,oT,ts,he,hc,hd,h1,hT,hTe,ht,hdT,h3⟩:=x;unfold noteFrame;simp only[hf];refine AB (BI he hd h1 ?_);rw[AS (show(Value.ref T != Value.none)=true by simp)];refine AB (BI ht hdT h3 ?_);rw[AS (show(rawInt L==rawInt L)=true by simp)];exact AG k
theorem gG{fo:Option Addr}{l:List Env}(hl:s.heap.FunFrames base l)(hn:∀b∈frA l,∃o,n.get? b=some o)(x:XF n s.heap e T cls fl)
  (k:∀h',XF n h' e T cls (fo.elim Value.none fun f=>rawInt f)→Kp [T] (frA l) s.heap h'→h'.FunFrames base l→h'.objs.size=s.heap.objs.size→Q () {s with heap:=h'}):wpAny M A (setFlight (.ref e) fo) Q E s:=by
 obtain⟨hne,oe,vs,oT,ts,he,hc,hd,h1,hT,hTe,ht,hdT,h3⟩:=x;have hsz:=(BX.mp h3).1;unfold setFlight;refine AB (BI he hd h1 ?_);rw[AS (show(Value.ref T != Value.none)=true by simp)];have oth:∀b,b≠T→(s.heap.update T (Obj.mapFields (·.setIfInBounds 3 (fo.elim Value.none fun f=>rawInt f)))).get? b=s.heap.get? b:=fun b hb=>CB _ _ (BU hb);have hTf:T∉frA l:=fun hm=>by obtain⟨o,q⟩:=hn T hm;rw[hT]at q;cases q
 have self:=BW (Obj.mapFields (·.setIfInBounds 3 (fo.elim Value.none fun f=>rawInt f))) ht (CO (DD hdT _));refine EN ht hdT hsz (k _ ⟨hne,oe,vs,_,_,(oth e (BU hTe)).trans he,hc,hd,h1,hT,hTe,self,DD hdT _,by simp[hsz]⟩
  ⟨fun b o hb _ eb=>by rw[oth b (fun z=>hb (by simp[z]))];exact eb,fun b o hb eb=>⟨o.slots,by rw[oth b (fun z=>hTf (z▸hb))];exact eb⟩,fun b o eb=>by
   by_cases hb:b=T
   ·subst hb;exact⟨_,self⟩
   ·exact⟨o,by rw[oth b hb];exact eb⟩,FF (CW ..).symm⟩
  (hl.of_keeps fun b o eb hnf=>⟨o,by rw[oth b (fun z=>by subst z;rw[ht]at eb;cases eb;exact hnf _ hdT)];exact eb,rfl⟩) (CW ..))
inductive XS(n:Heap)(h:Heap)(e:Addr)(cls:Value)(L:Addr):List Addr→Prop
 |new:XN n h e cls→XS n h e cls L [e]
 |on {T:Addr} {fl:Value}:XF n h e T cls fl→XS n h e cls L [e,T]
theorem b9g{bad:List Addr}(hfr:A.frames=some (env::outer))(hl:s.heap.FunFrames base (env::outer))(hf:env.frame=some L)(hn:∀b∈frA (env::outer),∃o,n.get? b=some o)(hns:∀b,s.heap.objs.size≤b→n.get? b=none)(x:XS n s.heap e cls L bad)
  (k:∀h' T,(T∈bad∨s.heap.objs.size≤T)→XF n h' e T cls .none→Kp bad (frA (env::outer)) s.heap h'→h'.FunFrames base (env::outer)→Q () {s with heap:=h'}):wpAny M A (leaving env (.ref e)) Q E s:=by
 have nolt:∀{T:Addr},s.heap.objs.size≤T→s.heap.get? T=none:=fun{T} hT=>by
  cases q:s.heap.get? T with
  |none=>rfl
  |some o=>exact absurd (AL q) (Nat.not_lt.mpr hT)
 unfold leaving;cases x with
 |new x=>
  refine AB (pL hfr hl hf hn hns x fun h1 T a0 a1 a2 a3=>?_);exact gG (s:={s with heap:=h1}) (fo:=none) a3 hn a1 fun h2 b1 b2 b3 b4=>k h2 T (.inr a0) b1 (a2.skip b2 (by intro x hx;simp at hx;subst hx;exact .inr (nolt a0))) b3
 |@on T fl x=>
  by_cases hfl:fl=rawInt L
  ·subst hfl;refine AB (sJ hf x ?_);exact gG (fo:=none) hl hn x fun h2 b1 b2 b3 b4=>k h2 _ (.inl (by simp)) b1 (b2.weak (by simp)) b3
  ·refine AB (sK hfr hl hf hn hns x hfl fun h1 T a0 a1 a2 a3=>?_);exact gG (s:={s with heap:=h1}) (fo:=none) a3 hn a1 fun h2 b1 b2 b3 b4=>k h2 T (.inr a0) b1 (a2.skip b2 (by intro x hx;simp at hx;subst hx;exact .inr (nolt a0))) b3
end
end XS
namespace XS
open PySem PySem.Spec PyProof.Rows L2
def Rm(base:Heap)(P:Program)(w:World):Mu:=fun outer H s E e s'=>∃(a T:Addr) (cls:Value) (H':Hp),e=.ref a∧s'.os=s.os∧AllBare s'.gens∧Un (frs outer) [] H H' s.heap s'.heap∧Hf P w H' s'.heap∧
 XF s.heap s'.heap a T cls .none∧H' a=none∧H' T=none∧s'.heap.FunFrames base outer∧E cls none H'
def Lo(m n:Heap):Prop:=∀b,n.get? b=none→m.get? b=none
def In(n h:Heap):Prop:=∀b,h.objs.size≤b→n.get? b=none
theorem Lo.in{n:Heap}(l:Lo n h):In n h:=fun b z=>l b (Heap.get?_none_of_le z)
theorem In.on{n h h':Heap}(i:In n h)(k:h.objs.size≤h'.objs.size):In n h':=fun b z=>i b (BG k z)
theorem Lo.of{h h':Heap}(k:∀b o,h.get? b=some o→∃o',h'.get? b=some o'):Lo h h':=fun b z=>by
 cases y:h.get? b with
 |none=>rfl
 |some o=>obtain⟨o',e⟩:=k b o y;rw[z]at e;cases e
theorem XF.low{n:Heap}(x:XF n h e T cls fl)(l:Lo m n):XF m h e T cls fl:=by
 obtain⟨hne,oe,vs,oT,ts,he,hc,hd,h1,hT,r⟩:=x;exact⟨l _ hne,oe,vs,oT,ts,he,hc,hd,h1,l _ hT,r⟩
theorem XS.ge{n:Heap}{bad:List Addr}(x:XS n h e cls L bad):∀b∈bad,n.get? b=none:=by
 intro b hb;cases x with
 |new x=>simp at hb;subst hb;exact x.new
 |on x=>
  obtain⟨hne,oe,vs,oT,ts,he,hc,hd,h1,hT,r⟩:=x;simp at hb;obtain rfl|rfl:=hb
  ·exact hne
  ·exact hT
structure Nw(X:Cx)(pins:List (Addr×Obj))(n:Heap):Prop where
 s0:∀b o,b∉X.ex→X.s₀.heap.get? b=some o→∃o',n.get? b=some o'
 loc:∃o,n.get? X.env.locals=some o
 cel:∀x c,X.env.cells.lookup x=some c→∃o,n.get? c=some o
 pin:∀p∈X.pn++pins,∃o,n.get? p.1=some o
 frm:∀b∈frA X.stack,∃o,n.get? b=some o
theorem Dw.there{H:Hp}{h:Heap}{o:HO}(x:Dw P w H h a o):∃u,h.get? a=some u:=by
 cases o with
 |lst xs=>obtain⟨_,_,_,_,e⟩:=x;exact⟨_,e⟩
 |tup xs=>obtain⟨_,_,_,_,e,_⟩:=x;exact⟨_,e⟩
 |dK kvs=>obtain⟨_,_,_,_,o,_,_,e,_⟩:=x;exact⟨_,e⟩
 |dT kvs=>obtain⟨_,_,_,_,o,_,_,e,_⟩:=x;exact⟨_,e⟩
 |set S n=>obtain⟨o,_,_,_,e,_⟩:=x;exact⟨_,e⟩
 |ins C dx fs=>obtain⟨_,_,_,e,_⟩:=x;exact⟨_,e⟩
 |own y=>obtain⟨_,e⟩:=x;exact⟨_,e⟩
 |xd fs=>obtain⟨_,⟨_,_,_,e,_⟩,_⟩:=x;exact⟨_,e⟩
 |rng lo hi=>obtain⟨_,_,_,e⟩:=x;exact⟨_,e⟩
 |frz ob u=>obtain⟨e,_⟩:=x;exact⟨_,e⟩
 |tbl ps=>exact⟨_,(show h.get? a=some _ from x)⟩
 |met f y=>exact⟨_,(show h.get? a=some _ from x)⟩
 |ext φ=>obtain⟨_,⟨_,e⟩,_⟩:=x;exact⟨_,e⟩
theorem Hf.none{H:Hp}{h:Heap}(x:Hf P w H h)(e:h.get? a=none):H a=none:=by
 cases q:H a with
 |none=>rfl
 |some u=>
  obtain⟨o,ho⟩:=Dw.there (x a u q);rw[e]at ho;cases ho
section
variable{X:Cx}{pins:List (Addr×Obj)}{σ:L2.St}{H H':Hp}{s:Shared}{h':Heap}{bad:List Addr}{n:Heap}
theorem Nw.here(I:Inv X pins σ H s):Nw X pins s.heap where
 s0:=fun b o hx e=>I.base.there b o e hx
 loc:=by obtain⟨m,⟨o,_,_,ho,_⟩,_⟩:=I.loc;exact⟨o,ho⟩
 cel:=fun x c h=>by
  obtain⟨v,o,ho,_⟩:=I.cell x c h;exact⟨o,ho⟩
 pin:=fun p hp=>⟨_,(I.pin p hp).1⟩
 frm:=fun b hb=>by
  obtain⟨_,o,ho,_⟩:=I.stack.mem hb;exact⟨o,ho⟩
theorem b2x(I:Inv X pins σ H s):∀b∈frA X.stack,H b=none:=I.stkFree
theorem a9z{g':Array GenState}{t':Nat}{d':Drawn}(I:Inv X pins σ H s)(N:Nw X pins n)(u:Un (frs X.stack) bad H H' s.heap h')(hok:Hf X.prog X.w H' h')(hg:AllBare g')(hb:∀b∈bad,n.get? b=none):
  Inv X pins σ H' {s with heap:=h',gens:=g',drawn:=d',toks:=t'}:=by
 have nb:∀b∈bad,∀o,n.get? b≠some o:=fun b h o z=>by rw[hb b h]at z;cases z
 have n0:∀b∈bad,b∈X.ex∨X.s₀.heap.get? b=Option.none:=fun b h=>by
  by_cases hx:b∈X.ex
  ·exact .inl hx
  ·refine .inr ?_;cases q:X.s₀.heap.get? b with
   |none=>rfl
   |some o=>obtain⟨o',e⟩:=N.s0 b o hx q;exact absurd e (nb b h o')
 have nl:∀b∈bad,b≠X.env.locals:=fun b h z=>by subst z;obtain⟨o,e⟩:=N.loc;exact nb _ h o e
 have nc:∀b∈bad,∀x c,X.env.cells.lookup x=some c→c≠b:=fun b h x c hc z=>by subst z;obtain⟨o,e⟩:=N.cel x c hc;exact nb _ h o e
 have np:∀b∈bad,∀p∈X.pn++pins,p.1≠b:=fun b h p hp z=>by subst z;obtain⟨o,e⟩:=N.pin p hp;exact nb _ h o e
 have nf:∀b∈bad,b∉frs X.stack:=fun b h z=>by obtain⟨o,e⟩:=N.frm b z;exact nb _ h o e
 have nfs:∀b∈bad,b∉X.fs:=fun b h z=>by
  refine nf b h ?_;obtain e|⟨e,ef⟩:=I.ok.stk
  ·rw[e];exact z
  ·rw[e];simp only[frs,DM,ef];exact AC _ z
 have ok:=I.ok
 let X':Cx:={X with ex:=X.ex++bad}
 have k1:∀b∈X.ex++bad,b≠X.env.locals∧∀x c,X.env.cells.lookup x=some c→c≠b:=fun b hb'=>by
  obtain q|q:=AZ.mp hb'
  ·exact ok.exf b q
  ·exact⟨nl b q,nc b q⟩
 have k2:∀b o,X.base.get? b=some o→b∉X.ex++bad:=fun b o e z=>by
  obtain q|q:=AZ.mp z
  ·exact ok.noex b o e q
  ·obtain r|r:=n0 b q
   ·exact ok.noex b o e r
   ·rw[(ok.bs b o e).1]at r;cases r
 have k3:∀b∈X.ex++bad,b∉X.fs:=fun b hb'=>by
  obtain q|q:=AZ.mp hb'
  ·exact ok.exfs b q
  ·exact nfs b q
 have ok':X'.Ok:=⟨ok.mod,ok.kind,ok.glob,ok.blt,ok.above,ok.inj,ok.has,ok.cab,ok.hd,ok.frames,ok.stk,k1,ok.bs,ok.bsz,k2,k3,ok.funs,ok.frf⟩;have I':Inv X' pins σ H s:=⟨ok',I.os,I.bare,I.base.mono (fun _ z=>z) (fun _ z=>BE _ z),I.loc,I.cell,I.free,I.freeC,I.pin,I.hok,I.len⟩;have J':=I'.call (g':=g') (t':=t') (d':=d') (ch:=bad) u hok hg fun b h=>⟨.inl (AX _ h),nl b h,nc b h,np b h⟩;have out:∀b o,X.s₀.heap.get? b=some o→b∉X.ex→b∉X.ex++bad:=fun b o e hx z=>by
  obtain q|q:=AZ.mp z
  ·exact hx q
  ·obtain r|r:=n0 b q
   ·exact hx r
   ·rw[e]at r;cases r
 have B:=J'.base;exact⟨ok,J'.os,J'.bare,⟨fun b o e m hf hx=>B.keep b o e m hf (out b o e hx),fun b o e m hf hx=>B.slot b o e m hf (out b o e hx),fun b o e m hx=>B.free b o e m (out b o e hx),fun b o e hx=>B.there b o e (out b o e hx),B.tups,B.frzs,B.tbls⟩,
  J'.loc,J'.cell,J'.free,J'.freeC,J'.pin,J'.hok,J'.len⟩
theorem b7w(kp:Kp bad (frA X.stack) s.heap h'):Un (frs X.stack) bad H H s.heap h' where
 keep:=fun b o e _ hf hb=>kp.old b o hb hf e
 slot:=fun b o e _ hf _=>kp.frm b o hf e
 free:=fun _ _ _ n _=>n
 there:=fun b o e _=>kp.thr b o e
 tups:=fun _ _ e=>e
 frzs:=fun _ _ _ e=>e
 tbls:=fun b ps e=>⟨#[],by rw[e];simp⟩
theorem b6t(I:Inv X pins σ H s)(kp:Kp bad (frA X.stack) s.heap h')(hb:∀b∈bad,H b=none):Hf X.prog X.w H h':=fun b u e=>
 (I.hok b u e).stay (fun d o hd eo=>by
  have hd':∃u,H d=some u:=by
   obtain rfl|hd:=hd
   ·exact⟨u,e⟩
   ·exact⟨_,hd⟩
  obtain⟨v,hv⟩:=hd';exact kp.old d o (fun z=>by rw[hb d z]at hv;cases hv) (fun z=>by rw[b2x I d z]at hv;cases hv) eo) (fun _ q=>q) fun _ _ q=>q
theorem eR(I:Inv X pins σ H s)(N:Nw X pins n)(kp:Kp bad (frA X.stack) s.heap h')(hb:∀b∈bad,H b=none∧n.get? b=none):Inv X pins σ H {s with heap:=h'}:=
 a9z (g':=s.gens) (t':=s.toks) (d':=s.drawn) I N (b7w kp) (b6t I kp fun b h=>(hb b h).1) I.bare fun b h=>(hb b h).2
end
end XS
namespace XS
open PySem PySem.Spec PyProof.Rows L2
theorem b3a{h base:Heap}{outer:List Env}(x:h.FunFrames base (env::outer)):h.FunFrames base outer:=x.2.2
section
variable{P:Program}{w:World}{K:W.Frag}{mg:Str→Option Value}{base:Heap}{N:List Str}{qual:Str}{scope:Scope}{f:Addr}{cd:Value}{A:Around}{outer:List Env}{s s1:Shared}{H H1:Hp}{E E':XK}{pins:List (Addr×Obj)}{σ:L2.St}{n:Heap}{e:Addr}{cls:Value}{bad:List Addr}
theorem a8h(I:Inv (Gd (Rm base P w) P w K mg base N qual scope f cd A outer s H E) pins σ H1 s1)(Nn:Nw (Gd (Rm base P w) P w K mg base N qual scope f cd A outer s H E) pins n)(hns:In n s1.heap)
  (x:XS n s1.heap e cls s.heap.objs.size bad)(hb:∀b∈bad,H1 b=none)(q:E cls none H1):
  (Gd (Rm base P w) P w K mg base N qual scope f cd A outer s H E).xe (.ref e) s1:=by
 refine b9g (base:=base) (n:=n) I.ok.frames I.stack rfl Nn.frm hns x fun h' T hT xf kp ff=>?_;have J:=eR I Nn kp fun b h=>⟨hb b h,x.ge b h⟩;refine⟨e,T,cls,H1,rfl,J.os,J.bare,J.base,J.hok,xf.low (fun b z=>?_),?_,?_,b3a ff,q⟩
 ·cases y:s.heap.get? b with
  |none=>rfl
  |some o=>
   obtain⟨o',e'⟩:=Nn.s0 b o (fun z=>by cases z) y;rw[z]at e';cases e'
 ·cases x with
  |new _=>exact hb e (by simp)
  |on _=>exact hb e (by simp)
 ·obtain h|h:=hT
  ·exact hb T h
  ·exact I.hok.fresh h
end
def Wy:List Value:=[.type "ValueError",.type "Exception",.type "BaseException",.type "object"]
structure Vl(K:W.Frag)(N:Addr):Prop where
 mk::
 at_:∃c d es ep sl,K.lookup N=some ⟨c,d,.dict es ep,sl⟩∧(es.all fun e=>match e.key with|.str _ _=>true|_=>false)=true
 no:W.nsIn K N "__init__"=some none
def Ru(K:W.Frag)(C:Addr):Prop:=∃B N nm q bs hdct sn sub ab col dd k0 k1 k2 k3 k5 c0 d1 cd sl,K.lookup C=some (excClassObj nm q C N bs (.ref B::Wy) hdct sn sub ab col dd k0 k1 k2 k3 k5 "ValueError.__new__")∧K.lookup B=some ⟨c0,d1,.cls cd,sl⟩∧Vl K N∧Vl K cd.ns
theorem Vl.ok{K:W.Frag}{N:Addr}(n:Vl K N):W.nsOkIn K N=true:=by
 obtain⟨⟨c,d,es,ep,sl,e1,e2⟩,_⟩:=n;unfold W.nsOkIn;rw[e1];exact e2
theorem a9a{K:W.Frag}{C:Addr}{h:Heap}(X:K.In h)(q:Ru K C):∃bm N nm q bs hdct sn sub ab col dd k0 k1 k2 k3 k5 mN,h.get? C=some (excClassObj nm q C N bs bm hdct sn sub ab col dd k0 k1 k2 k3 k5 "ValueError.__new__")∧h.Ns N mN∧mN "__init__"=none∧OwnTail h Wy bm:=by
 obtain⟨B,N,nm,q,bs,hdct,sn,sub,ab,col,dd,k0,k1,k2,k3,k5,c0,d1,cd,sl,l1,l2,n1,n2⟩:=q;exact⟨_,N,nm,q,bs,hdct,sn,sub,ab,col,dd,k0,k1,k2,k3,k5,_,X _ _ l1,.of_isNs (W.isNs_of_in X n1.ok),W.nsMap_none_of_in X n1.ok n1.no,.own (X _ _ l2) (.of_isNs (W.isNs_of_in X n2.ok)) (W.nsMap_none_of_in X n2.ok n2.no) .base⟩
section
variable{X:Cx}{pins:List (Addr×Obj)}{σ:L2.St}{H:Hp}{s:Shared}{h':Heap}{e C:Addr}{cls:Value}{args:List Value}
theorem made(I:Inv X pins σ H s)(m:Heap.MadeExcOf s.heap h' e cls args):Inv X pins σ H {s with heap:=h'}∧XN s.heap h' e cls∧H e=none:=by
 refine⟨I.un (t':=s.toks) (Un.kept m.keeps) (I.hok.kept m.keeps),⟨m.new,?_⟩,Hf.none I.hok m.new⟩;obtain⟨t,ht,_⟩:=m.there;exact⟨_,_,ht,rfl,rfl,rfl⟩
theorem a6h{x:Str}{te:TE}{R:Value→Hp→Prop}(hC:Ru X.K C)(hh:X.A.handled=none)(hg:Gl X x)(hm:X.mg x=some (.ref C))(he:PE X ex te)
  (hR:∀(pins:List (Addr×Obj)) (σ:L2.St) (H:Hp) (s:Shared) (h':Heap) (e:Addr) (n:Heap),Inv X pins σ H {s with heap:=h'}→Nw X pins n→In n h'→XN n h' e (.ref C)→H e=none→R (.ref C) H→X.xe (.ref e) {s with heap:=h'})
  (hdb:(x==("__debug__":Str))=false:=by decide)(hst:starEach [ex] X.env=[(false,eval ex X.env)]:=by rfl):
  PS X (.Raise (some (.Call (.Name x np) [ex] [] cpos)) none pos) (fun _ σ H=>te σ H fun _ H1=>R (.ref C) H1):=by
 intro pins s σ H D I h;obtain⟨bm,N,nm,q,bs,hdct,sn,sub,ab,col,dd,k0,k1,k2,k3,k5,mN,c1,c2,hni,c3⟩:=a9a I.ok.mod.kin hC;refine wpAny_Raise_call_subU (C:=C) (mN:=mN) (nm:=nm) (q:=q) (N:=N) (bs:=bs) (bm:=bm) (hdct:=hdct) (sn:=sn) (sub:=sub) (ab:=ab) (col:=col) (dd:=dd) (k0:=k0) (k1:=k1) (k2:=k2) (k3:=k3) (k5:=k5) EG (by decide) EG (c3.hasType (by decide)) hh (by rw[hst];rfl) hni (eJ I hg hm ⟨rfl,?_⟩ hdb);rw[hst];show wpAny _ _ (evalArgs (.ref C) true [(false,eval ex X.env)] []) _ _ _;refine GV (HK (bX (he pins s σ H _ I h) fun u s1 ⟨v,H1,I1,r1,q1⟩=>?_));refine Calls.spliced_nil ?_;refine⟨rfl,by simp[sizeLine],I1.bk _ _ c1,c2.keeps I1.bk,c3.keeps I1.bk,fun h' e m=>?_⟩;obtain⟨J,xn,hn⟩:=made I1 m;exact hR pins σ H1 s1 h' e s1.heap J (Nw.here I1) (Lo.of fun b o y=>⟨o,m.keeps b o y⟩).in xn hn q1
end
end XS
namespace XS
open PySem PySem.Spec PyProof.Rows L2
def Fq(XE:Addr→Shared→Hp→List Addr→Value→Shared→Prop)(X:Cx)(scope:Scope)(cl:List (Str×Addr))(C:Addr)(N:List Str)(s₂:Shared)(H₂:Hp)(fp:List Addr):Cx:={He X scope cl C N s₂ H₂ fp with xe:=XE C s₂ H₂ fp}
theorem b8m{X:Cx}(f:Value→Shared→Prop)(ok:X.Ok):Cx.Ok {X with xe:=f}:=⟨ok.mod,ok.kind,ok.glob,ok.blt,ok.above,ok.inj,ok.has,ok.cab,ok.hd,ok.frames,ok.stk,ok.exf,ok.bs,ok.bsz,ok.noex,ok.exfs,ok.funs,ok.frf⟩
theorem a8p{X:Cx}{pins:List (Addr×Obj)}{σ:L2.St}{H:Hp}(f:Value→Shared→Prop)(I:Inv X pins σ H s):Inv {X with xe:=f} pins σ H s:=⟨b8m f I.ok,I.os,I.bare,I.base,I.loc,I.cell,I.free,I.freeC,I.pin,I.hok,I.len⟩
theorem XS.at{n:Heap}{e L:Addr}{cls:Value}{bad:List Addr}(x:XS n h e cls L bad):XS n h e cls L' bad:=by
 cases x with
 |new x=>exact .new x
 |on x=>exact .on x
theorem XS.mem{n:Heap}{e L:Addr}{cls:Value}{bad:List Addr}(x:XS n h e cls L bad):e∈bad:=by
 cases x<;>simp
theorem rK{e:Value}{env env':Env}(h:env'.frame=env.frame):noteFrame e env'=noteFrame e env:=by
 unfold noteFrame PySem.frameOf;rw[h]
section
variable{M:Model}{A:Around}{E:Value→Shared→Prop}{s:Shared}{base:Heap}{env:Env}{outer:List Env}{L e:Addr}{n:Heap}{cls fl:Value}{Q:Unit→Shared→Prop}{bad:List Addr}
theorem b8u(hfr:A.frames=some (env::outer))(hl:s.heap.FunFrames base (env::outer))(hf:env.frame=some L)(hn:∀b∈frA (env::outer),∃o,n.get? b=some o)(hns:∀b,s.heap.objs.size≤b→n.get? b=none)(x:XS n s.heap e cls L0 bad)
  (k:∀h' T fl,(T∈bad∨s.heap.objs.size≤T)→XF n h' e T cls fl→Kp bad (frA (env::outer)) s.heap h'→h'.FunFrames base (env::outer)→Q () {s with heap:=h'}):wpAny M A (noteFrame (.ref e) env) Q E s:=by
 cases x with
 |new x=>exact pL hfr hl hf hn hns x fun h1 T a0 a1 a2 a3=>k h1 T _ (.inr a0) a1 a2 a3
 |@on T fl x=>
  by_cases hfl:fl=rawInt L
  ·subst hfl;exact sJ hf x (k s.heap T _ (.inl (by simp)) x (Kp.refl _ _ _) hl)
  ·exact sK hfr hl hf hn hns x hfl fun h1 T a0 a1 a2 a3=>k h1 T _ (.inr a0) a1 a2 a3
theorem c0f{α:Type}{what:String}{l:List Env}{QQ:α→Shared→Prop}(hl:s.heap.FunFrames base l)(hn:∀b∈frA l,∃o,n.get? b=some o)(x:XF n s.heap e T cls fl)
  (k:∀h' fl,XF n h' e T cls fl→Kp [T] (frA l) s.heap h'→h'.FunFrames base l→E (.ref e) {s with heap:=h'}):wpAny M A (PySem.passOn what (.ref e) cenv:Sem α) QQ E s:=by
 have x':=x;obtain⟨hne,oe,vs,oT,ts,he,hc,hd,h1,hT,hTe,ht,hdT,h3⟩:=x';unfold PySem.passOn;refine AB (BI he hd h1 ?_);rw[AR (show¬((Value.ref T==Value.none)=true)by simp)];refine AB (gG (fo:=cenv.frame) hl hn x fun h2 b1 b2 b3 b4=>?_);exact wpAny_throw (k h2 _ b1 b2 b3)
end
def Lv(X:Cx)(R:Value→Hp→Prop):Prop:=∀(pins:List (Addr×Obj)) (σ:L2.St) (H:Hp) (s:Shared) (n:Heap) (a:Addr) (cls:Value) (bad:List Addr),Inv X pins σ H s→Nw X pins n→In n s.heap→XS n s.heap a cls 0 bad→(∀b∈bad,H b=none)→R cls H→X.xe (.ref a) s
theorem b9e{K:W.Frag}{mg:Str→Option Value}{base:Heap}{N:List Str}{scope:Scope}{A:Around}{outer:List Env}{s:Shared}{H:Hp}{E:XK}:
  Lv (Gd (Rm base P w) P w K mg base N qual scope f cd A outer s H E) fun cls H'=>E cls none H':=fun pins σ H1 s1 n a cls bad I Nn i x hb q=>a8h I Nn i x.at hb q
theorem b1q{X:Cx}{R:Value→Hp→Prop}{E':XK}(hX:Lv X R)(hE:∀cls H',E' cls none H'→R cls H'):Jr (Rm X.base X.prog X.w) X E':=by
 intro pins σ H s e s' I h;obtain⟨a,T,cls,H',rfl,os,bare,un,hok,xf,ha,hT,ff,q⟩:=h;obtain⟨hh,g,d,t,os'⟩:=s';obtain rfl:os'=s.os:=os;have J:=I.call (h':=hh) (g':=g) (d':=d) (t':=t) (ch:=[]) un hok bare (fun b z=>absurd z (by simp));refine hX pins σ H' _ s.heap a cls _ J (Nw.here I) (Lo.of fun b o y=>un.there b o y (by simp)).in (.on xf) (fun b hb=>?_) (hE _ _ q);simp at hb;obtain rfl|rfl:=hb
 ·exact ha
 ·exact hT
theorem a3g{X:Cx}{C:Addr}{x:Str}{te:TE}{R:Value→Hp→Prop}(hX:Lv X R)(hC:Ru X.K C)(hh:X.A.handled=none)(hg:Gl X x)(hm:X.mg x=some (.ref C))(he:PE X ex te)
  (hdb:(x==("__debug__":Str))=false:=by decide)(hst:starEach [ex] X.env=[(false,eval ex X.env)]:=by rfl):
  PS X (.Raise (some (.Call (.Name x np) [ex] [] cpos)) none pos) (fun _ σ H=>te σ H fun _ H1=>R (.ref C) H1):=
 a6h hC hh hg hm he (fun pins σ H s h' e n I N i x hn q=>hX pins σ H _ n e _ _ I N i (.new x) (fun b hb=>by simp at hb;subst hb;exact hn) q) hdb hst
def Qj(X:Cx)(scope:Scope)(cl:List (Str×Addr))(N:List Str)(R:Value→Hp→Prop)(C:Addr)(s₂:Shared)(H₂:Hp)(fp:List Addr)(e:Value)(s':Shared):Prop:=
 ∃(a:Addr) (cls:Value) (H':Hp) (σ':L2.St) (pins':List (Addr×Obj)) (n:Heap) (bad:List Addr),e=.ref a∧Inv (He X scope cl C N s₂ H₂ fp) pins' σ' H' s'∧Nw (He X scope cl C N s₂ H₂ fp) pins' n∧In n s'.heap∧XS n s'.heap a cls 0 bad∧(∀b∈bad,H' b=none)∧R cls H'
theorem b2j{X:Cx}{scope:Scope}{cl:List (Str×Addr)}{N:List Str}{R:Value→Hp→Prop}{C:Addr}{H₂:Hp}{fp:List Addr}:Lv (Fq (Qj X scope cl N R) X scope cl C N s₂ H₂ fp) R:=
 fun pins σ H s n a cls bad I Nn i x hb q=>⟨a,cls,H,σ,pins,n,bad,rfl,a8p (fun _ _=>False) I,⟨Nn.s0,Nn.loc,Nn.cel,Nn.pin,Nn.frm⟩,i,x,hb,q⟩
section
variable{X:Cx}{scope:Scope}{cl:List (Str×Addr)}{N:List Str}{R:Value→Hp→Prop}{C:Addr}{s2:Shared}{H2:Hp}{fp:List Addr}{pins pins':List (Addr×Obj)}{σ:L2.St}{n:Heap}
theorem Nw.up(I2:Inv X pins σ H2 s2)(f2:∀b∈fp,Jg X pins H2 b)(Nn:Nw (He X scope cl C N s2 H2 fp) pins' n):Nw X pins n where
 s0:=fun b o hx e=>by
  obtain⟨o',e'⟩:=I2.base.there b o e hx;refine Nn.s0 b o' (fun hb=>?_) e';obtain z|z:=(f2 b hb).2.2.2.1
  ·exact hx z
  ·exact absurd (AL e) (Nat.not_lt.mpr z)
 loc:=by
  obtain⟨m,⟨o,_,_,ho,_⟩,_⟩:=I2.loc;exact Nn.s0 _ o (fun hb=>(f2 _ hb).2.1 rfl) ho
 cel:=fun x c h=>by
  obtain⟨v,o,ho,_⟩:=I2.cell x c h;exact Nn.s0 c o (fun hb=>(f2 c hb).2.2.2.2.1 x c h rfl) ho
 pin:=fun p hp=>Nn.s0 p.1 p.2 (fun hb=>(f2 _ hb).2.2.2.2.2 p hp rfl) (I2.pin p hp).1
 frm:=Nn.frm
theorem a9w{pins:List (Addr×Obj)}{Q:Value→Shared→Prop}{D L:Addr}{e:Value}(hX:Lv X R)(hst:X.stack=X.env::X.outer)(hf:X.env.frame=some L)(hcl:Pi X scope cl)(I2:Inv X pins σ H2 s2)(f2:∀b∈fp,Jg X pins H2 b)(hC:s2.heap.objs.size≤C)
  (h:Qj X scope cl N R C s2 H2 fp e s'):notedBy (model X.prog X.w) X.A (compEnvC scope cl C X.env) (fun e s'=>compPost (model X.prog X.w) X.A X.xe none Q (.ref D) C (.error e) s') e s':=by
 obtain⟨a,cls,H',σ',pins',n,bad,rfl,I,Nn,i,x,hb,q⟩:=h;have NX:=Nn.up I2 f2;unfold notedBy;rw[rK (env:=X.env) (env':=compEnvC scope cl C X.env) rfl];have hfr:X.A.frames=some (X.env::X.outer):=by rw[←hst];exact I2.ok.frames
 have hl:s'.heap.FunFrames X.base (X.env::X.outer):=by rw[←hst];exact I.stack
 refine b8u hfr hl hf (by rw[←hst];exact NX.frm) i x fun h1 T fl a0 a1 a2 a3=>?_;rw[←hst]at a2 a3;have J:=eR I Nn a2 fun b h=>⟨hb b h,x.ge b h⟩;have hTn:H' T=none:=by
  obtain z|z:=a0
  ·exact hb T z
  ·exact I.hok.fresh z
 have IX:Inv X pins σ H' {s' with heap:=h1}:=I2.call' (ch:=fp) J.os J.base J.hok J.bare fun b hb=>by
  obtain⟨_,f1,f3,f4,f5,f6⟩:=f2 b hb;exact⟨f4,f1,f5,f6⟩
 obtain⟨m,hm,_⟩:=J.loc;refine⟨m,hm,fun h2 hs2 cenv _=>?_⟩;obtain⟨oC,hoC⟩:=Nn.loc;have neC:∀b,n.get? b=none→b≠C:=fun b z w=>by subst w;rw[show n.get? b=some oC from hoC]at z;cases z
 have lt2:∀b,b<s2.heap.objs.size→b≠C:=fun b hb=>BC (AV hb hC);have IC:Inv X pins σ H' {s' with heap:=h2}:=Inv.turned (s:={s' with heap:=h1}) (t':=s'.toks) (it:=C) IX (fun b o hb e=>(hs2.2 b hb).trans e) J.free (BU (lt2 _ I2.lt)) (.inr (BG I2.sz hC))
  (fun x c h=>lt2 c (let⟨_,_,ho,_⟩:=I2.cell x c h;AL ho)) fun p hp=>lt2 _ (AL (I2.pin p hp).1)
 have xf:XF n h2 a T cls fl:=by
  obtain⟨hne,oe,vs,oT,ts,he,hc,hd,h1',hT,hTe,ht,r⟩:=a1;exact⟨hne,oe,vs,oT,ts,(hs2.2 a (neC a hne)).trans he,hc,hd,h1',hT,hTe,(hs2.2 T (neC T hT)).trans ht,r⟩
 have i2:In n h2:=i.on (BG a2.sz (FF hs2.1.symm));refine c0f (base:=X.base) (l:=X.stack) IC.stack NX.frm xf fun h3 fl3 b1 b2 b3=>?_;have JX:=eR (bad:=[T]) IC NX b2 fun b hb=>by
  simp at hb;subst hb;exact⟨hTn,let⟨_,_,_,_,_,_,_,_,_,hT,_⟩:=b1;hT⟩
 refine hX pins σ H' _ n a cls [a,T] JX NX (i2.on b2.sz) (.on b1) (fun b hb'=>?_) q;simp at hb';obtain rfl|rfl:=hb'
 ·exact hb _ x.mem
 ·exact hTn
end
end XS
namespace WR
open PySem
open Sem (wp)
def Py(x:Code×Pos):Bool:=match x.1 with|.builtin "claim.caller" _=>true|_=>false
def Rw(Γ:Ctx):Prop:=Γ.below.any Py=true
theorem Rw.enter{Γ:Ctx}(h:Rw Γ)(c:Code)(hd:Option Value)(p:Pos):Rw (Γ.enter c hd p):=by
 show((Γ.code,p)::Γ.below).any Py=true;rw[CD,show Γ.below.any Py=true from h,Bool.or_true]
theorem Rw.goto{Γ:Ctx}(h:Rw Γ)(c:Code):Rw (Γ.goto c):=h
def wpR{α:Type}(M:Model)(A:Around)(t:Sem α)(Q:α→Shared→Prop)(E:Value→Shared→Prop)(s:Shared):Prop:=
 ∀Γ p,Γ.In A→Rw Γ→wp M Γ t (fun a _ s'=>Q a s') (fun e _ s'=>E e s') p s
def codeR(M:Model)(A:Around)(c:Code)(R:Result→Shared→Prop)(s:Shared):Prop:=
 ∀Γ p,Γ.code=c→Γ.Below A→Rw Γ→wpCode M Γ R p s
section
variable{α β:Type}{M:Model}{A:Around}{E:Value→Shared→Prop}{s:Shared}
theorem of_any{t:Sem α}{Q:α→Shared→Prop}(h:wpAny M A t Q E s):wpR M A t Q E s:=fun Γ p hΓ _=>h Γ p hΓ
theorem pure'{a:α}{Q:α→Shared→Prop}(h:Q a s):wpR M A (pure a) Q E s:=fun _ _ _ _=>h
theorem mono{t:Sem α}{Q Q':α→Shared→Prop}{E':Value→Shared→Prop}(h:wpR M A t Q E s)(hQ:∀a s,Q a s→Q' a s)(hE:∀e s,E e s→E' e s):wpR M A t Q' E' s:=
 fun Γ p hΓ hC=>DX M Γ t (fun a _ s=>hQ a s) (fun e _ s=>hE e s) p s (h Γ p hΓ hC)
theorem bind{m:Sem α}{f:α→Sem β}{Q:β→Shared→Prop}(h:wpR M A m (fun a s'=>wpR M A (f a) Q E s') E s):wpR M A (m>>=f) Q E s:=fun Γ p hΓ hC=>by
 rw[EX];exact DX M Γ m (fun a p' s' h'=>h' Γ p' hΓ hC) (fun _ _ _ h'=>h') p s (h Γ p hΓ hC)
theorem onRaise{m:Sem α}{k:Value→Sem Unit}{Q:α→Shared→Prop}(h:wpR M A m Q (fun e s'=>wpR M A (k e) (fun _ s''=>E e s'') E s') s):wpR M A (m.onRaise k) Q E s:=fun Γ p hΓ hC=>by
 rw[Sem.wp_onRaise];exact DX M Γ m (fun _ _ _ h'=>h') (fun e p' s' h'=>h' Γ p' hΓ hC) p s (h Γ p hΓ hC)
theorem attempt{m:Sem α}{Q:Except Value α→Shared→Prop}(h:wpR M A m (fun a=>Q (.ok a)) (fun e=>Q (.error e)) s):wpR M A m.attempt Q E s:=fun Γ p hΓ hC=>by rw[Sem.wp_attempt];exact h Γ p hΓ hC
theorem cT{m:Sem α}{Q:α→Shared→Prop}(h:wpR M A m Q E s):wpR M A (holding vs m) Q E s:=fun Γ p hΓ hC=>by rw[Sem.wp_holding];exact h Γ p hΓ hC
theorem vX{Q:Unit→Shared→Prop}(h:Q () s):wpR M A (standAt pos) Q E s:=fun _ _ _ _=>h
theorem a1c{tag:String}{Q:Unit→Shared→Prop}(h:Q () s):wpR M A (rule tag) Q E s:=fun _ _ _ _=>h
theorem b9x{c:Code}{h:Option Value}{Q:Flow→Shared→Prop}(hc:codeR M (A.mark h) c (fun r s'=>match r with|.ok f=>Q f s'|.error e=>E e s') s)(hnb:h≠some byPass:=by intro x;cases x):wpR M A (run c h) Q E s:=
 fun Γ p hΓ hC=>by rw[Sem.wp_run];exact hc _ p rfl (hΓ.enter c h p hnb) (hC.enter c h p)
theorem a2y{c:Code}{Q:Value→Shared→Prop}(hc:codeR M A c (fun r s'=>match r with|.ok (.ret v)=>Q v s'|.ok _=>False|.error e=>E e s') s):wpR M A (runValue c) Q E s:=
 fun Γ p hΓ hC=>by rw[Sem.wp_runValue];exact hc _ p rfl (hΓ.enter c none p (by intro x;cases x)) (hC.enter c none p)
theorem call'{kw:List (Str×Value)}{Q:Value→Shared→Prop}(hc:codeR M A (.call f ⟨pos,kw⟩) (fun r s'=>match r with|.ok (.ret v)=>Q v s'|.ok _=>False|.error e=>E e s') s):wpR M A (call f pos kw) Q E s:=a2y hc
theorem gB{c:Code}{R:Result→Shared→Prop}(h:wpR M (A.under c) (M.den c) (fun fin s'=>match fin with|.done f=>R (.ok f) s'|.again c'=>c'.quiet=true∧codeR M A c' R s') (fun e s'=>R (.error e) s') s):codeR M A c R s:=fun Γ p hc hΓ hC=>by
 rw[wpCode_iff_wp,hc];refine DX M Γ _ (fun fin p' s' h'=>?_) (fun _ _ _ h'=>h') p s (h Γ p (hc▸hΓ.in) hC);cases fin with
 |done f=>exact h'
 |again c'=>exact⟨h'.1,h'.2 (Γ.goto c') p' rfl (hΓ.goto c') (hC.goto c')⟩
theorem loop{c:Code}{R:Result→Shared→Prop}(hq:c.quiet=true)(I:Nat→Shared→Prop)
  (turn:∀n s,I n s→wpR M (A.under c) (M.den c) (fun fin s'=>match fin with|.done f=>R (.ok f) s'|.again c'=>c'=c∧∃m,m<n∧I m s') (fun e s'=>R (.error e) s') s)
  (n:Nat)(h:I n s):codeR M A c R s:=by
 induction n using Nat.strongRecOn generalizing s with
 |ind n ih=>
  refine gB (mono (turn n s h) (fun fin s' hf=>?_) fun _ _ h'=>h');cases fin with
  |done f=>exact hf
  |again c'=>obtain⟨rfl,m,hm,hI⟩:=hf;exact⟨hq,ih m hm hI⟩
theorem code_mono{c:Code}{R R':Result→Shared→Prop}(h:codeR M A c R s)(hR:∀r s,R r s→R' r s):codeR M A c R' s:=fun Γ p hc hΓ hC=>wpCode_mono hR (h Γ p hc hΓ hC)
theorem zV{own:List String}{Q:Unit→Shared→Prop}(h:Q () s):wpR M A (markTheRefusal own e) Q E s:=by
 unfold markTheRefusal;refine bind (fun Γ p hΓ hC=>?_);show wpR M A _ Q E s;have hn:pythonCodeMadeTheCall own (((Γ.code,p)::Γ.below).map (·.1))=false:=by
  unfold pythonCodeMadeTheCall;have:((((Γ.code,p)::Γ.below).map (·.1)).any fun(c:Code)=>match c with|.builtin "claim.caller" _=>true|_=>false)=true:=by
   rw[List.any_map,CD];exact Bool.or_eq_true_iff.mpr (.inr hC)
  refine Bool.and_eq_false_iff.mpr (.inl (Bool.and_eq_false_iff.mpr (.inl ?_)));rw[Bool.not_eq_false'];exact this
 rw[AR (by rw[hn];decide)];exact pure' h
end
end WR
namespace WR
open PySem PySem.W PySem.Calls PyProof.Rows
open Sem (wp)
abbrev Γc:Ctx:=⟨.builtin "claim.caller" {},none,none,[],none⟩
theorem a4u(c:Code)(hd:Option Value)(p:Pos):Rw (Γc.enter c hd p):=rfl
theorem a5f{M:Model}{R:Result→Shared→Prop}(hr:∀fl s',R (.ok fl) s'→∃v,fl=.ret v)
  (h:codeR M callerA (.call f ⟨vs,[]⟩) R s)(p:Pos):wp M Γc (PySem.call f vs) (fun v _ s'=>R (.ok (.ret v)) s') (fun e _ s'=>R (.error e) s') p s:=by
 show wp M Γc (runValue (.call f ⟨vs,[]⟩)) _ _ p s;rw[Sem.wp_runValue];refine wpCode_mono (fun r s' g=>?_) (h _ p rfl (caller_in.enter _ none p (by intro x;cases x)) (a4u _ _ _));obtain e|fl:=r
 ·exact g
 ·obtain⟨v,rfl⟩:=hr fl s' g;exact g
theorem a4t{c:ClaimW}{tree:List Value→Sem PySem.Fin}{w:World}{s:Shared}{free:Addr→Prop}{gens:Prop}{kept:Heap→Prop}(hz:s.asleep)(hgens:s.gens=#[])
  (hspec:∀args,c.pre args=true→WData.layableAll args=true→∀ord:List DictEntry→List DictEntry,(∀l,(ord l).Perm l)→
   ∃vs s₁,layAllW c.records (classAt s.heap) w.params ord args s=some (vs,s₁)∧
    wp (model c.prog w) Γc (tree vs) (fun fin _ s'=>∃f,fin=.done f∧(c.Ends s args vs s₁ (.ok f) s'∧s'.os=s.os∧AllBare s'.gens∧kept s'.heap))
     (fun e _ s'=>c.Ends s args vs s₁ (.error e) s'∧s'.os=s.os∧AllBare s'.gens∧kept s'.heap) default s₁):
  c.CallFrom (fun vs=>⟨tree vs,.builtin "claim.caller" {},default,[]⟩) w free gens kept s:=by
 intro args hpre hlay ord hord;obtain⟨vs,s₁,hlaid,hcode⟩:=hspec args hpre hlay ord hord;have hal:=layAllW_rest _ _ _ hlaid;obtain⟨k,r,s'',s',hsched,hrun,hfo,hcase,hos,hkp⟩:=wp_halts_full (M:=model c.prog w) (R:=fun r s'=>c.Ends s args vs s₁ r s'∧s'.os=s.os∧kept s'.heap)
  (Shared.asleep_of_life hal.2.2.2 hz) (DX _ Γc (tree vs) (fun fin p s' h=>(by
   obtain⟨f,rfl,h1,h2,h3,h4⟩:=h;exact(⟨⟨h1,h2,h4⟩,leftWithCleanup_false_of_bare h3⟩:(c.Ends s args vs s₁ (.ok f) s'∧s'.os=s.os∧kept s'.heap)∧leftWithCleanup s'.gens=false))) (fun e p s' h=>⟨⟨h.1,h.2.1,h.2.2.2⟩,leftWithCleanup_false_of_bare h.2.2.1⟩) default s₁ hcode)
 obtain⟨eh,_,_,eo,_⟩:=Shared.forget_eq hfo;have hcase:=hcase.congr eh;rw[←eh]at hkp;rw[←eo]at hos;have hlife:=(runN_life _ _ _ hrun).trans hal.2.2.2;refine⟨vs,s₁,hlaid,k,_,s',hsched,?_,(fun _ i x hx=>by rw[hgens]at hx;simp at hx),hkp,by rw[hlife],Shared.rest_eq hos⟩;obtain⟨v,rfl,d1,d2,d3,d4,d5⟩|⟨e,ob,cls,rfl,d1,d2,d3,d4,d5⟩:=hcase
 ·exact .inl ⟨v,rfl,d1,d2,d3,fun b o y _=>d4 b o y,d5⟩
 ·exact .inr ⟨e,ob,cls,rfl,d1,d2,d3,d4,fun b o y _=>d5 b o y⟩
abbrev WalkR(q:Program)(loose:List Str)(XP:(Str→Option Value)→Heap→Prop)(YP:World→Heap→Prop)(r:RowW)(d:DefRec)(kwd:List (Str×Expr)):Prop:=
 ∀(w:World) (s₀ s₁:Shared) (mg mb:Str→Option Value),Ground q loose r.records XP w s₀ mg mb s₁.heap→YP w s₁.heap→∀(a:Addr) (o:Obj) (pm cd doc dV kV:Value),s₁.heap.get? a=some o→
  o.data=.func {docDef d.name d.params d.body d.scope pm cd doc with defaults:=dV,kwdefaults:=kV}→s₁.heap.CodeRec cd d.name→Dflts mg s₁.heap d.params kwd dV kV→mg d.name=some (.ref a)→s₁.gens=#[]→
  ∀(args:List WData) (vals:List Value) (as:List Addr),r.claim.pre args=true→WData.layableAll args=true→ReadsAllW r.records (classAt s₀.heap) s₁.heap vals args as→WellAll w.params s₁.heap vals args→(∀a∈as,(a==sysModules)=false)→
   codeR (model r.prog w) callerA (.call (.ref a) ⟨vals,[]⟩) (GoodWG r.claim (classAt s₀.heap) (ExcName.means s₀.heap) args s₁) s₁
theorem a8r{c:ClaimW}{cl:Str→Option Addr}{mean:ExcName→Option Value}{args:List WData}(fl:Flow)(s':Shared)(g:GoodWG c cl mean args s₁ (.ok fl) s'):∃v,fl=.ret v:=by
 obtain⟨v,_,_,e,_⟩|⟨e,_,_,h,_⟩:=g.1
 ·cases e;exact⟨v,rfl⟩
 ·cases h
theorem holds_openR{r:OpenRow}{Xt:Shared→Bool}{XP:(Str→Option Value)→Heap→Prop}{α:Type}{Yf:Shared→α}{Ya:World→α}{YP:World→Heap→Prop}{d:DefRec}{kwd:List (Str×Expr)}{N:Nat}
  (left:LeftO r.prog q loose Xt Yf Ya N)(hY:∀w s,Yf s=Ya w→YP w s.heap)(hYk:∀w h h',YP w h→(∀b o,h.get? b=some o→h'.get? b=some o)→YP w h')
  (hX:∀s,Xt s=true→XP (s.heap.nsMap mainGlobals) s.heap)(hXk:∀mg h h',XP mg h→(∀b o,h.get? b=some o→h'.get? b=some o)→XP mg h')
  (hdef:defOf q r.name=some (d,kwd))(hp:r.prog.theDef r.name=some (d.params,d.body,d.scope))(hk:kwWritten? d.params.kwonlyargs d.params.kw_defaults=some kwd)(hRf:∀s,Xt s=true→RecFacts r.records s.heap)(hwr:(!r.writes||r.records.isEmpty)=true)
  (k1:r.wellSaid=true)(ok:(chainsOk q&&opensWell r.prog&&(frees r.toRowW&&r.within.isEmpty))=true)(hb:r.prog.bare)(hw:r.toRowW.promised)
  (call:WalkR q loose XP YP r.toRowW d kwd):r.Holds:=by
 refine⟨k1,hw,?_⟩;obtain⟨ok,k5⟩:=GI.mp ok;obtain⟨hch,o1⟩:=GI.mp ok;obtain⟨k5,k6⟩:=GI.mp k5;obtain⟨hsame,hu,ha,hap,hm⟩:=frees_parts k5;refine⟨⟨hb,o1,by show r.toRowW.makers.map _=[];rw[hm];rfl⟩,hw.witness,fun w=>⟨(left.behind hX hch w).1,fun s' hs'=>?_⟩⟩;obtain⟨s₀,hf,hg0,s,hT,hz,hgens,hg,G00,y⟩:=(left.behind (XP:=fun mg h=>XP mg h∧RecFacts r.records h) (fun s hs=>⟨hX s hs,hRf s hs⟩) hch w).2 s' hs';have G0:Ground q loose [] XP w s (s.heap.nsMap mainGlobals) (s.heap.nsMap builtinsNs) s.heap:=⟨G00.T,G00.B,G00.D,G00.TE,G00.TD,G00.W,G00.X.1,G00.cls,G00.has,G00.apart,G00.once,G00.K⟩;have RF:=G00.X.2;have hT':=hT;refine⟨s₀,hf,hg0,s,hT,fun n hn=>?_,RF.1,RF.2.1,?_⟩
 ·obtain rfl:n=r.name:=by split at hn<;>simp_all
  exact pinned_of_view hg G0 hdef hp hk
 have hgens:s.gens=#[]:=Array.eq_empty_of_size_eq_zero (FK.mp hgens);have G:Ground q loose r.records XP w s _ _ s.heap:=RF.ground G0;refine a4t (c:=r.toRowW.claim) hz hgens fun args hpre hlay ord hord=>?_;obtain⟨⟨vs,s₁⟩,hlaid⟩:=FN.mp (layAllW_isSome (P:=w.params) (ord:=ord) G.has args r.args s (pre_splitW hpre).1);have keeps:=layAllW_keeps _ _ _ hlaid;have hal:=layAllW_rest _ _ _ hlaid;obtain⟨as,hrd,hin,hold⟩:=reads_layAllW hord _ _ _ hlaid hlay s₁.heap (fun _ _ e=>e);have L:Laid r.records w s s₁ args vs as:=⟨⟨ord,hord,hlaid⟩,hrd,hin,hold,keeps,hal.1.trans hgens,hal.2.2.1⟩;have G₁:=G.keeps hXk keeps;obtain⟨a,o,pm,cd,doc,dV,kV,h1,h2,h3,h4,h5⟩:=G₁.fn hdef;have h:=a5f (M:=model r.prog w) (fun fl s' g=>a8r fl s' g) (call w s s₁ _ _ G₁ (hYk _ _ _ (hY w s y) keeps) a o pm cd doc dV kV h2 h3 h4 h5 (defOf_name hdef▸h1) L.gens args vs as hpre hlay L.reads L.well (L.low G.low)) default;have hi:=ident_freeW hu ha hap;have hwi:r.toRowW.claim.within=[]:=List.isEmpty_iff.mp k6;refine⟨vs,s₁,hlaid,?_⟩;show wp _ Γc (nsGet mainNs r.name>>=_) _ _ default s₁;rw[EX,Sem.wp_nsGet _ Γc _ default s₁ (show s₁.heap.Ns mainNs _ from G₁.T.g),h1];show wp _ Γc (PySem.call (.ref a) vs>>=_) _ _ default s₁;rw[EX];refine DX _ Γc _ (fun v p s' g=>?_) (fun e p s' g=>?_) default s₁ h
 ·have z:=GoodWG.laid (c:=r.toRowW.claim) hsame hwi hi L g;exact⟨_,rfl,z.1,z.2.1,z.2.2,fun q=>⟨namesKept_of hT' hg _ keeps g.2.1.old,noTable hwr q⟩⟩
 ·have z:=GoodWG.laid (c:=r.toRowW.claim) hsame hwi hi L g;exact⟨z.1,z.2.1,z.2.2,fun q=>⟨namesKept_of hT' hg _ keeps g.2.1.old,noTable hwr q⟩⟩
end WR
namespace L2
open PySem PySem.Spec PyProof.Rows
structure Et(P:Program)(w:World)(K:W.Frag)(mg:Str→Option Value)(base:Heap)(CX:Mu)(k:Nat)(f:Addr)(fd:FuncData)(ps:List Str)(sp:Sp):Prop where
 len:∀vs H Q E,sp vs H Q E→vs.length=ps.length
 run:∀(A:Around) (outer:List Env) (s:Shared) (H:Hp) (args:Args) (us:List Value) (vs:List V) (Q:VK) (E:XK),Cc k A→Qg P w K mg base A outer s H→BindsTo s fd args (ps.zip us)→Bw vs us→sp vs H Q E→
  WR.codeR (model P w) A (.call (.ref f) args) (CR CX outer P w H s Q E) s
theorem a4d{K:W.Frag}{mg mb:Str→Option Value}{CX:Mu}{k:Nat}{x:Str}{sp:Sp}{s₁:Shared}{vs:List Value}{ns:List Int}
  (KX:K.In s₁.heap)(hns:s₁.heap.Ns mainGlobals mg)(hb:s₁.heap.Ns builtinsNs mb)(hbb:∀x:Str,x≠"__name__"→mb x=bootBuiltins x)(hlim:s₁.heap.NoLimit)(hg:s₁.gens=#[])
  (ha:s₁.heap.get? a=some {cls:=.type "list",data:=.seq vs.toArray})(hi:IntsAre vs ns)(hl:ns.length≤sizeLine)(hr:Cc k callerA)
  (F:∀base:Heap,K.In base→base.Ns mainGlobals mg→Et P w K mg base CX k fa fd [x] sp)(hbind:∀(s:Shared) (u:Value),BindsTo s fd ⟨[u],[]⟩ [(x,u)])
  (hsp:∀H:Hp,Rs H→Ei K H a (ns.map V.int)→sp [.ref a] H (fun v _=>v=.bl true) fun _ _ _=>False)
  (hCX:∀H e s',CX [] H s₁ (fun _ _ _=>False) e s'→False):
  WR.codeR (model P w) callerA (.call (.ref fa) ⟨[.ref a],[]⟩) (fun r s'=>r=.ok (.ret (.bool true))∧OldK s₁.heap s'.heap∧s'.os=s₁.os∧AllBare s'.gens) s₁:=by
 have rv:=rU hi;have lenV:=hi.length;have core:∀H:Hp,Rs H→Ei K H a (ns.map V.int)→Hf P w H s₁.heap→(∀b,H b≠none→b=a)→(H a≠none→K.lookup a=none)→
   WR.codeR (model P w) callerA (.call (.ref fa) ⟨[.ref a],[]⟩) (fun r s'=>r=.ok (.ret (.bool true))∧OldK s₁.heap s'.heap∧s'.os=s₁.os∧AllBare s'.gens) s₁:=by
  intro H hO hS hok hA hK;have base_of:∀{b:Addr} {o:Obj},s₁.heap.get? b=some o→H b=none→(Mr s₁.heap H).get? b=some o:=fun e n=>a8q e n;have noA:∀{b:Addr} {o:Obj} {es:Array DictEntry} {ep:Nat},s₁.heap.get? b=some o→o.data=.dict es ep→H b=none:=fun{b o es ep} e d=>by
   cases q:H b with
   |none=>rfl
   |some u=>
    have e':b=a:=hA b (by rw[q];simp);subst e';rw[ha]at e;cases e;have d':Data.seq vs.toArray _=Data.dict es ep:=d;cases d'
  have nsK:∀{b:Addr} {m:Str→Option Value},s₁.heap.Ns b m→(Mr s₁.heap H).Ns b m:=fun{b m} ⟨o,es,ep,e,d,r⟩=>⟨o,es,ep,base_of e (noA e d),d,r⟩;have hKb:K.In (Mr s₁.heap H):=fun b o e=>base_of (KX b o e) (by
   cases q:H b with
   |none=>rfl
   |some u=>
    have e':b=a:=hA b (by rw[q];simp);subst e';rw[hK (by rw[q];simp)]at e;cases e)
  have hM:Mod K mg (Mr s₁.heap H):=⟨hKb,nsK hns,⟨mb,nsK hb,hbb⟩,let⟨mc,h1,h2⟩:=hlim;⟨mc,nsK h1,h2⟩⟩;have e0:Qg P w K mg (Mr s₁.heap H) callerA [] s₁ H:=⟨rfl,hM,fun b o e=>b1w e,FF (a4j _ _),trivial,fun b hb=>absurd (show b∈([]:List Addr)from hb) (by simp),hok,.of_eq hg⟩;refine WR.code_mono ((F _ hKb (nsK hns)).run callerA [] s₁ H ⟨[.ref a],[]⟩ [.ref a] [.ref a] _ _ hr e0 (hbind s₁ (.ref a)) (.cons rfl .nil) (hsp H hO hS)) fun r s' h=>?_;cases r with
  |error e=>exact(hCX H e s' h).elim
  |ok fl=>
   cases fl with
   |next=>exact False.elim h
   |brk=>exact False.elim h
   |cont=>exact False.elim h
   |ret u=>
    obtain⟨v,H',os,bare,un,hok',r',q⟩:=h;have q':v=.bl true:=q;subst q';obtain rfl:u=Value.bool true:=r';refine⟨rfl,OldK.of_keep fun b o e=>?_,os,bare⟩;cases q:H b with
    |none=>exact un.keep b o e q (by intro z;exact absurd (show b∈([]:List Addr)from z) (by simp)) (by simp)
    |some u=>
     obtain z|⟨ob,xs,z⟩:=hO b
     ·rw[q]at z;cases z
     ·have z2:=un.frzs b ob _ z;obtain⟨e1,_⟩:=hok b _ z;obtain⟨e2,_⟩:=hok' b _ z2;rw[e]at e1;cases e1;exact e2
 cases hk:K.lookup a with
 |some o=>
  have e:=KX a o hk;rw[ha]at e;cases e;refine core (fun _=>none) (fun _=>.inl rfl) (.inr ⟨_,vs.toArray,_,hk,rfl,rfl,rfl,by rw[AJ,lenV];exact hl,by simpa using rv⟩) (fun b u z=>by have z':(none:Option HO)=some u:=z;cases z') (fun b z=>absurd rfl z) fun z=>absurd rfl z
 |none=>
  refine core (fun b=>if b=a then some (.frz {cls:=.type "list",data:=.seq vs.toArray} (.lst (ns.map V.int)))else none) (fun b=>?_) (.inl (.inr ⟨{cls:=.type "list",data:=.seq vs.toArray},AS rfl⟩)) (fun b u z=>?_) (fun b z=>?_) fun _=>hk
  ·by_cases hb:b=a
   ·exact .inr ⟨_,_,AS hb⟩
   ·exact .inl (AR hb)
  ·by_cases hb:b=a
   ·have z':=(AS hb).symm.trans z;cases z';subst hb;exact⟨ha,by rw[AK];exact hl,vs,_,rv,ha⟩
   ·have z':=(AR hb).symm.trans z;cases z'
  ·by_cases hb:b=a
   ·exact hb
   ·exact absurd (AR hb) z
end L2
namespace Att
open PySem PySem.W PySem.Calls PyProof.Rows L2
theorem vK{l:OpenLaw}{n:Nat}{XP:(Str→Option Value)→Heap→Prop}{YP:World→Heap→Prop}{d:DefRec}
  (hn:l.most=some n)(hdf:d.params.defaults=[])
  (call:∀(w:World) (s₀ s₁:Shared) (mg mb:Str→Option Value) (fa:Addr) (o:Obj) (pm cd doc:Value) (a:Addr) (vs:List Value) (ns:List Int),
   Ground q loose [] XP w s₀ mg mb s₁.heap→YP w s₁.heap→
   s₁.heap.get? fa=some o→o.data=.func (docDef d.name d.params d.body d.scope pm cd doc)→s₁.heap.CodeRec cd d.name→mg d.name=some (.ref fa)→
   s₁.heap.get? a=some {cls:=.type "list",data:=.seq vs.toArray}→IntsAre vs ns→ns.length≤n→s₁.gens=#[]→
   WR.codeR (model l.prog w) callerA (.call (.ref fa) ⟨[.ref a],[]⟩) (fun r s'=>r=.ok (.ret (.bool true))∧OldK s₁.heap s'.heap∧s'.os=s₁.os∧AllBare s'.gens) s₁):
  WR.WalkR q loose XP YP l.row.toRowW d []:=by
 intro w s₀ s₁ mg mb G Y fa o pm cd doc dV kV ho hd hcd hD hmg hg args vals as hpre hlay hrd hwl hlo;obtain rfl:dV=.none:=Dflts.none hD hdf;obtain rfl:kV=.none:=Dflts.noKw hD;obtain⟨a,vs,ns,rfl,rfl,hobj,hints,hlen⟩:=a2w hn hpre hwl;refine(WR.code_mono (call w s₀ s₁ mg mb fa o pm cd doc a vs ns G Y ho (fd_plain hd) hcd hmg hobj hints hlen hg) fun r s' hq=>?_);obtain⟨rfl,h2,h3,h4⟩:=hq;exact⟨.inl ⟨.bool true,.bool true,[],rfl,fun _=>rfl,.bool true,a3h l _,fun _=>⟨List.Pairwise.nil,fun _ hm=>(nomatch hm)⟩⟩,h2,h3,h4⟩
end Att
namespace L2
open PySem PySem.Spec PyProof.Rows
theorem a5a{l:W.OpenLaw}{n k:Nat}{XP:(Str→Option Value)→Heap→Prop}{YP:World→Heap→Prop}{d:DefRec}{K:Params→W.Frag}{CX:World→Mu}{sp:World→Sp}
  (hn:l.most=some n)(hn2:n≤sizeLine)(hdf:d.params.defaults=[])(hr:Cc k callerA)
  (hY:∀(w:World) (h:Heap),YP w h→(K w.params).In h)
  (F:∀(w:World) (mg:Str→Option Value) (fa:Addr) (h:Heap),(K w.params).In h→h.Ns mainGlobals mg→mg d.name=some (.ref fa)→
   ∃fd:FuncData,(∀(s:Shared) (u:Value),BindsTo s fd ⟨[u],[]⟩ [(x,u)])∧
    ∀base:Heap,(K w.params).In base→base.Ns mainGlobals mg→Et l.prog w (K w.params) mg base (CX w) k fa fd [x] (sp w))
  (hsp:∀(w:World) (H:Hp) (a:Addr) (ns:List Int),ns.length≤n→Rs H→Ei (K w.params) H a (ns.map V.int)→sp w [.ref a] H (fun v _=>v=.bl true) fun _ _ _=>False)
  (hCX:∀(w:World) (H:Hp) (s:Shared) (e:Value) (s':Shared),CX w [] H s (fun _ _ _=>False) e s'→False):
  WR.WalkR q loose XP YP l.row.toRowW d []:=by
 refine Att.vK hn hdf fun w s₀ s₁ mg mb fa o pm cd doc a vs ns G Y ho hd hcd hmg hobj hints hlen hg=>?_;have KX:=hY w _ Y;obtain⟨fd,hb,hF⟩:=F w mg fa _ KX G.T.g hmg;exact a4d KX G.T.g G.T.b G.T.builtins G.T.nolimit hg hobj hints (BG hlen hn2) hr hF hb (fun H hO hS=>hsp w H a ns hlen hO hS) fun H e s'=>hCX w H s₁ e s'
theorem a2q{l:W.OpenLaw}{n k:Nat}{XP:(Str→Option Value)→Heap→Prop}{YP:World→Heap→Prop}{d:DefRec}{K:Params→W.Frag}{CX:Mu}{sp:W.Frag→Sp}
  (hn:l.most=some n)(hn2:n≤sizeLine)(hdf:d.params.defaults=[])(hr:Cc k callerA)
  (hY:∀(w:World) (h:Heap),YP w h→(K w.params).In h)
  (F:∀(w:World) (mg:Str→Option Value) (fa:Addr) (h:Heap),(K w.params).In h→h.Ns mainGlobals mg→mg d.name=some (.ref fa)→
   ∃fd:FuncData,(∀(s:Shared) (u:Value),BindsTo s fd ⟨[u],[]⟩ [(x,u)])∧
    ∀base:Heap,(K w.params).In base→base.Ns mainGlobals mg→Et l.prog w (K w.params) mg base CX k fa fd [x] (sp (K w.params)))
  (hsp:∀(K:W.Frag) (H:Hp) (a:Addr) (ns:List Int),ns.length≤n→Rs H→Ei K H a (ns.map V.int)→sp K [.ref a] H (fun v _=>v=.bl true) fun _ _ _=>False)
  (hCX:∀(H:Hp) (s:Shared) (e:Value) (s':Shared),CX [] H s (fun _ _ _=>False) e s'→False):
  WR.WalkR q loose XP YP l.row.toRowW d []:=
 a5a (K:=K) (CX:=fun _=>CX) (sp:=fun w=>sp (K w.params)) hn hn2 hdf hr hY F (fun w H a ns h1 h2 h3=>hsp (K w.params) H a ns h1 h2 h3) fun _ H s e s'=>hCX H s e s'
end L2
namespace WR
open PySem
open Sem (wp)
section
variable{M:Model}{A:Around}{E:Value→Shared→Prop}{s:Shared}{env:Env}
theorem execs_consR {st rest}{Q:Flow→Shared→Prop}(h:wpR M A (exec st env) (fun f s'=>match f with|.next=>wpR M A (execs rest env) Q E s'|f=>Q f s') E s):wpR M A (execs (st::rest) env) Q E s:=fun Γ p hΓ hC=>by
 rw[execs_cons,EX];refine DX M Γ _ (fun f p' s' h'=>?_) (fun _ _ _ h'=>h') _ _ (h Γ p hΓ hC);cases f<;>first|exact h' Γ p' hΓ hC|exact h'
theorem b0e {e pos}{Q:Flow→Shared→Prop}(h:wpR M A (eval e env) (fun v=>Q (.ret v)) E s):wpR M A (exec (.Return (some e) pos) env) Q E s:=fun Γ p hΓ hC=>by
 simp only[exec_Return_some,EX,FS,Sem.wp_pure'];exact h Γ _ hΓ hC
theorem Assign_R {x pos' value pos}{Q:Flow→Shared→Prop}(h:wpR M A (eval value env) (fun v s₁=>wpR M A (storeName env x v) (fun _=>Q .next) E s₁) E s)
  (hs:swapsWith value (some (.Name x pos')) pos.line env=pure false:=by rfl):wpR M A (exec (.Assign [.Name x pos'] value pos) env) Q E s:=fun Γ p hΓ hC=>by
 simp only[exec_Assign_Name env x pos' value pos hs,EX,FS,Sem.wp_bindName,Sem.wp_pure'];exact DX M Γ _ (fun v _ s₁ h₁=>h₁ Γ _ hΓ hC) (fun _ _ _ h'=>h') _ _ (h Γ _ hΓ hC)
theorem c0j {test body orelse pos}{Q:Flow→Shared→Prop}(h:wpR M A (isTrue test env (eval test env)) (fun b s₂=>if b then wpR M A (execs body env) Q E s₂ else wpR M A (execs orelse env) Q E s₂) E s):
  wpR M A (exec (.If test body orelse pos) env) Q E s:=fun Γ p hΓ hC=>by
 simp only[exec_If,EX,FS];refine DX M Γ _ (fun b p₂ s₂ h₂=>?_) (fun _ _ _ h'=>h') _ _ (h Γ _ hΓ hC);cases b<;>exact h₂ Γ p₂ hΓ hC
theorem BinOp_R {l op r pos}{Q:Value→Shared→Prop}(h:wpR M A (eval l env) (fun a s₁=>wpR M A (eval r env) (fun b s₂=>wpR M A (binaryOp op a b) Q E s₂) E s₁) E s):
  wpR M A (eval (.BinOp l op r pos) env) Q E s:=fun Γ p hΓ hC=>by
 simp only[eval_BinOp,EX,Sem.wp_holding,FS,Sem.wp_operate];exact DX M Γ _ (fun a p₁ s₁ h₁=>DX M Γ _ (fun b _ s₂ h₂=>h₂ Γ _ hΓ hC) (fun _ _ _ h'=>h') _ _ (h₁ Γ p₁ hΓ hC)) (fun _ _ _ h'=>h') _ _ (h Γ p hΓ hC)
theorem Call_R{id:Str}{pos:Pos}{keywords:List Keyword}{Q:Value→Shared→Prop}
  (h:wpR M A (eval (.Name id p) env) (fun f s₁=>wpR M A (callWith pos f [] (backTo pos (starEach args env)) (backToKw pos (keywordEach keywords env))) Q E s₁) E s):
  wpR M A (eval (.Call (.Name id p) args keywords pos) env) Q E s:=by
 rw[arm_eval_Call_Name'];exact bind h
end
section
variable{prog:Program}{w:World}{A:Around}{R:Result→Shared→Prop}{s:Shared}
theorem func_R {body env}(h:wpR (model prog w) (A.deeper env) (execs body env) (fun f s'=>R (.ok (.ret (match f with|.ret v=>v|_=>.none))) s')
   (fun e s'=>wpR (model prog w) (A.deeper env) (leaving env e) (fun _ s''=>R (.error e) s'') (fun e' s''=>R (.error e') s'') s') s):codeR (model prog w) A (.func body env) R s:=by
 refine gB ?_;show wpR _ (A.deeper env) (do point;match←(execs body env).onRaise (leaving env)with|.ret v=>ret v|_=>ret .none) _ _ s;refine bind (of_any (wpAny_point (bind (onRaise (mono h (fun f s' h'=>?_) fun _ _ h'=>h')))));cases f<;>exact pure' h'
theorem callfn_R{args:Args}{o:Obj}{fd:FuncData}{body:List Stmt}(hroom:A.depth<recursionLimit)(ho:s.heap.get? a=some o)
  (hd':o.data=.func fd)(hco:fd.scope.isCoroutine=false)(hgen:fd.scope.isGenerator=false)(hbody:fd.body=.stmts body)(hcd:s.heap.CodeRec fd.code fd.qualname)
  (h:wpR (model prog w) A.in1 (bindArgs fd args) (fun binds s₁=>wpR (model prog w) A.in1 (newFunctionEnv fd.scope fd.globals fd.closure binds (fd.qualname++".<locals>.") (some a) fd.code none fd.builtins)
    (fun env s₂=>s₂.heap.NoLimit∧codeR (model prog w) A (.func body env) R s₂) (fun e s'=>R (.error e) s') s₁) (fun e s'=>R (.error e) s') s):
  codeR (model prog w) A (.call (.ref a) args) R s:=by
 refine gB ?_;show wpR _ A.in1 (callAny (.ref a) args) _ _ s;simp only[callAny];refine bind (of_any (wpAny_load ho ?_));obtain⟨c,oc,vs,tq,hc,hoc,hdc,hq⟩:=hcd;simp only[hd',callFunction,hco,hgen,hbody,hc];rw[hc]at h;refine bind (m:=field (.ref c) 1) (of_any (BI hoc hdc hq (bind (pure' ?_))));exact bind (mono h (fun binds s₁ h₁=>bind (mono h₁ (fun env s₂ h₂=>bind (of_any (wpAny_enterFrame h₂.1 hroom (pure' (And.intro rfl h₂.2))))) fun _ _ h'=>h')) fun _ _ h'=>h')
end
end WR
namespace L2
open PySem PySem.Spec PyProof.Rows WR
theorem eF{α:Type}{M:Model}{A:Around}{t:Sem α}{Q Q':α→Shared→Prop}{E:Value→Shared→Prop}{s:Shared}(h:wpR M A t Q E s)(f:∀a s',Q a s'→Q' a s'):wpR M A t Q' E s:=WR.mono h f fun _ _ z=>z
def Kf(X:Cx)(e:Expr)(t:TE):Prop:=
 ∀(pins:List (Addr×Obj)) (s:Shared) (σ:St) (H:Hp) (Q:VK),Inv X pins σ H s→t σ H Q→wpR (model X.prog X.w) X.A (eval e X.env) (EP X pins σ Q) X.xe s
def Ny(X:Cx)(st:Stmt)(t:TS):Prop:=
 ∀(pins:List (Addr×Obj)) (s:Shared) (σ:St) (H:Hp) (D:Ends),Inv X pins σ H s→t D σ H→wpR (model X.prog X.w) X.A (exec st X.env) (SP X pins D) X.xe s
def Ge(X:Cx)(st:List Stmt)(t:TS):Prop:=
 ∀(pins:List (Addr×Obj)) (s:Shared) (σ:St) (H:Hp) (D:Ends),Inv X pins σ H s→t D σ H→wpR (model X.prog X.w) X.A (execs st X.env) (SP X pins D) X.xe s
section
variable{X:Cx}{e:Expr}{te:TE}{st:Stmt}{rest:List Stmt}{t u:TS}{pos:Pos}
theorem PS.R(h:PS X st t):Ny X st t:=fun pins s σ H D I q=>of_any (h pins s σ H D I q)
theorem Mb.R(h:Mb X rest t):Ge X rest t:=fun pins s σ H D I q=>of_any (h pins s σ H D I q)
theorem a3e(h1:Ny X st t)(h2:Ge X rest u):Ge X (st::rest) (Tl t u):=by
 intro pins s σ H D I h;refine execs_consR (eF (h1 pins s σ H {D with nx:=u D} I h) fun f s1 q=>?_);cases f with
 |next=>obtain⟨σ',H',I',q⟩:=q;exact h2 pins s1 σ' H' D I' q
 |ret v=>exact q
 |brk=>exact q
 |cont=>exact q
theorem b1b(he:Kf X e te):Ny X (.Return (some e) pos) (Tn te):=by
 intro pins s σ H D I h;exact b0e (eF (he pins s σ H _ I h) fun v s1 ⟨x,H1,I1,r1,q1⟩=>⟨x,σ,H1,I1,r1,q1⟩)
theorem b4w{a b:List Stmt}{tc:TT}(hc:PT X c tc)(ha:Ge X a t)(hb:Ge X b u):Ny X (.If c a b pos) (Ts tc t u):=by
 intro pins s σ H D I h;refine c0j (eF (of_any (hc pins s σ H _ I h)) fun d s1 ⟨H1,I1,q1⟩=>?_);cases d with
 |true=>exact ha pins s1 σ H1 D I1 q1
 |false=>exact hb pins s1 σ H1 D I1 q1
theorem a1f{i:Nat}(hN:X.N.Nodup)(hi:X.N[i]?=some x)(hx:Pm X.env.scope x)(he:Kf X e te)(hs:swapsWith e (some (.Name x pos')) pos.line X.env=pure false:=by rfl)
  (hf:X.fn x=true∨X.env.scope.names.lookup x=some .local:=by first|exact .inl rfl|exact .inr rfl|assumption):Ny X (.Assign [.Name x pos'] e pos) (Qv te (Lm i)):=by
 intro pins s σ H D I h;refine Assign_R (eF (he pins s σ H _ I h) fun v s1 ⟨y,H1,I1,r1,q1⟩=>?_) hs;exact of_any (gU I1 hN hi hx r1 (fun s2 I2=>⟨_,H1,I2,q1⟩) hf)
end
end L2
namespace WR
open PySem PySem.W
open Sem (wp)
section
variable{M:Model}{A:Around}{E:Value→Shared→Prop}{s:Shared}{K:Frag}{env:Env}{pos:Pos}{f:Value}{first:List Value}{Q:Value→Shared→Prop}
theorem dJ{α:Type}{p:Pos}{k:Unit→Sem α}{Q:α→Shared→Prop}(h:wpR M A (k ()) Q E s):wpR M A (standAt p>>=k) Q E s:=bind (vX h)
theorem a0t{t:Sem Value}(ht:wpR M A t Q E s):wpR M A (t>>=fun r=>holding [r] point>>=fun _=>pure r) Q E s:=
 bind (mono ht (fun r s₂ hr=>bind (cT (of_any (wpAny_point (pure' hr))))) fun _ _ x=>x)
theorem b9h{α:Type}{m:Sem α}{Q:α→Shared→Prop}(h:wpR M A m Q E s):wpR M A (m.keep vs) Q E s:=
 fun Γ p hΓ hC=>by rw[Sem.wp_keep];exact h Γ p hΓ hC
theorem vI{P:Heap→Prop}{args:List (Bool×Sem Value)}{keywords:List (Option Str×Sem Value)}(hplain:(args.any (·.1)||keywords.any (·.1.isNone))=false)
  (hk:∀h,P h→∃k,(k=Keeper.frame∨k=Keeper.machine∨k=Keeper.boundFrame)∧Looks M h (keeperOf f) k)
  (h:wpR M A (evalArgs f true args keywords) (fun a s₁=>P s₁.heap∧wpR M A (call f (first++a.pos) a.kw) Q E s₁) E s):wpR M A (callWith pos f first args keywords) Q E s:=by
 unfold callWith;refine bind (cT (mono h (fun a s₁ h₁=>dJ ?_) fun _ _ x=>x));obtain⟨k,hk',L⟩:=hk _ h₁.1;simp only[hplain];refine bind (of_any (L.here ?_));have marked (mk:Value):wpR M A (callMarked mk f (first++a.pos) a.kw) Q E s₁:=by unfold callMarked;exact b9h h₁.2
 obtain rfl|rfl|rfl:=hk'<;>dsimp only<;>first|exact a0t h₁.2|(split<;>first|exact a0t h₁.2|exact a0t (marked _))
theorem rE{x:Sem Value}{rest:List (Bool×Sem Value)}{Q:List Value→Shared→Prop}
  (h:wpR M A x (fun v s₁=>wpR M A (spliced rest) (fun vs s₂=>Q (v::vs) s₂) E s₁) E s):wpR M A (spliced ((false,x)::rest)) Q E s:=by
 rw[spliced];refine bind (mono h (fun v s₁ h₁=>?_) fun _ _ x=>x);simp only[BH,DB];exact bind (pure' (bind (cT (mono h₁ (fun vs s₂ h₂=>pure' h₂) fun _ _ x=>x))))
theorem qL{x:Sem Value}{rest:List (Bool×Sem Value)}{Q:Args→Shared→Prop}(h:wpR M A (spliced ((false,x)::rest)) (fun vs s'=>Q ⟨vs,[]⟩ s') E s):wpR M A (evalArgs f true ((false,x)::rest) []) Q E s:=by
 unfold evalArgs;show wpR M A (spliced ((false,x)::rest)>>=_) Q E s;refine bind (mono h (fun vs s' h'=>cT ?_) fun _ _ x=>x);exact bind (pure' (bind (pure' (pure' h'))))
theorem callWith_KR{e:Expr}{rest:List Expr}(hk:keepIn K f=true)(h:wpR M A (spliced (backTo pos (starEach (e::rest) env))) (fun vs s₁=>K.In s₁.heap∧wpR M A (call f (first++vs)) Q E s₁) E s)
  (he:starEach (e::rest) env=(false,eval e env)::starEach rest env:=by rfl)(hplain:(backTo pos (starEach rest env)).any (·.1)=false:=by rfl):
  wpR M A (callWith pos f first (backTo pos (starEach (e::rest) env)) []) Q E s:=by
 rw[he]at h ⊢;exact vI (P:=K.In) (by show((false||(backTo pos (starEach rest env)).any (·.1))||false)=false;rw[hplain];rfl) (keeps_K hk) (qL h)
theorem callWith_typeR{T:String}{e:Expr}{rest:List Expr}(h:wpR M A (spliced (backTo pos (starEach (e::rest) env))) (fun vs s₁=>wpR M A (call (.type T) vs) Q E s₁) E s)
  (he:starEach (e::rest) env=(false,eval e env)::starEach rest env:=by rfl)(hplain:(backTo pos (starEach rest env)).any (·.1)=false:=by rfl):
  wpR M A (callWith pos (.type T) [] (backTo pos (starEach (e::rest) env)) []) Q E s:=by
 rw[he]at h ⊢;have h2:wpR M A (evalArgs (.type T) true (backTo pos ((false,eval e env)::starEach rest env)) []) (fun a s₁=>wpR M A (call (.type T) ([]++a.pos) a.kw) Q E s₁) E s:=qL h;unfold callWith;refine bind (cT (mono h2 (fun a s₁ h₁=>dJ ?_) fun _ _ x=>x));have hp:((backTo pos ((false,eval e env)::starEach rest env)).any (·.1))=false:=by show(false||(backTo pos (starEach rest env)).any (·.1))=false;rw[hplain];rfl
 simp only[hp,GY,GQ];exact bind (pure' (a0t h₁))
end
end WR
namespace L2
open PySem PySem.Spec PyProof.Rows WR
def Qe(X:Cx)(es:List Expr)(t:TA):Prop:=
 ∀(pos:Pos) (pins:List (Addr×Obj)) (s:Shared) (σ:St) (H:Hp) (Q:List V→Hp→Prop),Inv X pins σ H s→t σ H Q→wpR (model X.prog X.w) X.A (spliced (backTo pos (starEach es X.env))) (AP X pins σ Q) X.xe s
theorem PA.R{X:Cx}{es:List Expr}{t:TA}(h:PA X es t):Qe X es t:=fun pos pins s σ H Q I q=>of_any (h pos pins s σ H Q I q)
section
variable{X:Cx}{CX:Mu}{k:Nat}{f C:Addr}{fd:FuncData}{ps:List Str}{sp:Sp}{dvs:List V}{ds:List Value}{E:XK}{x m:Str}{p pos apos:Pos}{e o:Expr}{es:List Expr}{ta:TE}{t:TA}
theorem b0t{pins:List (Addr×Obj)}{σ:St}{H:Hp}{s:Shared}{Q:VK}(F:Et X.prog X.w X.K X.mg X.base CX k f fd ps sp)(hr:Cc k X.A)(hb:Ev X.K fd ps ds)(hd:Bw dvs ds)(hx:Jr CX X E)
  (I:Inv X pins σ H s)(r:Bw vs us)(h:sp (vs++dvs) H Q E):wpR (model X.prog X.w) X.A (call (.ref f) us) (EP X pins σ Q) X.xe s:=by
 have r2:Bw (vs++dvs) (us++ds):=r.append hd;have hl:(us++ds).length=ps.length:=by rw[←r2.length];exact F.len _ _ _ _ h
 refine call' (code_mono (F.run X.A X.stack s H ⟨us,[]⟩ (us++ds) (vs++dvs) Q E hr I.env0 (hb s us I.kIn hl) r2 h) fun r s' hq=>?_);cases r with
 |error e=>exact hx pins σ H s e s' I hq
 |ok fl=>
  cases fl with
  |ret u=>exact I.after hq
  |next=>exact False.elim hq
  |brk=>exact False.elim hq
  |cont=>exact False.elim hq
theorem a6w(F:Et X.prog X.w X.K X.mg X.base CX k f fd ps sp)(hr:Cc k X.A)(hg:Gl X x)(hm:X.mg x=some (.ref f))(hk:W.keepIn X.K (.ref f)=true)(hb:Ev X.K fd ps ds)(hd:Bw dvs ds)(hx:Jr CX X E)
  (ha:Qe X (e::es) t)(hdb:(x==("__debug__":Str))=false:=by decide)(he:starEach (e::es) X.env=(false,eval e X.env)::starEach es X.env:=by rfl)(hpl:(backTo pos (starEach es X.env)).any (·.1)=false:=by rfl):
  Kf X (.Call (.Name x p) (e::es) [] pos) (Sc sp dvs E t):=by
 intro pins s σ H Q I h;refine Call_R (of_any (eJ I hg hm ?_ hdb));refine callWith_KR hk (eF (ha pos pins s σ H _ I h) fun us s1 ⟨vs,H1,I1,r,q⟩=>⟨I1.kIn,?_⟩) he hpl;exact b0t F hr hb hd hx I1 r q
end
end L2
namespace L2
open PySem PySem.Spec PyProof.Rows
theorem a8w{CX:Mu}{K:W.Frag}{mg:Str→Option Value}{k:Nat}{params:Arguments}{body:List Stmt}{kV:Value}{an od:Option Addr}
  {osl:Array (Option Value)}{ps:List Str}{sp:Sp}(lk:K.lookup f=some ⟨oc,od,.func (W.fnOf name qual params body scope dV kV doc pm an cdv ct),osl⟩)(hcd:W.codeIn K cdv qual=true)(S:Bi N ps scope)
  (len:∀vs H Q E,sp vs H Q E→vs.length=ps.length)
  (hbody:∀(A:Around) (outer:List Env) (s:Shared) (H:Hp) (vs:List V) (Q:VK) (E:XK),Cc k (A.deeper (envOfC qual scope s.heap.objs.size f cdv))→sp vs H Q E→
   ∃t,Ge (Gd CX P w K mg base N qual scope f cdv A outer s H E) body t∧t {nx:=fun _ H'=>Q .non H',rt:=Q} (start N vs) H):
  Et P w K mg base CX (k+1) f (W.fnOf name qual params body scope dV kV doc pm an cdv ct) ps sp:=by
 refine⟨len,fun A outer s H args us vs Q E hr e0 hb r hsp=>?_⟩;have hl:=len _ _ _ _ hsp;have KX:K.In s.heap:=e0.mod.kin.keeps fun b o e=>(e0.bs b o e).1;have lim:s.heap.NoLimit:=e0.mod.nolimit.keeps fun b o e=>(e0.bs b o e).1;have hkind:∀y∈ps.zip us,scope.names.lookup y.1=some .local∨(scope.names.lookup y.1=some .cell∧((cellsFrom (s.heap.objs.size+1) scope.names []).lookup y.1).isSome=true):=fun⟨n,v⟩ hy=>by
  obtain q|q:=S.par n (FZ hy).1
  ·exact .inl q
  ·exact .inr ⟨q,W.cellsFrom_some _ _ _ (.inl q)⟩
 refine WR.callfn_R hr.depth (KX _ _ lk) rfl S.co S.gen rfl (W.codeRec_of KX hcd) (WR.of_any (hb _ _ _ _ ?_));refine WR.of_any (wpAny_newFunctionEnv_cells S.kind hkind fun env he s1 x=>?_);subst he;refine⟨lim.keeps x.toInCall.keep,WR.func_R ?_⟩;obtain⟨t,ht,hq⟩:=hbody A outer s H vs Q E (hr.deeper _) hsp;have I:Inv (Gd CX P w K mg base N qual scope f cdv A outer s H E) [] (start N vs) H s1:=sQ S hr.hd e0 hl r x;refine WR.mono (ht [] s1 (start N vs) H _ I hq) (fun fl s' hs=>?_) fun e s' hs=>WR.of_any hs;have fin:∀{σ':St} {H':Hp} {v:V} {u:Value},Inv (Gd CX P w K mg base N qual scope f cdv A outer s H E) [] σ' H' s'→Cg v u→Q v H'→CE outer P w H s Q u s':=
  fun{σ' H' v u} J rv q=>⟨v,H',J.os,J.bare,J.base,J.hok,rv,q⟩
 cases fl with
 |ret u=>
  obtain⟨v,σ',H',J,rv,q⟩:=hs;exact fin J rv q
 |next=>
  obtain⟨σ',H',J,q⟩:=hs;exact fin (v:=V.non) (u:=Value.none) J rfl q
 |brk=>
  obtain⟨_,_,_,q⟩:=hs;exact False.elim q
 |cont=>
  obtain⟨_,_,_,q⟩:=hs;exact False.elim q
end L2
namespace DL
open PySem PySem.Spec PyProof.Rows L2
abbrev MK:=Option (Sum L2.Key (List L2.Key))
abbrev Um:Int:=0xFCA86420
section
variable{P:Program}{w:World}{A:Around}{E:Value→Shared→Prop}{s:Shared}
variable (P w)in
def Gx(h:Heap):MK→Value→Prop
 |none,v=>v=.none
 |some (.inl k),v=>Ll k v=true
 |some (.inr ks),v=>∃a,v=.ref a∧IsTupleKey (mixKind P w) h ks a
variable (P w)in
def mkHash:MK→Int
 |none=>Um
 |some (.inl k)=>Up w k
 |some (.inr ks)=>tupleKeyHash (mixKind P w) ks
theorem xA(hx:Gx P w h x v)(hy:Gx P w h y v):x=y:=by
 obtain _|x|x:=x<;>obtain _|y|y:=y
 ·rfl
 ·cases (show v=.none from hx);obtain⟨i,t,_,e⟩|⟨i,t,_,e⟩:=aV hy<;>exact nomatch e
 ·cases (show v=.none from hx);obtain⟨a,e,_⟩:=hy;exact nomatch e
 ·cases (show v=.none from hy);obtain⟨i,t,_,e⟩|⟨i,t,_,e⟩:=aV hx<;>exact nomatch e
 ·rw[(mixKind P w).inj v x y hx hy]
 ·obtain⟨a,rfl,_⟩:=hy;obtain⟨i,t,_,e⟩|⟨i,t,_,e⟩:=aV hx<;>exact nomatch e
 ·cases (show v=.none from hy);obtain⟨a,e,_⟩:=hx;exact nomatch e
 ·obtain⟨a,rfl,_⟩:=hx;obtain⟨i,t,_,e⟩|⟨i,t,_,e⟩:=aV hy<;>exact nomatch e
 ·obtain⟨a,rfl,hx⟩:=hx;obtain⟨b,e,hy⟩:=hy;cases e;rw[hx.inj hy]
theorem fY{h:Heap}{ks:List L2.Key}(x:IsTupleKey (mixKind P w) h ks a):∃its,h.IsTuple a its:=by
 obtain⟨o,its,n,h1,h2,h3,_⟩:=x;exact⟨its,o,h1,h2,n,h3⟩
theorem a7x{Q:Bool→Shared→Prop}(hu:A.units<cLine)(hx:Gx P w s.heap x u)(hy:Gx P w s.heap y v)(h:Q (decide (x=y)) s):wpAny (model P w) A (eqBool u v) Q E s:=by
 obtain _|x|x:=x<;>obtain _|y|y:=y
 ·cases (show u=.none from hx);cases (show v=.none from hy);rw[BD rfl]at h;exact SeqAt.EqAt.same _ _ _ _ _ h
 ·cases (show u=.none from hx);rw[AW (by simp)]at h;obtain⟨i,t,rfl,rfl⟩|⟨i,t,rfl,rfl⟩:=aV hy
  ·exact SeqAt.EqAt.none_int i t _ _ _ _ h
  ·exact SeqAt.EqAt.none_str i t _ _ _ _ h
 ·cases (show u=.none from hx);rw[AW (by simp)]at h;obtain⟨a,rfl,q⟩:=hy;obtain⟨its,q⟩:=fY q;exact SeqAt.EqAt.none_tuple q hu _ _ _ _ h
 ·cases (show v=.none from hy);rw[AW (by simp)]at h;obtain⟨i,t,rfl,rfl⟩|⟨i,t,rfl,rfl⟩:=aV hx
  ·exact SeqAt.EqAt.int_none i t _ _ _ _ h
  ·exact SeqAt.EqAt.str_none i t _ _ _ _ h
 ·refine(mixKind P w).eqBool hx hy ?_;by_cases e:x=y
  ·subst e;rw[BD rfl]at h ⊢;exact h
  ·rw[AW (by simpa using e)]at h;rw[AW e];exact h
 ·rw[AW (by simp)]at h;obtain⟨a,rfl,q⟩:=hy;obtain⟨its,q⟩:=fY q;obtain⟨i,t,rfl,rfl⟩|⟨i,t,rfl,rfl⟩:=aV hx
  ·exact SeqAt.EqAt.int_tuple i t q hu _ _ _ _ h
  ·exact SeqAt.EqAt.str_tuple i t q hu _ _ _ _ h
 ·cases (show v=.none from hy);rw[AW (by simp)]at h;obtain⟨a,rfl,q⟩:=hx;obtain⟨its,q⟩:=fY q;exact SeqAt.EqAt.tuple_none q hu _ _ _ _ h
 ·rw[AW (by simp)]at h;obtain⟨a,rfl,q⟩:=hx;obtain⟨its,q⟩:=fY q;obtain⟨i,t,rfl,rfl⟩|⟨i,t,rfl,rfl⟩:=aV hy
  ·exact SeqAt.EqAt.tuple_int i t q hu _ _ _ _ h
  ·exact SeqAt.EqAt.tuple_str i t q hu _ _ _ _ h
 ·obtain⟨a,rfl,q⟩:=hx;obtain⟨b,rfl,q2⟩:=hy;refine wpAny_eqBool_tuple hu q q2 ?_;by_cases e:x=y
  ·subst e;rw[BD rfl]at h ⊢;exact h
  ·rw[AW (by simpa using e)]at h;rw[AW e];exact h
theorem wZ{Q:Bool→Shared→Prop}(hx:Gx P w s.heap x u)(h:Q true s):wpAny (model P w) A (eqIsQuiet 8 u) Q E s:=by
 obtain _|x|x:=x
 ·cases (show u=.none from hx);rw[eqIsQuiet_byValue _ rfl];exact AG h
 ·rw[eqIsQuiet_byValue _ ((mixKind P w).byValue x u hx)];exact AG h
 ·obtain⟨a,rfl,q⟩:=hx;exact wpAny_eqIsQuiet_tuple q h
theorem a1s{Q:Int→Shared→Prop}(hu:A.units<cLine)(hx:Gx P w s.heap x u)(h:∀tk,Q (mkHash P w x) {s with toks:=tk}):wpAny (model P w) A (pyHash u) Q E s:=by
 obtain _|x|x:=x
 ·cases (show u=.none from hx);unfold pyHash;have hv:[Value.none].any Value.onHeap=false:=rfl;refine AB ?_;rw[cRoomFor,AR (by rw[hv];exact BB)];refine AG ?_;have hT:s.TypeIs .none "NoneType":=rfl;refine AB (FI hT EF.lookup ?_);rw[AR (show¬(some (Value.builtin "NoneType.__hash__")==some Value.none)=true by rw[beq_builtin_none];exact BB)];refine AB (FI hT EF.lookup ?_);show wpAny _ _ (callSpecialIfBoundUnlessNone? Value.none (Str.ofString "__hash__") _>>=_) _ _ _;refine AB (wpAny_callSpecialIfBoundUnlessNone?_slot hT EF (CQ EF hT PySem.F.entry_NoneType_hash ?_ (PySem.F.args_NoneType_hash_1 _)));refine wpAny_ret_mkInt ?_;exact AG (h _)
 ·exact(mixKind P w).pyHash hx (h _)
 ·obtain⟨a,rfl,q⟩:=hx;exact wpAny_pyHash_tuple hu q (h _)
end
def Iv(ks:List MK)(k:MK):Option Nat:=ks.findIdx? fun x=>decide (x=k)
def Eo(ks:List MK)(k:MK)(i:Nat):Bool:=decide (ks[i]?=some k)
theorem qF{ks:List MK}{j:Nat}(h:Iv ks k=some j):ks[j]?=some k∧∀i,i<j→ks[i]?≠some k:=by
 obtain⟨h1,h2,h3⟩:=List.findIdx?_eq_some_iff_getElem.mp h;refine⟨by rw[CL h1];exact congrArg some (ED h2),fun i hi e=>?_⟩;have:=h3 i hi;obtain⟨q1,q2⟩:=AT.mp e;rw[q2]at this;simp at this
theorem xH{ks:List MK}(h:Iv ks k=none)(i:Nat):ks[i]?≠some k:=fun e=>by
 have:=List.findIdx?_eq_none_iff.mp h k (DC e);simp at this
theorem a0c(ks:List MK)(k:MK):(List.range ks.length).find? (Eo ks k)=Iv ks k:=by
 cases h:Iv ks k with
 |none=>
  rw[List.find?_eq_none];intro i hi z;exact xH h i (ED z)
 |some j=>
  obtain⟨h1,h2⟩:=qF h;rw[List.find?_range_eq_some];refine⟨by unfold Eo;exact BD h1,FG.mpr (AT.mp h1).1,fun i hi=>?_⟩;unfold Eo;rw[AW (h2 i hi)];rfl
section
variable{P:Program}{w:World}{A:Around}{E:Value→Shared→Prop}{s:Shared}
variable (P w)in
structure Kh(h:Heap)(es:Array DictEntry)(ks:List MK):Prop where
 len:es.size=ks.length
 at_:∀(i:Nat) (e:DictEntry) (k:MK),es[i]?=some e→ks[i]?=some k→Gx P w h k e.key∧e.hash=mkHash P w k
 nd:ks.Nodup
theorem Kh.get{es:Array DictEntry}{ks:List MK}(x:Kh P w h es ks){i:Nat}{e:DictEntry}(q:es[i]?=some e):∃k,ks[i]?=some k∧Gx P w h k e.key∧e.hash=mkHash P w k:=by
 have hl:i<ks.length:=by rw[←x.len];exact(BX.mp q).1
 exact⟨ks[i],CL hl,x.at_ i e _ q (CL hl)⟩
theorem Kh.one{es:Array DictEntry}{ks:List MK}(x:Kh P w h es ks){i j:Nat}(h1:Eo ks k i=true)(h2:Eo ks k j=true):i=j:=by
 have e1:=ED h1;have e2:=ED h2;exact(List.getElem?_inj (AT.mp e1).1 x.nd).mp (e1.trans e2.symm)
abbrev plc(es:Array DictEntry)(h:Int):List Nat:=placesWithHash es.size (fun i=>es[i]?.map (·.hash)) h
theorem xP{es:Array DictEntry}{ks:List MK}(x:Kh P w h es ks)(k:MK):(plc es (mkHash P w k)).find? (Eo ks k)=Iv ks k:=by
 unfold plc placesWithHash;rw[List.find?_filter,←a0c,x.len];congr 1;funext i;cases hp:Eo ks k i with
 |false=>simp
 |true=>
  have e1:=ED hp;have hl:i<es.size:=by rw[x.len];exact(AT.mp e1).1
  obtain⟨k',q1,q2,q3⟩:=x.get (BL hl);rw[e1]at q1;cases q1;simp[BL hl,q3]
theorem a6j{es:Array DictEntry}{h:Int}{i:Nat}(hi:i∈plc es h):i<es.size:=by
 have:=(GA.mp hi).1;simpa using this
theorem b4y{es:Array DictEntry}{h:Int}:(plc es h).Nodup:=List.nodup_range.sublist List.filter_sublist
theorem yH{o:Obj}{es:Array DictEntry}{ep:Nat}{ks:List MK}{Q:Option Nat→Shared→Prop}(hu:A.units<cLine)(x:Kh P w s.heap es ks)(hk:Gx P w s.heap k u)
  (ho:s.heap.get? d=some o)(hd:o.data=.dict es ep)(h:Q (Iv ks k) s):wpAny (model P w) A (dictWalkPlain d u (mkHash P w k) es (plc es (mkHash P w k))) Q E s:=by
 have hf:=xP x k;have hl:∀i∈plc es (mkHash P w k),i<es.size:=fun i hi=>a6j hi;generalize plc es (mkHash P w k)=L at hf hl ⊢;rw[←hf]at h;unfold dictWalkPlain;refine AB (wpAny_forIn_list _ (fun rest b s'=>s'=s∧b=(none,())∧rest.find? (Eo ks k)=L.find? (Eo ks k)∧∀i∈rest,i<es.size) _ ?_ ?_ _ _ ⟨rfl,rfl,rfl,hl⟩)
 ·rintro i rest b s' ⟨rfl,rfl,h1,h2⟩;have hlt:=h2 i AM;have he:es[i]?=some es[i]:=BL hlt;obtain⟨k',q1,q2,q3⟩:=x.get he;have no:k'≠k→rest.find? (Eo ks k)=L.find? (Eo ks k):=fun hne=>by
   rw[←h1,CV];have:Eo ks k i=false:=by unfold Eo;rw[q1];exact AW (by simpa using hne)
   rw[this]
  have rs:∀j∈rest,j<es.size:=fun j hj=>h2 j (AC _ hj);rw[he];dsimp only;split
  ·refine AB (FC ho hd (AB (a7x hu q2 hk (AB (FC ho hd ?_)))));rw[AR (by simp)];by_cases hkk:k'=k
   ·subst hkk;rw[BD rfl];have hi:Eo ks k' i=true:=by unfold Eo;exact BD q1
    have:L.find? (Eo ks k')=some i:=by rw[←h1,CV,hi]
    rw[this]at h;exact AB (EW (AG (AG h)))
   ·rw[AW hkk];exact AB (EW (AG ⟨rfl,rfl,no hkk,rs⟩))
  ·rename_i hh;exact AG ⟨rfl,rfl,no (fun e=>hh (by rw[q3,e];simp)),rs⟩
 ·rintro b s' ⟨rfl,rfl,h1,_⟩;rw[←h1]at h;exact AG h
end
end DL
namespace DL
open PySem PySem.Spec PyProof.Rows L2
section
variable{P:Program}{w:World}{A:Around}{E:Value→Shared→Prop}{s:Shared}
theorem vT{Q:Bool→Shared→Prop}(hk:Gx P w s.heap k u)(hl:∀v∈L,∃k',Gx P w s.heap k' v)(h:Q false s):wpAny (model P w) A (tableMayTell u L) Q E s:=by
 unfold tableMayTell;split
 ·exact AG h
 ·refine AB (wZ hk ?_);rw[AR (by simp)];refine AB (wpAny_forIn_list _ (fun rest r s'=>s'=s∧r=(none,())∧∀v∈rest,v∈L) _ ?_ ?_ _ _ ⟨rfl,rfl,fun _ z=>z⟩)
  ·rintro v rest r s' ⟨rfl,rfl,hr⟩;obtain⟨k',q⟩:=hl v (hr v AM);refine AB (wZ q ?_);rw[AR (by simp)];exact AG ⟨rfl,rfl,fun y hy=>hr y (AC _ hy)⟩
  ·rintro r s' ⟨rfl,rfl,_⟩;exact AG h
theorem b0k{ks:List MK}{i:Nat}(q1:ks[i]?=some k')(e:k'=k):Eo ks k i=true:=by
 unfold Eo;rw[←e];exact BD q1
theorem a2p{ks:List MK}{i:Nat}{rest:List Nat}{hit:Option Nat}(hc:(hit=none∧(i::rest).find? (Eo ks k)=Iv ks k)∨∃j,hit=some j∧Iv ks k=some j∧Eo ks k j=true∧j∉i::rest)(q1:ks[i]?=some k')(hne:¬k'=k):
  (hit=none∧rest.find? (Eo ks k)=Iv ks k)∨∃j,hit=some j∧Iv ks k=some j∧Eo ks k j=true∧j∉rest:=by
 obtain⟨e,h1⟩|⟨j,e,h1,h4,h5⟩:=hc
 ·refine .inl ⟨e,?_⟩;rw[←h1,CV];have:Eo ks k i=false:=by unfold Eo;rw[q1];exact AW (by simpa using hne)
  rw[this]
 ·exact .inr ⟨j,e,h1,h4,fun z=>h5 (AC _ z)⟩
theorem mL{v:Value}(q:Gx P w h k v):v.isStr z=decide (k=some (.inl (.inr z))):=by
 by_cases e:k=some (.inl (.inr z))
 ·subst e;rw[BD rfl];obtain⟨i,t,e,_⟩|⟨i,t,e,rfl⟩:=aV q
  ·cases e
  ·cases e;simp[Value.isStr]
 ·rw[AW e];cases v<;>first|rfl|skip
  rename_i y t;simp only[Value.isStr,BS,ne_eq];rintro rfl;exact e (xA q (mJ y t))
theorem a8x{es:Array DictEntry}{ks:List MK}(x:Kh P w h es ks)(z:Str):(es.findIdx? fun e=>e.key.isStr z)=Iv ks (some (.inl (.inr z))):=by
 cases hk:Iv ks (some (.inl (.inr z)))with
 |none=>
  rw[Array.findIdx?_eq_none_iff];intro e he;obtain⟨i,hi⟩:=Array.mem_iff_getElem?.mp he;obtain⟨k',q1,q2,_⟩:=x.get hi;rw[mL q2];exact AW fun(e:k'=_)=>xH hk i (by rw[←e];exact q1)
 |some j=>
  obtain⟨h1,h2⟩:=qF hk;have hj:j<es.size:=by rw[x.len];exact(AT.mp h1).1
  rw[Array.findIdx?_eq_some_iff_getElem];refine⟨hj,?_,fun i hi=>?_⟩
  ·obtain⟨k',q1,q2,_⟩:=x.get (BL hj);rw[mL q2];rw[h1]at q1;cases q1;exact BD rfl
  ·obtain⟨k',q1,q2,_⟩:=x.get (BL (Nat.lt_trans hi hj));rw[mL q2,AW (fun(e:k'=_)=>h2 i hi (by rw[←e];exact q1))];simp
theorem b7z{g:Prop}(h:∃T:Prop,(T→g)∧T):g:=let⟨_,f,k⟩:=h;f k
theorem xQ{o:Obj}{es:Array DictEntry}{ep:Nat}{ks:List MK}{Q:Option Nat→Shared→Prop}(hu:A.units<cLine)(x:Kh P w s.heap es ks)(hk:Gx P w s.heap k u)
  (ho:s.heap.get? d=some o)(hd:o.data=.dict es ep)(h:Q (Iv ks k) s):wpAny (model P w) A (dictFind d u (mkHash P w k)) Q E s:=by
 have hst:∀v∈(plc es (mkHash P w k)).filterMap (fun i=>es[i]?.map (·.key)),∃k',Gx P w s.heap k' v:=fun v hv=>by
  obtain⟨i,_,e⟩:=ER.mp hv;obtain⟨e',e1,rfl⟩:=AF.mp e;obtain⟨k',_,q,_⟩:=x.get e1;exact⟨k',q⟩
 have hany:¬(es.any fun e=>e.key==u&&e.hash != mkHash P w k)=true:=fun z=>by
  obtain⟨i,hi,z⟩:=Array.any_eq_true.mp z;rw[AE,FK,bne_iff_ne]at z;obtain⟨k',_,q,q3⟩:=x.get (BL hi);rw[z.1]at q;exact z.2 (by rw[q3,xA q hk])
 have hf:=xP x k;have hl:∀i∈plc es (mkHash P w k),i<es.size:=fun i hi=>a6j hi;have hnd:(plc es (mkHash P w k)).Nodup:=b4y;have hpl:wpAny (model P w) A (dictWalkPlain d u (mkHash P w k) es (plc es (mkHash P w k))) Q E s:=yH hu x hk ho hd h;unfold dictFind;refine BR (AB (wpAny_dictEntries ho hd ?_));refine b7z ?_;apply Exists.intro;apply And.intro
 ·intro tl;have hcase:(∃a,u=.ref a)∨(∃z t,u=.str z t∧k=some (.inl (.inr z)))∨(u=.none∨∃i t,u=.int i t):=by
   clear tl;obtain _|k|k:=k
   ·exact .inr (.inr (.inl hk))
   ·obtain⟨i,t,rfl,rfl⟩|⟨i,t,rfl,rfl⟩:=aV hk
    ·exact .inr (.inr (.inr ⟨i,t,rfl⟩))
    ·exact .inr (.inl ⟨i,t,rfl,rfl⟩)
   ·obtain⟨a,rfl,_⟩:=hk;exact .inl ⟨a,rfl⟩
  obtain⟨a,ea⟩|⟨z,t,ea,hkz⟩|ea|⟨i,t,ea⟩:=hcase
  all_goals rw[ea]
  all_goals dsimp only
  rotate_left
  refine wpAny_ite_split (fun hall=>?_) fun _=>?_
  ·clear tl;unfold foundByValue;rw[a8x x z,←hkz];cases hj:Iv ks k with
   |none=>rw[hj]at h;exact AG h
   |some j=>
    obtain⟨h1,_⟩:=qF hj;have hlt:j<es.size:=by rw[x.len];exact(AT.mp h1).1
    obtain⟨k',q1,q2,_⟩:=x.get (BL hlt);rw[h1]at q1;cases q1;dsimp only;rw[BL hlt,←ea];refine AB (FC ho hd (AB (a7x hu q2 hk (AB (FC ho hd ?_)))));rw[AR (by simp),BD rfl];rw[hj]at h;exact AB (EW (AG h))
  all_goals rw[←ea]
  all_goals refine wpAny_ite_split (fun _=>hpl) fun _=>?_
  rotate_right
  rw[AR hany]
  all_goals refine wpAny_ite_split (fun _=>AB (AG ?_)) fun _=>AB (vT hk hst ?_)
  all_goals rw[AR (by simp)]
  all_goals exact tl
 refine AB (wpAny_forIn_list _ (fun rest b s'=>s'=s∧∃hit,b=(none,hit)∧(∀i∈rest,i<es.size)∧rest.Nodup∧
  ((hit=none∧rest.find? (Eo ks k)=Iv ks k)∨∃j,hit=some j∧Iv ks k=some j∧Eo ks k j=true∧j∉rest)) _ ?_ ?_ _ _ ⟨rfl,none,rfl,hl,hnd,.inl ⟨rfl,hf⟩⟩)
 rotate_left
 ·rintro b s' ⟨rfl,hit,rfl,_,_,hc⟩;obtain⟨rfl,h1⟩|⟨j,rfl,h1,_⟩:=hc
  ·rw[←h1]at h;exact AG h
  ·rw[h1]at h;exact AG h
 ·rintro i rest b s' ⟨rfl,hit,rfl,h2,h3,hc⟩;have hlt:=h2 i AM;have he:es[i]?=some es[i]:=BL hlt;obtain⟨k',q1,q2,q3⟩:=x.get he;obtain⟨n1,n2⟩:=CT.mp h3;have rs:∀j∈rest,j<es.size:=fun j hj=>h2 j (AC _ hj);have stay:=fun hne=>a2p hc q1 hne;rw[he];dsimp only;split
  ·refine AB (FC ho hd (AB (a7x hu q2 hk (AB (FC ho hd ?_)))));rw[AR (by simp)];by_cases hkk:k'=k
   rotate_left
   ·rw[AW hkk];simp only[BH,DB,GK];exact AB (EW (AG ⟨rfl,hit,rfl,rs,n2,stay hkk⟩))
   ·have hi:=b0k q1 hkk;rw[BD hkk];obtain⟨rfl,h1⟩|⟨j,e,h1,h4,h5⟩:=hc
    ·have hL:=h1;rw[CV,hi]at hL;simp only[DR,Option.isSome_none,BH,DB];refine AB (EW ?_);split
     ·rw[←hL]at h;exact AG (AG h)
     ·exact AG ⟨rfl,some i,rfl,rs,n2,.inr ⟨i,rfl,hL.symm,hi,n1⟩⟩
    ·exact absurd (x.one hi h4) fun z=>h5 (z▸AM)
  ·rename_i hh;exact AG ⟨rfl,hit,rfl,rs,n2,stay (fun e=>hh (by rw[q3,e];simp))⟩
end
end DL
namespace DL
open PySem PySem.Spec PyProof.Rows L2
def Qq(h:Heap)(a:Addr)(es:List DictEntry)(ep:Nat):Prop:=∃o,h.get? a=some o∧o.ExactDict∧o.data=.dict es.toArray ep
theorem Qq.typeIs{s:Shared}{a:Addr}{es:List DictEntry}{ep:Nat}(D:Qq s.heap a es ep):s.TypeIs (.ref a) "dict":=let⟨o,ho,hc,_⟩:=D;⟨o,ho,hc.1⟩
def Re(es:List DictEntry)(j:Option Nat)(h:Int)(u v:Value):List DictEntry:=match j with
 |some j=>es.modify j fun e=>{e with val:=v}
 |none=>es++[⟨h,u,v⟩]
def Rb(j:Option Nat)(ep:Nat):Nat:=match j with
 |some _=>ep
 |none=>ep+1
section
variable{P:Program}{w:World}{A:Around}{E:Value→Shared→Prop}{s:Shared}{a:Addr}{es:List DictEntry}{ep:Nat}{ks:List MK}{k:MK}{u v:Value}
theorem b9p{Q:Option Value→Shared→Prop}(hu:A.units<cLine)(D:Qq s.heap a es ep)(x:Kh P w s.heap es.toArray ks)(hk:Gx P w s.heap k u)(h:∀tk,Q ((Iv ks k).bind fun j=>es[j]?.map (·.val)) {s with toks:=tk}):
  wpAny (model P w) A (dictGet a u) Q E s:=by
 obtain⟨o,ho,_,hd⟩:=D;unfold dictGet;refine BR (AB (a1s hu hk fun tk=>AB (xQ (s:={s with toks:=tk}) hu x hk ho hd ?_)));have h:=h tk;cases hj:Iv ks k with
 |none=>rw[hj]at h;exact AG h
 |some j=>
  rw[hj]at h;refine AB (wpAny_dictEntries (s:={s with toks:=tk}) ho hd (AG ?_));rw[List.getElem?_toArray];exact h
theorem a2i{h:Heap}{f:Array DictEntry→Array DictEntry}{es':List DictEntry}{o:Obj}(ho:h.get? a=some o)(hc:o.ExactDict)(hd:o.data=.dict es.toArray ep)(he:f es.toArray=es'.toArray):
  Qq (h.update a (Obj.mapDict f)) a es' ep∧Qq (h.update a (Obj.mapDictKeys f)) a es' (ep+1):=
 ⟨⟨_,BW _ ho (Obj.isFreed_of_dict (Obj.data_mapDict hd _)),hc.mapDict _,by rw[Obj.data_mapDict hd,he]⟩,⟨_,BW _ ho (Obj.isFreed_of_dict (Obj.data_mapDictKeys hd _)),hc.mapDictKeys _,by rw[Obj.data_mapDictKeys hd,he]⟩⟩
theorem b9n{Q:Unit→Shared→Prop}(hu:A.units<cLine)(D:Qq s.heap a es ep)(x:Kh P w s.heap es.toArray ks)(hk:Gx P w s.heap k u)(hl:es.length≤sizeLine)
  (h:∀h' tk,Qq h' a (Re es (Iv ks k) (mkHash P w k) u v) (Rb (Iv ks k) ep)→Heap.SameBut a s.heap h'→Q () {s with heap:=h',toks:=tk}):wpAny (model P w) A (dictSet a u v) Q E s:=by
 obtain⟨o,ho,hc,hd⟩:=D;unfold dictSet;refine BR (AB (a1s hu hk fun tk=>?_));unfold dictSetHashed;refine BR (AB (xQ (s:={s with toks:=tk}) hu x hk ho hd ?_));cases hj:Iv ks k with
 |none=>
  rw[hj]at h;exact AB (EW (wpAny_updateDictKeys (s:={s with toks:=tk}) ho hd (h _ tk (a2i ho hc hd (by simp[Re])).2 (EV ..)) (hz:=by simpa using hl)))
 |some j=>
  rw[hj]at h;exact AB (EW (AB (wpAny_updateDict (s:={s with toks:=tk}) ho hd (wpAny_point (h _ tk (a2i ho hc hd (by simp[Re])).1 (EV ..))))))
end
def Gz:List D→Option (List L2.Key)
 |[]=>some []
 |.int i::r=>(Gz r).map (Sum.inl i::·)
 |.str x::r=>(Gz r).map (Sum.inr x::·)
 |_::_=>none
def Lj:D→Option MK
 |.non=>some none
 |.int i=>some (some (.inl (.inl i)))
 |.str x=>some (some (.inl (.inr x)))
 |.tup xs=>(Gz xs).map fun ks=>some (.inr ks)
 |_=>none
theorem sN:∀{xs ys:List D} {ks:List L2.Key},Gz xs=some ks→Gz ys=some ks→xs=ys
 |[],ys,ks,h,h'=>by
  cases h;cases ys with
  |nil=>rfl
  |cons y r=>cases y<;>simp[Gz]at h'
 |x::xs,[],ks,h,h'=>by
  cases h';cases x<;>simp[Gz]at h
 |x::xs,y::ys,ks,h,h'=>by
  cases x<;>simp only[Gz]at h<;>first|(cases h;done)|skip
  all_goals (obtain⟨l,e1,rfl⟩:=AF.mp h)
  all_goals (cases y<;>simp only[Gz]at h'<;>first|(cases h';done)|skip)
  all_goals (obtain⟨l',e2,e3⟩:=AF.mp h')
  all_goals (injection e3 with e4 e5)
  all_goals first|(injection e4;done)|skip
  all_goals (injection e4 with e4;subst e4 e5;rw[sN e1 e2])
theorem a1t(h:Lj x=some k)(h':Lj y=some k):x=y:=by
 cases x<;>simp only[Lj]at h<;>first|(cases h;done)|skip
 all_goals (cases y<;>simp only[Lj]at h'<;>first|(cases h';done)|skip)
 all_goals first
  |rfl
  |(cases h;cases h';rfl)
  |(cases h;cases h')
  |(cases h;obtain⟨l,e1,e2⟩:=AF.mp h';cases e2)
  |(cases h';obtain⟨l,e1,e2⟩:=AF.mp h;cases e2)
  |(obtain⟨l,e1,e2⟩:=AF.mp h;obtain⟨l',e3,e4⟩:=AF.mp h';cases e2;cases e4;rw[sN e1 e3])
def Fy(K:W.Frag)(G:Hp)(d:D)(u:Value):Prop:=∃v,Bf K G d v∧Cg v u
theorem Fy.mono{K:W.Frag}{G G':Hp}(e:Cf G G')(h:Fy K G d u):Fy K G' d u:=let⟨v,h1,h2⟩:=h;⟨v,h1.mono e,h2⟩
theorem wG{K:W.Frag}{G:Hp}:∀{ds:List D} {vs:List V} {ks:List L2.Key},At K G ds vs→Gz ds=some ks→vs=ks.map kV
 |[],vs,ks,r,e=>by cases bZ r;cases e;rfl
 |d::ds,vs,ks,r,e=>by
  obtain⟨v,t,rfl,r1,r2⟩:=bN r;cases d<;>simp only[Gz]at e<;>first|(cases e;done)|skip
  all_goals (obtain⟨l,e1,rfl⟩:=AF.mp e;rw[wG r2 e1])
  ·cases aU r1;rfl
  ·cases aP r1;rfl
theorem yV{X:Cx}{pins:List (Addr×Obj)}{σ:St}{G H:Hp}{s:Shared}(I:Inv X pins σ H s)(sub:Cf G H)(r:Fy X.K G d u)(e:Lj d=some k):Gx X.prog X.w s.heap k u:=by
 obtain⟨v,r,ru⟩:=r;cases d<;>simp only[Lj]at e<;>first|(cases e;done)|skip
 ·cases e;cases cW r;exact ru
 ·cases e;cases aU r;obtain⟨t,rfl⟩:=ru;exact sO _ _
 ·cases e;cases aP r;obtain⟨t,rfl⟩:=ru;exact mJ _ _
 ·obtain⟨ks,e1,rfl⟩:=AF.mp e;obtain⟨a,vs,rfl,q,rr⟩:=aX r;cases ru;obtain⟨its,rv,⟨o,h1,h2,n,h3⟩,_⟩:=I.tuple (aZ sub q);rw[wG rr e1]at rv;exact⟨a,rfl,o,its.toArray,n,h1,h2,h3,by simpa using mK rv⟩
open Classical in
def Fo:List (D×D)→D→Option D
 |[],_=>none
 |(k,v)::r,d=>if k=d then some v else Fo r d
open Classical in
def Iu:List (D×D)→D→D→List (D×D)
 |[],d,v=>[(d,v)]
 |(k,x)::r,d,v=>if k=d then(k,v)::r else(k,x)::Iu r d v
open Classical in
def Rh:List (D×D)→D→List (D×D)
 |[],_=>[]
 |(k,x)::r,d=>if k=d then r else(k,x)::Rh r d
section
variable{P:Program}{w:World}{K:W.Frag}{G G':Hp}
variable (P w K G)in
def Va(p:D×D)(e:DictEntry):Prop:=Fy K G p.1 e.key∧Fy K G p.2 e.val∧∃k,Lj p.1=some k∧e.hash=mkHash P w k
variable (P w K G)in
def Gj(kvs:List (D×D))(es:List DictEntry):Prop:=Paired (Va P w K G) kvs es∧(kvs.map (·.1)).Nodup
theorem Gj.mono{es:List DictEntry}(e:Cf G G')(h:Gj P w K G kvs es):Gj P w K G' kvs es:=
 ⟨Paired.mapP h.1 fun p q z=>⟨z.1.mono e,z.2.1.mono e,z.2.2⟩,h.2⟩
def Fa(kvs:List (D×D)):List MK:=kvs.map fun p=>(Lj p.1).getD none
theorem jV{α β:Type}{F:α→β→Prop}:∀{l:List α} {m:List β} {i:Nat} {a:α},Paired F l m→l[i]?=some a→∃b,m[i]?=some b∧F a b
 |_,_,_,_,.nil,e=>by simp at e
 |_,_,0,_,.cons r _,e=>by simp at e;subst e;exact⟨_,rfl,r⟩
 |_,_,i+1,a,.cons _ t,e=>by
  obtain⟨b,h1,h2⟩:=jV (i:=i) (a:=a) t (by simpa using e);exact⟨b,by simpa using h1,h2⟩
theorem jJ{α β:Type}{F:α→β→Prop}:∀{l l':List α} {m m':List β},Paired F l m→Paired F l' m'→Paired F (l++l') (m++m')
 |_,_,_,_,.nil,h=>h
 |_,_,_,_,.cons r t,h=>.cons r (jJ t h)
theorem jI{α β:Type}{F:α→β→Prop}{f:α→α}{g:β→β}:∀{l:List α} {m:List β} (j:Nat),Paired F l m→(∀a b,l[j]?=some a→m[j]?=some b→F a b→F (f a) (g b))→Paired F (l.modify j f) (m.modify j g)
 |_,_,j,.nil,_=>by simpa using Paired.nil
 |_,_,0,.cons r t,h=>.cons (h _ _ rfl rfl r) t
 |_,_,j+1,.cons r t,h=>.cons r (jI j t fun a b e1 e2=>h a b (by simpa using e1) (by simpa using e2))
theorem Gj.ents{X:Cx}{pins:List (Addr×Obj)}{σ:St}{H:Hp}{s:Shared}{es:List DictEntry}(I:Inv X pins σ H s)(sub:Cf G H)(h:Gj X.prog X.w X.K G kvs es):Kh X.prog X.w s.heap es.toArray (Fa kvs):=by
 obtain⟨h1,h2⟩:=h;refine⟨by simp[Fa,GG h1],fun i e k he hk=>?_,?_⟩
 ·rw[List.getElem?_toArray]at he;unfold Fa at hk;rw[BO]at hk;obtain⟨p,hp,rfl⟩:=AF.mp hk;obtain⟨e',he',q1,_,k',q2,q3⟩:=jV h1 hp;rw[he]at he';cases he';rw[q2];exact⟨yV I sub q1 q2,q3⟩
 ·have aux:∀{l:List (D×D)} {m:List DictEntry},Paired (Va X.prog X.w X.K G) l m→(l.map (·.1)).Nodup→(Fa l).Nodup:=by
   intro l m hp
   induction hp with
   |nil=>intro _;exact List.nodup_nil
   |@cons p e l m q t ih=>
    intro nd;rw[AO,CT]at nd;show(_::Fa l).Nodup;rw[CT];refine⟨fun z=>?_,ih nd.2⟩;obtain⟨p',hp',e'⟩:=CF.mp z;obtain⟨_,_,k,hk,_⟩:=q;obtain⟨i,hi⟩:=List.mem_iff_getElem?.mp hp';obtain⟨_,_,_,_,k',hk',_⟩:=jV t hi;dsimp only at e';rw[hk,hk']at e';have:k'=k:=e';subst this;exact nd.1 (CF.mpr ⟨p',hp',a1t hk' hk⟩)
  exact aux h1 h2
theorem Gj.look{kvs:List (D×D)}{es:List DictEntry}(h:Gj P w K G kvs es)(hd:Lj d=some k):
  (Iv (Fa kvs) k=none∧Fo kvs d=none∧(∀v,Iu kvs d v=kvs++[(d,v)])∧d∉kvs.map (·.1))∨∃j x e,Iv (Fa kvs) k=some j∧kvs[j]?=some (d,x)∧es[j]?=some e∧Fo kvs d=some x∧Fy K G x e.val∧(∀v,Iu kvs d v=kvs.modify j fun p=>(p.1,v))∧Rh kvs d=kvs.eraseIdx j:=by
 obtain⟨h1,h2⟩:=h
 induction h1 with
 |nil=>exact .inl ⟨rfl,rfl,fun _=>rfl,by simp⟩
 |@cons p e l m q t ih=>
  obtain⟨y,z⟩:=p;rw[AO,CT]at h2;obtain⟨_,q2,k',q3,_⟩:=q;have q3:Lj y=some k':=q3;have hks:Fa ((y,z)::l)=k'::Fa l:=by unfold Fa;rw[AO,q3];rfl
  by_cases hy:y=d
  ·subst hy;rw[hd]at q3;cases q3;refine .inr ⟨0,z,e,?_,rfl,rfl,by simp[Fo],q2,fun v=>by simp[Iu,List.modify],by simp[Rh]⟩;rw[hks];unfold Iv;rw[List.findIdx?_cons];simp
  ·have hne:k'≠k:=fun e=>hy (a1t q3 (e▸hd));have hk':Iv (Fa ((y,z)::l)) k=(Iv (Fa l) k).map (·+1):=by
    rw[hks];unfold Iv;rw[List.findIdx?_cons];simp[hne]
   obtain⟨i1,i2,i3,i4⟩|⟨j,x,e',i1,i2,i3,i4,i5,i6,i7⟩:=ih h2.2
   ·refine .inl ⟨by rw[hk',i1];rfl,by simp[Fo,hy,i2],fun v=>by simp[Iu,hy,i3 v],?_⟩;rw[AO,AN,not_or];exact⟨fun e=>hy e.symm,i4⟩
   ·exact .inr ⟨j+1,x,e',by rw[hk',i1];rfl,by simpa using i2,by simpa using i3,by simp[Fo,hy,i4],i5,fun v=>by simp[Iu,hy,i6 v],by simp[Rh,hy,i7]⟩
theorem Gj.put{es:List DictEntry}(h:Gj P w K G kvs es)(hd:Lj d=some k)(ru:Fy K G d u)(rv:Fy K G x v):Gj P w K G (Iu kvs d x) (Re es (Iv (Fa kvs) k) (mkHash P w k) u v):=by
 obtain⟨i1,i2,i3,i4⟩|⟨j,y,e',i1,i2,i3,i4,i5,i6,i7⟩:=h.look hd
 ·rw[i1,i3];refine⟨jJ h.1 (.cons ⟨ru,rv,k,hd,rfl⟩ .nil),?_⟩;rw[BY,List.nodup_append];refine⟨h.2,by simp,fun a ha b hb e=>?_⟩;simp at hb;subst hb e;exact i4 ha
 ·rw[i1,i6];refine⟨jI j h.1 fun a b _ _ q=>⟨q.1,rv,q.2.2⟩,?_⟩;have:∀(l:List (D×D)) (j:Nat),(l.modify j fun p=>(p.1,x)).map (·.1)=l.map (·.1):=by
   intro l
   induction l with
   |nil=>intro j;simp
   |cons p l ih=>
    intro j;cases j with
    |zero=>simp
    |succ j=>simp[ih j]
  rw[this];exact h.2
end
inductive Nv where
 |lst (xs:List D)|dct (kvs:List (D×D)) (ep:Nat)|obj (C:Addr) (fs:List (Str×D))
abbrev Mh:=Addr→Option Nv
def Mt(M:Mh)(a:Addr)(c:Nv):Mh:=fun b=>if b=a then some c else M b
theorem eQ{M:Mh}{a:Addr}{c:Nv}:Mt M a c a=some c:=by unfold Mt;rw[AS rfl]
theorem mE{M:Mh}{a b:Addr}{c:Nv}(h:b≠a):Mt M a c b=M b:=by unfold Mt;rw[AR h]
def dE(a:Addr)(es:List DictEntry)(ep:Nat):HO:=.ext fun h=>Qq h a es ep∧(a==sysModules)=false∧es.length≤Ci
def Oy(K:W.Frag)(G:Hp):List (Str×D)→List (Str×V)→Prop:=Paired fun p q=>p.1=q.1∧Bf K G p.2 q.2
section
variable(P:Program)(w:World)(K:W.Frag)
def Fd(G H:Hp)(a:Addr):Nv→Prop
 |.lst xs=>∃vs,H a=some (.lst vs)∧At K G xs vs
 |.dct kvs ep=>∃es,H a=some (dE a es ep)∧Gj P w K G kvs es
 |.obj C fs=>∃dx vs,H a=some (.ins C dx vs)∧Oy K G fs vs
structure MR(M:Mh)(G H:Hp):Prop where
 cell:∀a c,M a=some c→G a=none∧Fd P w K G H a c
end
structure XM(M:Mh)(G H:Hp)(M':Mh)(G' H':Hp):Prop where
 g:Cf G G'
 sub:Cf G' H'
 new:∀b,G' b≠none→G b≠none∨H b=none
 keep:∀b o,H b=some o→M b=none→H' b=some o
 dom:∀b,M' b≠none→M b≠none∨H b=none
 cells:∀b,M b≠none→M' b≠none
theorem XM.refl{M:Mh}{G H:Hp}(s:Cf G H):XM M G H M G H:=⟨Cf.refl G,s,fun _ h=>.inl h,fun _ _ h _=>h,fun _ h=>.inl h,fun _ h=>h⟩
theorem XM.free{M M':Mh}{G H G' H':Hp}{b:Addr}(x:XM M G H M' G' H')(hM:M b=none)(h:H' b=none):H b=none:=by
 cases e:H b with
 |none=>rfl
 |some o=>rw[x.keep b o e hM]at h;cases h
section
variable{P:Program}{w:World}{K:W.Frag}{M M1 M2:Mh}{G H G' H' G1 H1 G2 H2:Hp}
theorem Oy.mono{fs:List (Str×D)}{vs:List (Str×V)}(e:Cf G G')(h:Oy K G fs vs):Oy K G' fs vs:=Paired.mapP h fun _ _ z=>⟨z.1,z.2.mono e⟩
theorem Fd.mono{a:Addr}{c:Nv}(e:Cf G G')(h:Fd P w K G H a c)(hH:H' a=H a):Fd P w K G' H' a c:=by
 cases c with
 |lst xs=>obtain⟨vs,h1,h2⟩:=h;exact⟨vs,hH.trans h1,h2.mono e⟩
 |dct kvs ep=>obtain⟨es,h1,h2⟩:=h;exact⟨es,hH.trans h1,h2.mono e⟩
 |obj C fs=>obtain⟨dx,vs,h1,h2⟩:=h;exact⟨dx,vs,hH.trans h1,h2.mono e⟩
theorem Fd.has{a:Addr}{c:Nv}(h:Fd P w K G H a c):H a≠none:=by
 cases c with
 |lst xs=>obtain⟨vs,h1,h2⟩:=h;rw[h1];simp
 |dct kvs ep=>obtain⟨es,h1,h2⟩:=h;rw[h1];simp
 |obj C fs=>obtain⟨dx,vs,h1,h2⟩:=h;rw[h1];simp
theorem MR.has(m:MR P w K M G H){c:Addr}(h:M c≠none):H c≠none:=by
 cases e:M c with
 |none=>exact absurd e h
 |some q=>exact(m.cell c q e).2.has
theorem XM.trans(a:XM M G H M1 G1 H1)(b:XM M1 G1 H1 M2 G2 H2)(m:MR P w K M1 G1 H1):XM M G H M2 G2 H2 where
 g:=a.g.trans b.g
 sub:=b.sub
 new:=fun c h=>by
  obtain z|z:=b.new c h
  ·exact a.new c z
  ·cases hM:M c with
   |none=>exact .inr (a.free hM z)
   |some q=>exact absurd z (m.has (a.cells c (by rw[hM];simp)))
 keep:=fun c o h hM=>by
  refine b.keep c o (a.keep c o h hM) ?_;cases e:M1 c with
  |none=>rfl
  |some q=>
   rcases a.dom c (by rw[e];simp)with z|z
   ·exact absurd hM z
   ·rw[h]at z;cases z
 dom:=fun c h=>by
  obtain z|z:=b.dom c h
  ·exact a.dom c z
  ·cases hM:M c with
   |none=>exact .inr (a.free hM z)
   |some q=>exact .inl (by simp)
 cells:=fun c h=>b.cells c (a.cells c h)
theorem XM.ext(x:Cr G H G' H'):XM M G H M G' H':=⟨x.g,x.sub,x.new,fun b o h _=>x.h b o h,fun _ h=>.inl h,fun _ h=>h⟩
theorem MR.ext(m:MR P w K M G H)(x:Cr G H G' H'):MR P w K M G' H':=⟨fun a c e=>by
 obtain⟨h1,h2⟩:=m.cell a c e;have hn:H a≠none:=h2.has;refine⟨?_,h2.mono x.g ?_⟩
 ·cases q:G' a with
  |none=>rfl
  |some o=>
   rcases x.new a (by rw[q];simp)with z|z
   ·exact absurd h1 z
   ·exact absurd z hn
 ·cases q:H a with
  |none=>exact absurd q hn
  |some o=>exact x.h a o q⟩
end
structure Nz(P:Program)(w:World)(K:W.Frag)(own:List Nat)(G H:Hp)(σ:St)(ρ:Ac)(M:Mh):Prop where
 or:OR K own G H σ ρ
 mr:MR P w K M G H
 dj:∀i∈own,∀p,σ[i]?=some (some (V.ref p))→M p=none
section
variable{P:Program}{w:World}{K:W.Frag}{own:List Nat}{M M' M1 M2:Mh}{G H G' H' G1 H1 G2 H2:Hp}{σ:St}{ρ:Ac}
theorem OR.growM(h:OR K own G H σ ρ)(x:XM M G H M' G' H')(dj:∀i∈own,∀p,σ[i]?=some (some (V.ref p))→M p=none):OR K own G' H' σ ρ where
 sub:=x.sub
 len:=h.len
 at_:=fun i d q n=>let⟨v,h1,h2⟩:=h.at_ i d q n;⟨v,h1,h2.mono x.g⟩
 own_:=fun i hi=>by
  obtain⟨p,ds,vs,h1,h2,h3,h4,h5⟩:=h.own_ i hi;refine⟨p,ds,vs,h1,h2,x.keep _ _ h3 (dj i hi p h2),?_,h5.mono x.g⟩;cases q:G' p with
  |none=>rfl
  |some o=>
   rcases x.new p (by rw[q];simp)with z|z
   ·exact absurd h4 z
   ·rw[h3]at z;cases z
 dis:=h.dis
theorem Nz.grow(s:Nz P w K own G H σ ρ M)(x:XM M G H M' G' H')(m:MR P w K M' G' H'):Nz P w K own G' H' σ ρ M':=
 ⟨s.or.growM x s.dj,m,fun i hi p e=>by
  cases q:M' p with
  |none=>rfl
  |some c=>
   obtain⟨p',ds,vs,h1,h2,h3,h4,h5⟩:=s.or.own_ i hi;rw[e]at h2;cases h2;rcases x.dom p (by rw[q];simp)with z|z
   ·exact absurd (s.dj i hi p e) z
   ·rw[h3]at z;cases z⟩
end
abbrev WE:=Ac→Mh→(D→Mh→Prop)→Prop
abbrev WA:=Ac→Mh→(List D→Mh→Prop)→Prop
abbrev WT:=Ac→Mh→(Bool→Mh→Prop)→Prop
section
variable(P:Program)(w:World)(K:W.Frag)(own:List Nat)
inductive Td(f:WE)(σ:St)(H:Hp)(Q:VK):Prop
 |mk (G:Hp) (ρ:Ac) (M:Mh) (R:D→Mh→Prop) (st:Nz P w K own G H σ ρ M) (e:f ρ M R) (k:∀d M' v G' H',R d M'→XM M G H M' G' H'→MR P w K M' G' H'→Bf K G' d v→Q v H'):Td f σ H Q
inductive Vr(f:WA)(σ:St)(H:Hp)(Q:List V→Hp→Prop):Prop
 |mk (G:Hp) (ρ:Ac) (M:Mh) (R:List D→Mh→Prop) (st:Nz P w K own G H σ ρ M) (e:f ρ M R) (k:∀d M' v G' H',R d M'→XM M G H M' G' H'→MR P w K M' G' H'→At K G' d v→Q v H'):Vr f σ H Q
inductive Tj(f:WT)(σ:St)(H:Hp)(Q:Bool→Hp→Prop):Prop
 |mk (G:Hp) (ρ:Ac) (M:Mh) (R:Bool→Mh→Prop) (st:Nz P w K own G H σ ρ M) (e:f ρ M R) (k:∀d M' G' H',R d M'→XM M G H M' G' H'→MR P w K M' G' H'→Q d H'):Tj f σ H Q
end
structure ME(X:Cx)(own:List Nat)(e:Expr)(f:WE):Prop where
 ok:PE X e (Td X.prog X.w X.K own f)
structure MA(X:Cx)(own:List Nat)(es:List Expr)(f:WA):Prop where
 ok:PA X es (Vr X.prog X.w X.K own f)
structure MT(X:Cx)(own:List Nat)(e:Expr)(f:WT):Prop where
 ok:PT X e (Tj X.prog X.w X.K own f)
def wl(f:Ac→Option D):WE:=fun ρ M R=>match f ρ with|some d=>R d M|none=>False
def Ml(f:Ac→Option Bool):WT:=fun ρ M R=>match f ρ with|some d=>R d M|none=>False
section
variable{X:Cx}{own:List Nat}{e a b c:Expr}{es rest:List Expr}{pos:Pos}{f fa fb fc:WE}{fs:WA}{ft fu:WT}{g:Ac→Option D}{gs:Ac→Option (List D)}{gt:Ac→Option Bool}
theorem mU{t:TE}(h:PE X e t)(hw:∀σ G H Q ρ M R,Nz X.prog X.w X.K own G H σ ρ M→f ρ M R→(∀d M' v G' H',R d M'→XM M G H M' G' H'→MR X.prog X.w X.K M' G' H'→Bf X.K G' d v→Q v H')→t σ H Q):ME X own e f:=
 ⟨fun pins s σ H Q I ⟨G,ρ,M,R,st,e,k⟩=>h pins s σ H Q I (hw σ G H Q ρ M R st e k)⟩
theorem b4e{t:TA}(h:PA X es t)(hw:∀σ G H Q ρ M R,Nz X.prog X.w X.K own G H σ ρ M→fs ρ M R→(∀d M' v G' H',R d M'→XM M G H M' G' H'→MR X.prog X.w X.K M' G' H'→At X.K G' d v→Q v H')→t σ H Q):MA X own es fs:=
 ⟨fun p pins s σ H Q I ⟨G,ρ,M,R,st,e,k⟩=>h p pins s σ H Q I (hw σ G H Q ρ M R st e k)⟩
theorem b8v{t:TT}(h:PT X e t)(hw:∀σ G H Q ρ M R,Nz X.prog X.w X.K own G H σ ρ M→ft ρ M R→(∀d M' G' H',R d M'→XM M G H M' G' H'→MR X.prog X.w X.K M' G' H'→Q d H')→t σ H Q):MT X own e ft:=
 ⟨fun pins s σ H Q I ⟨G,ρ,M,R,st,e,k⟩=>h pins s σ H Q I (hw σ G H Q ρ M R st e k)⟩
theorem b0i{ρ:Ac}{M:Mh}{R:D→Mh→Prop}(h:wl g ρ M R):∃d,g ρ=some d∧R d M:=by
 unfold wl at h;split at h
 ·exact⟨_,by assumption,h⟩
 ·exact h.elim
theorem a4z{ρ:Ac}{M:Mh}{R:Bool→Mh→Prop}(h:Ml gt ρ M R):∃d,gt ρ=some d∧R d M:=by
 unfold Ml at h;split at h
 ·exact⟨_,by assumption,h⟩
 ·exact h.elim
theorem bW(h:DE X own e g):ME X own e (wl g):=mU h.ok fun σ G H Q ρ M R st e' k=>by
 obtain⟨d,e1,e2⟩:=b0i e';exact⟨G,ρ,d,st.or,e1,fun v G' H' x r=>k d M v G' H' e2 (.ext x) (st.mr.ext x) r⟩
theorem uF(h:DT X own e gt):MT X own e (Ml gt):=b8v h.ok fun σ G H Q ρ M R st e' k=>by
 obtain⟨d,e1,e2⟩:=a4z e';exact⟨G,ρ,d,st.or,e1,fun G' H' x=>k d M G' H' e2 (.ext x) (st.mr.ext x)⟩
def Dx:WA:=fun _ M R=>R [] M
def Dh(f:WE)(fs:WA):WA:=fun ρ M R=>f ρ M fun d M1=>fs ρ M1 fun ds M2=>R (d::ds) M2
theorem jX:MA X own [] Dx:=b4e dD fun σ G H Q ρ M R st e k=>k [] M [] G H e (.refl st.or.sub) st.mr At.nil
theorem gC(h:ME X own e f)(hs:MA X own es fs)(hst:starEach (e::es) X.env=(false,eval e X.env)::starEach es X.env:=by rfl):MA X own (e::es) (Dh f fs):=
 b4e (bR h.ok hs.ok hst) fun σ G H Q ρ M R st e' k=>⟨G,ρ,M,_,st,e',fun d M1 v G1 H1 r1 x1 m1 q1=>⟨G1,ρ,M1,_,st.grow x1 m1,r1,fun ds M2 vs G2 H2 r2 x2 m2 q2=>
  k _ M2 _ G2 H2 r2 (x1.trans x2 m1) m2 (At.cons (q1.mono x2.g) q2)⟩⟩
def Si(P:Program)(w:World)(K:W.Frag)(r:R2)(g:Mh→D→D→Option D):Prop:=∀{x y:V} {dx dy d:D} {M:Mh} {G H:Hp} {Q:VK},Cf G H→MR P w K M G H→Bf K G dx x→Bf K G dy y→g M dx dy=some d→(∀v G' H',Cr G H G' H'→Bf K G' d v→Q v H')→r x y H Q
theorem Fz.m{P:Program}{w:World}{K:W.Frag}{r:R2}{g:D→D→Option D}(h:Fz K r g):Si P w K r (fun _=>g):=fun s _ rx ry e k=>h s rx ry e k
def w2(g:Mh→D→D→Option D)(fa fb:WE):WE:=fun ρ M R=>fa ρ M fun x M1=>fb ρ M1 fun y M2=>match g M2 x y with|some d=>R d M2|none=>False
theorem b7x{r:R2}{gm:Mh→D→D→Option D}(hg:Si X.prog X.w X.K r gm){σ:St}{G H:Hp}{Q:VK}{ρ:Ac}{M:Mh}{R:D→Mh→Prop}(st:Nz X.prog X.w X.K own G H σ ρ M)(e:w2 gm fa fb ρ M R)
  (k:∀d M' v G' H',R d M'→XM M G H M' G' H'→MR X.prog X.w X.K M' G' H'→Bf X.K G' d v→Q v H'):Sn r (Td X.prog X.w X.K own fa) (Td X.prog X.w X.K own fb) σ H Q:=
 ⟨G,ρ,M,_,st,e,fun x M1 u G1 H1 r1 x1 m1 q1=>⟨G1,ρ,M1,_,st.grow x1 m1,r1,fun y M2 v G2 H2 r2 x2 m2 q2=>by
  have r2:(match gm M2 x y with|some d=>R d M2|none=>False):=r2;split at r2
  ·rename_i d hd;exact hg x2.sub m2 (q1.mono x2.g) q2 hd fun z G3 H3 x3 q3=>k d M2 z G3 H3 r2 ((x1.trans x2 m1).trans (.ext x3) m2) (m2.ext x3) q3
  ·exact r2.elim⟩⟩
theorem a1u{op:Operator}{r:R2}{gm:Mh→D→D→Option D}(ho:Es X (binaryOp op) r)(hg:Si X.prog X.w X.K r gm)(ha:ME X own a fa)(hb:ME X own b fb):ME X own (.BinOp a op b pos) (w2 gm fa fb):=
 mU (a6o ho ha.ok hb.ok) fun σ G H Q ρ M R st e k=>b7x hg st e k
theorem b9b{r:R2}{gm:Mh→D→D→Option D}(hr:Ph X r)(hg:Si X.prog X.w X.K r gm)(ha:ME X own a fa)(hb:ME X own b fb)(hs:Ko b):ME X own (.Subscript a b pos) (w2 gm fa fb):=
 mU (a6r hr ha.ok hb.ok hs) fun σ G H Q ρ M R st e k=>b7x hg st e k
def Sl(fs:WA):WE:=fun ρ M R=>fs ρ M fun ds M1=>ds.length≤1000∧R (.lst ds) M1
end
end DL
namespace DL
open PySem PySem.Spec PyProof.Rows L2
section
variable{P:Program}{w:World}{K:W.Frag}{M:Mh}{G H:Hp}{p a:Addr}{o:HO}{c c0:Nv}
theorem MR.nocell(m:MR P w K M G H)(h:H p=none):M p=none:=by
 cases e:M p with
 |none=>rfl
 |some q=>exact absurd h (m.has (by rw[e];simp))
theorem XM.laid(s:Cf G H)(hp:H p=none):XM M G H (Mt M p c) G (upd H p o):=by
 have ne:∀{b u},H b=some u→b≠p:=fun e=>bO e hp;refine⟨Cf.refl G,fun b u e=>by rw[aT (ne (s b u e))];exact s b u e,fun b h=>.inl h,fun b u e _=>by rw[aT (ne e)];exact e,fun b h=>?_,fun b h=>?_⟩
 ·by_cases hb:b=p
  ·subst hb;exact .inr hp
  ·rw[mE hb]at h;exact .inl h
 ·by_cases hb:b=p
  ·subst hb;rw[eQ];simp
  ·rw[mE hb];exact h
theorem MR.laid(m:MR P w K M G H)(hp:H p=none)(s:Cf G H)(h:Fd P w K G (upd H p o) p c):MR P w K (Mt M p c) G (upd H p o):=⟨fun b q e=>by
 by_cases hb:b=p
 ·subst hb;rw[eQ]at e;cases e;exact⟨s.free hp,h⟩
 ·rw[mE hb]at e;obtain⟨h1,h2⟩:=m.cell b q e;exact⟨h1,h2.mono (Cf.refl G) (aT hb)⟩⟩
theorem XM.write(m:MR P w K M G H)(s:Cf G H)(ha:M a=some c0):XM M G H (Mt M a c) G (upd H a o):=by
 have hG:=(m.cell a c0 ha).1;refine⟨Cf.refl G,fun b u e=>by rw[aT (bO e hG)];exact s b u e,fun b h=>.inl h,fun b u e hb=>?_,fun b h=>?_,fun b h=>?_⟩
 ·have:b≠a:=fun z=>by subst z;rw[ha]at hb;cases hb
  rw[aT this];exact e
 ·by_cases hb:b=a
  ·subst hb;exact .inl (by rw[ha];simp)
  ·rw[mE hb]at h;exact .inl h
 ·by_cases hb:b=a
  ·subst hb;rw[eQ];simp
  ·rw[mE hb];exact h
theorem MR.write(m:MR P w K M G H)(ha:M a=some c0)(h:Fd P w K G (upd H a o) a c):MR P w K (Mt M a c) G (upd H a o):=⟨fun b q e=>by
 by_cases hb:b=a
 ·subst hb;rw[eQ]at e;cases e;exact⟨(m.cell _ c0 ha).1,h⟩
 ·rw[mE hb]at e;obtain⟨h1,h2⟩:=m.cell b q e;exact⟨h1,h2.mono (Cf.refl G) (aT hb)⟩⟩
end
open Classical in
def Pj(kvs:List (D×D))(d:D)(ep:Nat):Nat:=if(Fo kvs d).isSome then ep else ep+1
def Wz(K:W.Frag)(G:Hp):Option D→Option Value→Prop
 |some d,some u=>Fy K G d u
 |none,none=>True
 |_,_=>False
section
variable{X:Cx}{pins:List (Addr×Obj)}{σ:St}{G H:Hp}{s:Shared}{M:Mh}{a:Addr}{kvs:List (D×D)}{ep:Nat}{A:Around}{E:Value→Shared→Prop}{d x:D}{k:MK}{u v:Value}
theorem fV(I:Inv X pins σ H s)(m:MR X.prog X.w X.K M G H)(sub:Cf G H)(e:M a=some (.dct kvs ep)):∃es,H a=some (dE a es ep)∧Gj X.prog X.w X.K G kvs es∧Qq s.heap a es ep∧(a==sysModules)=false∧es.length≤Ci∧Kh X.prog X.w s.heap es.toArray (Fa kvs):=by
 obtain⟨es,h1,h2⟩:=(m.cell a _ e).2;obtain⟨⟨h3,h4,h5⟩,_⟩:=(show Dw X.prog X.w H s.heap a (dE a es ep)from I.hok a _ h1);exact⟨es,h1,h2,h3,h4,h5,h2.ents I sub⟩
theorem b3s{t':Nat}{es es':List DictEntry}{ep':Nat}(I:Inv X pins σ H s)(e:H a=some (dE a es ep))(D':Qq h' a es' ep')(hs:Heap.SameBut a s.heap h')(hn:(a==sysModules)=false)(hl:es'.length≤Ci):Inv X pins σ (upd H a (dE a es' ep')) {s with heap:=h',toks:=t'}:=by
 refine b3t I (by rw[e];exact True.intro) hs (let⟨o,h,_⟩:=D';⟨o,h⟩) ⟨⟨D',hn,hl⟩,let⟨o,h,_⟩:=D';⟨o,h⟩,fun h1 h2 z q=>?_⟩;obtain⟨⟨o,z1,z2,z3⟩,z4⟩:=z;exact⟨⟨o,q o z1,z2,z3⟩,z4⟩
theorem a9s{Q:Option Value→Shared→Prop}(hu:A.units<cLine)(I:Inv X pins σ H s)(m:MR X.prog X.w X.K M G H)(sub:Cf G H)(e:M a=some (.dct kvs ep))(r:Fy X.K G d u)(hk:Lj d=some k)
  (h:∀o s',Inv X pins σ H s'→Wz X.K G (Fo kvs d) o→Q o s'):wpAny (model X.prog X.w) A (dictGet a u) Q E s:=by
 obtain⟨es,h1,h2,h3,h4,h5,h6⟩:=fV I m sub e;refine b9p hu h3 h6 (yV I sub r hk) fun tk=>h _ _ (I.tok _) ?_;obtain⟨i1,i2,i3,i4⟩|⟨j,y,e',i1,i2,i3,i4,i5,i6,i7⟩:=h2.look hk
 ·rw[i1,i2];exact True.intro
 ·rw[i1,i4];show Wz X.K G (some y) (es[j]?.map (·.val));rw[i3];exact i5
theorem xE:∀(l:List (D×D)) (d x:D),(Iu l d x).length≤l.length+1
 |[],_,_=>by simp[Iu]
 |(y,z)::l,d,x=>by
  unfold Iu;split
  ·simp
  ·have:=xE l d x;simp only[AQ];omega
theorem b7i{Q:Unit→Shared→Prop}(hu:A.units<cLine)(I:Inv X pins σ H s)(m:MR X.prog X.w X.K M G H)(sub:Cf G H)(e:M a=some (.dct kvs ep))(r:Fy X.K G d u)(hk:Lj d=some k)(rv:Fy X.K G x v)(hl:kvs.length<Ci)
  (h:∀es' s',Inv X pins σ (upd H a (dE a es' (Pj kvs d ep))) s'→Fd X.prog X.w X.K G (upd H a (dE a es' (Pj kvs d ep))) a (.dct (Iu kvs d x) (Pj kvs d ep))→Q () s'):wpAny (model X.prog X.w) A (dictSet a u v) Q E s:=by
 obtain⟨es,h1,h2,h3,h4,h5,h6⟩:=fV I m sub e;have hlen:=GG h2.1;refine b9n hu h3 h6 (yV I sub r hk) (cE h5) fun h' tk D' hs=>?_;have h2':=h2.put (x:=x) hk r rv;have hep:Rb (Iv (Fa kvs) k) ep=Pj kvs d ep:=by
  unfold Pj;obtain⟨i1,i2,i3,i4⟩|⟨j,y,e',i1,i2,i3,i4,i5,i6,i7⟩:=h2.look hk
  ·rw[i1,i2];simp[Rb]
  ·rw[i1,i4];simp[Rb]
 rw[hep]at D';have hl':=GG h2'.1;have:=xE kvs d x;exact h _ _ (b3s I h1 D' hs h4 (by omega)) ⟨_,bY,h2'⟩
theorem a0g{Q:Value→Shared→Prop}(hu:A.units+1<cLine)(I:Inv X pins σ H s)(m:MR X.prog X.w X.K M G H)(sub:Cf G H)(e:M a=some (.dct kvs ep))(r:Fy X.K G d u)(hk:Lj d=some k)(hx:Fo kvs d=some x)
  (h:∀o s',Inv X pins σ H s'→Fy X.K G x o→Q o s'):wpAny (model X.prog X.w) A (getItem (.ref a) u) Q E s:=by
 obtain⟨es,h1,h2,h3,h4,h5,h6⟩:=fV I m sub e;have hT:=h3.typeIs;unfold getItem;refine BR (AB (wpAny_sequenceKey hT (by decide) (AB (CH (name:=Str.ofString "__getitem__") hT PySem.slot_dict_getitem (CQ PySem.slot_dict_getitem hT PySem.entry_dict_getitem ?_ (PySem.args_dict_getitem _ _))))));show wpAny (model X.prog X.w) A.in1 (dictGet a u>>=_) _ _ s;refine AB (a9s (A:=A.in1) hu I m sub e r hk fun o s' I' ho=>?_);rw[hx]at ho;cases o with
 |none=>exact ho.elim
 |some o=>exact AG ⟨o,rfl,AG (h o s' I' ho)⟩
theorem xW{Q:Bool→Shared→Prop}(hu:A.units+1<cLine)(I:Inv X pins σ H s)(m:MR X.prog X.w X.K M G H)(sub:Cf G H)(e:M a=some (.dct kvs ep))(r:Fy X.K G d u)(hk:Lj d=some k)
  (h:∀s',Inv X pins σ H s'→Q (Fo kvs d).isSome s'):wpAny (model X.prog X.w) A (contains (.ref a) u) Q E s:=by
 obtain⟨es,h1,h2,h3,h4,h5,h6⟩:=fV I m sub e;have hT:=h3.typeIs;unfold contains;refine BR (AB (FI hT FL.lookup ?_));rw[AR (by rw[beq_builtin_none];exact BB)];refine AB (wpAny_callSpecialUnlessNone?_slot (name:=Str.ofString "__contains__") hT FL (CQ FL hT PySem.entry_dict_contains ?_ (PySem.args_dict_contains _ _)));show wpAny (model X.prog X.w) A.in1 (dictGet a u>>=_) _ _ s;refine AB (a9s (A:=A.in1) hu I m sub e r hk fun o s' I' ho=>?_);cases o with
 |none=>
  have hn:Fo kvs d=none:=by
   cases q:Fo kvs d with
   |none=>rfl
   |some y=>rw[q]at ho;exact ho.elim
  have h:=h s' I';rw[hn]at h;exact AB (wpAny_pendingKey_other h4 (AG ⟨_,rfl,BK h⟩))
 |some o=>
  have hn:(Fo kvs d).isSome=true:=by
   cases q:Fo kvs d with
   |none=>rw[q]at ho;exact ho.elim
   |some y=>rfl
  have h:=h s' I';rw[hn]at h;exact AG ⟨_,rfl,BK h⟩
theorem a0f{Q:Unit→Shared→Prop}(hu:A.units+1<cLine)(I:Inv X pins σ H s)(m:MR X.prog X.w X.K M G H)(sub:Cf G H)(e:M a=some (.dct kvs ep))(r:Fy X.K G d u)(hk:Lj d=some k)(rv:Fy X.K G x v)(hl:kvs.length<Ci)
  (h:∀es' s',Inv X pins σ (upd H a (dE a es' (Pj kvs d ep))) s'→Fd X.prog X.w X.K G (upd H a (dE a es' (Pj kvs d ep))) a (.dct (Iu kvs d x) (Pj kvs d ep))→Q () s'):wpAny (model X.prog X.w) A (setItem (.ref a) u v) Q E s:=by
 obtain⟨es,h1,h2,h3,h4,h5,h6⟩:=fV I m sub e;have hT:=h3.typeIs;unfold setItem;refine BR (AB (wpAny_sequenceKey hT (by decide) (AB (CH (name:=Str.ofString "__setitem__") hT PySem.slot_dict_setitem (CQ PySem.slot_dict_setitem hT PySem.entry_dict_setitem ?_ (PySem.args_dict_setitem _ _ _))))));refine AB (wpAny_notOrdered_dict hT ?_);show wpAny (model X.prog X.w) A.in1 (dictSet a u v>>=_) _ _ s;exact AB (b7i (A:=A.in1) hu I m sub e r hk rv hl fun es' s' I' c'=>AG ⟨.none,rfl,AG (h es' s' I' c')⟩)
end
end DL
namespace DL
open PySem PySem.Spec PyProof.Rows L2
section
variable{X:Cx}{pins:List (Addr×Obj)}{σ:St}{H:Hp}{s:Shared}
theorem wI{ds es:List D}{A:Around}(I:Inv X pins σ H s)(qa:Eb X.K H a vs)(qb:Eb X.K H b ws)(rd:At X.K H ds vs)(re:At X.K H es ws)(hu:A.units<cLine)
  (h:∀(us us':List Value),Bw vs us→Bw ws us'→∀(j:Nat) u u',us[j]?=some u→us'[j]?=some u'→SeqAt.EqAt A.in1 s u u' (Cw (ds.getD j .non) (es.getD j .non))):SeqAt.RcNeAt A s (.ref a) (.ref b) (!Fg ds es):=by
 obtain⟨us,rv,p1,_⟩:=I.tuple qa;obtain⟨us',rw',p2,_⟩:=I.tuple qb;have h1:=aF rd;have h2:=aF re;have h3:=rv.length;have h4:=rw'.length;have z:=SeqAt.RcNeAt.tuples (A:=A) (e:=fun j=>Cw (ds.getD j .non) (es.getD j .non)) p1 p2 hu (lI rd re rv rw' (h us us' rv rw'));have e:((List.range (min us.toArray.size us'.toArray.size)).all (fun j=>Cw (ds.getD j .non) (es.getD j .non))&&us.toArray.size==us'.toArray.size)=Fg ds es:=by
  rw[AJ,AJ,←h3,←h4,←h1,←h2];by_cases hl:ds.length=es.length
  ·rw[hl,Nat.min_self,←hl,iW ds es hl,hl];simp
  ·rw[iR ds es hl];have:(ds.length==es.length)=false:=by simpa using hl
   rw[this,Bool.and_false]
 rw[e]at z;exact z
theorem yW{ds es:List D}{A:Around}(I:Inv X pins σ H s)(qa:Ei X.K H a vs)(qb:Ei X.K H b ws)(rd:At X.K H ds vs)(re:At X.K H es ws)(hu:A.units<cLine)
  (h:∀(us us':List Value),Bw vs us→Bw ws us'→∀(j:Nat) u u',us[j]?=some u→us'[j]?=some u'→SeqAt.EqAt A.in1 s u u' (Cw (ds.getD j .non) (es.getD j .non))):SeqAt.RcNeAt A s (.ref a) (.ref b) (!Fg ds es):=by
 obtain⟨us,rv,p1,_⟩:=I.list qa;obtain⟨us',rw',p2,_⟩:=I.list qb;have h1:=aF rd;have h2:=aF re;have h3:=rv.length;have h4:=rw'.length;by_cases hl:ds.length=es.length
 ·have z:=SeqAt.RcNeAt.lists (A:=A) (e:=fun j=>Cw (ds.getD j .non) (es.getD j .non)) p1.isList p2.isList (by rw[AJ,AJ];omega) hu (lI rd re rv rw' (h us us' rv rw'));rw[AJ,←h3,←h1,iW ds es hl]at z;exact z
 ·rw[iR ds es hl];exact SeqAt.RcNeAt.lists_lengths p1.isList p2.isList (by rw[AJ,AJ,←h3,←h4,←h1,←h2];simpa using hl) hu
theorem a6a(I:Inv X pins σ H s){A:Around}(n:Bv d=true)(n':Bv d'=true)(hu:A.units<cLine)(r:Bf X.K H d v)(r':Bf X.K H d' v')(ru:Cg v u)(ru':Cg v' u')(hT:∀xs ys,d=.tup xs→d'=.tup ys→SeqAt.RcNeAt A s u u' (!Cw d d'))(hL:∀xs ys,d=.lst xs→d'=.lst ys→SeqAt.RcNeAt A s u u' (!Cw d d')):SeqAt.RcNeAt A s u u' (!Cw d d'):=by
 cases rY I n r ru<;>cases rY I n' r' ru'
 all_goals first|exact hT _ _ rfl rfl|exact hL _ _ rfl rfl|(unfold Cw;(try simp only[Bool.not_false,GR]);with_reducible first|exact .none_none|exact .same _|exact .none_bool _|exact .none_int _ _|exact .none_str _ _|exact .none_tuple ‹_› hu|exact .none_list ‹_› hu|exact .bool_none _|exact .bool_bool _ _|exact .bool_int _ _ _|exact .bool_str _ _ _|exact .bool_tuple _ ‹_› hu|exact .bool_list _ ‹_› hu|exact .int_none _ _|exact .int_bool _ _ _|exact .int_int _ _ _ _|exact .int_str _ _ _ _|exact .int_tuple _ _ ‹_› hu|exact .int_list _ _ ‹_› hu|exact .str_none _ _|exact .str_bool _ _ _|exact .str_int _ _ _ _|exact .str_str _ _ _ _|exact .str_tuple _ _ ‹_› hu|exact .str_list _ _ ‹_› hu|exact .tuple_none ‹_› hu|exact .tuple_bool _ ‹_› hu|exact .tuple_int _ _ ‹_› hu|exact .tuple_str _ _ ‹_› hu|exact .tuple_list ‹_› ‹_› hu|exact .list_none ‹_› hu|exact .list_bool _ ‹_› hu|exact .list_int _ _ ‹_› hu|exact .list_str _ _ ‹_› hu|exact .list_tuple ‹_› ‹_› hu)
theorem a6b(I:Inv X pins σ H s)(d d':D){A:Around}(n:Bv d=true)(n':Bv d'=true)(hu:A.units+dep d<cLine)(r:Bf X.K H d v)(r':Bf X.K H d' v')(ru:Cg v u)(ru':Cg v' u'):SeqAt.RcNeAt A s u u' (!Cw d d'):=
 a6a I n n' (by omega) r r' ru ru' (fun xs ys e e'=>by
  subst e e';obtain⟨a,vs,rfl,q,rr⟩:=aX r;obtain⟨b,ws,rfl,q',rr'⟩:=aX r';cases ru;cases ru';unfold Bv at n n';unfold dep at hu;unfold Cw;exact wI I q q' rr rr' (by omega) fun us us' rv rw'=>gJ I xs ys A.in1 vs ws us us' n n' (by show A.units+1+Eg xs<cLine;omega) rr rr' rv rw') (fun xs ys e e'=>by
  subst e e';obtain⟨a,vs,rfl,q,rr⟩:=aY r;obtain⟨b,ws,rfl,q',rr'⟩:=aY r';cases ru;cases ru';unfold Bv at n n';unfold dep at hu;unfold Cw;exact yW I q q' rr rr' (by omega) fun us us' rv rw'=>gJ I xs ys A.in1 vs ws us us' n n' (by show A.units+1+Eg xs<cLine;omega) rr rr' rv rw')
def Tx(K:W.Frag):R2:=fun x y H Q=>∃dx dy,Bf K H dx x∧Bf K H dy y∧Bv dx=true∧Bv dy=true∧dep dx≤40∧Q (.bl (!Cw dx dy)) H
theorem a7b(hu:X.A.units+64<cLine):Es X (compareOp .NotEq) (Tx X.K):=by
 intro pins s σ H x y v u Q I rx ry h;obtain⟨dx,dy,r1,r2,n1,n2,hd,q⟩:=h;exact a6b I dx dy n1 n2 (by omega) r1 r2 rx ry X.prog X.w X.xe _ ⟨.bl _,H,I,rfl,q⟩
def Jm:D→D→Option D:=fun x y=>if Bv x&&Bv y&&decide (dep x≤40)then some (.bl (!Cw x y))else none
theorem a7m{K:W.Frag}:Fz K (Tx K) Jm:=by
 intro x y dx dy d G H Q sub rx ry e k;unfold Jm at e;split at e
 ·rename_i h;rw[AE,AE,AH]at h;cases e;exact⟨dx,dy,rx.mono sub,ry.mono sub,h.1.1,h.1.2,h.2,k _ G H (Cr.refl sub) Bf.bl⟩
 ·cases e
open Classical in
def rR(K:W.Frag)(H:Hp)(x:D)(u:Value):Bool:=decide (∃d,Fy K H d u∧Bv d=true∧Cw d x=true)
open Classical in
theorem a9b(I:Inv X pins σ H s)(r:Fy X.K H d u)(n:Bv d=true):rR X.K H x u=Cw d x:=by
 unfold rR;cases h:Cw d x with
 |true=>exact BD ⟨d,r,n,h⟩
 |false=>
  refine AW ?_;rintro⟨d',⟨v',r',ru'⟩,n',h'⟩;obtain⟨v,r,ru⟩:=r;have:=ru.inj ru';subst this;rw[tW I d d' v n n' r r']at h;rw[h]at h';cases h'
theorem vM(I:Inv X pins σ H s):∀{ds:List D} {vs:List V} {us:List Value},At X.K H ds vs→Bw vs us→Cs ds=true→us.any (rR X.K H x)=ds.any fun d=>Cw d x
 |[],vs,us,r,rv,_=>by cases bZ r;cases rv;rfl
 |d::ds,vs,us,r,rv,n=>by
  obtain⟨v,t,rfl,r1,r2⟩:=bN r;unfold Cs at n;rw[AE]at n;cases rv with
  |cons rv1 rv2=>rw[CD,CD,a9b I ⟨v,r1,rv1⟩ n.1,vM I r2 rv2 n.2]
theorem uI(I:Inv X pins σ H s){A:Around}(rx:Bf X.K H x y)(ry:Cg y v)(nx:Bv x=true):∀{ds:List D} {vs:List V} {us:List Value},At X.K H ds vs→Bw vs us→Cs ds=true→A.units+Eg ds<cLine→∀u∈us,SeqAt.EqAt A s u v (rR X.K H x u)
 |[],vs,us,r,rv,_,_=>fun u hu=>by cases bZ r;cases rv;cases hu
 |d::ds,vs,us,r,rv,n,hd=>fun u hu=>by
  obtain⟨z,t,rfl,r1,r2⟩:=bN r;unfold Cs at n;rw[AE]at n;unfold Eg at hd;cases rv with
  |cons rv1 rv2=>
   obtain rfl|hu:=AN.mp hu
   ·rw[a9b I ⟨z,r1,rv1⟩ n.1];exact a9d I d x A z y _ _ n.1 nx (by omega) r1 rx rv1 ry
   ·exact uI I rx ry nx r2 rv2 n.2 (by omega) u hu
def Uh(K:W.Frag)(neg:Bool):R2:=fun x y H Q=>∃p ys dx ds,y=.ref p∧(Ei K H p ys∨Eb K H p ys)∧Bf K H dx x∧At K H ds ys∧Bv dx=true∧Cs ds=true∧Eg ds≤40∧Q (.bl (if neg then !(ds.any fun d=>Cw d dx)else ds.any fun d=>Cw d dx)) H
theorem b5k(hu:X.A.units+64<cLine):Es X (compareOp .In) (Uh X.K false):=by
 intro pins s σ H x y v u Q I rx ry h;obtain⟨p,ys,dx,ds,rfl,hq,r1,r2,n1,n2,hd,q⟩:=h;cases ry;obtain hq|hq:=hq
 ·obtain⟨its,r,pl,hz⟩:=I.list hq;refine SeqAt.in_listAt (rR X.K H dx) pl.isList (fun w hw=>uI I r1 rx n1 r2 r n2 (by have:=sS X.A;omega) w (by simpa using hw)) ⟨.bl _,H,I,rfl,?_⟩;rw[show its.toArray.any (rR X.K H dx)=its.any (rR X.K H dx)by simp,vM I r2 r n2];exact q
 ·obtain⟨its,r,pl,hz⟩:=I.tuple hq;refine SeqAt.in_tupleAt (rR X.K H dx) pl (fun w hw=>uI I r1 rx n1 r2 r n2 (by have:=sS X.A;omega) w (by simpa using hw)) ⟨.bl _,H,I,rfl,?_⟩;rw[show its.toArray.any (rR X.K H dx)=its.any (rR X.K H dx)by simp,vM I r2 r n2];exact q
def Ui(P:Program)(w:World)(K:W.Frag)(neg:Bool):R2:=fun x y H Q=>∃(M:Mh) (G:Hp) (a:Addr) (kvs:List (D×D)) (ep:Nat) (d:D) (k:MK),y=.ref a∧Cf G H∧MR P w K M G H∧M a=some (.dct kvs ep)∧Bf K G d x∧Lj d=some k∧Q (.bl (if neg then !(Fo kvs d).isSome else(Fo kvs d).isSome)) H
theorem b5l(hu:X.A.units+64<cLine):Es X (compareOp .In) (Ui X.prog X.w X.K false):=by
 intro pins s σ H x y v u Q I rx ry h;obtain⟨M,G,a,kvs,ep,d,k,rfl,sub,m,e,r,hk,q⟩:=h;cases ry;exact AB (xW (A:=X.A) (by omega) I m sub e ⟨_,r,rx⟩ hk fun s' I'=>AG ⟨.bl _,H,I',rfl,q⟩)
def Qz(P:Program)(w:World)(K:W.Frag)(neg:Bool):R2:=fun x y H Q=>Uh K neg x y H Q∨Ui P w K neg x y H Q
theorem b5m(hu:X.A.units+64<cLine):Es X (compareOp .In) (Qz X.prog X.w X.K false):=(b5k hu).or (b5l hu)
def Qw(M:Mh):D→Option (List D)
 |.lst xs=>some xs
 |.tup xs=>some xs
 |.fn a=>match M a with|some (.lst xs)=>some xs|_=>none
 |_=>none
theorem a1a{K:W.Frag}{M:Mh}{G H:Hp}(sub:Cf G H)(m:MR P w K M G H)(r:Bf K G d v)(e:Qw M d=some xs):∃p ys,v=.ref p∧(Ei K H p ys∨Eb K H p ys)∧At K G xs ys:=by
 cases d<;>first|(cases e;done)|skip
 ·cases e;obtain⟨p,vs,rfl,q,rr⟩:=aX r;exact⟨p,vs,rfl,.inr (aZ sub q),rr⟩
 ·cases e;obtain⟨p,vs,rfl,q,rr⟩:=aY r;exact⟨p,vs,rfl,.inl (sub.seq q),rr⟩
 ·rename_i a;cases gW r;simp only[Qw]at e;split at e
  ·rename_i ys hy;cases e;obtain⟨_,vs,h1,h2⟩:=m.cell a _ hy;exact⟨a,vs,rfl,.inl (Ei.of h1),h2⟩
  ·cases e
def Rk(neg:Bool)(M:Mh)(x y:D):Option D:=match y with
 |.fn a=>match M a with
  |some (.dct kvs _)=>(Lj x).bind fun _=>some (.bl (if neg then !(Fo kvs x).isSome else(Fo kvs x).isSome))
  |_=>inS M x y
 |_=>inS M x y
where inS (M:Mh) (x y:D):Option D:=(Qw M y).bind fun ds=>if Bv x&&Cs ds&&decide (Eg ds≤40)then some (.bl (if neg then !(ds.any fun d=>Cw d x)else ds.any fun d=>Cw d x))else none
theorem b5q{K:W.Frag}{neg:Bool}:Si P w K (Qz P w K neg) (Rk neg):=by
 intro x y dx dy d M G H Q sub m rx ry e k;have seq:Rk.inS neg M dx dy=some d→Qz P w K neg x y H Q:=fun e=>by
  obtain⟨ds,e1,e2⟩:=AA.mp e;split at e2
  ·rename_i h;rw[AE,AE,AH]at h;cases e2;obtain⟨p,ys,rfl,q,rr⟩:=a1a sub m ry e1;exact .inl ⟨p,ys,dx,ds,rfl,q,rx.mono sub,rr.mono sub,h.1.1,h.1.2,h.2,k _ G H (Cr.refl sub) Bf.bl⟩
  ·cases e2
 unfold Rk at e;split at e
 ·rename_i a;split at e
  ·rename_i kvs ep hM;obtain⟨kk,e1,e2⟩:=AA.mp e;cases e2;cases gW ry;exact .inr ⟨M,G,a,kvs,ep,dx,kk,rfl,sub,m,hM,rx,e1,k _ G H (Cr.refl sub) Bf.bl⟩
  ·exact seq e
 ·exact seq e
def Ud(P:Program)(w:World)(K:W.Frag):R2:=fun x y H Q=>∃(M:Mh) (G:Hp) (a:Addr) (kvs:List (D×D)) (ep:Nat) (d z:D) (k:MK),x=.ref a∧Cf G H∧MR P w K M G H∧M a=some (.dct kvs ep)∧Bf K G d y∧Lj d=some k∧Fo kvs d=some z∧∀v,Bf K G z v→Q v H
theorem b6p(hu:X.A.units+64<cLine):Ph X (Ud X.prog X.w X.K):=by
 intro value slice pins s σ H x y v u Q I rx ry h hs;obtain⟨M,G,a,kvs,ep,d,z,k,rfl,sub,m,e,r,hk,hz,q⟩:=h;cases rx;obtain⟨es,h1,h2,h3,h4,h5,h6⟩:=fV I m sub e;unfold subscriptTail;refine AB ?_;rw[getitemInPython_of_ne h3.typeIs.not_modules];refine AB (FI h3.typeIs PySem.F.slot_dict_getitem.lookup ?_);have fin:wpAny (model X.prog X.w) X.A (subscripted slice false (.ref a) u) (fun r s₃=>wpAny (model X.prog X.w) X.A (letTemporaryGo value (.ref a) r>>=fun _=>pure r) (EP X pins σ Q) X.xe s₃) X.xe s:=by
  rw[hs];exact wpAny_operating (a0g (A:=X.A) (by omega) I m sub e ⟨_,r,ry⟩ hk hz fun o s' I' ⟨v',r',ru'⟩=>AB (wpAny_letTemporaryGo (AG ⟨v',H,I',ru',q v' r'⟩)))
 first
  |exact AG (AB fin)
  |exact AB (AG (AB fin))
  |exact AB fin
def Ue(P:Program)(w:World)(K:W.Frag):R2:=fun x y H Q=>Wc K x y H Q∨Ud P w K x y H Q
theorem b6q(hu:X.A.units+64<cLine):Ph X (Ue X.prog X.w X.K):=aR.or (b6p hu)
def Uq(M:Mh)(x y:D):Option D:=match x with
 |.fn a=>match M a with
  |some (.dct kvs _)=>(Lj y).bind fun _=>Fo kvs y
  |some (.lst xs)=>match y with|.int i=>Cp xs i|_=>none
  |_=>none
 |_=>Bl x y
theorem b5p{K:W.Frag}:Si P w K (Ue P w K) Uq:=by
 intro x y dx dy d M G H Q sub m rx ry e k;unfold Uq at e;split at e
 ·rename_i a;cases gW rx;split at e
  ·rename_i kvs ep hM;obtain⟨kk,e1,e2⟩:=AA.mp e;exact .inr ⟨M,G,a,kvs,ep,dy,d,kk,rfl,sub,m,hM,ry,e1,e2,fun v r=>k v G H (Cr.refl sub) r⟩
  ·rename_i xs hM;split at e
   ·rename_i i;cases aU ry;obtain⟨_,vs,h1,h2⟩:=m.cell a _ hM;obtain⟨v,e6,r6⟩:=kL h2 e;exact .inl (.inl ⟨a,vs,i,v,rfl,rfl,Ei.of h1,e6,k v G H (Cr.refl sub) r6⟩)
   ·cases e
  ·cases e
 ·exact .inl (bC sub rx ry e k)
def Fx(M:Mh)(x y:D):Option D:=match x with
 |.fn a=>match M a,y with
  |some (.lst xs),.lst ys=>if xs.length+ys.length≤Ci then some (.lst (xs++ys))else none
  |_,_=>none
 |_=>An x y
theorem jD{K:W.Frag}:Si P w K (Mp K) Fx:=by
 intro x y dx dy d M G H Q sub m rx ry e k;unfold Fx at e;split at e
 ·rename_i a;cases gW rx;split at e
  ·rename_i xs ys hM;split at e
   ·rename_i hl;cases e;obtain⟨_,vs,h1,h2⟩:=m.cell a _ hM;obtain⟨b,ws,rfl,qb,rb⟩:=aY ry;exact .inr (.inr (.inr (.inr ⟨a,b,vs,ws,rfl,rfl,Ei.of h1,sub.seq qb,by rw[←aF h2,←aF rb];exact cE hl,fun p hp=>k _ _ _ (Cr.laid sub hp) (bP (sub.free hp) (cF h2 rb))⟩)))
   ·cases e
  ·cases e
 ·exact bB sub rx ry e k
end
end DL
namespace DL
open PySem PySem.Spec PyProof.Rows L2
def Kn{α:Type}(o:Option α)(R:α→Prop):Prop:=match o with|some a=>R a|none=>False
theorem eN{α:Type}{a:α}{R:α→Prop}:Kn (some a) R=R a:=rfl
theorem dO{α:Type}{o:Option α}{R:α→Prop}(h:Kn o R):∃a,o=some a∧R a:=by
 cases o with
 |none=>exact h.elim
 |some a=>exact⟨a,rfl,h⟩
def Sf(f:Str)(v:D):List (Str×D)→List (Str×D)
 |[]=>[(f,v)]
 |(g,x)::r=>if g=f then(g,v)::r else(g,x)::Sf f v r
section
variable{X:Cx}{own:List Nat}{e o a b:Expr}{es:List Expr}{pos apos cpos p:Pos}{f fa fb fo:WE}{fs:WA}{x m:Str}{C:Addr}
def Oz(P:Program)(w:World)(K:W.Frag)(r:List V→Hp→VK→Prop)(g:Mh→List D→Option D):Prop:=∀{vs:List V} {ds:List D} {d:D} {M:Mh} {G H:Hp} {Q:VK},Cf G H→MR P w K M G H→At K G ds vs→g M ds=some d→(∀v G' H',Cr G H G' H'→Bf K G' d v→Q v H')→r vs H Q
theorem Fj.toM{K:W.Frag}{r:List V→Hp→VK→Prop}{g:List D→Option D}(h:Fj K r g):Oz P w K r (fun _=>g):=fun s _ r e k=>h s r e k
def w1(g:Mh→List D→Option D)(fs:WA):WE:=fun ρ M R=>fs ρ M fun ds M1=>Kn (g M1 ds) fun d=>R d M1
theorem a8a{id:String}{r:List V→Hp→VK→Prop}{g:Mh→List D→Option D}(hc:Ej X (.builtin id) r)(hd:Oz X.prog X.w X.K r g)(hg:Gl X x)(hm:X.mg x=none)(hv:bootBuiltins x=some (.builtin id))(ha:MA X own (e::es) fs)(hn:x≠"__name__":=by decide)
  (hdb:(x==("__debug__":Str))=false:=by decide)(he:starEach (e::es) X.env=(false,eval e X.env)::starEach es X.env:=by rfl)(hpl:(backTo pos (starEach es X.env)).any (·.1)=false:=by rfl):ME X own (.Call (.Name x p) (e::es) [] pos) (w1 g fs):=
 mU (gY hc hg hm hv ha.ok hn hdb he hpl) fun σ G H Q ρ M R st e' k=>⟨G,ρ,M,_,st,e',fun ds M1 vs G1 H1 r1 x1 m1 q1=>by
  obtain⟨d,h1,h2⟩:=dO r1;exact hd x1.sub m1 q1 h1 fun v G2 H2 x2 q2=>k d M1 v G2 H2 h2 (x1.trans (.ext x2) m1) (m1.ext x2) q2⟩
def Pb(M:Mh):List D→Option D
 |[.str x]=>Bb [.str x]
 |[d]=>(Qw M d).map fun xs=>.int xs.length
 |_=>none
theorem b7l{K:W.Frag}:Oz P w K (fun xs H Q=>∃x n,xs=[x]∧Sz K x H n∧Q (.int n) H) Pb:=by
 intro vs ds d M G H Q sub m r e k;unfold Pb at e;split at e
 ·exact dG sub r e k
 ·obtain⟨xs,e1,rfl⟩:=AF.mp e;obtain⟨v,rfl,r1⟩:=cM r;obtain⟨p,ys,rfl,q,rr⟩:=a1a sub m r1 e1;refine⟨V.ref p,xs.length,rfl,?_,k _ G H (Cr.refl sub) Bf.int⟩;rw[aF rr];exact q.elim (fun z=>.inl ⟨ys,z,rfl⟩) fun z=>.inr ⟨ys,z,rfl⟩
 ·cases e
end
abbrev WP:=Ac→Mh→(List (D×D)→Mh→Prop)→Prop
abbrev WS:=Ac→Mh→(Fl→Mh→Prop)→Prop
structure Ox(P:Program)(w:World)(K:W.Frag)(own:List Nat)(M0:Mh)(G0 F0:Hp)(M:Mh)(G H:Hp)(σ:St)(ρ:Ac):Prop where
 st:Nz P w K own G H σ ρ M
 x:XM M0 G0 F0 M G H
 fr:∀i∈own,∀p,σ[i]?=some (some (V.ref p))→F0 p=none
inductive Rz(P:Program)(w:World)(K:W.Frag)(M0:Mh)(G0 F0:Hp)(own own':List Nat)(f:WS)(E:Ends)(σ:St)(H:Hp):Prop
 |mk (G:Hp) (ρ:Ac) (M:Mh) (R:Fl→Mh→Prop) (st:Ox P w K own M0 G0 F0 M G H σ ρ) (e:f ρ M R) (a:∀ρ' M' G' σ' H',R (.nx ρ') M'→Ox P w K own' M0 G0 F0 M' G' H' σ' ρ'→E.nx σ' H') (b:∀d M' v G' H',R (.rt d) M'→XM M0 G0 F0 M' G' H'→MR P w K M' G' H'→Bf K G' d v→E.rt v H'):Rz P w K M0 G0 F0 own own' f E σ H
structure MS(X:Cx)(own own':List Nat)(st:Stmt)(f:WS):Prop where
 ok:∀M0 G0 F0,PS X st (Rz X.prog X.w X.K M0 G0 F0 own own' f)
structure Rt(X:Cx)(own own':List Nat)(st:List Stmt)(f:WS):Prop where
 ok:∀M0 G0 F0,Mb X st (Rz X.prog X.w X.K M0 G0 F0 own own' f)
section
variable{P:Program}{w:World}{K:W.Frag}{own own':List Nat}{M0 M M':Mh}{G0 F0 G H G' H':Hp}{σ σ':St}{ρ ρ':Ac}
theorem Ox.grow(s:Ox P w K own M0 G0 F0 M G H σ ρ)(x:XM M G H M' G' H')(m:MR P w K M' G' H'):Ox P w K own M0 G0 F0 M' G' H' σ ρ:=⟨s.st.grow x m,s.x.trans x s.st.mr,s.fr⟩
theorem Ox.set{i:Nat}(s:Ox P w K own M0 G0 F0 M G H σ ρ)(hi:i∉own)(r:Bf K G d v):Ox P w K own M0 G0 F0 M G H (σ.set i (some v)) (ρ.set i (some d)):=by
 have ne:∀j∈own,i≠j:=fun j hj z=>hi (z▸hj);refine⟨⟨s.st.or.set hi r,s.st.mr,fun j hj p e=>?_⟩,s.x,fun j hj p e=>?_⟩
 ·rw[AY (ne j hj)]at e;exact s.st.dj j hj p e
 ·rw[AY (ne j hj)]at e;exact s.fr j hj p e
end
section
variable{X:Cx}{own own1 own2:List Nat}{st:Stmt}{rest body:List Stmt}{e a b c tg o:Expr}{es:List Expr}{pos p2:Pos}{f fa fb fc fo:WE}{fs:WA}{ft fu:WT}{q1 q2 q3:WS}{q:Ac→Option Fl}
theorem a7t{t:TS}(h:PS X st t)(hw:∀M0 G0 F0 E σ G H ρ M R,Ox X.prog X.w X.K own M0 G0 F0 M G H σ ρ→q1 ρ M R→
  (∀ρ' M' G' σ' H',R (.nx ρ') M'→Ox X.prog X.w X.K own1 M0 G0 F0 M' G' H' σ' ρ'→E.nx σ' H')→(∀d M' v G' H',R (.rt d) M'→XM M0 G0 F0 M' G' H'→MR X.prog X.w X.K M' G' H'→Bf X.K G' d v→E.rt v H')→t E σ H):MS X own own1 st q1:=
 ⟨fun M0 G0 F0 pins s σ H E I ⟨G,ρ,M,R,sr,e,k1,k2⟩=>h pins s σ H E I (hw M0 G0 F0 E σ G H ρ M R sr e k1 k2)⟩
def Gr:WS:=fun ρ M R=>R (.nx ρ) M
def Ch(q1 q2:WS):WS:=fun ρ M R=>q1 ρ M fun r M1=>match r with|.nx ρ1=>q2 ρ1 M1 R|.rt d=>R (.rt d) M1
theorem eI:Rt X own own [] Gr:=⟨fun M0 G0 F0 pins s σ H E I ⟨G,ρ,M,R,sr,e,k1,k2⟩=>a1e pins s σ H E I (k1 ρ M G σ H e sr)⟩
theorem pS(h1:MS X own own1 st q1)(h2:Rt X own1 own2 rest q2):Rt X own own2 (st::rest) (Ch q1 q2):=⟨fun M0 G0 F0 pins s σ H E I ⟨G,ρ,M,R,sr,e,k1,k2⟩=>
 wL (h1.ok M0 G0 F0) (h2.ok M0 G0 F0) pins s σ H E I ⟨G,ρ,M,_,sr,e,fun ρ' M' G' σ' H' r sr'=>⟨G',ρ',M',R,sr',r,k1,k2⟩,fun d M' v G' H' r x m q=>k2 d M' v G' H' r x m q⟩⟩
theorem dW(h1:MS X own own1 st q1):Rt X own own1 [st] q1:=⟨fun M0 G0 F0=>tX (h1.ok M0 G0 F0)⟩
def Ht(f:WE):WS:=fun ρ M R=>f ρ M fun d M1=>R (.rt d) M1
theorem mF(h:ME X own e f):MS X own own1 (.Return (some e) pos) (Ht f):=a7t (a6g h.ok) fun M0 G0 F0 E σ G H ρ M R sr e k1 k2=>
 ⟨G,ρ,M,_,sr.st,e,fun d M' v G' H' r x m q=>k2 d M' v G' H' r (sr.x.trans x sr.st.mr) m q⟩
def Dn(i:Nat)(f:WE):WS:=fun ρ M R=>f ρ M fun d M1=>R (.nx (ρ.set i (some d))) M1
theorem cR{i:Nat}(hN:X.N.Nodup)(hi:X.N[i]?=some x)(hx:Pm X.env.scope x)(h:ME X own e f)(hio:i∉own:=by decide)(hs:swapsWith e (some (.Name x p2)) pos.line X.env=pure false:=by rfl)
  (hf:X.fn x=true∨X.env.scope.names.lookup x=some .local:=by first|exact .inl rfl|exact .inr rfl|assumption):MS X own own (.Assign [.Name x p2] e pos) (Dn i f):=
 a7t (tY hN hi hx h.ok hs hf) fun M0 G0 F0 E σ G H ρ M R sr e k1 k2=>⟨G,ρ,M,_,sr.st,e,fun d M' v G' H' r x m q=>k1 _ M' G' _ H' r ((sr.grow x m).set hio q)⟩
def Gm(ft:WT)(q1 q2:WS):WS:=fun ρ M R=>ft ρ M fun b M1=>if b then q1 ρ M1 R else q2 ρ M1 R
theorem pT{b1 b2:List Stmt}(hc:MT X own c ft)(h1:Rt X own own1 b1 q1)(h2:Rt X own own1 b2 q2):MS X own own1 (.If c b1 b2 pos) (Gm ft q1 q2):=⟨fun M0 G0 F0 pins s σ H E I ⟨G,ρ,M,R,sr,e,k1,k2⟩=>by
 refine b4b hc.ok (h1.ok M0 G0 F0) (h2.ok M0 G0 F0) pins s σ H E I ⟨G,ρ,M,_,sr.st,e,fun b M' G' H' r x m=>?_⟩;cases b with
 |true=>exact nW ⟨G',ρ,M',R,sr.grow x m,r,k1,k2⟩
 |false=>exact nX ⟨G',ρ,M',R,sr.grow x m,r,k1,k2⟩⟩
def Wn(C:Addr)(x:Str)(fo f:WE):WS:=fun ρ M R=>f ρ M fun y M1=>fo ρ M1 fun d M2=>match d with
 |.fn p=>(match M2 p with|some (.obj C' fs)=>C'=C∧fs.length<100∧R (.nx ρ) (Mt M2 p (.obj C (Sf x y fs)))|_=>False)
 |_=>False
def Rc(M:Mh)(d y v:D):Option Mh:=match d with
 |.fn p=>match M p with
  |some (.dct kvs ep)=>if(Lj y).isSome&&decide (kvs.length<Ci)then some (Mt M p (.dct (Iu kvs y v) (Pj kvs y ep)))else none
  |some (.lst xs)=>match y with
   |.int j=>(Ct xs.length j).map fun k=>Mt M p (.lst (xs.set k v))
   |_=>none
  |_=>none
 |_=>none
def Tw(P:Program)(w:World)(K:W.Frag):V→V→V→Hp→(Hp→Prop)→Prop:=fun o i v H Q=>∃(M:Mh) (G:Hp) (a:Addr) (kvs:List (D×D)) (ep:Nat) (d x:D) (k:MK),o=.ref a∧Cf G H∧MR P w K M G H∧M a=some (.dct kvs ep)∧Bf K G d i∧Lj d=some k∧Bf K G x v∧kvs.length<Ci∧
 ∀es',Fd P w K G (upd H a (dE a es' (Pj kvs d ep))) a (.dct (Iu kvs d x) (Pj kvs d ep))→Q (upd H a (dE a es' (Pj kvs d ep)))
theorem b0r(hu:X.A.units+64<cLine):Pf X (Tw X.prog X.w X.K):=by
 intro pins s σ H o i v ov iv u Q I ro ri rv h;obtain⟨M,G,a,kvs,ep,d,x,k,rfl,sub,m,e,r,hk,rx,hl,q⟩:=h;cases ro;exact a0f (A:=X.A) (by omega) I m sub e ⟨_,r,ri⟩ hk ⟨_,rx,rv⟩ hl fun es' s' I' c'=>⟨_,I',q es' c'⟩
theorem b0y{r r':Ro}(h:Pf X r)(h':Pf X r'):Pf X (fun o i v H Q=>r o i v H Q∨r' o i v H Q):=by
 intro pins s σ H o i v ov iv u Q I ro ri rv q;obtain q|q:=q
 ·exact h pins s σ H o i v ov iv u Q I ro ri rv q
 ·exact h' pins s σ H o i v ov iv u Q I ro ri rv q
def Qr(fo fi f:WE):WS:=fun ρ M R=>f ρ M fun v M1=>fo ρ M1 fun d M2=>fi ρ M2 fun y M3=>Kn (Rc M3 d y v) fun M4=>R (.nx ρ) M4
theorem b5y{fi:WE}(hu:X.A.units+64<cLine)(ho:ME X own o fo)(hi:ME X own i fi)(h:ME X own e f)
  (ha:∀v,assign (.Subscript o i p2) X.env v=(do
   let ov ←holding [v] (eval o X.env)
   let iv ←holding [v,ov] (eval i X.env)
   standAt p2
   holding [v,ov,iv] (setItem ov iv v)
   release [v,ov,iv] []):=by intro _;rfl)
  (hs:swapsWithSole [.Subscript o i p2] e pos.line X.env=pure false:=by rfl) (hw:swappedStores [.Subscript o i p2] e X.env=pure none:=by rfl)
  (h1:(assignEach [.Subscript o i p2] X.env).map (·.2)=[assign (.Subscript o i p2) X.env]:=by rfl):MS X own own (.Assign [.Subscript o i p2] e pos) (Qr fo fi f):=
 a7t (a6i h.ok (a6m ho.ok hi.ok (b0y vZ (b0r hu)) ha) hs hw h1) fun M0 G0 F0 E σ G H ρ M R sr e k1 k2=>⟨G,ρ,M,_,sr.st,e,fun v M1 vv G1 H1 r1 x1 m1 q1=>⟨G1,ρ,M1,_,sr.st.grow x1 m1,r1,fun d M2 dv G2 H2 r2 x2 m2 q2=>
  ⟨G2,ρ,M2,_,(sr.st.grow x1 m1).grow x2 m2,r2,fun y M3 yv G3 H3 r3 x3 m3 q3=>by
   obtain⟨M4,e4,r4⟩:=dO r3;have sr3:=((sr.grow x1 m1).grow x2 m2).grow x3 m3;have qd:=q2.mono x3.g;have qv:=(q1.mono x2.g).mono x3.g;unfold Rc at e4;split at e4
   ·rename_i p;cases gW qd;split at e4
    ·rename_i kvs ep hM;split at e4
     ·rename_i hc;rw[AE,AH]at hc;cases e4;obtain⟨kk,hk⟩:=FN.mp hc.1;exact .inr ⟨M3,G3,p,kvs,ep,y,v,kk,rfl,x3.sub,m3,hM,q3,hk,qv,hc.2,fun es' c'=>k1 ρ _ G3 σ _ r4 (sr3.grow (.write m3 x3.sub hM) (m3.write hM c'))⟩
     ·cases e4
    ·rename_i xs hM;split at e4
     ·rename_i j;cases aU q3;obtain⟨n,e5,rfl⟩:=AF.mp e4;obtain⟨_,vs,h3,h4⟩:=m3.cell p _ hM;exact .inl ⟨p,vs,j,n,rfl,rfl,h3,by rw[←aF h4];exact e5,k1 ρ _ G3 σ _ r4 (sr3.grow (.write m3 x3.sub hM) (m3.write hM ⟨_,bY,pC qv n h4⟩))⟩
     ·cases e4
    ·cases e4
   ·cases e4⟩⟩⟩
end
def Vq(P:Program)(w:World)(K:W.Frag)(J:It)(ds:List D)(ck:Mh→Prop)(G1:Hp):Prop:=∀(i:Nat) (M':Mh) (G' H':Hp),Cf G1 G'→Cf G' H'→MR P w K M' G' H'→ck M'→
 (∀d,ds[i]?=some d→J.go i H'∧∀x H'',J.yld i H' x H''→∃G'',Cr G' H' G'' H''∧Bf K G'' d x)∧(i=ds.length→J.stop i H')
abbrev WI:=Ac→Mh→(List D→(Mh→Prop)→Mh→Prop)→Prop
inductive Wq(P:Program)(w:World)(K:W.Frag)(own:List Nat)(fi:WI)(σ:St)(H:Hp)(R:It→Hp→Prop):Prop
 |mk (G:Hp) (ρ:Ac) (M:Mh) (T:List D→(Mh→Prop)→Mh→Prop) (st:Nz P w K own G H σ ρ M) (e:fi ρ M T) (k:∀ds ck M1 J G1 H1,T ds ck M1→XM M G H M1 G1 H1→MR P w K M1 G1 H1→Vq P w K J ds ck G1→R J H1):Wq P w K own fi σ H R
structure MI(X:Cx)(own:List Nat)(tg iter:Expr)(fi:WI):Prop where
 ok:PI X tg iter (Wq X.prog X.w X.K own fi)
section
variable{X:Cx}{own own1 own2:List Nat}{st:Stmt}{rest body:List Stmt}{e a b c tg o:Expr}{es:List Expr}{pos p2:Pos}{f fa fb fc fo:WE}{fs:WA}{fi:WI}{ft fu:WT}{q1 q2 q3:WS}{di:Ac→Option (List D)}
theorem b9a{wi:TI}(h:PI X tg e wi)(hw:∀σ G H R ρ M T,Nz X.prog X.w X.K own G H σ ρ M→fi ρ M T→(∀ds ck M1 J G1 H1,T ds ck M1→XM M G H M1 G1 H1→MR X.prog X.w X.K M1 G1 H1→Vq X.prog X.w X.K J ds ck G1→R J H1)→wi σ H R):MI X own tg e fi:=
 ⟨fun pins s σ H R I ⟨G,ρ,M,T,st,e,k⟩=>h pins s σ H R I (hw σ G H R ρ M T st e k)⟩
def Ti(di:Ac→Option (List D)):WI:=fun ρ M T=>Kn (di ρ) fun ds=>T ds (fun _=>True) M
theorem Qp.m{K:W.Frag}{J:It}{G1:Hp}(h:Qp K J ds G1):Vq P w K J ds (fun _=>True) G1:=fun i M' G' H' s1 s2 _ _=>h i G' H' s1 s2
theorem b6b(h:DI X own tg e di):MI X own tg e (Ti di):=b9a h.ok fun σ G H R ρ M T st e k=>by
 obtain⟨ds,e1,e2⟩:=dO e;exact⟨G,ρ,ds,st.or,e1,fun J G1 H1 x itd=>k ds _ M J G1 H1 e2 (.ext x) (st.mr.ext x) itd.m⟩
def Kd(bnd:D→Ac→Option Ac)(ck:Mh→Prop)(ft:WT)(fe:WE)(ρ:Ac):List D→Mh→(List D→Mh→Prop)→Prop
 |[],M,R=>ck M∧R [] M
 |d::ds,M,R=>ck M∧Kn (bnd d ρ) fun ρ1=>ft ρ1 M fun b M1=>if b then fe ρ1 M1 fun y M2=>Kd bnd ck ft fe ρ ds M2 fun ys M3=>R (y::ys) M3 else Kd bnd ck ft fe ρ ds M1 R
def Mv(nl:Nat)(ix:List Nat)(fi:WI)(bnd:D→Ac→Option Ac)(ft:WT)(fe:WE):WE:=fun ρ M R=>fi ρ M fun ds ck M1=>ds.length≤Ci∧Kd bnd ck ft fe (Qb nl ix ρ) ds M1 fun ys M2=>R (.lst ys) M2
theorem a7y:Js X [] (Tj X.prog X.w X.K [] fun ρ M R=>R true M):=fun pins s σ H Q I ⟨G,ρ,M,R,st,e,k⟩=>wN pins s σ H Q I (k true M G H e (.refl st.or.sub) st.mr)
abbrev WF:=List D→Mh→(D→Mh→Prop)→Prop
def Vh(P:Program)(w:World)(K:W.Frag)(n:Nat)(g:WF):Sp:=fun vs H Q _=>vs.length=n∧∃G ds M R,Cf G H∧MR P w K M G H∧At K G ds vs∧g ds M R∧∀d M' v G' H',R d M'→XM M G H M' G' H'→MR P w K M' G' H'→Bf K G' d v→Q v H'
def gl(g:List D→Option D):WF:=fun ds M R=>Kn (g ds) fun d=>R d M
def Nb(N:List Str)(n:Nat)(q:WS):WF:=fun ds M R=>ds.length=n∧q (ds.map some++List.replicate (N.length - ds.length) none) M fun r M'=>match r with|.rt d=>R d M'|.nx _=>R .non M'
end
end DL
namespace HT
open PySem PySem.Spec PyProof.Rows
section
variable{prog:Program}{w:World}{A:Around}{E:Value→Shared→Prop}{s:Shared}
end
end HT
namespace DL
open PySem PySem.Spec PyProof.Rows L2
section
variable{X:Cx}{own own1:List Nat}{a b e tg o:Expr}{es:List Expr}{p pos:Pos}{fa fb f:Ac→Option D}
def Ug(neg:Bool):R2:=fun x y H Q=>∃b c,x=.bl b∧y=.bl c∧Q (.bl (if neg then !(b==c)else b==c)) H
theorem b5j:Es X (compareOp .Is) (Ug false):=by
 intro pins s σ H x y v u Q I rx ry h;obtain⟨b,c,rfl,rfl,q⟩:=h;cases rx;cases ry;refine wpAny_is_plain rfl ?_;have e:(Value.bool b==Value.bool c)=(b==c):=by cases b<;>cases c<;>rfl
 rw[e];exact⟨.bl _,H,I,rfl,q⟩
def Su(neg:Bool):D→D→Option D
 |.bl b,.bl c=>some (.bl (if neg then !(b==c)else b==c))
 |_,_=>none
theorem b5u{K:W.Frag}{neg:Bool}:Fz K (Ug neg) (Su neg):=by
 intro x y dx dy d G H Q sub rx ry e k;unfold Su at e;split at e
 ·cases e;cases bU rx;cases bU ry;exact⟨_,_,rfl,rfl,k _ G H (Cr.refl sub) Bf.bl⟩
 ·cases e
end
end DL
namespace DL
open PySem PySem.Spec PyProof.Rows L2
end DL
namespace DL
open PySem PySem.Spec PyProof.Rows L2
section
variable{P:Program}{w:World}{K:W.Frag}{mg:Str→Option Value}{base h:Heap}{x qual:Str}{st:Stmt}{N ps:List Str}{k:Nat}{own':List Nat}{q:WS}{C:Addr}
theorem nT{α:Type}{p:List α→Prop}(h:∀a,p [a]):∀us:List α,us.length=1→p us
 |[a],_=>h a
theorem us2{α:Type}{p:List α→Prop}(h:∀a b,p [a,b]):∀us:List α,us.length=2→p us
 |[a,b],_=>h a b
theorem us3{α:Type}{p:List α→Prop}(h:∀a b c,p [a,b,c]):∀us:List α,us.length=3→p us
 |[a,b,c],_=>h a b c
theorem us4{α:Type}{p:List α→Prop}(h:∀a b c d,p [a,b,c,d]):∀us:List α,us.length=4→p us
 |[a,b,c,d],_=>h a b c d
theorem us5{α:Type}{p:List α→Prop}(h:∀a b c d e,p [a,b,c,d,e]):∀us:List α,us.length=5→p us
 |[a,b,c,d,e],_=>h a b c d e
def M0:Mh:=fun _=>none
theorem b2k{g:WF}{H:Hp}{ns:List Int}(hS:Ei K H a (ns.map V.int))(hg:g [.lst (ns.map .int)] M0 fun d _=>d=.bl true):Vh P w K 1 g [.ref a] H (fun v _=>v=.bl true) fun _ _ _=>False:=
 ⟨rfl,H,[.lst (ns.map .int)],M0,_,Cf.refl H,⟨fun a c e=>by cases e⟩,At.cons (Bf.lst hS (sR ns)) At.nil,hg,fun d M' v G' H' r _ _ q=>by subst r;exact bU q⟩
end
end DL
namespace L2
open PySem PySem.Spec PyProof.Rows
theorem b1a{X:Cx}{i:Nat}{scope:Scope}{pos:Pos}{NL:List Str}{ix:List Nat}{wi:TI}{g:TG}{tt:TT}{te:TE}
  (hN:X.N.Nodup)(hi':X.N[i]?=some x)(hx:Pm X.env.scope x)
  (hkind:scope.kind=.function)(hcell:∀y∈scope.names,y.2≠.cell)(hnames:∀y∈scope.names,y.2=.local→scope.names.lookup y.1=some .local)
  (hfree:∀y∈scope.names,y.2=.free→(X.env.kindOf y.1=some .cell∨X.env.kindOf y.1=some .free))(cap:Eh X scope NF ix)(calm:X.calm=true)(hit:PI X tg iter wi)
  (hg:∀cl C s₂ H₂ fp,PG (He X scope cl C (NL++NF) s₂ H₂ fp) tg g)(hi:∀cl C s₂ H₂ fp,Js (He X scope cl C (NL++NF) s₂ H₂ fp) ifs tt)(he:∀cl C s₂ H₂ fp,PE (He X scope cl C (NL++NF) s₂ H₂ fp) elt te)
  (hs:∀x,foldedSetIterable iter X.env x=pure x:=by intro _;rfl)
  (hsw:swapsWith (.ListComp elt [⟨tg,iter,ifs,0⟩] scope cpos) (some (.Name x pos')) pos.line X.env=pure true:=by rfl)
  (hf:X.fn x=true∨X.env.scope.names.lookup x=some .local:=by first|exact .inl rfl|exact .inr rfl|assumption):
  PS X (.Assign [.Name x pos'] (.ListComp elt [⟨tg,iter,ifs,0⟩] scope cpos) pos) (Qv (Pp NL.length ix wi g tt te) (Lm i)):=by
 intro pins s σ H D I h;obtain⟨cl,hcl⟩:=vG (X:=X) (scope:=scope) fun p hp hf=>I.ok.has p.1 (hfree p hp hf)
 rw[exec_Assign_Name_used x pos' _ pos hsw];refine AB (FB (AB ?_));unfold evalThenUse;refine AB (wpAny_comprehension_free (use:=some _) rfl hs hcl.eq hkind hnames (bX (hit pins s σ H _ I h) fun v s1 h1=>bX h1 fun itv s2 h2=>?_));obtain⟨it,fp,tn,J,H2,e,I2,T,st2,f2,hw⟩:=h2;subst e;refine tF (RR:=fun acc C=>compPost (model X.prog X.w) X.A X.xe (some _) _ acc C) hkind hcell hcl cap calm (hg cl) (hi cl) (he cl) I2 T st2 f2 hw fun D' C us n ys H' s' I' eD rv hlen nD hD hC hDC nC ⟨m,hn⟩ fin=>?_;have lt2:∀b,b<s2.heap.objs.size→b≠C∧b≠D':=fun b hb=>⟨BC (AV hb hC),BC (AV hb hD)⟩;have cl2:∀x c,X.env.cells.lookup x=some c→c<s2.heap.objs.size:=fun x c h=>let⟨_,_,ho,_⟩:=I2.cell x c h;AL ho;have pn2:∀p∈X.pn++pins,p.1<s2.heap.objs.size:=fun p hp=>AL (I2.pin p hp).1;have ID:=I'.track (D:=D') (us:=us) (n:=n) eD rv hlen nD (BG I2.sz hD) (BU (lt2 _ I2.lt).2) (fun x c h=>(lt2 c (cl2 x c h)).2) fun p hp=>(lt2 _ (pn2 p hp)).2;show wpAny (model X.prog X.w) X.A (assign (.Name x pos') X.env (.ref D')) _ _ s';refine AB (m:=standAt pos') (FB ?_);refine wpAny_bindName (rW ID hN hi' hx (v:=.ref D') rfl (fun s3 I3 ⟨a,sb,ha⟩=>?_) hf);have haC:a≠C:=by
  obtain rfl|ha:=ha
  ·exact(lt2 _ I2.lt).1
  ·exact(lt2 _ (cl2 _ _ ha)).1
 refine⟨m,hn.sameBut sb (BU haC),fun h' hs'=>?_⟩;have nC':upd H' D' (.lst ys) C=none:=by rw[aT (BU hDC)];exact nC
 have IC:Inv X pins (σ.set i (some (.ref D'))) (upd H' D' (.lst ys)) {s3 with heap:=h',toks:=s3.toks}:=I3.turned (it:=C) (fun b o hb e=>(hs'.2 b hb).trans e) nC' (BU (lt2 _ I2.lt).1) (.inr (BG I2.sz hC)) (fun x c h=>(lt2 c (cl2 x c h)).1) fun p hp=>(lt2 _ (pn2 p hp)).1;exact AG (AG ⟨_,_,IC,fin D' nD⟩)
end L2
namespace DL
open PySem PySem.Spec PyProof.Rows L2
end DL
namespace DL
open PySem PySem.Spec PyProof.Rows L2
section
variable{X:Cx}{own:List Nat}{e a b o tg:Expr}{pos p2 p apos cpos:Pos}{f fa fb fo:WE}
def lstM(M:Mh)(d:D):Option (List D):=match d with
 |.lst xs=>some xs
 |.fn p=>(match M p with|some (.lst xs)=>some xs|_=>none)
 |_=>none
theorem oG{K:W.Frag}{M:Mh}{G H:Hp}(sub:Cf G H)(m:MR P w K M G H)(r:Bf K G d v)(e:lstM M d=some xs):∃p vs,v=.ref p∧Ei K H p vs∧At K G xs vs:=by
 cases d<;>first|(cases e;done)|skip
 ·cases e;obtain⟨p,vs,rfl,q,rr⟩:=aY r;exact⟨p,vs,rfl,sub.seq q,rr⟩
 ·rename_i p;cases gW r;simp only[lstM]at e;split at e
  ·rename_i xs hM;cases e;obtain⟨_,vs,h1,h2⟩:=m.cell p _ hM;exact⟨p,vs,rfl,Ei.of h1,h2⟩
  ·cases e
def Jt(fa fb:WE):WE:=fun ρ M R=>fa ρ M fun x M1=>fb ρ M1 fun y M2=>Kn (lstM M2 x) fun xs=>Kn (lstM M2 y) fun ys=>xs.length+ys.length≤Ci∧∀p,M2 p=none→R (.fn p) (Mt M2 p (.lst (xs++ys)))
theorem uJ(ha:ME X own a fa)(hb:ME X own b fb):ME X own (.BinOp a .Add b pos) (Jt fa fb):=
 mU (a6o a1l ha.ok hb.ok) fun σ G H Q ρ M R st e k=>⟨G,ρ,M,_,st,e,fun x M1 v G1 H1 r1 x1 m1 q1=>⟨G1,ρ,M1,_,st.grow x1 m1,r1,fun y M2 u G2 H2 r2 x2 m2 q2=>by
  obtain⟨xs,e1,r2⟩:=dO r2;obtain⟨ys,e2,hl,r2⟩:=dO r2;obtain⟨p1,vs1,rfl,s1,rr1⟩:=oG x2.sub m2 (q1.mono x2.g) e1;obtain⟨p2,vs2,rfl,s2,rr2⟩:=oG x2.sub m2 q2 e2;refine⟨p1,p2,vs1,vs2,rfl,rfl,s1,s2,by rw[←aF rr1,←aF rr2];exact cE hl,fun p hp=>?_⟩;exact k _ _ _ _ _ (r2 p (m2.nocell hp)) ((x1.trans x2 m1).trans (.laid x2.sub hp) m2) (m2.laid hp x2.sub ⟨_,bY,cF rr1 rr2⟩) Bf.fn⟩⟩
end
end DL
namespace DL
open PySem PySem.Spec PyProof.Rows L2
end DL
namespace XS
open PySem PySem.Spec PyProof.Rows PySem.W L2
abbrev Nx(X:Cx)(pn:List (Addr×Obj))(f:Value→Shared→Prop):Cx:={X with pn:=pn,xe:=f}
abbrev Jp(X:Cx)(e:Addr)(pn:List (Addr×Obj)):Cx:={X with A:=X.A.mark (some (.ref e)),calm:=false,pn:=pn,xe:=fun _ _=>False}
section
variable{X:Cx}{pins pins' pn:List (Addr×Obj)}{σ σ':L2.St}{H:Hp}{s:Shared}{f:Value→Shared→Prop}{e a:Addr}{oe:Obj}
theorem eS{Y:Cx}(I:Inv X pins σ H s)(ok:Y.Ok)(hY:Y={X with A:=Y.A,calm:=Y.calm,pn:=Y.pn,xe:=Y.xe})(hp:∀p∈Y.pn++pins',s.heap.get? p.1=some p.2∧H p.1=none∧p.1≠X.env.locals∧p.1∉X.fs∧∀v,p.2.data≠.cell v)
  (hl:σ'.length=σ.length)(hs:∀(i:Nat) (v:V),σ'[i]?=some (some v)→σ[i]?=some (some v)):Inv Y pins' σ' H s:=by
 obtain⟨m,hn,h⟩:=I.loc;have:=I.len;rw[hY];exact⟨hY▸ok,I.os,I.bare,I.base,⟨m,hn,fun i x v e1 e2 e3=>h i x v e1 (hs i v e2) e3⟩,I.cell,I.free,I.freeC,hp,I.hok,hl.trans I.len⟩
theorem b8n(ok:X.Ok):(Nx X pn f).Ok:=⟨ok.mod,ok.kind,ok.glob,ok.blt,ok.above,ok.inj,ok.has,ok.cab,ok.hd,ok.frames,ok.stk,ok.exf,ok.bs,ok.bsz,ok.noex,ok.exfs,ok.funs,ok.frf⟩
theorem a7h(ok:(Nx X pn f).Ok):X.Ok:=⟨ok.mod,ok.kind,ok.glob,ok.blt,ok.above,ok.inj,ok.has,ok.cab,ok.hd,ok.frames,ok.stk,ok.exf,ok.bs,ok.bsz,ok.noex,ok.exfs,ok.funs,ok.frf⟩
theorem b1u(ok:X.Ok):(Jp X e pn).Ok:=⟨ok.mod,ok.kind,ok.glob,ok.blt,ok.above,ok.inj,ok.has,ok.cab,fun z=>Bool.noConfusion z,ok.frames,ok.stk,ok.exf,ok.bs,ok.bsz,ok.noex,ok.exfs,ok.funs,ok.frf⟩
theorem b8o(ok:(Jp X e pn).Ok)(hd:X.calm=true→X.A.handled=none):X.Ok:=⟨ok.mod,ok.kind,ok.glob,ok.blt,ok.above,ok.inj,ok.has,ok.cab,hd,ok.frames,ok.stk,ok.exf,ok.bs,ok.bsz,ok.noex,ok.exfs,ok.funs,ok.frf⟩
theorem a4i{h':Heap}{t:Nat}{m':Str→Option Value}(I:Inv X pins σ H s)(hn':h'.Ns X.env.locals m')(hs:Heap.SameBut X.env.locals s.heap h')
  (hl:∀(j:Nat) (y:Str) (v:V),X.N[j]?=some y→σ'[j]?=some (some v)→Qo X.env.scope y→∃u,Cg v u∧Uz X.env h' m' y u)(len:σ'.length=X.N.length):Inv X pins σ' H {s with heap:=h',toks:=t}:=by
 have ne:∀b o,X.s₀.heap.get? b=some o→b≠X.env.locals:=fun b o e=>BC (AV (AL e) I.ok.above);refine⟨I.ok,I.os,I.bare,⟨fun b o e n hb hx=>(hs.2 b (ne b o e)).trans (I.base.keep b o e n hb hx),fun b o e n hb hx=>?_,I.base.free,fun b o e hx=>?_,I.base.tups,I.base.frzs,I.base.tbls⟩,⟨_,hn',hl⟩,fun y c e=>?_,I.free,I.freeC,fun p hp=>?_,fun b ob e=>?_,len⟩
 ·obtain⟨sl,e1⟩:=I.base.slot b o e n hb hx;exact⟨sl,(hs.2 b (ne b o e)).trans e1⟩
 ·obtain⟨o',e1⟩:=I.base.there b o e hx;exact⟨o',(hs.2 b (ne b o e)).trans e1⟩
 ·obtain⟨w',z⟩:=I.cell y c e;exact⟨w',z.sameBut hs (I.cne y c e)⟩
 ·obtain⟨e,n,ne,nf,d⟩:=I.pin p hp;exact⟨(hs.2 p.1 ne).trans e,n,ne,nf,d⟩
 ·refine(I.hok b ob e).stay (fun c w' hc q=>(hs.2 c ?_).trans q) (fun _ q=>q) fun _ _ q=>q;rintro rfl;obtain rfl|hc:=hc
  ·rw[I.free]at e;cases e
  ·rw[I.free]at hc;cases hc
end
structure Oj(K:W.Frag)(C0:Addr):Prop where
 tup:W.instIn K (.ref C0) (.type "tuple")=some false
 cls:∃cd,W.clsIn K C0=some cd
 exc:W.subIn K (.ref C0) (.type "BaseException")=some true
theorem b7o{K:W.Frag}{cd:ClassData}(ta:W.instIn K (.ref C0) (.type "tuple")=some false)(tb:W.clsIn K C0=some cd)(tc:W.subIn K (.ref C0) (.type "BaseException")=some true):Oj K C0:=⟨ta,⟨_,tb⟩,tc⟩
theorem zU{M:Model}{E:Value→Shared→Prop}{K:W.Frag}{a:Addr}{oe:Obj}{s:Shared}{Q:Bool→Shared→Prop}(X:K.In s.heap)(C:Oj K C0)(he:s.heap.get? a=some oe)(hc:oe.cls=.ref c)(hs:W.subIn K (.ref c) (.ref C0)=some true)
  (h:Q true s):wpAny M A (excMatches (.ref a) (.ref C0)) Q E s:=by
 obtain⟨hh,g,d,tk,os⟩:=s;obtain⟨h1,h2,h3⟩:=C;have L1:=W.looks_instIn (M:=M) X h1;have L2:=W.looks_subIn (M:=M) X h3;have L3:=W.looks_subIn (M:=M) X hs;have Lt:Looks M hh (isType (.ref C0)) true:=by
  obtain⟨cd,h2⟩:=h2;unfold W.clsIn at h2;split at h2
  ·rename_i ho;intro A' Q' E' s' k q;unfold isType loadHead;exact AB (GW (k _ _ (X _ _ ho)) (AG q))
  ·cases h2
 have Le:Looks M hh (isExcClass (.ref C0)) true:=Lt.andThen L2;have Ly:Looks M hh (typeOf (.ref a)) (.ref c):=fun A' Q' E' s' k q=>AB (GW (k _ _ he) (AG (hc▸q)));unfold excMatches;refine AB (L1.at ?_);rw[AR (by decide)];refine AB (AG ?_);dsimp only;rw[ET];refine AB (AB (AB (Le.at ?_)));simp only[GR,BH,DB];refine AG ?_;dsimp only;rw[List.forIn_nil];refine AG (AB (Ly.at ?_));rw[ET];refine AB (AB (AB (L3.at ?_)));simp only[DR];exact AG (AG (AG h))
end XS
namespace XS
open PySem PySem.Spec PyProof.Rows PySem.W L2
section
variable{X:Cx}{pins:List (Addr×Obj)}{D:Ends}{xC en xn:Str}{cp xp ap hp:Pos}{he:Expr}{C0 L:Addr}{ie ix:Nat}{hv:Addr→Option V}
def xT(X:Cx)(pins:List (Addr×Obj))(D:Ends)(h0:ExceptHandler):Value→Shared→Prop:=fun e s₁=>wpAny (model X.prog X.w) X.A (noteFrame e X.env) (fun _ s₂=>wpAny (model X.prog X.w) X.A (setFlight e none) (fun _ s₃=>wpAny (model X.prog X.w) X.A (handleBy e X.env [h0]) (SP X pins D) X.xe s₃) X.xe s₂) X.xe s₁
end
end XS
namespace DL
open PySem PySem.Spec PyProof.Rows L2 XS
abbrev EK:=Addr→Mh→Prop
abbrev Pl:=List D→Mh→(D→Mh→Prop)→EK→Prop
def XR(P:Program)(w:World)(K:W.Frag)(M0:Mh)(G0 F0:Hp)(E:EK):Value→Hp→Prop:=fun cls H'=>∃c M' G',cls=.ref c∧E c M'∧XM M0 G0 F0 M' G' H'∧MR P w K M' G' H'
def Wu(P:Program)(w:World)(K:W.Frag)(n:Nat)(g:Pl):Sp:=fun vs H Q E=>vs.length=n∧∃G ds M R EM,Cf G H∧MR P w K M G H∧At K G ds vs∧g ds M R EM∧(∀d M' v G' H',R d M'→XM M G H M' G' H'→MR P w K M' G' H'→Bf K G' d v→Q v H')∧∀cls H',XR P w K M G H EM cls H'→E cls none H'
section
variable{X:Cx}{own own1 own2:List Nat}{st:Stmt}{rest body b1 b2:List Stmt}{e c:Expr}{es:List Expr}{pos p2:Pos}{f:WE}{fs:WA}{ft:WT}{q1 q2:WS}{M0:Mh}{G0 F0:Hp}{E:EK}
abbrev TX(X:Cx)(M0:Mh)(G0 F0:Hp)(own own':List Nat)(q:WS):TS:=Rz X.prog X.w X.K M0 G0 F0 own own' q
theorem c0b(h:MS X own own1 st q1):PS X st (TX X M0 G0 F0 own own1 q1):=h.ok M0 G0 F0
theorem c0c(h:Rt X.nox own own1 rest q1):Mb X rest (TX X M0 G0 F0 own own1 q1):=Mb.nox (h.ok M0 G0 F0)
def Pn(C:Addr)(E:EK)(f:WE):WS:=fun ρ M _=>f ρ M fun _ M1=>E C M1
theorem a7r{x:Str}(hX:Lv X (XR X.prog X.w X.K M0 G0 F0 E))(hC:Ru X.K C)(hh:X.A.handled=none)(hg:Gl X x)(hm:X.mg x=some (.ref C))(he:ME X own e f)
  (hdb:(x==("__debug__":Str))=false:=by decide)(hst:starEach [e] X.env=[(false,eval e X.env)]:=by rfl):
  PS X (.Raise (some (.Call (.Name x np) [e] [] cpos)) none pos) (TX X M0 G0 F0 own own1 (Pn C E f)):=fun pins s σ H D I ⟨G,ρ,M,R,sr,e',k1,k2⟩=>
 a3g hX hC hh hg hm he.ok hdb hst pins s σ H D I ⟨G,ρ,M,_,sr.st,e',fun d M' v G' H' r x m q=>⟨C,M',G',rfl,r,sr.x.trans x sr.st.mr,m⟩⟩
def Jh(P:Program)(w:World)(K:W.Frag)(M0:Mh)(G0 F0:Hp)(own:List Nat)(f:WE):TE:=fun σ H Q=>∃G ρ M R,Ox P w K own M0 G0 F0 M G H σ ρ∧f ρ M R∧∀d M' v G' H',R d M'→XM M G H M' G' H'→MR P w K M' G' H'→Bf K G' d v→Q v H'
def Fk(n:Nat)(g:Pl)(E:EK)(fs:WA):WE:=fun ρ M R=>fs ρ M fun ds M1=>ds.length=n∧g ds M1 R E
end
def Nr(P:Program)(w:World)(KF:W.Frag)(mg:Str→Option Value)(base:Heap)(k:Nat)(x:Str)(ps:List Str)(g:Pl):Prop:=
 ∃fad fd,Et P w KF mg base (Rm base P w) k fad fd ps (Wu P w KF ps.length g)∧Ev KF fd ps []∧mg x=some (.ref fad)∧W.keepIn KF (.ref fad)=true
theorem oE{KF:W.Frag}{mg:Str→Option Value}{k:Nat}{ps:List Str}{st:Stmt}{own':List Nat}{q:EK→WS}(d:Hg KF mg x st ps)(S:Bi N ps (Ag st))
  (hb:∀{fad:Addr} {cdv:Value} {A:Around} {outer:List Env} {s:Shared} {H:Hp} {E:XK} {M0:Mh} {G0 F0:Hp} {EM:EK},Cc k (A.deeper (envOfC x (Ag st) s.heap.objs.size fad cdv))→Lv (Gd (Rm base P w) P w KF mg base N x (Ag st) fad cdv A outer s H E) (XR P w KF M0 G0 F0 EM)→
   Ge (Gd (Rm base P w) P w KF mg base N x (Ag st) fad cdv A outer s H E) (Dr st) (Rz P w KF M0 G0 F0 [] own' (q EM))):
  Nr P w KF mg base (k+1) x ps fun ds M R E=>Nb N ps.length (q E) ds M R:=by
 obtain⟨fad,fd,F,B,m⟩:=d;refine⟨fad,fd,?_,B,m,F.kp⟩;obtain⟨oc,od,kV,doc,pm,an,cdv,ct,osl,rfl,lk,hcd⟩:=F.ex;refine a8w lk hcd S (fun vs H Q E h=>h.1) fun A outer s H vs Q E hr h=>?_;obtain⟨hl,G,ds,M,R,EM,sub,m,r,e,kk,ke⟩:=h;refine⟨_,hb (M0:=M) (G0:=G) (F0:=H) (EM:=EM) hr fun pins σ H1 s1 n a cls bad I Nn i y z q=>b9e pins σ H1 s1 n a cls bad I Nn i y z (ke cls H1 q),?_⟩;have er:=oR (N:=N) sub r;exact⟨G,_,M,_,⟨⟨er,m,fun i hi=>(by cases hi)⟩,.refl sub,fun i hi=>(by cases hi)⟩,e.2,fun ρ' M' G' σ' H' r sr=>kk _ M' _ G' H' r sr.x sr.st.mr Bf.non,fun d M' v G' H' r x m q=>kk d M' v G' H' r x m q⟩
section
variable{X:Cx}{own own1 own2:List Nat}{st:Stmt}{rest body b1 b2:List Stmt}{e c:Expr}{es:List Expr}{pos p2:Pos}{f:WE}{fs:WA}{ft:WT}{q1 q2:WS}{M0:Mh}{G0 F0:Hp}{E:EK}
theorem dX(h1:Ny X st (TX X M0 G0 F0 own own1 q1))(h2:Ge X rest (TX X M0 G0 F0 own1 own2 q2)):Ge X (st::rest) (TX X M0 G0 F0 own own2 (Ch q1 q2)):=fun pins s σ H D I ⟨G,ρ,M,R,sr,e,k1,k2⟩=>
 a3e h1 h2 pins s σ H D I ⟨G,ρ,M,_,sr,e,fun ρ' M' G' σ' H' r sr'=>⟨G',ρ',M',R,sr',r,k1,k2⟩,fun d M' v G' H' r x m q=>k2 d M' v G' H' r x m q⟩
theorem b4d(hc:MT X own c ft)(h1:Ge X b1 (TX X M0 G0 F0 own own1 q1))(h2:Ge X b2 (TX X M0 G0 F0 own own1 q2)):Ny X (.If c b1 b2 pos) (TX X M0 G0 F0 own own1 (Gm ft q1 q2)):=by
 rintro pins s σ H D I ⟨G,ρ,M,R,sr,e,k1,k2⟩;refine b4w hc.ok h1 h2 pins s σ H D I ⟨G,ρ,M,_,sr.st,e,fun b M' G' H' r x m=>?_⟩;cases b with
 |true=>exact nW ⟨G',ρ,M',R,sr.grow x m,r,k1,k2⟩
 |false=>exact nX ⟨G',ρ,M',R,sr.grow x m,r,k1,k2⟩
theorem kO{k:Nat}{ps:List Str}{g:Pl}{x:Str}(hX:Lv X (XR X.prog X.w X.K M0 G0 F0 E))(F:Nr X.prog X.w X.K X.mg X.base k x ps g)(hr:Cc k X.A)(hg:Gl X x)(ha:MA X own (e::es) fs)
  (hdb:(x==("__debug__":Str))=false:=by decide)(he:starEach (e::es) X.env=(false,eval e X.env)::starEach es X.env:=by rfl)(hpl:(backTo pos (starEach es X.env)).any (·.1)=false:=by rfl):
  Kf X (.Call (.Name x p) (e::es) [] pos) (Jh X.prog X.w X.K M0 G0 F0 own (Fk ps.length g E fs)):=by
 obtain⟨fad,fd,h1,h2,h3,h4⟩:=F;rintro pins s σ H Q I ⟨G,ρ,M,R,sr,e',k⟩;refine a6w h1 hr hg h3 h4 h2 .nil (b1q (E':=fun cls _ H'=>XR X.prog X.w X.K M0 G0 F0 E cls H') hX fun _ _ z=>z) (PA.R ha.ok) hdb he hpl pins s σ H Q I ⟨G,ρ,M,_,sr.st,e',fun ds M1 vs G1 H1 r1 x1 m1 q1=>?_⟩;show Wu X.prog X.w X.K ps.length g (vs++[]) H1 Q _;rw[BP];refine⟨by rw[←aF q1];exact r1.1,G1,ds,M1,R,E,x1.sub,m1,q1,r1.2,fun d M2 v G2 H2 r2 x2 m2 q2=>k d M2 v G2 H2 r2 (x1.trans x2 m1) m2 q2,fun cls H' ⟨c,M',G',h5,h6,h7,h8⟩=>?_⟩;exact⟨c,M',G',h5,h6,(sr.x.trans x1 sr.st.mr).trans h7 m1,h8⟩
theorem b5z{i:Nat}(hN:X.N.Nodup)(hi:X.N[i]?=some x)(hx:Pm X.env.scope x)(h:Kf X e (Jh X.prog X.w X.K M0 G0 F0 own f))(hio:i∉own:=by decide)(hs:swapsWith e (some (.Name x p2)) pos.line X.env=pure false:=by rfl)
  (hf:X.fn x=true∨X.env.scope.names.lookup x=some .local:=by first|exact .inl rfl|exact .inr rfl|assumption):Ny X (.Assign [.Name x p2] e pos) (TX X M0 G0 F0 own own (Dn i f)):=fun pins s σ H D I ⟨G,ρ,M,R,sr,e',k1,k2⟩=>
 a1f hN hi hx h hs hf pins s σ H D I ⟨G,ρ,M,_,sr,e',fun d M' v G' H' r x m q=>k1 _ M' G' _ H' r ((sr.grow x m).set hio q)⟩
theorem zS(h:Kf X e (Jh X.prog X.w X.K M0 G0 F0 own f)):Ny X (.Return (some e) pos) (TX X M0 G0 F0 own own1 (Ht f)):=fun pins s σ H D I ⟨G,ρ,M,R,sr,e',k1,k2⟩=>
 b1b h pins s σ H D I ⟨G,ρ,M,_,sr,e',fun d M' v G' H' r x m q=>k2 d M' v G' H' r (sr.x.trans x sr.st.mr) m q⟩
theorem b8y(h:ME X own e f):Kf X e (Jh X.prog X.w X.K M0 G0 F0 own f):=fun pins s σ H Q I ⟨G,ρ,M,R,sr,e',k⟩=>WR.of_any (h.ok pins s σ H Q I ⟨G,ρ,M,R,sr.st,e',k⟩)
theorem b5d{op:Operator}{r:R2}{ta tb:TE}(ho:Es X (binaryOp op) r)(ha:Kf X a ta)(hb:Kf X b tb):Kf X (.BinOp a op b pos) (Sn r ta tb):=by
 intro pins s σ H Q I h;refine WR.BinOp_R (eF (ha pins s σ H _ I h) fun v s1 ⟨x,H1,I1,r1,q1⟩=>?_);refine eF (hb pins s1 σ H1 _ I1 q1) fun u s2 ⟨y,H2,I2,r2,q2⟩=>?_;exact WR.of_any (ho pins s2 σ H2 x y v u Q I2 r1 r2 q2)
theorem a7u{op:Operator}{r:R2}{gm:Mh→D→D→Option D}{fa fb:WE}(ho:Es X (binaryOp op) r)(hg:Si X.prog X.w X.K r gm)(ha:Kf X a (Jh X.prog X.w X.K M0 G0 F0 own fa))(hb:Kf X b (Jh X.prog X.w X.K M0 G0 F0 own fb)):
  Kf X (.BinOp a op b pos) (Jh X.prog X.w X.K M0 G0 F0 own (w2 gm fa fb)):=by
 rintro pins s σ H Q I ⟨G,ρ,M,R,sr,e',k⟩;refine b5d ho ha hb pins s σ H Q I ⟨G,ρ,M,_,sr,e',fun x M1 u G1 H1 r1 x1 m1 q1=>⟨G1,ρ,M1,_,sr.grow x1 m1,r1,fun y M2 v G2 H2 r2 x2 m2 q2=>?_⟩⟩;have r2:=r2;split at r2
 ·rename_i d hd;exact hg x2.sub m2 (q1.mono x2.g) q2 hd fun z G3 H3 x3 q3=>k d M2 z G3 H3 r2 ((x1.trans x2 m1).trans (.ext x3) m2) (m2.ext x3) q3
 ·exact r2.elim
end
end DL
namespace WR
open PySem
theorem b7u{E:Value→Shared→Prop}{pos:Pos}{Q:Value→Shared→Prop}
  (h:wpR (model prog w) A (spliced (backTo pos (starEach elts env))) (fun vs s₁=>vs.length≤sizeLine∧Q (.ref s₁.heap.objs.size) {s₁ with heap:=s₁.heap.push {cls:=.type "list",data:=.seq vs.toArray}}) E s):
  wpR (model prog w) A (eval (.List elts pos) env) Q E s:=by
 rw[arm_eval_List];exact dJ (bind (mono h (fun vs s₁ h₁=>of_any (wpAny_newList h₁.2 h₁.1)) fun _ _ e=>e))
end WR
namespace L2
open PySem PySem.Spec PyProof.Rows WR
section
variable{X:Cx}{e:Expr}{es:List Expr}{te:TE}{t:TA}{pos p:Pos}{x:Str}
theorem a6y(ha:Kf X e te)(hr:Qe X es t)(hs:starEach (e::es) X.env=(false,eval e X.env)::starEach es X.env:=by rfl):Qe X (e::es) (Sb te t):=by
 intro pos pins s σ H Q I h;rw[hs];show wpR _ _ (spliced ((false,eval e X.env)::backTo pos (starEach es X.env))) _ _ s;refine rE (eF (ha pins s σ H _ I h) fun u s1 ⟨x,H1,I1,r1,q1⟩=>?_);exact eF (hr pos pins s1 σ H1 _ I1 q1) fun us s2 ⟨xs,H2,I2,r2,q2⟩=>⟨x::xs,H2,I2,.cons r1 r2,q2⟩
theorem b1j(h:Qe X es t):Kf X (.List es pos) (Tr t):=by
 intro pins s σ H Q I hq;refine b7u (eF (h pos pins s σ H _ I hq) fun us s1 ⟨xs,H1,I1,r,z,q⟩=>⟨by rw[←r.length];exact z,?_⟩);have hf:H1 s1.heap.objs.size=none:=I1.hok.fresh (AU _);refine⟨.ref s1.heap.objs.size,upd H1 s1.heap.objs.size (.lst xs),I1.laid (t':=s1.toks) (fun b u e=>AD _ e) (AU _) ?_,rfl,q _ hf⟩;exact⟨z,us,0,r,BA _ rfl⟩
theorem zA{T:String}{r:List V→Hp→VK→Prop}(hc:Ej X (.type T) r)(hg:Gl X x)(hm:X.mg x=none)(hv:bootBuiltins x=some (.type T))(ha:Qe X (e::es) t)(hn:x≠"__name__":=by decide)(hdb:(x==("__debug__":Str))=false:=by decide)
  (he:starEach (e::es) X.env=(false,eval e X.env)::starEach es X.env:=by rfl)(hpl:(backTo pos (starEach es X.env)).any (·.1)=false:=by rfl):Kf X (.Call (.Name x p) (e::es) [] pos) (Vy r t):=by
 intro pins s σ H Q I h;refine Call_R (of_any (iG I hg hm hv ?_ hn hdb));exact callWith_typeR (eF (ha pos pins s σ H _ I h) fun us s1 ⟨vs,H1,I1,r1,q1⟩=>of_any (hc pins s1 σ H1 vs us Q I1 r1 q1)) he hpl
end
end L2
namespace DL
open PySem PySem.Spec PyProof.Rows L2 XS
section
variable{X:Cx}{own:List Nat}{e:Expr}{es:List Expr}{pos p:Pos}{x:Str}{f:WE}{fs:WA}{M0:Mh}{G0 F0:Hp}
def Sm(P:Program)(w:World)(K:W.Frag)(M0:Mh)(G0 F0:Hp)(own:List Nat)(fs:WA):TA:=fun σ H Q=>∃G ρ M R,Ox P w K own M0 G0 F0 M G H σ ρ∧fs ρ M R∧∀ds M' vs G' H',R ds M'→XM M G H M' G' H'→MR P w K M' G' H'→At K G' ds vs→Q vs H'
theorem a1r(h:Kf X e (Jh X.prog X.w X.K M0 G0 F0 own f))(hs:starEach (e::[]) X.env=(false,eval e X.env)::starEach [] X.env:=by rfl):Qe X [e] (Sm X.prog X.w X.K M0 G0 F0 own (Dh f Dx)):=fun pos pins s σ H Q I ⟨G,ρ,M,R,sr,e',k⟩=>
 a6y h (PA.R dD) hs pos pins s σ H Q I ⟨G,ρ,M,_,sr,e',fun d M' v G' H' r x m q=>k [d] M' [v] G' H' r x m (.cons q .nil)⟩
theorem b6a(h:Qe X es (Sm X.prog X.w X.K M0 G0 F0 own fs)):Kf X (.List es pos) (Jh X.prog X.w X.K M0 G0 F0 own (Sl fs)):=fun pins s σ H Q I ⟨G,ρ,M,R,sr,e',k⟩=>
 b1j h pins s σ H Q I ⟨G,ρ,M,_,sr,e',fun ds M' vs G' H' r x m q=>⟨by rw[←aF q];exact BG r.1 (by decide),fun p hp=>k _ M' _ _ _ r.2 (x.trans (.ext (Cr.laid x.sub hp)) m) (m.ext (Cr.laid x.sub hp)) (bP (x.sub.free hp) q)⟩⟩
theorem mG{T:String}{r:List V→Hp→VK→Prop}{g:Mh→List D→Option D}(hc:Ej X (.type T) r)(hd:Oz X.prog X.w X.K r g)(hg:Gl X x)(hm:X.mg x=none)(hv:bootBuiltins x=some (.type T))(ha:Qe X (e::es) (Sm X.prog X.w X.K M0 G0 F0 own fs))(hn:x≠"__name__":=by decide)
  (hdb:(x==("__debug__":Str))=false:=by decide)(he:starEach (e::es) X.env=(false,eval e X.env)::starEach es X.env:=by rfl)(hpl:(backTo pos (starEach es X.env)).any (·.1)=false:=by rfl):
  Kf X (.Call (.Name x p) (e::es) [] pos) (Jh X.prog X.w X.K M0 G0 F0 own (w1 g fs)):=fun pins s σ H Q I ⟨G,ρ,M,R,sr,e',k⟩=>
 zA hc hg hm hv ha hn hdb he hpl pins s σ H Q I ⟨G,ρ,M,_,sr,e',fun ds M1 vs G1 H1 r1 x1 m1 q1=>by
  obtain⟨d,h1,h2⟩:=dO r1;exact hd x1.sub m1 q1 h1 fun v G2 H2 x2 q2=>k d M1 v G2 H2 h2 (x1.trans (.ext x2) m1) (m1.ext x2) q2⟩
end
end DL
namespace WR
open PySem
section
variable{α:Type}{M:Model}{A:Around}{E:Value→Shared→Prop}{s:Shared}{env:Env}
theorem b5w{m:Sem α}{Q:α→Shared→Prop}(h:wpR M A m Q (notedBy M A env E) s):wpR M A (m.onRaise fun x=>do noteFrame x env;theTreesLotGoes x) Q E s:=
 onRaise (mono h (fun _ _ q=>q) fun _ _ hx=>bind (mono (of_any hx) (fun _ _ e=>of_any (wpAny_theTreesLotGoes e)) fun _ _ e=>e))
theorem a7n{m:Sem α}{Q:α→Shared→Prop}(h:wpR M A m Q (notedBy M A env E) s):wpR M A (m.onRaise fun x=>do noteFrame x env;standAt pos) Q E s:=
 onRaise (mono h (fun _ _ q=>q) fun _ _ hx=>bind (mono (of_any hx) (fun _ _ e=>vX e) fun _ _ e=>e))
theorem a5j{c:Prop} [Decidable c]{k:PUnit→Sem α}{Q:α→Shared→Prop}(h:wpR M A (k ()) Q E s):wpR M A (if c then(standAt pos>>=k)else k ()) Q E s:=by
 split
 ·exact dJ h
 ·exact h
theorem comprehension_R{scope:Scope}{newAcc first:Sem Value}{g:Comprehension}{gs:List Comprehension}{cl:List (Str×Addr)}{Q:Value→Shared→Prop}
  (hcl:clausesOf e=g::gs)(hs:∀x,foldedSetIterable g.iter env x=pure x)(hclos:closureFor scope env=pure cl)
  (hkind:scope.kind=.function)(hnames:∀x∈scope.names,x.2=.local→scope.names.lookup x.1=some .local)
  (h:wpR M A first (fun x s₁=>wpR M A (pyIter x) (fun it s₂=>wpR M A newAcc (fun acc s₃=>wpR M A (newFunctionEnv scope env.globals cl [] env.qual none .none (some env)) (fun cenv s₄=>
    codeR M A (.compStart e 0 it acc {cenv with scope:=relabel scope env}) (compPost M A E none Q acc cenv.locals) s₄) E s₃) E s₂) E s₁) E s):
  wpR M A (comprehension e scope env pos newAcc false first none) Q E s:=by
 unfold comprehension;rw[hclos,hcl];refine bind (mono h (fun x s₁ h₁=>dJ (bind ?_)) fun _ _ h'=>h');rw[hs x];refine pure' (bind (cT (mono h₁ (fun it s₂ h₂=>a5j (bind (mono h₂ (fun acc s₃ h₃=>bind (pure' (bind (mono h₃ (fun cenv s₄ h₄=>?_) fun _ _ h'=>h')))) fun _ _ h'=>h'))) fun _ _ h'=>h')));dsimp only;have hv:∀x∈(scope.names.filter fun x=>(x.2==.local||x.2==.cell)&&x.1 != (".0":Str)).reverse,x.2=.local→
   Env.kindOf {cenv with scope:=relabel scope env} x.1=some .local:=fun x hx hl=>lookup_relabel_local (hnames x (GA.mp (List.mem_reverse.mp hx)).1 hl)
 refine cT (bind (attempt (cT (b9x (code_mono h₄ fun r s' hr=>?_)))));cases r with
 |ok f=>
  obtain⟨m,hn,hr⟩:=hr;exact bind (cT (of_any (wpAny_comp_letGo (cenv:={cenv with scope:=relabel scope env}) hkind _ s' m hv hn fun h' m' _ hs'=>pure' (hr h' hs'))))
 |error x=>
  obtain⟨m,hn,hr⟩:=hr;exact bind (cT (of_any (wpAny_comp_letGo (cenv:={cenv with scope:=relabel scope env}) hkind _ s' m hv hn fun h' m' _ hs'=>mono (of_any (hr h' hs' _ rfl)) (fun _ _ f=>f.elim) fun _ _ y=>y)))
end
section
variable{prog:Program}{w:World}{A:Around}{s:Shared}{env:Env}{R:Result→Shared→Prop}
theorem compStart_R {elt target iter ifs rest scope pos it acc}(h0:codeR (model prog w) A (.compLoop (.ListComp elt (⟨target,iter,ifs,0⟩::rest) scope pos) 0 it acc env) R s)
  (h:wpR (model prog w) A (pyIter it) (fun it' s'=>codeR (model prog w) A (.compLoop (.ListComp elt (⟨target,iter,ifs,0⟩::rest) scope pos) 0 it' acc env) R s') (notedBy (model prog w) A env fun x s'=>R (.error x) s') s):
  codeR (model prog w) A (.compStart (.ListComp elt (⟨target,iter,ifs,0⟩::rest) scope pos) 0 it acc env) R s:=by
 refine gB ?_;show wpR _ _ ((compStart (.ListComp elt (⟨target,iter,ifs,0⟩::rest) scope pos) 0 it acc env).onRaise (fun x=>do noteFrame x env;standAt theWindowsPlace)) _ _ s;refine a7n ?_;unfold compStart;show wpR _ _ (ask>>=_) _ _ s;refine bind (of_any (wpAny_askSetting ?_));split
 ·first|exact bind (pure' (pure' (And.intro rfl h0)))|exact pure' (And.intro rfl h0)
 ·first
   |exact bind (a1c (dJ (bind (mono h (fun it' s' h'=>pure' (And.intro rfl h')) fun _ _ x=>x))))
   |(refine bind (a1c ?_);show wpR _ _ (standAt iter.pos>>=_) _ _ s;exact dJ (bind (mono h (fun it' s' h'=>pure' (And.intro rfl h')) fun _ _ x=>x)))
theorem compLoop_R{E:Value→Shared→Prop}(I:Nat→Shared→Prop)
  (hE:∀e s',E e s'→notedBy (model prog w) A env (fun e s'=>R (.error e) s') e s')
  (turn:∀n s,I n s→wpR (model prog w) A (pyNext it) (fun r s₁=>match r with
   |none=>R (.ok .next) s₁
   |some v=>wpR (model prog w) A (letOwnedTupleGo target it v) (fun _ s₁'=>wpR (model prog w) A (assign target env v) (fun _ s₂=>
     wpR (model prog w) A (forIn ifs true fun c r=>if r=true then do let ok ←isTrue c env (eval c env);pure (ForInStep.yield ok)else pure (ForInStep.yield r)) (fun ok s₃=>
      if ok=true then wpR (model prog w) A (eval elt env) (fun x s₄=>wpR (model prog w) A (call (.builtin "list.append") [acc,x]) (fun _ s₅=>∃m,m<n∧I m s₅) E s₄) E s₃
      else∃m,m<n∧I m s₃) E s₂) E s₁') E s₁) E s)
  (n:Nat) (h:I n s):codeR (model prog w) A (.compLoop (.ListComp elt [⟨target,iter,ifs,0⟩] scope pos) 0 it acc env) R s:=by
 refine loop rfl I (fun n s hI=>?_) n h;refine b5w ?_;rw[compTurn_list];refine dJ (bind (mono (turn n s hI) (fun r s₁ h₁=>?_) hE));cases r with
 |none=>exact pure' h₁
 |some v=>
  refine bind (mono h₁ (fun _ s₁' h₁'=>?_) hE);refine bind (mono h₁' (fun _ s₂ h₂=>bind (mono h₂ (fun ok s₃ h₃=>?_) hE)) hE);cases ok with
  |false=>exact pure' ⟨rfl,h₃⟩
  |true=>exact bind (bind (mono h₃ (fun x s₄ h₄=>bind (mono h₄ (fun _ s₅ h₅=>pure' (pure' ⟨rfl,h₅⟩)) hE)) hE))
end
end WR
namespace XS
open PySem PySem.Spec PyProof.Rows L2
theorem a0j{XE:Addr→Shared→Hp→List Addr→Value→Shared→Prop}{X:Cx}{scope:Scope}{NL:List Str}{ix:List Nat}{cl:List (Str×Addr)}{g:TG}{tt:TT}{te:TE}{E:Value→Shared→Prop}
  {pins:List (Addr×Obj)}{σ:L2.St}{H2:Hp}{s2:Shared}{fp:List Addr}{tn:Nat→Heap→Prop}{J:It}{Fin:List V→Hp→Prop}{RR:Value→Addr→Result→Shared→Prop}
  (hkind:scope.kind=.function)(hcell:∀y∈scope.names,y.2≠.cell)(hcl:Pi X scope cl)(cap:Eh X scope NF ix)(calm:X.calm=true)
  (hg:∀C s₂ H₂ fp,PG (Fq XE X scope cl C (NL++NF) s₂ H₂ fp) tg g)(hi:∀C s₂ H₂ fp,Js (Fq XE X scope cl C (NL++NF) s₂ H₂ fp) ifs tt)(he:∀C s₂ H₂ fp,Kf (Fq XE X scope cl C (NL++NF) s₂ H₂ fp) elt te)
  (I2:Inv X pins σ H2 s2)(T:Ms X.prog X.w X.K tg J fp it tn)(st2:tn 0 s2.heap)(f2:∀b∈fp,Jg X pins H2 b)(hw:Nu J g tt te Fin (Je NL.length ix σ) H2)
  (hRR:∀(D C:Addr) (us:List Value) (n:Nat) (ys:List V) (H':Hp) (s':Shared),Inv X pins σ H' s'→s'.heap.get? D=some (Hk us n)→Bw ys us→ys.length≤sizeLine→H' D=none→s2.heap.objs.size≤D→s2.heap.objs.size≤C→D≠C→H' C=none→
   (∃m,s'.heap.Ns C m)→Fin ys H'→RR (.ref D) C (.ok .next) s')
  (hXE:∀(D C:Addr) (e:Value) (s':Shared),s2.heap.objs.size≤D→s2.heap.objs.size≤C→D≠C→XE C s2 H2 fp e s'→notedBy (model X.prog X.w) X.A (compEnvC scope cl C X.env) (fun e s'=>RR (.ref D) C (.error e) s') e s'):
  WR.wpR (model X.prog X.w) X.A (newList []) (fun acc s₃=>WR.wpR (model X.prog X.w) X.A (newFunctionEnv scope X.env.globals cl [] X.env.qual none .none (some X.env)) (fun cenv s₄=>
   WR.codeR (model X.prog X.w) X.A (.compStart (.ListComp elt [⟨tg,iter,ifs,0⟩] scope pos) 0 (.ref it) acc {cenv with scope:=relabel scope X.env}) (RR acc cenv.locals) s₄) E s₃) E s2:=by
 obtain⟨W,⟨m0,w0⟩,turn⟩:=hw;have flt:∀b∈fp,b<s2.heap.objs.size:=fun b hb=>let⟨o,e,_⟩:=T.obj _ _ st2 b hb;AL e;refine WR.of_any (CC (WR.of_any (wpAny_newFunctionEnv hcell (by intro y hy;simp at hy) (fun h₁ hns₁ hsb₁=>?_) hkind)));dsimp only at hns₁ hsb₁ ⊢;generalize hH2:s2.heap.push {cls:=.type "list",dict:=none,data:=.seq ([]:List Value).toArray}=G2 at hns₁ hsb₁ ⊢;have hC:G2.objs.size=s2.heap.objs.size+1:=by rw[←hH2,EB]
 have hDC:s2.heap.objs.size≠G2.objs.size:=by rw[hC];exact BC (Nat.lt_succ_self _)
 have hCle:s2.heap.objs.size≤G2.objs.size:=by rw[hC];exact HG _
 have below:∀b,b<s2.heap.objs.size→b≠G2.objs.size:=fun b hb=>by rw[hC];exact BC (Nat.lt_succ_of_lt hb)
 have old:∀b o,s2.heap.get? b=some o→h₁.get? b=some o:=fun b o e=>hsb₁.extBut b o (below b (AL e)) (AD _ (hH2▸AD _ e));have hacc:h₁.get? s2.heap.objs.size=some (Hk [] 0):=hsb₁.extBut _ _ hDC (AD _ (hH2▸BA _ rfl));have st1:tn 0 h₁:=T.keep _ _ _ st2 fun b _ o e=>old b o e;have I1:=a8p (XE G2.objs.size s2 H2 fp) (xK (NL:=NL) (t:=s2.toks+([]:List (Str×Value)).length) hkind hcell hcl cap I2 f2 flt hCle (AU _) hDC old hns₁ hacc (fun v z=>by cases z));have stat:∀{H':Hp} {oD:Obj},(∀b∈fp,H' b=none)→∀b∈fp,Jg (Fq XE X scope cl G2.objs.size (NL++NF) s2 H2 fp) ((X.pn++pins)++[(s2.heap.objs.size,oD)]) H' b:=fun{H' oD} hn b hb=>by
  obtain⟨_,f1,f3,f4,f5,f6⟩:=f2 b hb;refine⟨hn b hb,below b (flt b hb),fun z=>(AN.mp (I2.stkSub b z)).elim f1 f3,.inl hb,fun x c h=>f5 x c (hcl.sub x c h),fun p hp=>?_⟩;have hp':p∈(X.pn++pins)++[(s2.heap.objs.size,oD)]:=by simpa[Fq,He]using hp
  obtain hp'|hp':=AZ.mp hp'
  ·exact f6 p hp'
  ·have e:p=(s2.heap.objs.size,oD):=by simpa using hp'
   subst e;exact DJ (flt b hb)
 have loop:∀s₃:Shared,s₃={s2 with heap:=h₁,toks:=s2.toks+([]:List (Str×Value)).length}→
   WR.codeR (model X.prog X.w) X.A (.compLoop (.ListComp elt [⟨tg,iter,ifs,0⟩] scope pos) 0 (.ref it) (.ref s2.heap.objs.size) (compEnvC scope cl G2.objs.size X.env)) (RR (.ref s2.heap.objs.size) G2.objs.size) s₃:=by
  rintro s₃ rfl;refine WR.compLoop_R (E:=XE G2.objs.size s2 H2 fp) (fun k s'=>∃i ys us n σ' H',Inv (Fq XE X scope cl G2.objs.size (NL++NF) s2 H2 fp) ((X.pn++pins)++[(s2.heap.objs.size,Hk us n)]) σ' H' s'∧tn i s'.heap∧(∀b∈fp,H' b=none)∧Bw ys us∧W i k ys σ' H')
   (fun e s' z=>hXE _ _ e s' (AU _) hCle hDC z) ?_ m0 ⟨0,[],[],0,_,H2,I1,st1,fun b hb=>(f2 b hb).1,.nil,w0⟩
  rintro k s' ⟨i,ys,us,n,σ',H',I',st',fr',rv,w'⟩;obtain⟨hlen,hcase⟩:=turn i k ys σ' H' w';obtain⟨stop,fin⟩|⟨go,step⟩:=hcase
  ·refine eF (WR.of_any (T.done (Fq XE X scope cl G2.objs.size (NL++NF) s2 H2 fp) rfl rfl rfl calm i _ s' σ' H' _ I' (stat fr') st' stop)) fun r s4 ⟨hr,I4⟩=>?_;subst hr;have hpD:=I4.pin (s2.heap.objs.size,Hk us n) (by simp[Fq,He]);have IX:Inv X pins σ H' s4:=I2.call' (ch:=fp) I4.os I4.base I4.hok I4.bare fun b hb=>by
    obtain⟨_,f1,f3,f4,f5,f6⟩:=f2 b hb;exact⟨f4,f1,f5,f6⟩
   obtain⟨mC,hnC,_⟩:=I4.loc;exact hRR _ _ us n ys H' s4 IX hpD.1 rv hlen hpD.2.1 (AU _) hCle hDC I4.free ⟨mC,hnC⟩ fin
  ·refine eF (WR.of_any (T.item (Fq XE X scope cl G2.objs.size (NL++NF) s2 H2 fp) rfl rfl rfl calm i _ s' σ' H' _ I' (stat fr') st' go)) fun r s4 ⟨u,hr,h4⟩=>?_;subst hr;refine eF (WR.of_any h4) fun _ s5 ⟨x,H5,I5,r5,y5,st5,fr5⟩=>?_;have I5':=I5.pinned (stat fr5) (T.obj _ _ st5);refine eF (WR.of_any (hg _ _ _ _ _ s5 σ' H5 x u _ I5' r5 (step x H5 y5))) fun _ s6 ⟨σ6,H6,I6,q6⟩=>?_;refine eF (WR.of_any (hi _ _ _ _ _ s6 σ6 H6 _ I6 q6)) fun ok s7 ⟨H7,I7,q7⟩=>?_;have keepT:∀{σ8:L2.St} {H8:Hp} {s8:Shared},Inv (Fq XE X scope cl G2.objs.size (NL++NF) s2 H2 fp) (((X.pn++pins)++[(s2.heap.objs.size,Hk us n)])++Jl fp s5.heap) σ8 H8 s8→tn (i+1) s8.heap∧∀b∈fp,H8 b=none:=fun{σ8 H8 s8} I8=>by
    refine⟨T.keep _ _ _ st5 fun b hb o e=>(I8.pin (b,o) (AX _ (AX _ (dP hb e)))).1,fun b hb=>?_⟩;obtain⟨o,e,d⟩:=T.obj _ _ st5 b hb;exact(I8.pin (b,o) (AX _ (AX _ (dP hb e)))).2.1
   cases ok with
   |false=>
    simp only[BH,DB]at q7 ⊢;obtain⟨m',hm,w7⟩:=q7;obtain⟨t7,n7⟩:=keepT I7;exact⟨m',hm,i+1,ys,us,n,σ6,H7,I7.unpinned,t7,n7,rv,w7⟩
   |true=>
    simp only[DR]at q7 ⊢;refine eF (he _ _ _ _ _ s7 σ6 H7 _ I7 q7) fun yv s8 ⟨y,H8,I8,r8,m',hm,w8⟩=>?_;obtain⟨t8,n8⟩:=keepT I8;have pD:=I8.pin (s2.heap.objs.size,Hk us n) (AX _ (BE _ (by simp)));have hul:us.length=ys.length:=rv.length.symm;refine WR.of_any (wpAny_list_append_plain (items:=us.toArray) (hsz:=by simpa[hul]using hlen) ⟨n,pD.1⟩ fun h9 hl9 hs9=>?_);obtain⟨n9,e9⟩:=hl9;have I8a:Inv (Fq XE X scope cl G2.objs.size (NL++NF) s2 H2 fp) (X.pn++pins) σ6 H8 s8:=I8.pins_of fun p hp=>I8.pin p (AX _ (BE _ (BE _ hp)));have I9:Inv (Fq XE X scope cl G2.objs.size (NL++NF) s2 H2 fp) (X.pn++pins) σ6 H8 {s8 with heap:=h9,toks:=s8.toks}:=by
     refine I8a.turned (it:=s2.heap.objs.size) (fun b o hb e=>(hs9.2 b hb).trans e) pD.2.1 hDC (.inr (AU _)) (fun x c h=>?_) fun p hp=>?_
     ·obtain⟨v,o,ho,_⟩:=I2.cell x c (hcl.sub x c h);exact BC (AL ho)
     ·have hp':p∈X.pn++pins:=by simpa[Fq,He]using hp
      exact BC (AL (I2.pin p hp').1)
    have e9':h9.get? s2.heap.objs.size=some (Hk (us++[yv]) n9):=by
     rw[e9,List.push_toArray]
    refine⟨m',hm,i+1,ys++[y],us++[yv],n9,σ6,H8,I9.pins_of fun p hp=>?_,T.keep _ _ _ t8 fun b hb o e=>(hs9.2 b (BC (flt b hb))).trans e,n8,rv.append (.cons r8 .nil),w8⟩;obtain hp|hp:=AZ.mp hp
    ·exact I9.pin p (AX _ hp)
    ·have e:p=(s2.heap.objs.size,Hk (us++[yv]) n9):=by simpa using hp
     subst e;exact⟨e9',pD.2.1,pD.2.2.1,pD.2.2.2.1,fun v z=>by cases z⟩
 exact WR.compStart_R (loop _ rfl) (WR.of_any (T.self _ 0 _ _ _ st1 (loop _ rfl)))
theorem a6t{X:Cx}{scope:Scope}{NL:List Str}{ix:List Nat}{wi:TI}{g:TG}{tt:TT}{te:TE}{R:Value→Hp→Prop}
  (hX:Lv X R)(hst:X.stack=X.env::X.outer)(hf:X.env.frame=some L)
  (hkind:scope.kind=.function)(hcell:∀y∈scope.names,y.2≠.cell)(hnames:∀y∈scope.names,y.2=.local→scope.names.lookup y.1=some .local)
  (hfree:∀y∈scope.names,y.2=.free→(X.env.kindOf y.1=some .cell∨X.env.kindOf y.1=some .free))(cap:Eh X scope NF ix)(calm:X.calm=true)(hit:PI X tg iter wi)
  (hg:∀cl C s₂ H₂ fp,PG (Fq (Qj X scope cl (NL++NF) R) X scope cl C (NL++NF) s₂ H₂ fp) tg g)(hi:∀cl C s₂ H₂ fp,Js (Fq (Qj X scope cl (NL++NF) R) X scope cl C (NL++NF) s₂ H₂ fp) ifs tt)(he:∀cl C s₂ H₂ fp,Kf (Fq (Qj X scope cl (NL++NF) R) X scope cl C (NL++NF) s₂ H₂ fp) elt te)
  (hs:∀x,foldedSetIterable iter X.env x=pure x:=by intro _;rfl):
  Kf X (.ListComp elt [⟨tg,iter,ifs,0⟩] scope pos) (Pp NL.length ix wi g tt te):=by
 intro pins s σ H Q I h;obtain⟨cl,hcl⟩:=vG (X:=X) (scope:=scope) fun p hp hf=>I.ok.has p.1 (hfree p hp hf)
 rw[eval_ListComp];refine WR.comprehension_R rfl hs hcl.eq hkind hnames (eF (WR.of_any (hit pins s σ H _ I h)) fun v s1 h1=>eF (WR.of_any h1) fun itv s2 h2=>?_);obtain⟨it,fp,tn,J,H2,e,I2,T,st2,f2,hw⟩:=h2;subst e;refine a0j (XE:=Qj X scope cl (NL++NF) R) (RR:=fun acc C=>compPost (model X.prog X.w) X.A X.xe none (EP X pins σ Q) acc C) hkind hcell hcl cap calm (hg cl) (hi cl) (he cl) I2 T st2 f2 hw (fun D C us n ys H' s' I' eD rv hlen nD hD hC hDC nC ⟨m,hn⟩ fin=>?_)
  fun D C e s' _ hC _ hx=>a9w hX hst hf hcl I2 f2 hC hx
 refine⟨m,hn,fun h' hs'=>?_⟩;have lt2:∀b,b<s2.heap.objs.size→b≠C∧b≠D:=fun b hb=>⟨BC (AV hb hC),BC (AV hb hD)⟩;have cl2:∀x c,X.env.cells.lookup x=some c→c<s2.heap.objs.size:=fun x c h=>let⟨_,_,ho,_⟩:=I2.cell x c h;AL ho;have pn2:∀p∈X.pn++pins,p.1<s2.heap.objs.size:=fun p hp=>AL (I2.pin p hp).1;have IC:Inv X pins σ H' {s' with heap:=h',toks:=s'.toks}:=I'.turned (it:=C) (fun b o hb e=>(hs'.2 b hb).trans e) nC (BU (lt2 _ I2.lt).1) (.inr (BG I2.sz hC)) (fun x c h=>(lt2 c (cl2 x c h)).1) fun p hp=>(lt2 _ (pn2 p hp)).1;have ID:=IC.track (D:=D) (us:=us) (n:=n) ((hs'.2 D hDC).trans eD) rv hlen nD (BG I2.sz hD) (BU (lt2 _ I2.lt).2) (fun x c h=>(lt2 c (cl2 x c h)).2) fun p hp=>(lt2 _ (pn2 p hp)).2;exact⟨.ref D,_,ID,rfl,fin D nD⟩
end XS
namespace DL
open PySem PySem.Spec PyProof.Rows L2 XS
theorem b3u{K:W.Frag}{J:It}{ds:List D}{ck:Mh→Prop}{M1:Mh}{G1 H1:Hp}{g:TG}{bnd:D→Ac→Option Ac}{fe:WE}{ρ0:Ac}{σ0:St}{Fin:List V→Hp→Prop}{R:List D→Mh→Prop}{ft:WT}{M0:Mh}{G0 F0:Hp}(x0:XM M0 G0 F0 M1 G1 H1)
  (hb:ds.length≤Ci)(itd:Vq P w K J ds ck G1)(hg:GD K g bnd)(er:Nz P w K [] G1 H1 σ0 ρ0 M1)(e:Kd bnd ck ft fe ρ0 ds M1 R)(k:∀total ys M' G' H',R total M'→XM M1 G1 H1 M' G' H'→MR P w K M' G' H'→At K G' total ys→total.length≤ds.length→Fin ys H'):
  Nu J g (Tj P w K [] ft) (Jh P w K M0 G0 F0 [] fe) Fin σ0 H1:=by
 refine⟨fun i m ys σ' H'=>i≤ds.length∧m=ds.length - i∧∃G' M' ws,XM M1 G1 H1 M' G' H'∧Nz P w K [] G' H' σ' ρ0 M'∧At K G' ws ys∧ws.length≤i∧Kd bnd ck ft fe ρ0 (ds.drop i) M' fun r M2=>R (ws++r) M2,
  ⟨ds.length,DK _,rfl,G1,M1,[],.refl er.or.sub,er,At.nil,DK _,e⟩,?_⟩
 rintro i m ys σ' H' ⟨hi,rfl,G',M',ws,x,er',rw',hw,e2⟩;refine⟨cE (by rw[←aF rw'];omega),?_⟩;have hck:ck M':=by
  cases hd:ds.drop i with
  |nil=>rw[hd]at e2;exact e2.1
  |cons _ _=>rw[hd]at e2;exact e2.1
 obtain⟨hgo,hstop⟩:=itd i M' G' H' x.g er'.or.sub er'.mr hck;by_cases hlt:i<ds.length
 ·right;have hd:ds[i]?=some ds[i]:=by simp[hlt]
  rw[CY hlt]at e2;obtain⟨_,e2⟩:=e2;obtain⟨ρ1,e1,e2⟩:=dO e2;obtain⟨go,yl⟩:=hgo _ hd;refine⟨go,fun v H2 hy=>?_⟩;obtain⟨G2,x2,r2⟩:=yl v H2 hy;have er2:=er'.grow (.ext x2) (er'.mr.ext x2);have xx2:XM M1 G1 H1 M' G2 H2:=x.trans (.ext x2) er'.mr;refine hg er2.or r2 e1 fun σ1 er1 le1=>⟨G2,ρ1,M',_,⟨er1,er2.mr,fun i hi=>(by cases hi)⟩,e2,fun b M3 G3 H3 r3 x3 m3=>?_⟩;have er3:=(show Nz P w K [] G2 H2 σ1 ρ1 M' from⟨er1,er2.mr,fun i hi=>(by cases hi)⟩).grow x3 m3;have x13:=xx2.trans x3 er2.mr;cases b with
  |true=>
   refine nW ⟨G3,ρ1,M3,_,⟨er3,x0.trans x13 er.mr,fun i hi=>(by cases hi)⟩,r3,fun y M4 u G4 H4 r4 x4 m4 q4=>⟨ds.length - (i+1),by omega,hlt,rfl,G4,M4,ws++[y],x13.trans x4 m3,⟨(er3.grow x4 m4).or.le le1,m4,fun i hi=>(by cases hi)⟩,?_,?_,?_⟩⟩
   ·exact cF (((rw'.mono x2.g).mono x3.g).mono x4.g) (At.cons q4 At.nil)
   ·rw[BF,CK];omega
   ·have e5:(fun r M2=>R (ws++[y]++r) M2)=fun r M2=>R (ws++y::r) M2:=by
     funext r M2;rw[List.append_assoc];rfl
    rw[e5];exact r4
  |false=>
   exact nX ⟨ds.length - (i+1),by omega,hlt,rfl,G3,M3,ws,x13,⟨er3.or.le le1,m3,fun i hi=>(by cases hi)⟩,(rw'.mono x2.g).mono x3.g,by omega,r3⟩
 ·left;have hil:i=ds.length:=by omega
  refine⟨hstop hil,?_⟩;rw[hil,HB]at e2;have this:R (ws++[]) M':=e2.2;rw[BP]at this;exact k ws ys M' G' H' this x er'.mr rw' (by omega)
theorem uH{X:Cx}{own:List Nat}{scope:Scope}{NL:List Str}{ix:List Nat}{g:TG}{bnd:D→Ac→Option Ac}{fi:WI}{ft:WT}{fe:WE}{M0:Mh}{G0 F0:Hp}{E:EK}
  (hX:Lv X (XR X.prog X.w X.K M0 G0 F0 E))(hst:X.stack=X.env::X.outer)(hf:X.env.frame=some L)
  (hkind:scope.kind=.function)(hcell:∀y∈scope.names,y.2≠.cell)(hnames:∀y∈scope.names,y.2=.local→scope.names.lookup y.1=some .local)
  (hfree:∀y∈scope.names,y.2=.free→(X.env.kindOf y.1=some .cell∨X.env.kindOf y.1=some .free))(cap:Eh X scope NF ix)(hix:∀j∈ix,j∉own)(calm:X.calm=true)(hit:MI X own tg iter fi)
  (hg:∀cl C s₂ H₂ fp,PG (Fq (Qj X scope cl (NL++NF) (XR X.prog X.w X.K M0 G0 F0 E)) X scope cl C (NL++NF) s₂ H₂ fp) tg g)(hgd:GD X.K g bnd)
  (hi:∀cl C s₂ H₂ fp,Js (Fq (Qj X scope cl (NL++NF) (XR X.prog X.w X.K M0 G0 F0 E)) X scope cl C (NL++NF) s₂ H₂ fp) ifs (Tj X.prog X.w X.K [] ft))
  (he:∀cl C s₂ H₂ fp,Lv (Fq (Qj X scope cl (NL++NF) (XR X.prog X.w X.K M0 G0 F0 E)) X scope cl C (NL++NF) s₂ H₂ fp) (XR X.prog X.w X.K M0 G0 F0 E)→
   Kf (Fq (Qj X scope cl (NL++NF) (XR X.prog X.w X.K M0 G0 F0 E)) X scope cl C (NL++NF) s₂ H₂ fp) elt (Jh X.prog X.w X.K M0 G0 F0 [] fe))
  (hs:∀x,foldedSetIterable iter X.env x=pure x:=by intro _;rfl):
  Kf X (.ListComp elt [⟨tg,iter,ifs,0⟩] scope pos) (Jh X.prog X.w X.K M0 G0 F0 own (Mv NL.length ix fi bnd ft fe)):=fun pins s σ H Q I ⟨G,ρ,M,R,sr,e,k⟩=>
 a6t hX hst hf hkind hcell hnames hfree cap calm hit.ok hg hi (fun cl C s₂ H₂ fp=>he cl C s₂ H₂ fp b2j) hs pins s σ H Q I ⟨G,ρ,M,_,sr.st,e,fun ds ck M1 J G1 H1 r1 x1 m1 itd=>by
  obtain⟨hb,r1⟩:=r1;have st1:=sr.st.grow x1 m1;refine b3u (sr.x.trans x1 sr.st.mr) hb itd hgd ⟨st1.or.cap NL.length ix hix,m1,fun i hi=>(by cases hi)⟩ r1 fun total ys M' G' H' r x m q _ p hp=>?_;exact k _ M' _ _ _ r ((x1.trans x m1).trans (.ext (Cr.laid x.sub hp)) m) (m.ext (Cr.laid x.sub hp)) (bP (x.sub.free hp) q)⟩
end DL
namespace WR
open PySem
section
variable{prog:Program}{w:World}{A:Around}{E:Value→Shared→Prop}{env:Env}
variable{nm q:Str}{C N:Addr}{bs bm:List Value}{hdct:Bool}{sn:List Str}{sub:List Value}{ab:Bool}{col:Option Bool}{dd:Option Addr}{k0 k1 k2 k3 k5:Option Value}{newId:String}
theorem unchain{s:Shared}{oh:Obj}{vs:Array Value}{Q:Value→Shared→Prop}(ha:s.heap.get? a=some oh)(hd:oh.data=.fields vs)(h2:vs[2]?=some .none)(h:Q .none s):
  wpAny (model prog w) A (runValue (.builtin "proto.unchain" ⟨[v,.ref a,.ref a,.bool false],[]⟩)) Q E s:=by
 refine wpAny_runValue (codeAny_of_tree ?_);show wpAny _ _ (Builtin.«proto.unchain» ⟨[v,.ref a,.ref a,.bool false],[]⟩) _ _ s;unfold Builtin.«proto.unchain»;show wpAny _ _ (field (.ref a) 2>>=_) _ _ s;refine AB (BI ha hd h2 ?_);rw[AS (by rfl)];exact fun _ _ _=>h
theorem wK{s:Shared}{oh oe:Obj}{vs es:Array Value}{Q:Flow→Shared→Prop}(hh:A.handled=some (.ref a))(hne:a≠e)(ha:s.heap.get? a=some oh)(hd:oh.data=.fields vs)(h2:vs[2]?=some .none)
  (he:s.heap.get? e=some oe)(hde:oe.data=.fields es)(hi:2<es.size)(h:E (.ref e) {s with heap:=s.heap.update e (Obj.mapFields (·.setIfInBounds 2 (.ref a)))}):wpAny (model prog w) A (raiseNew (.ref e):Sem Flow) Q E s:=by
 unfold raiseNew;refine AB (wpAny_handled ?_);rw[hh];dsimp only;rw[AS (show((Value.ref a) != Value.ref e)=true by simp[hne])];refine AB (BR (unchain ha hd h2 ?_));refine AB ?_;have:=EN (M:=model prog w) (A:=A) (E:=E) (x:=.ref a) he hde hi (Q:=fun _ s'=>E (.ref e) s') h;exact BV this (fun _ _ z=>wpAny_throw z) fun _ _ z=>z
theorem b3d{s:Shared}{vs:Array Value}{msg:String}{Q:Value→Shared→Prop}(hcB:(Value.ref C::bm).contains (.type "BaseException")=true)(hC:s.heap.get? C=some (excClassObj nm q C N bs bm hdct sn sub ab col dd k0 k1 k2 k3 k5 newId))
  (he:s.heap.get? e=some {cls:=.ref C,data:=.fields vs})(h:Q (.ref e) s):wpAny (model prog w) A (excFromValue (.ref e) msg) Q E s:=by
 obtain⟨hp,g,d,tk,os⟩:=s;unfold excFromValue
 repeat (first|with_reducible refine EI he ?_|with_reducible refine EI hC ?_|(with_reducible refine wpAny_isSubtype_exc hC ?_;rw[hcB])|wp_step)
 exact h
theorem isT{s:Shared}{vs:Array Value}{Q:Bool→Shared→Prop}(hC:s.heap.get? C=some (excClassObj nm q C N bs bm hdct sn sub ab col dd k0 k1 k2 k3 k5 newId))
  (he:s.heap.get? e=some {cls:=.ref C,data:=.fields vs})(h:Q false s):wpAny (model prog w) A (isType (.ref e)) Q E s:=by
 obtain⟨hp,g,d,tk,os⟩:=s;unfold isType
 repeat (first|with_reducible refine EI he ?_|with_reducible refine EI hC ?_|wp_step)
 exact h
theorem b0v{s:Shared}{vs:Array Value}{Q:Value→Shared→Prop}(hC:s.heap.get? C=some (excClassObj nm q C N bs bm hdct sn sub ab col dd k0 k1 k2 k3 k5 newId))
  (he:s.heap.get? e=some {cls:=.ref C,data:=.fields vs})(h:Q (.ref e) s):wpAny (model prog w) A (raisedInstance (.ref e)) Q E s:=by
 obtain⟨hp,g,d,tk,os⟩:=s;unfold raisedInstance
 repeat (first|with_reducible refine EI he ?_|with_reducible refine EI hC ?_|wp_step)
 exact h
theorem b2y{s:Shared}{Q:Unit→Shared→Prop}(he:s.heap.get? e=some {cls:=cls,data:=.fields #[.ref t,.none,.none,x,y,.none]})(h:Q () s):wpAny (model prog w) A (setFlight (.ref e) none) Q E s:=by
 unfold setFlight;refine AB (BI he rfl rfl ?_);rw[AR (by simp)];exact AG h
theorem pG{x c:Sem Value}{Q:Flow→Shared→Prop}(hbase:bm.contains (.type "BaseException")=true)(hh:A.handled=some (.ref a))(hc:∀(s:Shared) (Q:Value→Shared→Prop),Q .none s→wpAny (model prog w) A c Q E s)
  (h:wpAny (model prog w) A x (fun v s₁=>∃e t oh vs,v=.ref e∧s₁.heap.get? C=some (excClassObj nm q C N bs bm hdct sn sub ab col dd k0 k1 k2 k3 k5 newId)∧
   s₁.heap.get? e=some {cls:=.ref C,data:=.fields #[.ref t,.none,.none,.none,.bool false,.none]}∧a≠e∧s₁.heap.get? a=some oh∧oh.data=.fields vs∧vs[2]?=some .none∧
   ∀h',h'.get? e=some {cls:=.ref C,data:=.fields #[.ref t,.none,.ref a,.none,.bool true,.none]}→Heap.SameBut e s₁.heap h'→E (.ref e) {s₁ with heap:=h'}) E s):
  wpAny (model prog w) A (raiseStmt env (some x) (some c)) Q E s:=by
 have hcB:(Value.ref C::bm).contains (.type "BaseException")=true:=by rw[List.contains_cons,hbase,Bool.or_true]
 unfold raiseStmt;refine AB (BV h (fun v s₁ h₁=>?_) fun _ _ x=>x);obtain⟨e,t,oh,vs,rfl,hC,he,hne,ha,hd,h2,hE⟩:=h₁;have hCe:C≠e:=fun z=>by subst z;rw[hC]at he;cases he
 dsimp only;refine AB (BR (hc _ _ ?_));refine AB (AG ?_);refine AB (BR (b3d hcB hC he ?_));dsimp only;rw[AS (by rfl)];refine AB (AG ?_);refine AB (CP he (by simp) fun h1 e1 b1=>?_);refine AB (CP e1 (by simp) fun h2' e2 b2=>?_);have hC2:h2'.get? C=some (excClassObj nm q C N bs bm hdct sn sub ab col dd k0 k1 k2 k3 k5 newId):=(b2.2 C hCe).trans ((b1.2 C hCe).trans hC);have ha2:h2'.get? a=some oh:=(b2.2 a hne).trans ((b1.2 a hne).trans ha);obtain⟨hp,g,d,tk,os⟩:=s₁;refine AB (isT hC2 e2 ?_);rw[AR (by simp)];refine AB (b0v hC2 e2 ?_);refine AB (b2y e2 ?_);refine wK hh hne ha2 hd h2 e2 rfl (by simp) (hE _ ?_ ?_)
 ·exact BW _ e2 rfl
 ·exact(b1.trans b2).trans (EV ..)
end
end WR
namespace WR
open PySem
section
variable{prog:Program}{w:World}{A:Around}{E:Value→Shared→Prop}{s:Shared}{env:Env}
theorem Try_R{body orelse:List Stmt}{h₀:ExceptHandler}{hs:List ExceptHandler}{Q:Flow→Shared→Prop}
  (h:wpR (model prog w) A (execs body env) (fun f s₁=>match f with|.next=>wpR (model prog w) A (execs orelse env) Q E s₁|f=>Q f s₁)
   (fun e s₁=>wpAny (model prog w) A (noteFrame e env) (fun _ s₂=>wpAny (model prog w) A (setFlight e none) (fun _ s₃=>wpAny (model prog w) A (handleBy e env (h₀::hs)) Q E s₃) E s₂) E s₁) s):
  wpR (model prog w) A (exec (.Try body (h₀::hs) orelse [] pos) env) Q E s:=by
 rw[arm_exec_Try];refine dJ ?_;unfold tryStmt;simp only[List.isEmpty_nil,DR,List.isEmpty_cons,GK,BH,DB];refine bind (attempt (mono h (fun f s₁ h₁=>?_) fun e s₁ h₁=>?_))
 ·cases f<;>first|exact h₁|exact pure' h₁
 ·exact of_any (AB (BV h₁ (fun _ _ h₂=>AB h₂) fun _ _ x=>x))
theorem handle_VE{suite:List Stmt}{rest:List ExceptHandler}{Q:Flow→Shared→Prop}(hT:s.TypeIs (.ref e) "ValueError")
  (ht:wpAny (model prog w) (A.mark (some (.ref e))) (eval t env) (fun c s₁=>c=.type "ValueError"∧s₁=s) (fun _ _=>False) s)
  (h:wpAny (model prog w) (A.mark (some (.ref e))) (setFlight (.ref e) none) (fun _ s₁=>wpAny (model prog w) (A.mark (some (.ref e))) (execs (b₀::suite) env) Q
   (notedBy (model prog w) (A.mark (some (.ref e))) env fun x s₂=>cameBackBy (model prog w) A env E x s₂) s₁) (fun _ _=>False) s):
  wpAny (model prog w) A (handleBy (.ref e) env (.ExceptHandler (some t) none (b₀::suite) pos::rest)) Q E s:=by
 refine wpAny_handleBy_cons (codeAny_handlers_test (BV ht (fun c s₁ z=>?_) fun _ _ z=>z.elim)) (by intro z;cases z);obtain⟨rfl,rfl⟩:=z;refine wpAny_excMatches_type (b:=true) hT (by kernel_rfl) (by kernel_rfl) (by kernel_rfl) ?_;exact codeAny_handlers_suite (BV h (fun _ s₁ z=>z) fun _ _ z=>z.elim)
end
end WR
namespace XS
open PySem PySem.Spec PyProof.Rows PySem.W L2
end XS
namespace DL
open PySem PySem.Spec PyProof.Rows L2 XS
end DL
namespace WR
open PySem
section
variable{prog:Program}{w:World}{A:Around}{E:Value→Shared→Prop}{s:Shared}{env:Env}
variable{nm q:Str}{C N:Addr}{bs bm bmB:List Value}{hdct:Bool}{sn:List Str}{sub:List Value}{ab:Bool}{col:Option Bool}{dd:Option Addr}{k0 k1 k2 k3 k5:Option Value}{B Bn newId nid initId inN:String}{bmN:List Value}
structure Sy(h h':Heap)(e C a:Addr):Prop where
 keeps:∀b o,h.get? b=some o→h'.get? b=some o
 new:h.get? e=none
 there:∃t,h'.get? e=some {cls:=.ref C,data:=.fields #[.ref t,.none,.ref a,.none,.bool true,.none]}
theorem Raise_from(Fn:ExcBaseFacts Bn newId inN bmN)(hBn:bmB.contains (.type Bn)=true)(F:ExcBaseFacts B nid initId bmB){mN:Str→Option Value}{x:Str} {kk}{Q:Flow→Shared→Prop}
  (hbase:bm.contains (.type "BaseException")=true)(hh:A.handled=some (.ref a))(hplain:(backTo cpos (starEach args env)).any (·.1)=false)(hni:mN "__init__"=none)
  (h:wpAny (model prog w) A (eval (.Name x np) env) (fun f s₁=>f=.ref C∧wpAny (model prog w) A (evalArgs (.ref C) true (backTo cpos (starEach args env)) [])
   (fun ar s₂=>ar.kw=[]∧ar.pos.length≤sizeLine∧s₂.heap.get? C=some (excClassObj nm q C N bs bm hdct sn sub ab col dd k0 k1 k2 k3 k5 newId)∧s₂.heap.Ns N mN∧OwnTail s₂.heap bmB bm∧
    (∃oh vs,s₂.heap.get? a=some oh∧oh.data=.fields vs∧vs[2]?=some .none)∧∀h' e,Sy s₂.heap h' e C a→E (.ref e) {s₂ with heap:=h'}) E s₁) E s):
  wpAny (model prog w) A (exec (.Raise (some (.Call (.Name x np) args [] cpos)) (some (.Constant .none kk kp)) pos) env) Q E s:=by
 rw[arm_exec_Raise];refine AB (FB ?_);refine pG (C:=C) (nm:=nm) (q:=q) (N:=N) (bs:=bs) (bm:=bm) (hdct:=hdct) (sn:=sn) (sub:=sub) (ab:=ab) (col:=col) (dd:=dd) (k0:=k0) (k1:=k1) (k2:=k2) (k3:=k3) (k5:=k5) (newId:=newId) hbase hh (fun s Q z=>fun _ _ _=>z)
  (AB (BV (wpAny_Call_ofName (BV h (fun f s₁ h₁=>?_) fun _ _ x=>x)) (fun v s₃ h₃=>AB (FB (AG h₃))) fun _ _ x=>x))
 obtain⟨rfl,h₁⟩:=h₁;unfold callWith;refine AB (BR (BV h₁ (fun ar s₂ h₂=>AB (FB ?_)) fun _ _ x=>x));obtain⟨apos,akw⟩:=ar;obtain⟨hkw,hlen,hC,hn,T,⟨oh,vs,ha,hd,h2⟩,h₂⟩:=h₂;obtain rfl:akw=[]:=hkw;obtain⟨hp,g,d,tk,os⟩:=s₂;simp only[hplain];refine AB (wpAny_keeperOf_exc hC ?_);refine AB (wpAny_call_exc_subU (hrest:=hlen) Fn hBn F T hC hn hni fun h' e hm=>AB (BR (wpAny_point (AG ?_))));obtain⟨t,ht,_,_⟩:=hm.there;have hne:a≠e:=fun z=>by subst z;rw[hm.new]at ha;cases ha
 refine⟨e,t,oh,vs,rfl,hm.keeps _ _ hC,ht,hne,hm.keeps _ _ ha,hd,h2,fun h'' e'' b=>?_⟩;exact h₂ h'' e ⟨fun b' o z=>(b.2 b' (fun y=>by subst y;rw[hm.new]at z;cases z)).trans (hm.keeps _ _ z),hm.new,t,e''⟩
end
end WR
namespace XS
open PySem PySem.Spec PyProof.Rows L2
section
variable{M:Model}{A:Around}{E:Value→Shared→Prop}{s:Shared}{base:Heap}{env:Env}{outer:List Env}{L e:Addr}{n:Heap}{cls fl:Value}{Q:Unit→Shared→Prop}
theorem b6y{oe:Obj}{vs:Array Value}{hadNext:Bool}(hfr:A.frames=some (env::outer))(hl:s.heap.FunFrames base (env::outer))(hf:env.frame=some L)(hn:∀b∈frA (env::outer),∃o,n.get? b=some o)(hns:∀b,s.heap.objs.size≤b→n.get? b=none)
  (hne:n.get? e=none)(he:s.heap.get? e=some oe)(hc:oe.cls=cls)(hd:oe.data=.fields vs)(hsz:1<vs.size)
  (k:∀h' T,s.heap.objs.size≤T→XF n h' e T cls (rawInt L)→(∃oe',h'.get? e=some oe'∧oe'.data=.fields (vs.setIfInBounds 1 (.ref T)))→Kp [e] (frA (env::outer)) s.heap h'→h'.FunFrames base (env::outer)→Q () {s with heap:=h'}):
  wpAny M A (do setField (.ref e) 1 (←EntryCells.newEntry head (←frameOf env) .none (rawInt L) .none (←entryPlaceOf L hadNext))) Q E s:=by
 have hef:=a8v (s:=s) hl hn hne;refine AB (wpAny_frameOf_fun hfr hl hf fun h1 so=>?_);refine AB (wpAny_entryPlaceOf fun pl hpl=>?_);unfold EntryCells.newEntry newFields;refine AB (CC ?_ (hpl.sizeOk5 _ _ _ _ _));have e1:h1.get? e=some oe:=(so.2.1 e hef).trans he;have eT:e<h1.objs.size:=AL e1;generalize hob:({cls:=.type "traceback",dict:=none,data:=.fields ([head,.ref L,.none,rawInt L,.none]++(if pl.isEmpty then List.replicate 6 Value.none else pl)).toArray}:Obj)=ob;have hobd:ob.data=.fields ([head,.ref L,.none,rawInt L,.none]++(if pl.isEmpty then List.replicate 6 Value.none else pl)).toArray:=by rw[←hob]
 have hobf:ob.isFreed=false:=CO hobd;have e2:(h1.push ob).get? e=some oe:=AD _ e1;refine EN e2 hd hsz ?_;have d3:=DD hd (·.setIfInBounds 1 (Value.ref h1.objs.size));have e3:=BW (Obj.mapFields (·.setIfInBounds 1 (Value.ref h1.objs.size))) e2 (CO d3);have oth:∀b o,b≠e→h1.get? b=some o→((h1.push ob).update e (Obj.mapFields (·.setIfInBounds 1 (Value.ref h1.objs.size)))).get? b=some o:=fun b o hb eb=>by
  rw[CB _ _ (BU hb)];exact AD _ eb
 have tT:((h1.push ob).update e (Obj.mapFields (·.setIfInBounds 1 (Value.ref h1.objs.size)))).get? h1.objs.size=some ob:=by
  rw[CB _ _ (BC eT)];exact BA _ hobf
 have s1:s.heap.objs.size=h1.objs.size:=so.1.symm;refine k _ h1.objs.size (by rw[s1];exact AU _) ⟨hne,_,_,ob,_,e3,(Obj.cls_mapFields _ _).trans hc,d3,by simp[hsz],hns _ (by omega),DJ eT,tT,hobd,?_⟩ ⟨_,e3,d3⟩ ⟨fun b o hb hbf eb=>?_,fun b o hb eb=>?_,fun b o eb=>?_,by rw[CW,EB,s1];exact HG _⟩ (hl.of_keeps fun b o eb hnf=>?_)
 ·obtain rfl|⟨_,_,_,_,_,_,_,rfl⟩:=hpl<;>simp
 ·refine oth b o (fun z=>hb (by simp[z])) ?_;rw[so.2.1 b hbf];exact eb
 ·obtain⟨sl,eb'⟩:=so.2.2 b o eb;exact⟨sl,oth b _ (fun z=>hef (z▸hb)) eb'⟩
 ·obtain⟨sl,eb'⟩:=so.2.2 b o eb;by_cases hbe:b=e
  ·subst hbe;exact⟨_,e3⟩
  ·exact⟨_,oth b _ hbe eb'⟩
 ·obtain⟨sl,eb'⟩:=so.2.2 b o eb;exact⟨_,oth b _ (fun z=>by subst z;rw[he]at eb;cases eb;exact hnf _ hd) eb',rfl⟩
theorem a3w{oe:Obj}{vs:Array Value}(hfr:A.frames=some (env::outer))(hl:s.heap.FunFrames base (env::outer))(hf:env.frame=some L)(hn:∀b∈frA (env::outer),∃o,n.get? b=some o)(hns:∀b,s.heap.objs.size≤b→n.get? b=none)
  (hne:n.get? e=none)(he:s.heap.get? e=some oe)(hc:oe.cls=cls)(hd:oe.data=.fields vs)(h1:vs[1]?=some .none)
  (k:∀h' T,s.heap.objs.size≤T→XF n h' e T cls (rawInt L)→(∃oe',h'.get? e=some oe'∧oe'.data=.fields (vs.setIfInBounds 1 (.ref T)))→Kp [e] (frA (env::outer)) s.heap h'→h'.FunFrames base (env::outer)→Q () {s with heap:=h'}):wpAny M A (noteFrame (.ref e) env) Q E s:=by
 unfold noteFrame;simp only[hf];refine AB (BI he hd h1 ?_);rw[AR (show¬((Value.none != Value.none)=true)by decide)];exact b6y hfr hl hf hn hns hne he hc hd (BX.mp h1).1 k
end
end XS
namespace XS
open PySem PySem.Spec PyProof.Rows PySem.W L2
section
variable{X:Cx}{pins:List (Addr×Obj)}{σ:L2.St}{H:Hp}{D:Ends}{xC:Str}{p6 p7 p8 p9 p10 p11:Pos} {kk}{fs:Expr}{C L a:Addr}{s:Shared}{n:Heap}{R:Value→Hp→Prop}{tf:TE}{oe:Obj}{vs:Array Value}
theorem a5b(hX:Lv X R)(hst:X.stack=X.env::X.outer)(hf:X.env.frame=some L)(hcalm:X.calm=true→X.A.handled=none)(hgv:Gl X "ValueError")(hmv:X.mg "ValueError"=none)(hg:Gl X xC)(hm:X.mg xC=some (.ref C))(hC:Ru X.K C)
  (hfs:∀a pn,PE (Jp X a pn) fs tf)(hdb:(xC==("__debug__":Str))=false)(hsta:starEach [fs] X.env=[(false,eval fs X.env)])
  (I:Inv X pins σ H s)(Nn:Nw X pins n)(i:In n s.heap)(xn:n.get? a=none)(xe:s.heap.get? a=some oe)(xc:oe.cls=.type "ValueError")(xd:oe.data=.fields vs)(x1:vs[1]?=some .none)(x2:vs[2]?=some .none)
  (han:H a=none)(ht:tf σ H fun _ H1=>R (.ref C) H1):
  wpAny (model X.prog X.w) X.A (noteFrame (.ref a) X.env) (fun _ s₂=>wpAny (model X.prog X.w) X.A (setFlight (.ref a) none) (fun _ s₃=>
   wpAny (model X.prog X.w) X.A (handleBy (.ref a) X.env [.ExceptHandler (some (.Name "ValueError" p6)) none [.Raise (some (.Call (.Name xC p7) [fs] [] p8)) (some (.Constant .none kk p9)) p10] p11]) (SP X pins D) X.xe s₃) X.xe s₂) X.xe s:=by
 have hfr:X.A.frames=some (X.env::X.outer):=by rw[←hst];exact I.ok.frames
 have hns:∀b∈frA (X.env::X.outer),∃o,n.get? b=some o:=by rw[←hst];exact Nn.frm
 have hl:s.heap.FunFrames X.base (X.env::X.outer):=by rw[←hst];exact I.stack
 have haf:a∉frA (X.env::X.outer):=fun z=>by obtain⟨o,w⟩:=hns a z;rw[xn]at w;cases w
 refine a3w hfr hl hf hns i xn xe xc xd x1 fun h1 T a0 a1 ⟨oe1,y1,yd1⟩ a2 a3=>?_;have hTn:H T=none:=I.hok.fresh a0;have hTg:n.get? T=none:=let⟨_,_,_,_,_,_,_,_,_,z,_⟩:=a1;z;have hTa:a≠T:=let⟨_,_,_,_,_,_,_,_,_,_,z,_⟩:=a1;BU z;have z2:(vs.setIfInBounds 1 (Value.ref T))[2]?=some .none:=by rw[Array.getElem?_setIfInBounds_ne (by decide)];exact x2
 have k1:=a2;rw[←hst]at a2;have J1:=eR I Nn a2 fun b h=>by simp at h;subst h;exact⟨han,xn⟩
 have tk:∀b∈[T],H b=none∧n.get? b=none:=fun b h=>by simp at h;subst h;exact⟨hTn,hTg⟩
 refine gG (s:={s with heap:=h1}) (fo:=none) a3 hns a1 fun h2 b1 b2 b3 b4=>?_;have y2:h2.get? a=some oe1:=b2.old a oe1 (by simp[hTa]) haf y1;rw[←hst]at b2;have J2:=eR J1 Nn b2 tk;obtain⟨_,oe2,vs2,oT2,ts2,e2,c2,d2,r2⟩:=id b1;have I2:Inv (Jp X a (X.pn++pins)) [] σ H {s with heap:=h2}:=eS (ok:=b1u J2.ok) J2 rfl (fun p hp=>J2.pin p (by simpa using hp)) rfl fun _ _ z=>z;refine WR.handle_VE ⟨_,e2,c2⟩ (iG (X:=Jp X a (X.pn++pins)) I2 hgv hmv (by decide+kernel) ⟨rfl,rfl⟩) ?_;refine gG (s:={s with heap:=h2}) (fo:=none) b3 hns b1 fun h3 c1' c2' c3 c4=>?_;have y3:h3.get? a=some oe1:=c2'.old a oe1 (by simp[hTa]) haf y2;rw[←hst]at c2';have J3:=eR J2 Nn c2' tk;have hal:a≠X.env.locals:=fun z=>by subst z;obtain⟨o,w⟩:=Nn.loc;rw[show n.get? X.env.locals=some o from w]at xn;cases xn
 have haf':a∉X.fs:=fun z=>haf (by
  show a∈List.filterMap _ (X.env::X.outer);rw[DM,hf];exact AC _ z)
 have I3:Inv (Jp X a (X.pn++pins++[(a,oe1)])) [] σ H {s with heap:=h3}:=eS (ok:=b1u J3.ok) J3 rfl (fun p hp=>by
  rw[BP]at hp;obtain hp|hp:=AZ.mp hp
  ·exact J3.pin p hp
  ·simp at hp;subst hp;exact⟨y3,han,hal,haf',fun v z=>by rw[yd1]at z;cases z⟩) rfl fun _ _ z=>z
 refine wpAny_execs_cons ?_;obtain⟨bm,N,nm,q,bs,hdct,sn,sub,ab,col,dd,k0,k1,k2,k3,k5,mN,g1,g2,hni,g3⟩:=a9a I.ok.mod.kin hC;refine WR.Raise_from (C:=C) (a:=a) (mN:=mN) (nm:=nm) (q:=q) (N:=N) (bs:=bs) (bm:=bm) (hdct:=hdct) (sn:=sn) (sub:=sub) (ab:=ab) (col:=col) (dd:=dd) (k0:=k0) (k1:=k1) (k2:=k2) (k3:=k3) (k5:=k5) EG (by decide) EG (g3.hasType (by decide)) rfl (by rw[hsta];rfl) hni (eJ (X:=Jp X a (X.pn++pins++[(a,oe1)])) I3 hg hm ⟨rfl,?_⟩ hdb);rw[hsta];show wpAny _ _ (evalArgs (.ref C) true [(false,eval fs X.env)] []) _ _ _;refine GV (HK (BV (hfs a (X.pn++pins++[(a,oe1)]) [] _ σ H _ I3 ht) (fun u s4 ⟨v,H4,I4,r4,q4⟩=>?_) fun _ _ z=>z.elim));refine Calls.spliced_nil ?_;have pa:=(I4.pin (a,oe1) (by simp)).1;refine⟨rfl,by simp[sizeLine],I4.bk _ _ g1,g2.keeps I4.bk,g3.keeps I4.bk,⟨oe1,_,pa,yd1,z2⟩,fun h5 e m=>?_⟩;have J4:Inv X pins σ H4 s4:=eS (ok:=b8o I4.ok hcalm) I4 rfl (fun p hp=>I4.pin p (by simp only[BP];exact BE _ hp)) rfl fun _ _ z=>z;have J5:Inv X pins σ H4 {s4 with heap:=h5}:=J4.un (t':=s4.toks) (Un.kept m.keeps) (J4.hok.kept m.keeps);have hen:H4 e=none:=Hf.none J4.hok m.new;have N4:=Nw.here J4;have i4:In s4.heap h5:=(Lo.of fun b o y=>⟨o,m.keeps b o y⟩).in;have x5:XN s4.heap h5 e (.ref C):=by
  obtain⟨t,w⟩:=m.there;exact⟨m.new,_,_,w,rfl,rfl,rfl⟩
 have hl5:h5.FunFrames X.base (X.env::X.outer):=by rw[←hst];exact J5.stack
 have hns5:∀b∈frA (X.env::X.outer),∃o,s4.heap.get? b=some o:=by rw[←hst];exact N4.frm
 unfold notedBy;refine pL (s:={s4 with heap:=h5}) hfr hl5 hf hns5 i4 x5 fun h6 T6 t0 t1 t2 t3=>?_;rw[←hst]at t2;have J6:=eR J5 N4 t2 fun b h=>by simp at h;subst h;exact⟨hen,m.new⟩
 have hT6:H4 T6=none:=J5.hok.fresh t0;obtain⟨_,oe6,vs6,oT6,ts6,f6,fc6,fd6,f61,f6n,r6⟩:=id t1;unfold cameBackBy;refine AB (BI f6 fd6 f61 ?_);rw[AR (by simp)];refine gG (s:={s4 with heap:=h6}) (fo:=X.env.frame) t3 hns5 t1 fun h7 u1 u2 u3 u4=>?_;rw[←hst]at u2;have J7:=eR J6 N4 u2 fun b h=>by simp at h;subst h;exact⟨hT6,f6n⟩
 exact hX pins σ H4 _ s4.heap e (.ref C) [e,T6] J7 N4 (i4.on (BG t2.sz u2.sz)) (.on u1) (fun b hb=>by
  simp at hb;obtain rfl|rfl:=hb
  ·exact hen
  ·exact hT6) q4
end
end XS
namespace WR
open PySem
theorem rD(x:Value):∃K:Value→Sem Fin,Builtin.«type.__call__» ⟨[.type "int",x],[]⟩=(holding [.builtin "int.__new__"] (call (.builtin "int.__new__") [.type "int",x] [])>>=K):=by
 have ft:=F.called_int;obtain⟨c,tl,hmro⟩:=ft.mro;have e:∀y,Builtin.«type.__call__» ⟨[.type "int",x],[]⟩=y→(∃K:Value→Sem Fin,y=(holding [.builtin "int.__new__"] (call (.builtin "int.__new__") [.type "int",x] [])>>=K))→∃K:Value→Sem Fin,Builtin.«type.__call__» ⟨[.type "int",x],[]⟩=(holding [.builtin "int.__new__"] (call (.builtin "int.__new__") [.type "int",x] [])>>=K):=fun y h ⟨K,k⟩=>⟨K,h.trans k⟩;refine e _ rfl ?_;unfold Builtin.«type.__call__»;simp only[ft.notType,BH,DB,ft.canCreate,F.typeCall_int_1 x,pure_bind,hmro,List.isEmpty_cons,ft.made];exact⟨_,rfl⟩
theorem b1z(v:Value):∃K:Value→Sem Fin,Builtin.«int.__new__» ⟨[.type "int",v],[]⟩=((int_private%"intFromObject") v>>=K):=by
 have e:∀y,Builtin.«int.__new__» ⟨[.type "int",v],[]⟩=y→(∃K:Value→Sem Fin,y=((int_private%"intFromObject") v>>=K))→∃K:Value→Sem Fin,Builtin.«int.__new__» ⟨[.type "int",v],[]⟩=((int_private%"intFromObject") v>>=K):=fun y h ⟨K,k⟩=>⟨K,h.trans k⟩;refine e _ rfl ?_;have h1:isType (.type "int")=pure true:=rfl;unfold Builtin.«int.__new__»;simp only[h1,F.conv_sub_int,F.madeHere_int,pure_bind,GR,BH,DB];exact⟨_,rfl⟩
theorem a4k(x:PySem.Str)(u:Tok):∃(G G2 G3:Option Value→Sem Value) (G4:Option (List Nat)→Sem Value),(int_private%"intFromObject") (.str x u)=(callSpecial? (.str x u) "__int__">>=G)∧G none=(specialOf (.str x u) "__index__">>=G2)∧
  G2 none=(specialOf (.str x u) "__trunc__">>=G3)∧G3 none=((int_private%"numeralText?") (.str x u)>>=G4)∧∀text,G4 (some text)=(int_private%"intFromText") (.str x u) text 10:=
 ⟨_,_,_,_,rfl,rfl,rfl,rfl,fun _=>rfl⟩
end WR
namespace WR
open PySem
section
variable{prog:Program}{w:World}{A:Around}{E:Value→Shared→Prop}{s:Shared}{Q:Value→Shared→Prop}{x:PySem.Str}{u:Tok}{text:List Nat}
theorem b7y{tk:Nat}(hh:A.handled=none)(hE:∀h' e tk args,Heap.MadeExc s.heap h' e "ValueError" args→E (.ref e) {s with heap:=h',toks:=tk}):
  wpR (model prog w) A (newExc (.type "ValueError") [m]>>=fun refusal=>markTheRefusal ["int.__new__"] refusal>>=fun _=>raiseNew refusal) Q E {s with toks:=tk}:=by
 refine bind (of_any (wpAny_newExc_plain (hargs:=by show 1≤2 ^ 24;omega) plainExc_ValueError fun h' e m=>?_));refine bind (zV ?_);exact of_any (wpAny_raiseNew_none hh (hE _ _ _ _ m))
theorem yD:(int_private%"bytesOf?") (Value.str x u)=pure none:=rfl
theorem tN(hh:A.handled=none)(hs:(text.takeWhile (·!= 0)).length≤640)(hx:(reprText x).length≤sizeLine)
  (hr:(int_private%"readNumeral") 0 10 (text.takeWhile (·!= 0))=(int_private%"Numeral.invalid")∨∃i,(int_private%"readNumeral") 0 10 (text.takeWhile (·!= 0))=(int_private%"Numeral.value") i∧¬((text.takeWhile (·!= 0)).length==text.length)=true)
  (hE:∀h' e tk args,Heap.MadeExc s.heap h' e "ValueError" args→E (.ref e) {s with heap:=h',toks:=tk}):wpR (model prog w) A ((int_private%"intFromText") (.str x u) text 10) Q E s:=by
 have hf:∀(p y:PySem.Str),p.length≤100→(p++(⟨y.cps.extract 0 200⟩:PySem.Str)).length≤sizeLine:=fun p y hp=>by
  show(p.cps++y.cps.extract 0 200).size≤2 ^ 24;have hp':p.cps.size≤100:=hp;rw[Array.size_append,Array.size_extract];omega
 show wpR _ _ (@ite _ ((text.takeWhile (·!= 0)).length≤640) _ _ _) _ _ _;rw[AS hs];show wpR _ _ (_>>=_) _ _ _;refine bind (pure' ?_);dsimp only;obtain hr|⟨i,hr,hi⟩:=hr
 ·rw[hr];dsimp only;simp only[yD,pure_bind,Option.isSome_none,GK,BH,DB];refine bind (a1c ?_);refine bind (of_any (wpAny_pyRepr_str ?_ hx));refine bind (of_any (wpAny_mkStr ?_ (hf _ _ (by decide+kernel))));exact b7y hh hE
 ·rw[hr];dsimp only;rw[AR hi];simp only[yD,pure_bind];refine bind (a1c ?_);refine bind (of_any (wpAny_pyRepr_str ?_ hx));refine bind (of_any (wpAny_mkStr ?_ (hf _ _ (by decide+kernel))));exact b7y hh hE
end
end WR
namespace WR
open PySem
section
variable{prog:Program}{w:World}{A:Around}{E:Value→Shared→Prop}{s:Shared}{Q:Value→Shared→Prop}{x:PySem.Str}{u:Tok}
theorem wY{QF:PySem.Fin→Shared→Prop}(hh:A.handled=none)(hl:x.length≤640)(hn:intText? x=none)(hx:(reprText x).length≤sizeLine)
  (hE:∀h' e tk args,Heap.MadeExc s.heap h' e "ValueError" args→E (.ref e) {s with heap:=h',toks:=tk}):wpR (model prog w) A (Builtin.«int.__new__» ⟨[.type "int",.str x u],[]⟩) QF E s:=by
 obtain⟨K,hK⟩:=b1z (.str x u);obtain⟨G,G2,G3,G4,e1,e2,e3,e4,e5⟩:=a4k x u;have t1:specialOf (.str x u) "__int__"=pure none:=W.KIN.str_int;have t2:specialOf (.str x u) "__index__"=pure none:=W.KIN.str_idx;have t3:specialOf (.str x u) "__trunc__"=pure none:=W.KIN.str_trunc;have t0:callSpecial? (.str x u) "__int__"=pure none:=by unfold callSpecial?;rw[t1];rfl
 have tn:(int_private%"numeralText?") (.str x u)=pure (some (numTextOf x)):=rfl;rw[hK,e1,t0,pure_bind,e2,t2,pure_bind,e3,t3,pure_bind,e4,tn,pure_bind,e5];have hs:(numSeenOf x).length≤640:=BG (seen_length x) hl;refine bind (mono (tN (Q:=fun _ _=>False) hh hs hx ?_ hE) (fun _ _ z=>z.elim) fun _ _ z=>z);obtain⟨m,h1,_⟩|⟨_,h⟩:=read0 x hs
 ·rw[hn]at h1;cases h1
 ·exact h
theorem lQ{R:Result→Shared→Prop}{id:String}{args:Args}{b:Builtin}(hb:entryFor table id=some b)
  (h:wpR (model prog w) (A.under (.builtin id args)) (b args) (fun fin s'=>match fin with|.done f=>R (.ok f) s'|.again c'=>c'.quiet=true∧codeR (model prog w) A c' R s') (fun e s'=>R (.error e) s') s):
  codeR (model prog w) A (.builtin id args) R s:=by
 refine gB ?_;show wpR _ _ (match entryFor table id with|some b=>b args|none=>unsupported ((withoutEnding? id "#data").getD id)) _ _ s;rw[hb];exact h
theorem lP{R:Result→Shared→Prop}{id:String}{args:Args}{b:Builtin}(hq:(Code.builtin id args).quiet=true)(hb:entryFor table id=some b)(hc:checkBuiltinCall id args=pure ())
  (h:wpR (model prog w) (A.under (.builtin id args)) (b args) (fun fin s'=>match fin with|.done f=>R (.ok f) s'|.again c'=>c'.quiet=true∧codeR (model prog w) A c' R s') (fun e s'=>R (.error e) s') s):
  codeR (model prog w) A (.call (.builtin id) args) R s:=by
 refine gB ?_;show wpR _ A.in1 (do checkBuiltinCall id args;again (.builtin id args)) _ _ s;rw[hc,pure_bind];exact pure' ⟨hq,lQ hb h⟩
theorem qV{R:Result→Shared→Prop}{T:String}(h:codeR (model prog w) A (.builtin "type.__call__" ⟨.type T::args,[]⟩) R s):codeR (model prog w) A (.call (.type T) ⟨args,[]⟩) R s:=by
 refine gB ?_;show wpR _ _ (callAny (.type T) _) _ _ _;exact pure' ⟨Code.quiet_builtin _ (by decide+kernel),h⟩
theorem int_refused(hh:A.handled=none)(hl:x.length≤640)(hn:intText? x=none)(hx:(reprText x).length≤sizeLine)
  (hE:∀h' e tk args,Heap.MadeExc s.heap h' e "ValueError" args→E (.ref e) {s with heap:=h',toks:=tk}):wpR (model prog w) A (call (.type "int") [.str x u]) Q E s:=by
 refine call' (qV (lQ F.entry_type_call ?_));obtain⟨K,hK⟩:=rD (.str x u);rw[hK];exact bind (cT (call' (lP (Code.quiet_builtin _ (by decide+kernel)) F.entry_int_new (F.newCall_int_1 _) (wY hh hl hn hx hE))))
end
end WR
namespace XS
open PySem PySem.Spec PyProof.Rows PySem.W L2
section
variable{X:Cx}{e:Expr}{te:TE}{p2 p4:Pos}
theorem b1m{Rf:L2.St→Hp→Prop}(hh:X.A.handled=none)(hg:Gl X "int")(hm:X.mg "int"=none)(he:PE X e te)
  (hE:∀pins σ H s h' a tk args,Inv X pins σ H s→Heap.MadeExc s.heap h' a "ValueError" args→Rf σ H→X.xe (.ref a) {s with heap:=h',toks:=tk})
  (hst:starEach [e] X.env=(false,eval e X.env)::starEach [] X.env:=by rfl):
  Kf X (.Call (.Name "int" p2) [e] [] p4) (fun σ H Q=>te σ H fun v H1=>∃x,[v]=[V.str x]∧x.length≤640∧(reprText x).length≤sizeLine∧((∃n,PySem.intText? x=some n∧Q (.int n) H1)∨(PySem.intText? x=none∧Rf σ H1))):=by
 intro pins s σ H Q I h;have hb:bootBuiltins "int"=some (.type "int"):=by decide+kernel
 refine WR.Call_R (WR.of_any (iG I hg hm hb ?_ (by decide) (by decide)));refine WR.callWith_typeR (eF (WR.of_any (bR he dD hst p4 pins s σ H (fun vs H1=>∃x,vs=[V.str x]∧x.length≤640∧(reprText x).length≤sizeLine∧((∃n,PySem.intText? x=some n∧Q (.int n) H1)∨(PySem.intText? x=none∧Rf σ H1))) I ?_)) fun us s1 z=>?_) hst rfl
 ·exact h
 ·obtain⟨vs,H1,I1,r1,x,rfl,hl,hr,hc⟩:=z;obtain⟨u,rfl,t,rfl⟩:=gR r1;obtain⟨n,hn,q⟩|⟨hn,q⟩:=hc
  ·exact WR.of_any (W.KIN.call_text hn hl ⟨.int n,H1,I1.tok _,⟨_,rfl⟩,q⟩)
  ·exact WR.int_refused hh hl hn hr fun h' a tk args m=>hE pins σ H1 s1 h' a tk args I1 m q
theorem a3f{xn xC:Str}{i:Nat}{p5:Pos} {kk}{R:Value→Hp→Prop}{tf:TE}(hX:Lv X R)(hst:X.stack=X.env::X.outer)(hf:X.env.frame=some L)(hh:X.A.handled=none)
  (hN:X.N.Nodup)(hi:X.N[i]?=some xn)(hk:X.env.scope.names.lookup xn=some .local)(hgi:Gl X "int")(hmi:X.mg "int"=none)(hgv:Gl X "ValueError")(hmv:X.mg "ValueError"=none)(hg:Gl X xC)(hm:X.mg xC=some (.ref C))(hC:Ru X.K C)
  (he:∀pn f,PE (Nx X pn f) e te)(hfs:∀a pn,PE (Jp X a pn) fs tf)(hdb:(xC==("__debug__":Str))=false:=by decide)(hsta:starEach [fs] X.env=[(false,eval fs X.env)]:=by rfl)
  (hse:starEach [e] X.env=(false,eval e X.env)::starEach [] X.env:=by rfl)(hs:swapsWith (.Call (.Name "int" p2) [e] [] p4) (some (.Name xn p1)) p5.line X.env=pure false:=by rfl):
  Ny X (.Try [.Assign [.Name xn p1] (.Call (.Name "int" p2) [e] [] p4) p5] [.ExceptHandler (some (.Name "ValueError" p6)) none [.Raise (some (.Call (.Name xC p7) [fs] [] p8)) (some (.Constant .none kk p9)) p10] p11] [] [] p12)
   (fun D σ H=>te σ H fun v H1=>∃x,[v]=[V.str x]∧x.length≤640∧(reprText x).length≤sizeLine∧((∃n,PySem.intText? x=some n∧D.nx (σ.set i (some (.int n))) H1)∨(PySem.intText? x=none∧tf σ H1 fun _ H2=>R (.ref C) H2))):=by
 intro pins s σ H D I h;refine WR.Try_R ?_;have back:∀{f:Value→Shared→Prop} {σ1 H1 s1},Inv (Nx X (X.pn++pins) f) [] σ1 H1 s1→Inv X pins σ1 H1 s1:=fun J=>eS (ok:=a7h J.ok) J rfl (fun p hp=>J.pin p (by simpa using hp)) rfl fun _ _ z=>z;refine WR.execs_consR (eF (a1f (X:=Nx X (X.pn++pins) _) (te:=fun σ H Q=>te σ H fun v H1=>∃x,[v]=[V.str x]∧x.length≤640∧(reprText x).length≤sizeLine∧((∃n,PySem.intText? x=some n∧Q (.int n) H1)∨(PySem.intText? x=none∧tf σ H1 fun _ H2=>R (.ref C) H2))) hN hi (.inl hk)
  (b1m (X:=Nx X (X.pn++pins) _) hh hgi hmi (he _ _) (fun pins' σ' H' s' h' a tk args J m q=>?_) hse) hs (.inr hk) [] s σ H {D with} (eS (ok:=b8n I.ok) I rfl (fun p hp=>I.pin p (by simpa using hp)) rfl fun _ _ z=>z) h) fun f s1 z=>?_)
 ·have JX:Inv X pins σ' H' s':=eS (ok:=a7h J.ok) J rfl (fun p hp=>J.pin p (BE _ hp)) rfl fun _ _ z=>z;have JX':Inv X pins σ' H' {s' with heap:=h',toks:=tk}:=JX.un (t':=tk) (Un.kept m.keeps) (JX.hok.kept m.keeps);obtain⟨t,ht,_⟩:=m.there;exact a5b hX hst hf (fun _=>hh) hgv hmv hg hm hC hfs hdb hsta JX' (Nw.here JX) (Lo.of fun b o y=>⟨o,m.keeps b o y⟩).in m.new ht rfl rfl rfl rfl (Hf.none JX.hok m.new) q
 ·cases f with
  |next=>obtain⟨σ1,H1,J,q⟩:=z;exact WR.of_any (DP (WR.of_any (DP ⟨σ1,H1,back J,q⟩)))
  |brk=>obtain⟨σ1,H1,J,q⟩:=z;exact⟨σ1,H1,back J,q⟩
  |cont=>obtain⟨σ1,H1,J,q⟩:=z;exact⟨σ1,H1,back J,q⟩
  |ret u=>obtain⟨v,σ1,H1,J,r,q⟩:=z;exact⟨v,σ1,H1,back J,r,q⟩
end
end XS
namespace DL
open PySem PySem.Spec PyProof.Rows L2 XS
def Rx(i:Nat)(fw ff:WE)(C:Addr)(E:EK):WS:=fun ρ M R=>fw ρ M fun d M1=>∃x,d=.str x∧x.length≤640∧(reprText x).length≤sizeLine∧((∃n,PySem.intText? x=some n∧R (.nx (ρ.set i (some (.int n)))) M1)∨(PySem.intText? x=none∧ff ρ M1 fun _ M2=>E C M2))
theorem a4a{X:Cx}{own:List Nat}{fw ff:WE}{M0:Mh}{G0 F0:Hp}{E:EK}{xn xC:Str}{i:Nat}{p5:Pos} {kk}(hX:Lv X (XR X.prog X.w X.K M0 G0 F0 E))(hst:X.stack=X.env::X.outer)(hf:X.env.frame=some L)(hh:X.A.handled=none)
  (hN:X.N.Nodup)(hi:X.N[i]?=some xn)(hk:X.env.scope.names.lookup xn=some .local)(hgi:Gl X "int")(hmi:X.mg "int"=none)(hgv:Gl X "ValueError")(hmv:X.mg "ValueError"=none)(hg:Gl X xC)(hm:X.mg xC=some (.ref C))(hC:Ru X.K C)
  (he:∀pn f,ME (Nx X pn f) own e fw)(hfs:∀a pn,ME (Jp X a pn) own fs ff)(hio:i∉own:=by decide)(hdb:(xC==("__debug__":Str))=false:=by decide)(hsta:starEach [fs] X.env=[(false,eval fs X.env)]:=by rfl)
  (hse:starEach [e] X.env=(false,eval e X.env)::starEach [] X.env:=by rfl)(hs:swapsWith (.Call (.Name "int" p2) [e] [] p4) (some (.Name xn p1)) p5.line X.env=pure false:=by rfl):
  Ny X (.Try [.Assign [.Name xn p1] (.Call (.Name "int" p2) [e] [] p4) p5] [.ExceptHandler (some (.Name "ValueError" p6)) none [.Raise (some (.Call (.Name xC p7) [fs] [] p8)) (some (.Constant .none kk p9)) p10] p11] [] [] p12)
   (TX X M0 G0 F0 own own (Rx i fw ff C E)):=by
 rintro pins s σ H D I ⟨G,ρ,M,R,sr,e',k1,k2⟩;refine a3f (te:=Td X.prog X.w X.K own fw) (tf:=Td X.prog X.w X.K own ff) hX hst hf hh hN hi hk hgi hmi hgv hmv hg hm hC (fun pn f=>(he pn f).ok) (fun a pn=>(hfs a pn).ok) hdb hsta hse hs pins s σ H D I ⟨G,ρ,M,_,sr.st,e',fun d M' v G' H' r x m q=>?_⟩;obtain⟨z,rfl,hl,hr,hc⟩:=r;refine⟨z,by rw[aP q],hl,hr,?_⟩;obtain⟨n,hn,hR⟩|⟨hn,hff⟩:=hc
 ·exact .inl ⟨n,hn,k1 _ M' G' _ H' hR ((sr.grow x m).set hio Bf.int)⟩
 ·exact .inr ⟨hn,G',ρ,M',_,(sr.grow x m).st,hff,fun d M2 v G2 H2 r2 x2 m2 q2=>⟨C,M2,G2,rfl,r2,(sr.x.trans x sr.st.mr).trans x2 m,m2⟩⟩
def Po(i n:Nat):WE:=fun ρ M R=>∃x,ρ[i]?=some (some (.str x))∧n+(reprText x).length≤sizeLine∧∀y,R (.str y) M
theorem a1v{X:Cx}{own:List Nat}{i:Nat}{x s1:Str}{j:Nat}(hN:X.N[i]?=some x)(hv:Qo X.env.scope x)(hi:i∉own)(hd:(x==("__debug__":Str))=false:=by decide)(hcd:(x==("__classdict__":Str))=false:=by decide):
  ME X own (.JoinedStr [.Constant (.str s1) j p3,.FormattedValue (.Name x p1) 114 none p2] pos) (Po i s1.length):=⟨fun pins s σ H Q I ⟨G,ρ,M,R,st,⟨z,e1,e3,e2⟩,k⟩=>by
 obtain⟨v,f1,f2⟩:=st.or.at_ i _ e1 hi;cases aP f2;refine JoinedStr_many (joinParts_cons (Calls.Constant_str ⟨by rw[Str.empty_append];omega,?_⟩));rw[Str.empty_append];refine joinParts_cons (wpAny_FormattedValue_repr (bX (gX hN hv hd hcd pins _ σ H (fun v H'=>v=.str z∧H'=H) (I.tok _) ⟨_,f1,rfl,rfl⟩) ?_));rintro u s' ⟨x',H',I',r,rfl,rfl⟩;obtain⟨t,rfl⟩:=r;refine wpAny_pyReprObj_str ?_ (by omega);have fin:∀tk:Nat,(s1++reprText z).length≤sizeLine∧wpAny (model X.prog X.w) X.A (joinParts (s1++reprText z) []) (EP X pins σ Q) X.xe {s' with toks:=tk}:=fun tk=>⟨by rw[strLen_append];omega,joinParts_nil ⟨.str _,_,(I'.tok tk).tok _,⟨_,rfl⟩,k _ M _ G _ (e2 _) (.refl st.or.sub) st.mr Bf.str⟩ (by rw[strLen_append];omega)⟩;exact wpAny_formatField_str (fin _) (fin _) (by omega)⟩
theorem Ge.nox{X:Cx}{st:List Stmt}{t:TS}(h:Ge X.nox st t):Ge X st t:=fun pins s σ H D I hw=>
 WR.mono (h pins s σ H D (I.wish _) hw) (fun _ _ q=>q.unwish) fun _ _ z=>False.elim z
theorem b2l{K:W.Frag}{mg:Str→Option Value}{st:Stmt}{k:Nat}{own':List Nat}{q:WS}(hd:Rv K mg x st [y])(S:Bi N [y] (Ag st))(hfa:mg x=some (.ref fa))
  (hb:∀(base:Heap) (fad:Addr) (cdv:Value) (A:Around) (outer:List Env) (s:Shared) (H:Hp) (E:XK) (M0:Mh) (G0 F0:Hp),Cc k (A.deeper (envOfC x (Ag st) s.heap.objs.size fad cdv))→Ge (Gd Oa P w K mg base N x (Ag st) fad cdv A outer s H E).nox (Dr st) (Rz P w K M0 G0 F0 [] own' q)):
  ∃fd:FuncData,(∀(s:Shared) (u:Value),BindsTo s fd ⟨[u],[]⟩ [(y,u)])∧∀base:Heap,K.In base→base.Ns mainGlobals mg→Et P w K mg base Oa (k+1) fa fd [y] (Vh P w K 1 (Nb N 1 q)):=by
 obtain⟨f,fd,F,B,m⟩:=hd;rw[hfa]at m;cases m;refine⟨fd,fun s u=>.of_eq (B [u] rfl),fun base _ _=>?_⟩;obtain⟨oc,od,kV,doc,pm,an,cdv,ct,osl,rfl,lk,hcd⟩:=F.ex;refine a8w lk hcd S (fun vs H Q E h=>h.1) fun A outer s H vs Q E hr h=>?_;obtain⟨hl,G,ds,M,R,sub,m,r,e,kk⟩:=h;refine⟨_,Ge.nox (hb base _ cdv A outer s H E M G H hr),?_⟩;have er:=oR (N:=N) sub r;exact⟨G,_,M,_,⟨⟨er,m,fun i hi=>(by cases hi)⟩,.refl sub,fun i hi=>(by cases hi)⟩,e.2,fun ρ' M' G' σ' H' r sr=>kk _ M' _ G' H' r sr.x sr.st.mr Bf.non,fun d M' v G' H' r x m q=>kk d M' v G' H' r x m q⟩
end DL
namespace XS
open PySem PySem.Spec PyProof.Rows PySem.W L2
def Pe(σ:L2.St)(ie ix:Nat)(v:V):L2.St:=(σ.set ix (some v)).set ie none
section
variable{X:Cx}{pins:List (Addr×Obj)}{D:Ends}{xC en xn:Str}{cp xp ap hp:Pos}{he:Expr}{C0 L:Addr}{ie ix:Nat}{hv:Addr→Option V}
theorem b2h(hst:X.stack=X.env::X.outer)(hf:X.env.frame=some L)(hcalm:X.calm=true→X.A.handled=none)(hN:X.N.Nodup)(hie:X.N[ie]?=some en)(hix:X.N[ix]?=some xn)(hne:en≠xn)(hke:X.env.scope.names.lookup en=some .local)(hkx:X.env.scope.names.lookup xn=some .local)
  (hg:Gl X xC)(hm:X.mg xC=some (.ref C0))(C:Oj X.K C0)
  (hpe:∀a pn oe c,(a,oe)∈pn→oe.cls=.ref c→PE (Jp X a pn) he fun σ H Q=>σ[ie]?=some (some (.ref a))∧∃v,hv c=some v∧Q v H)
  (hsw:swapsWith he (some (.Name xn xp)) ap.line X.env=pure false)(hdb:(xC==("__debug__":Str))=false)
  {pins':List (Addr×Obj)}{σ':L2.St}{H':Hp}{s':Shared}{bad:List Addr}
  (I:Inv (Nx X (X.pn++pins) (xT X pins D (.ExceptHandler (some (.Name xC cp)) (some en) [.Assign [.Name xn xp] he ap] hp))) pins' σ' H' s')
  (Nn:Nw (Nx X (X.pn++pins) (xT X pins D (.ExceptHandler (some (.Name xC cp)) (some en) [.Assign [.Name xn xp] he ap] hp))) pins' n)(i:In n s'.heap)(x:XS n s'.heap a cls 0 bad)(hb:∀b∈bad,H' b=none)
  (q:∃c v,cls=.ref c∧subIn X.K (.ref c) (.ref C0)=some true∧hv c=some v∧D.nx (Pe σ' ie ix v) H'):
  xT X pins D (.ExceptHandler (some (.Name xC cp)) (some en) [.Assign [.Name xn xp] he ap] hp) (.ref a) s':=by
 obtain⟨c,v,rfl,hsub,hvc,hD⟩:=q;have hfr:X.A.frames=some (X.env::X.outer):=by rw[←hst];exact I.ok.frames
 have hns:∀b∈frA (X.env::X.outer),∃o,n.get? b=some o:=by rw[←hst];exact Nn.frm
 have hl:s'.heap.FunFrames X.base (X.env::X.outer):=by rw[←hst];exact I.stack
 refine b8u hfr hl hf hns i x fun h1 T fl a0 a1 a2 a3=>?_;have hTn:H' T=none:=by
  obtain z|z:=a0
  ·exact hb T z
  ·exact I.hok.fresh z
 have hTg:n.get? T=none:=let⟨_,_,_,_,_,_,_,_,_,z,_⟩:=a1;z;rw[←hst]at a2;have J1:=eR I Nn a2 fun b h=>⟨hb b h,x.ge b h⟩;have tk:∀b∈[T],H' b=none∧n.get? b=none:=fun b h=>by simp at h;subst h;exact⟨hTn,hTg⟩
 refine gG (s:={s' with heap:=h1}) (fo:=none) a3 hns a1 fun h2 b1 b2 b3 b4=>?_;rw[←hst]at b2;have J2:=eR J1 Nn b2 tk;refine wpAny_handleBy_cons (codeAny_handlers_test ?_) (by intro q;cases q);have I2:Inv (Jp X a (X.pn++pins)) [] σ' H' {s' with heap:=h2}:=eS (ok:=b1u (a7h J2.ok)) J2 rfl (fun p hp=>J2.pin p (BE _ (by simpa using hp))) rfl fun _ _ z=>z;refine eJ (X:=Jp X a (X.pn++pins)) I2 hg hm ?_ hdb;obtain⟨hna,oe2,vs2,oT2,ts2,e2,c2,d2,r2⟩:=id b1;refine zU I2.kIn C e2 c2 hsub ?_;dsimp only;refine codeAny_handlers_suite_as ?_;refine gG (s:={s' with heap:=h2}) (fo:=none) b3 hns b1 fun h3 c1' c2' c3 c4=>?_;rw[←hst]at c2';have J3:=eR J2 Nn c2' tk;obtain⟨_,oe,vs3,oT3,ts3,e3,cc3,d3,r3⟩:=c1';have han:H' a=none:=hb _ x.mem;have hal:a≠X.env.locals:=fun z=>by subst z;obtain⟨o,w⟩:=Nn.loc;rw[show n.get? X.env.locals=some o from w]at hna;cases hna
 have haf:a∉X.fs:=fun z=>by
  obtain⟨o,w⟩:=hns a (by
   show a∈List.filterMap _ (X.env::X.outer);rw[DM,hf];exact AC _ z)
  rw[hna]at w;cases w
 have I3:Inv (Jp X a (X.pn++pins++[(a,oe)])) [] σ' H' {s' with heap:=h3}:=eS (ok:=b1u (a7h J3.ok)) J3 rfl (fun p hp=>by
  rw[BP]at hp;obtain hp|hp:=AZ.mp hp
  ·exact J3.pin p (BE _ hp)
  ·simp at hp;subst hp;exact⟨e3,han,hal,haf,fun v z=>by rw[d3]at z;cases z⟩) rfl fun _ _ z=>z
 refine gU (X:=Jp X a (X.pn++pins++[(a,oe)])) (v:=.ref a) I3 hN hie (.inl hke) rfl (fun s4 I4=>?_) (.inr hke);have he4:(σ'.set ie (some (V.ref a)))[ie]?=some (some (V.ref a)):=BM (by rw[I3.len];exact(AT.mp hie).1);have P:=tX (tY (X:=Jp X a (X.pn++pins++[(a,oe)])) (pos:=ap) (pos':=xp) hN hix (.inl hkx) (hpe a (X.pn++pins++[(a,oe)]) oe c (by simp) cc3) hsw (.inr hkx));refine BV (P [] s4 _ H' {nx:=fun σ5 H5=>σ5=(σ'.set ie (some (V.ref a))).set ix (some v)∧H5=H',rt:=fun _ _=>False} I4 ⟨he4,v,hvc,rfl,rfl⟩) (fun f s5 z=>?_) fun _ _ z=>z.elim;cases f<;>first|(obtain⟨_,_,_,z⟩:=z;exact z.elim)|(obtain⟨_,_,_,_,_,z⟩:=z;exact z.elim)|skip
 obtain⟨_,_,I5,rfl,rfl⟩:=z;dsimp only;obtain⟨m,hn,hlk⟩:=id I5.loc;refine wpAny_nameGoes_keeps hke hn (by rw[show X.env.scope.kind=.function from I5.ok.kind];rfl) fun h6 w hn6 hs6=>?_;have hl5:=I5.len;have I6:Inv (Jp X a (X.pn++pins++[(a,oe)])) [] (Pe σ' ie ix v) _ {s5 with heap:=h6,toks:=s5.toks+1}:=a4i I5 hn6 hs6 (fun j y u e1 e2 e3=>by
  have hj:j≠ie:=fun z=>by
   subst z;unfold Pe at e2;rw[GT]at e2;split at e2
   ·split at e2<;>cases e2
   ·rename_i z;exact z rfl
  have e2':((σ'.set ie (some (V.ref a))).set ix (some v))[j]?=some (some u):=by
   unfold Pe at e2;rw[AY (BU hj)]at e2;rw[GT]at e2 ⊢;split
   ·rename_i z;rw[AS z]at e2;rw[CU];exact e2
   ·rename_i z;rw[AR z]at e2;rw[AY (BU hj)];exact e2
  have hy:en≠y:=fun z=>by
   subst z;exact hj ((List.getElem?_inj (AT.mp e1).1 hN).mp (e1.trans hie.symm))
  obtain⟨u',r',lk⟩:=hlk j y u e1 e2' e3;refine⟨u',r',?_⟩;obtain⟨k,e⟩|⟨k,c,e,z⟩:=lk
  ·exact .inl ⟨k,by simp[BU hy,e]⟩
  ·exact .inr ⟨k,c,e,z.sameBut hs6 (I5.cne _ c e)⟩) (by unfold Pe;simp at hl5 ⊢;exact hl5)
 exact⟨_,_,eS (ok:=b8o I6.ok hcalm) I6 rfl (fun p hp=>I6.pin p (by simp only[BP];exact BE _ hp)) rfl fun _ _ z=>z,hD⟩
end
section
variable{X:Cx}{CX:Mu}{k:Nat}{f C:Addr}{fd:FuncData}{ps:List Str}{sp:Sp}{E:XK}{x m:Str}{p pos:Pos}{e:Expr}{es:List Expr}{t:TA}{pins:List (Addr×Obj)}{σ:L2.St}{H:Hp}{s:Shared}{Q:VK}
theorem b0s(F:Et X.prog X.w X.K X.mg X.base CX k f fd ps sp)(hr:Cc k X.A)(hb:Ev X.K fd ps [])(hx:∀e s',CX X.stack H s E e s'→X.xe e s')
  (I:Inv X pins σ H s)(r:Bw vs us)(h:sp vs H Q E):WR.wpR (model X.prog X.w) X.A (call (.ref f) us) (EP X pins σ Q) X.xe s:=by
 have hl:us.length=ps.length:=by rw[←r.length];exact F.len _ _ _ _ h
 have hb':=hb s us I.kIn (by rw[BP];exact hl);rw[BP]at hb';refine WR.call' (WR.code_mono (F.run X.A X.stack s H ⟨us,[]⟩ us vs Q E hr I.env0 hb' r h) fun r s' hq=>?_);cases r with
 |error e=>exact hx e s' hq
 |ok fl=>
  cases fl with
  |ret u=>exact I.after hq
  |next=>exact False.elim hq
  |brk=>exact False.elim hq
  |cont=>exact False.elim hq
theorem a6v(F:Et X.prog X.w X.K X.mg X.base CX k f fd ps sp)(hr:Cc k X.A)(hg:Gl X x)(hm:X.mg x=some (.ref f))(hk:W.keepIn X.K (.ref f)=true)(hb:Ev X.K fd ps [])
  (hx:∀H1 s1 e s',Inv X pins σ H1 s1→CX X.stack H1 s1 E e s'→X.xe e s')(ha:Qe X (e::es) t)(I:Inv X pins σ H s)(h:t σ H fun vs H1=>sp vs H1 Q E)
  (hdb:(x==("__debug__":Str))=false:=by decide)(he:starEach (e::es) X.env=(false,eval e X.env)::starEach es X.env:=by rfl)(hpl:(backTo pos (starEach es X.env)).any (·.1)=false:=by rfl):
  WR.wpR (model X.prog X.w) X.A (eval (.Call (.Name x p) (e::es) [] pos) X.env) (EP X pins σ Q) X.xe s:=by
 refine WR.Call_R (WR.of_any (eJ I hg hm ?_ hdb));refine WR.callWith_KR hk (eF (ha pos pins s σ H _ I h) fun us s1 ⟨vs,H1,I1,r,q⟩=>⟨I1.kIn,?_⟩) he hpl;exact b0s F hr hb (fun e s'=>hx H1 s1 e s' I1) I1 r q
end
section
variable{X:Cx}{xC en xn xi xf:Str}{cp xp ap hp tp p1 p2 p3 p4:Pos}{he e:Expr}{es:List Expr}{C0 L f:Addr}{i ie ix k:Nat}{hv:Addr→Option V}{fd:FuncData}{ps:List Str}{sp:Sp}{t:TA}
theorem b0z(hst:X.stack=X.env::X.outer)(hf:X.env.frame=some L)(hcalm:X.calm=true→X.A.handled=none)(hN:X.N.Nodup)(hie:X.N[ie]?=some en)(hix:X.N[ix]?=some xn)(hne:en≠xn)(hke:X.env.scope.names.lookup en=some .local)(hkx:X.env.scope.names.lookup xn=some .local)
  (hg:Gl X xC)(hm:X.mg xC=some (.ref C0))(C:Oj X.K C0)
  (hpe:∀a pn oe c,(a,oe)∈pn→oe.cls=.ref c→PE (Jp X a pn) he fun σ H Q=>σ[ie]?=some (some (.ref a))∧∃v,hv c=some v∧Q v H)
  (F:Et X.prog X.w X.K X.mg X.base (Rm X.base X.prog X.w) k f fd ps sp)(hr:Cc k X.A)(hgf:Gl X xf)(hmf:X.mg xf=some (.ref f))(hkf:W.keepIn X.K (.ref f)=true)(hb:Ev X.K fd ps [])(hi:X.N[i]?=some xi)(hki:X.env.scope.names.lookup xi=some .local)
  (ha:∀pn g,Qe (Nx X pn g) (e::es) t)
  (hsw:swapsWith he (some (.Name xn xp)) ap.line X.env=pure false:=by rfl)(hdb:(xC==("__debug__":Str))=false:=by decide)(hdf:(xf==("__debug__":Str))=false:=by decide)
  (hse:starEach (e::es) X.env=(false,eval e X.env)::starEach es X.env:=by rfl)(hpl:(backTo p3 (starEach es X.env)).any (·.1)=false:=by rfl)(hs:swapsWith (.Call (.Name xf p2) (e::es) [] p3) (some (.Name xi p1)) p4.line X.env=pure false:=by rfl):
  Ny X (.Try [.Assign [.Name xi p1] (.Call (.Name xf p2) (e::es) [] p3) p4] [.ExceptHandler (some (.Name xC cp)) (some en) [.Assign [.Name xn xp] he ap] hp] [] [] tp)
   fun D σ H=>t σ H fun vs H1=>sp vs H1 (fun v H2=>D.nx (σ.set i (some v)) H2) fun cls _ H'=>∃c v,cls=.ref c∧subIn X.K (.ref c) (.ref C0)=some true∧hv c=some v∧D.nx (Pe σ ie ix v) H':=by
 intro pins s σ H D I h;have back:∀{f:Value→Shared→Prop} {σ1 H1 s1},Inv (Nx X (X.pn++pins) f) [] σ1 H1 s1→Inv X pins σ1 H1 s1:=fun J=>eS (ok:=a7h J.ok) J rfl (fun p hp=>J.pin p (by simpa using hp)) rfl fun _ _ z=>z;have I0:Inv (Nx X (X.pn++pins) (xT X pins D (.ExceptHandler (some (.Name xC cp)) (some en) [.Assign [.Name xn xp] he ap] hp))) [] σ H s:=eS (ok:=b8n I.ok) I rfl (fun p hp=>I.pin p (by simpa using hp)) rfl fun _ _ z=>z;refine WR.Try_R (WR.execs_consR (WR.Assign_R (eF (a6v (X:=Nx X (X.pn++pins) (xT X pins D (.ExceptHandler (some (.Name xC cp)) (some en) [.Assign [.Name xn xp] he ap] hp))) (pins:=[]) F hr hgf hmf hkf hb (fun H1 s1 ev s' J z=>?_) (ha _ _) I0 h hdf hse hpl) fun v s1 z=>?_) hs))
 ·obtain⟨a,T,cls,H',rfl,os,bare,un,hok,xf',ha',hT,ff,q⟩:=z;obtain⟨hh,g,d,t',os'⟩:=s';obtain rfl:os'=s1.os:=os;have J':=J.call (h':=hh) (g':=g) (d':=d) (t':=t') (ch:=[]) un hok bare (fun b z=>absurd z (by simp));refine b2h hst hf hcalm hN hie hix hne hke hkx hg hm C hpe hsw hdb J' (Nw.here J) (Lo.of fun b o y=>un.there b o y (by simp)).in (.on xf') (fun b hb=>?_) q;simp at hb;obtain rfl|rfl:=hb
  ·exact ha'
  ·exact hT
 ·obtain⟨y,H1,I1,r1,q1⟩:=z;refine WR.of_any (gU (X:=Nx X (X.pn++pins) _) I1 hN hi (.inl hki) r1 (fun s2 I2=>?_) (.inr hki));exact WR.of_any (DP (WR.of_any (DP ⟨_,H1,back I2,q1⟩)))
end
end XS
namespace DL
open PySem PySem.Spec PyProof.Rows L2 XS
section
variable{X:Cx}{own:List Nat}{pos p1 p2 p3:Pos}
theorem a4q:Ej X (.builtin "isinstance") fun xs H Q=>∃a C1 oe,xs=[.ref a,.ref C1]∧(a,oe)∈X.pn∧oe.cls=.ref C1∧Q (.bl true) H:=by
 intro pins s σ H xs us Q I r h;obtain⟨a,C1,oe,rfl,hp,hc,q⟩:=h;obtain⟨u,w',rfl,r1,r2⟩:=vR r;cases (show u=Value.ref a from r1);cases (show w'=Value.ref C1 from r2);have he:=(I.pin _ (BE _ hp)).1;exact W.isi_call I.kIn (fun M A' Q' E' s' k q=>AB (GW (k _ _ he) (AG (hc▸q)))) (by simp[W.isIn]) (fun z=>nomatch z) ⟨.bl true,H,I,rfl,q⟩
def Tg(C1:Addr)(c:Addr):Option D:=if c=C1 then some (.bl true)else none
def Tf(C1:Addr)(c:Addr):Option V:=if c=C1 then some (.bl true)else none
theorem b1k{en xC:Str}{ie:Nat}(hN:X.N[ie]?=some en)(hk:X.env.scope.names.lookup en=some .local)(hg:Gl X "isinstance")(hm:X.mg "isinstance"=none)(hv:bootBuiltins "isinstance"=some (.builtin "isinstance"))(hg2:Gl X xC)(hm2:X.mg xC=some (.ref C1))
  (hd:(xC==("__debug__":Str))=false:=by decide)(hd3:(en==("__debug__":Str))=false:=by decide)(hd4:(en==("__classdict__":Str))=false:=by decide)
  (he:starEach [.Name en p2,.Name xC p3] X.env=(false,eval (.Name en p2) X.env)::starEach [.Name xC p3] X.env:=by rfl)(he2:starEach [.Name xC p3] X.env=(false,eval (.Name xC p3) X.env)::starEach [] X.env:=by rfl)
  (hpl:(backTo pos (starEach [.Name xC p3] X.env)).any (·.1)=false:=by rfl):
  ∀a pn oe c,(a,oe)∈pn→oe.cls=.ref c→PE (Jp X a pn) (.Call (.Name "isinstance" p1) [.Name en p2,.Name xC p3] [] pos) fun σ H Q=>σ[ie]?=some (some (.ref a))∧∃v,Tf C1 c=some v∧Q v H:=fun a pn oe c hp hc pins s σ H Q I ⟨e1,v,e2,q⟩=>by
 unfold Tf at e2;split at e2
 ·rename_i h;subst h;cases e2;exact gY (X:=Jp X a pn) a4q hg hm hv (bR (gX (X:=Jp X a pn) hN (.inl hk) hd3 hd4) (bR (a1i (X:=Jp X a pn) (v:=V.ref c) hg2 hm2 rfl hd) dD he2) he) (by decide) (by decide) he hpl pins s σ H Q I ⟨.ref a,e1,a,c,oe,rfl,hp,hc,q⟩
 ·cases e2
theorem hvw(h:W.subIn X.K (.ref C1) (.ref C0)=some true):∀c d,Tg C1 c=some d→W.subIn X.K (.ref c) (.ref C0)=some true∧∃v,Tf C1 c=some v∧∀G,Bf X.K G d v:=fun c d e=>by
 unfold Tg at e;unfold Tf;split at e
 ·rename_i h';subst h';cases e;exact⟨h,_,AS rfl,fun G=>Bf.bl⟩
 ·cases e
end
end DL
namespace DL
open PySem PySem.Spec PyProof.Rows L2 XS
section
variable{A:Around}{E:Value→Shared→Prop}{s:Shared}{K:W.Frag}{v:Value}{C:Addr}
theorem a4f{dep:Int}{Q:Fin→Shared→Prop}{M:Model}(X:K.In s.heap)(ht:W.Looks M s.heap (typeOf v) (.ref C))(e:W.subIn K (.ref C) (.type "ValueError")=some true)(h:Q (.done (.ret (.bool true))) s):
  wpAny M A (Builtin.«isinstance.nested» ⟨[v,.type "ValueError",.int dep tk],[]⟩) Q E s:=by
 obtain⟨hh,g,d,tt,os⟩:=s;have L1:W.Looks M hh (typeOf (.type "ValueError")) (.type "type"):=W.Looks.of_pure (by kernel_rfl);have L3:W.Looks M hh (isInstance v (.type "ValueError")) true:=ht.andThen (W.looks_subIn X e);unfold Builtin.«isinstance.nested»;refine AB (ht.at ?_);rw[AR (by intro q;cases (FK.mp q))];refine AB (L1.at ?_);rw[AS (by decide)]
 k_delta "plainIsInstance"
 refine AB (AB (AG ?_));simp only[GR,BH,DB];refine AB (L3.at ?_);simp only[DR];exact AG (AG h)
theorem a4g{Q:Value→Shared→Prop}(X:K.In s.heap)(ht:∀M,W.Looks M s.heap (typeOf v) (.ref C))(e:W.subIn K (.ref C) (.type "ValueError")=some true)(hx:v≠.builtin "__main__.__loader__#opaque")(h:Q (.bool true) s):
  wpAny (model P w) A (call (.builtin "isinstance") [v,.type "ValueError"]) Q E s:=
 PySem.call_isinstance (S:=fun _ R s=>(K.In s.heap∧∀M,W.Looks M s.heap (typeOf v) (.ref C))∧R (.ok (.ret (.bool true))) s) (fun _ _ _ _ _ hs=>PySem.isinstance_outer (a4f hs.1.1 (hs.1.2 _) e hs.2) hx) ⟨⟨X,ht⟩,h⟩
end
section
variable{X:Cx}{own:List Nat}{pos pos2 pos0 p1 p2 p3 q1 q2 q3:Pos}
theorem a4r:Ej X (.builtin "isinstance") fun xs H Q=>∃a C1 oe,xs=[.ref a,.ty "ValueError"]∧(a,oe)∈X.pn∧oe.cls=.ref C1∧W.subIn X.K (.ref C1) (.type "ValueError")=some true∧Q (.bl true) H:=by
 intro pins s σ H xs us Q I r h;obtain⟨a,C1,oe,rfl,hp,hc,hs,q⟩:=h;obtain⟨u,w',rfl,r1,r2⟩:=vR r;cases (show u=Value.ref a from r1);cases (show w'=Value.type "ValueError" from r2);have he:=(I.pin _ (BE _ hp)).1;exact a4g I.kIn (fun M A' Q' E' s' k q=>AB (GW (k _ _ he) (AG (hc▸q)))) hs (fun z=>nomatch z) ⟨.bl true,H,I,rfl,q⟩
theorem b1l{en xC:Str}{ie:Nat}(hN:X.N[ie]?=some en)(hk:X.env.scope.names.lookup en=some .local)(hg:Gl X "isinstance")(hm:X.mg "isinstance"=none)(hv:bootBuiltins "isinstance"=some (.builtin "isinstance"))(hg2:Gl X xC)(hm2:X.mg xC=some (.ref C1))
  (hg3:Gl X "ValueError")(hm3:X.mg "ValueError"=none)(hsV:W.subIn X.K (.ref C1) (.type "ValueError")=some true)
  (hd:(xC==("__debug__":Str))=false:=by decide)(hd3:(en==("__debug__":Str))=false:=by decide)(hd4:(en==("__classdict__":Str))=false:=by decide)
  (he:starEach [.Name en p2,.Name xC p3] X.env=(false,eval (.Name en p2) X.env)::starEach [.Name xC p3] X.env:=by rfl)(he2:starEach [.Name xC p3] X.env=(false,eval (.Name xC p3) X.env)::starEach [] X.env:=by rfl)
  (hpl:(backTo pos (starEach [.Name xC p3] X.env)).any (·.1)=false:=by rfl)
  (ge:starEach [.Name en q2,.Name "ValueError" q3] X.env=(false,eval (.Name en q2) X.env)::starEach [.Name "ValueError" q3] X.env:=by rfl)(ge2:starEach [.Name "ValueError" q3] X.env=(false,eval (.Name "ValueError" q3) X.env)::starEach [] X.env:=by rfl)
  (gpl:(backTo pos2 (starEach [.Name "ValueError" q3] X.env)).any (·.1)=false:=by rfl):
  ∀a pn oe c,(a,oe)∈pn→oe.cls=.ref c→PE (Jp X a pn) (.BoolOp .And [.Call (.Name "isinstance" p1) [.Name en p2,.Name xC p3] [] pos,.Call (.Name "isinstance" q1) [.Name en q2,.Name "ValueError" q3] [] pos2] pos0) fun σ H Q=>σ[ie]?=some (some (.ref a))∧∃v,Tf C1 c=some v∧Q v H:=fun a pn oe c hp hc pins s σ H Q I ⟨e1,v,e2,q⟩=>by
 have A1:=b1k (X:=X) (p1:=p1) (p2:=p2) (p3:=p3) (pos:=pos) hN hk hg hm hv hg2 hm2 hd hd3 hd4 he he2 hpl a pn oe c hp hc;unfold Tf at e2;split at e2
 ·rename_i h;subst h;cases e2;refine a6x A1 (a6p (gY (X:=Jp X a pn) a4r hg hm hv (bR (gX (X:=Jp X a pn) hN (.inl hk) hd3 hd4) (bR (a1j (X:=Jp X a pn) (v:=.ty "ValueError") hg3 hm3 (by decide+kernel) rfl) dD ge2) ge) (by decide) (by decide) ge gpl)) pins s σ H Q I ?_;exact⟨e1,_,AS rfl,true,rfl,by rw[AS rfl];exact⟨.ref a,e1,a,c,oe,rfl,hp,hc,hsV,q⟩⟩
 ·cases e2
end
section
variable{X:Cx}{own own1 own2:List Nat}{st:Stmt}{e a b o:Expr}{es:List Expr}{pos p2:Pos}{f fa fb fo:WE}{fs:WA}{q1:WS}{M0:Mh}{G0 F0:Hp}{E:EK}
theorem uG(h1:Ny X st (TX X M0 G0 F0 own own1 q1)):Ge X [st] (TX X M0 G0 F0 own own1 q1):=by
 intro pins s σ H D I h;refine WR.execs_consR (eF (h1 pins s σ H D I h) fun f s1 q=>?_);cases f with
 |next=>exact WR.of_any (DP q)
 |ret v=>exact q
 |brk=>exact q
 |cont=>exact q
theorem b2d(h:MS X.nox own own1 st q1):Ny X st (TX X M0 G0 F0 own own1 q1):=fun pins s σ H D I z=>WR.mono (WR.of_any (h.ok M0 G0 F0 pins s σ H D (I.wish _) z)) (fun _ _ q=>q.unwish) fun _ _ z=>False.elim z
theorem b2e{rest:List Stmt}(h:Rt X.nox own own1 rest q1):Ge X rest (TX X M0 G0 F0 own own1 q1):=Mb.R (c0c h)
theorem b2b{K:W.Frag}{M:Mh}{G H:Hp}{σ:L2.St}{ρ:Ac}(h:Ox P w K [] M0 G0 F0 M G H σ ρ)(ie:Nat):Ox P w K [] M0 G0 F0 M G H (σ.set ie none) (ρ.set ie none):=by
 refine⟨⟨⟨h.st.or.sub,by simpa using h.st.or.len,fun j d e _=>?_,fun j hj=>(by cases hj),fun j hj=>(by cases hj)⟩,h.st.mr,fun j hj=>(by cases hj)⟩,h.x,fun j hj=>(by cases hj)⟩;by_cases hj:ie=j
 ·subst hj;rw[GT]at e;rw[AS rfl]at e;split at e<;>cases e
 ·rw[AY hj]at e ⊢;exact h.st.or.at_ j d e (by simp)
def Ol(n i ie ix:Nat)(hv:Addr→Option D)(g:Pl)(fs:WA):WS:=fun ρ M R=>fs ρ M fun ds M1=>ds.length=n∧g ds M1 (fun d M2=>R (.nx (ρ.set i (some d))) M2) fun c M2=>Kn (hv c) fun d=>R (.nx ((ρ.set ix (some d)).set ie none)) M2
theorem b2c{xC en xn xi xf:Str}{ap p1 p2 p3 p4:Pos}{i ie ix k:Nat}{hv:Addr→Option D}{hw:Addr→Option V}{ps:List Str}{g:Pl}
  (hst:X.stack=X.env::X.outer)(hf:X.env.frame=some L)(hcalm:X.calm=true→X.A.handled=none)(hN:X.N.Nodup)(hie:X.N[ie]?=some en)(hix:X.N[ix]?=some xn)(hne:en≠xn)(hke:X.env.scope.names.lookup en=some .local)(hkx:X.env.scope.names.lookup xn=some .local)
  (hg:Gl X xC)(hm:X.mg xC=some (.ref C0))(C:Oj X.K C0)
  (hpe:∀a pn oe c,(a,oe)∈pn→oe.cls=.ref c→PE (Jp X a pn) he fun σ H Q=>σ[ie]?=some (some (.ref a))∧∃v,hw c=some v∧Q v H)
  (hvw:∀c d,hv c=some d→W.subIn X.K (.ref c) (.ref C0)=some true∧∃v,hw c=some v∧∀G,Bf X.K G d v)
  (F:Nr X.prog X.w X.K X.mg X.base k xf ps g)(hr:Cc k X.A)(hgf:Gl X xf)(hi:X.N[i]?=some xi)(hki:X.env.scope.names.lookup xi=some .local)
  (ha:∀pn g,MA (Nx X pn g) [] (e::es) fs)
  (hsw:swapsWith he (some (.Name xn xp)) ap.line X.env=pure false:=by rfl)(hdb:(xC==("__debug__":Str))=false:=by decide)(hdf:(xf==("__debug__":Str))=false:=by decide)
  (hse:starEach (e::es) X.env=(false,eval e X.env)::starEach es X.env:=by rfl)(hpl:(backTo p3 (starEach es X.env)).any (·.1)=false:=by rfl)(hs:swapsWith (.Call (.Name xf p2) (e::es) [] p3) (some (.Name xi p1)) p4.line X.env=pure false:=by rfl):
  Ny X (.Try [.Assign [.Name xi p1] (.Call (.Name xf p2) (e::es) [] p3) p4] [.ExceptHandler (some (.Name xC cp)) (some en) [.Assign [.Name xn xp] he ap] hp] [] [] tp) (TX X M0 G0 F0 [] [] (Ol ps.length i ie ix hv g fs)):=by
 obtain⟨fad,fd,h1,h2,h3,h4⟩:=F;rintro pins s σ H D I ⟨G,ρ,M,R,sr,e',k1,k2⟩;refine b0z (t:=Vr X.prog X.w X.K [] fs) hst hf hcalm hN hie hix hne hke hkx hg hm C hpe h1 hr hgf h3 h4 h2 hi hki (fun pn g=>PA.R (ha pn g).ok) hsw hdb hdf hse hpl hs pins s σ H D I ⟨G,ρ,M,_,sr.st,e',fun ds M1 vs G1 H1 r1 x1 m1 q1=>?_⟩;refine⟨by rw[←aF q1];exact r1.1,G1,ds,M1,_,_,x1.sub,m1,q1,r1.2,fun d M2 v G2 H2 r2 x2 m2 q2=>?_,fun cls H' ⟨c,M',G',h5,h6,h7,h8⟩=>?_⟩
 ·exact k1 _ M2 G2 _ H2 r2 ((sr.grow (x1.trans x2 m1) m2).set (by simp) q2)
 ·obtain⟨d,hd,hR⟩:=dO h6;obtain⟨hs,v,hv',rep⟩:=hvw c d hd;exact⟨c,v,h5,hs,hv',k1 _ M' G' _ H' hR (b2b ((sr.grow (x1.trans h7 m1) h8).set (by simp) (rep G')) ie)⟩
end
section
variable{X:Cx}{own:List Nat}{e a b o:Expr}{pos p2 apos cpos:Pos}{f fa fb fo:WE}
def Mm(fo fa:WE):WE:=fun ρ M R=>fo ρ M fun x M1=>∃z,x=.str z∧fa ρ M1 fun y M2=>∃s,y=.str s∧s.length≠0∧z.length≤Ci∧∀p,M2 p=none→R (.fn p) (Mt M2 p (.lst ((Ex z s (z.length+1)).map D.str)))
theorem a4c(ho:ME X own o fo)(ha:ME X own a fa)
  (hbase:attributeBase o "split" X.env (eval o X.env)=eval o X.env:=by rfl)
  (hfew:((backTo cpos (starEach [a] X.env)).all (fun x=>!x.1)&&(backToKw cpos (keywordEach [] X.env)).all (fun x=>x.1.isSome)
   &&decide ([a].length+([]:List Keyword).length+(if([]:List Keyword).isEmpty then 0 else 1)<30))=true:=by rfl)
  (hline:(apos.endLine==cpos.line)=true:=by rfl) (hs:starEach (a::[]) X.env=(false,eval a X.env)::starEach [] X.env:=by rfl) (hplain:(backTo cpos (starEach [] X.env)).any (·.1)=false:=by rfl):
  ME X own (.Call (.Attribute o "split" apos) [a] [] cpos) (Mm fo fa):=
 mU (sE DU FV FT sL ho.ok (bR ha.ok dD hs) hbase hfew hline hs hplain) fun σ G H Q ρ M R st e k=>⟨G,ρ,M,_,st,e,fun x M1 v G1 H1 r1 x1 m1 q1=>by
  obtain⟨z,rfl,r1⟩:=r1;cases aP q1;refine⟨rfl,G1,ρ,M1,_,st.grow x1 m1,r1,fun y M2 u G2 H2 r2 x2 m2 q2=>?_⟩;obtain⟨s,rfl,hs0,hz,r3⟩:=r2;cases aP q2;exact⟨_,_,rfl,rfl,by simpa using hs0,hz,fun p hp=>k _ _ _ _ _ (r3 p (m2.nocell hp)) ((x1.trans x2 m1).trans (.laid x2.sub hp) m2) (m2.laid hp x2.sub ⟨_,bY,iY _⟩) Bf.fn⟩⟩
def Gq(fa:WE)(ol oh:Ac→Option (Option Int)):WE:=fun ρ M R=>fa ρ M fun x M1=>Kn (ol ρ) fun l=>Kn (oh ρ) fun h=>Kn (lstM M1 x) fun xs=>R (.lst (Ao xs l h)) M1
theorem eK{lo hi:Option Expr}{ol oh:Ac→Option (Option Int)}(ha:ME X own a fa)(hl:PO X lo (Qt X.K own ol))(hh:PO X hi (Qt X.K own oh)):ME X own (.Subscript a (.Slice lo hi none p2) pos) (Gq fa ol oh):=
 mU (wP (Rp.or a5m a0x) ha.ok hl hh) fun σ G H Q ρ M R st e k=>⟨G,ρ,M,_,st,e,fun x M1 v G1 H1 r1 x1 m1 q1=>by
  obtain⟨l,e2,r1⟩:=dO r1;obtain⟨h,e3,r1⟩:=dO r1;obtain⟨xs,e4,r1⟩:=dO r1;have st1:=st.grow x1 m1;refine⟨G1,ρ,l,st1.or,e2,fun G2 H2 s2=>⟨G2,ρ,h,st1.or.grow s2,e3,fun G3 H3 s3=>?_⟩⟩;have s4:=s2.trans s3;obtain⟨p,vs,rfl,q,rr⟩:=oG s4.sub (m1.ext s4) ((q1.mono s2.g).mono s3.g) e4;exact .inr ⟨p,vs,rfl,q,fun p hp=>k _ _ _ _ _ r1 (x1.trans (.ext (s4.trans (Cr.laid s4.sub hp))) m1) (m1.ext (s4.trans (Cr.laid s4.sub hp))) (bP (s4.sub.free hp) (pF rr l h))⟩⟩
def Ob(s0:Str)(fa:WE):WE:=fun ρ M R=>fa ρ M fun y M2=>Kn (lstM M2 y) fun xs=>Kn (Ft (.str s0) (.lst xs)) fun d=>R d M2
theorem a7z{s0:Str}{n0:Nat}(ha:ME X own a fa)
  (hbase:attributeBase (.Constant (.str s0) n0 p0) "join" X.env (eval (.Constant (.str s0) n0 p0) X.env)=eval (.Constant (.str s0) n0 p0) X.env:=by rfl)
  (hfew:((backTo cpos (starEach [a] X.env)).all (fun x=>!x.1)&&(backToKw cpos (keywordEach [] X.env)).all (fun x=>x.1.isSome)
   &&decide ([a].length+([]:List Keyword).length+(if([]:List Keyword).isEmpty then 0 else 1)<30))=true:=by rfl)
  (hline:(apos.endLine==cpos.line)=true:=by rfl) (hs:starEach (a::[]) X.env=(false,eval a X.env)::starEach [] X.env:=by rfl) (hplain:(backTo cpos (starEach [] X.env)).any (·.1)=false:=by rfl):
  ME X own (.Call (.Attribute (.Constant (.str s0) n0 p0) "join" apos) [a] [] cpos) (Ob s0 fa):=
 mU (sE DU PySem.F.slot_str_join PySem.F.type_str_join a1q a6n (bR ha.ok dD hs) hbase hfew hline hs hplain) fun σ G H Q ρ M R st e k=>⟨rfl,G,ρ,M,_,st,e,fun y M2 w G2 H2 r2 x2 m2 q2=>by
  obtain⟨xs,e1,r2⟩:=dO r2;obtain⟨d,e3,r3⟩:=dO r2;obtain⟨ys,e4,e5⟩:=AA.mp (show((Ij xs).bind fun ys=>if(ys.map (·.length)).sum+ys.length*s0.length≤Ci then some (.str (Txt.join s0 ys))else none)=some d from e3);split at e5
  ·rename_i hl;cases e5;obtain⟨p,vs,rfl,q,rr⟩:=oG x2.sub m2 q2 e1;have:=pB rr e4;subst this;exact⟨_,p,ys,rfl,rfl,q,BG hl (by decide),k _ M2 _ G2 H2 r3 x2 m2 Bf.str⟩
  ·cases e5⟩
end
end DL
namespace DL
open PySem PySem.Spec PyProof.Rows L2
theorem b1f(l:List Nat)(a:Nat):∀m:Nat,((List.range m).map fun k=>a+k).filterMap (fun k=>l[k]?)=(l.drop a).take m:=fun m=>by
 induction m with
 |zero=>rfl
 |succ m ih=>
  rw[List.range_succ,BY,List.filterMap_append,ih,List.take_succ,List.getElem?_drop];cases e:l[a+m]?<;>simp[e]
theorem b2o{i j n:Nat}(h:i≤j):Builtin.Str.strSliceIndices (some (i:Int)) (some (j:Int)) 1 n=(List.range (min j n - min i n)).map fun k=>min i n+k:=by
 rw[←StrLaws.strSliceIndices_plain (a:=min i n) (b:=min j n) (len:=n) (by omega) (by omega)];unfold Builtin.Str.strSliceIndices;have e:∀k:Nat,max (0:Int) (min (if(k:Int)<0 then(k:Int)+n else k) n)=max 0 (min (if((min k n:Nat):Int)<0 then((min k n:Nat):Int)+n else((min k n:Nat):Int)) n):=fun k=>by
  rw[AR (by omega),AR (by omega)];omega
 simp only[show(1:Int)>0 by decide,DR];rw[e i,e j]
theorem vY{z:Str}{i j:Nat}(h:i≤j):Txt.slice z (some (i:Int)) (some (j:Int))=⟨((z.cps.toList.drop i).take (j - i)).toArray⟩:=by
 have hl:z.length=z.cps.toList.length:=by simp[Str.length]
 have e:((z.cps.toList.drop (min i z.length)).take (min j z.length - min i z.length))=(z.cps.toList.drop i).take (j - i):=by
  rw[hl];generalize z.cps.toList=l;obtain c|c:=Nat.le_total i l.length
  ·rw[FY c];obtain d|d:=Nat.le_total j l.length
   ·rw[FY d]
   ·rw[GZ d,EY (by rw[DQ];omega),EY (by rw[DQ];omega)]
  ·rw[GZ c,CI (AU _),CI c,List.take_nil,List.take_nil]
 unfold Txt.slice;rw[b2o h];split
 ·rename_i c;simp only[beq_self_eq_true,Bool.true_and,FK,AK,FA]at c;have h0:min i z.length=0:=by omega
  rw[←e,c,h0,List.drop_zero,hl,List.take_length]
 ·rw[←e,←b1f];congr 2;refine congrArg (fun f=>List.filterMap f _) (funext fun k=>?_);simp
theorem b0q{z:Str}{i:Nat}:Txt.slice z (some (i:Int)) none=⟨(z.cps.toList.drop i).toArray⟩:=by
 have hl:z.length=z.cps.toList.length:=by simp[Str.length]
 have e:Txt.slice z (some (i:Int)) none=Txt.slice z (some (i:Int)) (some ((max i z.length:Nat):Int)):=by
  unfold Txt.slice;have e2:Builtin.Str.strSliceIndices (some (i:Int)) none 1 z.length=Builtin.Str.strSliceIndices (some (i:Int)) (some ((max i z.length:Nat):Int)) 1 z.length:=by
   unfold Builtin.Str.strSliceIndices;simp only[show(1:Int)>0 by decide,DR];congr 1;rw[AR (by omega)];omega
  rw[e2]
 rw[e,vY (Nat.le_max_left _ _),EY (by rw[DQ,←hl];omega)]
section
variable{X:Cx}{own:List Nat}{a:Expr}{te:TE}{tl th:TO}{pos p2:Pos}{fa:Ac→Option D}{ol oh:Ac→Option (Option Int)}{lo hi:Option Expr}
def Sr:V→Option Int→Option Int→Hp→VK→Prop:=fun x lo hi H Q=>∃z i,x=.str z∧((lo=some i∧hi=none)∨(lo=none∧hi=some i))∧z.length≤sizeLine∧Q (.str (Txt.slice z lo hi)) H
theorem a3j(he:PE X a te)(hl:PO X lo tl)(hu:PO X hi th):PE X (.Subscript a (.Slice lo hi none p2) pos) (Wt Sr te tl th):=by
 intro pins s σ H Q I h;refine Subscript_ (bX (he pins s σ H _ I h) fun v s1 ⟨x,H1,I1,r1,q1⟩=>?_);refine wpAny_Slice (bX (hl pins s1 σ H1 _ I1 q1) fun vl s2 ⟨l,H2,I2,pl,q2⟩=>bX (hu pins s2 σ H2 _ I2 q2) fun vu s3 ⟨u,H3,I3,pu,q3⟩=>?_);rw[evalPart_none];refine AG ?_;obtain⟨z,i,rfl,hc,hz,q⟩:=q3;obtain⟨t,rfl⟩:=r1;have kp:KeptH fun h=>Inv X pins σ H3 {s3 with heap:=h}:=fun h ob p=>p.kept (t':=s3.toks) fun b u q=>AD _ q;obtain⟨rfl,rfl⟩|⟨rfl,rfl⟩:=hc
 ·cases pl;cases pu;obtain⟨T,id,hT,ht,hg⟩:=PySem.SBH.sliceItem_sn (s:=s3) (prog:=X.prog) (w:=X.w) (A:=X.A) (E:=X.xe) (t:=t) (Q:=EP X pins σ Q) kp I3 (fun h' t' k p=>⟨.str _,H3,p.tok k,⟨_,rfl⟩,q⟩) hz;exact tail_any (ops:=[.ref s3.heap.objs.size,.str z t]) ht hT hg (by with_unfolding_all rfl)
 ·cases pl;cases pu;obtain⟨T,id,hT,ht,hg⟩:=PySem.SBH.sliceItem_ns (s:=s3) (prog:=X.prog) (w:=X.w) (A:=X.A) (E:=X.xe) (t:=t) (Q:=EP X pins σ Q) kp I3 (fun h' t' k p=>⟨.str _,H3,p.tok k,⟨_,rfl⟩,q⟩) hz;exact tail_any (ops:=[.ref s3.heap.objs.size,.str z t]) ht hT hg (by with_unfolding_all rfl)
theorem b0p{z:Str}{j:Nat}:Txt.slice z none (some (j:Int))=⟨(z.cps.toList.take j).toArray⟩:=by
 have e:Txt.slice z none (some (j:Int))=Txt.slice z (some ((0:Nat):Int)) (some (j:Int)):=by
  unfold Txt.slice;have e2:Builtin.Str.strSliceIndices none (some (j:Int)) 1 z.length=Builtin.Str.strSliceIndices (some ((0:Nat):Int)) (some (j:Int)) 1 z.length:=by
   unfold Builtin.Str.strSliceIndices;simp only[show(1:Int)>0 by decide,DR];congr 1
  rw[e2]
 rw[e,vY (DK _)];simp
def Pr(d:D)(l h:Option Int):Option D:=match d,l,h with
 |.str z,some i,none=>if 0≤i∧z.length≤Ci then some (.str ⟨(z.cps.toList.drop i.toNat).toArray⟩)else none
 |.str z,none,some j=>if 0≤j∧z.length≤Ci then some (.str ⟨(z.cps.toList.take j.toNat).toArray⟩)else none
 |_,_,_=>none
theorem a2v{l h:Option Int}(e:Pr x l h=some d):∃z i,x=.str z∧((l=some i∧h=none)∨(l=none∧h=some i))∧z.length≤Ci∧d=.str (Txt.slice z l h):=by
 cases x with
 |str z=>
  obtain _|i:=l<;>obtain _|j:=h<;>first|(cases e;done)|skip
  ·have e:(if 0≤j∧z.length≤Ci then some (D.str ⟨(z.cps.toList.take j.toNat).toArray⟩)else none)=some d:=e;split at e
   ·rename_i c;obtain⟨n,hn⟩:∃n:Nat,(n:Int)=j:=⟨j.toNat,by omega⟩;subst hn;exact⟨z,_,rfl,.inr ⟨rfl,rfl⟩,c.2,by rw[b0p];exact(BJ e).symm⟩
   ·cases e
  ·have e:(if 0≤i∧z.length≤Ci then some (D.str ⟨(z.cps.toList.drop i.toNat).toArray⟩)else none)=some d:=e;split at e
   ·rename_i c;obtain⟨n,hn⟩:∃n:Nat,(n:Int)=i:=⟨i.toNat,by omega⟩;subst hn;exact⟨z,_,rfl,.inl ⟨rfl,rfl⟩,c.2,by rw[b0q];exact(BJ e).symm⟩
   ·cases e
 |_=>cases e
def Nk(f:Ac→Option D)(ol oh:Ac→Option (Option Int)):Ac→Option D:=fun ρ=>(f ρ).bind fun d=>(ol ρ).bind fun l=>(oh ρ).bind fun h=>Pr d l h
theorem sV(ha:DE X own a fa)(hl:PO X lo (Qt X.K own ol))(hh:PO X hi (Qt X.K own oh)):DE X own (.Subscript a (.Slice lo hi none p2) pos) (Nk fa ol oh):=
 cD (a3j ha.ok hl hh) fun σ G H Q ρ d er e k=>by
  obtain⟨x,e1,e⟩:=AA.mp e;obtain⟨l,e2,e⟩:=AA.mp e;obtain⟨h,e3,e⟩:=AA.mp e;refine⟨G,ρ,x,er,e1,fun v G1 H1 s1 r1=>⟨G1,ρ,l,er.grow s1,e2,fun G2 H2 s2=>⟨G2,ρ,h,er.grow (s1.trans s2),e3,fun G3 H3 s3=>?_⟩⟩⟩;have r3:Bf X.K G3 x v:=(r1.mono s2.g).mono s3.g;have s4:Cr G H G3 H3:=s1.trans (s2.trans s3);obtain⟨z,i,rfl,hc,hz,rfl⟩:=a2v e;cases aP r3;exact⟨_,i,rfl,hc,BG hz (by decide+kernel),k _ _ _ s4 Bf.str⟩
end
end DL
namespace L2
open PySem
theorem Et.imp{K:W.Frag}{mg:Str→Option Value}{CX:Mu}{k:Nat}{sp sp':Sp}(F:Et P w K mg base CX k f fd ps sp)
  (h:∀vs H Q E,sp' vs H Q E→sp vs H Q E):Et P w K mg base CX k f fd ps sp':=
 ⟨fun vs H Q E q=>F.len vs H Q E (h _ _ _ _ q),fun A outer s H args us vs Q E hr he hb hv hs=>F.run A outer s H args us vs Q E hr he hb hv (h _ _ _ _ hs)⟩
end L2
namespace DL
open PySem PySem.Spec PyProof.Rows L2
section
variable{X:Cx}{own:List Nat}{tg:Expr}{fi:Ac→Option (List D)}{ft:Ac→Option Bool}
theorem a2e{i:Nat}{scope:Scope}{pos:Pos}{NL:List Str}{ix:List Nat}{g:TG}{bnd:D→Ac→Option Ac}{fe:Ac→Option D}
  (hN:X.N.Nodup)(hi':X.N[i]?=some x)(hx:Pm X.env.scope x)
  (hkind:scope.kind=.function)(hcell:∀y∈scope.names,y.2≠.cell)(hnames:∀y∈scope.names,y.2=.local→scope.names.lookup y.1=some .local)
  (hfree:∀y∈scope.names,y.2=.free→(X.env.kindOf y.1=some .cell∨X.env.kindOf y.1=some .free))(cap:Eh X scope NF ix)(hix:∀j∈ix,j∉own)(calm:X.calm=true)(hit:DI X own tg iter fi)
  (hg:∀cl C s₂ H₂ fp,PG (He X scope cl C (NL++NF) s₂ H₂ fp) tg g)(hgd:GD X.K g bnd)(hi:∀cl C s₂ H₂ fp,Js (He X scope cl C (NL++NF) s₂ H₂ fp) ifs (Ry X.K [] ft))(he:∀cl C s₂ H₂ fp,DE (He X scope cl C (NL++NF) s₂ H₂ fp) [] elt fe)
  (hio:i∉own:=by decide)(hs:∀x,foldedSetIterable iter X.env x=pure x:=by intro _;rfl)
  (hsw:swapsWith (.ListComp elt [⟨tg,iter,ifs,0⟩] scope cpos) (some (.Name x p2)) pos.line X.env=pure true:=by rfl)
  (hf:X.fn x=true∨X.env.scope.names.lookup x=some .local:=by first|exact .inl rfl|exact .inr rfl|assumption):
  DS X own own (.Assign [.Name x p2] (.ListComp elt [⟨tg,iter,ifs,0⟩] scope cpos) pos) (Ax i (Db NL.length ix fi bnd ft fe)):=
 a9j (b1a hN hi' hx hkind hcell hnames hfree cap calm hit.ok hg hi (fun x0 x1 x2 x3 x4=>(he x0 x1 x2 x3 x4).ok) hs hsw hf) fun G0 F0 E σ G H ρ r er e' k=>by
  obtain⟨d,e,rfl⟩:=AF.mp e';obtain⟨ds,e1,e⟩:=AA.mp e;split at e
  ·rename_i hb;obtain⟨total,e2,rfl⟩:=AF.mp e;refine⟨G,ρ,ds,er.or,e1,fun J G1 H1 x1 itd=>?_⟩;refine a9v hb itd hgd ((er.or.grow x1).cap NL.length ix hix) e2 fun ys G' H' x r p hp=>?_;exact k _ _ _ ((er.grow (x1.trans (x.trans (Cr.laid x.sub hp)))).set hio (bP (x.sub.free hp) r))
  ·cases e
end
theorem b5v{K:W.Frag}{neg:Bool}:Fz K (Qz P w K neg) (Rk neg M0):=fun{x y dx dy d G H Q} sub rx ry e k=>b5q (M:=M0) sub ⟨fun a c e=>by cases e⟩ rx ry e k
structure Xa(X:Cx)(own own':List Nat)(st:Stmt)(f:WS):Prop where
 ok:∀M0 G0 F0,Ny X st (Rz X.prog X.w X.K M0 G0 F0 own own' f)
structure Th(X:Cx)(own own':List Nat)(st:List Stmt)(f:WS):Prop where
 ok:∀M0 G0 F0,Ge X st (Rz X.prog X.w X.K M0 G0 F0 own own' f)
section
variable{X:Cx}{own own1 own2:List Nat}{st:Stmt}{rest:List Stmt}{q1 q2:WS}
theorem fA(h1:MS X own own1 st q1)(h2:Th X own1 own2 rest q2):Th X own own2 (st::rest) (Ch q1 q2):=⟨fun M0 G0 F0=>dX (PS.R (c0b h1)) (h2.ok M0 G0 F0)⟩
theorem b8w(h1:Xa X own own1 st q1)(h2:Th X own1 own2 rest q2):Th X own own2 (st::rest) (Ch q1 q2):=⟨fun M0 G0 F0=>dX (h1.ok M0 G0 F0) (h2.ok M0 G0 F0)⟩
theorem b8x(h:Rt X own own1 rest q1):Th X own own1 rest q1:=⟨fun M0 G0 F0=>Mb.R (h.ok M0 G0 F0)⟩
open XS
theorem a7v{xC en xn xi xf:Str}{ap p4:Pos}{i ie ix k:Nat}{hv:Addr→Option D}{hw:Addr→Option V}{ps:List Str}{g:Pl}{fs:WA}
  (hst:X.stack=X.env::X.outer)(hf:X.env.frame=some L)(hcalm:X.calm=true→X.A.handled=none)(hN:X.N.Nodup)(hie:X.N[ie]?=some en)(hix:X.N[ix]?=some xn)(hne:en≠xn)(hke:X.env.scope.names.lookup en=some .local)(hkx:X.env.scope.names.lookup xn=some .local)
  (hg:Gl X xC)(hm:X.mg xC=some (.ref C0))(C:Oj X.K C0)
  (hpe:∀a pn oe c,(a,oe)∈pn→oe.cls=.ref c→PE (Jp X a pn) he fun σ H Q=>σ[ie]?=some (some (.ref a))∧∃v,hw c=some v∧Q v H)
  (hvw:∀c d,hv c=some d→W.subIn X.K (.ref c) (.ref C0)=some true∧∃v,hw c=some v∧∀G,Bf X.K G d v)
  (F:Nr X.prog X.w X.K X.mg X.base k xf ps g)(hr:Cc k X.A)(hgf:Gl X xf)(hi:X.N[i]?=some xi)(hki:X.env.scope.names.lookup xi=some .local)
  (ha:∀pn g,MA (Nx X pn g) [] (e::es) fs)
  (hsw:swapsWith he (some (.Name xn xp)) ap.line X.env=pure false:=by rfl)(hdb:(xC==("__debug__":Str))=false:=by decide)(hdf:(xf==("__debug__":Str))=false:=by decide)
  (hse:starEach (e::es) X.env=(false,eval e X.env)::starEach es X.env:=by rfl)(hpl:(backTo p3 (starEach es X.env)).any (·.1)=false:=by rfl)(hs:swapsWith (.Call (.Name xf p2) (e::es) [] p3) (some (.Name xi p1)) p4.line X.env=pure false:=by rfl):
  Xa X [] [] (.Try [.Assign [.Name xi p1] (.Call (.Name xf p2) (e::es) [] p3) p4] [.ExceptHandler (some (.Name xC cp)) (some en) [.Assign [.Name xn xp] he ap] hp] [] [] tp) (Ol ps.length i ie ix hv g fs):=
 ⟨fun M0 G0 F0=>b2c hst hf hcalm hN hie hix hne hke hkx hg hm C hpe hvw F hr hgf hi hki ha hsw hdb hdf hse hpl hs⟩
theorem a8i{K:W.Frag}{mg:Str→Option Value}{st:Stmt}{k:Nat}{own':List Nat}{q:WS}(hd:Rv K mg x st [y])(S:Bi N [y] (Ag st))(hfa:mg x=some (.ref fa))
  (hb:∀(base:Heap) (fad:Addr) (cdv:Value) (A:Around) (outer:List Env) (s:Shared) (H:Hp) (E:XK),Cc k (A.deeper (envOfC x (Ag st) s.heap.objs.size fad cdv))→Th (Gd Oa P w K mg base N x (Ag st) fad cdv A outer s H E).nox [] own' (Dr st) q):
  ∃fd:FuncData,(∀(s:Shared) (u:Value),BindsTo s fd ⟨[u],[]⟩ [(y,u)])∧∀base:Heap,K.In base→base.Ns mainGlobals mg→Et P w K mg base Oa (k+1) fa fd [y] (Vh P w K 1 (Nb N 1 q)):=
 b2l hd S hfa fun base fad cdv A outer s H E M0 G0 F0 hr=>(hb base fad cdv A outer s H E hr).ok M0 G0 F0
end
end DL
namespace TX
open PySem Builtin.Str
def Gh(x:Nat):List (List Nat)→List (List Nat)
 |w::ws=>(x::w)::ws
 |[]=>[[x]]
def Jd(p:List Nat):List (List Nat)→List (List Nat)
 |w::ws=>(p++w)::ws
 |[]=>[p]
def cutC(c:Nat):Nat→List Nat→List (List Nat)
 |_,[]=>[[]]
 |n,x::xs=>if x=c then(match n with|0=>Gh x (cutC c 0 xs)|m+1=>[]::cutC c m xs)else Gh x (cutC c n xs)
def Ff(c:Nat):List Nat→Nat→Nat→List Nat
 |[],_,_=>[]
 |x::xs,i,n=>if x=c then(match n with|0=>Ff c xs (i+1) 0|m+1=>i::Ff c xs (i+1) m)else Ff c xs (i+1) n
theorem lX(c:Nat):∀(xs:List Nat) (i:Nat),Ff c xs i 0=[]
 |[],_=>rfl
 |x::xs,i=>by
  unfold Ff;split<;>exact lX c xs _
theorem a1h{c x m i:Nat}{xs:List Nat}(h:x=c):Ff c (x::xs) i (m+1)=i::Ff c xs (i+1) m:=by
 conv=>lhs;unfold Ff
 rw[AS h]
theorem a1g{c x n i:Nat}{xs:List Nat}(h:¬x=c):Ff c (x::xs) i n=Ff c xs (i+1) n:=by
 conv=>lhs;unfold Ff
 rw[AR h]
theorem gK(c:Nat):∀(n:Nat) (xs:List Nat),cutC c n xs≠[]
 |_,[]=>by simp[cutC]
 |n,x::xs=>by
  unfold cutC;have h:∀l,Gh x l≠[]:=fun l=>by cases l<;>simp[Gh]
  split
  ·split
   ·exact h _
   ·simp
  ·exact h _
theorem sX{l:List (List Nat)}(h:l≠[]):Jd [] l=l:=by
 cases l with
 |nil=>exact absurd rfl h
 |cons w ws=>rfl
theorem a2m(p:List Nat)(x:Nat)(l:List (List Nat)):Jd (p++[x]) l=Jd p (Gh x l):=by
 cases l<;>simp[Jd,Gh]
theorem a2t(s:Str)(c i:Nat)(h:i<s.length):subAt s ⟨#[c]⟩ i=decide (s.cps.toList[i]?=some c):=by
 have hs:i<s.cps.size:=h;have e:s.cps.extract i (i+1)=#[s.cps[i]]:=by
  apply Array.ext
  ·simp;omega
  ·intro j h1 h2;simp at h2;subst h2;simp
 unfold subAt;have hl:(⟨#[c]⟩:Str).length=1:=rfl;rw[hl,e];have e2:s.cps.toList[i]?=some s.cps[i]:=by simp[hs]
 rw[e2];by_cases hc:s.cps[i]=c
 ·simp[hc]
 ·simp[hc]
theorem hW(s:Str)(c lim:Nat):∀(n i:Nat) (found:Array Nat) (free:Nat),i+n=s.length+1→free≤i→found.size≤lim→
  (forIn (m:=Id) (List.range' i n) (found,free) (StrLaws.occBody s ⟨#[c]⟩ s.length lim)).run.fst.toList=found.toList++Ff c (s.cps.toList.drop i) i (lim - found.size)
 |0,i,found,free,h,hf,hs=>by
  have:s.cps.toList.drop i=[]:=by
   apply CI;have:s.cps.toList.length=s.length:=by simp[Str.length]
   omega
  rw[this];simp[Ff]
 |n+1,i,found,free,h,hf,hs=>by
  have hl:s.cps.toList.length=s.length:=by simp[Str.length]
  rw[List.range'_succ,ET];by_cases hi:i<s.length
  ·have hd:s.cps.toList.drop i=s.cps.toList[i]'(by omega)::s.cps.toList.drop (i+1):=CY (by omega);have hg:s.cps.toList[i]?=some (s.cps.toList[i]'(by omega)):=by simp
   have hsub:=a2t s c i hi;rw[hd];by_cases hc:s.cps.toList[i]'(by omega)=c
   ·have hst:subAt s ⟨#[c]⟩ i=true:=by rw[hsub,hg,hc];simp
    by_cases hlim:found.size<lim
    ·have cond:((found.size<lim∧free≤i)∧i+(⟨#[c]⟩:Str).length≤s.length)∧subAt s ⟨#[c]⟩ i=true:=⟨⟨⟨hlim,hf⟩,by show i+1≤_;omega⟩,hst⟩;have ih:=hW s c lim n (i+1) (found.push i) (i+1) (by omega) (AU _) (by rw[Array.size_push];omega);unfold StrLaws.occBody;rw[AS cond];unfold StrLaws.occBody at ih;refine Eq.trans ih ?_;rw[Array.size_push,Array.toList_push];obtain⟨m,hm⟩:∃m,lim - found.size=m+1:=⟨lim - found.size - 1,by omega⟩;rw[hm,show lim - (found.size+1)=m by omega,a1h hc];simp
    ·have cond:¬(((found.size<lim∧free≤i)∧i+(⟨#[c]⟩:Str).length≤s.length)∧subAt s ⟨#[c]⟩ i=true):=fun z=>hlim z.1.1.1;have ih:=hW s c lim n (i+1) found free (by omega) (by omega) hs;unfold StrLaws.occBody;rw[AR cond];unfold StrLaws.occBody at ih;refine Eq.trans ih ?_;rw[show lim - found.size=0 by omega,lX,lX]
   ·have hst:¬subAt s ⟨#[c]⟩ i=true:=by
     rw[hsub,hg];intro z;exact hc (BJ (ED z))
    have cond:¬(((found.size<lim∧free≤i)∧i+(⟨#[c]⟩:Str).length≤s.length)∧subAt s ⟨#[c]⟩ i=true):=fun z=>hst z.2;have ih:=hW s c lim n (i+1) found free (by omega) (by omega) hs;unfold StrLaws.occBody;rw[AR cond];unfold StrLaws.occBody at ih;refine Eq.trans ih ?_;rw[a1g hc]
  ·have hd:s.cps.toList.drop i=[]:=CI (by omega);have cond:¬(((found.size<lim∧free≤i)∧i+(⟨#[c]⟩:Str).length≤s.length)∧subAt s ⟨#[c]⟩ i=true):=fun z=>by have:=z.1.2;have e:(⟨#[c]⟩:Str).length=1:=rfl;omega
   have ih:=hW s c lim n (i+1) found free (by omega) (by omega) hs;unfold StrLaws.occBody;rw[AR cond];unfold StrLaws.occBody at ih;refine Eq.trans ih ?_;have hd':s.cps.toList.drop (i+1)=[]:=CI (by omega);rw[hd,hd'];simp[Ff]
theorem a1o(s:Str)(c lim:Nat):occurrences s ⟨#[c]⟩ 0 s.length lim=Ff c s.cps.toList 0 lim:=by
 rw[StrLaws.occ_eq];have:=hW s c lim (s.length+1) 0 #[] 0 (by omega) (AU _) (DK _);simpa using this
def Ia(cs:List Nat)(start:Nat)(cuts:List Nat):List (List Nat):=((start::cuts.map (·+1)).zip (cuts++[cs.length])).map fun(i,j)=>(cs.drop i).take (j - i)
theorem zB(cs:List Nat)(start:Nat):Ia cs start []=[(cs.drop start).take (cs.length - start)]:=rfl
theorem wQ(cs:List Nat)(start i:Nat)(cuts:List Nat):Ia cs start (i::cuts)=(cs.drop start).take (i - start)::Ia cs (i+1) cuts:=rfl
theorem iZ(c:Nat)(cs:List Nat):∀(ys:List Nat) (i start n:Nat),cs.drop i=ys→i≤cs.length→start≤i→Ia cs start (Ff c ys i n)=Jd ((cs.drop start).take (i - start)) (cutC c n ys)
 |[],i,start,n,h,hi,hs=>by
  have hl:cs.length≤i:=by
   have:=congrArg List.length h;simp at this;omega
  have e:i=cs.length:=by omega
  subst e;simp[Ff,zB,cutC,Jd]
 |y::ys,i,start,n,h,hi,hs=>by
  have hlt:i<cs.length:=by
   have:=congrArg List.length h;simp at this;omega
  have h':cs.drop (i+1)=ys:=by
   rw[←List.tail_drop,h];rfl
  have hy:cs[i]?=some y:=by
   have:=congrArg (fun l=>l[0]?) h;simpa using this
  have step:(cs.drop start).take (i+1 - start)=(cs.drop start).take (i - start)++[y]:=by
   have e:i+1 - start=(i - start)+1:=by omega
   rw[e,List.take_add_one];congr 1;rw[List.getElem?_drop,show start+(i - start)=i by omega,hy];rfl
  unfold Ff cutC;by_cases hc:y=c
  ·rw[AS hc,AS hc];cases n with
   |zero=>
    have ih:=iZ c cs ys (i+1) start 0 h' (by omega) (by omega);show Ia cs start (Ff c ys (i+1) 0)=Jd _ (Gh y (cutC c 0 ys));rw[ih,step,a2m]
   |succ m=>
    have ih:=iZ c cs ys (i+1) (i+1) m h' (by omega) (AU _);show Ia cs start (i::Ff c ys (i+1) m)=Jd _ ([]::cutC c m ys);rw[wQ,ih,Nat.sub_self,List.take_zero,sX (gK c m ys)];simp[Jd]
  ·rw[AR hc,AR hc];have ih:=iZ c cs ys (i+1) start n h' (by omega) (by omega);rw[ih,step,a2m]
def mk(w:List Nat):Str:=⟨w.toArray⟩
theorem a3l(s:Str)(c lim:Nat):partsBetween s (occurrences s ⟨#[c]⟩ 0 s.length lim) 1=(cutC c lim s.cps.toList).map mk:=by
 have h:=iZ c s.cps.toList s.cps.toList 0 0 lim rfl (DK _) (AU _);rw[Nat.sub_self,List.take_zero,sX (gK c lim _)]at h;rw[←h,a1o];unfold partsBetween Ia;simp only[DY];have hl:s.cps.toList.length=s.length:=by simp[Str.length]
 rw[hl];apply GL;rintro⟨i,j⟩ _;show strSub s i j=mk ((s.cps.toList.drop i).take (j - i));unfold strSub mk;congr 1;apply HC.mp;simp[List.extract_eq_drop_take]
def joinL(c:Nat):List (List Nat)→List Nat
 |[]=>[]
 |[w]=>w
 |w::ws=>w++c::joinL c ws
theorem bK{c:Nat}{w:List Nat}{ws:List (List Nat)}(h:ws≠[]):joinL c (w::ws)=w++c::joinL c ws:=by
 cases ws with
 |nil=>exact absurd rfl h
 |cons v vs=>rfl
theorem sT(c:Nat):∀(ws:List (List Nat)) (acc:Array Nat),(ws.map mk).foldl (fun acc p=>acc++(⟨#[c]⟩:Str).cps++p.cps) acc=acc++(ws.map fun w=>c::w).flatten.toArray
 |[],acc=>by simp
 |w::ws,acc=>by
  rw[AO,HH,sT c ws];apply HC.mp;simp[mk]
theorem qH(c:Nat):∀(w:List Nat) (ws:List (List Nat)),joinL c (w::ws)=w++(ws.map fun w=>c::w).flatten
 |w,[]=>by simp[joinL]
 |w,v::vs=>by
  rw[bK (by simp),qH c v vs];simp
theorem b2n(c:Nat)(ws:List (List Nat)):Txt.join ⟨#[c]⟩ (ws.map mk)=mk (joinL c ws):=by
 unfold Txt.join glued;cases ws with
 |nil=>rfl
 |cons w ws=>
  simp only[AO,List.drop_succ_cons,List.drop_zero,List.headD_cons];rw[sT,qH];unfold mk;congr 1;apply HC.mp;simp
theorem qR{c:Nat}:∀{w:List Nat} (n:Nat),c∉w→cutC c n w=[w]
 |[],n,_=>by simp[cutC]
 |x::w,n,h=>by
  simp only[AN,not_or]at h;unfold cutC;rw[AR (fun z=>h.1 z.symm),qR n h.2];rfl
theorem xX{c:Nat}:∀(w:List Nat),cutC c 0 w=[w]
 |[]=>by simp[cutC]
 |x::w=>by
  unfold cutC;have ih:=xX (c:=c) w;by_cases hc:x=c
  ·rw[AS hc,ih];rfl
  ·rw[AR hc,ih];rfl
theorem a0h{c n:Nat}:∀{w:List Nat} (ys:List Nat),c∉w→cutC c (n+1) (w++c::ys)=w::cutC c n ys
 |[],ys,_=>by
  show cutC c (n+1) (c::ys)=_
  conv=>lhs;unfold cutC
  rw[AS rfl]
 |x::w,ys,h=>by
  simp only[AN,not_or]at h;show cutC c (n+1) (x::(w++c::ys))=_
  conv=>lhs;unfold cutC
  rw[AR (fun z=>h.1 z.symm),a0h ys h.2];rfl
theorem lN{c:Nat}:∀(pre:List (List Nat)) (last:List Nat) (n:Nat),(∀w∈pre,c∉w)→pre.length≤n→(c∉last∨pre.length=n)→cutC c n (joinL c (pre++[last]))=pre++[last]
 |[],last,n,_,_,hl=>by
  show cutC c n last=[last];obtain h|h:=hl
  ·exact qR n h
  ·have e:n=0:=h.symm;subst e;exact xX last
 |w::pre,last,n,hp,hn,hl=>by
  obtain⟨m,rfl⟩:∃m,n=m+1:=⟨n - 1,by simp at hn;omega⟩;rw[List.cons_append,bK (by simp),a0h _ (hp w AM),lN pre last m (fun v hv=>hp v (AC _ hv)) (by simp at hn;omega) (hl.imp id fun z=>by simp at z;omega)]
theorem b6r(s:Str)(c:Nat):(!(occurrences s ⟨#[c]⟩ 0 s.length 1).isEmpty)=decide (c∈s.cps.toList):=by
 rw[a1o];generalize s.cps.toList=xs;have:∀(xs:List Nat) (i:Nat),(!(Ff c xs i 1).isEmpty)=decide (c∈xs):=by
  intro xs
  induction xs with
  |nil=>intro i;simp[Ff]
  |cons x xs ih=>
   intro i;by_cases hc:x=c
   ·rw[a1h hc];simp[hc]
   ·rw[a1g hc,ih];simp[show¬c=x from fun z=>hc z.symm]
 exact this xs 0
end TX
namespace TX
open PySem Builtin.Str NumText PyProof.Rows PySem.W
def intC(i:Int):List Nat:=(Str.ofString (toString i)).cps.toList
theorem b2f(i:Int):mk (intC i)=Str.ofString (toString i):=by
 unfold mk intC;simp
def En(m:Nat):List Nat:=(Nat.toDigits 10 m).map Char.toNat
theorem fQ(m:Nat):intC (m:Int)=En m:=KIN.signs_num m
theorem fP(m:Nat):intC (Int.negSucc m)=45::En (m+1):=by
 unfold intC En;rw[signs_ofString];show("-"++Nat.repr (m+1)).toList.map Char.toNat=_;rw[String.toList_append,BY,Nat.toList_repr];rfl
theorem cG(m:Nat):AllDigits (En m):=by
 intro c hc;obtain⟨ch,hch,e⟩:=CF.mp hc;have r:=digit_range (Nat.isDigit_of_mem_toDigits (by decide) (by decide) hch);rw[←e];exact r
theorem jE(m:Nat):En m≠[]:=by
 intro e;have h:=toDigits_len_ge 10 m;rw[List.map_eq_nil_iff.mp e]at h;exact absurd h (by decide)
theorem wV{m:Nat}(h:m<10 ^ 61):(En m).length≤61:=by
 unfold En;rw[AK];exact GJ (by decide) (by decide) h
theorem kN(m:Nat):digitsVal (En m)=m:=KIN.val_back m
theorem qJ(i:Int):∀c∈intC i,c=45∨(48≤c∧c≤57):=by
 intro c hc;cases i with
 |ofNat m=>
  have hc:c∈En m:=by rw[←fQ];exact hc
  exact .inr (cG m c hc)
 |negSucc m=>
  rw[fP]at hc;obtain rfl|hc:=AN.mp hc
  ·exact .inl rfl
  ·exact .inr (cG _ c hc)
theorem dM{i:Int}(h:i.natAbs<10 ^ 61):(intC i).length≤62:=by
 cases i with
 |ofNat m=>
  have:=wV (m:=m) h;rw[show intC (Int.ofNat m)=En m from fQ m];omega
 |negSucc m=>
  have:=wV (m:=m+1) h;rw[fP,AQ];omega
theorem b2u(i:Int):intC i≠[]∧intC i≠[45]:=by
 cases i with
 |ofNat m=>
  rw[show intC (Int.ofNat m)=En m from fQ m];refine⟨jE m,fun e=>?_⟩;have:=cG m 45 (by rw[e];simp);omega
 |negSucc m=>
  rw[fP];refine⟨by simp,fun e=>?_⟩;simp only[GC,true_and]at e;exact jE _ e
theorem b9j{i:Int}(h:i.natAbs<10 ^ 61):PySem.intText? (mk (intC i))=some i:=by
 have hl:=dM h;have hlen:(mk (intC i)).length≤4300:=by
  have:(mk (intC i)).length=(intC i).length:=by simp[mk,Str.length]
  omega
 have e1:(mk (intC i)).cps.toList=intC i:=by simp[mk]
 cases i with
 |ofNat m=>
  have e2:intC (Int.ofNat m)=En m:=fQ m;have:=intText_digits (x:=mk (intC (Int.ofNat m))) (by rw[e1,e2];exact cG m) (by rw[e1,e2];exact jE m) hlen;rw[e1,e2,kN]at this;rw[e2];exact this
 |negSucc m=>
  have e2:=fP m;have:=intText_neg (x:=mk (intC (Int.negSucc m))) (cs:=En (m+1)) (by rw[e1,e2]) (cG _) (jE _) hlen;rw[kN]at this;rw[this];rfl
end TX
namespace K03
open PySem L2 DL
def Ho(i:Nat):Stmt:=PySem.Challenge.pw_manyhands_k03_lines_refused.main.body.getD i (.Pass ⟨0,0,0,0⟩)
structure Adr where
 mk::
 A0:Addr
 A2:Addr
 A3:Addr
 A4:Addr
 A5:Addr
 A6:Addr
 A7:Addr
 A8:Addr
 A9:Addr
 HandsError:Addr
 NoDeed:Addr
def Adr.nd(t:Adr):Prop:=[t.A0,t.A2,t.A3,t.A4,t.A5,t.A6,t.A7,t.A8,t.A9].Nodup
abbrev Jv:Stmt:=Ho 8
theorem wA:Bi ["thing"] ["thing"] (Ag Jv):=⟨rfl,rfl,rfl,by decide+kernel,rfl,by decide+kernel,by decide+kernel⟩
abbrev Jx:Stmt:=Ho 9
theorem wC:Bi ["thing","limit"] ["thing","limit"] (Ag Jx):=⟨rfl,rfl,rfl,by decide+kernel,rfl,by decide+kernel,by decide+kernel⟩
abbrev Gs:Stmt:=Ho 10
theorem oX:Bi ["thing"] ["thing"] (Ag Gs):=⟨rfl,rfl,rfl,by decide+kernel,rfl,by decide+kernel,by decide+kernel⟩
abbrev Ku:Stmt:=Ho 11
theorem yR:Bi ["thing"] ["thing"] (Ag Ku):=⟨rfl,rfl,rfl,by decide+kernel,rfl,by decide+kernel,by decide+kernel⟩
abbrev Gf:Stmt:=Ho 12
theorem nU:Bi ["thing"] ["thing"] (Ag Gf):=⟨rfl,rfl,rfl,by decide+kernel,rfl,by decide+kernel,by decide+kernel⟩
abbrev Kv:Stmt:=Ho 13
theorem yS:Bi ["thing"] ["thing"] (Ag Kv):=⟨rfl,rfl,rfl,by decide+kernel,rfl,by decide+kernel,by decide+kernel⟩
abbrev Hq:Stmt:=Ho 14
theorem rG:Bi ["thing"] ["thing"] (Ag Hq):=⟨rfl,rfl,rfl,by decide+kernel,rfl,by decide+kernel,by decide+kernel⟩
abbrev Il:Stmt:=Ho 15
theorem tS:Bi ["thing"] ["thing"] (Ag Il):=⟨rfl,rfl,rfl,by decide+kernel,rfl,by decide+kernel,by decide+kernel⟩
abbrev Kt:Stmt:=Ho 16
theorem yQ:Bi ["sign"] ["sign"] (Ag Kt):=⟨rfl,rfl,rfl,by decide+kernel,rfl,by decide+kernel,by decide+kernel⟩
abbrev Hw:Stmt:=Ho 17
theorem yP:Bi ["thing"] ["thing"] (Ag Hw):=⟨rfl,rfl,rfl,by decide+kernel,rfl,by decide+kernel,by decide+kernel⟩
abbrev Jw:Stmt:=Ho 18
theorem wB:Bi ["thing"] ["thing"] (Ag Jw):=⟨rfl,rfl,rfl,by decide+kernel,rfl,by decide+kernel,by decide+kernel⟩
abbrev Gb:Stmt:=Ho 20
theorem tU:Bi ["parts","checks"] ["parts","checks"] (Ag Gb):=⟨rfl,rfl,rfl,by decide+kernel,rfl,by decide+kernel,by decide+kernel⟩
abbrev Kw:Stmt:=Ho 21
theorem yT:Bi ["thing"] ["thing"] (Ag Kw):=⟨rfl,rfl,rfl,by decide+kernel,rfl,by decide+kernel,by decide+kernel⟩
abbrev Gg:Stmt:=Ho 22
theorem nV:Bi ["thing"] ["thing"] (Ag Gg):=⟨rfl,rfl,rfl,by decide+kernel,rfl,by decide+kernel,by decide+kernel⟩
abbrev Hu:Stmt:=Ho 24
theorem yN:Bi ["part"] ["part"] (Ag Hu):=⟨rfl,rfl,rfl,by decide+kernel,rfl,by decide+kernel,by decide+kernel⟩
abbrev Ks:Stmt:=Ho 25
theorem a5r:Bi ["operation"] ["operation"] (Ag Ks):=⟨rfl,rfl,rfl,by decide+kernel,rfl,by decide+kernel,by decide+kernel⟩
abbrev Ik:Stmt:=Ho 26
theorem kK:Bi ["word","number"] ["word"] (Ag Ik):=⟨rfl,rfl,rfl,by decide+kernel,rfl,by decide+kernel,by decide+kernel⟩
abbrev Hv:Stmt:=Ho 27
theorem yO:Bi ["word"] ["word"] (Ag Hv):=⟨rfl,rfl,rfl,by decide+kernel,rfl,by decide+kernel,by decide+kernel⟩
abbrev Hx:Stmt:=Ho 28
theorem oY:Bi ["words","end"] ["words"] (Ag Hx):=⟨rfl,rfl,rfl,by decide+kernel,rfl,by decide+kernel,by decide+kernel⟩
abbrev Mn:Stmt:=Ho 29
theorem tR:Bi ["line","words","operation"] ["line"] (Ag Mn):=⟨rfl,rfl,rfl,by decide+kernel,rfl,by decide+kernel,by decide+kernel⟩
abbrev Mz:Stmt:=Ho 31
theorem a5t:Bi ["_law_script","_law_k"] ["_law_script","_law_k"] (Ag Mz):=⟨rfl,rfl,rfl,by decide+kernel,rfl,by decide+kernel,by decide+kernel⟩
abbrev Om:Stmt:=Ho 32
theorem tV:Bi ["_law_script","_law_k","_law_number_here"] ["_law_script","_law_k"] (Ag Om):=⟨rfl,rfl,rfl,by decide+kernel,rfl,by decide+kernel,by decide+kernel⟩
abbrev Jj:Stmt:=Ho 35
theorem a2x:Bi ["_law_ops"] ["_law_ops"] (Ag Jj):=⟨rfl,rfl,rfl,by decide+kernel,rfl,by decide+kernel,by decide+kernel⟩
abbrev Mf:Stmt:=Ho 36
theorem iX:Bi ["_law_ops","_law_found","_law_one","_law_k"] ["_law_ops"] (Ag Mf):=⟨rfl,rfl,rfl,by decide+kernel,rfl,by decide+kernel,by decide+kernel⟩
abbrev Kx:Stmt:=Ho 37
theorem wD:Bi ["_law_number_here","_law_most","_law_letters"] ["_law_number_here","_law_most"] (Ag Kx):=⟨rfl,rfl,rfl,by decide+kernel,rfl,by decide+kernel,by decide+kernel⟩
abbrev My:Stmt:=Ho 38
theorem a5s:Bi ["_law_rows","_law_number_here"] ["_law_rows","_law_number_here"] (Ag My):=⟨rfl,rfl,rfl,by decide+kernel,rfl,by decide+kernel,by decide+kernel⟩
abbrev Kz:Stmt:=Ho 39
theorem cY:Bi ["_law_script","_law_base","_law_ops","_law_most","_law_number_here","_law_items_here","_law_item","_law_other","_law_kinds","_law_kind","_law_sign","_law_names"] ["_law_script","_law_base","_law_ops","_law_most"] (Ag Kz):=⟨rfl,rfl,rfl,by decide+kernel,rfl,by decide+kernel,by decide+kernel⟩
abbrev Me:Stmt:=Ho 40
theorem dI:Bi ["_law_script","_law_base","_law_many","_law_ops","_law_counts","_law_times","_law_k","_law_number_here","_law_at","_law_deed_here"] ["_law_script","_law_base","_law_many"] (Ag Me):=⟨rfl,rfl,rfl,by decide+kernel,rfl,by decide+kernel,by decide+kernel⟩
abbrev Hy:Stmt:=Ho 41
theorem oZ:Bi ["_law_word","_law_figures"] ["_law_word"] (Ag Hy):=⟨rfl,rfl,rfl,by decide+kernel,rfl,by decide+kernel,by decide+kernel⟩
abbrev Ky:Stmt:=Ho 42
theorem wE:Bi ["_law_word","_law_parts"] ["_law_word"] (Ag Ky):=⟨rfl,rfl,rfl,by decide+kernel,rfl,by decide+kernel,by decide+kernel⟩
abbrev Ji:Stmt:=Ho 43
theorem dN:Bi ["_law_line","_law_words","_law_rest","_law_parts","_law_k","_law_numbers"] ["_law_line"] (Ag Ji):=⟨rfl,rfl,rfl,by decide+kernel,rfl,by decide+kernel,by decide+kernel⟩
abbrev Oc:Stmt:=Ho 44
theorem cQ:Bi ["_law_script","_law_ops","_law_deed_here","_law_line","_law_words","_law_at","_law_some","_law_way","_law_changed","_law_refused","_law_found","e","_law_meant_here","_law_good"] ["_law_script"] (Ag Oc):=⟨rfl,rfl,rfl,by decide+kernel,rfl,by decide+kernel,by decide+kernel⟩
def Hz:Ac→Option Fl:=
 (Ar (Aq (Bj "int" (Aa 0)) (Aq (Aw (Bj "bool" (Aa 0))) (f2 De (f1 Bt (Ab (Aa 0) Ad)) (f2 Bu (fC (.int 10)) (fC (.int 60)))))))
def Du:List D→Option D:=Az ["thing"] 1 (Hz)
def Lf:Ac→Option Fl:=
 (Ar (Aq (f1 Du (Ab (Aa 0) Ad)) (Ai Co De (fC (.int 0)) (Aa 0) (Aa 1))))
def Em:List D→Option D:=Az ["thing","limit"] 2 (Lf)
def Hr:Ac→Option Fl:=
 (Ar (Aq (f1 Du (Ab (Aa 0) Ad)) (f2 Di (Aa 0) (fC (.int 1)))))
def Dl:List D→Option D:=Az ["thing"] 1 (Hr)
def Dq:Ac→Option Fl:=
 (Am (Cb (Cn (Be (fT (Bj "tuple" (Aa 0)))) (fT (f2 Dd (f1 Bb (Ab (Aa 0) Ad)) (fC (.int 2))))) (Ar (fC (.bl false))) Ba)
 (Ar (Aq (f1 Em (Ab (f2 Bl (Aa 0) (fC (.int 0))) (Ab (fC (.int 16)) Ad))) (f1 Dl (Ab (f2 Bl (Aa 0) (fC (.int 1))) Ad)))))
def Cj:List D→Option D:=Az ["thing"] 1 (Dq)
def Ce:Ac→Option Fl:=
 (Am (Cb (Cn (Be (fT (Bj "tuple" (Aa 0)))) (fT (f2 Dd (f1 Bb (Ab (Aa 0) Ad)) (fC (.int 3))))) (Ar (fC (.bl false))) Ba)
 (Ar (Aq (f1 Cj (Ab (Ck (Aa 0) Ah (Af (fC (.int 2)))) Ad)) (f1 Em (Ab (f2 Bl (Aa 0) (fC (.int 2))) (Ab (fC (.int 16)) Ad))))))
def Bp:List D→Option D:=Az ["thing"] 1 (Ce)
def Mi:Ac→Option Fl:=
 (Ar (Bo (f1 Cj (Ab (Aa 0) Ad)) (Bo (f2 Bc (Aa 0) (fC (.str "root"))) (f2 Bc (Aa 0) (fC (.str "bin"))))))
def Fu:List D→Option D:=Az ["thing"] 1 (Mi)
def Ip:Ac→Option Fl:=
 (Ar (Bo (f2 Al (Aa 0) (fC .non)) (f1 Cj (Ab (Aa 0) Ad))))
def Ef:List D→Option D:=Az ["thing"] 1 (Ip)
def Jz:Ac→Option Fl:=
 (Ar (Bo (f2 Al (Aa 0) (fC .non)) (f1 Bp (Ab (Aa 0) Ad))))
def Ep:List D→Option D:=Az ["thing"] 1 (Jz)
def Mg:Ac→Option Fl:=
 (Ar (Aq (Ai Co Co (fC (.str " ")) (Aa 0) (fC (.str "~"))) (f2 Dd (f1 Rg (Ab (Aa 0) Ad)) (fC (.int 37)))))
def El:List D→Option D:=Az ["sign"] 1 (Mg)
def Fs:Ac→Option Fl:=
 (Am (Cb (Cn (Be (fT (Bj "str" (Aa 0)))) (Be (fT (Ai Co Co (fC (.int 1)) (f1 Bb (Ab (Aa 0) Ad)) (fC (.int 16)))))) (Ar (fC (.bl false))) Ba)
 (Ar (f1 Jq (Ab (Db 1 [] (Og (Aa 0)) (Ca 0) (fun _=>some true) (f1 El (Ab (Aa 0) Ad))) Ad))))
def Ea:List D→Option D:=Az ["thing"] 1 (Fs)
def Ld:Ac→Option Fl:=
 (Ar (f1 Em (Ab (Aa 0) (Ab (fC (.int 4)) Ad))))
def Fb:List D→Option D:=Az ["thing"] 1 (Ld)
def Dy(t:Adr):List (Str×D):=[("put",.tup [.fn t.A0,.fn t.A2]),("move",.tup [.fn t.A0,.fn t.A0,.fn t.A2]),("drop",.tup [.fn t.A0]),("write",.tup [.fn t.A0,.fn t.A3,.fn t.A4]),("cut",.tup [.fn t.A0,.fn t.A5,.fn t.A6]),("set",.tup [.fn t.A0,.fn t.A7,.fn t.A8]),("undo",.tup [.fn t.A9]),("redo",.tup [.fn t.A9])]
def Gp(t:Adr):Addr→Option (List D→Option D):=fun a=>if a=t.A0 then some Fu else if a=t.A2 then some Ef else if a=t.A3 then some Ep else if a=t.A4 then some Ea else if a=t.A5 then some Bp else if a=t.A6 then some Dl else if a=t.A7 then some Fb else if a=t.A8 then some Du else if a=t.A9 then some Cj else none
def Gv(t:Adr):Ac→Option Fl:=
 (Am (Cb (fT (f2 Dd (f1 Bb (Ab (Aa 0) Ad)) (f1 Bb (Ab (Aa 1) Ad)))) (Ar (fC (.bl false))) Ba)
 (Ar (f1 Jq (Ab (Db 2 [] (Sv (Aa 1) (Aa 0)) (Lp 0 1) (fun _=>some true) (Jo (Gp t) 0 (Ab (Aa 1) Ad))) Ad))))
def Da(t:Adr):List D→Option D:=Az ["parts","checks"] 2 (Gv t)
def Cm(t:Adr):Ac→Option Fl:=
 (Am (Cb (Cn (Be (fT (Bj "tuple" (Aa 0)))) (fT (f2 Bc (f1 Bb (Ab (Aa 0) Ad)) (fC (.int 0))))) (Ar (fC (.bl false))) Ba)
 (Am (Cb (Cn (Be (fT (Bj "str" (f2 Bl (Aa 0) (fC (.int 0)))))) (fT (Pd (Dy t) true (f2 Bl (Aa 0) (fC (.int 0)))))) (Ar (fC (.bl false))) Ba)
 (Am (Cb (Be (fT (f1 (Da t) (Ab (Ck (Aa 0) (Af (fC (.int 1))) Ah) (Ab (Nj (Dy t) (f2 Bl (Aa 0) (fC (.int 0)))) Ad))))) (Ar (fC (.bl false))) Ba)
 (Ar (Bo (f2 Dd (f2 Bl (Aa 0) (fC (.int 0))) (fC (.str "cut"))) (f2 Co (f2 An (f2 Bl (f2 Bl (Aa 0) (fC (.int 2))) (fC (.int 2))) (f2 Bl (Aa 0) (fC (.int 3)))) (fC (.int 16))))))))
def Cd(t:Adr):List D→Option D:=Az ["thing"] 1 (Cm t)
def Bz(t:Adr):Ac→Option Fl:=
 (Am (Cb (Cn (Be (fT (Bj "tuple" (Aa 0)))) (fT (f2 Dd (f1 Bb (Ab (Aa 0) Ad)) (fC (.int 4))))) (Ar (fC (.bl false))) Ba)
 (Ar (Aq (f1 Cj (Ab (Ck (Aa 0) Ah (Af (fC (.int 2)))) Ad)) (Aq (f1 Dl (Ab (f2 Bl (Aa 0) (fC (.int 2))) Ad)) (f1 (Cd t) (Ab (f2 Bl (Aa 0) (fC (.int 3))) Ad))))))
def Ak(t:Adr):List D→Option D:=Az ["thing"] 1 (Bz t)
def Dz:Ac→Option Fl:=
 (Am (Cb (fT (f2 Al (Aa 0) (fC .non))) (Ar (fC (.str "-"))) Ba)
 (Am (Cb (fT (Bj "tuple" (Aa 0))) (Ar (Fw (fC (.str ".")) (Db 1 [] (Lr (Aa 0)) (Ca 0) (fun _=>some true) (f1 Kr (Ab (Aa 0) Ad))))) Ba)
 (Ar (f1 Kr (Ab (Aa 0) Ad)))))
def Dc:List D→Option D:=Az ["part"] 1 (Dz)
def Kk:Ac→Option Fl:=
 (Ar (Fw (fC (.str " ")) (Db 1 [] (Lr (f2 An (Ck (Aa 0) Ah (Af (fC (.int 3)))) (f2 Bl (Aa 0) (fC (.int 3))))) (Ca 0) (fun _=>some true) (f1 Dc (Ab (Aa 0) Ad)))))
def Df:List D→Option D:=Az ["operation"] 1 (Kk)
def Io(t:Adr)(E:EK):WS:=
 (Ch (Rx 1 (wl (Aa 0)) (Po 0 11) t.NoDeed E)
 (Ht (wl (Aa 1))))
def Ee(t:Adr):Pl:=fun ds M R E=>Nb ["word","number"] 1 (Io t E) ds M R
def Lb(t:Adr)(E:EK):WS:=
 (Ch (Gm (Ml (fT (f2 Bc (Aa 0) (fC (.str "-"))))) (Ht (wl (fC .non))) Gr)
 (Ch (Gm (Ml (Cn (fT (f2 Bc (Aa 0) (fC (.str "root")))) (fT (f2 Bc (Aa 0) (fC (.str "bin")))))) (Ht (wl (Aa 0))) Gr)
 (Ch (Gm (Ml (fT (f2 Pc (fC (.str ".")) (Aa 0)))) (Ht (w1 (fun _=>Fm) (Dh (Mv 1 [] (Ti (Gc (Ew (Aa 0) (fC (.str "."))))) (Ca 0) (fun ρ M R=>R true M) (Fk 1 (Ee t) E (Dh (wl (Aa 0)) Dx))) Dx))) Gr)
 (Ht (Fk 1 (Ee t) E (Dh (wl (Aa 0)) Dx))))))
def Ic(t:Adr):Pl:=fun ds M R E=>Nb ["word"] 1 (Lb t E) ds M R
def Lc(t:Adr)(E:EK):WS:=
 (Ch (Dn 1 (wl (Cu (fT (f2 Bc (Ck (Aa 0) Ah (Af (fC (.int 1)))) (fC (.lst [(.str "write")])))) (fC (.int 3)) (f1 Bb (Ab (Aa 0) Ad)))))
 (Ht (w1 (fun _=>Fm) (Dh (w2 Fx (w2 Fx (wl (Ck (Aa 0) Ah (Af (fC (.int 1))))) (Mv 1 [] (Ti (Gc (Ck (Aa 0) (Af (fC (.int 1))) (Af (Aa 1))))) (Ca 0) (fun ρ M R=>R true M) (Fk 1 (Ic t) E (Dh (wl (Aa 0)) Dx)))) (wl (Ck (Aa 0) (Af (Aa 1)) Ah))) Dx))))
def Ie(t:Adr):Pl:=fun ds M R E=>Nb ["words","end"] 1 (Lc t E) ds M R
def Oo(t:Adr)(E:EK):WS:=
 (Ch (Dn 1 (wl (Ov (Aa 0) (fC (.str " ")) (fC (.int 6)))))
 (Ch (Dn 2 (w1 (fun _=>Fm) (Dh (w2 Fx (Mv 1 [] (Ti (Gc (Ck (Aa 1) Ah (Af (fC (.int 3)))))) (Ca 0) (fun ρ M R=>R true M) (Fk 1 (Ee t) E (Dh (wl (Aa 0)) Dx))) (Sl (Dh (Fk 1 (Ie t) E (Dh (wl (Ck (Aa 1) (Af (fC (.int 3))) Ah)) Dx)) Dx))) Dx)))
 (Ch (Gm (Ml (Cn (Be (fT (f1 (Ak t) (Ab (Aa 2) Ad)))) (fT (f2 Jm (f1 Df (Ab (Aa 2) Ad)) (Aa 0))))) (Pn t.NoDeed E (Po 0 14)) Gr)
 (Ht (wl (Aa 2))))))
def Hj(t:Adr):Pl:=fun ds M R E=>Nb ["line","words","operation"] 1 (Oo t E) ds M R
def Mq:Ac→Option Fl:=
 (Am (Cb (fun ρ=>((Aa 0) ρ).bind Qs) (Ar (f2 Bl (Aa 0) (f2 Av (Aa 1) (f1 Bb (Ab (Aa 0) Ad))))) Ba)
 (Ar (fC (.int 0))))
def Jb:List D→Option D:=Az ["_law_script","_law_k"] 2 (Mq)
def Pv:Ac→Option Fl:=
 (Am (Ax 2 (f2 Av (f2 An (f1 Jb (Ab (Aa 0) (Ab (Aa 1) Ad))) (f2 Bm (fC (.int 104729)) (f2 An (Aa 1) (fC (.int 1))))) (fC (.int 4294967291))))
 (Am (Ax 2 (f2 Av (f2 Bm (Aa 2) (fC (.int 48271))) (fC (.int 4294967279))))
 (Ar (f2 Av (f2 An (f2 Bm (f2 As (Aa 2) (fC (.int 64))) (fC (.int 69621))) (Aa 2)) (fC (.int 4294967231))))))
def Bx:List D→Option D:=Az ["_law_script","_law_k","_law_number_here"] 2 (Pv)
def Nf:Ac→Option Fl:=
 (Ar (f2 An (f2 An (fC (.lst [(.str "root")])) (Db 1 [] (Gc (Aa 0)) (Ca 0) (fT (f2 Bc (f2 Bl (f2 Bl (Aa 0) (fC (.int 3))) (fC (.int 0))) (fC (.str "put")))) (Ay (Ab (f2 Bl (Aa 0) (fC (.int 0))) (Ab (f2 Bl (Aa 0) (fC (.int 1))) Ad))))) (fC (.lst [(.str "bin"),(.tup [(.int 9),(.int 9)])]))))
def Hd:List D→Option D:=Az ["_law_ops"] 1 (Nf)
def Nd:Ac→Option Fl:=
 (Am (La 1 (Ab (fC .non) (Ab (fC (.tup [(.int 9),(.int 9),(.int 3)])) Ad)))
 (Am (Im (Gc (Aa 0)) (Hm 2) (Cb (fT (f2 Bc (f2 Bl (f2 Bl (Aa 2) (fC (.int 3))) (fC (.int 0))) (fC (.str "write")))) (Im (Ha (f1 Bb (Ab (f2 Bl (f2 Bl (Aa 2) (fC (.int 3))) (fC (.int 3))) Ad))) (Hm 3) (Gn 1 (Ay (Ab (f2 Bl (Aa 2) (fC (.int 0))) (Ab (f2 Bl (Aa 2) (fC (.int 1))) (Ab (Aa 3) Ad)))))) Ba))
 (Ar (Aa 1))))
def Hc:List D→Option D:=Az ["_law_ops","_law_found","_law_one","_law_k"] 1 (Nd)
def Op:Ac→Option Fl:=
 (Am (Ax 2 (fC (.str " abcXYZ.,;!019~[]\\\"'|{}<>@#$&*()-+/=_^:?`")))
 (Ar (Fw (fC (.str "")) (Db 1 [0,2] (Ha (f2 An (fC (.int 1)) (f2 Av (Aa 0) (Aa 1)))) (Ca 0) (fun _=>some true) (f2 Bl (Aa 2) (f2 Av (f2 As (Aa 1) (f2 An (fC (.int 1)) (f2 Bm (fC (.int 3)) (Aa 0)))) (fC (.int 41))))))))
def Iz:List D→Option D:=Az ["_law_number_here","_law_most","_law_letters"] 2 (Op)
def Oq:Ac→Option Fl:=
 (Ar (f2 Bl (Aa 0) (f2 Av (Aa 1) (f1 Bb (Ab (Aa 0) Ad)))))
def Do:List D→Option D:=Az ["_law_rows","_law_number_here"] 2 (Oq)
def Km:Ac→Option Fl:=
 (Am (Ax 4 (f1 Bx (Ab (Aa 0) (Ab (Aa 1) Ad))))
 (Am (Ax 5 (f1 Hd (Ab (Aa 2) Ad)))
 (Am (Ax 6 (f1 Do (Ab (f2 An (Ck (Aa 5) (Af (fC (.int 1))) Ah) (Ck (Aa 5) Ah (Af (fC (.int 1))))) (Ab (f1 Bx (Ab (Aa 0) (Ab (f2 An (Aa 1) (fC (.int 1))) Ad))) Ad))))
 (Am (Ax 7 (f1 Do (Ab (f2 An (Aa 5) (fC (.lst [.non,.non]))) (Ab (f1 Bx (Ab (Aa 0) (Ab (f2 An (Aa 1) (fC (.int 2))) Ad))) Ad))))
 (Am (Cb (fT (Bj "str" (Aa 7))) (Ax 7 (fC .non)) Ba)
 (Am (Ax 8 (fC (.lst [(.str "put"),(.str "put"),(.str "put"),(.str "move"),(.str "move"),(.str "write"),(.str "write"),(.str "cut"),(.str "set"),(.str "undo"),(.str "redo"),(.str "drop")])))
 (Am (Ax 9 (f2 Bl (Aa 8) (f2 Av (Aa 4) (fC (.int 12)))))
 (Am (Cb (fT (f2 Bc (Aa 9) (fC (.str "put")))) (Ar (Ay (Ab (Aa 9) (Ab (f1 Do (Ab (Aa 5) (Ab (f1 Bx (Ab (Aa 0) (Ab (f2 An (Aa 1) (fC (.int 1))) Ad))) Ad))) (Ab (Aa 7) Ad))))) Ba)
 (Am (Cb (fT (f2 Bc (Aa 9) (fC (.str "move")))) (Ar (Ay (Ab (Aa 9) (Ab (Aa 6) (Ab (f1 Do (Ab (Aa 5) (Ab (f1 Bx (Ab (Aa 0) (Ab (f2 An (Aa 1) (fC (.int 3))) Ad))) Ad))) (Ab (Aa 7) Ad)))))) Ba)
 (Am (Cb (fT (f2 Bc (Aa 9) (fC (.str "drop")))) (Ar (Ay (Ab (Aa 9) (Ab (Aa 6) Ad)))) Ba)
 (Am (Ax 10 (f1 Do (Ab (f1 Hc (Ab (Aa 2) Ad)) (Ab (f1 Bx (Ab (Aa 0) (Ab (f2 An (Aa 1) (fC (.int 4))) Ad))) Ad))))
 (Am (Cb (fT (f2 Bc (Aa 9) (fC (.str "write")))) (Ar (Ay (Ab (Aa 9) (Ab (Aa 6) (Ab (Aa 10) (Ab (f1 Iz (Ab (f1 Bx (Ab (Aa 0) (Ab (f2 An (Aa 1) (fC (.int 5))) Ad))) (Ab (Aa 3) Ad))) Ad)))))) Ba)
 (Am (Cb (Bh (fT (f2 Bc (Aa 9) (fC (.str "cut")))) (fT (f2 Ae (Aa 10) (fC .non)))) (Ar (Ay (Ab (Aa 9) (Ab (Aa 6) (Ab (Aa 10) (Ab (f2 An (fC (.int 1)) (f2 Av (f2 As (Aa 4) (fC (.int 12))) (f2 Br (fC (.int 16)) (f2 Bl (Aa 10) (fC (.int 2)))))) Ad)))))) Ba)
 (Am (Cb (fT (f2 (Iy false) (Aa 9) (fC (.tup [(.str "cut"),(.str "set")])))) (Ar (Ay (Ab (fC (.str "set")) (Ab (Aa 6) (Ab (f2 Av (f2 As (Aa 4) (fC (.int 12))) (fC (.int 4))) (Ab (f2 Br (f2 Av (f2 As (Aa 4) (fC (.int 48))) (fC (.int 2000))) (fC (.int 1000))) Ad)))))) Ba)
 (Am (Ax 11 (f2 An (Db 1 [] (Gc (Aa 2)) (Ca 0) (fun _=>some true) (Ay (Ab (f2 Bl (Aa 0) (fC (.int 0))) (Ab (f2 Bl (Aa 0) (fC (.int 1))) Ad)))) (Bd (Ab (Ay (Ab (fC (.int 0)) (Ab (f2 An (fC (.int 1)) (f2 Av (Aa 4) (fC (.int 5)))) Ad))) Ad))))
 (Ar (Ay (Ab (Aa 9) (Ab (f1 Do (Ab (Aa 11) (Ab (f1 Bx (Ab (Aa 0) (Ab (f2 An (Aa 1) (fC (.int 1))) Ad))) Ad))) Ad)))))))))))))))))))
def Fh:List D→Option D:=Az ["_law_script","_law_base","_law_ops","_law_most","_law_number_here","_law_items_here","_law_item","_law_other","_law_kinds","_law_kind","_law_sign","_law_names"] 4 (Km)
def Lg:Ac→Option Fl:=
 (Am (La 3 Ad)
 (Am (La 4 (Ab (fC (.int 0)) (Ab (fC (.int 0)) (Ab (fC (.int 0)) Ad))))
 (Am (La 5 (Ab (fC (.int 0)) (Ab (fC (.int 0)) (Ab (fC (.int 0)) Ad))))
 (Am (Im (Ha (Aa 2)) (Hm 6) (Am (Ax 7 (f1 Bx (Ab (Aa 0) (Ab (f2 An (Aa 1) (f2 Bm (fC (.int 7)) (Aa 6))) Ad))))
 (Am (Ax 8 (f2 Av (Aa 7) (fC (.int 3))))
 (Am (Na 4 (Aa 8) (f2 An (Ke 4 (Aa 8)) (fC (.int 1))))
 (Am (Na 5 (Aa 8) (f2 An (f2 An (Ke 5 (Aa 8)) (fC (.int 1))) (f2 Av (f2 As (Aa 7) (fC (.int 3))) (fC (.int 3)))))
 (Am (Ax 9 (Mk (f1 Fh (Ab (Aa 0) (Ab (f2 An (f2 An (Aa 1) (f2 Bm (fC (.int 7)) (Aa 6))) (fC (.int 1))) (Ab (Aa 3) (Ab (fC (.int 5)) Ad)))))))
 (Gn 3 (Ay (Ab (f2 Bl (fC (.lst [(.int 0),(.int 5),(.int 15)])) (Aa 8)) (Ab (Ke 4 (Aa 8)) (Ab (Ke 5 (Aa 8)) (Ab (Aa 9) Ad))))))))))))
 (Ar (Aa 3))))))
def Hb:List D→Option D:=Az ["_law_script","_law_base","_law_many","_law_ops","_law_counts","_law_times","_law_k","_law_number_here","_law_at","_law_deed_here"] 3 (Lg)
def Hi:Ac→Option Fl:=
 (Am (Ax 1 (Cu (fT (f2 Bc (Nk (Aa 0) Ah (Af (fC (.int 1)))) (fC (.str "-")))) (Nk (Aa 0) (Af (fC (.int 1))) Ah) (Aa 0)))
 (Am (Cb (Cn (fT (f2 Bc (Aa 1) (fC (.str "")))) (Cn (fT (f2 Dg (f1 Bb (Ab (Aa 1) Ad)) (fC (.int 60)))) (Be (fT (f1 Jq (Ab (Db 1 [] (Og (Aa 1)) (Ca 0) (fun _=>some true) (Ai Co Co (fC (.str "0")) (Aa 0) (fC (.str "9")))) Ad)))))) (Ar (fC .non)) Ba)
 (Ar (Cu (Cn (fT (f2 Jm (f2 Bl (Aa 1) (fC (.int 0))) (fC (.str "0")))) (fT (f2 Bc (Aa 0) (fC (.str "0"))))) (f1 Ou (Ab (Aa 0) Ad)) (fC .non)))))
def Cq:List D→Option D:=Az ["_law_word","_law_figures"] 1 (Hi)
def Kl:Ac→Option Fl:=
 (Am (Cb (fT (f2 (Iy false) (Aa 0) (fC (.tup [(.str "-"),(.str "root"),(.str "bin")])))) (Ar (Cu (fT (f2 Bc (Aa 0) (fC (.str "-")))) (fC .non) (Aa 0))) Ba)
 (Am (Ax 1 (Db 1 [] (Gc (Ew (Aa 0) (fC (.str ".")))) (Ca 0) (fun _=>some true) (f1 Cq (Ab (Aa 0) Ad))))
 (Ar (Cu (fT (f2 Pc (fC .non) (Aa 1))) (Ay Ad) (f1 Fm (Ab (Aa 1) Ad))))))
def Ja:List D→Option D:=Az ["_law_word","_law_parts"] 1 (Kl)
def Iq:Ac→Option Fl:=
 (Am (Ax 1 (Ew (Aa 0) (fC (.str " "))))
 (Am (Cb (fT (f2 De (f1 Bb (Ab (Aa 1) Ad)) (fC (.int 5)))) (Ar (fC .non)) Ba)
 (Am (Ax 2 (Ck (Aa 1) (Af (fC (.int 4))) Ah))
 (Am (Cb (fT (f2 Bc (f2 Bl (Aa 1) (fC (.int 3))) (fC (.str "write")))) (Ax 2 (f2 An (Ck (Aa 1) (Af (fC (.int 4))) (Af (fC (.int 6)))) (Bd (Ab (Fw (fC (.str " ")) (Ck (Aa 1) (Af (fC (.int 6))) Ah)) Ad)))) Ba)
 (Am (La 3 Ad)
 (Am (Im (Ha (f1 Bb (Ab (Aa 2) Ad))) (Hm 4) (Cb (Bh (fT (f2 Bc (f2 Bl (Aa 1) (fC (.int 3))) (fC (.str "write")))) (fT (f2 Bc (Aa 4) (fC (.int 2))))) (Gn 3 (f2 Bl (Aa 2) (Aa 4))) (Cb (Cn (Bh (fT (f2 (Iy false) (f2 Bl (Aa 1) (fC (.int 3))) (fC (.tup [(.str "cut"),(.str "set")])))) (fT (f2 Bc (Aa 4) (fC (.int 2))))) (Bh (fT (f2 Bc (f2 Bl (Aa 1) (fC (.int 3))) (fC (.str "set")))) (fT (f2 Bc (Aa 4) (fC (.int 1)))))) (Gn 3 (f1 Cq (Ab (f2 Bl (Aa 2) (Aa 4)) Ad))) (Gn 3 (f1 Ja (Ab (f2 Bl (Aa 2) (Aa 4)) Ad))))))
 (Am (Ax 5 (Db 1 [] (Gc (Ck (Aa 1) Ah (Af (fC (.int 3))))) (Ca 0) (fun _=>some true) (f1 Cq (Ab (Aa 0) Ad))))
 (Am (Cb (Cn (fT (f2 (Rk false M0) (Ay Ad) (Aa 3))) (fT (f2 Pc (fC .non) (Aa 5)))) (Ar (fC .non)) Ba)
 (Ar (Ay (Ab (f2 Bl (Aa 5) (fC (.int 0))) (Ab (f2 Bl (Aa 5) (fC (.int 1))) (Ab (f2 Bl (Aa 5) (fC (.int 2))) (Ab (f1 Fm (Ab (f2 An (Bd (Ab (f2 Bl (Aa 1) (fC (.int 3))) Ad)) (Aa 3)) Ad)) Ad))))))))))))))
def Fv:List D→Option D:=Az ["_law_line","_law_words","_law_rest","_law_parts","_law_k","_law_numbers"] 1 (Iq)
def Pu(t:Adr):WS:=
 (Ch (Dn 1 (wl (f1 Hb (Ab (Aa 0) (Ab (fC (.int 0)) (Ab (fC (.int 4)) Ad))))))
 (Ch (Dn 2 (wl (f1 Fh (Ab (Aa 0) (Ab (fC (.int 30)) (Ab (Aa 1) (Ab (fC (.int 16)) Ad)))))))
 (Ch (Dn 3 (wl (f1 Df (Ab (Ay (Ab (f2 Av (f1 Bx (Ab (Aa 0) (Ab (fC (.int 53)) Ad))) (fC (.int 16))) (Ab (f2 An (fC (.int 1)) (f2 Av (f1 Bx (Ab (Aa 0) (Ab (fC (.int 54)) Ad))) (fC (.int 99)))) (Ab (f2 An (fC (.int 1)) (f2 Av (f1 Bx (Ab (Aa 0) (Ab (fC (.int 55)) Ad))) (fC (.int 99)))) (Ab (Aa 2) Ad))))) Ad))))
 (Ch (Dn 4 (Mm (wl (Aa 3)) (wl (fC (.str " ")))))
 (Ch (Dn 5 (w2 (fun _=>Av) (wl (f1 Bx (Ab (Aa 0) (Ab (fC (.int 40)) Ad)))) (w1 Pb (Dh (wl (Aa 4)) Dx))))
 (Ch (Dn 6 (wl (f2 Bl (fC (.lst [(.str "0"),(.str "00"),(.str "-"),(.str "-0"),(.str "01"),(.str "x"),(.str ""),(.str "1.2"),(.str "1.2.3"),(.str "16.1"),(.str "0.0"),(.str "1."),(.str "root"),(.str "bin"),(.str "Root"),(.str "7"),(.str "-7"),(.str "put"),(.str "cut"),(.str "undo"),(.str "set"),(.str "1.2.3.4"),(.str "+1"),(.str "99")])) (f2 Av (f1 Bx (Ab (Aa 0) (Ab (fC (.int 41)) Ad))) (fC (.int 24))))))
 (Ch (Dn 7 (wl (f2 Av (f1 Bx (Ab (Aa 0) (Ab (fC (.int 42)) Ad))) (fC (.int 5)))))
 (Ch (Gm (Ml (fT (f2 Bc (Aa 7) (fC (.int 1))))) (Dn 4 (Jt (w2 Fx (Gq (wl (Aa 4)) Ah (Af (Aa 5))) (wl (Bd (Ab (Aa 6) Ad)))) (Gq (wl (Aa 4)) (Af (f2 An (Aa 5) (fC (.int 1)))) Ah))) Gr)
 (Ch (Gm (Ml (fT (f2 Bc (Aa 7) (fC (.int 2))))) (Dn 4 (Jt (Gq (wl (Aa 4)) Ah (Af (Aa 5))) (Gq (wl (Aa 4)) (Af (f2 An (Aa 5) (fC (.int 1)))) Ah))) Gr)
 (Ch (Gm (Ml (fT (f2 Bc (Aa 7) (fC (.int 3))))) (Dn 4 (Jt (w2 Fx (Gq (wl (Aa 4)) Ah (Af (Aa 5))) (wl (Bd (Ab (Aa 6) Ad)))) (Gq (wl (Aa 4)) (Af (Aa 5)) Ah))) Gr)
 (Ch (Gm (Ml (fT (f2 Bc (Aa 7) (fC (.int 4))))) (Qr (wl (Aa 4)) (wl (Aa 5)) (w2 Fx (wl (fC (.str "0"))) (w2 Uq (wl (Aa 4)) (wl (Aa 5))))) Gr)
 (Ch (Dn 8 (Ob " " (wl (Aa 4))))
 (Ch (Dn 9 (wl (fC (.bl false))))
 (Ch (Dn 10 (wl (fC .non)))
 (Ch (Ol 1 10 11 9 (Tg t.NoDeed) (Hj t) (Dh (wl (Aa 8)) Dx))
 (Ch (Dn 12 (wl (f1 Fv (Ab (Aa 8) Ad))))
 (Ch (Dn 13 (wl (Aq (f2 Ae (Aa 12) (fC .non)) (Aq (f2 (Su false) (f1 (Ak t) (Ab (Aa 12) Ad)) (fC (.bl true))) (f2 Bc (f1 Df (Ab (Aa 12) Ad)) (Aa 8))))))
 (Ch (Gm (Ml (Cn (Bh (fT (f2 Bc (Aa 7) (fC (.int 0)))) (Be (fT (Aa 13)))) (fT (f2 Bc (Aa 9) (Aa 13))))) (Ht (wl (fC (.bl false)))) Gr)
 (Ht (wl (Bo (Aa 9) (f2 Bc (Aa 10) (Aa 12)))))))))))))))))))))))
def Sh(t:Adr):WF:=Nb ["_law_script","_law_ops","_law_deed_here","_law_line","_law_words","_law_at","_law_some","_law_way","_law_changed","_law_refused","_law_found","e","_law_meant_here","_law_good"] 1 (Pu t)
structure Txt(P:Program)(w:World)(K:W.Frag)(mg:Str→Option Value)(t:Adr):Prop where
 C7:Hg K mg "is_whole" Jv ["thing"]
 C8:Hg K mg "is_below" Jx ["thing","limit"]
 C9:Hg K mg "is_from_one" Gs ["thing"]
 D0:Hg K mg "is_name" Ku ["thing"]
 D1:Hg K mg "is_sign_name" Gf ["thing"]
 D2:Hg K mg "is_item" Kv ["thing"]
 D3:Hg K mg "is_sibling" Hq ["thing"]
 D4:Hg K mg "is_behind" Il ["thing"]
 D5:Hg K mg "is_sign" Kt ["sign"]
 D6:Hg K mg "is_text" Hw ["thing"]
 D7:Hg K mg "is_place" Jw ["thing"]
 D8:Hg K mg "are_parts" Gb ["parts","checks"]
 D9:Hg K mg "is_deed" Kw ["thing"]
 E1:Hg K mg "is_operation" Gg ["thing"]
 E2:Hg K mg "word_of" Hu ["part"]
 E3:Hg K mg "shown" Ks ["operation"]
 E4:Hg K mg "number_of" Ik ["word"]
 E5:Hg K mg "part_of" Hv ["word"]
 E6:Hg K mg "deed_of" Hx ["words"]
 E7:Hg K mg "read" Mn ["line"]
 E8:Hg K mg "_law_cell" Mz ["_law_script","_law_k"]
 E9:Hg K mg "_law_mix" Om ["_law_script","_law_k"]
 F4:Hg K mg "_law_items" Jj ["_law_ops"]
 F5:Hg K mg "_law_signs" Mf ["_law_ops"]
 F6:Hg K mg "_law_text" Kx ["_law_number_here","_law_most"]
 F7:Hg K mg "_law_pick" My ["_law_rows","_law_number_here"]
 F8:Hg K mg "_law_deed" Kz ["_law_script","_law_base","_law_ops","_law_most"]
 F9:Hg K mg "_law_world" Me ["_law_script","_law_base","_law_many"]
 G6:Hg K mg "_law_number" Hy ["_law_word"]
 G7:Hg K mg "_law_name" Ky ["_law_word"]
 G8:Hg K mg "_law_meant" Ji ["_law_line"]
 G9:Hg K mg "law" Oc ["_law_script"]
 H0:mg "ValueError"=none
 H9:mg "abs"=none
 J0:mg "all"=none
 J8:mg "bool"=none
 J9:mg "int"=none
 K0:mg "isinstance"=none
 K1:mg "len"=none
 K2:mg "ord"=none
 K3:mg "range"=none
 K4:mg "str"=none
 K5:mg "tuple"=none
 K6:mg "zip"=none
 K7:∃tk,mg "HANDS"=some (.int 16 tk)
 K8:∃tk,mg "SIGNS"=some (.int 16 tk)
 K9:∃tk,mg "PLACES"=some (.int 4 tk)
 L4:∃tk,mg "LEFT_OUT"=some (.int 37 tk)
 L5:mg "is_item"=some (.ref t.A0)
 L6:mg "is_sibling"=some (.ref t.A2)
 L7:mg "is_behind"=some (.ref t.A3)
 L8:mg "is_text"=some (.ref t.A4)
 L9:mg "is_sign_name"=some (.ref t.A5)
 M5:mg "is_from_one"=some (.ref t.A6)
 M6:mg "is_place"=some (.ref t.A7)
 M7:mg "is_whole"=some (.ref t.A8)
 M8:mg "is_name"=some (.ref t.A9)
 M9:mg "HandsError"=some (.ref t.HandsError)
 N0:mg "NoDeed"=some (.ref t.NoDeed)
 N2:XS.Ru K t.NoDeed
 N3:XS.Oj K t.HandsError
 N5:W.subIn K (.ref t.NoDeed) (.ref t.HandsError)=some true
 N6:W.subIn K (.ref t.NoDeed) (.type "ValueError")=some true
 N7:∀X:Cx,X.prog=P→X.w=w→X.K=K→X.mg=mg→Nt X "PARTS" (Dy t)
def okSign(c:Nat):Bool:=decide (32≤c)&&decide (c≤126)&&!(c==37)
def Gw(s:Str):Bool:=decide (s.length≤1000)&&s.cps.toList.all okSign
def By(b:Nat):Nat→D→Bool
 |_,.non=>true
 |_,.bl _=>true
 |_,.int _=>true
 |_,.str s=>Gw s
 |n+1,.tup xs=>xs.all (By b n)
 |n+1,.lst xs=>xs.all (By b n)
 |_,_=>false
theorem jF{b:Nat}:∀{n:Nat} {d:D},By b n d=true→Bv d=true∧dep d≤n:=by
 intro n
 induction n with
 |zero=>
  intro d h;cases d<;>simp[By]at h<;>simp[Bv,dep]
 |succ n ih=>
  have all:∀(xs:List D),xs.all (By b n)=true→Cs xs=true∧Eg xs≤n:=by
   intro xs
   induction xs with
   |nil=>intro _;simp[Cs,Eg]
   |cons x xs ihx=>
    intro h;rw[DN,AE]at h;have h1:=ih h.1;have h2:=ihx h.2;simp only[Cs,Eg,h1.1,h2.1,FP,true_and];omega
  intro d h;cases d<;>simp only[By]at h<;>simp[Bv,dep]
  ·exact⟨(all _ h).1,(all _ h).2⟩
  ·exact⟨(all _ h).1,(all _ h).2⟩
  ·cases h
  ·cases h
theorem a4l{b n:Nat}(hx:By b n x=true)(hn:n≤40)(hy:Bv y=true):Bc x y=some (.bl (Cw x y)):=by
 have h:=jF hx;unfold Bc;rw[AS];simp[h.1,hy];omega
abbrev Bk:Nat:=999999999999999999999999999999999999999999999999999999999999
def isInt:D→Bool
 |.int i=>decide (i.natAbs≤Bk)
 |_=>false
def belowK(n:Int):D→Bool
 |.int i=>decide (0≤i)&&decide (i<n)
 |_=>false
def Dm:D→Bool
 |.int i=>decide (i.natAbs≤Bk)&&decide (1≤i)
 |_=>false
theorem uY{n:Nat}(h:By Bk n d=true):Du [d]=some (.bl (isInt d)):=by
 cases d with
 |int i=>
  have:decide ((if i<0 then -i else i)<1000000000000000000000000000000000000000000000000000000000000)=decide (i.natAbs≤Bk):=by
   unfold Bk;apply FR.mpr;split<;>omega
  push_cast[Du,Hz,isInt,←this]
 |fn a=>cases n<;>simp[By]at h
 |dk a=>cases n<;>simp[By]at h
 |_=>push_cast[Du,Hz,isInt]
theorem vA{n:Nat}{k:Int}(h:By Bk n d=true)(hk:k≤1000):Em [d,.int k]=some (.bl (belowK k d)):=by
 cases d<;>push_cast[Em,Lf,uY h,isInt,belowK];rename_i i;by_cases h0:0≤i
 ·by_cases h1:i<k
  ·have:i.natAbs≤Bk:=by unfold Bk;omega
   simp[h0,h1,this]
  ·by_cases h2:i.natAbs≤Bk<;>simp[h0,h1,h2]
 ·by_cases h2:i.natAbs≤Bk<;>simp[h0,h2]
theorem uZ{n:Nat}(h:By Bk n d=true):Dl [d]=some (.bl (Dm d)):=by
 cases d<;>push_cast[Dl,Hr,uY h,isInt,Dm];rename_i i;by_cases h2:i.natAbs≤Bk<;>simp[h2]
def Dp:D→Bool
 |.tup [a,b]=>belowK 16 a&&Dm b
 |_=>false
theorem pM{b n:Nat}(h:By b n (.tup xs)=true):∃m,n=m+1∧∀x∈xs,By b m x=true:=by
 cases n with
 |zero=>simp[By]at h
 |succ m=>exact⟨m,rfl,by simpa[By]using h⟩
theorem mO{n:Nat}(h:By Bk n d=true):Cj [d]=some (.bl (Dp d)):=by
 match d,h with
 |.tup [],h=>push_cast[Cj,Dq,Dp]
 |.tup [a],h=>push_cast[Cj,Dq,Dp]
 |.tup [a,b],h=>
  obtain⟨m,rfl,hm⟩:=pM h;have ha:=hm a (by simp);have hb:=hm b (by simp)
  push_cast[Cj,Dq,Dp,vA ha,uZ hb]
  cases belowK 16 a<;>simp
 |.tup (a::b::c::r),h=>
  have:¬((r.length:Int)+1+1+1=2):=by omega
  push_cast[Cj,Dq,Dp,this]
 |.non,h=>push_cast[Cj,Dq,Dp]
 |.bl _,h=>push_cast[Cj,Dq,Dp]
 |.int _,h=>push_cast[Cj,Dq,Dp]
 |.str _,h=>push_cast[Cj,Dq,Dp]
 |.lst _,h=>push_cast[Cj,Dq,Dp]
 |.fn _,h=>cases n<;>simp[By]at h
 |.dk _,h=>cases n<;>simp[By]at h
def Ds:D→Bool
 |.tup [a,b,c]=>belowK 16 a&&Dm b&&belowK 16 c
 |_=>false
theorem nP{n:Nat}(h:By Bk n d=true):Bp [d]=some (.bl (Ds d)):=by
 match d,h with
 |.tup [],h=>push_cast[Bp,Ce,Ds]
 |.tup [a],h=>push_cast[Bp,Ce,Ds]
 |.tup [a,b],h=>push_cast[Bp,Ce,Ds]
 |.tup [a,b,c],h=>
  obtain⟨m,rfl,hm⟩:=pM h;have ha:=hm a (by simp);have hb:=hm b (by simp);have hc:=hm c (by simp);have hab:By Bk (m+1) (.tup [a,b])=true:=by simp[By,ha,hb]
  push_cast[Bp,Ce,Ds,mO hab,vA hc,Dp]
  cases belowK 16 a<;>cases Dm b<;>simp
 |.tup (a::b::c::e::r),h=>
  have:¬((r.length:Int)+1+1+1+1=3):=by omega
  push_cast[Bp,Ce,Ds,this]
 |.non,h=>push_cast[Bp,Ce,Ds]
 |.bl _,h=>push_cast[Bp,Ce,Ds]
 |.int _,h=>push_cast[Bp,Ce,Ds]
 |.str _,h=>push_cast[Bp,Ce,Ds]
 |.lst _,h=>push_cast[Bp,Ce,Ds]
 |.fn _,h=>cases n<;>simp[By]at h
 |.dk _,h=>cases n<;>simp[By]at h
def Kj:D→Bool
 |.str s=>s=="root"||s=="bin"
 |_=>false
theorem kD{n:Nat}(hn:n≤40)(h:By Bk n d=true):Fu [d]=some (.bl (Dp d||Kj d)):=by
 have e:∀x,Bc d (.str x)=some (.bl (Cw d (.str x))):=fun x=>a4l h hn rfl
 push_cast[Fu,Mi,mO h,e]
 cases Dp d<;>simp;cases d<;>simp[Cw,Kj];rename_i s;by_cases hs:s="root"<;>simp[hs]
theorem sU{n:Nat}(h:By Bk n d=true):Ef [d]=some (.bl (Ap d||Dp d)):=by
 push_cast[Ef,Ip,mO h]
 cases d<;>simp
theorem a9f{n:Nat}(h:By Bk n d=true):Ep [d]=some (.bl (Ap d||Ds d)):=by
 push_cast[Ep,Jz,nP h]
 cases d<;>simp
theorem b3g{n:Nat}(h:By Bk n d=true):Fb [d]=some (.bl (belowK 4 d)):=by
 push_cast[Fb,Ld,vA h]
theorem zY(a c:Nat):Ju ⟨#[a]⟩ ⟨#[c]⟩=decide (a≤c):=by
 unfold Ju;simp only[List.cons_lt_cons_iff,List.not_lt_nil,and_false,EC];by_cases h:c<a
 ·simp[h]
 ·simp[h];omega
theorem a3u:(" ":Str)=⟨#[32]⟩:=by decide+kernel
theorem a3t:("~":Str)=⟨#[126]⟩:=by decide+kernel
theorem b7b(c:Nat):El [.str ⟨#[c]⟩]=some (.bl (okSign c)):=by
 push_cast[El,Mg,Rg,a3u,a3t,zY,Str.length,okSign]
 by_cases h1:32≤c<;>by_cases h2:c≤126<;>simp[h1,h2];rw[DH];simp;omega
def Ii:D→Bool
 |.str s=>decide (1≤s.length)&&decide (s.length≤16)
 |_=>false
theorem qT(ρ:Ac)(hρ:ρ=[none]):∀(cs:List Nat),cs.all okSign=true→
  Cy (Ca 0) (fun _=>some true) (f1 El (Ab (Aa 0) Ad)) ρ (cs.map fun c=>.str ⟨#[c]⟩)=some (cs.map fun _=>.bl true)
 |[],_=>rfl
 |c::cs,h=>by
  rw[DN,AE]at h;have ih:=qT ρ hρ cs h.2;subst hρ;simp only[AO,Cy,ih];simp[Ca,f1,Ab,Aa,Ad,b7b,h.1]
theorem qX:∀(cs:List Nat),Jf (cs.map fun _=>D.bl true)=some (cs.map fun _=>true)
 |[]=>rfl
 |c::cs=>by simp only[AO,Jf,qX cs,EO]
theorem b7a{n:Nat}(h:By Bk n d=true):Ea [d]=some (.bl (Ii d)):=by
 cases d with
 |str s=>
  have h':Gw s=true:=by cases n<;>simpa[By]using h
  unfold Gw at h';rw[AE,AH]at h';have hl:s.length≤Ci:=by unfold Ci;omega
  have hc:=qT [none] rfl s.cps.toList h'.2;have hall:(List.map (fun _=>true) s.cps.toList).all id=true:=by simp
  by_cases h1:1≤(s.length:Int)
  ·by_cases h2:(s.length:Int)≤16
   ·have e1:1≤s.length:=by omega
    have e2:s.length≤16:=by omega
    have hz:s.cps.toList.length≤Ci:=by simpa[Str.length]using hl
    have hcomp:Db 1 [] (Og (Aa 0)) (Ca 0) (fun _=>some true) (f1 El (Ab (Aa 0) Ad)) [some (.str s)]=some (.lst (s.cps.toList.map fun _=>.bl true)):=by
     show(if(s.cps.toList.map fun c=>D.str ⟨#[c]⟩).length≤Ci then Option.map D.lst (Cy (Ca 0) (fun _=>some true) (f1 El (Ab (Aa 0) Ad)) [none] (s.cps.toList.map fun c=>.str ⟨#[c]⟩))else none)=_;rw[AK,AS hz,hc];rfl
    have hall2:Jq [.lst (s.cps.toList.map fun _=>.bl true)]=some (.bl true):=by
     simp only[Jq,qX,EO,hall]
    push_cast[Ea,Fs,hcomp,hl,h1,h2,e1,e2,hall2,Ii]
   ·have e2:¬s.length≤16:=by omega
    push_cast[Ea,Fs,Ii,hl,h1,h2,e2]
  ·have e1:s.length=0:=by omega
   push_cast[Ea,Fs,Ii,hl,e1]
 |fn a=>cases n<;>simp[By]at h
 |dk a=>cases n<;>simp[By]at h
 |_=>push_cast[Ea,Fs,Ii]
end K03
namespace K03
open PySem L2 DL
variable{t:Adr}
theorem b6u(nd:t.nd):Gp t t.A0=some Fu∧Gp t t.A2=some Ef∧Gp t t.A3=some Ep∧Gp t t.A4=some Ea∧Gp t t.A5=some Bp∧
  Gp t t.A6=some Dl∧Gp t t.A7=some Fb∧Gp t t.A8=some Du∧Gp t t.A9=some Cj:=by
 unfold Adr.nd at nd;simp only[CT,AN,BN,EC,not_or]at nd;unfold Gp;refine⟨?_,?_,?_,?_,?_,?_,?_,?_,?_⟩<;>grind
theorem nS(ρ:Ac)(hρ:ρ=[none,none]):∀(cs:List (Addr×D×Bool)),(∀c∈cs,∃g,Gp t c.1=some g∧g [c.2.1]=some (.bl c.2.2))→
  Cy (Lp 0 1) (fun _=>some true) (Jo (Gp t) 0 (Ab (Aa 1) Ad)) ρ (Gk (cs.map fun c=>.fn c.1) (cs.map (·.2.1)))=some (cs.map fun c=>.bl c.2.2)
 |[],_=>rfl
 |c::cs,h=>by
  have ih:=nS ρ hρ cs fun x hx=>h x (AC _ hx);obtain⟨g,h1,h2⟩:=h c AM;subst hρ;simp only[AO,Gk,Cy,ih];simp[Lp,Ca,Jo,Ab,Aa,Ad,h1,h2]
theorem tG:∀(cs:List (Addr×D×Bool)),Jf (cs.map fun c=>D.bl c.2.2)=some (cs.map fun c=>c.2.2)
 |[]=>rfl
 |c::cs=>by simp only[AO,Jf,tG cs,EO]
theorem a0o:∀(cs:List (Addr×D×Bool)),(Gk (cs.map fun c=>.fn c.1) (cs.map (·.2.1))).length=cs.length
 |[]=>rfl
 |c::cs=>by simp only[AO,Gk,AQ,a0o cs]
theorem fB(cs:List (Addr×D×Bool))(h:∀c∈cs,∃g,Gp t c.1=some g∧g [c.2.1]=some (.bl c.2.2))(hl:cs.length≤1000):
  Da t [.tup (cs.map (·.2.1)),.tup (cs.map fun c=>.fn c.1)]=some (.bl (cs.all (·.2.2))):=by
 have hc:=nS [none,none] rfl cs h;have hz:cs.length≤Ci:=by unfold Ci;omega
 have hcomp:Db 2 [] (Sv (Aa 1) (Aa 0)) (Lp 0 1) (fun _=>some true) (Jo (Gp t) 0 (Ab (Aa 1) Ad)) [some (.tup (cs.map (·.2.1))),some (.tup (cs.map fun c=>.fn c.1))]=some (.lst (cs.map fun c=>.bl c.2.2)):=by
  show(if(Gk (cs.map fun c=>.fn c.1) (cs.map (·.2.1))).length≤Ci then Option.map D.lst (Cy (Lp 0 1) (fun _=>some true) (Jo (Gp t) 0 (Ab (Aa 1) Ad)) [none,none] (Gk (cs.map fun c=>.fn c.1) (cs.map (·.2.1))))else none)=_;rw[a0o,AS hz,hc];rfl
 have hall:Jq [.lst (cs.map fun c=>.bl c.2.2)]=some (.bl (cs.all (·.2.2))):=by
  simp only[Jq,tG,EO,GE];rfl
 push_cast[Da,Gv,hcomp,hall]
theorem aM{ps fs:List D}(h:ps.length≠fs.length):Da t [.tup ps,.tup fs]=some (.bl false):=by
 have:¬((ps.length:Int)=fs.length):=by omega
 push_cast[Da,Gv,this]
theorem lM(x:D)(r:List D):Aj (.tup (x::r)) (some 1) none=some (.tup r):=by
 have h1:HT.sIx (r.length+1) 0 (some 1)=1:=by
  simp[HT.sIx]
 have h2:HT.sIx (r.length+1) (r.length+1) none=r.length+1:=by simp[HT.sIx]
 simp[Aj,Ao,h1,h2]
end K03
namespace K03
open PySem L2 DL
variable{t:Adr}
abbrev Ed(d:D):Bool:=Dp d||Kj d
abbrev Od(d:D):Bool:=Ap d||Dp d
abbrev Qc(d:D):Bool:=Ap d||Ds d
def within:D→D→Bool
 |.tup [_,_,.int c],.int m=>decide (c+m≤16)
 |_,_=>false
def Pw:List D→Bool
 |[a,b]=>Ed a&&Od b
 |_=>false
def Nh:List D→Bool
 |[a,b,c]=>Ed a&&Ed b&&Od c
 |_=>false
def Nl:List D→Bool
 |[a]=>Ed a
 |_=>false
def Kq:List D→Bool
 |[a,b,c]=>Ed a&&Qc b&&Ii c
 |_=>false
def Qa:List D→Bool
 |[a,b,c]=>Ed a&&Ds b&&Dm c&&within b c
 |_=>false
def Ps:List D→Bool
 |[a,b,c]=>Ed a&&belowK 4 b&&isInt c
 |_=>false
def Hn:List D→Bool
 |[a]=>Dp a
 |_=>false
def Dj(k:Str)(r:List D):Bool:=
 if k="put" then Pw r else if k="move" then Nh r else if k="drop" then Nl r else if k="write" then Kq r else if k="cut" then Qa r
 else if k="set" then Ps r else if k="undo" then Hn r else if k="redo" then Hn r else false
def Er:D→Bool
 |.tup (.str k::r)=>Dj k r
 |_=>false
theorem aN{n:Nat}{k:Str}(hk:(Dy t).lookup k=some (.tup fs)){b:Bool}(hp:Da t [.tup r,.tup fs]=some (.bl b))(hb:b=false∨k≠"cut"):
  Cd t [.tup (.str k::r)]=some (.bl b):=by
 have h0:¬((r.length:Int)+1=0):=by omega
 have he:Bc (.int ((r.length:Int)+1)) (.int 0)=some (.bl false):=by simp[Bc,Bv,dep,Cw,h0]
 have hs:Aj (.tup (.str k::r)) (some 1) none=some (.tup r):=lM _ _;cases b with
 |false=>push_cast[Cd,Cm,he,Pd,hk,Nj,hp,lM]
 |true=>
  have hk2:k≠"cut":=by simpa using hb
  push_cast[Cd,Cm,he,Pd,hk,Nj,hp,lM,hk2]
theorem a9o{z m:Int}(hk:(Dy t).lookup ("cut":Str)=some (.tup fs))(hp:Da t [.tup [a,.tup [x,y,.int z],.int m],.tup fs]=some (.bl true)):
  Cd t [.tup [.str "cut",a,.tup [x,y,.int z],.int m]]=some (.bl (decide (z+m≤16))):=by
 have he:Bc (.int 4) (.int 0)=some (.bl false):=by simp[Bc,Bv,dep,Cw]
 push_cast[Cd,Cm,he,Pd,hk,Nj,hp,lM]
theorem b7c{n:Nat}(nd:t.nd)(hn:n≤40)(h:By Bk n d=true):Cd t [d]=some (.bl (Er d)):=by
 obtain⟨f1',f2',f3',f4',f5',f6',f7',f8',f9'⟩:=b6u nd
 match d,h with
 |.non,h=>push_cast[Cd,Cm,Er]
 |.bl _,h=>push_cast[Cd,Cm,Er]
 |.int _,h=>push_cast[Cd,Cm,Er]
 |.str _,h=>push_cast[Cd,Cm,Er]
 |.lst _,h=>push_cast[Cd,Cm,Er]
 |.fn _,h=>cases n<;>simp[By]at h
 |.dk _,h=>cases n<;>simp[By]at h
 |.tup [],h=>
  have he:Bc (.int 0) (.int 0)=some (.bl true):=by simp[Bc,Bv,dep,Cw]
  push_cast[Cd,Cm,Er,he]
 |.tup (x::r),h=>
  obtain⟨m,rfl,hm⟩:=pM h;have hr:∀y∈r,By Bk m y=true:=fun y hy=>hm y (AC _ hy);have hx:=hm x AM;have h0:¬((r.length:Int)+1=0):=by omega
  have he:Bc (.int ((r.length:Int)+1)) (.int 0)=some (.bl false):=by simp[Bc,Bv,dep,Cw,h0]
  have hm40:m≤40:=by omega
  match x,hx with
  |.non,_=>push_cast[Cd,Cm,Er,he]
  |.bl _,_=>push_cast[Cd,Cm,Er,he]
  |.int _,_=>push_cast[Cd,Cm,Er,he]
  |.tup _,_=>push_cast[Cd,Cm,Er,he]
  |.lst _,_=>push_cast[Cd,Cm,Er,he]
  |.fn _,h=>cases m<;>simp[By]at h
  |.dk _,h=>cases m<;>simp[By]at h
  |.str k,_=>
   show _=some (D.bl (Dj k r));unfold Dj;split
   ·rename_i hk;subst hk
    match r,hr with
    |[a,b],hr=>
     have hp:=fB (t:=t) [(t.A0,a,Ed a),(t.A2,b,Od b)] (by
      intro c hc;simp at hc;obtain rfl|rfl:=hc
      ·exact⟨_,f1',kD hm40 (hr _ (by simp))⟩
      ·exact⟨_,f2',sU (hr _ (by simp))⟩) (by simp)
     have:=aN (n:=0) (k:="put") (fs:=[.fn t.A0,.fn t.A2]) rfl hp (.inr (by decide+kernel));simpa[Pw,CZ]using this
    |[],hr=>exact aN (n:=0) (k:="put") (fs:=[.fn t.A0,.fn t.A2]) rfl (aM (by simp)) (.inl rfl)
    |[a],hr=>exact aN (n:=0) (k:="put") (fs:=[.fn t.A0,.fn t.A2]) rfl (aM (by simp)) (.inl rfl)
    |a::b::c::r,hr=>exact aN (n:=0) (k:="put") (fs:=[.fn t.A0,.fn t.A2]) rfl (aM (by simp)) (.inl rfl)
   split
   ·rename_i hk;subst hk
    match r,hr with
    |[a,b,c],hr=>
     have hp:=fB (t:=t) [(t.A0,a,Ed a),(t.A0,b,Ed b),(t.A2,c,Od c)] (by
      intro c hc;simp at hc;obtain rfl|rfl|rfl:=hc
      ·exact⟨_,f1',kD hm40 (hr _ (by simp))⟩
      ·exact⟨_,f1',kD hm40 (hr _ (by simp))⟩
      ·exact⟨_,f2',sU (hr _ (by simp))⟩) (by simp)
     have:=aN (n:=0) (k:="move") (fs:=[.fn t.A0,.fn t.A0,.fn t.A2]) rfl hp (.inr (by decide+kernel));simpa[Nh,CZ]using this
    |[],hr=>exact aN (n:=0) (k:="move") (fs:=[.fn t.A0,.fn t.A0,.fn t.A2]) rfl (aM (by simp)) (.inl rfl)
    |[a],hr=>exact aN (n:=0) (k:="move") (fs:=[.fn t.A0,.fn t.A0,.fn t.A2]) rfl (aM (by simp)) (.inl rfl)
    |[a,b],hr=>exact aN (n:=0) (k:="move") (fs:=[.fn t.A0,.fn t.A0,.fn t.A2]) rfl (aM (by simp)) (.inl rfl)
    |a::b::c::d::r,hr=>exact aN (n:=0) (k:="move") (fs:=[.fn t.A0,.fn t.A0,.fn t.A2]) rfl (aM (by simp)) (.inl rfl)
   split
   ·rename_i hk;subst hk
    match r,hr with
    |[a],hr=>
     have hp:=fB (t:=t) [(t.A0,a,Ed a)] (by
      intro c hc;simp at hc;obtain rfl:=hc
      ·exact⟨_,f1',kD hm40 (hr _ (by simp))⟩) (by simp)
     have:=aN (n:=0) (k:="drop") (fs:=[.fn t.A0]) rfl hp (.inr (by decide+kernel));simpa[Nl,CZ]using this
    |[],hr=>exact aN (n:=0) (k:="drop") (fs:=[.fn t.A0]) rfl (aM (by simp)) (.inl rfl)
    |a::b::r,hr=>exact aN (n:=0) (k:="drop") (fs:=[.fn t.A0]) rfl (aM (by simp)) (.inl rfl)
   split
   ·rename_i hk;subst hk
    match r,hr with
    |[a,b,c],hr=>
     have hp:=fB (t:=t) [(t.A0,a,Ed a),(t.A3,b,Qc b),(t.A4,c,Ii c)] (by
      intro c hc;simp at hc;obtain rfl|rfl|rfl:=hc
      ·exact⟨_,f1',kD hm40 (hr _ (by simp))⟩
      ·exact⟨_,f3',a9f (hr _ (by simp))⟩
      ·exact⟨_,f4',b7a (hr _ (by simp))⟩) (by simp)
     have:=aN (n:=0) (k:="write") (fs:=[.fn t.A0,.fn t.A3,.fn t.A4]) rfl hp (.inr (by decide+kernel));simpa[Kq,CZ]using this
    |[],hr=>exact aN (n:=0) (k:="write") (fs:=[.fn t.A0,.fn t.A3,.fn t.A4]) rfl (aM (by simp)) (.inl rfl)
    |[a],hr=>exact aN (n:=0) (k:="write") (fs:=[.fn t.A0,.fn t.A3,.fn t.A4]) rfl (aM (by simp)) (.inl rfl)
    |[a,b],hr=>exact aN (n:=0) (k:="write") (fs:=[.fn t.A0,.fn t.A3,.fn t.A4]) rfl (aM (by simp)) (.inl rfl)
    |a::b::c::d::r,hr=>exact aN (n:=0) (k:="write") (fs:=[.fn t.A0,.fn t.A3,.fn t.A4]) rfl (aM (by simp)) (.inl rfl)
   split
   ·rename_i hk;subst hk
    match r,hr with
    |[a,b,c],hr=>
     have hp:=fB (t:=t) [(t.A0,a,Ed a),(t.A5,b,Ds b),(t.A6,c,Dm c)] (by
      intro c hc;simp at hc;obtain rfl|rfl|rfl:=hc
      ·exact⟨_,f1',kD hm40 (hr _ (by simp))⟩
      ·exact⟨_,f5',nP (hr _ (by simp))⟩
      ·exact⟨_,f6',uZ (hr _ (by simp))⟩) (by simp)
     cases hq:(Ed a&&Ds b&&Dm c)with
     |false=>
      have hp':Da t [.tup [a,b,c],.tup [.fn t.A0,.fn t.A5,.fn t.A6]]=some (.bl false):=by rw[←hq];simpa[CZ]using hp
      have:=aN (n:=0) (k:="cut") (fs:=[.fn t.A0,.fn t.A5,.fn t.A6]) rfl hp' (.inl rfl);rw[this];show _=some (D.bl (Ed a&&Ds b&&Dm c&&within b c));rw[hq];rfl
     |true=>
      have hp':Da t [.tup [a,b,c],.tup [.fn t.A0,.fn t.A5,.fn t.A6]]=some (.bl true):=by rw[←hq];simpa[CZ]using hp
      simp only[AE]at hq;obtain⟨⟨q1,q2⟩,q3⟩:=hq;obtain⟨x,y,z,rfl,qz⟩:∃x y z,b=.tup [x,y,z]∧belowK 16 z=true:=by
       unfold Ds at q2;split at q2
       ·simp at q2;exact⟨_,_,_,rfl,q2.2⟩
       ·cases q2
      obtain⟨z,rfl⟩:∃i,z=.int i:=by cases z<;>simp[belowK]at qz;exact⟨_,rfl⟩
      obtain⟨m',rfl⟩:∃i,c=.int i:=by cases c<;>simp[Dm]at q3;exact⟨_,rfl⟩
      have:=a9o (fs:=[.fn t.A0,.fn t.A5,.fn t.A6]) rfl hp';rw[this];simp[Qa,q1,q2,q3,within]
    |[],hr=>exact aN (n:=0) (k:="cut") (fs:=[.fn t.A0,.fn t.A5,.fn t.A6]) rfl (aM (by simp)) (.inl rfl)
    |[a],hr=>exact aN (n:=0) (k:="cut") (fs:=[.fn t.A0,.fn t.A5,.fn t.A6]) rfl (aM (by simp)) (.inl rfl)
    |[a,b],hr=>exact aN (n:=0) (k:="cut") (fs:=[.fn t.A0,.fn t.A5,.fn t.A6]) rfl (aM (by simp)) (.inl rfl)
    |a::b::c::d::r,hr=>exact aN (n:=0) (k:="cut") (fs:=[.fn t.A0,.fn t.A5,.fn t.A6]) rfl (aM (by simp)) (.inl rfl)
   split
   ·rename_i hk;subst hk
    match r,hr with
    |[a,b,c],hr=>
     have hp:=fB (t:=t) [(t.A0,a,Ed a),(t.A7,b,belowK 4 b),(t.A8,c,isInt c)] (by
      intro c hc;simp at hc;obtain rfl|rfl|rfl:=hc
      ·exact⟨_,f1',kD hm40 (hr _ (by simp))⟩
      ·exact⟨_,f7',b3g (hr _ (by simp))⟩
      ·exact⟨_,f8',uY (hr _ (by simp))⟩) (by simp)
     have:=aN (n:=0) (k:="set") (fs:=[.fn t.A0,.fn t.A7,.fn t.A8]) rfl hp (.inr (by decide+kernel));simpa[Ps,CZ]using this
    |[],hr=>exact aN (n:=0) (k:="set") (fs:=[.fn t.A0,.fn t.A7,.fn t.A8]) rfl (aM (by simp)) (.inl rfl)
    |[a],hr=>exact aN (n:=0) (k:="set") (fs:=[.fn t.A0,.fn t.A7,.fn t.A8]) rfl (aM (by simp)) (.inl rfl)
    |[a,b],hr=>exact aN (n:=0) (k:="set") (fs:=[.fn t.A0,.fn t.A7,.fn t.A8]) rfl (aM (by simp)) (.inl rfl)
    |a::b::c::d::r,hr=>exact aN (n:=0) (k:="set") (fs:=[.fn t.A0,.fn t.A7,.fn t.A8]) rfl (aM (by simp)) (.inl rfl)
   split
   ·rename_i hk;subst hk
    match r,hr with
    |[a],hr=>
     have hp:=fB (t:=t) [(t.A9,a,Dp a)] (by
      intro c hc;simp at hc;obtain rfl:=hc
      ·exact⟨_,f9',mO (hr _ (by simp))⟩) (by simp)
     have:=aN (n:=0) (k:="undo") (fs:=[.fn t.A9]) rfl hp (.inr (by decide+kernel));simpa[Hn,CZ]using this
    |[],hr=>exact aN (n:=0) (k:="undo") (fs:=[.fn t.A9]) rfl (aM (by simp)) (.inl rfl)
    |a::b::r,hr=>exact aN (n:=0) (k:="undo") (fs:=[.fn t.A9]) rfl (aM (by simp)) (.inl rfl)
   split
   ·rename_i hk;subst hk
    match r,hr with
    |[a],hr=>
     have hp:=fB (t:=t) [(t.A9,a,Dp a)] (by
      intro c hc;simp at hc;obtain rfl:=hc
      ·exact⟨_,f9',mO (hr _ (by simp))⟩) (by simp)
     have:=aN (n:=0) (k:="redo") (fs:=[.fn t.A9]) rfl hp (.inr (by decide+kernel));simpa[Hn,CZ]using this
    |[],hr=>exact aN (n:=0) (k:="redo") (fs:=[.fn t.A9]) rfl (aM (by simp)) (.inl rfl)
    |a::b::r,hr=>exact aN (n:=0) (k:="redo") (fs:=[.fn t.A9]) rfl (aM (by simp)) (.inl rfl)
   rename_i n1 n2 n3 n4 n5 n6 n7 n8;have hl:(Dy t).lookup k=none:=by
    simp only[Dy,List.lookup,BS.mpr n1,BS.mpr n2,BS.mpr n3,BS.mpr n4,BS.mpr n5,BS.mpr n6,BS.mpr n7,BS.mpr n8]
   push_cast[Cd,Cm,he,Pd,hl]
end K03
namespace K03
open PySem L2 DL
variable{t:Adr}
theorem b9o{n:Nat}(nd:t.nd)(hn:n≤30)(ha:By Bk n a=true)(hb:By Bk n b=true)(hc:By Bk n c=true)(hd:By Bk n d=true):
  Ak t [.tup [a,b,c,d]]=some (.bl (belowK 16 a&&Dm b&&Dm c&&Er d)):=by
 have hab:By Bk (n+1) (.tup [a,b])=true:=by simp[By,ha,hb]
 push_cast[Ak,Bz,mO hab,uZ hc,b7c nd (by omega) hd,Dp]
 cases belowK 16 a<;>cases Dm b<;>cases Dm c<;>simp
theorem b3h(h:(∀a b c e,d≠.tup [a,b,c,e])∧Bv d=true):Ak t [d]=some (.bl false):=by
 match d,h with
 |.non,h=>push_cast[Ak,Bz]
 |.bl _,h=>push_cast[Ak,Bz]
 |.int _,h=>push_cast[Ak,Bz]
 |.str _,h=>push_cast[Ak,Bz]
 |.lst _,h=>push_cast[Ak,Bz]
 |.fn _,h=>simp[Bv]at h
 |.dk _,h=>simp[Bv]at h
 |.tup [],h=>push_cast[Ak,Bz]
 |.tup [_],h=>push_cast[Ak,Bz]
 |.tup [_,_],h=>push_cast[Ak,Bz]
 |.tup [_,_,_],h=>push_cast[Ak,Bz]
 |.tup [a,b,c,e],h=>exact absurd rfl (h.1 a b c e)
 |.tup (_::_::_::_::_::r),h=>
  have:¬((r.length:Int)+1+1+1+1+1=4):=by omega
  push_cast[Ak,Bz,this]
theorem lJ(a b:Str):Cw (.str a) (.str b)=(a==b):=by unfold Cw;rfl
theorem b3f(a b:Int):Cw (.int a) (.int b)=(a==b):=by unfold Cw;rfl
theorem yE(s:Str):∀xs:List Str,((xs.map D.str).any fun d=>Cw d (.str s))=xs.any (·==s)
 |[]=>rfl
 |x::xs=>by rw[AO,CD,CD,yE s xs,lJ]
theorem a2b(s:Str)(xs:List Str):Iy false (.str s) (.tup (xs.map D.str))=some (.bl (xs.any (·==s))):=by
 have h:(xs.map D.str).all Fc=true:=by simp[BQ,Fc]
 show(if Fc (.str s)&&(xs.map D.str).all Fc then some (D.bl ((xs.map D.str).any fun d=>Cw d (.str s)))else none)=_;rw[h,yE];rfl
theorem nI:(Str.ofString "put"==Str.ofString "move")=false:=by decide+kernel
theorem nJ:(Str.ofString "put"==Str.ofString "drop")=false:=by decide+kernel
theorem lA:(Str.ofString "put"==Str.ofString "write")=false:=by decide+kernel
theorem jZ:(Str.ofString "put"==Str.ofString "cut")=false:=by decide+kernel
theorem qE:(Str.ofString "put"==Str.ofString "set")=false:=by decide+kernel
theorem nG:(Str.ofString "put"==Str.ofString "undo")=false:=by decide+kernel
theorem nH:(Str.ofString "put"==Str.ofString "redo")=false:=by decide+kernel
theorem nL:(Str.ofString "move"==Str.ofString "put")=false:=by decide+kernel
theorem lD:(Str.ofString "move"==Str.ofString "drop")=false:=by decide+kernel
theorem jR:(Str.ofString "move"==Str.ofString "write")=false:=by decide+kernel
theorem iJ:(Str.ofString "move"==Str.ofString "cut")=false:=by decide+kernel
theorem nK:(Str.ofString "move"==Str.ofString "set")=false:=by decide+kernel
theorem lB:(Str.ofString "move"==Str.ofString "undo")=false:=by decide+kernel
theorem lC:(Str.ofString "move"==Str.ofString "redo")=false:=by decide+kernel
theorem nN:(Str.ofString "drop"==Str.ofString "put")=false:=by decide+kernel
theorem lG:(Str.ofString "drop"==Str.ofString "move")=false:=by decide+kernel
theorem jS:(Str.ofString "drop"==Str.ofString "write")=false:=by decide+kernel
theorem iK:(Str.ofString "drop"==Str.ofString "cut")=false:=by decide+kernel
theorem nM:(Str.ofString "drop"==Str.ofString "set")=false:=by decide+kernel
theorem lE:(Str.ofString "drop"==Str.ofString "undo")=false:=by decide+kernel
theorem lF:(Str.ofString "drop"==Str.ofString "redo")=false:=by decide+kernel
theorem kR:(Str.ofString "write"==Str.ofString "put")=false:=by decide+kernel
theorem jN:(Str.ofString "write"==Str.ofString "move")=false:=by decide+kernel
theorem jO:(Str.ofString "write"==Str.ofString "drop")=false:=by decide+kernel
theorem gD:(Str.ofString "write"==Str.ofString "cut")=false:=by decide+kernel
theorem kQ:(Str.ofString "write"==Str.ofString "set")=false:=by decide+kernel
theorem jL:(Str.ofString "write"==Str.ofString "undo")=false:=by decide+kernel
theorem jM:(Str.ofString "write"==Str.ofString "redo")=false:=by decide+kernel
theorem kB:(Str.ofString "cut"==Str.ofString "put")=false:=by decide+kernel
theorem iN:(Str.ofString "cut"==Str.ofString "move")=false:=by decide+kernel
theorem iO:(Str.ofString "cut"==Str.ofString "drop")=false:=by decide+kernel
theorem gE:(Str.ofString "cut"==Str.ofString "write")=false:=by decide+kernel
theorem kA:(Str.ofString "cut"==Str.ofString "set")=false:=by decide+kernel
theorem iL:(Str.ofString "cut"==Str.ofString "undo")=false:=by decide+kernel
theorem iM:(Str.ofString "cut"==Str.ofString "redo")=false:=by decide+kernel
theorem qD:(Str.ofString "set"==Str.ofString "put")=false:=by decide+kernel
theorem nA:(Str.ofString "set"==Str.ofString "move")=false:=by decide+kernel
theorem nB:(Str.ofString "set"==Str.ofString "drop")=false:=by decide+kernel
theorem kW:(Str.ofString "set"==Str.ofString "write")=false:=by decide+kernel
theorem jY:(Str.ofString "set"==Str.ofString "cut")=false:=by decide+kernel
theorem mY:(Str.ofString "set"==Str.ofString "undo")=false:=by decide+kernel
theorem mZ:(Str.ofString "set"==Str.ofString "redo")=false:=by decide+kernel
theorem mX:(Str.ofString "undo"==Str.ofString "put")=false:=by decide+kernel
theorem kT:(Str.ofString "undo"==Str.ofString "move")=false:=by decide+kernel
theorem kU:(Str.ofString "undo"==Str.ofString "drop")=false:=by decide+kernel
theorem jP:(Str.ofString "undo"==Str.ofString "write")=false:=by decide+kernel
theorem iH:(Str.ofString "undo"==Str.ofString "cut")=false:=by decide+kernel
theorem mW:(Str.ofString "undo"==Str.ofString "set")=false:=by decide+kernel
theorem kS:(Str.ofString "undo"==Str.ofString "redo")=false:=by decide+kernel
theorem nF:(Str.ofString "redo"==Str.ofString "put")=false:=by decide+kernel
theorem kY:(Str.ofString "redo"==Str.ofString "move")=false:=by decide+kernel
theorem kZ:(Str.ofString "redo"==Str.ofString "drop")=false:=by decide+kernel
theorem jQ:(Str.ofString "redo"==Str.ofString "write")=false:=by decide+kernel
theorem iI:(Str.ofString "redo"==Str.ofString "cut")=false:=by decide+kernel
theorem nE:(Str.ofString "redo"==Str.ofString "set")=false:=by decide+kernel
theorem kX:(Str.ofString "redo"==Str.ofString "undo")=false:=by decide+kernel
theorem cX(a b:Str):Bc (.str a) (.str b)=some (.bl (a==b)):=by simp[Bc,Bv,dep,lJ]
theorem in2(k a b:Str):Iy false (.str k) (.tup [.str a,.str b])=some (.bl (a==k||b==k)):=by
 have:=a2b k [a,b];simpa only[AO,GB,CD,GY,GQ]using this
theorem b3e(a b:Int):Bc (.int a) (.int b)=some (.bl (a==b)):=by simp[Bc,Bv,dep,b3f]
end K03
namespace K03
open PySem L2 DL
abbrev Ga(ns:List Int):D:=.lst (ns.map .int)
theorem rB{α:Type}{xs:List α}{i:Int}(h0:0≤i)(h1:i<xs.length):∃x,Cp xs i=some x∧x∈xs:=by
 refine⟨xs[i.toNat]'(by omega),?_,HA _⟩;unfold Cp Ct;rw[AS h0,AS h1];simp
theorem b3v(ns:List Int)(k:Int):∃c,Jb [Ga ns,.int k]=some (.int c):=by
 cases ns with
 |nil=>exact⟨0,by push_cast[Jb,Mq,Ga,Qs]⟩
 |cons n r=>
  have hp:(0:Int)<(r.length:Int)+1:=by omega
  obtain⟨x,e,hx⟩:=rB (xs:=((n::r).map D.int)) (i:=k%((r.length:Int)+1)) (DF _ (by omega)) (by simpa using CM k hp);obtain⟨c,_,rfl⟩:=CF.mp hx;refine⟨c,?_⟩;have e':Bl (.lst ((n::r).map D.int)) (.int (k%((r.length:Int)+1)))=some (.int c):=e;simp only[AO]at e';simp[Jb,Mq,Ga,Az,Ar,Am,Cb,Ba,Aa,Qs,f2,f1,Ab,Ad,Bb,Av,Bg,hp,e']
theorem dL(ns:List Int){k:Int}:∃m,Bx [Ga ns,.int k]=some (.int m)∧0≤m∧m<4294967231:=by
 obtain⟨c,hc⟩:=b3v ns k;refine⟨_,by push_cast[Bx,Pv,hc,Ka];rfl,DF _ (by decide),CM _ (by decide)⟩
theorem gA{n:Int}(h:xs≠[]):∃x,Do [.lst xs,.int n]=some x∧x∈xs:=by
 have hl:0<xs.length:=List.length_pos_iff.mpr h;have hp:(0:Int)<(xs.length:Int):=by omega
 obtain⟨x,e,hx⟩:=rB (xs:=xs) (i:=n%(xs.length:Int)) (DF _ (by omega)) (CM n hp);refine⟨x,?_,hx⟩;have e':Bl (.lst xs) (.int (n%(xs.length:Int)))=some x:=e;simp[Do,Oq,Az,Ar,Aa,f2,f1,Ab,Ad,Bb,Av,Bg,hp,e',hl]
theorem iD{bnd:D→Ac→Option Ac}{q:Ac→Option Fl}(P:Nat→Ac→Prop):∀(ds:List D) (i:Nat) (ρ:Ac),P i ρ→
  (∀(j:Nat) (d:D) (ρ:Ac),ds[j]?=some d→P (i+j) ρ→∃ρ1 ρ2,bnd d ρ=some ρ1∧q ρ1=some (.nx ρ2)∧P (i+j+1) ρ2)→
  ∃ρ',Lk bnd q ds ρ=some (.nx ρ')∧P (i+ds.length) ρ'
 |[],i,ρ,h,_=>⟨ρ,rfl,h⟩
 |d::ds,i,ρ,h,hs=>by
  obtain⟨ρ1,ρ2,e1,e2,h2⟩:=hs 0 d ρ rfl h;obtain⟨ρ',e3,h3⟩:=iD P ds (i+1) ρ2 h2 fun j d ρ hd hp=>by
   have:=hs (j+1) d ρ (by simpa using hd) (by rw[show i+(j+1)=i+1+j by omega];exact hp);rw[show i+(j+1)+1=i+1+j+1 by omega]at this;exact this
  refine⟨ρ',?_,by rw[AQ,show i+(ds.length+1)=i+1+ds.length by omega];exact h3⟩;simp[Lk,e1,e2,e3]
theorem iU{bnd:D→Ac→Option Ac}{ft:Ac→Option Bool}{fe:Ac→Option D}{ρ:Ac}(R:D→Prop):∀(ds:List D),(∀d∈ds,∃ρ1 b,bnd d ρ=some ρ1∧ft ρ1=some b∧(b=true→∃y,fe ρ1=some y∧R y))→
  ∃ys,Cy bnd ft fe ρ ds=some ys∧ys.length≤ds.length∧∀y∈ys,R y
 |[],_=>⟨[],rfl,AU _,fun y hy=>by cases hy⟩
 |d::ds,h=>by
  obtain⟨ρ1,b,e1,e2,hy⟩:=h d AM;obtain⟨ys,e3,hl,hr⟩:=iU R ds fun x hx=>h x (AC _ hx)
  cases b with
  |false=>exact⟨ys,by simp[Cy,e1,e2,e3],by simp;omega,hr⟩
  |true=>
   obtain⟨y,e4,r4⟩:=hy rfl;refine⟨y::ys,by simp[Cy,e1,e2,e3,e4],by simp;omega,fun z hz=>?_⟩;obtain rfl|hz:=AN.mp hz
   ·exact r4
   ·exact hr z hz
theorem nR{bnd:D→Ac→Option Ac}{fe:Ac→Option D}{ρ:Ac}:∀{ds ys:List D},Cy bnd (fun _=>some true) fe ρ ds=some ys→ys.length=ds.length
 |[],ys,e=>by cases e;rfl
 |d::ds,ys,e=>by
  unfold Cy at e;obtain⟨ρ1,e1,e⟩:=AA.mp e;simp only[AI,DR]at e;obtain⟨y,e3,e⟩:=AA.mp e;obtain⟨zs,e4,rfl⟩:=AF.mp e;simp[nR e4]
def Gi(x:D):Prop:=∃a b,x=.tup [.int a,.int b]∧0≤a∧a<16∧1≤b∧b≤2000
def Eu(x:D):Prop:=x=.str "root"∨x=.str "bin"∨Gi x
def No(x:D):Prop:=x=.non∨Gi x
def Ow(x:D):Prop:=∃a b c,x=.tup [.int a,.int b,.int c]∧0≤a∧a<16∧1≤b∧b≤2000∧0≤c∧c≤15
def Lq(x:D):Prop:=x=.non∨Ow x
inductive DG:D→Prop
 |put {a b:D}:Eu a→No b→DG (.tup [.str "put",a,b])
 |move {a b c:D}:Eu a→Eu b→No c→DG (.tup [.str "move",a,b,c])
 |drop {a:D}:Eu a→DG (.tup [.str "drop",a])
 |write {a b:D} {s:Str}:Eu a→Lq b→Gw s=true→1≤s.length→s.length≤16→DG (.tup [.str "write",a,b,.str s])
 |cut {a:D} {x y z m:Int}:Eu a→Ow (.tup [.int x,.int y,.int z])→1≤m→z+m≤16→DG (.tup [.str "cut",a,.tup [.int x,.int y,.int z],.int m])
 |set {a:D} {p n:Int}:Eu a→0≤p→p≤3→n.natAbs<10 ^ 60→DG (.tup [.str "set",a,.int p,.int n])
 |undo {a:D}:Gi a→DG (.tup [.str "undo",a])
 |redo {a:D}:Gi a→DG (.tup [.str "redo",a])
def Pg(o:D):Prop:=∃h n tm d,o=.tup [.int h,.int n,.int tm,d]∧0≤h∧h<16∧1≤n∧n≤2000∧DG d
theorem xU(h:DG d):∃k r,d=.tup (.str k::r)∧(k="write"→∃a b s,r=[a,b,.str s]∧s.length≤16):=by
 cases h with
 |write _ _ _ _ h5=>exact⟨_,_,rfl,fun _=>⟨_,_,_,rfl,h5⟩⟩
 |_=>exact⟨_,_,rfl,fun z=>absurd z (by decide+kernel)⟩
theorem a8l{ops:List D}(h:∀o∈ops,Pg o)(hl:ops.length≤100):∃its,Hd [.lst ops]=some (.lst its)∧3≤its.length∧its.length≤200∧∀x∈its,Eu x:=by
 obtain⟨ys,e,l,hr⟩:=iU (ρ:=[none]) (bnd:=Ca 0) (ft:=fT (f2 Bc (f2 Bl (f2 Bl (Aa 0) (fC (.int 3))) (fC (.int 0))) (fC (.str "put")))) (fe:=Ay (Ab (f2 Bl (Aa 0) (fC (.int 0))) (Ab (f2 Bl (Aa 0) (fC (.int 1))) Ad)))
  (fun y=>Gi y) ops (by
   intro o ho;obtain⟨h',n,tm,d,rfl,b1,b2,b3,b4,hd⟩:=h o ho;obtain⟨k,r,rfl,_⟩:=xU hd;refine⟨_,_,rfl,by push_cast[cX];rfl,fun _=>⟨_,by push_cast,⟨_,_,rfl,b1,b2,b3,b4⟩⟩⟩)
 have hc:Db 1 [] (Gc (Aa 0)) (Ca 0) (fT (f2 Bc (f2 Bl (f2 Bl (Aa 0) (fC (.int 3))) (fC (.int 0))) (fC (.str "put")))) (Ay (Ab (f2 Bl (Aa 0) (fC (.int 0))) (Ab (f2 Bl (Aa 0) (fC (.int 1))) Ad))) [some (.lst ops)]=some (.lst ys):=by
  show(if ops.length≤Ci then Option.map D.lst (Cy _ _ _ [none] ops)else none)=_;rw[AS (by unfold Ci;omega),e];rfl
 have a1:An (.lst [.str "root"]) (.lst ys)=some (.lst (.str "root"::ys)):=by
  show(if 1+ys.length≤Ci then some (D.lst ([.str "root"]++ys))else none)=_;rw[AS (by unfold Ci;omega)];rfl
 have a2:An (.lst (.str "root"::ys)) (.lst [.str "bin",.tup [.int 9,.int 9]])=some (.lst (.str "root"::(ys++[.str "bin",.tup [.int 9,.int 9]]))):=by
  show(if ys.length+1+2≤Ci then some (D.lst (.str "root"::ys++[.str "bin",.tup [.int 9,.int 9]]))else none)=_;rw[AS (by unfold Ci;omega)];rfl
 refine⟨.str "root"::(ys++[.str "bin",.tup [.int 9,.int 9]]),by simp[Hd,Nf,Az,Ar,f2,fC,hc,a1,a2],by simp,by simp;omega,fun x hx=>?_⟩;simp at hx;obtain rfl|hx|rfl|rfl:=hx
 ·exact .inl rfl
 ·exact .inr (.inr (hr x hx))
 ·exact .inr (.inl rfl)
 ·exact .inr (.inr ⟨9,9,rfl,by decide,by decide,by decide,by decide⟩)
theorem a5n{ops:List D}(h:∀o∈ops,Pg o)(hl:ops.length≤100):∃ss,Hc [.lst ops]=some (.lst ss)∧ss≠[]∧∀x∈ss,Lq x:=by
 let P:Nat→Ac→Prop:=fun i ρ=>∃found x y,ρ=[some (.lst ops),some (.lst found),x,y]∧found≠[]∧found.length≤2+16*i∧∀z∈found,Lq z
 obtain⟨ρ',e,found,x,y,rfl,f0,_,hf⟩:=iD (bnd:=Hm 2) (q:=Cb (fT (f2 Bc (f2 Bl (f2 Bl (Aa 2) (fC (.int 3))) (fC (.int 0))) (fC (.str "write")))) (Im (Ha (f1 Bb (Ab (f2 Bl (f2 Bl (Aa 2) (fC (.int 3))) (fC (.int 3))) Ad))) (Hm 3) (Gn 1 (Ay (Ab (f2 Bl (Aa 2) (fC (.int 0))) (Ab (f2 Bl (Aa 2) (fC (.int 1))) (Ab (Aa 3) Ad)))))) Ba)
  P ops 0 [some (.lst ops),some (.lst [.non,.tup [.int 9,.int 9,.int 3]]),none,none] ⟨_,_,_,rfl,by simp,by simp,by
   intro z hz;simp at hz;obtain rfl|rfl:=hz
   ·exact .inl rfl
   ·exact .inr ⟨9,9,3,rfl,by decide,by decide,by decide,by decide,by decide,by decide⟩⟩ (by
  rintro j d ρ hd ⟨found,x,y,rfl,f0,fl,hf⟩;have hj:j<ops.length:=(AT.mp hd).1;obtain⟨h',n,tm,d',rfl,b1,b2,b3,b4,hdg⟩:=h d (DC hd);obtain⟨k,r,rfl,hw⟩:=xU hdg;by_cases hk:k="write"
  ·subst hk;obtain⟨a,b,s,rfl,s16⟩:=hw rfl;have hsl:s.length≤Ci:=by unfold Ci;omega
   let P2:Nat→Ac→Prop:=fun i ρ=>∃found y,ρ=[some (.lst ops),some (.lst found),some (.tup [.int h',.int n,.int tm,.tup [.str "write",a,b,.str s]]),y]∧found≠[]∧found.length≤2+16*(0+j)+i∧∀z∈found,Lq z
   obtain⟨ρ2,e2,found2,y2,rfl,f20,f2l,hf2⟩:=iD (bnd:=Hm 3) (q:=Gn 1 (Ay (Ab (f2 Bl (Aa 2) (fC (.int 0))) (Ab (f2 Bl (Aa 2) (fC (.int 1))) (Ab (Aa 3) Ad))))) P2 (Cv s.length) 0
    [some (.lst ops),some (.lst found),some (.tup [.int h',.int n,.int tm,.tup [.str "write",a,b,.str s]]),y] ⟨found,y,rfl,f0,fl,hf⟩ (by
     rintro i d ρ hd ⟨found,y,rfl,f0,fl,hf⟩;unfold Cv at hd;rw[BO]at hd;obtain⟨i',hi',rfl⟩:=AF.mp hd;obtain⟨hlt,he⟩:=AT.mp hi';rw[GO]at he;subst he;rw[FA]at hlt;have hb:found.length<Ci:=by unfold Ci;omega
     refine⟨_,_,rfl,by push_cast[Gn,hb];rfl,found++[.tup [.int h',.int n,.int (i:Nat)]],_,rfl,by simp,by simp;omega,fun z hz=>?_⟩;obtain hz|hz:=AZ.mp hz
     ·exact hf z hz
     ·simp at hz;subst hz;exact .inr ⟨_,_,_,rfl,b1,b2,b3,b4,by omega,by omega⟩)
   have hr:-1000≤(s.length:Int)∧(s.length:Int)≤100000:=by omega
   refine⟨_,[some (.lst ops),some (.lst found2),some (.tup [.int h',.int n,.int tm,.tup [.str "write",a,b,.str s]]),y2],rfl,by push_cast[cX,Im,Ha,hsl,hr,e2],found2,_,_,rfl,f20,?_,hf2⟩;simp[Cv]at f2l;omega
  ·refine⟨_,[some (.lst ops),some (.lst found),some (.tup [.int h',.int n,.int tm,.tup (.str k::r)]),y],rfl,by push_cast[cX,hk],found,_,_,rfl,f0,by omega,hf⟩)
 refine⟨found,?_,f0,hf⟩;simp[Hc,Nd,La,Az,Am,Ab,Ad,fC,Im,Gc,Aa,Ar,e]
abbrev letters:Str:=" abcXYZ.,;!019~[]\\\"'|{}<>@#$&*()-+/=_^:?`"
theorem mV:letters.length=41:=by decide+kernel
theorem zX:letters.cps.toList.all okSign=true:=by decide+kernel
theorem a4n:(Str.ofString "").cps=#[]:=by decide+kernel
theorem a4m:(Str.ofString "").length=0:=by decide+kernel
def Li(c:Nat):D:=.str ⟨#[c]⟩
theorem vW:∀(xs:List D),(∀x∈xs,∃c,x=Li c∧okSign c=true)→∃cs:List Nat,xs=cs.map Li∧cs.all okSign=true
 |[],_=>⟨[],rfl,rfl⟩
 |x::xs,h=>by
  obtain⟨c,rfl,hc⟩:=h x AM;obtain⟨cs,rfl,hcs⟩:=vW xs fun y hy=>h y (AC _ hy)
  exact⟨c::cs,rfl,by simp only[DN,hc,hcs,FP]⟩
theorem rV:∀(cs:List Nat),Ij (cs.map Li)=some (cs.map fun c=>(⟨#[c]⟩:Str))
 |[]=>rfl
 |c::cs=>by simp only[AO,Li,Ij];rw[show List.map Li cs=List.map Li cs from rfl,rV cs];rfl
theorem xL:∀(cs:List Nat) (acc:Array Nat),(cs.map fun c=>(⟨#[c]⟩:Str)).foldl (fun acc p=>acc++(Str.ofString "").cps++p.cps) acc=acc++cs.toArray
 |[],acc=>by simp
 |c::cs,acc=>by
  rw[AO,HH,xL cs,a4n];simp
theorem a8k(cs:List Nat):Txt.join (Str.ofString "") (cs.map fun c=>(⟨#[c]⟩:Str))=⟨cs.toArray⟩:=by
 unfold Txt.join Builtin.Str.glued;cases cs with
 |nil=>rfl
 |cons c cs=>
  simp only[AO,List.drop_succ_cons,List.drop_zero,List.headD_cons];rw[xL];simp
theorem a0v:∀(cs:List Nat),((cs.map fun c=>(⟨#[c]⟩:Str)).map (·.length)).sum=cs.length
 |[]=>rfl
 |c::cs=>by
  have ih:=a0v cs;simp only[AO,EQ,AQ];rw[ih];show 1+cs.length=_;omega
theorem b0m{n most:Int}(h1:1≤most)(h16:most≤16):∃s,Iz [.int n,.int most]=some (.str s)∧Gw s=true∧1≤s.length∧s.length≤16:=by
 have hm0:0≤n%most:=DF _ (by omega);have hm1:n%most<most:=CM _ (by omega);obtain⟨N,hN⟩:∃N:Nat,(N:Int)=1+n%most:=⟨(1+n%most).toNat,by omega⟩;have hN1:1≤N:=by omega
 have hN2:N≤16:=by omega
 obtain⟨ys,e,l,hr⟩:=iU (ρ:=[none,some (.int n),some (.str letters)]) (bnd:=Ca 0) (ft:=fun _=>some true) (fe:=f2 Bl (Aa 2) (f2 Av (f2 As (Aa 1) (f2 An (fC (.int 1)) (f2 Bm (fC (.int 3)) (Aa 0)))) (fC (.int 41))))
  (fun y=>∃c,y=Li c∧okSign c=true) (Cv N) (by
   intro d hd;unfold Cv at hd;obtain⟨i,hi,rfl⟩:=CF.mp hd;have hi':=FG.mp hi;have z1:(0:Int)<1+3*(i:Int):=by omega
   have z2:1+3*(i:Int)<1073741824:=by omega
   have hlen:letters.length≤Ci:=by rw[mV];decide
   have hsz:((letters.cps.toList.length:Nat):Int)=41:=by
    have:letters.cps.toList.length=41:=by rw[←mV];simp[Str.length]
    omega
   obtain⟨c,ec,hc⟩:=rB (xs:=letters.cps.toList) (i:=n / (1+3*(i:Int))%41) (DF _ (by decide)) (by rw[hsz];exact CM _ (by decide));have hix:Bl (.str letters) (.int (n / (1+3*(i:Int))%41))=some (Li c):=by
    show(if letters.length≤Ci then(Cp letters.cps.toList _).map _ else none)=_;rw[AS hlen,ec];rfl
   refine⟨_,true,rfl,rfl,fun _=>⟨Li c,?_,c,rfl,BQ.mp zX c hc⟩⟩;simp[Ca,f2,Aa,fC,An,Bm,Bg,Ka,As,Av,z1,z2,hix])
 have l2:=nR e;obtain⟨cs,rfl,hcs⟩:=vW ys hr;have hcl:cs.length=N:=by simpa[Cv]using l2
 have hrng:-1000≤(N:Int)∧(N:Int)≤100000:=by omega
 have hc:Db 1 [0,2] (Ha (f2 An (fC (.int 1)) (f2 Av (Aa 0) (Aa 1)))) (Ca 0) (fun _=>some true) (f2 Bl (Aa 2) (f2 Av (f2 As (Aa 1) (f2 An (fC (.int 1)) (f2 Bm (fC (.int 3)) (Aa 0)))) (fC (.int 41)))) [some (.int n),some (.int most),some (.str letters)]=some (.lst (cs.map Li)):=by
  have hi:Ha (f2 An (fC (.int 1)) (f2 Av (Aa 0) (Aa 1))) [some (.int n),some (.int most),some (.str letters)]=some (Cv N):=by
   simp[Ha,f2,fC,Aa,Av,Bg,show 0<most by omega,An,←hN,hrng]
  unfold Db;rw[hi];show(if(Cv N).length≤Ci then Option.map D.lst (Cy _ _ _ [none,some (.int n),some (.str letters)] (Cv N))else none)=_;rw[AS (by simp[Cv,Ci];omega),e];rfl
 have hj:Ft (.str "") (.lst (cs.map Li))=some (.str ⟨cs.toArray⟩):=by
  unfold Ft;simp only[rV,AI,a0v,AK,a4m,Nat.mul_zero,Nat.add_zero,a8k];rw[AS (by unfold Ci;omega)]
 refine⟨⟨cs.toArray⟩,?_,?_,?_,?_⟩
 ·simp[Iz,Op,Az,Am,Ax,fC,Ar,Fw,hc,hj]
 ·simp only[Gw,Str.length,AJ,hcs,Bool.and_true,AH];omega
 ·simp only[Str.length,AJ];omega
 ·simp only[Str.length,AJ];omega
def Xj:Ac→Option Fl:=(Ax 4 (f1 Bx (Ab (Aa 0) (Ab (Aa 1) Ad))))
def Xi:Ac→Option Fl:=(Ax 5 (f1 Hd (Ab (Aa 2) Ad)))
def Xh:Ac→Option Fl:=(Ax 6 (f1 Do (Ab (f2 An (Ck (Aa 5) (Af (fC (.int 1))) Ah) (Ck (Aa 5) Ah (Af (fC (.int 1))))) (Ab (f1 Bx (Ab (Aa 0) (Ab (f2 An (Aa 1) (fC (.int 1))) Ad))) Ad))))
def Xg:Ac→Option Fl:=(Ax 7 (f1 Do (Ab (f2 An (Aa 5) (fC (.lst [.non,.non]))) (Ab (f1 Bx (Ab (Aa 0) (Ab (f2 An (Aa 1) (fC (.int 2))) Ad))) Ad))))
def Ww:Ac→Option Fl:=(Cb (fT (Bj "str" (Aa 7))) (Ax 7 (fC .non)) Ba)
def Xf:Ac→Option Fl:=(Ax 8 (fC (.lst [(.str "put"),(.str "put"),(.str "put"),(.str "move"),(.str "move"),(.str "write"),(.str "write"),(.str "cut"),(.str "set"),(.str "undo"),(.str "redo"),(.str "drop")])))
def Xe:Ac→Option Fl:=(Ax 9 (f2 Bl (Aa 8) (f2 Av (Aa 4) (fC (.int 12)))))
def Qn:Ac→Option Fl:=(Cb (fT (f2 Bc (Aa 9) (fC (.str "put")))) (Ar (Ay (Ab (Aa 9) (Ab (f1 Do (Ab (Aa 5) (Ab (f1 Bx (Ab (Aa 0) (Ab (f2 An (Aa 1) (fC (.int 1))) Ad))) Ad))) (Ab (Aa 7) Ad))))) Ba)
def Qm:Ac→Option Fl:=(Cb (fT (f2 Bc (Aa 9) (fC (.str "move")))) (Ar (Ay (Ab (Aa 9) (Ab (Aa 6) (Ab (f1 Do (Ab (Aa 5) (Ab (f1 Bx (Ab (Aa 0) (Ab (f2 An (Aa 1) (fC (.int 3))) Ad))) Ad))) (Ab (Aa 7) Ad)))))) Ba)
def Ql:Ac→Option Fl:=(Cb (fT (f2 Bc (Aa 9) (fC (.str "drop")))) (Ar (Ay (Ab (Aa 9) (Ab (Aa 6) Ad)))) Ba)
def Ma:Ac→Option Fl:=(Ax 10 (f1 Do (Ab (f1 Hc (Ab (Aa 2) Ad)) (Ab (f1 Bx (Ab (Aa 0) (Ab (f2 An (Aa 1) (fC (.int 4))) Ad))) Ad))))
def Lz:Ac→Option Fl:=(Cb (fT (f2 Bc (Aa 9) (fC (.str "write")))) (Ar (Ay (Ab (Aa 9) (Ab (Aa 6) (Ab (Aa 10) (Ab (f1 Iz (Ab (f1 Bx (Ab (Aa 0) (Ab (f2 An (Aa 1) (fC (.int 5))) Ad))) (Ab (Aa 3) Ad))) Ad)))))) Ba)
def Lx:Ac→Option Fl:=(Cb (Bh (fT (f2 Bc (Aa 9) (fC (.str "cut")))) (fT (f2 Ae (Aa 10) (fC .non)))) (Ar (Ay (Ab (Aa 9) (Ab (Aa 6) (Ab (Aa 10) (Ab (f2 An (fC (.int 1)) (f2 Av (f2 As (Aa 4) (fC (.int 12))) (f2 Br (fC (.int 16)) (f2 Bl (Aa 10) (fC (.int 2)))))) Ad)))))) Ba)
def Lw:Ac→Option Fl:=(Cb (fT (f2 (Iy false) (Aa 9) (fC (.tup [(.str "cut"),(.str "set")])))) (Ar (Ay (Ab (fC (.str "set")) (Ab (Aa 6) (Ab (f2 Av (f2 As (Aa 4) (fC (.int 12))) (fC (.int 4))) (Ab (f2 Br (f2 Av (f2 As (Aa 4) (fC (.int 48))) (fC (.int 2000))) (fC (.int 1000))) Ad)))))) Ba)
def Lu:Ac→Option Fl:=(Ax 11 (f2 An (Db 1 [] (Gc (Aa 2)) (Ca 0) (fun _=>some true) (Ay (Ab (f2 Bl (Aa 0) (fC (.int 0))) (Ab (f2 Bl (Aa 0) (fC (.int 1))) Ad)))) (Bd (Ab (Ay (Ab (fC (.int 0)) (Ab (f2 An (fC (.int 1)) (f2 Av (Aa 4) (fC (.int 5)))) Ad))) Ad))))
def Ls:Ac→Option Fl:=(Ar (Ay (Ab (Aa 9) (Ab (f1 Do (Ab (Aa 11) (Ab (f1 Bx (Ab (Aa 0) (Ab (f2 An (Aa 1) (fC (.int 1))) Ad))) Ad))) Ad))))
def Pk:Ac→Option Fl:=(Am Qn (Am Qm (Am Ql (Am Ma (Am Lz (Am Lx (Am Lw (Am Lu Ls))))))))
theorem a3d:Km=(Am Xj (Am Xi (Am Xh (Am Xg (Am Ww (Am Xf (Am Xe Pk))))))):=rfl
theorem bT{q1 q2:Ac→Option Fl}{ρ ρ':Ac}(h:q1 ρ=some (.nx ρ')):Am q1 q2 ρ=q2 ρ':=by simp[Am,h]
theorem tQ{q1 q2:Ac→Option Fl}{ρ:Ac}(h:q1 ρ=some (.rt d)):Am q1 q2 ρ=some (.rt d):=by simp[Am,h]
theorem eB{f:Ac→Option D}{ρ:Ac}{i:Nat}(h:f ρ=some d):Ax i f ρ=some (.nx (ρ.set i (some d))):=by simp[Ax,h]
abbrev Iw:List D:=[.str "put",.str "put",.str "put",.str "move",.str "move",.str "write",.str "write",.str "cut",.str "set",.str "undo",.str "redo",.str "drop"]
def KindOk(k:Str):Prop:=k="put"∨k="move"∨k="write"∨k="cut"∨k="set"∨k="undo"∨k="redo"∨k="drop"
theorem yA{α:Type}{xs:List α}{lo hi:Option Int}{x:α}(h:x∈Ao xs lo hi):x∈xs:=GH (FD h)
def Lh:D→D
 |.str _=>.non
 |d=>d
theorem xJ(h:Eu d∨d=.non):(Bs "str" d=some true∧Lh d=.non)∨(Bs "str" d=some false∧Lh d=d∧No d):=by
 rcases h with(rfl|rfl|⟨a,b,rfl,h⟩)|rfl
 ·exact .inl ⟨rfl,rfl⟩
 ·exact .inl ⟨rfl,rfl⟩
 ·exact .inr ⟨rfl,rfl,.inr ⟨a,b,rfl,h⟩⟩
 ·exact .inr ⟨rfl,rfl,.inl rfl⟩
theorem b7f(ns:List Int){base most:Int}{ops:List D}(h:∀o∈ops,Pg o)(hl:ops.length≤100):∃m0 its item other k,0≤m0∧its≠[]∧(∀x∈its,Eu x)∧Eu item∧No other∧KindOk k∧
  Km [some (Ga ns),some (.int base),some (.lst ops),some (.int most),none,none,none,none,none,none,none,none]=Pk [some (Ga ns),some (.int base),some (.lst ops),some (.int most),some (.int m0),some (.lst its),some item,some other,some (.lst Iw),some (.str k),none,none]:=by
 obtain⟨m0,e0,p0,_⟩:=dL ns (k:=base);obtain⟨m1,e1,_,_⟩:=dL ns (k:=base+1);obtain⟨m2,e2,_,_⟩:=dL ns (k:=base+2);obtain⟨its,ei,i3,i200,hits⟩:=a8l h hl;have hi0:its≠[]:=by intro z;subst z;simp at i3
 have rl:(Ao its (some 1) none++Ao its none (some 1))≠[]:=by
  intro z;have z2:=congrArg List.length z;simp[Ao,HT.sIx]at z2;omega
 have hcl:(Ao its (some 1) none).length+(Ao its none (some 1)).length≤Ci:=by
  simp[Ao,HT.sIx,Ci];omega
 obtain⟨item,ep,mp⟩:=gA (n:=m1) rl;have hitem:Eu item:=by
  obtain z|z:=AZ.mp mp
  ·exact hits _ (yA z)
  ·exact hits _ (yA z)
 have a1:An (.lst (Ao its (some 1) none)) (.lst (Ao its none (some 1)))=some (.lst (Ao its (some 1) none++Ao its none (some 1))):=by
  show(if _≤Ci then _ else none)=_;rw[AS hcl]
 have a2:An (.lst its) (.lst [.non,.non])=some (.lst (its++[.non,.non])):=by
  show(if its.length+2≤Ci then _ else none)=_;rw[AS (by unfold Ci;omega)]
 obtain⟨oth,eo,mo⟩:=gA (n:=m2) (xs:=its++[.non,.non]) (by simp);have hoth:Eu oth∨oth=.non:=by
  obtain z|z:=AZ.mp mo
  ·exact .inl (hits _ z)
  ·simp at z;exact .inr z
 have hos:No (Lh oth):=by
  obtain⟨_,z⟩|⟨_,z,y⟩:=xJ hoth
  ·rw[z];exact .inl rfl
  ·rw[z];exact y
 obtain⟨kd,ek,mk⟩:=rB (xs:=Iw) (i:=m0%12) (DF _ (by decide)) (by show _<(12:Int);exact CM _ (by decide));obtain⟨k,rfl,hk⟩:∃k,kd=.str k∧KindOk k:=by
  simp[Iw]at mk;unfold KindOk;obtain rfl|rfl|rfl|rfl|rfl|rfl|rfl|rfl:=mk<;>exact⟨_,rfl,by simp⟩
 have ek':Bl (.lst Iw) (.int (m0%12))=some (.str k):=ek;refine⟨m0,its,item,Lh oth,k,p0,hi0,hits,hitem,hos,hk,?_⟩;rw[a3d];rw[bT (ρ':=[some (Ga ns),some (.int base),some (.lst ops),some (.int most),some (.int m0),none,none,none,none,none,none,none]) (eB (by simp[f1,Ab,Aa,Ad,e0]))];rw[bT (ρ':=[some (Ga ns),some (.int base),some (.lst ops),some (.int most),some (.int m0),some (.lst its),none,none,none,none,none,none]) (eB (by simp[f1,Ab,Aa,Ad,ei]))];rw[bT (ρ':=[some (Ga ns),some (.int base),some (.lst ops),some (.int most),some (.int m0),some (.lst its),some item,none,none,none,none,none]) (eB (by
  have b1:An (.int base) (.int 1)=some (.int (base+1)):=rfl;simp[f1,Ab,Aa,Ad,f2,Ck,Aj,Af,Ah,fC,a1,b1,e1,ep]))]
 rw[bT (ρ':=[some (Ga ns),some (.int base),some (.lst ops),some (.int most),some (.int m0),some (.lst its),some item,some oth,none,none,none,none]) (eB (by
  have b1:An (.int base) (.int 2)=some (.int (base+2)):=rfl;simp[f1,Ab,Aa,Ad,f2,fC,a2,b1,e2,eo]))]
 rw[bT (ρ':=[some (Ga ns),some (.int base),some (.lst ops),some (.int most),some (.int m0),some (.lst its),some item,some (Lh oth),none,none,none,none]) (by
  obtain⟨z1,z2⟩|⟨z1,z2,_⟩:=xJ hoth<;>simp[Ww,Cb,fT,Bj,Aa,z1,z2,Ba,Ax,fC])]
 rw[bT (ρ':=[some (Ga ns),some (.int base),some (.lst ops),some (.int most),some (.int m0),some (.lst its),some item,some (Lh oth),some (.lst Iw),none,none,none]) (eB (by rfl))];rw[bT (ρ':=[some (Ga ns),some (.int base),some (.lst ops),some (.int most),some (.int m0),some (.lst its),some item,some (Lh oth),some (.lst Iw),some (.str k),none,none]) (eB (by simp[f2,Aa,fC,Av,Bg,ek']))]
theorem a2f(ns:List Int){base most:Int}{ops:List D}(h:∀o∈ops,Pg o)(hl:ops.length≤100)(hm1:1≤most)(hm16:most≤16):∃d,Fh [Ga ns,.int base,.lst ops,.int most]=some d∧DG d:=by
 obtain⟨m0,its,item,other,k,p0,hi0,hits,hitem,hoth,hk,hA⟩:=b7f ns (base:=base) (most:=most) h hl;have fin:∀d,Pk [some (Ga ns),some (.int base),some (.lst ops),some (.int most),some (.int m0),some (.lst its),some item,some other,some (.lst Iw),some (.str k),none,none]=some (.rt d)→Fh [Ga ns,.int base,.lst ops,.int most]=some d:=fun d e=>by
  unfold Fh Az;rw[AS (by rfl)];show(match Km [some (Ga ns),some (.int base),some (.lst ops),some (.int most),none,none,none,none,none,none,none,none]with|some (.rt d)=>some d|some (.nx _)=>some .non|none=>none)=_;rw[hA,e]
 clear hA;obtain⟨m1,e1,_,_⟩:=dL ns (k:=base+1);obtain⟨m3,e3,_,_⟩:=dL ns (k:=base+3);obtain⟨m4,e4,_,_⟩:=dL ns (k:=base+4);obtain⟨m5,e5,_,_⟩:=dL ns (k:=base+5);obtain⟨p1,ep1,mp1⟩:=gA (n:=m1) hi0;obtain⟨p3,ep3,mp3⟩:=gA (n:=m3) hi0;have np1:=hits _ mp1;have np3:=hits _ mp3;obtain⟨ss,es,hs0,hss⟩:=a5n h hl;obtain⟨sg,eg,mg⟩:=gA (n:=m4) hs0;have hsg:=hss _ mg;obtain⟨tx,et,ht1,ht0,ht2⟩:=b0m (n:=m5) hm1 hm16;unfold KindOk at hk;obtain rfl|rfl|rfl|rfl|rfl|rfl|rfl|rfl:=hk
 ·refine⟨.tup [.str "put",p1,other],fin _ (by push_cast[Pk,Qn,Qm,Ql,Ma,Lz,Lx,Lw,Lu,Ls,Cb,cX,in2,nI,nL,nJ,nN,lA,kR,jZ,kB,qE,qD,nG,mX,nH,nF,e1,ep1]),.put np1 hoth⟩
 ·refine⟨.tup [.str "move",item,p3,other],fin _ (by push_cast[Pk,Qn,Qm,Ql,Ma,Lz,Lx,Lw,Lu,Ls,Cb,cX,in2,nL,nI,lD,lG,jR,jN,iJ,iN,nK,nA,lB,kT,lC,kY,e3,ep3]),.move hitem np3 hoth⟩
 ·refine⟨.tup [.str "write",item,sg,.str tx],fin _ (by push_cast[Pk,Qn,Qm,Ql,Ma,Lz,Lx,Lw,Lu,Ls,Cb,cX,in2,kR,lA,jN,jR,jO,jS,gD,gE,kQ,kW,jL,jP,jM,jQ,es,e4,eg,e5,et]),.write hitem hsg ht1 ht0 ht2⟩
 ·
  obtain rfl|⟨a,b,c,rfl,h1,h2,h3,h4,c0,c15⟩:=hsg
  ·exact⟨.tup [.str "set",item,.int (m0 / 12%4),.int (m0 / 48%2000 - 1000)],fin _ (by push_cast[Pk,Qn,Qm,Ql,Ma,Lz,Lx,Lw,Lu,Ls,Cb,cX,in2,kB,jZ,iN,iJ,iO,iK,gE,gD,kA,jY,iL,iH,iM,iI,es,e4,eg]),.set hitem (by omega) (by omega) (by omega)⟩
  ·have hc:0<16 - c:=by omega
   have hc':c<16:=by omega
   have q1:0≤m0 / 12%(16 - c):=DF _ (by omega);have q2:m0 / 12%(16 - c)<16 - c:=CM _ hc;exact⟨.tup [.str "cut",item,.tup [.int a,.int b,.int c],.int (1+m0 / 12%(16 - c))],fin _ (by push_cast[Pk,Qn,Qm,Ql,Ma,Lz,Lx,Lw,Lu,Ls,Cb,cX,in2,kB,jZ,iN,iJ,iO,iK,gE,gD,kA,jY,iL,iH,iM,iI,es,e4,eg,hc,hc']),.cut hitem ⟨a,b,c,rfl,h1,h2,h3,h4,c0,c15⟩ (by omega) (by omega)⟩
 ·exact⟨.tup [.str "set",item,.int (m0 / 12%4),.int (m0 / 48%2000 - 1000)],fin _ (by push_cast[Pk,Qn,Qm,Ql,Ma,Lz,Lx,Lw,Lu,Ls,Cb,cX,in2,qD,qE,nA,nK,nB,nM,kW,kQ,jY,kA,mY,mW,mZ,nE,es,e4,eg]),.set hitem (by omega) (by omega) (by omega)⟩
 ·
  obtain⟨ys,e,l,hr⟩:=iU (ρ:=[none]) (bnd:=Ca 0) (ft:=fun _=>some true) (fe:=Ay (Ab (f2 Bl (Aa 0) (fC (.int 0))) (Ab (f2 Bl (Aa 0) (fC (.int 1))) Ad)))
   (fun y=>Gi y) ops (by
    intro o ho;obtain⟨h',n,tm,d,rfl,b1,b2,b3,b4,_⟩:=h o ho;refine⟨_,true,rfl,rfl,fun _=>⟨_,by push_cast,⟨_,_,rfl,b1,b2,b3,b4⟩⟩⟩)
  have hc:Db 1 [] (Gc (Aa 2)) (Ca 0) (fun _=>some true) (Ay (Ab (f2 Bl (Aa 0) (fC (.int 0))) (Ab (f2 Bl (Aa 0) (fC (.int 1))) Ad))) [some (Ga ns),some (.int base),some (.lst ops),some (.int most),some (.int m0),some (.lst its),some item,some other,some (.lst Iw),some (.str "undo"),some sg,none]=some (.lst ys):=by
   show(if ops.length≤Ci then Option.map D.lst (Cy _ _ _ [none] ops)else none)=_;rw[AS (by unfold Ci;omega),e];rfl
  have a1:An (.lst ys) (.lst [.tup [.int 0,.int (1+m0%5)]])=some (.lst (ys++[.tup [.int 0,.int (1+m0%5)]])):=by
   show(if ys.length+1≤Ci then _ else none)=_;rw[AS (by unfold Ci;omega)]
  obtain⟨nm,en,mn⟩:=gA (n:=m1) (xs:=ys++[.tup [.int 0,.int (1+m0%5)]]) (by simp);have nn:Gi nm:=by
   obtain z|z:=AZ.mp mn
   ·exact hr _ z
   ·simp at z;subst z;exact⟨_,_,rfl,by decide,by decide,by omega,by omega⟩
  have b1:An (.int base) (.int 1)=some (.int (base+1)):=rfl;have b4:An (.int base) (.int 4)=some (.int (base+4)):=rfl;have b5:An (.int 1) (.int (m0%5))=some (.int (1+m0%5)):=rfl;exact⟨.tup [.str "undo",nm],fin _ (by simp[Pk,Qn,Qm,Ql,Ma,Lz,Lx,Lw,Lu,Ls,Az,Ar,Am,Cb,Ax,Ba,Aq,Bo,Aw,Bh,Cn,Be,fT,Bj,Aa,Bs,f2,De,Co,Dg,Di,Dd,Au,Bg,f1,Ab,Ad,Bt,fC,Bu,Ai,Br,Bm,Av,As,Bb,Bl,Cp,Ct,Ay,Bd,Ck,Aj,Ah,Af,Al,Ae,Cu,Ao,HT.sIx,List.getElem?_cons_zero,List.getElem?_cons_succ,Cb,cX,in2,mX,nG,kT,lB,kU,lE,jP,jL,iH,iL,mW,mY,kS,kX,es,e4,eg,e1,hc,a1,b1,b4,b5,en]),.undo nn⟩
 ·
  obtain⟨ys,e,l,hr⟩:=iU (ρ:=[none]) (bnd:=Ca 0) (ft:=fun _=>some true) (fe:=Ay (Ab (f2 Bl (Aa 0) (fC (.int 0))) (Ab (f2 Bl (Aa 0) (fC (.int 1))) Ad)))
   (fun y=>Gi y) ops (by
    intro o ho;obtain⟨h',n,tm,d,rfl,b1,b2,b3,b4,_⟩:=h o ho;refine⟨_,true,rfl,rfl,fun _=>⟨_,by push_cast,⟨_,_,rfl,b1,b2,b3,b4⟩⟩⟩)
  have hc:Db 1 [] (Gc (Aa 2)) (Ca 0) (fun _=>some true) (Ay (Ab (f2 Bl (Aa 0) (fC (.int 0))) (Ab (f2 Bl (Aa 0) (fC (.int 1))) Ad))) [some (Ga ns),some (.int base),some (.lst ops),some (.int most),some (.int m0),some (.lst its),some item,some other,some (.lst Iw),some (.str "redo"),some sg,none]=some (.lst ys):=by
   show(if ops.length≤Ci then Option.map D.lst (Cy _ _ _ [none] ops)else none)=_;rw[AS (by unfold Ci;omega),e];rfl
  have a1:An (.lst ys) (.lst [.tup [.int 0,.int (1+m0%5)]])=some (.lst (ys++[.tup [.int 0,.int (1+m0%5)]])):=by
   show(if ys.length+1≤Ci then _ else none)=_;rw[AS (by unfold Ci;omega)]
  obtain⟨nm,en,mn⟩:=gA (n:=m1) (xs:=ys++[.tup [.int 0,.int (1+m0%5)]]) (by simp);have nn:Gi nm:=by
   obtain z|z:=AZ.mp mn
   ·exact hr _ z
   ·simp at z;subst z;exact⟨_,_,rfl,by decide,by decide,by omega,by omega⟩
  have b1:An (.int base) (.int 1)=some (.int (base+1)):=rfl;have b4:An (.int base) (.int 4)=some (.int (base+4)):=rfl;have b5:An (.int 1) (.int (m0%5))=some (.int (1+m0%5)):=rfl;exact⟨.tup [.str "redo",nm],fin _ (by simp[Pk,Qn,Qm,Ql,Ma,Lz,Lx,Lw,Lu,Ls,Az,Ar,Am,Cb,Ax,Ba,Aq,Bo,Aw,Bh,Cn,Be,fT,Bj,Aa,Bs,f2,De,Co,Dg,Di,Dd,Au,Bg,f1,Ab,Ad,Bt,fC,Bu,Ai,Br,Bm,Av,As,Bb,Bl,Cp,Ct,Ay,Bd,Ck,Aj,Ah,Af,Al,Ae,Cu,Ao,HT.sIx,List.getElem?_cons_zero,List.getElem?_cons_succ,Cb,cX,in2,nF,nH,kY,lC,kZ,lF,jQ,jM,iI,iM,nE,mZ,kX,kS,es,e4,eg,e1,hc,a1,b1,b4,b5,en]),.redo nn⟩
 ·refine⟨.tup [.str "drop",item],fin _ (by push_cast[Pk,Qn,Qm,Ql,Ma,Lz,Lx,Lw,Lu,Ls,Cb,cX,in2,nN,nJ,lG,lD,jS,jO,iK,iO,nM,nB,lE,kU,lF,kZ,e1]),.drop hitem⟩
theorem dF(h:Eu d):Dt d=true:=by
 obtain rfl|rfl|⟨a,b,rfl,_⟩:=h<;>simp[Dt,Dv]
theorem rX(h:No d):Dt d=true:=by
 obtain rfl|⟨a,b,rfl,_⟩:=h<;>simp[Dt,Dv]
theorem pQ(h:Gi d):Dt d=true:=by
 obtain⟨a,b,rfl,_⟩:=h;simp[Dt,Dv]
theorem yL(h:Lq d):Dt d=true:=by
 obtain rfl|⟨a,b,c,rfl,_⟩:=h<;>simp[Dt,Dv]
theorem a0d(h:DG d):Dt d=true:=by
 cases h with
 |put h1 h2=>simp[Dt,Dv,dF h1,rX h2]
 |move h1 h2 h3=>simp[Dt,Dv,dF h1,dF h2,rX h3]
 |drop h1=>simp[Dt,Dv,dF h1]
 |write h1 h2=>simp[Dt,Dv,dF h1,yL h2]
 |cut h1=>simp[Dt,Dv,dF h1]
 |set h1=>simp[Dt,Dv,dF h1]
 |undo h1=>simp[Dt,Dv,pQ h1]
 |redo h1=>simp[Dt,Dv,pQ h1]
abbrev Mc:Ac→Option Fl:=(Am (Ax 7 (f1 Bx (Ab (Aa 0) (Ab (f2 An (Aa 1) (f2 Bm (fC (.int 7)) (Aa 6))) Ad))))
 (Am (Ax 8 (f2 Av (Aa 7) (fC (.int 3))))
 (Am (Na 4 (Aa 8) (f2 An (Ke 4 (Aa 8)) (fC (.int 1))))
 (Am (Na 5 (Aa 8) (f2 An (f2 An (Ke 5 (Aa 8)) (fC (.int 1))) (f2 Av (f2 As (Aa 7) (fC (.int 3))) (fC (.int 3)))))
 (Am (Ax 9 (Mk (f1 Fh (Ab (Aa 0) (Ab (f2 An (f2 An (Aa 1) (f2 Bm (fC (.int 7)) (Aa 6))) (fC (.int 1))) (Ab (Aa 3) (Ab (fC (.int 5)) Ad)))))))
 (Gn 3 (Ay (Ab (f2 Bl (fC (.lst [(.int 0),(.int 5),(.int 15)])) (Aa 8)) (Ab (Ke 4 (Aa 8)) (Ab (Ke 5 (Aa 8)) (Ab (Aa 9) Ad)))))))))))
theorem a4x(ns:List Int)(base:Int)(N:Nat)(hN:N≤100):∃ops,Hb [Ga ns,.int base,.int N]=some (.lst ops)∧ops.length=N∧∀o∈ops,Pg o:=by
 let P:Nat→Ac→Prop:=fun i ρ=>∃ops c0 c1 c2 t0 t1 t2 x6 x7 x8 x9,ρ=[some (Ga ns),some (.int base),some (.int N),some (.lst ops),some (.lst [.int c0,.int c1,.int c2]),some (.lst [.int t0,.int t1,.int t2]),x6,x7,x8,x9]∧ops.length=i∧(∀o∈ops,Pg o)∧
  (0≤c0∧c0≤i)∧(0≤c1∧c1≤i)∧(0≤c2∧c2≤i)
 obtain⟨ρ',e,ops,c0,c1,c2,t0,t1,t2,x6,x7,x8,x9,rfl,hl,ho,_⟩:=iD (bnd:=Hm 6) (q:=Mc) P (Cv N) 0
  [some (Ga ns),some (.int base),some (.int N),some (.lst []),some (.lst [.int 0,.int 0,.int 0]),some (.lst [.int 0,.int 0,.int 0]),none,none,none,none]
  ⟨[],0,0,0,0,0,0,none,none,none,none,rfl,rfl,fun o h=>(by cases h),by simp,by simp,by simp⟩ (by
   rintro j d ρ hd ⟨ops,c0,c1,c2,t0,t1,t2,x6,x7,x8,x9,rfl,hl,ho,h0,h1,h2⟩;unfold Cv at hd;rw[BO]at hd;obtain⟨i',hi',rfl⟩:=AF.mp hd;obtain⟨hlt,he⟩:=AT.mp hi';rw[GO]at he;subst he;rw[FA]at hlt;obtain⟨m,em,m0,_⟩:=dL ns (k:=base+7*(j:Nat));obtain⟨dd,ed,hd⟩:=a2f ns (base:=base+7*(j:Nat)+1) (most:=5) ho (by omega) (by decide) (by decide);have nd:=a0d hd;have hb:ops.length<Ci:=by unfold Ci;omega
   have hat:m%3=0∨m%3=1∨m%3=2:=by omega
   obtain z|z|z:=hat
   ·refine⟨_,[some (Ga ns),some (.int base),some (.int N),some (.lst (ops++[.tup [.int 0,.int (c0+1),.int (t0+1+m / 3%3),dd]])),some (.lst [.int (c0+1),.int c1,.int c2]),some (.lst [.int (t0+1+m / 3%3),.int t1,.int t2]),some (.int (j:Nat)),some (.int m),some (.int 0),some dd],rfl,
     by push_cast[Mc,Na,Ke,Gn,Mk,Ka,em,ed,nd,z,hb],_,_,_,_,_,_,_,_,_,_,_,rfl,by simp;omega,?_,by omega,by omega,by omega⟩
    intro o hh;obtain hh|hh:=AZ.mp hh
    ·exact ho o hh
    ·simp at hh;subst hh;exact⟨_,_,_,_,rfl,by decide,by decide,by omega,by omega,hd⟩
   ·refine⟨_,[some (Ga ns),some (.int base),some (.int N),some (.lst (ops++[.tup [.int 5,.int (c1+1),.int (t1+1+m / 3%3),dd]])),some (.lst [.int c0,.int (c1+1),.int c2]),some (.lst [.int t0,.int (t1+1+m / 3%3),.int t2]),some (.int (j:Nat)),some (.int m),some (.int 1),some dd],rfl,
     by push_cast[Mc,Na,Ke,Gn,Mk,Ka,em,ed,nd,z,hb],_,_,_,_,_,_,_,_,_,_,_,rfl,by simp;omega,?_,by omega,by omega,by omega⟩
    intro o hh;obtain hh|hh:=AZ.mp hh
    ·exact ho o hh
    ·simp at hh;subst hh;exact⟨_,_,_,_,rfl,by decide,by decide,by omega,by omega,hd⟩
   ·refine⟨_,[some (Ga ns),some (.int base),some (.int N),some (.lst (ops++[.tup [.int 15,.int (c2+1),.int (t2+1+m / 3%3),dd]])),some (.lst [.int c0,.int c1,.int (c2+1)]),some (.lst [.int t0,.int t1,.int (t2+1+m / 3%3)]),some (.int (j:Nat)),some (.int m),some (.int 2),some dd],rfl,
     by push_cast[Mc,Na,Ke,Gn,Mk,Ka,em,ed,nd,z,hb],_,_,_,_,_,_,_,_,_,_,_,rfl,by simp;omega,?_,by omega,by omega,by omega⟩
    intro o hh;obtain hh|hh:=AZ.mp hh
    ·exact ho o hh
    ·simp at hh;subst hh;exact⟨_,_,_,_,rfl,by decide,by decide,by omega,by omega,hd⟩)
 refine⟨ops,?_,by simpa[Cv]using hl,ho⟩;have hr:-1000≤(N:Int)∧(N:Int)≤100000:=by omega
 have hf:Im (Ha (Aa 2)) (Hm 6) Mc [some (Ga ns),some (.int base),some (.int N),some (.lst []),some (.lst [.int 0,.int 0,.int 0]),some (.lst [.int 0,.int 0,.int 0]),none,none,none,none]=some (.nx [some (Ga ns),some (.int base),some (.int N),some (.lst ops),some (.lst [.int c0,.int c1,.int c2]),some (.lst [.int t0,.int t1,.int t2]),x6,x7,x8,x9]):=by
  have hi:Ha (Aa 2) [some (Ga ns),some (.int base),some (.int N),some (.lst []),some (.lst [.int 0,.int 0,.int 0]),some (.lst [.int 0,.int 0,.int 0]),none,none,none,none]=some (Cv N):=by
   simp[Ha,Aa,hr]
  unfold Im;rw[hi];exact e
 have hq:Lg [some (Ga ns),some (.int base),some (.int N),none,none,none,none,none,none,none]=some (.rt (.lst ops)):=by
  show Am (La 3 Ad) (Am (La 4 (Ab (fC (.int 0)) (Ab (fC (.int 0)) (Ab (fC (.int 0)) Ad)))) (Am (La 5 (Ab (fC (.int 0)) (Ab (fC (.int 0)) (Ab (fC (.int 0)) Ad)))) (Am (Im (Ha (Aa 2)) (Hm 6) Mc) (Ar (Aa 3))))) _=_;rw[bT (ρ':=[some (Ga ns),some (.int base),some (.int N),some (.lst []),none,none,none,none,none,none]) rfl];rw[bT (ρ':=[some (Ga ns),some (.int base),some (.int N),some (.lst []),some (.lst [.int 0,.int 0,.int 0]),none,none,none,none,none]) rfl];rw[bT (ρ':=[some (Ga ns),some (.int base),some (.int N),some (.lst []),some (.lst [.int 0,.int 0,.int 0]),some (.lst [.int 0,.int 0,.int 0]),none,none,none,none]) rfl];rw[bT hf];rfl
 unfold Hb Az;rw[AS (by rfl)];show(match Lg [some (Ga ns),some (.int base),some (.int N),none,none,none,none,none,none,none]with|some (.rt d)=>some d|some (.nx _)=>some .non|none=>none)=_;rw[hq]
end K03
namespace K03
open PySem L2 DL TX NumText
theorem fH(s:Str):mk s.cps.toList=s:=by unfold mk;simp
theorem eY(w:List Nat):(mk w).cps.toList=w:=by simp[mk]
abbrev W(w:List Nat):D:=.str (mk w)
theorem cS(w:List Nat):(mk w).length=w.length:=by simp[mk,Str.length]
theorem a7w{a b:List Nat}(h:mk a=mk b):a=b:=by
 have:=congrArg (fun s=>s.cps.toList) h;simpa[mk]using this
theorem kH(a b:List Nat):(mk a==mk b)=decide (a=b):=by
 by_cases h:a=b
 ·simp[h]
 ·have:¬mk a=mk b:=fun z=>h (a7w z);simp[h,this]
theorem vC:(Str.ofString ".")=⟨#[46]⟩:=by decide+kernel
theorem fW:(Str.ofString " ")=⟨#[32]⟩:=by decide+kernel
theorem iC:(Str.ofString "-")=mk [45]:=by decide+kernel
theorem oB:(Str.ofString "root")=mk [114,111,111,116]:=by decide+kernel
theorem vJ:(Str.ofString "bin")=mk [98,105,110]:=by decide+kernel
theorem lO:(Str.ofString "root").cps.toList=[114,111,111,116]:=by decide+kernel
theorem oM:(Str.ofString "bin").cps.toList=[98,105,110]:=by decide+kernel
theorem lU{c lim:Nat}(w:List Nat)(hc:c<256):DL.Ex (mk w) ⟨#[c]⟩ lim=(cutC c lim w).map mk:=by
 have hpar:=a3l (mk w) c lim;rw[eY]at hpar;have hone:(⟨#[c]⟩:Str).length=1:=rfl;unfold DL.Ex;rw[hone];split
 ·rename_i h;have hk:Builtin.Str.strKind (⟨#[c]⟩:Str)=1:=by
   unfold Builtin.Str.strKind;simp[hc]
  rw[BZ,AH,AH,hk]at h;have hk2:1≤Builtin.Str.strKind (mk w):=by
   unfold Builtin.Str.strKind;split
   ·exact AU _
   ·split<;>decide
  have h0:w.length<1:=by
   obtain h|h:=h
   ·rwa[cS]at h
   ·omega
  have hj:w=[]:=List.eq_nil_of_length_eq_zero (by omega);subst hj;rw[show cutC c lim []=[[]]by simp[cutC]];rfl
 ·split
  ·rename_i h;rw[List.isEmpty_iff]at h;rw[←hpar,h];unfold Builtin.Str.partsBetween;simp[Builtin.Str.strSub,mk,Str.length]
  ·exact hpar
theorem a2k{c:Nat}:∀{n:Nat} {w:List Nat} {v:List Nat},v∈cutC c n w→v.length≤w.length∧∀x∈v,x∈w:=by
 intro n w
 induction w generalizing n with
 |nil=>intro v hv;simp[cutC]at hv;subst hv;simp
 |cons x w ih=>
  intro v hv;have hcons:∀{l:List (List Nat)},(∀u∈l,u.length≤w.length∧∀y∈u,y∈w)→v∈Gh x l→v.length≤(x::w).length∧∀y∈v,y∈x::w:=by
   intro l hl hv;cases l with
   |nil=>simp[Gh]at hv;subst hv;simp
   |cons u us=>
    simp[Gh]at hv;obtain rfl|hv:=hv
    ·have:=hl u AM;refine⟨by simp;exact this.1,fun y hy=>?_⟩;obtain rfl|hy:=AN.mp hy
     ·simp
     ·exact AC _ (this.2 y hy)
    ·have:=hl v (AC _ hv);exact⟨by simp;omega,fun y hy=>AC _ (this.2 y hy)⟩
  unfold cutC at hv;split at hv
  ·split at hv
   ·exact hcons (fun u hu=>ih hu) hv
   ·obtain rfl|hv:=AN.mp hv
    ·simp
    ·have:=ih hv;exact⟨by simp;omega,fun y hy=>AC _ (this.2 y hy)⟩
  ·exact hcons (fun u hu=>ih hu) hv
theorem sY{x:Nat}{l:List (List Nat)}(h:l≠[]):(Gh x l).length=l.length:=by
 cases l with
 |nil=>exact absurd rfl h
 |cons u us=>rfl
theorem oK(c:Nat):∀(n:Nat) (w:List Nat),(cutC c n w).length≤w.length+1:=by
 intro n w
 induction w generalizing n with
 |nil=>simp[cutC]
 |cons x w ih=>
  unfold cutC;split
  ·split
   ·rw[sY (gK c _ _)];have:=ih 0;simp;omega
   ·rename_i m;have:=ih m;simp;omega
  ·rw[sY (gK c _ _)];have:=ih n;simp;omega
theorem qG(c x:Nat)(l:List (List Nat))(h:l≠[]):joinL c (Gh x l)=x::joinL c l:=by
 cases l with
 |nil=>exact absurd rfl h
 |cons u us=>
  cases us with
  |nil=>rfl
  |cons v vs=>show joinL c ((x::u)::v::vs)=_;rw[bK (w:=x::u) (by simp),bK (w:=u) (by simp)];rfl
theorem lH(c:Nat):∀(n:Nat) (w:List Nat),joinL c (cutC c n w)=w:=by
 intro n w
 induction w generalizing n with
 |nil=>rfl
 |cons x w ih=>
  unfold cutC;split
  ·rename_i hx;subst hx;split
   ·rw[qG _ _ _ (gK _ _ _),ih]
   ·rw[bK (gK _ _ _),ih];rfl
  ·rw[qG _ _ _ (gK _ _ _),ih]
end K03
namespace K03
open PySem L2 DL TX NumText
variable{t:Adr}
def Rq(t:Adr)(r:Option D)(M:Mh)(R:D→Mh→Prop)(E:EK):Prop:=match r with|some d=>R d M|none=>E t.NoDeed M
def Fe(w:List Nat):Prop:=w.length≤600∧∀c∈w,okSign c=true
theorem a0q{w:List Nat}(h:Fe w):(reprText (mk w)).length+100≤sizeLine:=by
 have:=StrLaws.reprText_len (mk w) (by
  intro c hc;rw[eY]at hc;have:=h.2 c hc;simp[okSign]at this;omega)
 rw[cS]at this;have:=h.1;rw[DV];omega
theorem lS{c n:Nat}{w v:List Nat}(h:Fe w)(hv:v∈cutC c n w):Fe v:=by
 have:=a2k hv;exact⟨by have:=h.1;omega,fun x hx=>h.2 x (this.2 x hx)⟩
def Ir(w:List Nat):Option D:=(PySem.intText? (mk w)).map D.int
theorem zN{w:List Nat}(h:Fe w){M:Mh}{R:D→Mh→Prop}{E:EK}(k:Rq t (Ir w) M R E):Ee t [W w] M R E:=by
 have h1:=h.1;have h2:=a0q h;refine⟨rfl,mk w,rfl,by rw[cS];omega,by omega,?_⟩;unfold Rq Ir at k;cases e:PySem.intText? (mk w)with
 |none=>
  rw[e]at k;exact .inr ⟨rfl,mk w,rfl,by omega,fun _=>k⟩
 |some n=>
  rw[e]at k;exact .inl ⟨n,rfl,k⟩
def Ey(f:List Nat→Option D):List (List Nat)→Option (List D)
 |[]=>some []
 |w::ws=>(f w).bind fun d=>(Ey f ws).map (d::·)
theorem oN{g:Pl}{f:List Nat→Option D}{E:EK}:∀(ws:List (List Nat)),(∀w∈ws,∀M R,Rq t (f w) M R E→g [W w] M R E)→∀{M:Mh} {R:List D→Mh→Prop},(match Ey f ws with|some ds=>R ds M|none=>E t.NoDeed M)→
  Kd (Ca 0) (fun _=>True) (fun ρ M R=>R true M) (Fk 1 g E (Dh (wl (Aa 0)) Dx)) [none] (ws.map W) M R
 |[],h,M,R,k=>⟨trivial,k⟩
 |w::ws,h,M,R,k=>by
  refine⟨trivial,?_⟩;show Fk 1 g E (Dh (wl (Aa 0)) Dx) [some (W w)] M (fun y M2=>Kd (Ca 0) (fun _=>True) (fun ρ M R=>R true M) (Fk 1 g E (Dh (wl (Aa 0)) Dx)) [none] (ws.map W) M2 fun ys M3=>R (y::ys) M3);refine⟨rfl,h w AM _ _ ?_⟩;unfold Rq;unfold Ey at k;cases e:f w with
  |none=>rw[e]at k;exact k
  |some d=>
   rw[e,AI]at k;refine oN ws (fun v hv=>h v (AC _ hv)) ?_;cases e2:Ey f ws with
   |none=>rw[e2]at k;exact k
   |some ds=>rw[e2]at k;exact k
theorem rR(a b:List Nat):Bc (W a) (W b)=some (.bl (decide (a=b))):=by rw[cX,kH]
theorem b6s(w:List Nat):Pc (.str (Str.ofString ".")) (W w)=some (.bl (decide (46∈w))):=by
 show some (D.bl (!(Builtin.Str.occurrences (mk w) (Str.ofString ".") 0 (mk w).length 1).isEmpty))=_;rw[vC,b6r];congr 2
abbrev Jy:List Nat:=[114,111,111,116]
abbrev Oh:List Nat:=[98,105,110]
def Ec(w:List Nat):Option D:=if w=[45]then some .non else if w=Jy∨w=Oh then some (W w)else if 46∈w then(Ey Ir (cutC 46 (w.length+1) w)).map .tup else Ir w
theorem oS{c:Nat}{w:List Nat}(hc:c<256)(h:Fe w):Hh (W w) (.str ⟨#[c]⟩)=some (.lst ((cutC c (w.length+1) w).map W)):=by
 show(if(⟨#[c]⟩:Str).length≠0∧(mk w).length≤Ci then some (Md (Ex (mk w) ⟨#[c]⟩ ((mk w).length+1)))else none)=_;have:=h.1;rw[AS ⟨by show 1≠0;decide,by rw[cS];unfold Ci;omega⟩,lU w hc,cS];unfold Md;rw[DY];rfl
theorem ifS{ft:Ac→Option Bool}{b:Bool}{q1 q2:WS}{ρ:Ac}{M:Mh}{R:Fl→Mh→Prop}(e:ft ρ=some b)(h:if b=true then q1 ρ M R else q2 ρ M R):Gm (Ml ft) q1 q2 ρ M R:=by
 show(match ft ρ with|some d=>_|none=>False);rw[e];exact h
theorem b0u{f:Ac→Option D}{ρ:Ac}{M:Mh}{R:Fl→Mh→Prop}(e:f ρ=some d)(h:R (.rt d) M):Ht (wl f) ρ M R:=by
 show(match f ρ with|some d=>_|none=>False);rw[e];exact h
theorem b1r{w:List Nat}(h:Fe w){M:Mh}{R:D→Mh→Prop}{E:EK}(k:Rq t (Ec w) M R E):Ic t [W w] M R E:=by
 refine⟨rfl,?_⟩;unfold Rq Ec at k;show Ch _ _ [some (W w)] M _;refine ifS (b:=decide (w=[45])) (by simp[fT,f2,Aa,fC,iC,rR]) ?_;by_cases h1:w=[45]
 ·rw[AS h1]at k;rw[AS (BD h1)];exact b0u rfl k
 rw[AR h1]at k;rw[AR (by rw[AH];exact h1)];refine ifS (b:=decide (w=Jy)||decide (w=Oh)) (by
  simp[Cn,fT,f2,Aa,fC,oB,vJ,rR];by_cases h2:w=Jy<;>simp[h2]) ?_
 by_cases h2:w=Jy∨w=Oh
 ·rw[AS h2]at k;rw[AS (by rw[BZ,AH,AH];exact h2)];exact b0u rfl k
 rw[AR h2]at k;rw[AR (by rw[BZ,AH,AH];exact h2)];refine ifS (ρ:=[some (W w)]) (ft:=fT (f2 Pc (fC (.str (Str.ofString "."))) (Aa 0))) (b:=decide (46∈w)) (by simp[fT,f2,Aa,fC,b6s]) ?_;by_cases h3:46∈w
 ·rw[AS h3]at k;rw[AS (BD h3)];have hs:=oS (c:=46) (by decide) h;rw[←vC]at hs;show Kn ((Ew (Aa 0) (fC (.str (Str.ofString ".")))) [some (W w)] |>.bind fun d=>match d with|.lst xs=>some xs|_=>none) _;rw[show Ew (Aa 0) (fC (.str (Str.ofString "."))) [some (W w)]=Hh (W w) (.str (Str.ofString "."))from rfl,hs];refine⟨?_,oN (f:=Ir) _ (fun v hv M R z=>zN (lS h hv) z) ?_⟩
  ·have:=oK 46 (w.length+1) w;have:=h.1;rw[AK];unfold Ci;omega
  ·cases e:Ey Ir (cutC 46 (w.length+1) w)with
   |none=>rw[e]at k;exact k
   |some ds=>rw[e]at k;exact k
 ·rw[AR h3]at k;rw[AR (by rw[AH];exact h3)];exact⟨rfl,zN h k⟩
end K03
namespace K03
open PySem L2 DL TX NumText
variable{t:Adr}
abbrev Dk:List Nat:=[119,114,105,116,101]
theorem dY:(Str.ofString "write")=mk Dk:=by decide+kernel
theorem b9m(a b:Str):Bc (.lst [.str a]) (.lst [.str b])=some (.bl (a==b)):=by
 have:Cw (.lst [.str a]) (.lst [.str b])=(a==b):=by
  unfold Cw;unfold Fg;rw[lJ];unfold Fg;simp
 unfold Bc;rw[this];simp[Bv,Cs,dep,Eg]
theorem cZ{α β:Type}(f:α→β)(xs:List α)(lo hi:Option Int):Ao (xs.map f) lo hi=(Ao xs lo hi).map f:=by
 unfold Ao;rw[AK,List.map_take,List.map_drop]
theorem a2l{α:Type}(xs:List α):Ao xs none (some 1)=xs.take 1:=by
 unfold Ao;cases xs<;>simp[HT.sIx]
theorem eX{α:Type}{xs:List α}{lo hi:Option Int}{x:α}(h:x∈Ao xs lo hi):x∈xs:=GH (FD h)
theorem iT{α:Type}(xs:List α)(lo hi:Option Int):(Ao xs lo hi).length≤xs.length:=by
 unfold Ao;rw[CN,DQ];omega
theorem oW{f:List Nat→Option D}:∀{ws:List (List Nat)} {ds:List D},Ey f ws=some ds→ds.length=ws.length
 |[],ds,e=>by cases e;rfl
 |w::ws,ds,e=>by
  unfold Ey at e;obtain⟨d,_,e⟩:=AA.mp e;obtain⟨ds',e2,rfl⟩:=AF.mp e;simp[oW e2]
def Kc(ws:List (List Nat)):Int:=if ws.take 1=[Dk]then 3 else ws.length
def Jc(ws:List (List Nat)):Option D:=(Ey Ec (Ao ws (some 1) (some (Kc ws)))).map fun ps=>.tup ((Ao ws none (some 1)).map W++ps++(Ao ws (some (Kc ws)) none).map W)
theorem b8a{f:Ac→Option D}{i:Nat}{ρ:Ac}{M:Mh}{R:Fl→Mh→Prop}(e:f ρ=some d)(h:R (.nx (ρ.set i (some d))) M):Dn i (wl f) ρ M R:=by
 show(match f ρ with|some d=>_|none=>False);rw[e];exact h
theorem wl2{g:Mh→D→D→Option D}{fa:Ac→Option D}{fb:WE}{ρ:Ac}{M:Mh}{R:D→Mh→Prop}(e:fa ρ=some x)(h:fb ρ M fun y M2=>match g M2 x y with|some d=>R d M2|none=>False):w2 g (wl fa) fb ρ M R:=by
 show(match fa ρ with|some d=>_|none=>False);rw[e];exact h
theorem wlE{f:Ac→Option D}{ρ:Ac}{M:Mh}{R:D→Mh→Prop}(e:f ρ=some d)(h:R d M):wl f ρ M R:=by
 show(match f ρ with|some d=>_|none=>False);rw[e];exact h
theorem b4i{di:Ac→Option (List D)}{ds:List D}{nl:Nat}{ix:List Nat}{bnd:D→Ac→Option Ac}{ft:WT}{fe:WE}{ρ:Ac}{M:Mh}{R:D→Mh→Prop}(e:di ρ=some ds)(hl:ds.length≤Ci)
  (h:Kd bnd (fun _=>True) ft fe (Qb nl ix ρ) ds M fun ys M2=>R (.lst ys) M2):Mv nl ix (Ti di) bnd ft fe ρ M R:=by
 show Kn (di ρ) _;rw[e];exact⟨hl,h⟩
theorem b3z{xs ys:List D}{M:Mh}(h:xs.length+ys.length≤Ci):Fx M (.lst xs) (.lst ys)=some (.lst (xs++ys)):=by
 show An (.lst xs) (.lst ys)=_;show(if xs.length+ys.length≤Ci then some (D.lst (xs++ys))else none)=_;rw[AS h]
theorem b6z{ws:List (List Nat)}:(Cu (fT (f2 Bc (Ck (Aa 0) Ah (Af (fC (.int 1)))) (fC (.lst [(.str "write")])))) (fC (.int 3)) (f1 Bb (Ab (Aa 0) Ad))) [some (.lst (ws.map W)),none]=some (.int (Kc ws)):=by
 have h1:Ck (Aa 0) Ah (Af (fC (.int 1))) [some (.lst (ws.map W)),none]=some (.lst ((ws.take 1).map W)):=by
  show some (D.lst (Ao (ws.map W) none (some 1)))=_;rw[cZ,a2l]
 have h2:Bc (.lst ((ws.take 1).map W)) (.lst [(.str "write")])=some (.bl (decide (ws.take 1=[Dk]))):=by
  cases ws with
  |nil=>simp[Bc,Bv,Cs,dep,Eg,Cw,Fg]
  |cons w r=>
   rw[show((w::r).take 1).map W=[W w]from rfl,b9m,dY,kH];simp
 have h3:fT (f2 Bc (Ck (Aa 0) Ah (Af (fC (.int 1)))) (fC (.lst [(.str "write")]))) [some (.lst (ws.map W)),none]=some (decide (ws.take 1=[Dk])):=by
  unfold fT f2;rw[h1,AI,show fC (.lst [(.str "write")]) [some (.lst (ws.map W)),none]=some (.lst [(.str "write")])from rfl,AI,h2];rfl
 unfold Cu;rw[h3,AI];unfold Kc;by_cases h:ws.take 1=[Dk]
 ·simp[h,fC]
 ·simp[h,f1,Ab,Ad,Aa,Bb]
theorem b3m{ws:List (List Nat)}(hw:∀w∈ws,Fe w)(hl:ws.length≤700){M:Mh}{R:D→Mh→Prop}{E:EK}(k:Rq t (Jc ws) M R E):Ie t [.lst (ws.map W)] M R E:=by
 refine⟨rfl,?_⟩;show Ch _ _ [some (.lst (ws.map W)),none] M _;refine b8a b6z ?_;generalize he:Kc ws=e;show Ht _ [some (.lst (ws.map W)),some (.int e)] M _;show w1 _ _ [some (.lst (ws.map W)),some (.int e)] M _;show Dh _ _ [some (.lst (ws.map W)),some (.int e)] M _;show w2 _ _ _ [some (.lst (ws.map W)),some (.int e)] M _;show w2 _ _ _ [some (.lst (ws.map W)),some (.int e)] M _;refine wl2 (x:=.lst ((Ao ws none (some 1)).map W)) (by show some (D.lst (Ao (ws.map W) none (some 1)))=_;rw[cZ]) ?_;have hlen:=iT ws (some 1) (some e);refine b4i (ds:=(Ao ws (some 1) (some e)).map W) (by show some (Ao (ws.map W) (some 1) (some e))=_;rw[cZ]) (by rw[AK];unfold Ci;omega) ?_;refine oN (f:=Ec) _ (fun v hv M R z=>b1r (hw v (eX hv)) z) ?_;unfold Rq Jc at k;rw[he]at k;cases e2:Ey Ec (Ao ws (some 1) (some e))with
 |none=>rw[e2]at k;exact k
 |some ps=>
  rw[e2]at k;have h1:=oW e2;have h2:=iT ws none (some 1);have h3:=iT ws (some e) none;show(match Fx M (.lst ((Ao ws none (some 1)).map W)) (.lst ps)with|some d=>_|none=>False);rw[b3z (by rw[AK];unfold Ci;omega)];refine wlE (d:=.lst ((Ao ws (some e) none).map W)) (by show some (D.lst (Ao (ws.map W) (some e) none))=_;rw[cZ]) ?_;show(match Fx M (.lst ((Ao ws none (some 1)).map W++ps)) (.lst ((Ao ws (some e) none).map W))with|some d=>_|none=>False);rw[b3z (by rw[BF,AK,AK];unfold Ci;omega)];exact k
def wordsR(l:List Nat):List (List Nat):=cutC 32 6 l
def Sg(l:List Nat):Option D:=(Ey Ir (Ao (wordsR l) none (some 3))).bind fun ns=>(Jc (Ao (wordsR l) (some 3) none)).map fun d=>D.tup (ns++[d])
theorem a5k{l:List Nat}(h:Fe l):Ki (W l) (.str (Str.ofString " ")) (.int 6)=some (.lst ((wordsR l).map W)):=by
 have:=h.1;show(if(Str.ofString " ").length≠0∧(mk l).length≤Ci∧(0:Int)≤6∧(6:Int)≤1000 then some (Md (Ex (mk l) (Str.ofString " ") (limitOf (mk l) 6)))else none)=_;rw[fW,AS ⟨by show 1≠0;decide,by rw[cS];unfold Ci;omega,by decide,by decide⟩,lU l (by decide)];unfold Md;rw[DY];rfl
theorem a1d{l:List Nat}(h:Fe l){M:Mh}{R:D→Mh→Prop}{E:EK}
  (k:match Sg l with|none=>E t.NoDeed M|some op=>∃b l',Ak t [op]=some (.bl b)∧Bv op=true∧(b=true→Df [op]=some (W l'))∧if b=true∧l'=l then R op M else E t.NoDeed M):Hj t [W l] M R E:=by
 refine⟨rfl,?_⟩;show Ch _ _ [some (W l),none,none] M _;refine b8a (d:=.lst ((wordsR l).map W)) (by
  show Ki (W l) (.str (Str.ofString " ")) (.int 6)=_;exact a5k h) ?_
 have hw:∀w∈wordsR l,Fe w:=fun w hw=>lS h hw;have hlen:(wordsR l).length≤700:=by
  have:=oK 32 6 l;have:=h.1;unfold wordsR;omega
 unfold Sg at k;generalize hws:wordsR l=ws at k hw hlen ⊢;show Ch _ _ [some (W l),some (.lst (ws.map W)),none] M _;show Dn _ _ [some (W l),some (.lst (ws.map W)),none] M _;show w1 _ _ [some (W l),some (.lst (ws.map W)),none] M _;show Dh _ _ [some (W l),some (.lst (ws.map W)),none] M _;show w2 _ _ _ [some (W l),some (.lst (ws.map W)),none] M _;have hl3:=iT ws none (some 3);refine b4i (ds:=(Ao ws none (some 3)).map W) (by show some (Ao (ws.map W) none (some 3))=_;rw[cZ]) (by rw[AK];unfold Ci;omega) ?_;refine oN (f:=Ir) _ (fun v hv M R z=>zN (hw v (eX hv)) z) ?_;cases e2:Ey Ir (Ao ws none (some 3))with
 |none=>rw[e2]at k;exact k
 |some ns=>
  rw[e2,AI]at k;have h1:=oW e2;have hl4:=iT ws (some 3) none;show Sl _ [some (W l),some (.lst (ws.map W)),none] M _;show Dh _ _ [some (W l),some (.lst (ws.map W)),none] M _;show Fk _ _ _ _ [some (W l),some (.lst (ws.map W)),none] M _;show Dh _ _ [some (W l),some (.lst (ws.map W)),none] M _;refine wlE (ρ:=[some (W l),some (.lst (ws.map W)),none]) (f:=Ck (Aa 1) (Af (fC (.int 3))) Ah) (d:=.lst ((Ao ws (some 3) none).map W)) (by show some (D.lst (Ao (ws.map W) (some 3) none))=_;rw[cZ]) ?_;refine⟨rfl,b3m (fun v hv=>hw v (eX hv)) (by omega) ?_⟩;unfold Rq;cases e3:Jc (Ao ws (some 3) none)with
  |none=>rw[e3]at k;exact k
  |some d=>
   rw[e3]at k;obtain⟨b,l',ho,hn,hs,k⟩:=k;dsimp only at ho hn hs k;refine⟨by show 1≤1000;decide,?_⟩;show(match Fx M (.lst ns) (.lst [d])with|some d=>_|none=>False);rw[b3z (by show ns.length+1≤Ci;unfold Ci;omega)];show Dx [some (W l),some (.lst (ws.map W)),none] M _;unfold Dx;dsimp only[Kn,Fm];show Ch _ _ [some (W l),some (.lst (ws.map W)),some (.tup (ns++[d]))] M _;generalize hop:D.tup (ns++[d])=op at *;have hio:f1 (Ak t) (Ab (Aa 2) Ad) [some (W l),some (.lst (ws.map W)),some op]=some (.bl b):=by show Ak t [op]=_;exact ho
   refine ifS (b:=!(b&&decide (l'=l))) ?_ ?_
   ·unfold Cn Be fT;rw[hio];cases b with
    |false=>rfl
    |true=>
     have hsh:f2 Jm (f1 Df (Ab (Aa 2) Ad)) (Aa 0) [some (W l),some (.lst (ws.map W)),some op]=some (.bl (!decide (l'=l))):=by
      show(Df [op]).bind (fun x=>(some (W l)).bind fun y=>Jm x y)=_;rw[hs rfl];show Jm (W l') (W l)=_;unfold Jm;rw[AS (by simp[Bv,dep]),lJ,kH]
     rw[hsh];simp
   ·by_cases hc:b=true∧l'=l
    ·rw[AS hc]at k;rw[AR (by simp[hc.1,hc.2])];unfold Gr;dsimp only;exact b0u rfl k
    ·rw[AR hc]at k;rw[AS (by
      cases b
      ·rfl
      ·simp at hc;simp[hc])]
     have hr:=a0q h;exact⟨mk l,rfl,by omega,fun _=>k⟩
end K03
namespace K03
open PySem L2 DL TX NumText
inductive Qd:D→Prop
 |non:Qd .non
 |root:Qd (.str "root")
 |bin:Qd (.str "bin")
 |int {i:Int}:i.natAbs<10 ^ 61→Qd (.int i)
 |two {a b:Int}:a.natAbs<10 ^ 61→b.natAbs<10 ^ 61→Qd (.tup [.int a,.int b])
 |three {a b c:Int}:a.natAbs<10 ^ 61→b.natAbs<10 ^ 61→c.natAbs<10 ^ 61→Qd (.tup [.int a,.int b,.int c])
def Ot:List D→List (List Nat)
 |.int i::r=>intC i::Ot r
 |_=>[]
def wordC:D→List Nat
 |.non=>[45]
 |.str s=>s.cps.toList
 |.int i=>intC i
 |.tup ds=>joinL 46 (Ot ds)
 |_=>[]
theorem qU{fe:Ac→Option D}{F:D→D}:∀(ds:List D),(∀d∈ds,fe [some d]=some (F d))→Cy (Ca 0) (fun _=>some true) fe [none] ds=some (ds.map F)
 |[],_=>rfl
 |d::ds,h=>by
  have ih:=qU ds fun x hx=>h x (AC _ hx);have h1:=h d AM;simp only[Cy,ih,AO];simp[Ca,h1]
theorem a0w:∀(ws:List (List Nat)),Ij (ws.map W)=some (ws.map mk)
 |[]=>rfl
 |w::ws=>by
  rw[AO,AO];show(Ij (ws.map W)).map _=_;rw[a0w ws];rfl
theorem oH{c:Nat}{ws:List (List Nat)}(h:(ws.map List.length).sum+ws.length≤Ci):Ft (.str ⟨#[c]⟩) (.lst (ws.map W))=some (W (joinL c ws)):=by
 show(Ij (ws.map W)).bind (fun ys=>if(ys.map (·.length)).sum+ys.length*(⟨#[c]⟩:Str).length≤Ci then some (D.str (Txt.join ⟨#[c]⟩ ys))else none)=_;rw[a0w,AI,DY,AK];have e:(List.map ((fun x=>x.length)∘mk) ws)=ws.map List.length:=GL fun w _=>cS w;rw[e,AS (by show _+ws.length*1≤Ci;omega),b2n]
theorem b6h{i:Int}(h:i.natAbs<10 ^ 61):i.natAbs.log2<1920:=by
 by_cases h0:i.natAbs=0
 ·rw[h0];decide
 ·rw[Nat.log2_lt h0];exact AV h (by decide+kernel)
theorem str_int{i:Int}(h:i.natAbs<10 ^ 61):Kr [.int i]=some (W (intC i)):=by
 show(if i.natAbs.log2<1920 then some (D.str (toString i:String))else none)=_;rw[AS (b6h h),W,b2f]
theorem b0g(h:Qd x∨∃s,x=.str s):Dc [x]=some (W (wordC x)):=by
 have key:∀{is:List Int},is.length≤3→(∀i∈is,i.natAbs<10 ^ 61)→Fw (fC (.str ".")) (Db 1 [] (Lr (Aa 0)) (Ca 0) (fun _=>some true) (f1 Kr (Ab (Aa 0) Ad))) [some (.tup (is.map D.int))]=some (W (joinL 46 (is.map intC))):=by
  intro is hl hb;have hc:=qU (fe:=f1 Kr (Ab (Aa 0) Ad)) (F:=fun d=>match d with|.int i=>W (intC i)|d=>d) (is.map D.int) (by
   intro d hd;obtain⟨i,hi,rfl⟩:=CF.mp hd;simp[f1,Ab,Aa,Ad,str_int (hb i hi)])
  rw[DY]at hc;have hcomp:Db 1 [] (Lr (Aa 0)) (Ca 0) (fun _=>some true) (f1 Kr (Ab (Aa 0) Ad)) [some (.tup (is.map D.int))]=some (.lst ((is.map intC).map W)):=by
   show(if(is.map D.int).length≤Ci then Option.map D.lst (Cy _ _ _ [none] (is.map D.int))else none)=_;rw[AS (by rw[AK];unfold Ci;omega),hc,DY];rfl
  have hs:((is.map intC).map List.length).sum+(is.map intC).length≤Ci:=by
   have:∀(is:List Int),(∀i∈is,i.natAbs<10 ^ 61)→((is.map intC).map List.length).sum≤62*is.length:=by
    intro is
    induction is with
    |nil=>intro _;simp
    |cons i is ih=>
     intro hb;have h1:=dM (hb i AM);have h2:=ih fun j hj=>hb j (AC _ hj);simp only[AO,EQ,AQ];omega
   have h1:=this is hb;rw[AK];unfold Ci;omega
  unfold Fw;rw[hcomp];show Ft (.str ".") (.lst ((is.map intC).map W))=_;rw[vC,oH hs]
 obtain h|⟨s,rfl⟩:=h
 ·cases h with
  |non=>push_cast[Dc,Dz,wordC,W,iC]
  |root=>push_cast[Dc,Dz,wordC,W,Kr,fH]
  |bin=>push_cast[Dc,Dz,wordC,W,Kr,fH]
  |int hi=>push_cast[Dc,Dz,wordC,str_int hi]
  |@two a b ha hb=>
   have hk:=key (is:=[a,b]) (by simp) (by simp[ha,hb]);simp only[AO,GB]at hk
   push_cast[Dc,Dz,wordC,Ot,hk]
  |@three a b c ha hb hc=>
   have hk:=key (is:=[a,b,c]) (by simp) (by simp[ha,hb,hc]);simp only[AO,GB]at hk
   push_cast[Dc,Dz,wordC,Ot,hk]
 ·push_cast[Dc,Dz,wordC,W,Kr,fH]
theorem cO{i:Int}{c:Nat}(h:c=32∨c=46∨c=114∨c=98):c∉intC i:=by
 intro hc;have:=qJ i c hc;omega
theorem uW{c:Nat}(h46:c≠46):∀(is:List Int),(∀i,c∉intC i)→c∉joinL 46 (is.map intC)
 |[],_=>by simp[joinL]
 |[i],h=>by simpa[joinL]using h i
 |i::j::r,h=>by
  rw[AO,bK (by simp)];intro z;obtain z|z:=AZ.mp z
  ·exact h i z
  ·obtain z|z:=AN.mp z
   ·exact h46 z
   ·exact uW h46 (j::r) h z
theorem xI(i j:Int)(r:List Int):46∈joinL 46 ((i::j::r).map intC):=by
 rw[AO,bK (by simp)];simp
theorem b0h(h:Qd x):32∉wordC x:=by
 cases h with
 |non=>decide
 |root=>show 32∉(Str.ofString "root").cps.toList;rw[lO];decide
 |bin=>show 32∉(Str.ofString "bin").cps.toList;rw[oM];decide
 |int=>exact cO (.inl rfl)
 |@two a b=>exact uW (by decide) [a,b] fun i=>cO (.inl rfl)
 |@three a b c=>exact uW (by decide) [a,b,c] fun i=>cO (.inl rfl)
theorem fM:∀(ws:List (List Nat)) (c:Nat),(joinL c ws).length≤(ws.map List.length).sum+ws.length
 |[],c=>by simp[joinL]
 |[w],c=>by simp[joinL]
 |w::v::r,c=>by
  rw[bK (by simp),BF,AQ];have:=fM (v::r) c;simp only[AO,EQ,AQ]at this ⊢;omega
theorem a4y(h:Qd x):(wordC x).length≤200:=by
 cases h with
 |non=>decide
 |root=>show(Str.ofString "root").cps.toList.length≤200;rw[lO];decide
 |bin=>show(Str.ofString "bin").cps.toList.length≤200;rw[oM];decide
 |int hi=>have:=dM hi;show(intC _).length≤200;omega
 |@two a b ha hb=>
  have h1:=dM ha;have h2:=dM hb;have:=fM [intC a,intC b] 46;simp at this;show(joinL 46 [intC a,intC b]).length≤200;omega
 |@three a b c ha hb hc=>
  have h1:=dM ha;have h2:=dM hb;have h3:=dM hc;have:=fM [intC a,intC b,intC c] 46;simp at this;show(joinL 46 [intC a,intC b,intC c]).length≤200;omega
theorem oO(c:Nat):∀(ws:List (List Nat)),ws.length≤(joinL c ws).length+1
 |[]=>by simp
 |[w]=>by simp
 |w::v::vs=>by
  have ih:=oO c (v::vs);rw[bK (by simp),BF];simp only[AQ]at ih ⊢;omega
def WG(x:D):Prop:=Qd x∨∃s:Str,x=.str s∧s.length≤100
theorem b0j(h:WG x):Dc [x]=some (W (wordC x)):=b0g (h.imp id fun⟨s,e,_⟩=>⟨s,e⟩)
theorem b4k(h:WG x):(wordC x).length≤200:=by
 obtain h|⟨s,rfl,hs⟩:=h
 ·exact a4y h
 ·show s.cps.toList.length≤200;have:s.cps.toList.length=s.length:=by simp[Str.length]
  omega
theorem a5i:∀(xs:List D),(∀x∈xs,WG x)→((xs.map wordC).map List.length).sum≤200*xs.length
 |[],_=>by simp
 |x::xs,h=>by
  have h1:=b4k (h x AM);have h2:=a5i xs fun y hy=>h y (AC _ hy);simp only[AO,EQ,AQ];omega
def Os(xs:List D):List Nat:=joinL 32 (xs.map wordC)
theorem a0i{xs:List D}{g:List D→Option D}(hg:∀x∈xs,g [x]=some (W (wordC x))):Cy (Ca 0) (fun _=>some true) (f1 g (Ab (Aa 0) Ad)) [none] xs=some ((xs.map wordC).map W):=by
 rw[qU (F:=fun d=>W (wordC d)) xs fun d hd=>by simp[f1,Ab,Aa,Ad,hg d hd],DY];rfl
theorem a5q{ds:List D}(hx:∀x∈h::n::tm::ds,WG x)(hl:ds.length≤10):Df [.tup [h,n,tm,.tup ds]]=some (W (Os (h::n::tm::ds))):=by
 have hc:=a0i (g:=Dc) fun x hm=>b0j (hx x hm);have hs:=a5i _ hx;have a1:An (.tup [h,n,tm]) (.tup ds)=some (.tup (h::n::tm::ds)):=by
  show(if 3+ds.length≤Ci then some (D.tup ([h,n,tm]++ds))else none)=_;rw[AS (by unfold Ci;omega)];rfl
 have c3:Aj (.tup [h,n,tm,.tup ds]) none (some 3)=some (.tup [h,n,tm]):=by simp[Aj,Ao,HT.sIx]
 have hi:Lr (f2 An (Ck (Aa 0) Ah (Af (fC (.int 3)))) (f2 Bl (Aa 0) (fC (.int 3)))) [some (.tup [h,n,tm,.tup ds])]=some (h::n::tm::ds):=by
  simp[DL.Lr,f2,Ck,Aa,Ah,Af,fC,c3,Bl,Cp,Ct,a1]
 have hcomp:Db 1 [] (Lr (f2 An (Ck (Aa 0) Ah (Af (fC (.int 3)))) (f2 Bl (Aa 0) (fC (.int 3))))) (Ca 0) (fun _=>some true) (f1 Dc (Ab (Aa 0) Ad)) [some (.tup [h,n,tm,.tup ds])]=some (.lst (((h::n::tm::ds).map wordC).map W)):=by
  unfold Db;rw[hi];show(if(h::n::tm::ds).length≤Ci then Option.map D.lst (Cy _ _ _ [none] _)else none)=_;rw[AS (by simp only[AQ];unfold Ci;omega),hc];rfl
 have hj:Ft (.str " ") (.lst (((h::n::tm::ds).map wordC).map W))=some (W (Os (h::n::tm::ds))):=by
  rw[fW];refine oH ?_;simp only[AQ,AK]at hs ⊢;unfold Ci;omega
 have hq:Kk [some (.tup [h,n,tm,.tup ds])]=some (.rt (W (Os (h::n::tm::ds)))):=by
  unfold Kk Ar Fw;rw[hcomp];show((Ft (.str " ") (.lst (((h::n::tm::ds).map wordC).map W))).map Fl.rt)=_;rw[hj];rfl
 unfold Df Az;rw[AS (by rfl)];show(match Kk [some (.tup [h,n,tm,.tup ds])]with|some (.rt d)=>some d|some (.nx _)=>some .non|none=>none)=_;rw[hq]
end K03
namespace K03
open PySem L2 DL TX NumText
variable{t:Adr}
inductive PN:D→Prop
 |non:PN .non
 |root:PN (.str "root")
 |bin:PN (.str "bin")
 |two {a b:Int}:a.natAbs≤Bk→b.natAbs≤Bk→PN (.tup [.int a,.int b])
 |three {a b c:Int}:a.natAbs≤Bk→b.natAbs≤Bk→c.natAbs≤Bk→PN (.tup [.int a,.int b,.int c])
theorem pX{i:Int}(h:i.natAbs≤Bk):i.natAbs<10 ^ 61:=by unfold Bk at h;omega
theorem PN.pg(h:PN x):Qd x:=by
 cases h with
 |non=>exact .non
 |root=>exact .root
 |bin=>exact .bin
 |two a b=>exact .two (pX a) (pX b)
 |three a b c=>exact .three (pX a) (pX b) (pX c)
def Kb(k:Str)(j:Nat):Prop:=k="write"∧j=2
def Ix(k:Str)(j:Nat):Prop:=((k="cut"∨k="set")∧j=2)∨(k="set"∧j=1)
structure Rr(k:Str)(j:Nat)(x:D):Prop where
 mk::
 txt:Kb k j→∃s:Str,x=.str s∧s.length≤16
 num:Ix k j→∃i:Int,x=.int i∧i.natAbs≤Bk
 nam:¬Kb k j→¬Ix k j→PN x
structure VO(h n tm:Int)(k:Str)(r:List D):Prop where
 mk::
 hh:h.natAbs≤Bk
 hn:n.natAbs≤Bk
 ht:tm.natAbs≤Bk
 k32:32∉k.cps.toList
 kl:k.length≤100
 r1:r≠[]
 r3:r.length≤3
 pos:∀j x,r[j]?=some x→Rr k j x
 wr:k="write"→r.length=3
abbrev Ib(h n tm:Int)(k:Str)(r:List D):D:=.tup [.int h,.int n,.int tm,.tup (.str k::r)]
abbrev Gy(h n tm:Int)(k:Str)(r:List D):List Nat:=Os (.int h::.int n::.int tm::.str k::r)
theorem a7q(h:Dp x=true):∃a b:Int,x=.tup [.int a,.int b]∧a.natAbs≤Bk∧b.natAbs≤Bk:=by
 unfold Dp at h;split at h
 ·rename_i a b;rw[AE]at h;unfold belowK at h;unfold Dm at h;obtain⟨h1,h2⟩:=h;split at h1
  ·split at h2
   ·simp only[AE,AH]at h1 h2;exact⟨_,_,rfl,by unfold Bk;omega,h2.1⟩
   ·cases h2
  ·cases h1
 ·cases h
theorem a5o(h:Ds x=true):∃a b c:Int,x=.tup [.int a,.int b,.int c]∧a.natAbs≤Bk∧b.natAbs≤Bk∧c.natAbs≤Bk:=by
 unfold Ds at h;split at h
 ·rename_i a b c;rw[AE,AE]at h;unfold belowK at h;unfold Dm at h;obtain⟨⟨h1,h2⟩,h3⟩:=h;split at h1
  ·split at h2
   ·split at h3
    ·simp only[AE,AH]at h1 h2 h3;exact⟨_,_,_,rfl,by unfold Bk;omega,h2.1,by unfold Bk;omega⟩
    ·cases h3
   ·cases h2
  ·cases h1
 ·cases h
theorem uD(h:Dp x=true):PN x:=by
 obtain⟨a,b,rfl,h1,h2⟩:=a7q h;exact .two h1 h2
theorem a0y(h:Ds x=true):PN x:=by
 obtain⟨a,b,c,rfl,h1,h2,h3⟩:=a5o h;exact .three h1 h2 h3
theorem gF(h:Ed x=true):PN x:=by
 rw[BZ]at h;obtain h|h:=h
 ·exact uD h
 ·unfold Kj at h;split at h
  ·rename_i s;rw[BZ,FK,FK]at h;obtain rfl|rfl:=h
   ·exact .root
   ·exact .bin
  ·cases h
theorem a7o(h:Ap x=true):PN x:=by
 unfold Ap at h;split at h
 ·exact .non
 ·cases h
theorem a5p(h:Od x=true):PN x:=by
 rw[BZ]at h;exact h.elim a7o uD
theorem b7t(h:Qc x=true):PN x:=by
 rw[BZ]at h;exact h.elim a7o a0y
theorem b2t(h:isInt x=true):∃i:Int,x=.int i∧i.natAbs≤Bk:=by
 unfold isInt at h;split at h
 ·exact⟨_,rfl,by simpa using h⟩
 ·cases h
theorem mM(h:Dm x=true):∃i:Int,x=.int i∧i.natAbs≤Bk∧1≤i:=by
 unfold Dm at h;split at h
 ·rw[AE,AH,AH]at h;exact⟨_,rfl,h.1,h.2⟩
 ·cases h
theorem tL{k:Int}(hk:k≤1000)(h:belowK k x=true):∃i:Int,x=.int i∧i.natAbs≤Bk∧0≤i∧i<k:=by
 unfold belowK at h;split at h
 ·rw[AE,AH,AH]at h;exact⟨_,rfl,by unfold Bk;omega,h.1,h.2⟩
 ·cases h
theorem jG{j:Nat}(h1:¬Kb k j)(h2:¬Ix k j)(h:PN x):Rr k j x:=⟨fun z=>absurd z h1,fun z=>absurd z h2,fun _ _=>h⟩
structure VD(k:Str)(r:List D):Prop where
 mk::
 k32:32∉k.cps.toList
 kl:k.length≤100
 r1:r≠[]
 r3:r.length≤3
 pos:∀j x,r[j]?=some x→Rr k j x
 wr:k="write"→r.length=3
theorem gQ{k:Str}{r:List D}(k32:32∉k.cps.toList)(kl:k.length≤100)(hw:k≠"write")(hc:k≠"cut")(hs:k≠"set")(r1:r≠[])(r3:r.length≤3)(h:∀x∈r,PN x):VD k r:=
 ⟨k32,kl,r1,r3,fun j x e=>jG (fun z=>hw z.1) (fun z=>z.elim (fun z=>z.1.elim hc hs) fun z=>hs z.1) (h x (DC e)),fun z=>absurd z hw⟩
theorem a9n(h:Dj k r=true):VD k r:=by
 unfold Dj at h;split at h
 ·rename_i hk;subst hk;unfold Pw at h;split at h
  ·rw[AE]at h;exact gQ (by decide+kernel) (by decide+kernel) (by decide+kernel) (by decide+kernel) (by decide+kernel) (by simp) (by simp) (by simp[gF h.1,a5p h.2])
  ·cases h
 split at h
 ·rename_i hk;subst hk;unfold Nh at h;split at h
  ·rw[AE,AE]at h;exact gQ (by decide+kernel) (by decide+kernel) (by decide+kernel) (by decide+kernel) (by decide+kernel) (by simp) (by simp) (by simp[gF h.1.1,gF h.1.2,a5p h.2])
  ·cases h
 split at h
 ·rename_i hk;subst hk;unfold Nl at h;split at h
  ·exact gQ (by decide+kernel) (by decide+kernel) (by decide+kernel) (by decide+kernel) (by decide+kernel) (by simp) (by simp) (by simp[gF h])
  ·cases h
 split at h
 ·rename_i hk;subst hk;unfold Kq at h;split at h
  ·rename_i a b c;rw[AE,AE]at h;have n1:¬(Str.ofString "write"=Str.ofString "cut"∨Str.ofString "write"=Str.ofString "set"):=by decide+kernel
   have nn:∀j,¬Ix (Str.ofString "write") j:=fun j z=>z.elim (fun z=>n1 z.1) fun z=>n1 (.inr z.1);refine⟨by decide+kernel,by decide+kernel,by simp,by simp,fun j x e=>?_,fun _=>rfl⟩
   match j,e with
   |0,e=>simp at e;subst e;exact jG (fun z=>absurd z.2 (by decide)) (nn _) (gF h.1.1)
   |1,e=>simp at e;subst e;exact jG (fun z=>absurd z.2 (by decide)) (nn _) (b7t h.1.2)
   |2,e=>
    simp at e;subst e;refine⟨fun _=>?_,fun z=>absurd z (nn _),fun z=>absurd ⟨rfl,rfl⟩ z⟩;have h3:=h.2;unfold Ii at h3;split at h3
    ·rw[AE,AH,AH]at h3;exact⟨_,rfl,h3.2⟩
    ·cases h3
   |j+3,e=>simp at e
  ·cases h
 split at h
 ·rename_i hk;subst hk;unfold Qa at h;split at h
  ·rename_i a b c;rw[AE,AE,AE]at h;have n1:¬Str.ofString "cut"=Str.ofString "write":=by decide+kernel
   have n2:¬Str.ofString "cut"=Str.ofString "set":=by decide+kernel
   refine⟨by decide+kernel,by decide+kernel,by simp,by simp,fun j x e=>?_,fun _=>rfl⟩
   match j,e with
   |0,e=>simp at e;subst e;exact jG (fun z=>n1 z.1) (fun z=>z.elim (fun z=>absurd z.2 (by decide)) fun z=>n2 z.1) (gF h.1.1.1)
   |1,e=>simp at e;subst e;exact jG (fun z=>n1 z.1) (fun z=>z.elim (fun z=>absurd z.2 (by decide)) fun z=>n2 z.1) (a0y h.1.1.2)
   |2,e=>
    simp at e;subst e;obtain⟨i,e,hi,_⟩:=mM h.1.2;exact⟨fun z=>absurd z.1 n1,fun _=>⟨i,e,hi⟩,fun _ z=>absurd (.inl ⟨.inl rfl,rfl⟩) z⟩
   |j+3,e=>simp at e
  ·cases h
 split at h
 ·rename_i hk;subst hk;unfold Ps at h;split at h
  ·rename_i a b c;rw[AE,AE]at h;have n1:¬Str.ofString "set"=Str.ofString "write":=by decide+kernel
   refine⟨by decide+kernel,by decide+kernel,by simp,by simp,fun j x e=>?_,fun _=>rfl⟩
   match j,e with
   |0,e=>simp at e;subst e;exact jG (fun z=>n1 z.1) (fun z=>z.elim (fun z=>absurd z.2 (by decide)) fun z=>absurd z.2 (by decide)) (gF h.1.1)
   |1,e=>
    simp at e;subst e;obtain⟨i,e,hi,_⟩:=tL (by decide) h.1.2;exact⟨fun z=>absurd z.1 n1,fun _=>⟨i,e,hi⟩,fun _ z=>absurd (.inr ⟨rfl,rfl⟩) z⟩
   |2,e=>
    simp at e;subst e;obtain⟨i,e,hi⟩:=b2t h.2;exact⟨fun z=>absurd z.1 n1,fun _=>⟨i,e,hi⟩,fun _ z=>absurd (.inl ⟨.inr rfl,rfl⟩) z⟩
   |j+3,e=>simp at e
  ·cases h
 have und:Hn r=true→∃x,r=[x]∧PN x:=fun h=>by
  unfold Hn at h;split at h
  ·exact⟨_,rfl,uD h⟩
  ·cases h
 split at h
 ·rename_i hk;subst hk;obtain⟨x,rfl,hx⟩:=und h;exact gQ (by decide+kernel) (by decide+kernel) (by decide+kernel) (by decide+kernel) (by decide+kernel) (by simp) (by simp) (by simp[hx])
 split at h
 ·rename_i hk;subst hk;obtain⟨x,rfl,hx⟩:=und h;exact gQ (by decide+kernel) (by decide+kernel) (by decide+kernel) (by decide+kernel) (by decide+kernel) (by simp) (by simp) (by simp[hx])
 ·cases h
theorem a7d(h:(belowK 16 a&&Dm b&&Dm c&&Er d)=true):∃(h n tm:Int) (k:Str) (r:List D),D.tup [a,b,c,d]=Ib h n tm k r∧VO h n tm k r:=by
 rw[AE,AE,AE]at h;obtain⟨⟨⟨h1,h2⟩,h3⟩,h4⟩:=h;obtain⟨i1,rfl,g1,_⟩:=tL (by decide) h1;obtain⟨i2,rfl,g2,_⟩:=mM h2;obtain⟨i3,rfl,g3,_⟩:=mM h3;unfold Er at h4;split at h4
 ·rename_i k r;have v:=a9n h4;exact⟨i1,i2,i3,k,r,rfl,g1,g2,g3,v.k32,v.kl,v.r1,v.r3,v.pos,v.wr⟩
 ·cases h4
end K03
namespace K03
open PySem L2 DL TX NumText
variable{t:Adr}
theorem hZ{i:Int}(h:i.natAbs≤Bk):Ir (intC i)=some (.int i):=by
 unfold Ir;rw[b9j (pX h)];rfl
theorem oV{α:Type}{f:List Nat→Option D}{w:α→List Nat}{d:α→D}:∀(xs:List α),(∀x∈xs,f (w x)=some (d x))→Ey f (xs.map w)=some (xs.map d)
 |[],_=>rfl
 |x::xs,h=>by
  rw[AO,AO];unfold Ey;rw[h x AM,AI,oV xs fun y hy=>h y (AC _ hy)];rfl
theorem oA{α:Type}:∀(r:List α),r≠[]→∃p l,r=p++[l]
 |[],h=>absurd rfl h
 |[a],_=>⟨[],a,rfl⟩
 |a::b::r,_=>by
  obtain⟨p,l,e⟩:=oA (b::r) (by simp);exact⟨a::p,l,by rw[e];rfl⟩
theorem xY{is:List Int}(h1:is≠[]):cutC 46 ((joinL 46 (is.map intC)).length+1) (joinL 46 (is.map intC))=is.map intC:=by
 obtain⟨p,l,rfl⟩:=oA is h1;have e0:(p++[l]).map intC=p.map intC++[intC l]:=by simp
 rw[e0];refine lN _ _ _ (fun w hw=>?_) ?_ (.inl (cO (.inr (.inl rfl))))
 ·obtain⟨i,_,rfl⟩:=CF.mp hw;exact cO (.inr (.inl rfl))
 ·have:=oO 46 (p.map intC++[intC l]);rw[BF]at this;omega
theorem jH{w:List Nat}(h:46∉w)(i j:Int)(r:List Int):joinL 46 ((i::j::r).map intC)≠w:=fun z=>h (by rw[←z];exact xI i j r)
theorem sF{i j:Int}{r:List Int}(h:∀x∈i::j::r,x.natAbs≤Bk):Ec (joinL 46 ((i::j::r).map intC))=some (.tup ((i::j::r).map D.int)):=by
 unfold Ec;rw[AR (jH (by decide) i j r),AR (fun z=>z.elim (jH (by decide) i j r) (jH (by decide) i j r)),AS (xI i j r),xY (by simp),oV _ fun x hx=>hZ (h x hx)];rfl
theorem a3m{i:Int}(h:i.natAbs≤Bk):Ec (intC i)=some (.int i):=by
 unfold Ec;rw[AR (b2u i).2,AR (fun z=>z.elim (fun z=>cO (i:=i) (c:=114) (.inr (.inr (.inl rfl))) (by rw[z];decide)) fun z=>cO (i:=i) (c:=98) (.inr (.inr (.inr rfl))) (by rw[z];decide)),AR (cO (.inr (.inl rfl)))];exact hZ h
theorem zC(h:PN x):Ec (wordC x)=some x:=by
 cases h with
 |non=>rfl
 |root=>
  show Ec (Str.ofString "root").cps.toList=_;rw[lO];unfold Ec;rw[AR (by decide),AS (.inl rfl),oB]
 |bin=>
  show Ec (Str.ofString "bin").cps.toList=_;rw[oM];unfold Ec;rw[AR (by decide),AS (.inr rfl),vJ]
 |@two a b ha hb=>exact sF (i:=a) (j:=b) (r:=[]) (by simp[ha,hb])
 |@three a b c ha hb hc=>exact sF (i:=a) (j:=b) (r:=[c]) (by simp[ha,hb,hc])
theorem b9w(k:Str):W (wordC (.str k))=.str k:=by show D.str (mk k.cps.toList)=_;rw[fH]
theorem VO.wg{h n tm:Int}(v:VO h n tm k r):∀x∈.int h::.int n::.int tm::.str k::r,WG x:=by
 intro x hx;simp only[AN]at hx;obtain rfl|rfl|rfl|rfl|hx:=hx
 ·exact .inl (.int (pX v.hh))
 ·exact .inl (.int (pX v.hn))
 ·exact .inl (.int (pX v.ht))
 ·exact .inr ⟨_,rfl,v.kl⟩
 ·obtain⟨j,e⟩:=EH hx;have p:=v.pos j x e;by_cases h1:Kb k j
  ·obtain⟨s,rfl,hs⟩:=p.txt h1;exact .inr ⟨s,rfl,by omega⟩
  ·by_cases h2:Ix k j
   ·obtain⟨i,rfl,hi⟩:=p.num h2;exact .inl (.int (pX hi))
   ·exact .inl (p.nam h1 h2).pg
theorem VO.shown{h n tm:Int}(v:VO h n tm k r):Df [Ib h n tm k r]=some (W (Gy h n tm k r)):=a5q v.wg (by have:=v.r3;simp;omega)
theorem VO.part{h n tm:Int}{r:List D}(v:VO h n tm k r){j:Nat}(e:r[j]?=some x)(hj:¬Kb k j):32∉wordC x∧Ec (wordC x)=some x:=by
 have p:=v.pos j x e;by_cases h2:Ix k j
 ·obtain⟨i,rfl,hi⟩:=p.num h2;exact⟨cO (.inl rfl),a3m hi⟩
 ·exact⟨b0h (p.nam hj h2).pg,zC (p.nam hj h2)⟩
theorem b9k{α:Type}(a b c:α)(r:List α):Ao (a::b::c::r) none (some 3)=[a,b,c]:=by simp[Ao,HT.sIx]
theorem tl3{α:Type}(a b c:α)(r:List α):Ao (a::b::c::r) (some 3) none=r:=by
 unfold Ao;rw[show(3:Int)=((3:Nat):Int)from rfl,HT.sIx_nat];simp[HT.sIx]
theorem mid{α:Type}(a:α)(r:List α):Ao (a::r) (some 1) (some (((a::r).length:Nat):Int))=r:=by
 unfold Ao;rw[show(1:Int)=((1:Nat):Int)from rfl,HT.sIx_nat,HT.sIx_nat];simp
theorem las{α:Type}(r:List α):Ao r (some ((r.length:Nat):Int)) none=[]:=by
 unfold Ao;rw[HT.sIx_nat];simp
theorem mT{h n tm:Int}{k:List Nat}{ws:List (List Nat)}{l:List Nat}(hh:h.natAbs≤Bk)(hn:n.natAbs≤Bk)(ht:tm.natAbs≤Bk)(hw:wordsR l=intC h::intC n::intC tm::k::ws)(hd:Jc (k::ws)=some d):Sg l=some (.tup [.int h,.int n,.int tm,d]):=by
 unfold Sg;rw[hw,b9k,tl3,hd];have:Ey Ir [intC h,intC n,intC tm]=some [.int h,.int n,.int tm]:=by
  unfold Ey;rw[hZ hh,AI];unfold Ey;rw[hZ hn,AI];unfold Ey;rw[hZ ht,AI];rfl
 rw[this];rfl
theorem b2m{k:Str}(h:k≠"write"):k.cps.toList≠Dk:=fun z=>h (by rw[←fH k,z,←dY])
theorem VO.back{h n tm:Int}(v:VO h n tm k r):Sg (Gy h n tm k r)=some (Ib h n tm k r):=by
 by_cases hk:k="write"
 ·subst hk;have h3:=v.wr rfl;obtain⟨a,b,c,rfl⟩:∃a b c,r=[a,b,c]:=by
   match r,h3 with
   |[a,b,c],_=>exact⟨a,b,c,rfl⟩
  have pa:=v.part (j:=0) rfl (fun z=>absurd z.2 (by decide));have pb:=v.part (j:=1) rfl (fun z=>absurd z.2 (by decide));obtain⟨s,rfl,hs⟩:=(v.pos 2 c rfl).txt ⟨rfl,rfl⟩;refine mT v.hh v.hn v.ht (k:=Dk) (ws:=[wordC a,wordC b,s.cps.toList]) ?_ ?_
  ·have e:(Str.ofString "write").cps.toList=Dk:=by decide+kernel
   have:=lN (c:=32) [intC h,intC n,intC tm,Dk,wordC a,wordC b] s.cps.toList 6 (by
    intro w hw;simp only[AN,BN,EC]at hw;obtain rfl|rfl|rfl|rfl|rfl|rfl:=hw
    ·exact cO (.inl rfl)
    ·exact cO (.inl rfl)
    ·exact cO (.inl rfl)
    ·decide
    ·exact pa.1
    ·exact pb.1) (by simp) (.inr rfl)
   show cutC 32 6 (joinL 32 [intC h,intC n,intC tm,(Str.ofString "write").cps.toList,wordC a,wordC b,s.cps.toList])=_;rw[e];exact this
  ·have e1:Kc [Dk,wordC a,wordC b,s.cps.toList]=3:=rfl;unfold Jc;rw[e1,show Ao [Dk,wordC a,wordC b,s.cps.toList] (some 1) (some 3)=[wordC a,wordC b]from by simp[Ao,HT.sIx],show Ao [Dk,wordC a,wordC b,s.cps.toList] none (some 1)=[Dk]from by simp[Ao,HT.sIx],show Ao [Dk,wordC a,wordC b,s.cps.toList] (some 3) none=[s.cps.toList]from by simp[Ao,HT.sIx]];have:Ey Ec [wordC a,wordC b]=some [a,b]:=by
    unfold Ey;rw[pa.2,AI];unfold Ey;rw[pb.2,AI];rfl
   rw[this];show some (D.tup [W Dk,a,b,W s.cps.toList])=_;rw[W,←dY,W,fH]
 ·have pr:∀x∈r,32∉wordC x∧Ec (wordC x)=some x:=fun x hx=>by
   obtain⟨j,e⟩:=EH hx;exact v.part e fun z=>hk z.1
  refine mT v.hh v.hn v.ht (k:=k.cps.toList) (ws:=r.map wordC) ?_ ?_
  ·obtain⟨p,l,rfl⟩:=oA r v.r1;have h3:=v.r3;rw[BF,CK]at h3;have:=lN (c:=32) (intC h::intC n::intC tm::k.cps.toList::p.map wordC) (wordC l) 6 (by
    intro w hw;simp only[AN]at hw;obtain rfl|rfl|rfl|rfl|hw:=hw
    ·exact cO (.inl rfl)
    ·exact cO (.inl rfl)
    ·exact cO (.inl rfl)
    ·exact v.k32
    ·obtain⟨x,hx,rfl⟩:=CF.mp hw;exact(pr x (BE _ hx)).1) (by simp;omega) (.inl (pr l (by simp)).1)
   have e:(.int h::.int n::.int tm::.str k::(p++[l]):List D).map wordC=(intC h::intC n::intC tm::k.cps.toList::p.map wordC)++[wordC l]:=by
    rw[AO,AO,AO,AO,BY];rfl
   show cutC 32 6 (joinL 32 ((.int h::.int n::.int tm::.str k::(p++[l]):List D).map wordC))=_;rw[e,this,BY];rfl
  ·have e1:Kc (k.cps.toList::r.map wordC)=(((k.cps.toList::r.map wordC).length:Nat):Int):=by
    unfold Kc;rw[AR (by
     intro z;simp at z;exact b2m hk z)]
   unfold Jc;rw[e1,mid,las,a2l,oV (w:=wordC) (d:=id) r (fun x hx=>(pr x hx).2)];show some (D.tup ([W k.cps.toList]++r.map id++[]))=_;rw[BP,List.map_id,W,fH];rfl
end K03
namespace K03
open PySem L2 DL TX NumText
variable{t:Adr}
def Fp(c:Nat):Bool:=decide (48≤c)&&decide (c≤57)
def figs(w:List Nat):List Nat:=if w.take 1=[45]then w.drop 1 else w
def Mj(w:List Nat):Prop:=figs w≠[]∧(figs w).length≤60∧(figs w).all Fp=true∧((figs w).head?≠some 48∨w=[48])
instance (w:List Nat):Decidable (Mj w):=by unfold Mj;exact inferInstance
def Bq(w:List Nat):D:=if Mj w then .int ((PySem.intText? (mk w)).getD 0)else .non
theorem a8y(w:List Nat):(figs w).length≤w.length:=by
 unfold figs;split
 ·simp
 ·exact AU _
theorem b3y{cs:List Nat}(h:cs.all Fp=true):AllDigits cs:=by
 intro c hc;have:=BQ.mp h c hc;unfold Fp at this;simpa using this
theorem a8s{w:List Nat}(hw:Fe w)(h1:figs w≠[])(h2:(figs w).all Fp=true):∃n,PySem.intText? (mk w)=some n:=by
 have hl:(mk w).length≤4300:=by rw[cS];have:=hw.1;omega
 have hd:=b3y h2;unfold figs at h1 hd;by_cases h:w.take 1=[45]
 ·rw[AS h]at h1 hd;cases w with
  |nil=>simp at h
  |cons c w=>
   simp at h;subst h;exact⟨_,intText_neg (x:=mk (45::w)) (cs:=w) (by rw[eY]) hd h1 hl⟩
 ·rw[AR h]at h1 hd;exact⟨_,intText_digits (x:=mk w) (by rw[eY];exact hd) (by rw[eY];exact h1) hl⟩
theorem b1v:(Str.ofString "0")=⟨#[48]⟩:=by decide+kernel
theorem c0a:(Str.ofString "9")=⟨#[57]⟩:=by decide+kernel
theorem a9e:(Str.ofString "")=mk []:=by decide+kernel
theorem tE:∀(cs:List Nat),Cy (Ca 0) (fun _=>some true) (Ai Co Co (fC (.str "0")) (Aa 0) (fC (.str "9"))) [none] (cs.map fun c=>.str ⟨#[c]⟩)=some (cs.map fun c=>.bl (Fp c))
 |[]=>rfl
 |c::cs=>by
  have ih:=tE cs;have h1:Ai Co Co (fC (.str "0")) (Aa 0) (fC (.str "9")) [some (.str ⟨#[c]⟩)]=some (.bl (Fp c)):=by
   show((Co (.str (Str.ofString "0")) (.str ⟨#[c]⟩)).bind fun z=>match z with|.bl true=>Co (.str ⟨#[c]⟩) (.str (Str.ofString "9"))|.bl false=>some (.bl false)|_=>none)=_;rw[b1v,c0a];show((some (D.bl (Ju ⟨#[48]⟩ ⟨#[c]⟩))).bind fun z=>match z with|.bl true=>some (D.bl (Ju ⟨#[c]⟩ ⟨#[57]⟩))|.bl false=>some (.bl false)|_=>none)=_;rw[zY,zY,AI];unfold Fp;by_cases h:48≤c<;>simp[h]
  show((Ai Co Co (fC (.str "0")) (Aa 0) (fC (.str "9")) [some (.str ⟨#[c]⟩)]).bind fun y=>(Cy (Ca 0) (fun _=>some true) (Ai Co Co (fC (.str "0")) (Aa 0) (fC (.str "9"))) [none] (cs.map fun c=>.str ⟨#[c]⟩)).map (y::·))=_;rw[h1,ih];rfl
theorem qY:∀(cs:List Nat),Jf (cs.map fun c=>D.bl (Fp c))=some (cs.map Fp)
 |[]=>rfl
 |c::cs=>by simp only[AO,Jf,qY cs,EO]
theorem a0m(cs:List Nat):(cs.map Fp).all id=cs.all Fp:=by
 rw[GE];rfl
theorem neW(a b:List Nat):Jm (W a) (W b)=some (.bl (!decide (a=b))):=by
 unfold Jm;rw[AS (by simp[Bv,dep]),lJ,kH]
theorem b4g{w:List Nat}(hw:Fe w):Cq [W w]=some (Bq w):=by
 have hl:=hw.1;have hlb:(mk w).length≤Ci:=by rw[cS];unfold Ci;omega
 have hfl:=a8y w;have s1:Ax 1 (Cu (fT (f2 Bc (Nk (Aa 0) Ah (Af (fC (.int 1)))) (fC (.str "-")))) (Nk (Aa 0) (Af (fC (.int 1))) Ah) (Aa 0)) [some (W w),none]=some (.nx [some (W w),some (W (figs w))]):=by
  have h1:Nk (Aa 0) Ah (Af (fC (.int 1))) [some (W w),none]=some (W (w.take 1)):=by
   show(if(0:Int)≤1∧(mk w).length≤Ci then some (D.str ⟨((mk w).cps.toList.take (1:Int).toNat).toArray⟩)else none)=_;rw[AS ⟨by decide,hlb⟩,eY];rfl
  have h2:Nk (Aa 0) (Af (fC (.int 1))) Ah [some (W w),none]=some (W (w.drop 1)):=by
   show(if(0:Int)≤1∧(mk w).length≤Ci then some (D.str ⟨((mk w).cps.toList.drop (1:Int).toNat).toArray⟩)else none)=_;rw[AS ⟨by decide,hlb⟩,eY];rfl
  have h3:fT (f2 Bc (Nk (Aa 0) Ah (Af (fC (.int 1)))) (fC (.str "-"))) [some (W w),none]=some (decide (w.take 1=[45])):=by
   unfold fT f2;rw[h1,AI,show fC (.str "-") [some (W w),none]=some (.str (Str.ofString "-"))from rfl,AI,iC,rR];rfl
  refine eB ?_;unfold Cu;rw[h3,AI,h2];unfold figs;by_cases h:w.take 1=[45]
  ·rw[AS (BD h),AS h]
  ·rw[AR (by rw[AH];exact h),AR h];rfl
 have s2:Cn (fT (f2 Bc (Aa 1) (fC (.str "")))) (Cn (fT (f2 Dg (f1 Bb (Ab (Aa 1) Ad)) (fC (.int 60)))) (Be (fT (f1 Jq (Ab (Db 1 [] (Og (Aa 1)) (Ca 0) (fun _=>some true) (Ai Co Co (fC (.str "0")) (Aa 0) (fC (.str "9")))) Ad))))) [some (W w),some (W (figs w))]=some (decide (figs w=[]∨60<(figs w).length∨(figs w).all Fp=false)):=by
  generalize figs w=f at hfl ⊢;have h1:fT (f2 Bc (Aa 1) (fC (.str ""))) [some (W w),some (W f)]=some (decide (f=[])):=by
   show(((some (W f)).bind fun x=>(some (D.str (Str.ofString ""))).bind fun y=>Bc x y).bind _)=_;rw[a9e,AI,AI,rR];rfl
  have h2:fT (f2 Dg (f1 Bb (Ab (Aa 1) Ad)) (fC (.int 60))) [some (W w),some (W f)]=some (decide (60<f.length)):=by
   have:Bb [W f]=some (.int f.length):=by
    show(if(mk f).length≤Ci then some (D.int (mk f).length)else none)=_;rw[AS (by rw[cS];unfold Ci;omega),cS]
   show(((Bb [W f]).bind fun x=>(some (D.int 60)).bind fun y=>Dg x y).bind _)=_;rw[this];show some (decide ((f.length:Int)>60))=_;congr 1;apply FR.mpr;omega
  have h3:Db 1 [] (Og (Aa 1)) (Ca 0) (fun _=>some true) (Ai Co Co (fC (.str "0")) (Aa 0) (fC (.str "9"))) [some (W w),some (W f)]=some (.lst (f.map fun c=>.bl (Fp c))):=by
   show(if((mk f).cps.toList.map fun c=>D.str ⟨#[c]⟩).length≤Ci then Option.map D.lst (Cy (Ca 0) (fun _=>some true) (Ai Co Co (fC (.str "0")) (Aa 0) (fC (.str "9"))) [none] ((mk f).cps.toList.map fun c=>.str ⟨#[c]⟩))else none)=_;rw[eY,AK,AS (by unfold Ci;omega),tE];rfl
  have h4:fT (f1 Jq (Ab (Db 1 [] (Og (Aa 1)) (Ca 0) (fun _=>some true) (Ai Co Co (fC (.str "0")) (Aa 0) (fC (.str "9")))) Ad)) [some (W w),some (W f)]=some (f.all Fp):=by
   unfold fT f1 Ab;rw[h3];show((Jq [.lst (f.map fun c=>.bl (Fp c))]).bind _)=_;simp only[Jq,qY,EO,a0m];rfl
  unfold Cn Be;rw[h1,h2,h4];by_cases c1:f=[]
  ·simp[c1]
  ·by_cases c2:60<f.length
   ·simp[c1,c2]
   ·cases c3:f.all Fp<;>simp[c1,c2]
 have hq:Hi [some (W w),none]=some (.rt (Bq w)):=by
  unfold Hi;rw[bT s1];by_cases c:figs w=[]∨60<(figs w).length∨(figs w).all Fp=false
  ·have e:Bq w=.non:=by
    unfold Bq;rw[AR];rintro⟨g1,g2,g3,_⟩;obtain c|c|c:=c
    ·exact g1 c
    ·omega
    ·rw[g3]at c;cases c
   rw[tQ (d:=.non) (by
    unfold Cb;rw[s2,BD c];rfl),e]
  ·rw[bT (ρ':=[some (W w),some (W (figs w))]) (by
    unfold Cb;rw[s2,AW c];rfl)]
   have g1:figs w≠[]:=fun z=>c (.inl z);have g2:(figs w).length≤60:=by
    by_cases z:60<(figs w).length
    ·exact absurd (.inr (.inl z)) c
    ·omega
   have g3:(figs w).all Fp=true:=by
    cases z:(figs w).all Fp
    ·exact absurd (.inr (.inr z)) c
    ·rfl
   obtain⟨n,hn⟩:=a8s hw g1 g3;have hint:f1 Ou (Ab (Aa 0) Ad) [some (W w),some (W (figs w))]=some (.int n):=by
    show(if(mk w).length≤640 then(PySem.intText? (mk w)).map D.int else none)=_;rw[AS (by rw[cS];omega),hn];rfl
   obtain⟨x,r,hf⟩:∃x r,figs w=x::r:=by
    cases z:figs w with
    |nil=>exact absurd z g1
    |cons x r=>exact⟨x,r,rfl⟩
   have hix:Bl (W (figs w)) (.int 0)=some (W [x]):=by
    show(if(mk (figs w)).length≤Ci then(Cp (mk (figs w)).cps.toList 0).map (fun c=>D.str ⟨#[c]⟩)else none)=_;rw[AS (by rw[cS];unfold Ci;omega),eY,hf];simp[Cp,Ct,W,mk]
   have ht:Cn (fT (f2 Jm (f2 Bl (Aa 1) (fC (.int 0))) (fC (.str "0")))) (fT (f2 Bc (Aa 0) (fC (.str "0")))) [some (W w),some (W (figs w))]=some (decide (x≠48∨w=[48])):=by
    have a1:fT (f2 Jm (f2 Bl (Aa 1) (fC (.int 0))) (fC (.str "0"))) [some (W w),some (W (figs w))]=some (!decide (x=48)):=by
     show(((Bl (W (figs w)) (.int 0)).bind fun x=>(some (D.str (Str.ofString "0"))).bind fun y=>Jm x y).bind _)=_;rw[hix,AI,AI,b1v];rw[show(D.str ⟨#[48]⟩)=W [48]from rfl,neW];simp
    have a2:fT (f2 Bc (Aa 0) (fC (.str "0"))) [some (W w),some (W (figs w))]=some (decide (w=[48])):=by
     show(((some (W w)).bind fun x=>(some (D.str (Str.ofString "0"))).bind fun y=>Bc x y).bind _)=_;rw[b1v,AI,AI,show(D.str ⟨#[48]⟩)=W [48]from rfl,rR];rfl
    unfold Cn;rw[a1,a2];by_cases z:x=48<;>simp[z]
   show((Cu _ _ _ [some (W w),some (W (figs w))]).map Fl.rt)=_;unfold Cu;rw[ht,AI];have hg:Mj w↔(x≠48∨w=[48]):=by
    unfold Mj;have e:(figs w).head?=some x:=by rw[hf];rfl
    rw[e];exact⟨fun y=>by simpa using y.2.2.2,fun z=>⟨g1,g2,g3,by simpa using z⟩⟩
   unfold Bq;rw[hn];by_cases z:x≠48∨w=[48]
   ·rw[AS (BD z),hint,AS (hg.mpr z)];rfl
   ·rw[AR (by rw[AH];exact z),AR (fun y=>z (hg.mp y))];rfl
 unfold Cq Az;rw[AS (by rfl)];show(match Hi [some (W w),none]with|some (.rt d)=>some d|some (.nx _)=>some .non|none=>none)=_;rw[hq]
end K03
namespace K03
open PySem L2 DL TX NumText
variable{t:Adr}
theorem a5c:∀(cs:List Nat) (acc:Nat),AllDigits cs→cs.foldl (fun acc c=>acc*10+(c - 48)) acc<(acc+1)*10 ^ cs.length
 |[],acc,_=>by simp
 |c::cs,acc,h=>by
  have hc:=h c AM;have ih:=a5c cs (acc*10+(c - 48)) fun x hx=>h x (AC _ hx);rw[HH,AQ];have h1:(acc*10+(c - 48)+1)*10 ^ cs.length≤((acc+1)*10)*10 ^ cs.length:=Nat.mul_le_mul_right _ (by omega);rw[Nat.pow_succ,Nat.mul_comm (10 ^ cs.length) 10,←Nat.mul_assoc];omega
theorem vD{cs:List Nat}(h:AllDigits cs):digitsVal cs<10 ^ cs.length:=by
 have:=a5c cs 0 h;rw[FX,Nat.one_mul]at this;exact this
theorem b1y{m x:Nat}{r:List Nat}(e:En m=x::r):x≠48∨r=[]:=by
 by_cases hx:x=48
 ·subst hx;right;by_cases hr:r=[]
  ·exact hr
  ·exfalso;have hd:=cG m;have hv:=kN m;rw[e]at hd hv;rw[digitsVal_zero]at hv;have hlt:=vD (cs:=r) fun c hc=>hd c (AC _ hc);rw[hv]at hlt;have h1:1≤r.length:=by
    cases r with
    |nil=>exact absurd rfl hr
    |cons a b=>simp
   have hl:(En m).length≤r.length:=by
    unfold En;rw[AK];exact GJ (by decide) h1 hlt
   rw[e]at hl;simp at hl;omega
 ·exact .inl hx
theorem zO{m:Nat}(h:m≤Bk):(En m).length≤60:=by
 unfold En;rw[AK];exact GJ (by decide) (by decide) (by unfold Bk at h;omega)
theorem b3k{cs:List Nat}(h:AllDigits cs):cs.all Fp=true:=by
 rw[BQ];intro c hc;have:=h c hc;unfold Fp;simpa using this
theorem a1w{w:List Nat}{n:Int}(hi:PySem.intText? (mk w)=some n)(m:Nat)(hf:figs w=En m)(hm:m≤Bk)(h0:En m=[48]→w=[48]):Bq w=.int n:=by
 unfold Bq;rw[AS,hi]
 ·rfl
 ·unfold Mj;rw[hf];refine⟨jE m,zO hm,b3k (cG m),?_⟩;cases e:En m with
  |nil=>exact absurd e (jE m)
  |cons x r=>
   obtain z|z:=b1y e
   ·exact .inl (by simpa using z)
   ·subst z;by_cases hx:x=48
    ·subst hx;exact .inr (h0 e)
    ·exact .inl (by simpa using hx)
theorem eL{i:Int}(h:i.natAbs≤Bk):Bq (intC i)=.int i:=by
 have hi:=b9j (pX h);cases i with
 |ofNat m=>
  have e:intC (Int.ofNat m)=En m:=fQ m;rw[e]at hi ⊢;refine a1w hi m ?_ h fun z=>z;unfold figs;rw[AR];cases e2:En m with
  |nil=>simp
  |cons x r=>
   have:=cG m x (by rw[e2];simp);simp;omega
 |negSucc m=>
  rw[fP]at hi ⊢;refine a1w hi (m+1) ?_ h fun z=>?_
  ·unfold figs;rw[AS (by simp)];simp
  ·have:=kN (m+1);rw[z]at this;exact absurd this (by show¬(0=m+1);omega)
def Ek(w:List Nat):D:=if w=[45]then .non else if w=Jy∨w=Oh then W w else if((cutC 46 (w.length+1) w).any fun p=>Ap (Bq p))=true then .tup []else .tup ((cutC 46 (w.length+1) w).map Bq)
theorem pV(w:List Nat):Bq w=.non∨∃n,Bq w=.int n:=by
 unfold Bq;split
 ·exact .inr ⟨_,rfl⟩
 ·exact .inl rfl
theorem sM(w:List Nat):Fc (Bq w)=true∧Cw (Bq w) .non=Ap (Bq w):=by
 obtain e|⟨n,e⟩:=pV w<;>rw[e]<;>exact⟨rfl,by unfold Cw;rfl⟩
theorem a2c(ws:List (List Nat)):Pc .non (.lst (ws.map Bq))=some (.bl (ws.any fun p=>Ap (Bq p))):=by
 show(if Fc .non&&(ws.map Bq).all Fc then some (D.bl (if false=true then !((ws.map Bq).any fun d=>Cw d .non)else(ws.map Bq).any fun d=>Cw d .non))else none)=_;rw[AS (by rw[GE,AE,BQ];exact⟨rfl,fun w _=>(sM w).1⟩),AR (by decide),List.any_map];have:((fun d=>Cw d D.non)∘Bq)=fun p=>Ap (Bq p):=funext fun w=>(sM w).2;rw[this]
theorem sZ{ws:List (List Nat)}(h:∀w∈ws,Fe w):Cy (Ca 0) (fun _=>some true) (f1 Cq (Ab (Aa 0) Ad)) [none] (ws.map W)=some (ws.map Bq):=by
 induction ws with
 |nil=>rfl
 |cons w ws ih=>
  show((f1 Cq (Ab (Aa 0) Ad) [some (W w)]).bind fun y=>(Cy (Ca 0) (fun _=>some true) (f1 Cq (Ab (Aa 0) Ad)) [none] (ws.map W)).map (y::·))=_;rw[ih fun v hv=>h v (AC _ hv),show f1 Cq (Ab (Aa 0) Ad) [some (W w)]=Cq [W w]from rfl,b4g (h w AM)];rfl
theorem b3j{w:List Nat}(hw:Fe w):Ja [W w]=some (Ek w):=by
 have hl:=hw.1;have t1:fT (f2 (Iy false) (Aa 0) (fC (.tup [(.str "-"),(.str "root"),(.str "bin")]))) [some (W w),none]=some (decide (w=[45]∨w=Jy∨w=Oh)):=by
  show((Iy false (.str (mk w)) (.tup ([Str.ofString "-",Str.ofString "root",Str.ofString "bin"].map D.str))).bind _)=_;rw[a2b,iC,oB,vJ];simp only[CD,GY,kH,GQ];show some (decide ([45]=w)||(decide (Jy=w)||decide (Oh=w)))=_;congr 1;rw[DH];simp only[BZ,AH];exact⟨fun h=>h.imp GF (Or.imp GF GF),fun h=>h.imp GF (Or.imp GF GF)⟩
 have hq:Kl [some (W w),none]=some (.rt (Ek w)):=by
  unfold Kl Ek;by_cases c:w=[45]∨w=Jy∨w=Oh
  ·refine tQ ?_;unfold Cb;rw[t1,BD c,AI,AS rfl];show((Cu _ _ _ [some (W w),none]).map Fl.rt)=_;have t2:fT (f2 Bc (Aa 0) (fC (.str "-"))) [some (W w),none]=some (decide (w=[45])):=by
    show(((some (W w)).bind fun x=>(some (D.str (Str.ofString "-"))).bind fun y=>Bc x y).bind _)=_;rw[iC,AI,AI,rR];rfl
   unfold Cu;rw[t2,AI];by_cases c1:w=[45]
   ·rw[AS (BD c1),AS c1];rfl
   ·rw[AR (by rw[AH];exact c1),AR c1,AS (c.resolve_left c1)];rfl
  ·rw[bT (ρ':=[some (W w),none]) (by
    unfold Cb;rw[t1,AW c];rfl)]
   rw[AR (fun z=>c (.inl z)),AR (fun z=>c (.inr z))];have hsp:=oS (c:=46) (by decide) hw;have hlen:=oK 46 (w.length+1) w;have hws:∀v∈cutC 46 (w.length+1) w,Fe v:=fun v hv=>lS hw hv;generalize cutC 46 (w.length+1) w=ws at *;have hcomp:Db 1 [] (Gc (Ew (Aa 0) (fC (.str ".")))) (Ca 0) (fun _=>some true) (f1 Cq (Ab (Aa 0) Ad)) [some (W w),none]=some (.lst (ws.map Bq)):=by
    unfold Db;rw[show Gc (Ew (Aa 0) (fC (.str "."))) [some (W w),none]=(Hh (W w) (.str (Str.ofString "."))).bind (fun d=>match d with|.lst xs=>some xs|_=>none)from rfl,vC,hsp];show(if(ws.map W).length≤Ci then Option.map D.lst (Cy _ _ _ [none] _)else none)=_;rw[AS (by rw[AK];unfold Ci;omega),sZ hws];rfl
   rw[bT (ρ':=[some (W w),some (.lst (ws.map Bq))]) (eB hcomp)];show((Cu _ _ _ [some (W w),some (.lst (ws.map Bq))]).map Fl.rt)=_;have t3:fT (f2 Pc (fC .non) (Aa 1)) [some (W w),some (.lst (ws.map Bq))]=some (ws.any fun p=>Ap (Bq p)):=by
    show((Pc .non (.lst (ws.map Bq))).bind _)=_;rw[a2c];rfl
   unfold Cu;rw[t3,AI];cases ws.any fun p=>Ap (Bq p)
   ·rfl
   ·rfl
 unfold Ja Az;rw[AS (by rfl)];show(match Kl [some (W w),none]with|some (.rt d)=>some d|some (.nx _)=>some .non|none=>none)=_;rw[hq]
theorem pW{i j:Int}{r:List Int}(h:∀x∈i::j::r,x.natAbs≤Bk):Ek (joinL 46 ((i::j::r).map intC))=.tup ((i::j::r).map D.int):=by
 have e:∀is:List Int,(∀x∈is,x.natAbs≤Bk)→(is.map intC).map Bq=is.map D.int:=fun is h=>by
  rw[DY];exact GL fun x hx=>eL (h x hx)
 have e2:∀is:List Int,(∀x∈is,x.natAbs≤Bk)→((is.map intC).any fun p=>Ap (Bq p))=false:=fun is h=>by
  rw[List.any_eq_false];intro w hw;obtain⟨x,hx,rfl⟩:=CF.mp hw;rw[eL (h x hx)];exact BB
 unfold Ek;rw[AR (jH (by decide) i j r),AR (fun z=>z.elim (jH (by decide) i j r) (jH (by decide) i j r)),xY (by simp),e2 _ h,AR (by decide),e _ h]
theorem xD(h:PN x):Ek (wordC x)=x:=by
 cases h with
 |non=>rfl
 |root=>
  show Ek (Str.ofString "root").cps.toList=_;rw[lO];unfold Ek;rw[AR (by decide),AS (.inl rfl),oB]
 |bin=>
  show Ek (Str.ofString "bin").cps.toList=_;rw[oM];unfold Ek;rw[AR (by decide),AS (.inr rfl),vJ]
 |@two a b ha hb=>exact pW (i:=a) (j:=b) (r:=[]) (by simp[ha,hb])
 |@three a b c ha hb hc=>exact pW (i:=a) (j:=b) (r:=[c]) (by simp[ha,hb,hc])
theorem iA(n:Nat)(w:List Nat):By Bk n (Bq w)=true:=by
 obtain e|⟨m,e⟩:=pV w<;>rw[e]<;>cases n<;>rfl
theorem mD(n:Nat){w:List Nat}(h:Fe w):By Bk n (W w)=true:=by
 have:Gw (mk w)=true:=by
  unfold Gw;rw[AE,AH,cS,eY,BQ];exact⟨by have:=h.1;omega,h.2⟩
 cases n<;>exact this
theorem zQ{w:List Nat}(h:Fe w):By Bk 1 (Ek w)=true:=by
 unfold Ek;split
 ·rfl
 split
 ·exact mD 1 h
 split
 ·rfl
 ·show((cutC 46 (w.length+1) w).map Bq).all (By Bk 0)=true;rw[GE,BQ];exact fun v _=>iA 0 v
end K03
namespace K03
open PySem L2 DL TX NumText
variable{t:Adr}
abbrev Ri:List Nat:=[99,117,116]
abbrev Px:List Nat:=[115,101,116]
theorem a9t:(Str.ofString "cut")=mk Ri:=by decide+kernel
theorem yM:(Str.ofString "set")=mk Px:=by decide+kernel
def Ng(k:List Nat)(j:Nat):Bool:=((decide (k=Ri)||decide (k=Px))&&decide (j=2))||(decide (k=Px)&&decide (j=1))
def Ez(k:List Nat)(j:Nat)(w:List Nat):D:=if(decide (k=Dk)&&decide (j=2))=true then W w else if Ng k j=true then Bq w else Ek w
def partsL(k:List Nat):Nat→List (List Nat)→List D
 |_,[]=>[]
 |j,w::ws=>Ez k j w::partsL k (j+1) ws
theorem mS(k:List Nat):∀(ws:List (List Nat)) (j:Nat) (w:List Nat),partsL k j (ws++[w])=partsL k j ws++[Ez k (j+ws.length) w]
 |[],j,w=>rfl
 |v::ws,j,w=>by
  show Ez k j v::partsL k (j+1) (ws++[w])=_;rw[mS k ws (j+1) w];show _=Ez k j v::(partsL k (j+1) ws++[Ez k (j+(ws.length+1)) w]);rw[show j+1+ws.length=j+(ws.length+1)by omega]
theorem jU(k:List Nat):∀(ws:List (List Nat)) (j:Nat),(partsL k j ws).length=ws.length
 |[],_=>rfl
 |_::ws,j=>by show(partsL k (j+1) ws).length+1=_;rw[jU k ws];rfl
theorem pJ{k:List Nat}{P:D→Prop}:∀{ws:List (List Nat)} {j:Nat},(∀w∈ws,∀j,P (Ez k j w))→∀d∈partsL k j ws,P d
 |[],_,_,d,hd=>by cases hd
 |w::ws,j,h,d,hd=>by
  obtain rfl|hd:=AN.mp hd
  ·exact h w AM j
  ·exact pJ (fun v hv=>h v (AC _ hv)) d hd
def restL(k:List Nat)(rs:List (List Nat)):List (List Nat):=if k=Dk then rs.take 2++[joinL 32 (rs.drop 2)]else rs
def Rj:D→Bool
 |.tup []=>true
 |_=>false
def Jn:List (List Nat)→D
 |a::b::c::k::r::rs=>if((partsL k 0 (restL k (r::rs))).any Rj||[a,b,c].any fun p=>Ap (Bq p))=true then .non else .tup [Bq a,Bq b,Bq c,.tup (W k::partsL k 0 (restL k (r::rs)))]
 |_=>.non
def Cz(l:List Nat):D:=Jn (cutC 32 (l.length+1) l)
theorem iP(c:Nat):∀(ws:List (List Nat)) (k:Nat),joinL c (ws.drop k)<:+joinL c ws
 |ws,0=>List.suffix_rfl
 |[],k+1=>List.suffix_rfl
 |w::ws,k+1=>by
  have ih:=iP c ws k;show joinL c (ws.drop k)<:+_;by_cases h:ws=[]
  ·subst h;simp[joinL]
  ·rw[bK h];exact ih.trans ⟨w++[c],by simp⟩
theorem tM{u w:List Nat}(h:Fe w)(s:u<:+w):Fe u:=⟨BG s.length_le h.1,fun c hc=>h.2 c (s.subset hc)⟩
theorem kI(c:Nat):∀(ws:List (List Nat)),(ws.map List.length).sum+ws.length≤(joinL c ws).length+1
 |[]=>by simp
 |[w]=>by simp[joinL]
 |w::v::ws=>by
  have ih:=kI c (v::ws);rw[bK (by simp),BF,AQ];simp only[AO,EQ,AQ]at ih ⊢;omega
theorem a0p{k:List Nat}{rs:List (List Nat)}(h:∀w∈rs,Fe w)(hj:Fe (joinL 32 rs)):∀w∈restL k rs,Fe w:=by
 intro w hw;unfold restL at hw;split at hw
 ·obtain hw|hw:=AZ.mp hw
  ·exact h w (FD hw)
  ·simp at hw;subst hw;exact tM hj (iP 32 rs 2)
 ·exact h w hw
theorem a3x{k:List Nat}{j:Nat}{w:List Nat}(h:Fe w):By Bk 1 (Ez k j w)=true:=by
 unfold Ez;split
 ·exact mD 1 h
 split
 ·exact iA 1 w
 ·exact zQ h
theorem wX{b n:Nat}:∀{ds:List D},(∀d∈ds,By b n d=true)→Cs ds=true∧Eg ds≤n
 |[],_=>by simp[Cs,Eg]
 |d::ds,h=>by
  have h1:=jF (h d AM);have h2:=wX fun x hx=>h x (AC _ hx);simp only[Cs,Eg,h1.1,h2.1,FP,true_and];omega
theorem b6w:∀d:D,Cw d (.tup [])=Rj d
 |.tup []=>by unfold Cw;rfl
 |.tup (_::_)=>by unfold Cw;rfl
 |.non=>by unfold Cw;rfl
 |.bl _=>by unfold Cw;rfl
 |.int _=>by unfold Cw;rfl
 |.str _=>by unfold Cw;rfl
 |.lst _=>by unfold Cw;rfl
 |.fn _=>by unfold Cw;rfl
 |.dk _=>by unfold Cw;rfl
theorem c0e{ds:List D}(h:∀d∈ds,By Bk 1 d=true):Rk false M0 (.tup []) (.lst ds)=some (.bl (ds.any Rj)):=by
 have h1:=wX h;show(if Bv (.tup [])&&Cs ds&&decide (Eg ds≤40)then some (D.bl (if false=true then !(ds.any fun d=>Cw d (.tup []))else ds.any fun d=>Cw d (.tup [])))else none)=_;rw[AS (by rw[AE,AE,AH];exact⟨⟨by simp[Bv,Cs],h1.1⟩,by omega⟩),AR (by decide)];congr 2;exact congrArg _ (funext b6w)
end K03
namespace K03
open PySem L2 DL TX NumText
variable{t:Adr}
theorem rA{ws:List (List Nat)}{i:Nat}{w:List Nat}(h:ws[i]?=some w):Cp (ws.map W) (i:Int)=some (W w):=by
 obtain⟨hl,he⟩:=AT.mp h;unfold Cp Ct;rw[AK,AS (by omega)];simp[hl,he]
theorem eqI(a b:Int):Bc (.int a) (.int b)=some (.bl (decide (a=b))):=by
 rw[b3e];congr 2
def Ni:Ac→Option Fl:=(Cb (Bh (fT (f2 Bc (f2 Bl (Aa 1) (fC (.int 3))) (fC (.str "write")))) (fT (f2 Bc (Aa 4) (fC (.int 2))))) (Gn 3 (f2 Bl (Aa 2) (Aa 4))) (Cb (Cn (Bh (fT (f2 (Iy false) (f2 Bl (Aa 1) (fC (.int 3))) (fC (.tup [(.str "cut"),(.str "set")])))) (fT (f2 Bc (Aa 4) (fC (.int 2))))) (Bh (fT (f2 Bc (f2 Bl (Aa 1) (fC (.int 3))) (fC (.str "set")))) (fT (f2 Bc (Aa 4) (fC (.int 1)))))) (Gn 3 (f1 Cq (Ab (f2 Bl (Aa 2) (Aa 4)) Ad))) (Gn 3 (f1 Ja (Ab (f2 Bl (Aa 2) (Aa 4)) Ad)))))
section
variable{x0 x5:Option D}{ws rest:List (List Nat)}{ps:List D}{i:Nat}{k w:List Nat}
abbrev Go(x0:Option D)(ws rest:List (List Nat))(ps:List D)(i:Nat)(x5:Option D):Ac:=[x0,some (.lst (ws.map W)),some (.lst (rest.map W)),some (.lst ps),some (.int (i:Int)),x5]
theorem a8c(hk:ws[3]?=some k):f2 Bl (Aa 1) (fC (.int 3)) (Go x0 ws rest ps i x5)=some (W k):=rA hk
theorem a8b(hw:rest[i]?=some w):f2 Bl (Aa 2) (Aa 4) (Go x0 ws rest ps i x5)=some (W w):=rA hw
theorem b6g(n:Nat):fT (f2 Bc (Aa 4) (fC (.int (n:Int)))) (Go x0 ws rest ps i x5)=some (decide (i=n)):=by
 show((Bc (.int (i:Int)) (.int (n:Int))).bind _)=_;rw[eqI];show some (decide ((i:Int)=n))=_;congr 1;apply FR.mpr;omega
theorem b9c(hk:ws[3]?=some k){c:List Nat}(hs:s=mk c):fT (f2 Bc (f2 Bl (Aa 1) (fC (.int 3))) (fC (.str s))) (Go x0 ws rest ps i x5)=some (decide (k=c)):=by
 unfold fT;show(((f2 Bl (Aa 1) (fC (.int 3)) (Go x0 ws rest ps i x5)).bind fun x=>(some (D.str s)).bind fun y=>Bc x y).bind _)=_;rw[a8c hk,hs,AI,AI,rR];rfl
theorem c0d(hk:ws[3]?=some k):fT (f2 (Iy false) (f2 Bl (Aa 1) (fC (.int 3))) (fC (.tup [(.str "cut"),(.str "set")]))) (Go x0 ws rest ps i x5)=some (decide (k=Ri)||decide (k=Px)):=by
 unfold fT;show(((f2 Bl (Aa 1) (fC (.int 3)) (Go x0 ws rest ps i x5)).bind fun x=>(some (D.tup [(.str "cut"),(.str "set")])).bind fun y=>Iy false x y).bind _)=_;rw[a8c hk,AI,AI,in2,a9t,yM,kH,kH];show some (decide (Ri=k)||decide (Px=k))=_;congr 1;rw[DH];simp only[BZ,AH];exact⟨fun h=>h.imp GF GF,fun h=>h.imp GF GF⟩
theorem a8d{f:Ac→Option D}(e:f (Go x0 ws rest ps i x5)=some d)(hl:ps.length<Ci):Gn 3 f (Go x0 ws rest ps i x5)=some (.nx (Go x0 ws rest (ps++[d]) i x5)):=by
 unfold Gn;rw[e,AI];show(if ps.length<Ci then some (Fl.nx ((Go x0 ws rest ps i x5).set 3 (some (.lst (ps++[d])))))else none)=_;rw[AS hl];rfl
theorem vO{fa fb:Ac→Option Bool}{a b:Bool}{ρ:Ac}(h1:fa ρ=some a)(h2:fb ρ=some b):Bh fa fb ρ=some (a&&b):=by
 unfold Bh;rw[h1,AI,h2];cases a<;>rfl
theorem a6z{fa fb:Ac→Option Bool}{a b:Bool}{ρ:Ac}(h1:fa ρ=some a)(h2:fb ρ=some b):Cn fa fb ρ=some (a||b):=by
 unfold Cn;rw[h1,AI,h2];cases a<;>rfl
theorem b6f(hk:ws[3]?=some k)(hw:rest[i]?=some w)(hwd:Fe w)(hl:ps.length<Ci):Ni (Go x0 ws rest ps i x5)=some (.nx (Go x0 ws rest (ps++[Ez k i w]) i x5)):=by
 have hg:∀{g:List D→Option D} {d:D},g [W w]=some d→f1 g (Ab (f2 Bl (Aa 2) (Aa 4)) Ad) (Go x0 ws rest ps i x5)=some d:=fun{g d} h=>by
  unfold f1 Ab;rw[a8b hw];exact h
 unfold Ni Ez;have h1:=vO (b9c (x0:=x0) (rest:=rest) (ps:=ps) (i:=i) (x5:=x5) hk dY) (b6g (x0:=x0) (ws:=ws) (rest:=rest) (ps:=ps) (i:=i) (x5:=x5) 2);have h2:=a6z (vO (c0d (x0:=x0) (rest:=rest) (ps:=ps) (i:=i) (x5:=x5) hk) (b6g (x0:=x0) (ws:=ws) (rest:=rest) (ps:=ps) (i:=i) (x5:=x5) 2)) (vO (b9c (x0:=x0) (rest:=rest) (ps:=ps) (i:=i) (x5:=x5) hk yM) (b6g (x0:=x0) (ws:=ws) (rest:=rest) (ps:=ps) (i:=i) (x5:=x5) 1));unfold Cb;rw[show(Bh (fT (f2 Bc (f2 Bl (Aa 1) (fC (.int 3))) (fC (.str "write")))) (fT (f2 Bc (Aa 4) (fC (.int 2))))) (Go x0 ws rest ps i x5)=_ from h1,AI];by_cases c1:(decide (k=Dk)&&decide (i=2))=true
 ·rw[AS c1,AS c1];exact a8d (a8b hw) hl
 ·rw[AR c1,AR c1];show((Cn _ _ (Go x0 ws rest ps i x5)).bind _)=_;rw[show(Cn (Bh (fT (f2 (Iy false) (f2 Bl (Aa 1) (fC (.int 3))) (fC (.tup [(.str "cut"),(.str "set")])))) (fT (f2 Bc (Aa 4) (fC (.int 2))))) (Bh (fT (f2 Bc (f2 Bl (Aa 1) (fC (.int 3))) (fC (.str "set")))) (fT (f2 Bc (Aa 4) (fC (.int 1)))))) (Go x0 ws rest ps i x5)=some (Ng k i)from h2,AI];by_cases c2:Ng k i=true
  ·rw[AS c2,AS c2];exact a8d (hg (b4g hwd)) hl
  ·rw[AR c2,AR c2];exact a8d (hg (b3j hwd)) hl
theorem b6e(hk:ws[3]?=some k)(hwd:∀w∈rest,Fe w)(hl:rest.length≤700)(x4:Option D):∃y,Im (Ha (f1 Bb (Ab (Aa 2) Ad))) (Hm 4) Ni [x0,some (.lst (ws.map W)),some (.lst (rest.map W)),some (.lst []),x4,x5]=some (.nx [x0,some (.lst (ws.map W)),some (.lst (rest.map W)),some (.lst (partsL k 0 rest)),y,x5]):=by
 have hi:Ha (f1 Bb (Ab (Aa 2) Ad)) [x0,some (.lst (ws.map W)),some (.lst (rest.map W)),some (.lst []),x4,x5]=some (Cv rest.length):=by
  show(if(-1000:Int)≤((rest.map W).length:Int)∧((rest.map W).length:Int)≤100000 then some (Cv ((rest.map W).length:Int).toNat)else none)=_;rw[AK,AS (by omega)];rfl
 obtain⟨ρ',e,y,he⟩:=iD (bnd:=Hm 4) (q:=Ni) (fun i ρ=>∃y,ρ=[x0,some (.lst (ws.map W)),some (.lst (rest.map W)),some (.lst (partsL k 0 (rest.take i))),y,x5]) (Cv rest.length) 0 [x0,some (.lst (ws.map W)),some (.lst (rest.map W)),some (.lst []),x4,x5] ⟨x4,by simp[partsL]⟩ (by
  rintro j d ρ hd ⟨y,rfl⟩;rw[FX]at *;have hj:j<rest.length:=by
   have:=(AT.mp hd).1;simpa[Cv]using this
  have hdj:d=.int (j:Int):=by
   unfold Cv at hd;rw[BO,List.getElem?_range hj]at hd;exact(BJ hd).symm
  subst hdj;have hw:rest[j]?=some rest[j]:=CL hj;refine⟨Go x0 ws rest (partsL k 0 (rest.take j)) j x5,_,rfl,b6f hk hw (hwd _ (HA hj)) (by rw[jU,CN];unfold Ci;omega),some (.int (j:Int)),?_⟩;have:rest.take (j+1)=rest.take j++[rest[j]]:=by rw[List.take_succ,hw];rfl
  rw[this,mS,CN,FX,FY (by omega)])
 refine⟨y,?_⟩;unfold Im;rw[hi,AI,e,he];have:(Cv rest.length).length=rest.length:=by simp[Cv]
 rw[this,FX,List.take_length]
end
end K03
namespace K03
open PySem L2 DL TX NumText
variable{t:Adr}
def Wf:Ac→Option Fl:=(Cb (fT (f2 Bc (f2 Bl (Aa 1) (fC (.int 3))) (fC (.str "write")))) (Ax 2 (f2 An (Ck (Aa 1) (Af (fC (.int 4))) (Af (fC (.int 6)))) (Bd (Ab (Fw (fC (.str " ")) (Ck (Aa 1) (Af (fC (.int 6))) Ah)) Ad)))) Ba)
def We:Ac→Option Fl:=(Am (Ax 5 (Db 1 [] (Gc (Ck (Aa 1) Ah (Af (fC (.int 3))))) (Ca 0) (fun _=>some true) (f1 Cq (Ab (Aa 0) Ad))))
 (Am (Cb (Cn (fT (f2 (Rk false M0) (Ay Ad) (Aa 3))) (fT (f2 Pc (fC .non) (Aa 5)))) (Ar (fC .non)) Ba)
 (Ar (Ay (Ab (f2 Bl (Aa 5) (fC (.int 0))) (Ab (f2 Bl (Aa 5) (fC (.int 1))) (Ab (f2 Bl (Aa 5) (fC (.int 2))) (Ab (f1 Fm (Ab (f2 An (Bd (Ab (f2 Bl (Aa 1) (fC (.int 3))) Ad)) (Aa 3)) Ad)) Ad))))))))
theorem yX:Iq=(Am (Ax 1 (Ew (Aa 0) (fC (.str " "))))
 (Am (Cb (fT (f2 De (f1 Bb (Ab (Aa 1) Ad)) (fC (.int 5)))) (Ar (fC .non)) Ba)
 (Am (Ax 2 (Ck (Aa 1) (Af (fC (.int 4))) Ah))
 (Am Wf (Am (La 3 Ad) (Am (Im (Ha (f1 Bb (Ab (Aa 2) Ad))) (Hm 4) Ni) We)))))):=rfl
theorem tl4{α:Type}(a b c d:α)(r:List α):Ao (a::b::c::d::r) (some 4) none=r:=by
 unfold Ao;rw[show(4:Int)=((4:Nat):Int)from rfl,HT.sIx_nat];simp[HT.sIx]
theorem b9r{α:Type}(a b c d:α)(r:List α):Ao (a::b::c::d::r) (some 4) (some 6)=r.take 2:=by
 unfold Ao;rw[show(4:Int)=((4:Nat):Int)from rfl,show(6:Int)=((6:Nat):Int)from rfl,HT.sIx_nat,HT.sIx_nat];simp
 match r with
 |[]=>simp
 |[x]=>simp
 |x::y::r=>simp
theorem tl6{α:Type}(a b c d:α)(r:List α):Ao (a::b::c::d::r) (some 6) none=r.drop 2:=by
 unfold Ao;rw[show(6:Int)=((6:Nat):Int)from rfl,HT.sIx_nat];simp[HT.sIx]
 match r with
 |[]=>simp
 |[x]=>simp
 |x::y::r=>simp
theorem xR{g:D→D→Option D}{fa fb:Ac→Option D}{ρ:Ac}(h1:fa ρ=some x)(h2:fb ρ=some y):f2 g fa fb ρ=g x y:=by
 unfold f2;rw[h1,h2];rfl
theorem fX{f:Ac→Option D}{fs:Ac→Option (List D)}{ρ:Ac}(h1:f ρ=some d)(h2:fs ρ=some ds):Ab f fs ρ=some (d::ds):=by
 unfold Ab;rw[h1,h2];rfl
theorem a8z{g:List D→Option D}{fs:Ac→Option (List D)}{ρ:Ac}(h:fs ρ=some ds):f1 g fs ρ=g ds:=by
 unfold f1;rw[h];rfl
theorem b3b{fs:Ac→Option (List D)}{ρ:Ac}{ds:List D}(h:fs ρ=some ds)(hl:ds.length≤1000):Bd fs ρ=some (.lst ds):=by
 unfold Bd;rw[h,AI,AS hl]
theorem a2d{fs:Ac→Option (List D)}{ρ:Ac}{ds:List D}(h:fs ρ=some ds)(hl:ds.length≤1000):Ay fs ρ=some (.tup ds):=by
 unfold Ay;rw[h,AI,AS hl]
section
variable{x0:Option D}{a b c k:List Nat}{rs:List (List Nat)}
theorem b6d(hj:Fe (joinL 32 rs))(hn:rs.length≤700):Wf [x0,some (.lst ((a::b::c::k::rs).map W)),some (.lst (rs.map W)),x3,x4,x5]=some (.nx [x0,some (.lst ((a::b::c::k::rs).map W)),some (.lst ((restL k rs).map W)),x3,x4,x5]):=by
 have h1:fT (f2 Bc (f2 Bl (Aa 1) (fC (.int 3))) (fC (.str "write"))) [x0,some (.lst ((a::b::c::k::rs).map W)),some (.lst (rs.map W)),x3,x4,x5]=some (decide (k=Dk)):=by
  show(((Cp ((a::b::c::k::rs).map W) ((3:Nat):Int)).bind fun x=>(some (D.str (Str.ofString "write"))).bind fun y=>Bc x y).bind _)=_;rw[rA (w:=k) rfl,dY,AI,AI,rR];rfl
 unfold Wf Cb;rw[h1,AI];unfold restL;by_cases h:k=Dk
 ·rw[AS (BD h),AS h];have hs:=kI 32 (rs.drop 2);have hd:=tM hj (iP 32 rs 2);have hjo:Ft (.str (Str.ofString " ")) (.lst ((rs.drop 2).map W))=some (W (joinL 32 (rs.drop 2))):=by
   rw[fW];exact oH (by have:=hd.1;unfold Ci;omega)
  refine(eB (d:=.lst ((rs.take 2++[joinL 32 (rs.drop 2)]).map W)) ?_).trans rfl;show((some (D.lst (Ao ((a::b::c::k::rs).map W) (some 4) (some 6)))).bind fun x=>(Bd (Ab (Fw (fC (.str " ")) (Ck (Aa 1) (Af (fC (.int 6))) Ah)) Ad) [x0,some (.lst ((a::b::c::k::rs).map W)),some (.lst (rs.map W)),x3,x4,x5]).bind fun y=>An x y)=_;have hf:Bd (Ab (Fw (fC (.str " ")) (Ck (Aa 1) (Af (fC (.int 6))) Ah)) Ad) [x0,some (.lst ((a::b::c::k::rs).map W)),some (.lst (rs.map W)),x3,x4,x5]=some (.lst [W (joinL 32 (rs.drop 2))]):=by
   have h6:Fw (fC (.str " ")) (Ck (Aa 1) (Af (fC (.int 6))) Ah) [x0,some (.lst ((a::b::c::k::rs).map W)),some (.lst (rs.map W)),x3,x4,x5]=some (W (joinL 32 (rs.drop 2))):=by
    show Ft (.str (Str.ofString " ")) (.lst (Ao ((a::b::c::k::rs).map W) (some 6) none))=_;rw[cZ,tl6,hjo]
   unfold Bd Ab;rw[h6];rfl
  rw[hf,AI,AI,cZ,b9r];show(if((rs.take 2).map W).length+1≤Ci then some (D.lst ((rs.take 2).map W++[W (joinL 32 (rs.drop 2))]))else none)=_;rw[AS (by rw[AK,CN];unfold Ci;omega),BY];rfl
 ·rw[AR (by rw[AH];exact h),AR h];rfl
theorem b9d(ha:Fe a)(hb:Fe b)(hc:Fe c){ps:List D}{rest:Option D}(hp:∀d∈ps,By Bk 1 d=true)(hl:ps.length≤1000):We [x0,some (.lst ((a::b::c::k::rs).map W)),rest,some (.lst ps),x4,x5]=some (.rt (if(ps.any Rj||[a,b,c].any fun p=>Ap (Bq p))=true then .non else .tup [Bq a,Bq b,Bq c,.tup (W k::ps)])):=by
 have hcomp:Db 1 [] (Gc (Ck (Aa 1) Ah (Af (fC (.int 3))))) (Ca 0) (fun _=>some true) (f1 Cq (Ab (Aa 0) Ad)) [x0,some (.lst ((a::b::c::k::rs).map W)),rest,some (.lst ps),x4,x5]=some (.lst ([a,b,c].map Bq)):=by
  unfold Db;rw[show Gc (Ck (Aa 1) Ah (Af (fC (.int 3)))) [x0,some (.lst ((a::b::c::k::rs).map W)),rest,some (.lst ps),x4,x5]=some (Ao ((a::b::c::k::rs).map W) none (some 3))from rfl,cZ,b9k];show(if([a,b,c].map W).length≤Ci then Option.map D.lst (Cy _ _ _ [none] _)else none)=_;rw[AS (by show 3≤Ci;decide),sZ (by simp[ha,hb,hc])];rfl
 unfold We;rw[bT (eB hcomp)];show Am _ _ [x0,some (.lst ((a::b::c::k::rs).map W)),rest,some (.lst ps),x4,some (.lst ([a,b,c].map Bq))]=_;have ht:Cn (fT (f2 (Rk false M0) (Ay Ad) (Aa 3))) (fT (f2 Pc (fC .non) (Aa 5))) [x0,some (.lst ((a::b::c::k::rs).map W)),rest,some (.lst ps),x4,some (.lst ([a,b,c].map Bq))]=some (ps.any Rj||[a,b,c].any fun p=>Ap (Bq p)):=by
  refine a6z ?_ ?_
  ·show((Rk false M0 (.tup []) (.lst ps)).bind _)=_;rw[c0e hp];rfl
  ·show((Pc .non (.lst ([a,b,c].map Bq))).bind _)=_;rw[a2c];rfl
 generalize (ps.any Rj||[a,b,c].any fun p=>Ap (Bq p))=z at ht ⊢;cases z with
 |true=>
  rw[AS rfl];refine tQ ?_;unfold Cb;rw[ht];rfl
 |false=>
  rw[AR (by decide),bT (ρ':=[x0,some (.lst ((a::b::c::k::rs).map W)),rest,some (.lst ps),x4,some (.lst ([a,b,c].map Bq))]) (by
   unfold Cb;rw[ht];rfl)]
  have hk:f2 Bl (Aa 1) (fC (.int 3)) [x0,some (.lst ((a::b::c::k::rs).map W)),rest,some (.lst ps),x4,some (.lst ([a,b,c].map Bq))]=some (W k):=rA (i:=3) rfl;have hd:f1 Fm (Ab (f2 An (Bd (Ab (f2 Bl (Aa 1) (fC (.int 3))) Ad)) (Aa 3)) Ad) [x0,some (.lst ((a::b::c::k::rs).map W)),rest,some (.lst ps),x4,some (.lst ([a,b,c].map Bq))]=some (.tup (W k::ps)):=by
   rw[a8z (fX (d:=.lst (W k::ps)) (ds:=[]) ?_ rfl)]
   ·rfl
   ·rw[xR (b3b (fX hk rfl) (by show 1≤1000;decide)) (show Aa 3 [x0,some (.lst ((a::b::c::k::rs).map W)),rest,some (.lst ps),x4,some (.lst ([a,b,c].map Bq))]=some (.lst ps)from rfl)];show(if 1+ps.length≤Ci then some (D.lst ([W k]++ps))else none)=_;rw[AS (by unfold Ci;omega)];rfl
  show((Ay _ [x0,some (.lst ((a::b::c::k::rs).map W)),rest,some (.lst ps),x4,some (.lst ([a,b,c].map Bq))]).map Fl.rt)=_;rw[a2d (fX (d:=Bq a) rfl (fX (d:=Bq b) rfl (fX (d:=Bq c) rfl (fX hd rfl)))) (by show 4≤1000;decide)];rfl
end
theorem pN{k:List Nat}{rs:List (List Nat)}(h:∀w∈rs,Fe w)(hj:Fe (joinL 32 rs)):∀d∈partsL k 0 (restL k rs),By Bk 1 d=true:=
 pJ fun w hw j=>a3x (a0p h hj w hw)
theorem a5y(k:List Nat)(rs:List (List Nat)):(restL k rs).length≤rs.length+3:=by
 unfold restL;split
 ·rw[BF,CN];simp;omega
 ·omega
theorem b3i{l:List Nat}(h:Fe l):Fv [W l]=some (Cz l):=by
 have hsp:=oS (c:=32) (by decide) h;have hlen:=oK 32 (l.length+1) l;have hws:∀v∈cutC 32 (l.length+1) l,Fe v:=fun v hv=>lS h hv;have hjo:=lH 32 (l.length+1) l;have hl:=h.1;have hq:Iq [some (W l),none,none,none,none,none]=some (.rt (Cz l)):=by
  rw[yX];unfold Cz;generalize cutC 32 (l.length+1) l=ws at *;rw[bT (eB (d:=.lst (ws.map W)) (by
   show Hh (W l) (.str (Str.ofString " "))=_;rw[fW];exact hsp))]
  show Am _ _ [some (W l),some (.lst (ws.map W)),none,none,none,none]=_;have ht:fT (f2 De (f1 Bb (Ab (Aa 1) Ad)) (fC (.int 5))) [some (W l),some (.lst (ws.map W)),none,none,none,none]=some (decide (ws.length<5)):=by
   show some (decide (((ws.map W).length:Int)<5))=_;rw[AK];congr 1;apply FR.mpr;omega
  by_cases h5:ws.length<5
  ·have e:Jn ws=.non:=by
    match ws,h5 with
    |[],_=>rfl
    |[_],_=>rfl
    |[_,_],_=>rfl
    |[_,_,_],_=>rfl
    |[_,_,_,_],_=>rfl
    |_::_::_::_::_::_,h=>simp at h;omega
   rw[e];refine tQ ?_;unfold Cb;rw[ht,BD h5];rfl
  ·rw[bT (ρ':=[some (W l),some (.lst (ws.map W)),none,none,none,none]) (by
    unfold Cb;rw[ht,AW h5];rfl)]
   obtain⟨a,b,c,k,r,rs,rfl⟩:∃a b c k r rs,ws=a::b::c::k::r::rs:=by
    match ws,h5 with
    |[],h=>simp at h
    |[_],h=>simp at h
    |[_,_],h=>simp at h
    |[_,_,_],h=>simp at h
    |[_,_,_,_],h=>simp at h
    |a::b::c::k::r::rs,_=>exact⟨a,b,c,k,r,rs,rfl⟩
   have hj:Fe (joinL 32 (r::rs)):=by
    have:=iP 32 (a::b::c::k::r::rs) 4;rw[hjo]at this;exact tM h this
   have hrs:∀w∈r::rs,Fe w:=fun w hw=>hws w (AC _ (AC _ (AC _ (AC _ hw))));have hn:(r::rs).length≤700:=by simp only[AQ]at hlen ⊢;omega
   have hrl:=a5y k (r::rs);rw[bT (eB (d:=.lst ((r::rs).map W)) (by
    show some (D.lst (Ao ((a::b::c::k::r::rs).map W) (some 4) none))=_;rw[cZ,tl4]))]
   show Am _ _ [some (W l),some (.lst ((a::b::c::k::r::rs).map W)),some (.lst ((r::rs).map W)),none,none,none]=_;rw[bT (b6d hj hn)];rw[bT (ρ':=[some (W l),some (.lst ((a::b::c::k::r::rs).map W)),some (.lst ((restL k (r::rs)).map W)),some (.lst []),none,none]) (by rfl)];obtain⟨y,hy⟩:=b6e (x0:=some (W l)) (x5:=none) (ws:=a::b::c::k::r::rs) (rest:=restL k (r::rs)) (k:=k) rfl (a0p hrs hj) (by simp only[AQ]at hlen hrl ⊢;omega) none;rw[bT hy,b9d (hws a (by simp)) (hws b (by simp)) (hws c (by simp)) (pN hrs hj) (by rw[jU];omega)];rfl
 unfold Fv Az;rw[AS (by rfl)];show(match Iq [some (W l),none,none,none,none,none]with|some (.rt d)=>some d|some (.nx _)=>some .non|none=>none)=_;rw[hq]
end K03
namespace K03
open PySem L2 DL TX NumText
variable{t:Adr}
theorem a2j{c:Nat}(last:List Nat)(n:Nat):∀(pre:List (List Nat)),(∀w∈pre,c∉w)→cutC c (n+pre.length) (joinL c (pre++[last]))=pre++cutC c n last
 |[],_=>rfl
 |w::pre,h=>by
  rw[List.cons_append,bK (by simp),AQ,show n+(pre.length+1)=(n+pre.length)+1 by omega,a0h _ (h w AM),a2j last n pre fun v hv=>h v (AC _ hv)];rfl
theorem a9u{pre:List (List Nat)}{last:List Nat}(h:∀w∈pre,32∉w):∃n,cutC 32 ((joinL 32 (pre++[last])).length+1) (joinL 32 (pre++[last]))=pre++cutC 32 n last:=by
 have h1:=oO 32 (pre++[last]);rw[BF,CK]at h1;have:=a2j (c:=32) last ((joinL 32 (pre++[last])).length+1 - pre.length) pre h;rw[Nat.sub_add_cancel (by omega)]at this;exact⟨_,this⟩
theorem qS{k:Str}{c:List Nat}(hs:s=mk c):k.cps.toList=c↔k=s:=by
 subst hs;exact⟨fun z=>by rw[←fH k,z],fun z=>by rw[z,eY]⟩
theorem a0r(k:Str)(j:Nat):(decide (k.cps.toList=Dk)&&decide (j=2))=true↔Kb k j:=by
 rw[AE,AH,AH,qS dY];rfl
theorem a1p(k:Str)(j:Nat):Ng k.cps.toList j=true↔Ix k j:=by
 unfold Ng;rw[BZ,AE,AE,BZ,AH,AH,AH,AH,qS a9t,qS yM];rfl
theorem wM{k:Str}{j:Nat}(p:Rr k j x):Ez k.cps.toList j (wordC x)=x∧Rj x=false:=by
 unfold Ez;by_cases h1:Kb k j
 ·rw[AS ((a0r k j).mpr h1)];obtain⟨s,rfl,_⟩:=p.txt h1;exact⟨b9w s,rfl⟩
 ·rw[AR (fun z=>h1 ((a0r k j).mp z))];by_cases h2:Ix k j
  ·rw[AS ((a1p k j).mpr h2)];obtain⟨i,rfl,hi⟩:=p.num h2;exact⟨eL hi,rfl⟩
  ·rw[AR (fun z=>h2 ((a1p k j).mp z))];have pn:=p.nam h1 h2;exact⟨xD pn,by cases pn<;>rfl⟩
theorem pI{k:List Nat}:∀(r:List D) (i:Nat),(∀j x,r[j]?=some x→Ez k (i+j) (wordC x)=x)→partsL k i (r.map wordC)=r
 |[],_,_=>rfl
 |x::r,i,h=>by
  show Ez k i (wordC x)::partsL k (i+1) (r.map wordC)=_;have h0:Ez k i (wordC x)=x:=h 0 x rfl;rw[h0,pI r (i+1) fun j y e=>by
   have:=h (j+1) y (by simpa using e);rwa[show i+(j+1)=i+1+j by omega]at this]
theorem VO.parts{h n tm:Int}{k:Str}{r:List D}(v:VO h n tm k r):partsL k.cps.toList 0 (r.map wordC)=r∧r.any Rj=false:=by
 refine⟨pI r 0 fun j x e=>by rw[FX];exact(wM (v.pos j x e)).1,?_⟩;rw[List.any_eq_false];intro x hx;obtain⟨j,e⟩:=EH hx;rw[(wM (v.pos j x e)).2];exact BB
theorem a4b{h n tm:Int}{k:Str}{r:List D}{rs:List (List Nat)}(v:VO h n tm k r)(hr:rs≠[])(hw:restL k.cps.toList rs=r.map wordC):Jn (intC h::intC n::intC tm::k.cps.toList::rs)=Ib h n tm k r:=by
 cases rs with
 |nil=>exact absurd rfl hr
 |cons x rs=>
  have p:=v.parts;show(if((partsL k.cps.toList 0 (restL k.cps.toList (x::rs))).any Rj||[intC h,intC n,intC tm].any fun p=>Ap (Bq p))=true then D.non else .tup [Bq (intC h),Bq (intC n),Bq (intC tm),.tup (W k.cps.toList::partsL k.cps.toList 0 (restL k.cps.toList (x::rs)))])=_;rw[hw,p.1,p.2];simp only[CD,GY,eL v.hh,eL v.hn,eL v.ht];rw[AR (by simp[Ap]),W,fH]
theorem VO.meant{h n tm:Int}(v:VO h n tm k r):Cz (Gy h n tm k r)=Ib h n tm k r:=by
 obtain⟨p,x,rfl⟩:=oA r v.r1;have e:(.int h::.int n::.int tm::.str k::(p++[x]):List D).map wordC=(intC h::intC n::intC tm::k.cps.toList::p.map wordC)++[wordC x]:=by
  rw[AO,AO,AO,AO,BY];rfl
 have hp:∀w∈intC h::intC n::intC tm::k.cps.toList::p.map wordC,32∉w:=by
  intro w hw;simp only[AN]at hw;obtain rfl|rfl|rfl|rfl|hw:=hw
  ·exact cO (.inl rfl)
  ·exact cO (.inl rfl)
  ·exact cO (.inl rfl)
  ·exact v.k32
  ·obtain⟨y,hy,rfl⟩:=CF.mp hw;obtain⟨j,ej⟩:=EH hy;have hj:j<p.length:=(AT.mp ej).1;refine(v.part (j:=j) (by rw[CJ hj];exact ej) fun z=>?_).1;have h3:=v.wr z.1;rw[BF,CK]at h3;have:=z.2;omega
 obtain⟨m,hm⟩:=a9u (last:=wordC x) hp;unfold Cz;show Jn (cutC 32 ((joinL 32 ((.int h::.int n::.int tm::.str k::(p++[x]):List D).map wordC)).length+1) (joinL 32 ((.int h::.int n::.int tm::.str k::(p++[x]):List D).map wordC)))=_;rw[e,hm];show Jn (intC h::intC n::intC tm::k.cps.toList::(p.map wordC++cutC 32 m (wordC x)))=_;refine a4b v (fun z=>gK 32 m (wordC x) (List.append_eq_nil_iff.mp z).2) ?_;by_cases hk:k="write"
 ·have h3:=v.wr hk;rw[BF,CK]at h3;unfold restL;rw[AS ((qS dY).mpr hk)];have hl:(p.map wordC).length=2:=by rw[AK];omega
  rw[←hl,List.take_left,List.drop_left,lH,BY];rfl
 ·unfold restL;rw[AR (fun z=>hk ((qS dY).mp z))];have:=(v.part (j:=p.length) (x:=x) (by simp) fun z=>hk z.1).1;rw[qR m this,BY];rfl
theorem mB{w:List Nat}(h:Ir w=some d):∃n,d=.int n:=by
 unfold Ir at h;obtain⟨n,_,rfl⟩:=AF.mp h;exact⟨n,rfl⟩
theorem kJ{f:List Nat→Option D}{P:D→Prop}:∀{ws:List (List Nat)} {ds:List D},(∀w∈ws,∀d,f w=some d→P d)→Ey f ws=some ds→∀d∈ds,P d
 |[],ds,_,e,d,hd=>by cases e;cases hd
 |w::ws,ds,h,e,d,hd=>by
  unfold Ey at e;obtain⟨d',e1,e⟩:=AA.mp e;obtain⟨ds',e2,rfl⟩:=AF.mp e;obtain rfl|hd:=AN.mp hd
  ·exact h w AM _ e1
  ·exact kJ (fun v hv=>h v (AC _ hv)) e2 d hd
theorem pO(n:Nat)(i:Int):By Bk n (.int i)=true:=by cases n<;>rfl
theorem fL{n:Nat}(h:∀d∈ds,By Bk n d=true):By Bk (n+1) (.tup ds)=true:=by
 show ds.all (By Bk n)=true;rw[BQ];exact h
theorem zP{w:List Nat}(hw:Fe w)(h:Ec w=some d):By Bk 1 d=true:=by
 unfold Ec at h;split at h
 ·cases h;rfl
 split at h
 ·cases h;exact mD 1 hw
 split at h
 ·obtain⟨ds,e,rfl⟩:=AF.mp h;refine fL (n:=0) (kJ (fun w _ d hd=>?_) e);obtain⟨n,rfl⟩:=mB hd;exact pO 0 n
 ·obtain⟨n,rfl⟩:=mB h;exact pO 1 n
theorem zR{ws:List (List Nat)}(hw:∀w∈ws,Fe w)(h:Jc ws=some d):By Bk 2 d=true:=by
 unfold Jc at h;obtain⟨ps,e,rfl⟩:=AF.mp h;refine fL fun d hd=>?_;obtain hd|hd:=AZ.mp hd
 ·obtain hd|hd:=AZ.mp hd
  ·obtain⟨w,hm,rfl⟩:=CF.mp hd;exact mD 1 (hw w (eX hm))
  ·exact kJ (fun w hm d hd=>zP (hw w (eX hm)) hd) e d hd
 ·obtain⟨w,hm,rfl⟩:=CF.mp hd;exact mD 1 (hw w (eX hm))
theorem b9i(nd:t.nd)(h:∀d∈ds,By Bk 2 d=true):∃b,Ak t [.tup ds]=some (.bl b)∧(b=true→∃(h n tm:Int) (k:Str) (r:List D),D.tup ds=Ib h n tm k r∧VO h n tm k r):=by
 by_cases h4:∃a b c d,ds=[a,b,c,d]
 ·obtain⟨a,b,c,d,rfl⟩:=h4;refine⟨_,b9o nd (by decide) (h a (by simp)) (h b (by simp)) (h c (by simp)) (h d (by simp)),fun z=>a7d z⟩
 ·exact⟨false,b3h ⟨fun a b c e z=>h4 ⟨a,b,c,e,by injection z⟩,(jF (fL h)).1⟩,fun z=>by cases z⟩
theorem b9z{l:List Nat}(h:Fe l)(e:Sg l=some op):∃ds,op=.tup ds∧∀d∈ds,By Bk 2 d=true:=by
 unfold Sg at e;obtain⟨ns,e1,e⟩:=AA.mp e;obtain⟨d,e2,rfl⟩:=AF.mp e;refine⟨_,rfl,fun x hx=>?_⟩;obtain hx|hx:=AZ.mp hx
 ·obtain⟨n,rfl⟩:=kJ (P:=fun d=>∃n,d=D.int n) (fun w _ d hd=>mB hd) e1 x hx;exact pO 2 n
 ·simp at hx;subst hx;exact zR (fun w hw=>lS h (eX hw)) e2
theorem b2g{l:List Nat}(h:Fe l):Cz l=.non∨∃ds,Cz l=.tup ds∧∀d∈ds,By Bk 2 d=true:=by
 have hws:∀v∈cutC 32 (l.length+1) l,Fe v:=fun v hv=>lS h hv;have hjo:=lH 32 (l.length+1) l;unfold Cz;generalize cutC 32 (l.length+1) l=ws at *;unfold Jn;split
 ·rename_i a b c k r rs;split
  ·exact .inl rfl
  ·refine .inr ⟨_,rfl,?_⟩;have hj:Fe (joinL 32 (r::rs)):=by
    have:=iP 32 (a::b::c::k::r::rs) 4;rw[hjo]at this;exact tM h this
   have hrs:∀w∈r::rs,Fe w:=fun w hw=>hws w (AC _ (AC _ (AC _ (AC _ hw))));intro d hd;simp only[AN,BN,EC]at hd;obtain rfl|rfl|rfl|rfl:=hd
   ·exact iA 2 a
   ·exact iA 2 b
   ·exact iA 2 c
   ·refine fL fun x hx=>?_;obtain rfl|hx:=AN.mp hx
    ·exact mD 1 (hws k (by simp))
    ·exact pN hrs hj x hx
 ·exact .inl rfl
end K03
namespace K03
open PySem L2 DL TX NumText
variable{t:Adr}
theorem iQ:∀(d:D),Bv d=true→Cw d d=true
 |.non,_=>by unfold Cw;rfl
 |.bl b,_=>by unfold Cw;simp
 |.int b,_=>by unfold Cw;simp
 |.str b,_=>by unfold Cw;simp
 |.tup xs,h=>by unfold Cw;exact dQ xs (by simpa[Bv]using h)
 |.lst xs,h=>by unfold Cw;exact dQ xs (by simpa[Bv]using h)
 |.fn _,h=>by simp[Bv]at h
 |.dk _,h=>by simp[Bv]at h
where dQ:∀(ds:List D),Cs ds=true→Fg ds ds=true
 |[],_=>by unfold Fg;rfl
 |d::ds,h=>by
  unfold Cs at h;rw[AE]at h;unfold Fg;rw[iQ d h.1,dQ ds h.2];rfl
theorem lR{fa fb:Ac→Option D}{a:Bool}{ρ:Ac}(h1:fa ρ=some (.bl a))(h2:a=true→fb ρ=r)(h3:a=false→r=some (.bl false)):Aq fa fb ρ=r:=by
 unfold Aq fT;rw[h1];cases a with
 |true=>exact h2 rfl
 |false=>exact(h3 rfl).symm
inductive Sw(t:Adr)(l:List Nat):Prop
 |yes (op:D) (hn:Bv op=true) (hd:dep op≤40) (hr:∀(M:Mh) (R:D→Mh→Prop) (E:EK),R op M→Hj t [W l] M R E) (hm:Cz l=op) (h0:Ap op=false) (ho:Ak t [op]=some (.bl true)) (hs:Df [op]=some (W l)):Sw t l
 |no (hr:∀(M:Mh) (R:D→Mh→Prop) (E:EK),E t.NoDeed M→Hj t [W l] M R E) (hm:Ap (Cz l)=true∨∃b l',Ap (Cz l)=false∧Ak t [Cz l]=some (.bl b)∧(b=true→Df [Cz l]=some (W l')∧l'≠l)):Sw t l
theorem VO.op_nice{h n tm:Int}(v:VO h n tm k r):Bv (Ib h n tm k r)=true∧dep (Ib h n tm k r)≤40:=by
 have key:∀(r:List D),(∀x∈r,Bv x=true∧dep x≤1)→Cs r=true∧Eg r≤1:=by
  intro r
  induction r with
  |nil=>intro _;simp[Cs,Eg]
  |cons x r ih=>
   intro h;have h1:=h x AM;have h2:=ih fun y hy=>h y (AC _ hy);simp only[Cs,Eg,h1.1,h2.1,FP,true_and];omega
 have hr:=key r fun x hx=>by
  obtain⟨j,e⟩:=EH hx;have p:=v.pos j x e;by_cases h1:Kb k j
  ·obtain⟨s,rfl,_⟩:=p.txt h1;simp[Bv,dep]
  ·by_cases h2:Ix k j
   ·obtain⟨i,rfl,_⟩:=p.num h2;simp[Bv,dep]
   ·have pn:=p.nam h1 h2;cases pn<;>simp[Bv,Cs,dep,Eg]
 simp only[Bv,Cs,dep,Eg,hr.1,FP,true_and];omega
theorem b0l(nd:t.nd){l:List Nat}(h:Fe l):Sw t l:=by
 by_cases A:∃(h' n tm:Int) (k:Str) (r:List D),VO h' n tm k r∧l=Gy h' n tm k r∧Ak t [Ib h' n tm k r]=some (.bl true)
 ·obtain⟨h',n,tm,k,r,v,rfl,ho⟩:=A;have hb:=v.back;refine .yes (Ib h' n tm k r) v.op_nice.1 v.op_nice.2 (fun M R E z=>a1d h ?_) v.meant rfl ho v.shown;rw[hb];exact⟨true,_,ho,v.op_nice.1,fun _=>v.shown,by rw[AS ⟨rfl,rfl⟩];exact z⟩
 ·have look:∀ds:List D,(∀d∈ds,By Bk 2 d=true)→∃b l',Ak t [.tup ds]=some (.bl b)∧(b=true→Df [.tup ds]=some (W l')∧l'≠l):=fun ds hds=>by
   obtain⟨b,e,hb⟩:=b9i nd hds;cases b with
   |false=>exact⟨false,[],e,fun z=>by cases z⟩
   |true=>
    obtain⟨h',n,tm,k,r,e2,v⟩:=hb rfl;rw[e2]at e ⊢;exact⟨true,_,e,fun _=>⟨v.shown,fun z=>A ⟨h',n,tm,k,r,v,z.symm,e⟩⟩⟩
  refine .no (fun M R E z=>a1d h ?_) ?_
  ·cases e:Sg l with
   |none=>exact z
   |some op=>
    obtain⟨ds,rfl,hds⟩:=b9z h e;obtain⟨b,l',e1,e2⟩:=look ds hds;refine⟨b,l',e1,(jF (fL hds)).1,fun hb=>(e2 hb).1,?_⟩;rw[AR (fun y=>(e2 y.1).2 y.2)];exact z
  ·obtain e|⟨ds,e,hds⟩:=b2g h
   ·exact .inl (by rw[e];rfl)
   ·obtain⟨b,l',e1,e2⟩:=look ds hds;exact .inr ⟨b,l',by rw[e];rfl,by rw[e];exact e1,by rw[e];exact e2⟩
end K03
namespace K03
open PySem L2 DL TX NumText
variable{t:Adr}
theorem a5x(r:List D):Dj "put" r=Pw r:=by unfold Dj;rw[AS rfl]
theorem a3b(r:List D):Dj "move" r=Nh r:=by unfold Dj;rw[AR (by decide+kernel),AS rfl]
theorem a3c(r:List D):Dj "drop" r=Nl r:=by unfold Dj;rw[AR (by decide+kernel),AR (by decide+kernel),AS rfl]
theorem yU(r:List D):Dj "write" r=Kq r:=by unfold Dj;rw[AR (by decide+kernel),AR (by decide+kernel),AR (by decide+kernel),AS rfl]
theorem a5z(r:List D):Dj "cut" r=Qa r:=by unfold Dj;rw[AR (by decide+kernel),AR (by decide+kernel),AR (by decide+kernel),AR (by decide+kernel),AS rfl]
theorem a5w(r:List D):Dj "set" r=Ps r:=by unfold Dj;rw[AR (by decide+kernel),AR (by decide+kernel),AR (by decide+kernel),AR (by decide+kernel),AR (by decide+kernel),AS rfl]
theorem a2z(r:List D):Dj "undo" r=Hn r:=by unfold Dj;rw[AR (by decide+kernel),AR (by decide+kernel),AR (by decide+kernel),AR (by decide+kernel),AR (by decide+kernel),AR (by decide+kernel),AS rfl]
theorem a3a(r:List D):Dj "redo" r=Hn r:=by unfold Dj;rw[AR (by decide+kernel),AR (by decide+kernel),AR (by decide+kernel),AR (by decide+kernel),AR (by decide+kernel),AR (by decide+kernel),AR (by decide+kernel),AS rfl]
theorem uE(h:Gi x):Dp x=true∧By Bk 1 x=true:=by
 obtain⟨a,b,rfl,h1,h2,h3,h4⟩:=h;have q1:a.natAbs≤Bk:=by unfold Bk;omega
 have q2:b.natAbs≤Bk:=by unfold Bk;omega
 simp[Dp,belowK,Dm,h1,h2,h3,By,q1,q2]
theorem kC(h:Eu x):Ed x=true∧By Bk 1 x=true:=by
 obtain rfl|rfl|h:=h
 ·exact⟨by decide+kernel,by decide+kernel⟩
 ·exact⟨by decide+kernel,by decide+kernel⟩
 ·have:=uE h;simp[Ed,this.1,this.2]
theorem b4a(h:No x):Od x=true∧By Bk 1 x=true:=by
 obtain rfl|h:=h
 ·exact⟨rfl,rfl⟩
 ·have:=uE h;simp[Od,this.1,this.2]
theorem a0z(h:Ow x):Ds x=true∧By Bk 1 x=true:=by
 obtain⟨a,b,c,rfl,h1,h2,h3,h4,h5,h6⟩:=h;have q1:a.natAbs≤Bk:=by unfold Bk;omega
 have q2:b.natAbs≤Bk:=by unfold Bk;omega
 have q3:c.natAbs≤Bk:=by unfold Bk;omega
 have q4:c<16:=by omega
 simp[Ds,belowK,Dm,h1,h2,h3,h5,q4,By,q1,q2,q3]
theorem b4n(h:Lq x):Qc x=true∧By Bk 1 x=true:=by
 obtain rfl|h:=h
 ·exact⟨rfl,rfl⟩
 ·have:=a0z h;simp[Qc,this.1,this.2]
theorem c0i(h:DG d):Er d=true∧By Bk 2 d=true:=by
 cases h with
 |put h1 h2=>
  have a:=kC h1;have b:=b4a h2;exact⟨by show Dj "put" _=true;rw[a5x];simp[Pw,a.1,b.1],by simp[By,a.2,b.2];decide+kernel⟩
 |move h1 h2 h3=>
  have a:=kC h1;have b:=kC h2;have c:=b4a h3;exact⟨by show Dj "move" _=true;rw[a3b];simp[Nh,a.1,b.1,c.1],by simp[By,a.2,b.2,c.2];decide+kernel⟩
 |drop h1=>
  have a:=kC h1;exact⟨by show Dj "drop" _=true;rw[a3c];simp[Nl,a.1],by simp[By,a.2];decide+kernel⟩
 |@write a b s h1 h2 h3 h4 h5=>
  have a:=kC h1;have b:=b4n h2;exact⟨by show Dj "write" _=true;rw[yU];simp[Kq,a.1,b.1,Ii,h4,h5],by simp[By,a.2,b.2,h3];decide+kernel⟩
 |@cut a x y z m h1 h2 h3 h4=>
  have a:=kC h1;have b:=a0z h2;obtain⟨x',y',z',e,g⟩:=id h2;simp only[D.tup.injEq,GC,D.int.injEq,and_true]at e;obtain⟨rfl,rfl,rfl⟩:=e;have q:m.natAbs≤Bk:=by unfold Bk;omega
  have qx:x.natAbs≤Bk:=by unfold Bk;omega
  have qy:y.natAbs≤Bk:=by unfold Bk;omega
  have qz:z.natAbs≤Bk:=by unfold Bk;omega
  exact⟨by show Dj "cut" _=true;rw[a5z];simp[Qa,a.1,b.1,Dm,h3,within,h4,q],by simp[By,a.2,q,qx,qy,qz];decide+kernel⟩
 |@set a p n h1 h2 h3 h4=>
  have a:=kC h1;have q1:p.natAbs≤Bk:=by unfold Bk;omega
  have q2:n.natAbs≤Bk:=by unfold Bk;omega
  have q3:p<4:=by omega
  exact⟨by show Dj "set" _=true;rw[a5w];simp[Ps,a.1,belowK,isInt,h2,q3,q2],by simp[By,a.2,q1,q2];decide+kernel⟩
 |undo h1=>
  have a:=uE h1;exact⟨by show Dj "undo" _=true;rw[a2z];simp[Hn,a.1],by simp[By,a.2];decide+kernel⟩
 |redo h1=>
  have a:=uE h1;exact⟨by show Dj "redo" _=true;rw[a3a];simp[Hn,a.1],by simp[By,a.2];decide+kernel⟩
def SW(w:List Nat):Prop:=w.length≤62∧∀c∈w,okSign c=true
theorem jT{i:Int}(h:i.natAbs<10 ^ 61):SW (intC i):=⟨dM h,fun c hc=>by
 obtain rfl|⟨h1,h2⟩:=qJ i c hc
 ·decide
 ·unfold okSign;simp;omega⟩
theorem a0a{i:Int}(h:i.natAbs<10 ^ 4):(intC i).length≤5:=by
 have hn:∀{m:Nat},m<10 ^ 4→(En m).length≤4:=fun{m} h=>by
  unfold En;rw[AK];exact GJ (by decide) (by decide) h
 cases i with
 |ofNat m=>
  rw[show intC (Int.ofNat m)=En m from fQ m];have:=hn (m:=m) h;omega
 |negSucc m=>
  rw[fP,AQ];have:=hn (m:=m+1) h;omega
theorem a0u{is:List Int}(hl:is.length≤3)(h:∀i∈is,i.natAbs<10 ^ 4):SW (joinL 46 (is.map intC)):=by
 constructor
 ·have h1:=fM (is.map intC) 46;have h2:∀(is:List Int),(∀i∈is,i.natAbs<10 ^ 4)→((is.map intC).map List.length).sum≤5*is.length:=by
   intro is
   induction is with
   |nil=>intro _;simp
   |cons i is ih=>
    intro h;have a:=a0a (h i AM);have b:=ih fun j hj=>h j (AC _ hj);simp only[AO,EQ,AQ];omega
  have h3:=h2 is h;rw[AK]at h1;omega
 ·have key:∀(is:List Int),(∀i∈is,i.natAbs<10 ^ 4)→∀c∈joinL 46 (is.map intC),okSign c=true:=by
   intro is
   induction is with
   |nil=>intro _ c hc;cases hc
   |cons i is ih=>
    intro h c hc;have hi:=(jT (i:=i) (by have:=h i AM;omega)).2;by_cases he:is=[]
    ·subst he;exact hi c hc
    ·rw[AO,bK (by simpa using he)]at hc;obtain hc|hc:=AZ.mp hc
     ·exact hi c hc
     ·obtain rfl|hc:=AN.mp hc
      ·decide
      ·exact ih (fun j hj=>h j (AC _ hj)) c hc
  exact key is h
theorem nZ(h:Gi x):SW (wordC x):=by
 obtain⟨a,b,rfl,h⟩:=h;exact a0u (is:=[a,b]) (by simp) (by simp;omega)
theorem yK{s:Str}(hl:s.length≤62)(h:Gw s=true):SW (wordC (.str s)):=by
 unfold Gw at h;rw[AE,BQ]at h;exact⟨by show s.cps.toList.length≤62;rw[DO];exact hl,h.2⟩
theorem fZ(h:Eu x):SW (wordC x):=by
 obtain rfl|rfl|h:=h
 ·exact yK (by decide+kernel) (by decide+kernel)
 ·exact yK (by decide+kernel) (by decide+kernel)
 ·exact nZ h
theorem a5h:SW (wordC .non):=⟨by decide,by decide⟩
theorem a5g(h:No x):SW (wordC x):=by
 obtain rfl|h:=h
 ·exact a5h
 ·exact nZ h
theorem vV(h:Ow x):SW (wordC x):=by
 obtain⟨a,b,c,rfl,h⟩:=h;exact a0u (is:=[a,b,c]) (by simp) (by simp;omega)
theorem b0n(h:Lq x):SW (wordC x):=by
 obtain rfl|h:=h
 ·exact a5h
 ·exact vV h
theorem gS{xs:List D}:(∀x∈xs,SW (wordC x))→∀w∈xs.map wordC,SW w:=fun h w hw=>by
 obtain⟨x,hx,rfl⟩:=CF.mp hw;exact h x hx
theorem a9m(h:DG d):∃ds,d=.tup ds∧ds.length≤4∧∀w∈ds.map wordC,SW w:=by
 have kw:∀s:Str,Gw s=true→s.length≤62→SW (wordC (.str s)):=fun s a b=>yK b a;cases h with
 |put h1 h2=>exact⟨_,rfl,by simp,gS (by simp[fZ h1,a5g h2,kw "put" (by decide+kernel) (by decide+kernel)])⟩
 |move h1 h2 h3=>exact⟨_,rfl,by simp,gS (by simp[fZ h1,fZ h2,a5g h3,kw "move" (by decide+kernel) (by decide+kernel)])⟩
 |drop h1=>exact⟨_,rfl,by simp,gS (by simp[fZ h1,kw "drop" (by decide+kernel) (by decide+kernel)])⟩
 |@write a b s h1 h2 h3 h4 h5=>exact⟨_,rfl,by simp,gS (by simp[fZ h1,b0n h2,kw s h3 (by omega),kw "write" (by decide+kernel) (by decide+kernel)])⟩
 |@cut a x y z m h1 h2 h3 h4=>
  have hm:SW (wordC (.int m)):=jT (by
   obtain⟨x',y',z',e,g⟩:=h2;simp only[D.tup.injEq,GC,D.int.injEq,and_true]at e;omega)
  exact⟨_,rfl,by simp,gS (by simp[fZ h1,vV h2,hm,kw "cut" (by decide+kernel) (by decide+kernel)])⟩
 |@set a p v h1 h2 h3 h4=>
  have hp:SW (wordC (.int p)):=jT (by omega);have hv:SW (wordC (.int v)):=jT (by omega);exact⟨_,rfl,by simp,gS (by simp[fZ h1,hp,hv,kw "set" (by decide+kernel) (by decide+kernel)])⟩
 |undo h1=>exact⟨_,rfl,by simp,gS (by simp[nZ h1,kw "undo" (by decide+kernel) (by decide+kernel)])⟩
 |redo h1=>exact⟨_,rfl,by simp,gS (by simp[nZ h1,kw "redo" (by decide+kernel) (by decide+kernel)])⟩
theorem b9f(nd:t.nd){h n tm:Int}(h0:0≤h)(h1:h<16)(n0:1≤n)(n1:n≤99)(t0:1≤tm)(t1:tm≤99)(hd:DG d):
  ∃(k:Str) (r:List D),D.tup [.int h,.int n,.int tm,d]=Ib h n tm k r∧VO h n tm k r∧Ak t [Ib h n tm k r]=some (.bl true)∧(∀w∈(.int h::.int n::.int tm::.str k::r:List D).map wordC,SW w):=by
 have hB:=c0i hd;have ho:=b9o nd (n:=2) (a:=.int h) (b:=.int n) (c:=.int tm) (d:=d) (by decide) rfl rfl rfl hB.2;have hb:(belowK 16 (.int h)&&Dm (.int n)&&Dm (.int tm)&&Er d)=true:=by
  rw[hB.1];have q2:n.natAbs≤Bk:=by unfold Bk;omega
  have q3:tm.natAbs≤Bk:=by unfold Bk;omega
  simp[belowK,Dm,h0,h1,n0,t0,q2,q3]
 rw[hb]at ho;obtain⟨h',n',tm',k,r,e,v⟩:=a7d hb;simp only[Ib,D.tup.injEq,GC,D.int.injEq,and_true]at e;obtain⟨rfl,rfl,rfl,rfl⟩:=e;obtain⟨ds,e,_,hw⟩:=a9m hd;injection e with e
 subst e;refine⟨k,r,rfl,v,ho,fun w hm=>?_⟩;obtain rfl|hm:=AN.mp hm
 ·exact jT (by omega)
 obtain rfl|hm:=AN.mp hm
 ·exact jT (by omega)
 obtain rfl|hm:=AN.mp hm
 ·exact jT (by omega)
 exact hw w hm
end K03
namespace K03
open PySem L2 DL TX NumText
variable{t:Adr}
def Mx(t:Adr):WS:=(Ch (Dn 12 (wl (f1 Fv (Ab (Aa 8) Ad))))
 (Ch (Dn 13 (wl (Aq (f2 Ae (Aa 12) (fC .non)) (Aq (f2 (Su false) (f1 (Ak t) (Ab (Aa 12) Ad)) (fC (.bl true))) (f2 Bc (f1 Df (Ab (Aa 12) Ad)) (Aa 8))))))
 (Ch (Gm (Ml (Cn (Bh (fT (f2 Bc (Aa 7) (fC (.int 0)))) (Be (fT (Aa 13)))) (fT (f2 Bc (Aa 9) (Aa 13))))) (Ht (wl (fC (.bl false)))) Gr)
 (Ht (wl (Bo (Aa 9) (f2 Bc (Aa 10) (Aa 12))))))))
def Mw(t:Adr):WS:=(Ch (Dn 8 (Ob " " (wl (Aa 4))))
 (Ch (Dn 9 (wl (fC (.bl false))))
 (Ch (Dn 10 (wl (fC .non)))
 (Ch (Ol 1 10 11 9 (Tg t.NoDeed) (Hj t) (Dh (wl (Aa 8)) Dx)) (Mx t)))))
theorem eH{f:Ac→Option D}{i:Nat}{q:WS}{ρ:Ac}{M:Mh}{R:Fl→Mh→Prop}(e:f ρ=some d)(h:q (ρ.set i (some d)) M R):Ch (Dn i (wl f)) q ρ M R:=by
 show(match f ρ with|some d=>_|none=>False);rw[e];exact h
theorem eU{ft:Ac→Option Bool}{b:Bool}{q1 q:WS}{ρ:Ac}{M:Mh}{R:Fl→Mh→Prop}(e:ft ρ=some b)(h:if b=true then Ch q1 q ρ M R else q ρ M R):Ch (Gm (Ml ft) q1 Gr) q ρ M R:=by
 show(match ft ρ with|some d=>_|none=>False);rw[e];cases b with
 |true=>exact h
 |false=>exact h
theorem b5h{fa fb:Ac→Option D}{a:Bool}{ρ:Ac}(h1:fa ρ=some (.bl a))(h2:a=false→fb ρ=r)(h3:a=true→r=some (.bl true)):Bo fa fb ρ=r:=by
 unfold Bo fT;rw[h1];cases a with
 |false=>exact h2 rfl
 |true=>exact(h3 rfl).symm
theorem c0h(a b:Bool):Bc (.bl a) (.bl b)=some (.bl (a==b)):=by simp[Bc,Bv,dep,Cw]
theorem b6c{ρ:Ac}{i:Nat}(h:ρ[i]?=some (some d)):Aa i ρ=some d:=by
 unfold Aa;rw[h];rfl
theorem b6v{ρ:Ac}{i:Nat}{b:Bool}(h:ρ[i]?=some (some (.bl b))):fT (Aa i) ρ=some b:=by
 unfold fT;rw[b6c h];rfl
section
variable{x0 x1 x2 x3 x4 x5 x6 x11:Option D}{v:Int}{l:List Nat}{M:Mh}{R:Fl→Mh→Prop}
theorem vU(hw:Fe l){b g:Bool}(hg:(Aq (f2 Ae (Aa 12) (fC .non)) (Aq (f2 (Su false) (f1 (Ak t) (Ab (Aa 12) Ad)) (fC (.bl true))) (f2 Bc (f1 Df (Ab (Aa 12) Ad)) (Aa 8)))) [x0,x1,x2,x3,x4,x5,x6,some (.int v),some (W l),some (.bl b),some fd,x11,some (Cz l),none]=some (.bl g))
  (hb:b=!g)(h0:v=0→g=true)(hf:b=false→Bc fd (Cz l)=some (.bl true))(k:∀M,R (.rt (.bl true)) M):
  Mx t [x0,x1,x2,x3,x4,x5,x6,some (.int v),some (W l),some (.bl b),some fd,x11,none,none] M R:=by
 unfold Mx;refine eH (d:=Cz l) (by show Fv [W l]=_;exact b3i hw) ?_;refine eH (d:=.bl g) hg ?_;show Ch _ _ [x0,x1,x2,x3,x4,x5,x6,some (.int v),some (W l),some (.bl b),some fd,x11,some (Cz l),some (.bl g)] M R;refine eU (b:=false) ?_ ?_
 ·have a1:fT (f2 Bc (Aa 7) (fC (.int 0))) [x0,x1,x2,x3,x4,x5,x6,some (.int v),some (W l),some (.bl b),some fd,x11,some (Cz l),some (.bl g)]=some (decide (v=0)):=by
   show((Bc (.int v) (.int 0)).bind _)=_;rw[eqI];rfl
  have a2:Be (fT (Aa 13)) [x0,x1,x2,x3,x4,x5,x6,some (.int v),some (W l),some (.bl b),some fd,x11,some (Cz l),some (.bl g)]=some (!g):=by
   unfold Be;rw[b6v rfl];rfl
  have a3:fT (f2 Bc (Aa 9) (Aa 13)) [x0,x1,x2,x3,x4,x5,x6,some (.int v),some (W l),some (.bl b),some fd,x11,some (Cz l),some (.bl g)]=some (b==g):=by
   show((Bc (.bl b) (.bl g)).bind _)=_;rw[c0h];rfl
  rw[a6z (vO a1 a2) a3,hb];by_cases hv:v=0
  ·rw[h0 hv];simp
  ·cases g<;>simp[hv]
 ·rw[AR (by decide)];refine b0u (d:=.bl true) ?_ (k M);exact b5h (a:=b) rfl (fun z=>hf z) fun _=>rfl
theorem a0s(nd:t.nd){ws:List (List Nat)}(hM:M p=some (.lst (ws.map W)))(hw:Fe (joinL 32 ws))(h0:v=0→∃(h n tm:Int) (k:Str) (r:List D),VO h n tm k r∧joinL 32 ws=Gy h n tm k r∧Ak t [Ib h n tm k r]=some (.bl true))
  (k:∀M,R (.rt (.bl true)) M):Mw t [x0,x1,x2,x3,some (.fn p),x5,x6,some (.int v),none,none,none,none,none,none] M R:=by
 have hs:=kI 32 ws;have hl:=hw.1;have hj:Ft (.str (Str.ofString " ")) (.lst (ws.map W))=some (W (joinL 32 ws)):=by
  rw[fW];exact oH (by unfold Ci;omega)
 unfold Mw;show Kn (match M p with|some (.lst xs)=>some xs|_=>none) _;rw[hM];show Kn (Ft (.str (Str.ofString " ")) (.lst (ws.map W))) _;rw[hj];generalize joinL 32 ws=l at *;refine eH (d:=.bl false) rfl ?_;refine eH (d:=.non) rfl ?_;show Ch _ _ [x0,x1,x2,x3,some (.fn p),x5,x6,some (.int v),some (W l),some (.bl false),some .non,none,none,none] M R;refine⟨rfl,?_⟩;cases b0l nd hw with
 |yes op hn hd hr hm h0' ho hsh=>
  refine hr M _ _ ?_;show Mx t [x0,x1,x2,x3,some (.fn p),x5,x6,some (.int v),some (W l),some (.bl false),some op,none,none,none] M R;refine vU hw (g:=true) ?_ rfl (fun _=>rfl) (fun _=>?_) k
  ·rw[hm];refine lR (a:=true) (by show some (D.bl (!Ap op))=_;rw[h0'];rfl) (fun _=>?_) (fun z=>by cases z);refine lR (a:=true) (by show((Ak t [op]).bind fun x=>(some (D.bl true)).bind fun y=>Su false x y)=_;rw[ho];rfl) (fun _=>?_) (fun z=>by cases z);show((Df [op]).bind fun x=>(some (W l)).bind fun y=>Bc x y)=_;rw[hsh];show Bc (W l) (W l)=_;rw[rR];simp
  ·rw[hm];unfold Bc;rw[AS (by rw[hn];simpa using hd),iQ op hn]
 |no hr hm=>
  refine hr M _ _ ?_;show Kn (Tg t.NoDeed t.NoDeed) _;unfold Tg;rw[AS rfl];show Mx t [x0,x1,x2,x3,some (.fn p),x5,x6,some (.int v),some (W l),some (.bl true),some .non,none,none,none] M R;refine vU hw (g:=false) ?_ rfl (fun z=>?_) (fun z=>by cases z) k
  ·obtain hm|⟨b,l',h1,h2,h3⟩:=hm
   ·exact lR (a:=false) (by show some (D.bl (!Ap (Cz l)))=_;rw[hm];rfl) (fun z=>by cases z) fun _=>rfl
   ·refine lR (a:=true) (by show some (D.bl (!Ap (Cz l)))=_;rw[h1];rfl) (fun _=>?_) (fun z=>by cases z);refine lR (a:=b) (by show((Ak t [Cz l]).bind fun x=>(some (D.bl true)).bind fun y=>Su false x y)=_;rw[h2];show some (D.bl (b==true))=_;cases b<;>rfl) (fun hb=>?_) fun _=>rfl;show((Df [Cz l]).bind fun x=>(some (W l)).bind fun y=>Bc x y)=_;rw[(h3 hb).1];show Bc (W l') (W l)=_;rw[rR,AW (h3 hb).2]
  ·exfalso;obtain⟨h,n,tm,kk,r,vo,hl',ho⟩:=h0 z;subst hl';rw[vo.meant]at hm;obtain hm|⟨b,l',_,h2,h3⟩:=hm
   ·cases hm
   ·rw[ho]at h2;cases h2;have:=h3 rfl;rw[vo.shown]at this;have e:=this.1;injection e with e
    injection e with e
    exact this.2 (a7w e).symm
end
end K03
namespace K03
open PySem L2 DL TX NumText
variable{t:Adr}
def Ig(ws:List (List Nat)):Nat:=(ws.map List.length).sum+ws.length
theorem pR(a b:List (List Nat)):Ig (a++b)=Ig a+Ig b:=by
 unfold Ig;rw[BY,List.sum_append,BF];omega
theorem eZ(w:List Nat)(b:List (List Nat)):Ig (w::b)=w.length+1+Ig b:=by
 unfold Ig;rw[AO,EQ,AQ];omega
theorem b5x(ws:List (List Nat))(a:Nat):Ig (ws.take a)+Ig (ws.drop a)=Ig ws:=by rw[←pR,List.take_append_drop]
theorem b2a(ws:List (List Nat))(a:Nat):Ig (ws.drop (a+1))≤Ig (ws.drop a):=by
 cases h:ws.drop a with
 |nil=>
  have:ws.drop (a+1)=[]:=by rw[←List.drop_drop,h];rfl
  rw[this];exact AU _
 |cons w r=>
  have:ws.drop (a+1)=r:=by rw[←List.drop_drop,h];rfl
  rw[this,eZ];omega
theorem a7s(x:Nat):∀(ws:List (List Nat)) (a:Nat) (w:List Nat),ws[a]?=some w→Ig (ws.set a (x::w))=Ig ws+1
 |[],_,_,h=>by cases h
 |v::ws,0,w,h=>by
  cases h;show Ig ((x::v)::ws)=_;rw[eZ,eZ,AQ];omega
 |v::ws,a+1,w,h=>by
  show Ig (v::ws.set a (x::w))=_;rw[eZ,eZ,a7s x ws a w (by simpa using h)];omega
def Pa(ws:List (List Nat)):Prop:=∀w∈ws,∀c∈w,okSign c=true
theorem uV:∀{ws:List (List Nat)},Pa ws→∀c∈joinL 32 ws,okSign c=true
 |[],_,c,hc=>by cases hc
 |[w],h,c,hc=>h w (by simp) c hc
 |w::v::ws,h,c,hc=>by
  rw[bK (by simp)]at hc;obtain hc|hc:=AZ.mp hc
  ·exact h w (by simp) c hc
  ·obtain rfl|hc:=AN.mp hc
   ·decide
   ·exact uV (ws:=v::ws) (fun u hu=>h u (AC _ hu)) c hc
theorem a1y{ws:List (List Nat)}(h1:Ig ws≤600)(h2:Pa ws):Fe (joinL 32 ws):=⟨BG (fM ws 32) h1,uV h2⟩
theorem b8z{m n:Int}(h:0<n):Av (.int m) (.int n)=some (.int (m%n)):=by
 have:n≠0:=by omega
 simp[Av,Bg,this,h]
theorem a8g{M:Mh}{p:Addr}{xs:List D}(hM:M p=some (.lst xs)):Pb M [.fn p]=some (.int xs.length):=by
 show((match M p with|some (.lst xs)=>some xs|_=>none:Option (List D)).map fun xs=>D.int xs.length)=_;rw[hM];rfl
theorem a8e{M:Mh}{p:Addr}(hM:M p=some (.lst xs)):lstM M (.fn p)=some xs:=by
 show(match M p with|some (.lst xs)=>some xs|_=>none:Option (List D))=_;rw[hM]
theorem b7k{α:Type}(xs:List α)(a:Nat):Ao xs none (some (a:Int))=xs.take a:=by
 unfold Ao;rw[HT.sIx_nat];simp[HT.sIx]
theorem xZ{α:Type}(xs:List α)(a:Nat):Ao xs (some (a:Int)) none=xs.drop a:=by
 unfold Ao;rw[HT.sIx_nat];simp[HT.sIx];obtain h|h:=Nat.le_total a xs.length
 ·rw[FY h,EY (by rw[DQ];exact AU _)]
 ·rw[GZ h,CI (AU _),CI h,List.take_nil]
theorem tP{M:Mh}{p:Addr}{ρ:Ac}{ol oh:Ac→Option (Option Int)}{lo hi:Option Int}{R:D→Mh→Prop}(hM:M p=some (.lst xs))(hv:Aa 4 ρ=some (.fn p))(el:ol ρ=some lo)(eh:oh ρ=some hi)(k:R (.lst (Ao xs lo hi)) M):Gq (wl (Aa 4)) ol oh ρ M R:=by
 refine wlE hv ?_;rw[el,eN,eh,eN,a8e hM,eN];exact k
theorem fI{ρ:Ac}{v:Int}(h:Aa 7 ρ=some (.int v))(n:Int):fT (f2 Bc (Aa 7) (fC (.int n))) ρ=some (decide (v=n)):=by
 unfold fT;rw[xR h (show fC (.int n) ρ=some (.int n)from rfl),eqI];rfl
def Wg:WS:=(Gm (Ml (fT (f2 Bc (Aa 7) (fC (.int 1))))) (Dn 4 (Jt (w2 Fx (Gq (wl (Aa 4)) Ah (Af (Aa 5))) (wl (Bd (Ab (Aa 6) Ad)))) (Gq (wl (Aa 4)) (Af (f2 An (Aa 5) (fC (.int 1)))) Ah))) Gr)
def Vi:WS:=(Gm (Ml (fT (f2 Bc (Aa 7) (fC (.int 2))))) (Dn 4 (Jt (Gq (wl (Aa 4)) Ah (Af (Aa 5))) (Gq (wl (Aa 4)) (Af (f2 An (Aa 5) (fC (.int 1)))) Ah))) Gr)
def Ur:WS:=(Gm (Ml (fT (f2 Bc (Aa 7) (fC (.int 3))))) (Dn 4 (Jt (w2 Fx (Gq (wl (Aa 4)) Ah (Af (Aa 5))) (wl (Bd (Ab (Aa 6) Ad)))) (Gq (wl (Aa 4)) (Af (Aa 5)) Ah))) Gr)
def Te:WS:=(Gm (Ml (fT (f2 Bc (Aa 7) (fC (.int 4))))) (Qr (wl (Aa 4)) (wl (Aa 5)) (w2 Fx (wl (fC (.str "0"))) (w2 Uq (wl (Aa 4)) (wl (Aa 5))))) Gr)
section
variable{x0 x1 x2 x3:Option D}{v:Int}{a:Nat}{s:List Nat}{ws:List (List Nat)}{p:Addr}{M:Mh}{R:Fl→Mh→Prop}
abbrev Hl(x0 x1 x2 x3:Option D)(p:Addr)(a:Nat)(s:List Nat)(v:Int):Ac:=[x0,x1,x2,x3,some (.fn p),some (.int (a:Int)),some (W s),some (.int v),none,none,none,none,none,none]
theorem b8t:Af (Aa 5) (Hl x0 x1 x2 x3 p a s v)=some (some (a:Int)):=rfl
theorem b8s:Af (f2 An (Aa 5) (fC (.int 1))) (Hl x0 x1 x2 x3 p a s v)=some (some ((a+1:Nat):Int)):=rfl
theorem rC{fa fb:WE}{xs ys:List (List Nat)}{q:WS}(ha:∀R:D→Mh→Prop,R (.lst (xs.map W)) M→fa (Hl x0 x1 x2 x3 p a s v) M R)(hb:∀R:D→Mh→Prop,R (.lst (ys.map W)) M→fb (Hl x0 x1 x2 x3 p a s v) M R)(hl:Ig xs+Ig ys≤600)
  (k:∀p' M',M' p'=some (.lst ((xs++ys).map W))→q (Hl x0 x1 x2 x3 p' a s v) M' R):Ch (Dn 4 (Jt fa fb)) q (Hl x0 x1 x2 x3 p a s v) M R:=by
 refine ha _ (hb _ ?_);show Kn (some (xs.map W)) _;rw[eN];show Kn (some (ys.map W)) _;rw[eN];unfold Ig at hl;refine⟨by rw[AK,AK];unfold Ci;omega,fun p' hp=>?_⟩;exact k p' _ (by rw[eQ,BY])
theorem a5l:Bd (Ab (Aa 6) Ad) (Hl x0 x1 x2 x3 p a s v)=some (.lst [W s]):=rfl
theorem yF{fa:WE}{xs:List (List Nat)}{R:D→Mh→Prop}(ha:∀R:D→Mh→Prop,R (.lst (xs.map W)) M→fa (Hl x0 x1 x2 x3 p a s v) M R)(hl:xs.length≤700)(k:R (.lst ((xs++[s]).map W)) M):w2 Fx fa (wl (Bd (Ab (Aa 6) Ad))) (Hl x0 x1 x2 x3 p a s v) M R:=by
 refine ha _ (wlE a5l ?_);show(match Fx M (.lst (xs.map W)) (.lst [W s])with|some d=>R d M|none=>False);rw[b3z (by rw[AK];show xs.length+1≤Ci;unfold Ci;omega)];rw[BY]at k;exact k
theorem a4w(w:List Nat):An (.str (Str.ofString "0")) (W w)=(if 1+w.length≤Ci then some (W (48::w))else none):=by
 show(if(Str.ofString "0").length+(mk w).length≤Ci then some (D.str (Str.ofString "0"++mk w))else none)=_;rw[b1v,cS];have e:(⟨#[48]⟩:Str)++mk w=mk (48::w):=by
  show(⟨#[48]++w.toArray⟩:Str)=⟨(48::w).toArray⟩;congr 1;simp
 rw[e];rfl
theorem b9v(nd:t.nd)(hM:M p=some (.lst (ws.map W)))(hmu:Ig ws≤500)(hok:Pa ws)(hs:s.length≤7)(hso:∀c∈s,okSign c=true)(ha:a<ws.length)(v0:0≤v)(v5:v<5)
  (h0:∃(h n tm:Int) (k:Str) (r:List D),VO h n tm k r∧joinL 32 ws=Gy h n tm k r∧Ak t [Ib h n tm k r]=some (.bl true))(k:∀M,R (.rt (.bl true)) M):
  Ch Wg (Ch Vi (Ch Ur (Ch Te (Mw t)))) (Hl x0 x1 x2 x3 p a s v) M R:=by
 have hlen:ws.length≤500:=by unfold Ig at hmu;omega
 have hcut:=b5x ws a;have hdr:=b2a ws a;have tk:Pa (ws.take a):=fun w hw=>hok w (FD hw);have dr:∀b,Pa (ws.drop b):=fun b w hw=>hok w (GH hw);have fin:∀{ws':List (List Nat)} {p':Addr} {M':Mh},M' p'=some (.lst (ws'.map W))→Ig ws'≤600→Pa ws'→v≠0→Mw t (Hl x0 x1 x2 x3 p' a s v) M' R:=fun h1 h2 h3 h4=>
  a0s nd h1 (a1y h2 h3) (fun z=>absurd z h4) k
 have left:∀R:D→Mh→Prop,R (.lst ((ws.take a).map W)) M→Gq (wl (Aa 4)) Ah (Af (Aa 5)) (Hl x0 x1 x2 x3 p a s v) M R:=fun R z=>tP hM rfl rfl b8t (by rw[b7k,←List.map_take];exact z);have right:∀R:D→Mh→Prop,R (.lst ((ws.drop a).map W)) M→Gq (wl (Aa 4)) (Af (Aa 5)) Ah (Hl x0 x1 x2 x3 p a s v) M R:=fun R z=>tP hM rfl b8t rfl (by rw[xZ,←List.map_drop];exact z);have right1:∀R:D→Mh→Prop,R (.lst ((ws.drop (a+1)).map W)) M→Gq (wl (Aa 4)) (Af (f2 An (Aa 5) (fC (.int 1)))) Ah (Hl x0 x1 x2 x3 p a s v) M R:=fun R z=>tP hM rfl b8s rfl (by rw[xZ,←List.map_drop];exact z);have apps:∀{x:List (List Nat)},Pa x→Pa (x++[s]):=fun{x} hx w hw=>by
  obtain hw|hw:=AZ.mp hw
  ·exact hx w hw
  ·simp at hw;subst hw;exact hso
 have app2:∀{x y:List (List Nat)},Pa x→Pa y→Pa (x++y):=fun{x y} hx hy w hw=>(AZ.mp hw).elim (hx w) (hy w);have mus:Ig (ws.take a++[s])=Ig (ws.take a)+s.length+1:=by rw[pR,eZ];show _+(s.length+1+0)=_;omega
 have tl:(ws.take a).length≤700:=by rw[CN];omega
 unfold Wg;refine eU (fI rfl 1) ?_;by_cases c1:v=1
 ·rw[AS (BD c1)];refine rC (fun R z=>yF left tl z) right1 (by omega) fun p' M' h=>?_;have nn:∀n:Int,n≠1→decide (v=n)=false:=fun n hn=>AW (by omega);unfold Vi;refine eU (fI rfl 2) ?_;rw[nn 2 (by decide),AR (by decide)];unfold Ur;refine eU (fI rfl 3) ?_;rw[nn 3 (by decide),AR (by decide)];unfold Te;refine eU (fI rfl 4) ?_;rw[nn 4 (by decide),AR (by decide)];exact fin h (by rw[pR,mus];omega) (app2 (apps tk) (dr _)) (by omega)
 rw[AR (by rw[AH];exact c1)];unfold Vi;refine eU (fI rfl 2) ?_;by_cases c2:v=2
 ·rw[AS (BD c2)];refine rC left right1 (by omega) fun p' M' h=>?_;have nn:∀n:Int,n≠2→decide (v=n)=false:=fun n hn=>AW (by omega);unfold Ur;refine eU (fI rfl 3) ?_;rw[nn 3 (by decide),AR (by decide)];unfold Te;refine eU (fI rfl 4) ?_;rw[nn 4 (by decide),AR (by decide)];exact fin h (by rw[pR];omega) (app2 tk (dr _)) (by omega)
 rw[AR (by rw[AH];exact c2)];unfold Ur;refine eU (fI rfl 3) ?_;by_cases c3:v=3
 ·rw[AS (BD c3)];refine rC (fun R z=>yF left tl z) right (by omega) fun p' M' h=>?_;have nn:∀n:Int,n≠3→decide (v=n)=false:=fun n hn=>AW (by omega);unfold Te;refine eU (fI rfl 4) ?_;rw[nn 4 (by decide),AR (by decide)];exact fin h (by rw[pR,mus];omega) (app2 (apps tk) (dr _)) (by omega)
 rw[AR (by rw[AH];exact c3)];unfold Te;refine eU (fI rfl 4) ?_;by_cases c4:v=4
 ·rw[AS (BD c4)];have hw:ws[a]?=some ws[a]:=CL ha;generalize ws[a]=w at hw;have hwl:w.length+1≤Ig ws:=by
   have h1:ws.drop a=w::ws.drop (a+1):=by
    have:=CY ha;rw[this];congr 1;have:=CL ha;rw[hw]at this;exact(BJ this).symm
   rw[h1,eZ]at hcut;omega
  show Qr _ _ _ (Hl x0 x1 x2 x3 p a s v) M _;show w2 Fx (wl (fC (.str (Str.ofString "0")))) _ (Hl x0 x1 x2 x3 p a s v) M _;refine wl2 (x:=.str (Str.ofString "0")) rfl ?_;refine wl2 (x:=.fn p) rfl ?_;refine wlE (d:=.int (a:Int)) rfl ?_;have e1:Uq M (.fn p) (.int (a:Int))=some (W w):=by
   show(match M p with|some (.dct kvs _)=>(Lj (.int (a:Int))).bind fun _=>Fo kvs (.int (a:Int))|some (.lst xs)=>Cp xs (a:Int)|_=>none:Option D)=_;rw[hM];exact rA hw
  rw[e1];show(match Fx M (.str (Str.ofString "0")) (W w)with|some d=>_|none=>False);rw[show Fx M (.str (Str.ofString "0")) (W w)=An (.str (Str.ofString "0")) (W w)from rfl,a4w,AS (by unfold Ci;omega)];refine wlE (d:=.fn p) rfl ?_;refine wlE (d:=.int (a:Int)) rfl ?_;have e2:Rc M (.fn p) (.int (a:Int)) (W (48::w))=some (Mt M p (.lst ((ws.set a (48::w)).map W))):=by
   unfold Rc;show(match M p with|some (.dct kvs ep)=>_|some (.lst xs)=>(Ct xs.length (a:Int)).map fun k=>Mt M p (.lst (xs.set k (W (48::w))))|_=>none:Option Mh)=_;rw[hM];show((Ct (ws.map W).length (a:Int)).map fun k=>Mt M p (.lst ((ws.map W).set k (W (48::w)))))=_;have e3:Ct (ws.map W).length (a:Int)=some a:=by
    unfold Ct;rw[AK,AS (by omega)];simp[ha]
   rw[e3,List.map_set];rfl
  rw[e2,eN];refine fin eQ (by rw[a7s 48 ws a w hw];omega) (fun u hu=>?_) (by omega);obtain hu|rfl:=List.mem_or_eq_of_mem_set hu
  ·exact hok u hu
  ·intro c hc;obtain rfl|hc:=AN.mp hc
   ·decide
   ·exact hok w (DC hw) c hc
 ·rw[AR (by rw[AH];exact c4)];exact a0s nd hM (a1y (by omega) hok) (fun _=>h0) k
end
def Wx:D→Bool
 |.str s=>decide (s.length≤7)&&s.cps.toList.all okSign
 |_=>false
theorem a6d:Pu t=(Ch (Dn 1 (wl (f1 Hb (Ab (Aa 0) (Ab (fC (.int 0)) (Ab (fC (.int 4)) Ad))))))
 (Ch (Dn 2 (wl (f1 Fh (Ab (Aa 0) (Ab (fC (.int 30)) (Ab (Aa 1) (Ab (fC (.int 16)) Ad)))))))
 (Ch (Dn 3 (wl (f1 Df (Ab (Ay (Ab (f2 Av (f1 Bx (Ab (Aa 0) (Ab (fC (.int 53)) Ad))) (fC (.int 16))) (Ab (f2 An (fC (.int 1)) (f2 Av (f1 Bx (Ab (Aa 0) (Ab (fC (.int 54)) Ad))) (fC (.int 99)))) (Ab (f2 An (fC (.int 1)) (f2 Av (f1 Bx (Ab (Aa 0) (Ab (fC (.int 55)) Ad))) (fC (.int 99)))) (Ab (Aa 2) Ad))))) Ad))))
 (Ch (Dn 4 (Mm (wl (Aa 3)) (wl (fC (.str " ")))))
 (Ch (Dn 5 (w2 (fun _=>Av) (wl (f1 Bx (Ab (Aa 0) (Ab (fC (.int 40)) Ad)))) (w1 Pb (Dh (wl (Aa 4)) Dx))))
 (Ch (Dn 6 (wl (f2 Bl (fC (.lst [(.str "0"),(.str "00"),(.str "-"),(.str "-0"),(.str "01"),(.str "x"),(.str ""),(.str "1.2"),(.str "1.2.3"),(.str "16.1"),(.str "0.0"),(.str "1."),(.str "root"),(.str "bin"),(.str "Root"),(.str "7"),(.str "-7"),(.str "put"),(.str "cut"),(.str "undo"),(.str "set"),(.str "1.2.3.4"),(.str "+1"),(.str "99")])) (f2 Av (f1 Bx (Ab (Aa 0) (Ab (fC (.int 41)) Ad))) (fC (.int 24))))))
 (Ch (Dn 7 (wl (f2 Av (f1 Bx (Ab (Aa 0) (Ab (fC (.int 42)) Ad))) (fC (.int 5)))))
 (Ch Wg (Ch Vi (Ch Ur (Ch Te (Mw t)))))))))))):=rfl
theorem law_true{ns:List Int}(nd:t.nd):Sh t [.lst (ns.map .int)] M0 (fun d _=>d=.bl true):=by
 obtain⟨ops,eops,hol,hops⟩:=a4x ns 0 4 (by decide);obtain⟨deed,ed,hdeed⟩:=a2f ns (base:=30) (most:=16) hops (by omega) (by decide) (by decide);obtain⟨m53,e53,_,_⟩:=dL ns (k:=53);obtain⟨m54,e54,_,_⟩:=dL ns (k:=54);obtain⟨m55,e55,_,_⟩:=dL ns (k:=55);obtain⟨m40,e40,_,_⟩:=dL ns (k:=40);obtain⟨m41,e41,_,_⟩:=dL ns (k:=41);obtain⟨m42,e42,_,_⟩:=dL ns (k:=42);obtain⟨k,r,eop,vo,ho,hsw⟩:=b9f nd (h:=m53%16) (n:=1+m54%99) (tm:=1+m55%99) (by omega) (by omega) (by omega) (by omega) (by omega) (by omega) hdeed;have mx:∀{j m:Int} {ρ:Ac},Aa 0 ρ=some (Ga ns)→Bx [Ga ns,.int j]=some (.int m)→f1 Bx (Ab (Aa 0) (Ab (fC (.int j)) Ad)) ρ=some (.int m):=fun h e=>by
  rw[a8z (fX h (fX rfl rfl))];exact e
 have mm:∀{j m n:Int} {ρ:Ac},Aa 0 ρ=some (Ga ns)→Bx [Ga ns,.int j]=some (.int m)→0<n→f2 Av (f1 Bx (Ab (Aa 0) (Ab (fC (.int j)) Ad))) (fC (.int n)) ρ=some (.int (m%n)):=fun h e hn=>by
  rw[xR (mx h e) rfl,b8z hn]
 have m1:∀{j m n:Int} {ρ:Ac},Aa 0 ρ=some (Ga ns)→Bx [Ga ns,.int j]=some (.int m)→0<n→f2 An (fC (.int 1)) (f2 Av (f1 Bx (Ab (Aa 0) (Ab (fC (.int j)) Ad))) (fC (.int n))) ρ=some (.int (1+m%n)):=fun h e hn=>by
  rw[xR (show fC (.int 1) _=some (.int 1)from rfl) (mm h e hn)];rfl
 refine⟨rfl,?_⟩;rw[a6d];show Ch _ _ [some (Ga ns),none,none,none,none,none,none,none,none,none,none,none,none,none] M0 _;refine eH eops ?_;refine eH ed ?_;refine eH (d:=W (Gy (m53%16) (1+m54%99) (1+m55%99) k r)) ?_ ?_
 ·rw[a8z (fX (d:=D.tup [.int (m53%16),.int (1+m54%99),.int (1+m55%99),deed]) (a2d (fX (mm rfl e53 (by decide)) (fX (m1 rfl e54 (by decide)) (fX (m1 rfl e55 (by decide)) (fX rfl rfl)))) (by show 4≤1000;decide)) rfl),eop];exact vo.shown
 generalize hl:Gy (m53%16) (1+m54%99) (1+m55%99) k r=l;have hlen:l.length≤441∧∀c∈l,okSign c=true:=by
  rw[←hl];have h1:Pa ((.int (m53%16)::.int (1+m54%99)::.int (1+m55%99)::.str k::r:List D).map wordC):=fun w hw=>(hsw w hw).2;have h2:∀(ws:List (List Nat)),(∀w∈ws,SW w)→Ig ws≤63*ws.length:=by
   intro ws
   induction ws with
   |nil=>intro _;exact AU _
   |cons w ws ih=>
    intro h;have:=(h w AM).1;have:=ih fun u hu=>h u (AC _ hu);rw[eZ,AQ];omega
  have h3:=h2 _ hsw;have h4:=fM ((.int (m53%16)::.int (1+m54%99)::.int (1+m55%99)::.str k::r:List D).map wordC) 32;have h5:=vo.r3;refine⟨?_,uV h1⟩;show(joinL 32 _).length≤441;unfold Ig at h3;rw[AK,AQ,AQ,AQ,AQ]at h4;rw[AK,AQ,AQ,AQ,AQ]at h3;omega
 show∃z,W l=.str z∧_;refine⟨mk l,rfl,Str.ofString " ",rfl,by decide+kernel,by rw[cS];unfold Ci;omega,fun p hp=>?_⟩;rw[fW,lU l (by decide),DY,cS];have hj:=lH 32 (l.length+1) l;have hmu:Ig (cutC 32 (l.length+1) l)≤500:=by
  have:=kI 32 (cutC 32 (l.length+1) l);rw[hj]at this;unfold Ig;omega
 have hok:Pa (cutC 32 (l.length+1) l):=fun w hw c hc=>hlen.2 c ((a2k hw).2 c hc);have hne:=gK 32 (l.length+1) l;generalize cutC 32 (l.length+1) l=ws at *;show Ch _ _ _ (Mt M0 p (.lst (ws.map W))) _;generalize hM':Mt M0 p (.lst (ws.map W))=M';have hM:M' p=some (.lst (ws.map W)):=by rw[←hM'];exact eQ
 have hn0:0<ws.length:=by
  cases ws with
  |nil=>exact absurd rfl hne
  |cons w r=>simp
 obtain⟨a,ha⟩:∃a:Nat,(a:Int)=m40%(ws.length:Int):=⟨(m40%(ws.length:Int)).toNat,by have:=DF m40 (b:=(ws.length:Int)) (by omega);omega⟩;have ha2:a<ws.length:=by have:=CM m40 (b:=(ws.length:Int)) (by omega);omega
 show w2 _ (wl (f1 Bx (Ab (Aa 0) (Ab (fC (.int 40)) Ad)))) _ _ M' _;refine wl2 (x:=.int m40) (mx rfl e40) ?_;show Kn (Pb M' [.fn p]) _;rw[a8g hM,eN,AK];show(match Av (.int m40) (.int (ws.length:Int))with|some d=>_|none=>False);rw[b8z (by omega),←ha];obtain⟨sd,es,hs⟩:=rB (α:=D) (xs:=[(.str "0"),(.str "00"),(.str "-"),(.str "-0"),(.str "01"),(.str "x"),(.str ""),(.str "1.2"),(.str "1.2.3"),(.str "16.1"),(.str "0.0"),(.str "1."),(.str "root"),(.str "bin"),(.str "Root"),(.str "7"),(.str "-7"),(.str "put"),(.str "cut"),(.str "undo"),(.str "set"),(.str "1.2.3.4"),(.str "+1"),(.str "99")]) (i:=m41%24) (by omega) (by show _<(24:Int);omega);have hc:∀d∈([(.str "0"),(.str "00"),(.str "-"),(.str "-0"),(.str "01"),(.str "x"),(.str ""),(.str "1.2"),(.str "1.2.3"),(.str "16.1"),(.str "0.0"),(.str "1."),(.str "root"),(.str "bin"),(.str "Root"),(.str "7"),(.str "-7"),(.str "put"),(.str "cut"),(.str "undo"),(.str "set"),(.str "1.2.3.4"),(.str "+1"),(.str "99")]:List D),Wx d=true:=BQ.mp (by decide+kernel);obtain⟨s,hs1,hs2,hs3⟩:∃s:List Nat,sd=W s∧s.length≤7∧∀c∈s,okSign c=true:=by
  have h1:=hc sd hs;unfold Wx at h1;split at h1
  ·rename_i z;rw[AE,AH,BQ]at h1;exact⟨z.cps.toList,by rw[W,fH],by rw[DO];exact h1.1,h1.2⟩
  ·cases h1
 rw[hs1]at es;refine eH (d:=W s) ?_ ?_
 ·rw[xR (show fC _ _=some _ from rfl) (mm rfl e41 (by decide))];exact es
 refine eH (mm rfl e42 (by decide)) ?_;refine b9v nd hM hmu hok hs2 hs3 ha2 (by omega) (by omega) ⟨_,_,_,k,r,vo,hj.trans hl.symm,ho⟩ (fun M=>rfl)
end K03
namespace K03
open PySem L2 DL XS
section
variable{P:Program}{w:World}{K:W.Frag}{mg:Str→Option Value}{base:Heap}{t:Adr}
theorem hU(T:Txt P w K mg t):Ok P w K mg base 1 "is_whole" ["thing"] (Du):=
 cC (own':=[]) (k:=0) T.C7 wA (fun hr=>(aI (aQ (eW (fJ b2s rfl T.K0 rfl T.J9 bI b0d (aA 0)) (eW (b7h (fJ a8n rfl T.K0 rfl T.J8 bI b3x (aA 0))) (dS (dU a7c a7f (bL b0b b7n rfl T.H9 b7r (aB (aA 0) aE)) (aO b5i b5o aC aC) (aL _))))))))
end
end K03
namespace K03
open PySem L2 DL XS
section
variable{P:Program}{w:World}{K:W.Frag}{mg:Str→Option Value}{base:Heap}{t:Adr}
theorem eP(T:Txt P w K mg t):Ok P w K mg base 2 "is_from_one" ["thing"] (Dl):=
 cC (own':=[]) (k:=1) T.C9 oX (fun hr=>(aI (aQ (eW (aG (hU T) (hr.mono (by decide)) rfl (aB (aA 0) aE) (aD (fun _ _ h=>aK h))) (dS (dU b8i b8l (aA 0) aC (aL _)))))))
end
end K03
namespace K03
open PySem L2 DL XS
section
variable{P:Program}{w:World}{K:W.Frag}{mg:Str→Option Value}{base:Heap}{t:Adr}
theorem hV(T:Txt P w K mg t):Ok P w K mg base 2 "is_below" ["thing","limit"] (Em):=
 cC (own':=[]) (k:=1) T.C8 wC (fun hr=>(aI (aQ (eW (aG (hU T) (hr.mono (by decide)) rfl (aB (aA 0) aE) (aD (fun _ _ h=>aK h))) (dS (qQ gZ hJ a7c a7f aC (aA 0) (aA 1)))))))
end
end K03
namespace K03
open PySem L2 DL XS
section
variable{P:Program}{w:World}{K:W.Frag}{mg:Str→Option Value}{base:Heap}{t:Adr}
theorem eO(T:Txt P w K mg t):Ok P w K mg base 3 "is_name" ["thing"] (Cj):=
 cC (own':=[]) (k:=2) T.D0 yR (fun hr=>(aH (cH (gP (fD (eV (eC (fJ fN rfl T.K0 rfl T.K5 bI dB (aA 0)))) (dR (aS sG sH (bL bV dG rfl T.K1 dH (aB (aA 0) aE)) aC (aL _))))) (aI (aQ gN)) bJ)
   (aI (aQ (eW (aG (hV T) (hr.mono (by decide)) rfl (aB (bE aR bC (aA 0) aC (fun _ _=>rfl)) (aB (fS T.K7 rfl) aE)) (aD (aD (fun _ _ h=>aK h)))) (dS (aG (eP T) (hr.mono (by decide)) rfl (aB (bE aR bC (aA 0) aC (fun _ _=>rfl)) aE) (aD (fun _ _ h=>aK h)))))))))
end
end K03
namespace K03
open PySem L2 DL XS
section
variable{P:Program}{w:World}{K:W.Frag}{mg:Str→Option Value}{base:Heap}{t:Adr}
theorem gL(T:Txt P w K mg t):Ok P w K mg base 4 "is_sign_name" ["thing"] (Bp):=
 cC (own':=[]) (k:=3) T.D1 nU (fun hr=>(aH (cH (gP (fD (eV (eC (fJ fN rfl T.K0 rfl T.K5 bI dB (aA 0)))) (dR (aS sG sH (bL bV dG rfl T.K1 dH (aB (aA 0) aE)) aC (aL _))))) (aI (aQ gN)) bJ)
   (aI (aQ (eW (aG (eO T) (hr.mono (by decide)) rfl (aB (bQ (aA 0) bM (bD aC)) aE) (aD (fun _ _ h=>aK h))) (dS (aG (hV T) (hr.mono (by decide)) rfl (aB (bE aR bC (aA 0) aC (fun _ _=>rfl)) (aB (fS T.K8 rfl) aE)) (aD (aD (fun _ _ h=>aK h))))))))))
end
end K03
namespace K03
open PySem L2 DL XS
section
variable{P:Program}{w:World}{K:W.Frag}{mg:Str→Option Value}{base:Heap}{t:Adr}
theorem zK(T:Txt P w K mg t):Ok P w K mg base 4 "is_item" ["thing"] (Fu):=
 cC (own':=[]) (k:=3) T.D2 yS (fun hr=>(aI (aQ (sW (aG (eO T) (hr.mono (by decide)) rfl (aB (aA 0) aE) (aD (fun _ _ h=>aK h))) (sW (dU (bF (Cc.units hr)) bG (aA 0) aW (aL _)) (dS (dU (bF (Cc.units hr)) bG (aA 0) aW (aL _))))))))
end
end K03
namespace K03
open PySem L2 DL XS
section
variable{P:Program}{w:World}{K:W.Frag}{mg:Str→Option Value}{base:Heap}{t:Adr}
theorem rJ(T:Txt P w K mg t):Ok P w K mg base 4 "is_sibling" ["thing"] (Ef):=
 cC (own':=[]) (k:=3) T.D3 rG (fun hr=>(aI (aQ (sW (dU zD zM (aA 0) cV (aL _)) (dS (aG (eO T) (hr.mono (by decide)) rfl (aB (aA 0) aE) (aD (fun _ _ h=>aK h))))))))
end
end K03
namespace K03
open PySem L2 DL XS
section
variable{P:Program}{w:World}{K:W.Frag}{mg:Str→Option Value}{base:Heap}{t:Adr}
theorem tZ(T:Txt P w K mg t):Ok P w K mg base 5 "is_behind" ["thing"] (Ep):=
 cC (own':=[]) (k:=4) T.D4 tS (fun hr=>(aI (aQ (sW (dU zD zM (aA 0) cV (aL _)) (dS (aG (gL T) (hr.mono (by decide)) rfl (aB (aA 0) aE) (aD (fun _ _ h=>aK h))))))))
end
end K03
namespace K03
open PySem L2 DL XS
section
variable{P:Program}{w:World}{K:W.Frag}{mg:Str→Option Value}{base:Heap}{t:Adr}
theorem zJ(T:Txt P w K mg t):Ok P w K mg base 1 "is_sign" ["sign"] (El):=
 cC (own':=[]) (k:=0) T.D5 yQ (fun hr=>(aI (aQ (eW (qQ gZ hJ gZ hJ aW (aA 0) aW) (dS (dU sG sH (bL a9y b7m rfl T.K2 b7q (aB (aA 0) aE)) (fS T.L4 rfl) (aL _)))))))
end
end K03
namespace K03
open PySem L2 DL XS
section
variable{P:Program}{w:World}{K:W.Frag}{mg:Str→Option Value}{base:Heap}{t:Adr}
theorem zI(T:Txt P w K mg t):Ok P w K mg base 2 "is_text" ["thing"] (Ea):=
 cC (own':=[]) (k:=1) T.D6 yP (fun hr=>(aH (cH (gP (fD (eV (eC (fJ uX rfl T.K0 rfl T.K4 bI qZ (aA 0)))) (dR (eV (a9h gZ hJ gZ hJ aC (bL bV dG rfl T.K1 dH (aB (aA 0) aE)) (fS T.K8 rfl)))))) (aI (aQ gN)) bJ)
   (aI (aQ (bL (qW rfl) a0k rfl T.J0 a0l (aB (fF (NL:=["sign"]) (NF:=[]) (ix:=[]) rfl (by decide) (by decide+kernel) (bS (sc:=Ag Hw) rfl (by decide+kernel)) Eh.nil (by decide) rfl (a9l (aA 0)) (fun _ _ _ _ _=>cI (i:=0) (show(["sign"]:List Str).Nodup by decide+kernel) rfl (Or.inl rfl)) (cP 0) (fun _ _ _ _ _=>kM) (fun _ _ _ _ _=>(aG (zJ T) (hr.mono (by decide)) rfl (aB (aA 0) aE) (aD (fun _ _ h=>aK h))))) aE))))))
end
end K03
namespace K03
open PySem L2 DL XS
section
variable{P:Program}{w:World}{K:W.Frag}{mg:Str→Option Value}{base:Heap}{t:Adr}
theorem wT(T:Txt P w K mg t):Ok P w K mg base 3 "is_place" ["thing"] (Fb):=
 cC (own':=[]) (k:=2) T.D7 wB (fun hr=>(aI (aQ (aG (hV T) (hr.mono (by decide)) rfl (aB (aA 0) (aB (fS T.K9 rfl) aE)) (aD (aD (fun _ _ h=>aK h)))))))
end
end K03
namespace K03
open PySem L2 DL XS
section
variable{P:Program}{w:World}{K:W.Frag}{mg:Str→Option Value}{base:Heap}{t:Adr}
theorem eG{g:List D→Option D}{ps:List Str}{k:Nat}(h:Ok P w K mg base k x ps g)(hm:mg x=some (.ref fad))(hp:ps.length=1)(hk:k≤5):∃fd ps,ps.length=1∧Kg P w K mg base Oa 5 fad fd ps (So K ps.length g)∧Ev K fd ps []∧W.keepIn K (.ref fad)=true:=by
 obtain⟨f',fd,h1,h2,h3,h4⟩:=h;rw[hm]at h3;cases h3;exact⟨fd,ps,hp,h1.mono hk,h2,h4⟩
end
end K03
namespace K03
open PySem L2 DL XS
section
variable{P:Program}{w:World}{K:W.Frag}{mg:Str→Option Value}{base:Heap}{t:Adr}
theorem b2w(T:Txt P w K mg t):Sk P w K mg base 5 1 (Gp t):=by
 intro fad g e;unfold Gp at e;split at e
 ·rename_i h;cases e;subst h;exact eG (zK T) T.L5 rfl (by decide)
 split at e
 ·rename_i h;cases e;subst h;exact eG (rJ T) T.L6 rfl (by decide)
 split at e
 ·rename_i h;cases e;subst h;exact eG (tZ T) T.L7 rfl (by decide)
 split at e
 ·rename_i h;cases e;subst h;exact eG (zI T) T.L8 rfl (by decide)
 split at e
 ·rename_i h;cases e;subst h;exact eG (gL T) T.L9 rfl (by decide)
 split at e
 ·rename_i h;cases e;subst h;exact eG (eP T) T.M5 rfl (by decide)
 split at e
 ·rename_i h;cases e;subst h;exact eG (wT T) T.M6 rfl (by decide)
 split at e
 ·rename_i h;cases e;subst h;exact eG (hU T) T.M7 rfl (by decide)
 split at e
 ·rename_i h;cases e;subst h;exact eG (eO T) T.M8 rfl (by decide)
 cases e
end
end K03
namespace K03
open PySem L2 DL XS
section
variable{P:Program}{w:World}{K:W.Frag}{mg:Str→Option Value}{base:Heap}{t:Adr}
theorem a7k(T:Txt P w K mg t):Ok P w K mg base 1 "_law_cell" ["_law_script","_law_k"] (Jb):=
 cC (own':=[]) (k:=0) T.E8 a5t (fun hr=>(aH (cH (a9g (aA 0)) (aI (aQ (bE aR bC (aA 0) (aO cA cB (aA 1) (bL bV dG rfl T.K1 dH (aB (aA 0) aE))) (fun _ _=>rfl)))) bJ)
   (aI (aQ aC))))
end
end K03
namespace K03
open PySem L2 DL XS
section
variable{P:Program}{w:World}{K:W.Frag}{mg:Str→Option Value}{base:Heap}{t:Adr}
theorem cJ(T:Txt P w K mg t):Ok P w K mg base 2 "_law_mix" ["_law_script","_law_k"] (Bx):=
 cC (own':=[]) (k:=1) T.E9 tV (fun hr=>(aH (cL (i:=2) tV.nd rfl (Or.inl rfl) (aO cA cB (aO aJ bB (aG (a7k T) (hr.mono (by decide)) rfl (aB (aA 0) (aB (aA 1) aE)) (aD (aD (fun _ _ h=>aK h)))) (aO lY lZ aC (aO aJ bB (aA 1) aC))) aC))
   (aH (cL (i:=2) tV.nd rfl (Or.inl rfl) (aO cA cB (aO lY lZ (aA 2) aC) aC))
   (aI (aQ (aO cA cB (aO aJ bB (aO lY lZ (aO jB jC (aA 2) aC) aC) (aA 2)) aC))))))
end
end K03
namespace K03
open PySem L2 DL XS
section
variable{P:Program}{w:World}{K:W.Frag}{mg:Str→Option Value}{base:Heap}{t:Adr}
theorem a3s(T:Txt P w K mg t):Ok P w K mg base 1 "_law_items" ["_law_ops"] (Hd):=
 cC (own':=[]) (k:=0) T.F4 a2x (fun hr=>(aI (aQ (aO aJ bB (aO aJ bB (eE (n:=8) rfl) (fF (NL:=["_law_one"]) (NF:=[]) (ix:=[]) rfl (by decide) (by decide+kernel) (bS (sc:=Ag Jj) rfl (by decide+kernel)) Eh.nil (by decide) rfl (fE (aA 0)) (fun _ _ _ _ _=>cI (i:=0) (show(["_law_one"]:List Str).Nodup by decide+kernel) rfl (Or.inl rfl)) (cP 0) (fun _ _ _ _ _=>b8d (aS (bF (Cc.units hr)) bG (bE aR bC (bE aR bC (aA 0) aC (fun _ _=>rfl)) aC (fun _ _=>rfl)) aW (aL _))) (fun _ _ _ _ _=>(cU (aB (bE aR bC (aA 0) aC (fun _ _=>rfl)) (aB (bE aR bC (aA 0) aC (fun _ _=>rfl)) aE)))))) (eE (n:=12) rfl)))))
end
end K03
namespace K03
open PySem L2 DL XS
section
variable{P:Program}{w:World}{K:W.Frag}{mg:Str→Option Value}{base:Heap}{t:Adr}
theorem a3q(T:Txt P w K mg t):Ok P w K mg base 1 "_law_signs" ["_law_ops"] (Hc):=
 cC (own':=[]) (k:=0) T.F5 iX (fun hr=>(aH (qP (i:=1) iX.nd rfl (Or.inl rfl) (aB cV (aB (eE (n:=10) rfl) aE)))
   (aH (vB GN rfl (fE (aA 0)) iX.nd rfl (Or.inl rfl) (aI (cH (aS (bF (Cc.units hr)) bG (bE aR bC (bE aR bC (aA 2) aC (fun _ _=>rfl)) aC (fun _ _=>rfl)) aW (aL _)) (aI (vB GN rfl (lL rfl T.K3 (bL bV dG rfl T.K1 dH (aB (bE aR bC (bE aR bC (aA 2) aC (fun _ _=>rfl)) aC (fun _ _=>rfl)) aE))) iX.nd rfl (Or.inl rfl) (aI (fR (i:=1) (by decide) (cU (aB (bE aR bC (aA 2) aC (fun _ _=>rfl)) (aB (bE aR bC (aA 2) aC (fun _ _=>rfl)) (aB (aA 3) aE)))))))) bJ)))
   (qO (aI (aQ (aA 1)))))))
end
end K03
namespace K03
open PySem L2 DL XS
section
variable{P:Program}{w:World}{K:W.Frag}{mg:Str→Option Value}{base:Heap}{t:Adr}
theorem a7i(T:Txt P w K mg t):Ok P w K mg base 1 "_law_text" ["_law_number_here","_law_most"] (Iz):=
 cC (own':=[]) (k:=0) T.F6 wD (fun hr=>(aH (cL (i:=2) wD.nd rfl (Or.inr rfl) aW)
   (aI (aQ (oJ aW (fF (NL:=["_law_k"]) (NF:=["_law_number_here","_law_letters"]) (ix:=[0,2]) rfl (by decide) (by decide+kernel) (bS (sc:=Ag Kx) rfl (by decide+kernel)) (Eh.cons (j:=0) (Eh.cons (j:=2) Eh.nil)) (by decide) rfl (lL rfl T.K3 (aO aJ bB aC (aO cA cB (aA 0) (aA 1)))) (fun _ _ _ _ _=>cI (i:=0) (show(["_law_k","_law_number_here","_law_letters"]:List Str).Nodup by decide+kernel) rfl (Or.inl rfl)) (cP 0) (fun _ _ _ _ _=>kM) (fun _ _ _ _ _=>(bE aR bC (aA 2) (aO cA cB (aO jB jC (aA 1) (aO aJ bB aC (aO lY lZ aC (aA 0)))) aC) (fun _ _=>rfl)))))))))
end
end K03
namespace K03
open PySem L2 DL XS
section
variable{P:Program}{w:World}{K:W.Frag}{mg:Str→Option Value}{base:Heap}{t:Adr}
theorem fK(T:Txt P w K mg t):Ok P w K mg base 1 "_law_pick" ["_law_rows","_law_number_here"] (Do):=
 cC (own':=[]) (k:=0) T.F7 a5s (fun hr=>(aI (aQ (bE aR bC (aA 0) (aO cA cB (aA 1) (bL bV dG rfl T.K1 dH (aB (aA 0) aE))) (fun _ _=>rfl)))))
end
end K03
namespace K03
open PySem L2 DL XS
section
variable{P:Program}{w:World}{K:W.Frag}{mg:Str→Option Value}{base:Heap}{t:Adr}
theorem wU(T:Txt P w K mg t):Ok P w K mg base 3 "_law_deed" ["_law_script","_law_base","_law_ops","_law_most"] (Fh):=
 cC (own':=[]) (k:=2) T.F8 cY (fun hr=>(aH (cL (i:=4) cY.nd rfl (Or.inl rfl) (aG (cJ T) (hr.mono (by decide)) rfl (aB (aA 0) (aB (aA 1) aE)) (aD (aD (fun _ _ h=>aK h)))))
   (aH (cL (i:=5) cY.nd rfl (Or.inl rfl) (aG (a3s T) (hr.mono (by decide)) rfl (aB (aA 2) aE) (aD (fun _ _ h=>aK h))))
   (aH (cL (i:=6) cY.nd rfl (Or.inl rfl) (aG (fK T) (hr.mono (by decide)) rfl (aB (aO aJ bB (bQ (aA 5) (bD aC) bM) (bQ (aA 5) bM (bD aC))) (aB (aG (cJ T) (hr.mono (by decide)) rfl (aB (aA 0) (aB (aO aJ bB (aA 1) aC) aE)) (aD (aD (fun _ _ h=>aK h)))) aE)) (aD (aD (fun _ _ h=>aK h)))))
   (aH (cL (i:=7) cY.nd rfl (Or.inl rfl) (aG (fK T) (hr.mono (by decide)) rfl (aB (aO aJ bB (aA 5) (eE (n:=9) rfl)) (aB (aG (cJ T) (hr.mono (by decide)) rfl (aB (aA 0) (aB (aO aJ bB (aA 1) aC) aE)) (aD (aD (fun _ _ h=>aK h)))) aE)) (aD (aD (fun _ _ h=>aK h)))))
   (aH (cH (eC (fJ uX rfl T.K0 rfl T.K4 bI qZ (aA 7))) (aI (cL (i:=7) cY.nd rfl (Or.inl rfl) cV)) bJ)
   (aH (cL (i:=8) cY.nd rfl (Or.inl rfl) (eE (n:=19) rfl))
   (aH (cL (i:=9) cY.nd rfl (Or.inl rfl) (bE aR bC (aA 8) (aO cA cB (aA 4) aC) (fun _ _=>rfl)))
   (aH (cH (aS (bF (Cc.units hr)) bG (aA 9) aW (aL _)) (aI (aQ (cU (aB (aA 9) (aB (aG (fK T) (hr.mono (by decide)) rfl (aB (aA 5) (aB (aG (cJ T) (hr.mono (by decide)) rfl (aB (aA 0) (aB (aO aJ bB (aA 1) aC) aE)) (aD (aD (fun _ _ h=>aK h)))) aE)) (aD (aD (fun _ _ h=>aK h)))) (aB (aA 7) aE)))))) bJ)
   (aH (cH (aS (bF (Cc.units hr)) bG (aA 9) aW (aL _)) (aI (aQ (cU (aB (aA 9) (aB (aA 6) (aB (aG (fK T) (hr.mono (by decide)) rfl (aB (aA 5) (aB (aG (cJ T) (hr.mono (by decide)) rfl (aB (aA 0) (aB (aO aJ bB (aA 1) aC) aE)) (aD (aD (fun _ _ h=>aK h)))) aE)) (aD (aD (fun _ _ h=>aK h)))) (aB (aA 7) aE))))))) bJ)
   (aH (cH (aS (bF (Cc.units hr)) bG (aA 9) aW (aL _)) (aI (aQ (cU (aB (aA 9) (aB (aA 6) aE))))) bJ)
   (aH (cL (i:=10) cY.nd rfl (Or.inl rfl) (aG (fK T) (hr.mono (by decide)) rfl (aB (aG (a3q T) (hr.mono (by decide)) rfl (aB (aA 2) aE) (aD (fun _ _ h=>aK h))) (aB (aG (cJ T) (hr.mono (by decide)) rfl (aB (aA 0) (aB (aO aJ bB (aA 1) aC) aE)) (aD (aD (fun _ _ h=>aK h)))) aE)) (aD (aD (fun _ _ h=>aK h)))))
   (aH (cH (aS (bF (Cc.units hr)) bG (aA 9) aW (aL _)) (aI (aQ (cU (aB (aA 9) (aB (aA 6) (aB (aA 10) (aB (aG (a7i T) (hr.mono (by decide)) rfl (aB (aG (cJ T) (hr.mono (by decide)) rfl (aB (aA 0) (aB (aO aJ bB (aA 1) aC) aE)) (aD (aD (fun _ _ h=>aK h)))) (aB (aA 3) aE)) (aD (aD (fun _ _ h=>aK h)))) aE))))))) bJ)
   (aH (cH (gP (qM (aS (bF (Cc.units hr)) bG (aA 9) aW (aL _)) (lK (aS a1k a1m (aA 10) cV (aL _))))) (aI (aQ (cU (aB (aA 9) (aB (aA 6) (aB (aA 10) (aB (aO aJ bB aC (aO cA cB (aO jB jC (aA 4) aC) (aO a7a a7l aC (bE aR bC (aA 10) aC (fun _ _=>rfl))))) aE))))))) bJ)
   (aH (cH (aS jA a1n (aA 9) (eE (n:=9) rfl) rfl) (aI (aQ (cU (aB aW (aB (aA 6) (aB (aO cA cB (aO jB jC (aA 4) aC) aC) (aB (aO a7a a7l (aO cA cB (aO jB jC (aA 4) aC) aC) aC) aE))))))) bJ)
   (aH (cL (i:=11) cY.nd rfl (Or.inl rfl) (aO aJ bB (fF (NL:=["_law_one"]) (NF:=[]) (ix:=[]) rfl (by decide) (by decide+kernel) (bS (sc:=Ag Kz) rfl (by decide+kernel)) Eh.nil (by decide) rfl (fE (aA 2)) (fun _ _ _ _ _=>cI (i:=0) (show(["_law_one"]:List Str).Nodup by decide+kernel) rfl (Or.inl rfl)) (cP 0) (fun _ _ _ _ _=>kM) (fun _ _ _ _ _=>(cU (aB (bE aR bC (aA 0) aC (fun _ _=>rfl)) (aB (bE aR bC (aA 0) aC (fun _ _=>rfl)) aE))))) (mQ (aB (cU (aB aC (aB (aO aJ bB aC (aO cA cB (aA 4) aC)) aE))) aE))))
   (aI (aQ (cU (aB (aA 9) (aB (aG (fK T) (hr.mono (by decide)) rfl (aB (aA 11) (aB (aG (cJ T) (hr.mono (by decide)) rfl (aB (aA 0) (aB (aO aJ bB (aA 1) aC) aE)) (aD (aD (fun _ _ h=>aK h)))) aE)) (aD (aD (fun _ _ h=>aK h)))) aE)))))))))))))))))))))
end
end K03
namespace K03
open PySem L2 DL XS
section
variable{P:Program}{w:World}{K:W.Frag}{mg:Str→Option Value}{base:Heap}{t:Adr}
theorem jW(T:Txt P w K mg t):Ok P w K mg base 1 "_law_number" ["_law_word"] (Cq):=
 cC (own':=[]) (k:=0) T.G6 oZ (fun hr=>(aH (cL (i:=1) oZ.nd rfl (Or.inl rfl) (xV (aS (bF (Cc.units hr)) bG (sV (aA 0) bM (bD aC)) aW (aL _)) (sV (aA 0) (bD aC) bM) (aA 0)))
   (aH (cH (gP (fD (aS (bF (Cc.units hr)) bG (aA 1) aW (aL _)) (fD (aS b8h b8k (bL bV dG rfl T.K1 dH (aB (aA 1) aE)) aC (aL _)) (dR (eV (eC (bL (qW rfl) a0k rfl T.J0 a0l (aB (fF (NL:=["_law_sign"]) (NF:=[]) (ix:=[]) rfl (by decide) (by decide+kernel) (bS (sc:=Ag Hy) rfl (by decide+kernel)) Eh.nil (by decide) rfl (a9l (aA 1)) (fun _ _ _ _ _=>cI (i:=0) (show(["_law_sign"]:List Str).Nodup by decide+kernel) rfl (Or.inl rfl)) (cP 0) (fun _ _ _ _ _=>kM) (fun _ _ _ _ _=>(qQ gZ hJ gZ hJ aW (aA 0) aW))) aE)))))))) (aI (aQ cV)) bJ)
   (aI (aQ (xV (gP (fD (aS (a7b (Cc.units hr)) a7m (bE aR bC (aA 1) aC (fun _ _=>rfl)) aW (aL _)) (dR (aS (bF (Cc.units hr)) bG (aA 0) aW (aL _))))) (fU a4s b3w rfl T.J9 b0d (aB (aA 0) aE)) cV))))))
end
end K03
namespace K03
open PySem L2 DL XS
section
variable{P:Program}{w:World}{K:W.Frag}{mg:Str→Option Value}{base:Heap}{t:Adr}
theorem a7j(T:Txt P w K mg t):Ok P w K mg base 2 "_law_name" ["_law_word"] (Ja):=
 cC (own':=[]) (k:=1) T.G7 wE (fun hr=>(aH (cH (aS jA a1n (aA 0) (eE (n:=10) rfl) rfl) (aI (aQ (xV (aS (bF (Cc.units hr)) bG (aA 0) aW (aL _)) cV (aA 0)))) bJ)
   (aH (a2e (i:=1) (NL:=["_law_part"]) (NF:=[]) (ix:=[]) wE.nd rfl (Or.inl rfl) rfl (by decide) (by decide+kernel) (bS (sc:=Ag Ky) rfl (by decide+kernel)) Eh.nil (by decide) rfl (fE (mP (aA 0) aW)) (fun _ _ _ _ _=>cI (i:=0) (show(["_law_part"]:List Str).Nodup by decide+kernel) rfl (Or.inl rfl)) (cP 0) (fun _ _ _ _ _=>kM) (fun _ _ _ _ _=>(aG (jW T) (hr.mono (by decide)) rfl (aB (aA 0) aE) (aD (fun _ _ h=>aK h)))))
   (aI (aQ (xV (aS zE zG cV (aA 1) rfl) (cU aE) (fU dA iV rfl T.K5 dB (aB (aA 1) aE))))))))
end
end K03
namespace K03
open PySem L2 DL XS
section
variable{P:Program}{w:World}{K:W.Frag}{mg:Str→Option Value}{base:Heap}{t:Adr}
theorem a3r(T:Txt P w K mg t):Ok P w K mg base 3 "_law_meant" ["_law_line"] (Fv):=
 cC (own':=[]) (k:=2) T.G8 dN (fun hr=>(aH (cL (i:=1) dN.nd rfl (Or.inl rfl) (mP (aA 0) aW))
   (aH (cH (aS a7c a7f (bL bV dG rfl T.K1 dH (aB (aA 1) aE)) aC (aL _)) (aI (aQ cV)) bJ)
   (aH (cL (i:=2) dN.nd rfl (Or.inl rfl) (bQ (aA 1) (bD aC) bM))
   (aH (cH (aS (bF (Cc.units hr)) bG (bE aR bC (aA 1) aC (fun _ _=>rfl)) aW (aL _)) (aI (cL (i:=2) dN.nd rfl (Or.inl rfl) (aO aJ bB (bQ (aA 1) (bD aC) (bD aC)) (mQ (aB (oJ aW (bQ (aA 1) (bD aC) bM)) aE))))) bJ)
   (aH (qP (i:=3) dN.nd rfl (Or.inl rfl) aE)
   (aH (vB GN rfl (lL rfl T.K3 (bL bV dG rfl T.K1 dH (aB (aA 2) aE))) dN.nd rfl (Or.inl rfl) (aI (cH (gP (qM (aS (bF (Cc.units hr)) bG (bE aR bC (aA 1) aC (fun _ _=>rfl)) aW (aL _)) (lK (aS (bF (Cc.units hr)) bG (aA 4) aC (aL _))))) (aI (fR (i:=3) (by decide) (bE aR bC (aA 2) (aA 4) (fun _ _=>rfl)))) (aI (cH (gP (fD (gP (qM (aS jA a1n (bE aR bC (aA 1) aC (fun _ _=>rfl)) (eE (n:=9) rfl) rfl) (lK (aS (bF (Cc.units hr)) bG (aA 4) aC (aL _))))) (dR (gP (qM (aS (bF (Cc.units hr)) bG (bE aR bC (aA 1) aC (fun _ _=>rfl)) aW (aL _)) (lK (aS (bF (Cc.units hr)) bG (aA 4) aC (aL _)))))))) (aI (fR (i:=3) (by decide) (aG (jW T) (hr.mono (by decide)) rfl (aB (bE aR bC (aA 2) (aA 4) (fun _ _=>rfl)) aE) (aD (fun _ _ h=>aK h))))) (aI (fR (i:=3) (by decide) (aG (a7j T) (hr.mono (by decide)) rfl (aB (bE aR bC (aA 2) (aA 4) (fun _ _=>rfl)) aE) (aD (fun _ _ h=>aK h))))))))))
   (qO (aH (a2e (i:=5) (NL:=["_law_word"]) (NF:=[]) (ix:=[]) dN.nd rfl (Or.inl rfl) rfl (by decide) (by decide+kernel) (bS (sc:=Ag Ji) rfl (by decide+kernel)) Eh.nil (by decide) rfl (fE (bQ (aA 1) bM (bD aC))) (fun _ _ _ _ _=>cI (i:=0) (show(["_law_word"]:List Str).Nodup by decide+kernel) rfl (Or.inl rfl)) (cP 0) (fun _ _ _ _ _=>kM) (fun _ _ _ _ _=>(aG (jW T) (hr.mono (by decide)) rfl (aB (aA 0) aE) (aD (fun _ _ h=>aK h)))))
   (aH (cH (gP (fD (aS (b5m (Cc.units hr)) b5v (cU aE) (aA 3) rfl) (dR (aS zE zG cV (aA 5) rfl)))) (aI (aQ cV)) bJ)
   (aI (aQ (cU (aB (bE aR bC (aA 5) aC (fun _ _=>rfl)) (aB (bE aR bC (aA 5) aC (fun _ _=>rfl)) (aB (bE aR bC (aA 5) aC (fun _ _=>rfl)) (aB (fU dA iV rfl T.K5 dB (aB (aO aJ bB (mQ (aB (bE aR bC (aA 1) aC (fun _ _=>rfl)) aE)) (aA 3)) aE)) aE)))))))))))))))))
end
end K03
namespace K03
open PySem L2 DL XS
section
variable{P:Program}{w:World}{K:W.Frag}{mg:Str→Option Value}{base:Heap}{t:Adr}
theorem a3p(T:Txt P w K mg t):Ok P w K mg base 4 "_law_world" ["_law_script","_law_base","_law_many"] (Hb):=
 cC (own':=[]) (k:=3) T.F9 dI (fun hr=>(aH (qP (i:=3) dI.nd rfl (Or.inl rfl) aE)
   (aH (qP (i:=4) dI.nd rfl (Or.inl rfl) (aB aC (aB aC (aB aC aE))))
   (aH (qP (i:=5) dI.nd rfl (Or.inl rfl) (aB aC (aB aC (aB aC aE))))
   (aH (vB GN rfl (lL rfl T.K3 (aA 2)) dI.nd rfl (Or.inl rfl) (aH (cL (i:=7) dI.nd rfl (Or.inl rfl) (aG (cJ T) (hr.mono (by decide)) rfl (aB (aA 0) (aB (aO aJ bB (aA 1) (aO lY lZ aC (aA 6))) aE)) (aD (aD (fun _ _ h=>aK h)))))
   (aH (cL (i:=8) dI.nd rfl (Or.inl rfl) (aO cA cB (aA 7) aC))
   (aH (a9i (i:=4) (by decide) (aA 8) (aO aJ bB (vE (i:=4) (by decide) (aA 8) (fun _ _=>rfl)) aC))
   (aH (a9i (i:=5) (by decide) (aA 8) (aO aJ bB (aO aJ bB (vE (i:=5) (by decide) (aA 8) (fun _ _=>rfl)) aC) (aO cA cB (aO jB jC (aA 7) aC) aC)))
   (aH (cL (i:=9) dI.nd rfl (Or.inl rfl) (b3q (aG (wU T) (hr.mono (by decide)) rfl (aB (aA 0) (aB (aO aJ bB (aO aJ bB (aA 1) (aO lY lZ aC (aA 6))) aC) (aB (aA 3) (aB aC aE)))) (aD (aD (aD (aD (fun _ _ h=>aK h))))))))
   (aI (fR (i:=3) (by decide) (cU (aB (bE aR bC (eE (n:=10) rfl) (aA 8) (fun _ _=>rfl)) (aB (vE (i:=4) (by decide) (aA 8) (fun _ _=>rfl)) (aB (vE (i:=5) (by decide) (aA 8) (fun _ _=>rfl)) (aB (aA 9) aE)))))))))))))
   (qO (aI (aQ (aA 3)))))))))
end
end K03
namespace K03
open PySem L2 DL XS
section
variable{P:Program}{w:World}{K:W.Frag}{mg:Str→Option Value}{base:Heap}{t:Adr}
theorem uA(T:Txt P w K mg t):Ok P w K mg base 6 "are_parts" ["parts","checks"] (Da t):=
 cC (own':=[]) (k:=5) T.D8 tU (fun hr=>(aH (cH (aS sG sH (bL bV dG rfl T.K1 dH (aB (aA 0) aE)) (bL bV dG rfl T.K1 dH (aB (aA 1) aE)) (aL _)) (aI (aQ gN)) bJ)
   (aI (aQ (bL (qW rfl) a0k rfl T.J0 a0l (aB (fF (NL:=["check","part"]) (NF:=[]) (ix:=[]) rfl (by decide) (by decide+kernel) (bS (sc:=Ag Gb) rfl (by decide+kernel)) Eh.nil (by decide) rfl (b7d rfl T.K6 b7p (aA 1) (aA 0)) (fun _ _ _ _ _=>b5b rfl (wO (cI (i:=0) (show(["check","part"]:List Str).Nodup by decide+kernel) rfl (Or.inl rfl)) (wO (cI (i:=1) (show(["check","part"]:List Str).Nodup by decide+kernel) rfl (Or.inl rfl)) b1i))) (b2v 0 1) (fun _ _ _ _ _=>kM) (fun _ _ _ _ _=>(a9p (j:=0) (n:=1) (b2w T) (hr.mono (by decide)) (aB (aA 1) aE) (aD (fun _ _ h=>aK h))))) aE))))))
end
end K03
namespace K03
open PySem L2 DL XS
section
variable{P:Program}{w:World}{K:W.Frag}{mg:Str→Option Value}{base:Heap}{t:Adr}
theorem zL(T:Txt P w K mg t):Ok P w K mg base 7 "is_deed" ["thing"] (Cd t):=
 cC (own':=[]) (k:=6) T.D9 yT (fun hr=>(aH (cH (gP (fD (eV (eC (fJ fN rfl T.K0 rfl T.K5 bI dB (aA 0)))) (dR (aS (bF (Cc.units hr)) bG (bL bV dG rfl T.K1 dH (aB (aA 0) aE)) aC (aL _))))) (aI (aQ gN)) bJ)
   (aH (cH (gP (fD (eV (eC (fJ uX rfl T.K0 rfl T.K4 bI qZ (bE aR bC (aA 0) aC (fun _ _=>rfl))))) (dR (a4o (T.N7 _ rfl rfl rfl rfl) rfl (bE aR bC (aA 0) aC (fun _ _=>rfl)))))) (aI (aQ gN)) bJ)
   (aH (cH (eV (eC (aG (uA T) (hr.mono (by decide)) rfl (aB (bQ (aA 0) (bD aC) bM) (aB (b3p (T.N7 _ rfl rfl rfl rfl) rfl (bE aR bC (aA 0) aC (fun _ _=>rfl)) (fun _ _=>rfl)) aE)) (aD (aD (fun _ _ h=>aK h)))))) (aI (aQ gN)) bJ)
   (aI (aQ (sW (dU sG sH (bE aR bC (aA 0) aC (fun _ _=>rfl)) aW (aL _)) (dS (dU gZ hJ (aO aJ bB (bE aR bC (bE aR bC (aA 0) aC (fun _ _=>rfl)) aC (fun _ _=>rfl)) (bE aR bC (aA 0) aC (fun _ _=>rfl))) (fS T.K8 rfl) (aL _))))))))))
end
end K03
namespace K03
open PySem L2 DL XS
section
variable{P:Program}{w:World}{K:W.Frag}{mg:Str→Option Value}{base:Heap}{t:Adr}
theorem gM(T:Txt P w K mg t):Ok P w K mg base 8 "is_operation" ["thing"] (Ak t):=
 cC (own':=[]) (k:=7) T.E1 nV (fun hr=>(aH (cH (gP (fD (eV (eC (fJ fN rfl T.K0 rfl T.K5 bI dB (aA 0)))) (dR (aS sG sH (bL bV dG rfl T.K1 dH (aB (aA 0) aE)) aC (aL _))))) (aI (aQ gN)) bJ)
   (aI (aQ (eW (aG (eO T) (hr.mono (by decide)) rfl (aB (bQ (aA 0) bM (bD aC)) aE) (aD (fun _ _ h=>aK h))) (eW (aG (eP T) (hr.mono (by decide)) rfl (aB (bE aR bC (aA 0) aC (fun _ _=>rfl)) aE) (aD (fun _ _ h=>aK h))) (dS (aG (zL T) (hr.mono (by decide)) rfl (aB (bE aR bC (aA 0) aC (fun _ _=>rfl)) aE) (aD (fun _ _ h=>aK h))))))))))
end
end K03
namespace K03
open PySem L2 DL XS
section
variable{P:Program}{w:World}{K:W.Frag}{mg:Str→Option Value}{base:Heap}{t:Adr}
theorem zH(T:Txt P w K mg t):Ok P w K mg base 1 "word_of" ["part"] (Dc):=
 cC (own':=[]) (k:=0) T.E2 yN (fun hr=>(aH (cH (aS zD zM (aA 0) cV (aL _)) (aI (aQ aW)) bJ)
   (aH (cH (eC (fJ fN rfl T.K0 rfl T.K5 bI dB (aA 0))) (aI (aQ (oJ aW (fF (NL:=["number"]) (NF:=[]) (ix:=[]) rfl (by decide) (by decide+kernel) (bS (sc:=Ag Hu) rfl (by decide+kernel)) Eh.nil (by decide) rfl (a9k (aA 0)) (fun _ _ _ _ _=>cI (i:=0) (show(["number"]:List Str).Nodup by decide+kernel) rfl (Or.inl rfl)) (cP 0) (fun _ _ _ _ _=>kM) (fun _ _ _ _ _=>(fU yC a9x rfl T.K4 qZ (aB (aA 0) aE))))))) bJ)
   (aI (aQ (fU yC a9x rfl T.K4 qZ (aB (aA 0) aE)))))))
end
end K03
namespace K03
open PySem L2 DL XS
section
variable{P:Program}{w:World}{K:W.Frag}{mg:Str→Option Value}{base:Heap}{t:Adr}
theorem pK(T:Txt P w K mg t):Ok P w K mg base 2 "shown" ["operation"] (Df):=
 cC (own':=[]) (k:=1) T.E3 a5r (fun hr=>(aI (aQ (oJ aW (fF (NL:=["part"]) (NF:=[]) (ix:=[]) rfl (by decide) (by decide+kernel) (bS (sc:=Ag Ks) rfl (by decide+kernel)) Eh.nil (by decide) rfl (a9k (aO aJ bB (bQ (aA 0) bM (bD aC)) (bE aR bC (aA 0) aC (fun _ _=>rfl)))) (fun _ _ _ _ _=>cI (i:=0) (show(["part"]:List Str).Nodup by decide+kernel) rfl (Or.inl rfl)) (cP 0) (fun _ _ _ _ _=>kM) (fun _ _ _ _ _=>(aG (zH T) (hr.mono (by decide)) rfl (aB (aA 0) aE) (aD (fun _ _ h=>aK h)))))))))
end
end K03
namespace K03
open PySem L2 DL XS
section
variable{P:Program}{w:World}{K:W.Frag}{mg:Str→Option Value}{base:Heap}{t:Adr}
theorem fG(T:Txt P w K mg t):Nr P w K mg base 1 "number_of" ["word"] (Ee t):=
 oE (own':=[]) (k:=0) (q:=Io t) T.E4 kK (fun hr hX=>(dX (a4a (i:=1) (L:=_) hX rfl rfl hr.hd kK.nd rfl rfl rfl T.J9 rfl T.H0 rfl T.N0 T.N2 (fun pn f=>(bW (aA 0))) (fun a pn=>(a1v (i:=0) rfl (Or.inl rfl) (by decide))))
   (b2e (dW (mF (bW (aA 1)))))))
end
end K03
namespace K03
open PySem L2 DL XS
section
variable{P:Program}{w:World}{K:W.Frag}{mg:Str→Option Value}{base:Heap}{t:Adr}
theorem wR(T:Txt P w K mg t):Nr P w K mg base 2 "part_of" ["word"] (Ic t):=
 oE (own':=[]) (k:=1) (q:=Lb t) T.E5 yO (fun hr hX=>(dX (b2d (pT (uF (aS (bF (Cc.units hr)) bG (aA 0) aW (aL _))) (dW (mF (bW cV))) eI))
   (dX (b2d (pT (uF (gP (fD (aS (bF (Cc.units hr)) bG (aA 0) aW (aL _)) (dR (aS (bF (Cc.units hr)) bG (aA 0) aW (aL _)))))) (dW (mF (bW (aA 0)))) eI))
   (dX (b4d (uF (aS zE zG aW (aA 0) rfl)) (uG (zS (mG dA (Fj.toM iV) rfl T.K5 dB (a1r (uH (NL:=["figures"]) (NF:=[]) (ix:=[]) (L:=_) hX rfl rfl rfl (by decide) (by decide+kernel) (bS (sc:=Ag Hv) rfl (by decide+kernel)) Eh.nil (by decide) rfl (b6b (fE (mP (aA 0) aW))) (fun _ _ _ _ _=>cI (i:=0) (show(["figures"]:List Str).Nodup by decide+kernel) rfl (Or.inl rfl)) (cP 0) (fun _ _ _ _ _=>a7y) (fun _ _ _ _ _ hX=>(kO hX (fG T) (hr.mono (by decide)) rfl (gC (bW (aA 0)) jX)))))))) (b2e eI))
   (uG (zS (kO hX (fG T) (hr.mono (by decide)) rfl (gC (bW (aA 0)) jX))))))))
end
end K03
namespace K03
open PySem L2 DL XS
section
variable{P:Program}{w:World}{K:W.Frag}{mg:Str→Option Value}{base:Heap}{t:Adr}
theorem wS(T:Txt P w K mg t):Nr P w K mg base 3 "deed_of" ["words"] (Ie t):=
 oE (own':=[]) (k:=2) (q:=Lc t) T.E6 oY (fun hr hX=>(dX (b2d (cR (i:=1) oY.nd rfl (Or.inl rfl) (bW (xV (aS (bF (Cc.units hr)) bG (bQ (aA 0) bM (bD aC)) (eE (n:=8) rfl) (aL _)) aC (bL bV dG rfl T.K1 dH (aB (aA 0) aE))))))
   (uG (zS (mG dA (Fj.toM iV) rfl T.K5 dB (a1r (a7u aJ jD (a7u aJ jD (b8y (bW (bQ (aA 0) bM (bD aC)))) (uH (NL:=["word"]) (NF:=[]) (ix:=[]) (L:=_) hX rfl rfl rfl (by decide) (by decide+kernel) (bS (sc:=Ag Hx) rfl (by decide+kernel)) Eh.nil (by decide) rfl (b6b (fE (bQ (aA 0) (bD aC) (bD (aA 1))))) (fun _ _ _ _ _=>cI (i:=0) (show(["word"]:List Str).Nodup by decide+kernel) rfl (Or.inl rfl)) (cP 0) (fun _ _ _ _ _=>a7y) (fun _ _ _ _ _ hX=>(kO hX (wR T) (hr.mono (by decide)) rfl (gC (bW (aA 0)) jX))))) (b8y (bW (bQ (aA 0) (bD (aA 1)) bM))))))))))
end
end K03
namespace K03
open PySem L2 DL XS
section
variable{P:Program}{w:World}{K:W.Frag}{mg:Str→Option Value}{base:Heap}{t:Adr}
theorem a7g(T:Txt P w K mg t):Nr P w K mg base 9 "read" ["line"] (Hj t):=
 oE (own':=[]) (k:=8) (q:=Oo t) T.E7 tR (fun hr hX=>(dX (b2d (cR (i:=1) tR.nd rfl (Or.inl rfl) (bW (a4p (aA 0) aW aC))))
   (dX (b5z (i:=2) tR.nd rfl (Or.inl rfl) (mG dA (Fj.toM iV) rfl T.K5 dB (a1r (a7u aJ jD (uH (NL:=["word"]) (NF:=[]) (ix:=[]) (L:=_) hX rfl rfl rfl (by decide) (by decide+kernel) (bS (sc:=Ag Mn) rfl (by decide+kernel)) Eh.nil (by decide) rfl (b6b (fE (bQ (aA 1) bM (bD aC)))) (fun _ _ _ _ _=>cI (i:=0) (show(["word"]:List Str).Nodup by decide+kernel) rfl (Or.inl rfl)) (cP 0) (fun _ _ _ _ _=>a7y) (fun _ _ _ _ _ hX=>(kO hX (fG T) (hr.mono (by decide)) rfl (gC (bW (aA 0)) jX)))) (b6a (a1r (kO hX (wS T) (hr.mono (by decide)) rfl (gC (bW (bQ (aA 1) (bD aC) bM)) jX))))))))
   (dX (b4d (uF (gP (fD (eV (eC (aG (gM T) (hr.mono (by decide)) rfl (aB (aA 2) aE) (aD (fun _ _ h=>aK h))))) (dR (aS (a7b (Cc.units hr)) a7m (aG (pK T) (hr.mono (by decide)) rfl (aB (aA 2) aE) (aD (fun _ _ h=>aK h))) (aA 0) (aL _)))))) (uG (PS.R (a7r hX T.N2 hr.hd rfl T.N0 (a1v (i:=0) rfl (Or.inl rfl) (by decide))))) (b2e eI))
   (b2e (dW (mF (bW (aA 2)))))))))
end
end K03
namespace K03
open PySem L2 DL XS
def spLaw(K:W.Frag):Sp:=fun vs H Q E=>∀(P:Program) (w:World) (t:Adr),t.nd→Vh P w K 1 (Sh t) vs H Q E
section
variable{P:Program}{w:World}{K:W.Frag}{mg:Str→Option Value}{h:Heap}
theorem all_mk(hfa:mg "law"=some (.ref fa))(dl:Rv K mg "law" Oc ["_law_script"])(T:Txt P w K mg ⟨B3,B4,B5,B6,B7,B8,B9,C2,C3,t_HandsError,t_NoDeed⟩)(nd:Adr.nd ⟨B3,B4,B5,B6,B7,B8,B9,C2,C3,t_HandsError,t_NoDeed⟩):
  ∃fd:FuncData,(∀(s:Shared) (u:Value),BindsTo s fd ⟨[u],[]⟩ [("_law_script",u)])∧∀base:Heap,K.In base→base.Ns mainGlobals mg→Et P w K mg base Oa 10 fa fd ["_law_script"] (spLaw K):=by
 obtain⟨fd,h1,h2⟩:=a8i (own':=[]) (k:=9) (P:=P) (w:=w) (q:=Pu ⟨B3,B4,B5,B6,B7,B8,B9,C2,C3,t_HandsError,t_NoDeed⟩) dl cQ hfa (fun base fad cdv A outer s H E hr=>(fA (cR (i:=1) cQ.nd rfl (Or.inl rfl) (bW (aG (a3p T) (hr.mono (by decide)) rfl (aB (aA 0) (aB aC (aB aC aE))) (aD (aD (aD (fun _ _ h=>aK h)))))))
   (fA (cR (i:=2) cQ.nd rfl (Or.inl rfl) (bW (aG (wU T) (hr.mono (by decide)) rfl (aB (aA 0) (aB aC (aB (aA 1) (aB aC aE)))) (aD (aD (aD (aD (fun _ _ h=>aK h))))))))
   (fA (cR (i:=3) cQ.nd rfl (Or.inl rfl) (bW (aG (pK T) (hr.mono (by decide)) rfl (aB (cU (aB (aO cA cB (aG (cJ T) (hr.mono (by decide)) rfl (aB (aA 0) (aB aC aE)) (aD (aD (fun _ _ h=>aK h)))) aC) (aB (aO aJ bB aC (aO cA cB (aG (cJ T) (hr.mono (by decide)) rfl (aB (aA 0) (aB aC aE)) (aD (aD (fun _ _ h=>aK h)))) aC)) (aB (aO aJ bB aC (aO cA cB (aG (cJ T) (hr.mono (by decide)) rfl (aB (aA 0) (aB aC aE)) (aD (aD (fun _ _ h=>aK h)))) aC)) (aB (aA 2) aE))))) aE) (aD (fun _ _ h=>aK h)))))
   (fA (cR (i:=4) cQ.nd rfl (Or.inl rfl) (a4c (bW (aA 3)) (bW aW)))
   (fA (cR (i:=5) cQ.nd rfl (Or.inl rfl) (a1u cA (Fz.m cB) (bW (aG (cJ T) (hr.mono (by decide)) rfl (aB (aA 0) (aB aC aE)) (aD (aD (fun _ _ h=>aK h))))) (a8a bV b7l rfl T.K1 dH (gC (bW (aA 4)) jX))))
   (fA (cR (i:=6) cQ.nd rfl (Or.inl rfl) (bW (bE aR bC (eE (n:=31) rfl) (aO cA cB (aG (cJ T) (hr.mono (by decide)) rfl (aB (aA 0) (aB aC aE)) (aD (aD (fun _ _ h=>aK h)))) aC) (fun _ _=>rfl))))
   (fA (cR (i:=7) cQ.nd rfl (Or.inl rfl) (bW (aO cA cB (aG (cJ T) (hr.mono (by decide)) rfl (aB (aA 0) (aB aC aE)) (aD (aD (fun _ _ h=>aK h)))) aC)))
   (fA (pT (uF (aS (bF (Cc.units hr)) bG (aA 7) aC (aL _))) (dW (cR (i:=4) cQ.nd rfl (Or.inl rfl) (uJ (a1u aJ jD (eK (bW (aA 4)) bM (bD (aA 5))) (bW (mQ (aB (aA 6) aE)))) (eK (bW (aA 4)) (bD (aO aJ bB (aA 5) aC)) bM)))) eI)
   (fA (pT (uF (aS (bF (Cc.units hr)) bG (aA 7) aC (aL _))) (dW (cR (i:=4) cQ.nd rfl (Or.inl rfl) (uJ (eK (bW (aA 4)) bM (bD (aA 5))) (eK (bW (aA 4)) (bD (aO aJ bB (aA 5) aC)) bM)))) eI)
   (fA (pT (uF (aS (bF (Cc.units hr)) bG (aA 7) aC (aL _))) (dW (cR (i:=4) cQ.nd rfl (Or.inl rfl) (uJ (a1u aJ jD (eK (bW (aA 4)) bM (bD (aA 5))) (bW (mQ (aB (aA 6) aE)))) (eK (bW (aA 4)) (bD (aA 5)) bM)))) eI)
   (fA (pT (uF (aS (bF (Cc.units hr)) bG (aA 7) aC (aL _))) (dW (b5y (Cc.units hr) (bW (aA 4)) (bW (aA 5)) (a1u aJ jD (bW aW) (b9b (b6q (Cc.units hr)) b5p (bW (aA 4)) (bW (aA 5)) (fun _ _=>rfl))))) eI)
   (fA (cR (i:=8) cQ.nd rfl (Or.inl rfl) (a7z (bW (aA 4))))
   (fA (cR (i:=9) cQ.nd rfl (Or.inl rfl) (bW gN))
   (fA (cR (i:=10) cQ.nd rfl (Or.inl rfl) (bW cV))
   (b8w (a7v (i:=10) (ie:=11) (ix:=9) (L:=_) rfl rfl (fun _=>hr.hd) cQ.nd rfl rfl (by decide) rfl rfl (by rfl) T.M9 T.N3 (b1l (by rfl) (by rfl) (by rfl) T.K0 bI (by rfl) T.N0 (by rfl) T.H0 T.N6) (hvw T.N5) (a7g T) (hr.mono (by decide)) (by rfl) (by rfl) (by rfl) (fun pn g=>(gC (bW (aA 8)) jX)))
   (b8x (pS (cR (i:=12) cQ.nd rfl (Or.inl rfl) (bW (aG (a3r T) (hr.mono (by decide)) rfl (aB (aA 8) aE) (aD (fun _ _ h=>aK h)))))
   (pS (cR (i:=13) cQ.nd rfl (Or.inl rfl) (bW (eW (dU a1k a1m (aA 12) cV (aL _)) (eW (dU b5j b5u (aG (gM T) (hr.mono (by decide)) rfl (aB (aA 12) aE) (aD (fun _ _ h=>aK h))) gN (aL _)) (dS (dU (bF (Cc.units hr)) bG (aG (pK T) (hr.mono (by decide)) rfl (aB (aA 12) aE) (aD (fun _ _ h=>aK h))) (aA 8) (aL _)))))))
   (pS (pT (uF (gP (fD (gP (qM (aS (bF (Cc.units hr)) bG (aA 7) aC (aL _)) (lK (eV (eC (aA 13)))))) (dR (aS (bF (Cc.units hr)) bG (aA 9) (aA 13) (aL _)))))) (dW (mF (bW gN))) eI)
   (dW (mF (bW (sW (aA 9) (dS (dU (bF (Cc.units hr)) bG (aA 10) (aA 12) (aL _)))))))))))))))))))))))))))
 exact⟨fd,h1,fun base i g=>Et.imp (h2 base i g) fun vs H Q E z=>z P w _ nd⟩
theorem gparts_mk{ad:Addr}{o0 o1 o2 o3 o4 o5 o6 o7:Option Addr}{n0 n1 n2 n3 n4 n5 n6 n7 ep:Nat}{s0 s1 s2 s3 s4 s5 s6 s7:Array (Option Value)}(X:K.In h)(G:h.Ns mainGlobals mg)
  (ga:W.nsIn K mainGlobals "PARTS"=some (some (.ref ad)))(gl:K.lookup ad=some {cls:=.type "dict",data:=.dict #[⟨PyData.keyHash w.params "put",.str "put" k0,.ref r0⟩,⟨PyData.keyHash w.params "move",.str "move" k1,.ref r1⟩,⟨PyData.keyHash w.params "drop",.str "drop" k2,.ref r2⟩,⟨PyData.keyHash w.params "write",.str "write" k3,.ref r3⟩,⟨PyData.keyHash w.params "cut",.str "cut" k4,.ref r4⟩,⟨PyData.keyHash w.params "set",.str "set" k5,.ref r5⟩,⟨PyData.keyHash w.params "undo",.str "undo" k6,.ref r6⟩,⟨PyData.keyHash w.params "redo",.str "redo" k7,.ref r7⟩] ep})(gs:(ad==sysModules)=false)
  (l0:K.lookup r0=some ⟨.type "tuple",o0,.seq #[.ref B3,.ref B4] n0,s0⟩)
  (l1:K.lookup r1=some ⟨.type "tuple",o1,.seq #[.ref B3,.ref B3,.ref B4] n1,s1⟩)
  (l2:K.lookup r2=some ⟨.type "tuple",o2,.seq #[.ref B3] n2,s2⟩)
  (l3:K.lookup r3=some ⟨.type "tuple",o3,.seq #[.ref B3,.ref B5,.ref B6] n3,s3⟩)
  (l4:K.lookup r4=some ⟨.type "tuple",o4,.seq #[.ref B3,.ref B7,.ref B8] n4,s4⟩)
  (l5:K.lookup r5=some ⟨.type "tuple",o5,.seq #[.ref B3,.ref B9,.ref C2] n5,s5⟩)
  (l6:K.lookup r6=some ⟨.type "tuple",o6,.seq #[.ref C3] n6,s6⟩)
  (l7:K.lookup r7=some ⟨.type "tuple",o7,.seq #[.ref C3] n7,s7⟩)
  :∀X:Cx,X.prog=P→X.w=w→X.K=K→X.mg=mg→Nt X "PARTS" (Dy ⟨B3,B4,B5,B6,B7,B8,B9,C2,C3,t_HandsError,t_NoDeed⟩):=fun Y e1 e2 e3 e4=>
 a8u (rows:=[("put",k0,r0),("move",k1,r1),("drop",k2,r2),("write",k3,r3),("cut",k4,r4),("set",k5,r5),("undo",k6,r6),("redo",k7,r7)]) (w:=w) e2 e3 e4 (dC X G ga) gs gl (show(["put","move","drop","write","cut","set","undo","redo"]:List Str).Nodup by decide+kernel) ⟨rfl,eA (fs:=[B3,B4]) l0 (by show 2≤1000;decide),rfl,eA (fs:=[B3,B3,B4]) l1 (by show 3≤1000;decide),rfl,eA (fs:=[B3]) l2 (by show 1≤1000;decide),rfl,eA (fs:=[B3,B5,B6]) l3 (by show 3≤1000;decide),rfl,eA (fs:=[B3,B7,B8]) l4 (by show 3≤1000;decide),rfl,eA (fs:=[B3,B9,C2]) l5 (by show 3≤1000;decide),rfl,eA (fs:=[C3]) l6 (by show 1≤1000;decide),rfl,eA (fs:=[C3]) l7 (by show 1≤1000;decide),trivial⟩
end
end K03
namespace XS
open PySem PySem.Spec PyProof.Rows L2
theorem b3c{K:W.Frag}{nm q nm1 q1:Str}{hdct hdct1 del1:Bool}{sub:List Value}{ab ab1:Bool}{col col1:Option Bool}{dd d1 d2 d3:Option Addr}{k0 k1 k2 k3 k5:Option Value}{sl s2 s3:Array (Option Value)}{es es1:Array DictEntry}{ep ep1:Nat}
  (la:K.lookup C=some (excClassObj nm q C N bs [.ref B,.type "ValueError",.type "Exception",.type "BaseException",.type "object"] hdct sn sub ab col dd k0 k1 k2 k3 k5 "ValueError.__new__"))(lb:K.lookup B=some ⟨c0,d1,.cls {name:=nm1,bases:=bs1,mro:=mro1,ns:=N1,qualname:=q1,hasDict:=hdct1,slotNames:=sn1,subclasses:=sub1,abstract:=ab1,collection:=col1,hasDel:=del1},sl⟩)
  (lc:K.lookup N=some ⟨c2,d2,.dict es ep,s2⟩)(ld:(es.toList.all fun e=>match e.key with|.str _ _=>true|_=>false)=true)(le:W.nsIn K N "__init__"=some none)(lf:K.lookup N1=some ⟨c3,d3,.dict es1 ep1,s3⟩)(lg:(es1.toList.all fun e=>match e.key with|.str _ _=>true|_=>false)=true)(lh:W.nsIn K N1 "__init__"=some none):Ru K C:=
 ⟨B,N,nm,q,bs,hdct,sn,sub,ab,col,dd,k0,k1,k2,k3,k5,c0,d1,_,sl,la,lb,⟨⟨_,_,_,_,_,lc,by rw[←Array.all_toList];exact ld⟩,le⟩,⟨⟨_,_,_,_,_,lf,by rw[←Array.all_toList];exact lg⟩,lh⟩⟩
end XS
open PySem PySem.W PyProof.Rows
theorem PySem.Challenge.PySem.W.holds_open{r:OpenRow}{Xt:Shared→Bool}{XP:(Str→Option Value)→Heap→Prop}{α:Type}{Yf:Shared→α}{Ya:World→α}{YP:World→Heap→Prop}{d:DefRec}{kwd:List (Str×PySem.Expr)}{N:Nat}
  (left:LeftO r.prog q loose Xt Yf Ya N)(hY:∀w s,Yf s=Ya w→YP w s.heap)(hYk:∀w h h',YP w h→(∀b o,h.get? b=some o→h'.get? b=some o)→YP w h')
  (hX:∀s,Xt s=true→XP (s.heap.nsMap mainGlobals) s.heap)(hXk:∀mg h h',XP mg h→(∀b o,h.get? b=some o→h'.get? b=some o)→XP mg h')
  (hdef:defOf q r.name=some (d,kwd))(hp:r.prog.theDef r.name=some (d.params,d.body,d.scope))(hk:kwWritten? d.params.kwonlyargs d.params.kw_defaults=some kwd)(hRf:∀s,Xt s=true→RecFacts r.records s.heap)(hwr:(!r.writes||r.records.isEmpty)=true)
  (k1:r.wellSaid=true)(ok:(chainsOk q&&opensWell r.prog&&(frees r.toRowW&&r.within.isEmpty))=true)(hb:r.prog.bare)(hw:r.toRowW.promised)
  (call:WR.WalkR q loose XP YP r.toRowW d kwd):r.Holds:=WR.holds_openR left hY hYk hX hXk hdef hp hk hRf hwr k1 ok hb hw call
set_option maxRecDepth 100000 in
set_option maxHeartbeats 0 in
theorem PySem.Challenge.cw_manyhands_k03_lines_refused_holds : PySem.Challenge.rw_manyhands_k03_lines_refused.Holds := by
 w_on;o_law;k_head;(case hw=>w_witness2)
 k_fill
 refine L2.a2q (l:=PySem.Challenge.rw_manyhands_k03_lines_refused) (n:=63) (k:=10) (x:="_law_script") (CX:=L2.Oa) (sp:=K03.spLaw) rfl (by decide) rfl ⟨rfl,by decide,by decide,rfl⟩ (fun w h Y=>W.kIn_of Y) ?F (fun K H a ns hl _ hS P w t nd=>DL.b2k hS (K03.law_true nd)) (fun _ _ _ _ z=>z)
 case F=>
  intro w mg fa h KX G hmg;refine' K03.all_mk hmg ?dl ⟨?C7,?C8,?C9,?D0,?D1,?D2,?D3,?D4,?D5,?D6,?D7,?D8,?D9,?E1,?E2,?E3,?E4,?E5,?E6,?E7,?E8,?E9,?F4,?F5,?F6,?F7,?F8,?F9,?G6,?G7,?G8,?G9,?H0,?H9,?J0,?J8,?J9,?K0,?K1,?K2,?K3,?K4,?K5,?K6,?K7,?K8,?K9,?L4,?L5,?L6,?L7,?L8,?L9,?M5,?M6,?M7,?M8,?M9,?N0,?N2,?N3,?N5,?N6,?gp⟩ ?nd
  (case C7=>(refine' DL.bH KX G ?a ?l ?c ?k ?b;(case a=>k_is);(case l=>k_is);(case c=>k_is);(case k=>k_is);(case b=>exact fun _ _ _ _ _ _=>DL.nT fun _=>rfl)))
  (case C8=>(refine' DL.bH KX G ?a ?l ?c ?k ?b;(case a=>k_is);(case l=>k_is);(case c=>k_is);(case k=>k_is);(case b=>exact fun _ _ _ _ _ _=>DL.us2 fun _ _=>rfl)))
  (case C9=>(refine' DL.bH KX G ?a ?l ?c ?k ?b;(case a=>k_is);(case l=>k_is);(case c=>k_is);(case k=>k_is);(case b=>exact fun _ _ _ _ _ _=>DL.nT fun _=>rfl)))
  (case D0=>(refine' DL.bH KX G ?a ?l ?c ?k ?b;(case a=>k_is);(case l=>k_is);(case c=>k_is);(case k=>k_is);(case b=>exact fun _ _ _ _ _ _=>DL.nT fun _=>rfl)))
  (case D1=>(refine' DL.bH KX G ?a ?l ?c ?k ?b;(case a=>k_is);(case l=>k_is);(case c=>k_is);(case k=>k_is);(case b=>exact fun _ _ _ _ _ _=>DL.nT fun _=>rfl)))
  (case D2=>(refine' DL.bH KX G ?a ?l ?c ?k ?b;(case a=>k_is);(case l=>k_is);(case c=>k_is);(case k=>k_is);(case b=>exact fun _ _ _ _ _ _=>DL.nT fun _=>rfl)))
  (case D3=>(refine' DL.bH KX G ?a ?l ?c ?k ?b;(case a=>k_is);(case l=>k_is);(case c=>k_is);(case k=>k_is);(case b=>exact fun _ _ _ _ _ _=>DL.nT fun _=>rfl)))
  (case D4=>(refine' DL.bH KX G ?a ?l ?c ?k ?b;(case a=>k_is);(case l=>k_is);(case c=>k_is);(case k=>k_is);(case b=>exact fun _ _ _ _ _ _=>DL.nT fun _=>rfl)))
  (case D5=>(refine' DL.bH KX G ?a ?l ?c ?k ?b;(case a=>k_is);(case l=>k_is);(case c=>k_is);(case k=>k_is);(case b=>exact fun _ _ _ _ _ _=>DL.nT fun _=>rfl)))
  (case D6=>(refine' DL.bH KX G ?a ?l ?c ?k ?b;(case a=>k_is);(case l=>k_is);(case c=>k_is);(case k=>k_is);(case b=>exact fun _ _ _ _ _ _=>DL.nT fun _=>rfl)))
  (case D7=>(refine' DL.bH KX G ?a ?l ?c ?k ?b;(case a=>k_is);(case l=>k_is);(case c=>k_is);(case k=>k_is);(case b=>exact fun _ _ _ _ _ _=>DL.nT fun _=>rfl)))
  (case D8=>(refine' DL.bH KX G ?a ?l ?c ?k ?b;(case a=>k_is);(case l=>k_is);(case c=>k_is);(case k=>k_is);(case b=>exact fun _ _ _ _ _ _=>DL.us2 fun _ _=>rfl)))
  (case D9=>(refine' DL.bH KX G ?a ?l ?c ?k ?b;(case a=>k_is);(case l=>k_is);(case c=>k_is);(case k=>k_is);(case b=>exact fun _ _ _ _ _ _=>DL.nT fun _=>rfl)))
  (case E1=>(refine' DL.bH KX G ?a ?l ?c ?k ?b;(case a=>k_is);(case l=>k_is);(case c=>k_is);(case k=>k_is);(case b=>exact fun _ _ _ _ _ _=>DL.nT fun _=>rfl)))
  (case E2=>(refine' DL.bH KX G ?a ?l ?c ?k ?b;(case a=>k_is);(case l=>k_is);(case c=>k_is);(case k=>k_is);(case b=>exact fun _ _ _ _ _ _=>DL.nT fun _=>rfl)))
  (case E3=>(refine' DL.bH KX G ?a ?l ?c ?k ?b;(case a=>k_is);(case l=>k_is);(case c=>k_is);(case k=>k_is);(case b=>exact fun _ _ _ _ _ _=>DL.nT fun _=>rfl)))
  (case E4=>(refine' DL.bH KX G ?a ?l ?c ?k ?b;(case a=>k_is);(case l=>k_is);(case c=>k_is);(case k=>k_is);(case b=>exact fun _ _ _ _ _ _=>DL.nT fun _=>rfl)))
  (case E5=>(refine' DL.bH KX G ?a ?l ?c ?k ?b;(case a=>k_is);(case l=>k_is);(case c=>k_is);(case k=>k_is);(case b=>exact fun _ _ _ _ _ _=>DL.nT fun _=>rfl)))
  (case E6=>(refine' DL.bH KX G ?a ?l ?c ?k ?b;(case a=>k_is);(case l=>k_is);(case c=>k_is);(case k=>k_is);(case b=>exact fun _ _ _ _ _ _=>DL.nT fun _=>rfl)))
  (case E7=>(refine' DL.bH KX G ?a ?l ?c ?k ?b;(case a=>k_is);(case l=>k_is);(case c=>k_is);(case k=>k_is);(case b=>exact fun _ _ _ _ _ _=>DL.nT fun _=>rfl)))
  (case E8=>(refine' DL.bH KX G ?a ?l ?c ?k ?b;(case a=>k_is);(case l=>k_is);(case c=>k_is);(case k=>k_is);(case b=>exact fun _ _ _ _ _ _=>DL.us2 fun _ _=>rfl)))
  (case E9=>(refine' DL.bH KX G ?a ?l ?c ?k ?b;(case a=>k_is);(case l=>k_is);(case c=>k_is);(case k=>k_is);(case b=>exact fun _ _ _ _ _ _=>DL.us2 fun _ _=>rfl)))
  (case F4=>(refine' DL.bH KX G ?a ?l ?c ?k ?b;(case a=>k_is);(case l=>k_is);(case c=>k_is);(case k=>k_is);(case b=>exact fun _ _ _ _ _ _=>DL.nT fun _=>rfl)))
  (case F5=>(refine' DL.bH KX G ?a ?l ?c ?k ?b;(case a=>k_is);(case l=>k_is);(case c=>k_is);(case k=>k_is);(case b=>exact fun _ _ _ _ _ _=>DL.nT fun _=>rfl)))
  (case F6=>(refine' DL.bH KX G ?a ?l ?c ?k ?b;(case a=>k_is);(case l=>k_is);(case c=>k_is);(case k=>k_is);(case b=>exact fun _ _ _ _ _ _=>DL.us2 fun _ _=>rfl)))
  (case F7=>(refine' DL.bH KX G ?a ?l ?c ?k ?b;(case a=>k_is);(case l=>k_is);(case c=>k_is);(case k=>k_is);(case b=>exact fun _ _ _ _ _ _=>DL.us2 fun _ _=>rfl)))
  (case F8=>(refine' DL.bH KX G ?a ?l ?c ?k ?b;(case a=>k_is);(case l=>k_is);(case c=>k_is);(case k=>k_is);(case b=>exact fun _ _ _ _ _ _=>DL.us4 fun _ _ _ _=>rfl)))
  (case F9=>(refine' DL.bH KX G ?a ?l ?c ?k ?b;(case a=>k_is);(case l=>k_is);(case c=>k_is);(case k=>k_is);(case b=>exact fun _ _ _ _ _ _=>DL.us3 fun _ _ _=>rfl)))
  (case G6=>(refine' DL.bH KX G ?a ?l ?c ?k ?b;(case a=>k_is);(case l=>k_is);(case c=>k_is);(case k=>k_is);(case b=>exact fun _ _ _ _ _ _=>DL.nT fun _=>rfl)))
  (case G7=>(refine' DL.bH KX G ?a ?l ?c ?k ?b;(case a=>k_is);(case l=>k_is);(case c=>k_is);(case k=>k_is);(case b=>exact fun _ _ _ _ _ _=>DL.nT fun _=>rfl)))
  (case G8=>(refine' DL.bH KX G ?a ?l ?c ?k ?b;(case a=>k_is);(case l=>k_is);(case c=>k_is);(case k=>k_is);(case b=>exact fun _ _ _ _ _ _=>DL.nT fun _=>rfl)))
  (case G9=>(refine' DL.bH KX G ?a ?l ?c ?k ?b;(case a=>k_is);(case l=>k_is);(case c=>k_is);(case k=>k_is);(case b=>exact fun _ _ _ _ _ _=>DL.nT fun _=>rfl)))
  (case dl=>(refine' DL.b3l KX G ?a ?l ?c ?k ?b;(case a=>k_is);(case l=>k_is);(case c=>k_is);(case k=>k_is);(case b=>exact fun _ _ _ _ _ _=>DL.nT fun _=>rfl)))
  (case H0=>(refine' DL.cN KX G ?a;(case a=>k_is)))
  (case H9=>(refine' DL.cN KX G ?a;(case a=>k_is)))
  (case J0=>(refine' DL.cN KX G ?a;(case a=>k_is)))
  (case J8=>(refine' DL.cN KX G ?a;(case a=>k_is)))
  (case J9=>(refine' DL.cN KX G ?a;(case a=>k_is)))
  (case K0=>(refine' DL.cN KX G ?a;(case a=>k_is)))
  (case K1=>(refine' DL.cN KX G ?a;(case a=>k_is)))
  (case K2=>(refine' DL.cN KX G ?a;(case a=>k_is)))
  (case K3=>(refine' DL.cN KX G ?a;(case a=>k_is)))
  (case K4=>(refine' DL.cN KX G ?a;(case a=>k_is)))
  (case K5=>(refine' DL.cN KX G ?a;(case a=>k_is)))
  (case K6=>(refine' DL.cN KX G ?a;(case a=>k_is)))
  (case K7=>(refine' DL.oI KX G ?a;(case a=>k_is)))
  (case K8=>(refine' DL.oI KX G ?a;(case a=>k_is)))
  (case K9=>(refine' DL.oI KX G ?a;(case a=>k_is)))
  (case L4=>(refine' DL.oI KX G ?a;(case a=>k_is)))
  (case L5=>(dsimp only;refine' DL.dC KX G ?a;(case a=>k_is)))
  (case L6=>(dsimp only;refine' DL.dC KX G ?a;(case a=>k_is)))
  (case L7=>(dsimp only;refine' DL.dC KX G ?a;(case a=>k_is)))
  (case L8=>(dsimp only;refine' DL.dC KX G ?a;(case a=>k_is)))
  (case L9=>(dsimp only;refine' DL.dC KX G ?a;(case a=>k_is)))
  (case M5=>(dsimp only;refine' DL.dC KX G ?a;(case a=>k_is)))
  (case M6=>(dsimp only;refine' DL.dC KX G ?a;(case a=>k_is)))
  (case M7=>(dsimp only;refine' DL.dC KX G ?a;(case a=>k_is)))
  (case M8=>(dsimp only;refine' DL.dC KX G ?a;(case a=>k_is)))
  (case M9=>(dsimp only;refine' DL.dC KX G ?a;(case a=>k_is)))
  (case N0=>(dsimp only;refine' DL.dC KX G ?a;(case a=>k_is)))
  (case N2=>(dsimp only;refine' XS.b3c ?xqa ?xqb ?xqc ?xqd ?xqe ?xqf ?xqg ?xqh;(case xqa=>k_is);(case xqb=>k_is);(case xqc=>k_is);(case xqd=>rfl);(case xqe=>k_is);(case xqf=>k_is);(case xqg=>rfl);(case xqh=>k_is)))
  (case N3=>(dsimp only;refine' XS.b7o ?ta ?tb ?tc;(case ta=>k_is);(case tb=>k_is);(case tc=>k_is)))
  (case N5=>(dsimp only;k_is))
  (case N6=>(dsimp only;k_is))
  (case gp=>(refine' K03.gparts_mk KX G ?ga ?gl ?gs ?l0 ?l1 ?l2 ?l3 ?l4 ?l5 ?l6 ?l7;(case ga=>k_is);(case gl=>k_is);(case gs=>decide);(case l0=>k_is);(case l1=>k_is);(case l2=>k_is);(case l3=>k_is);(case l4=>k_is);(case l5=>k_is);(case l6=>k_is);(case l7=>k_is)))
  (case nd=>(unfold K03.Adr.nd;decide))
