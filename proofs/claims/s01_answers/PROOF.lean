import PyProof.Rows.All
import Wide.All
import OpenK.AllK
import Wide.FinOn
import PyProof.EqAt
import PyProof.EqKinds
import PyProof.TupleCall
import KE.BitLaws
import KE.KTryMore
import PyProof.Rows.SetFrom
import KE.KLam
import KE.KSortKeySt
import KE.KMinKey
import Open.SpecLaws
import KE.OsHead
import KE.OsGo
import PySem.Challenge.RW_pagemoves_s01_answers
set_option Elab.async false
set_option linter.all false
set_option maxRecDepth 100000
set_option maxHeartbeats 0
structure PySem.W.Fast:Prop where(tw4305151222669742144 tw10694615851730780384 tw15871791688325180736 tw17641060088242813376 tw8610514408713408064 tw5014687885123191488 tw9781327658948601632 tw16865985491718047616 tw4913440417936546688 tw14896829712663340928 tw15999106594012141472 tw11760713592834645920 tw4574473947965066273 tw4353694685267454049 tw10491522195355433345 tw11805095805991070113 tw14178509718252832193 tw54848460214097345 tw10462761908075291073 tw9714776799242102433 tw5181439974107804321 tw12152833100772739777 tw5776071052186527425 tw18380942015440425857 tw17080106154746372322 tw1884064688657000162 tw17023827087488980802 tw17064867751260983138 tw9904344999893079010 tw1921868314764248163 tw2252419022266543267 tw17019812058221953187 tw6123499670353687875 tw685183863041151299 tw6421383560092878179 tw10375355865730007395 tw18377071179195556515 tw14702180881196576419 tw9715303972926292963 tw14818435256336327748 tw10934558774976156836 tw15918257093608136068 tw8053797711721585156 tw2583755832370543172 tw11996690503966683716 tw14086794942549300900 tw16835909032255398564 tw13311903846327653124 tw6106887977276224292 tw5180019679749142308 tw16547650837864535908 tw4970086749615208324 tw7475896786155926597 tw12740891929874515141 tw2499345102864350405 tw10769585410139815301 tw8652233815676223941 tw12891529453044149925 tw10329056703936371461 tw1416989260272034629 tw10016946470712172389 tw7106330808612618181 tw5382370300865286182 tw9262988742553680934 tw4511536778009163846 tw9628164903993705574 tw10431758619569911974 tw15661625620760643814 tw7438828419542921478 tw12070428462808471942 tw12549327983980039782 tw7090573145582038758 tw15072076516170949382 tw3087257116311125798 tw16863530831919906662 tw6507052250368356230 tw3316697809116549159 tw1077317925047579719 tw12061903494709985351 tw15370474741905730823 tw5466987181611122279 tw16188261661663747719 tw11103706927738409735 tw3781438857462969095 tw8910701254396344071 tw6219836174844608487 tw13737487974753995784 tw3120005319788189832 tw11443117992806893736 tw9108888379654865096 tw16347309837959702824 tw10250446483329193384 tw2531774016518170056 tw4474945701531308488 tw8654449474141537768 tw2425400721989381672 tw18283981256366435944 tw2014095897479535208 tw8385975713598568136 tw12233357638028399368 tw6851396810391542728 tw13129615701433519080 tw3953399606724012041 tw17492378884027963497 tw12515306123278325897 tw14528443568340091017 tw5105283042431593609 tw4779591114078303401 tw1558880278997397673 tw10703134253087253897 tw800314529015231881 tw18140014208125082025 tw331672099023784425 tw14174191158732305897 tw10511450865197793769 tw7223021206756841993 tw16113009482410398313 tw15615189957278873193 tw11198180732140767849 tw15594543424895241865 tw6965996772034025161 tw13871934362720242441 tw8906038993353350921 tw5617688190684889098 tw2940998783437903370 tw10483186908303011498 tw56018616420461258 tw15586071934900046634 tw8552162991399189482 tw370977010629280811 tw15236267368616641611 tw18445947727349606539 tw13323311471410749771 tw6628427550626810219 tw1530716057221308779 tw8209870236670720395 tw10401770697280804331 tw2820833840664218315 tw15464211769370325739 tw3476493803833938699 tw16921013203578902507 tw11547469663282399340 tw3094059173291485388 tw11877585921094851884 tw13668434887342220876 tw5518755914290874060 tw9794603829843015660 tw5006675756823091245 tw15882659208796158093 tw7616139755637394701 tw1251165370227343693 tw4021588980733692269 tw1495936413355122061 tw7858524603246708461 tw8867255138442806061 tw14031159733283157805 tw17857578582006499245 tw11314514288982630542 tw3144653106712261998 tw7575531147921800782 tw2642771023443164750 tw11338150911614386958 tw8879621589221065486 tw3633565330572705646 tw12385486866705247311 tw7160798980538670319 tw260017788609012047 tw10909826245547905359 tw11627094266549397903 tw11828703093298816687 tw9195841538726538991 tw15463524872392848143 tw7468870700018168623 tw635371217615116304 tw4639265220062123056 tw8688901892948885712 tw6784627948955862384 tw12735277489896404496 tw4125728702656480816 tw1589833284520675920 tw2117940550005025488 tw9863826051555383088 tw11031779174289745744 tw2566699507678979984 tw2371693851789844529 tw159423846450819217 tw13489291464590364017 tw13323544933400009073 tw10128117958295003697 tw11606505709061934705 tw5260483574619640433 tw11517119456912047761 tw7569998627884560241 tw11657795595911070705 tw5305688252572482545 tw12526529334566909970 tw547241793322721362 tw13461453600146079826 tw3045939366328049778 tw13115840136111662418 tw12853199497454412178 tw13656182242390022002 tw2869373959440345970 tw9838987591625440210 tw13692432567122608114 tw14952676082940040178 tw9622227369313874963 tw10748423048350915699 tw419027260527109235 tw5709400549307422963 tw10841986340674369907 tw7127240948234956499 tw11075978087625468819 tw12604797899070649364 tw13646394601196300500 tw3756572463053788436 tw3980674140139892084 tw7180741434767674804 tw5202145947730314868 tw4640382591692295892 tw15576348844131100404 tw12180365845092522740 tw2222894678255854484 tw13673272211339745365 tw6647147348428570965 tw7446209612370798933 tw15689665702446289429 tw387317584944464725 tw6019586320657599542 tw6718964269610730582 tw6671770931607018806 tw5970607551374017974 tw7904847344500300214 tw6878988526756575798 tw1958074825358112470 tw10537453555141306166 tw14627005788789576791 tw3514813525731178679 tw3308449467050113303 tw12280847593578398039 tw13248223166633477527 tw1818135490802124215 tw17789031986496145911 tw16599565034886089239 tw14171910431579135575 tw16742119228709098359 tw2346456866369594392 tw13493364114301365336 tw7861326859837557912 tw9661094296003206296 tw5966347910956417208 tw1541351765535871192 tw6781958007910534392 tw12372598398035957176 tw13571387044281129464 tw706404317156140568 tw9056395174012263992 tw7192163394510086904 tw16848952025041444728 tw11706539118650441592 tw368161931908890552 tw9207988023474746296 tw6590561024007828440 tw12458822157658790937 tw5100939715080560793 tw16707134555163398329 tw17934390148076884377 tw8151569395717244345 tw7201368572985488825 tw16710806226699499065 tw8034925581632593465 tw11812369200766612025 tw13083929726854291161 tw1424798189615573721 tw13474381351726921465 tw9232417612939021081 tw9311394236584208345 tw16334386570574336186 tw5747779321543798970 tw716406520456911066 tw15809769547143177434 tw14275519148622015802 tw11123590699905497530 tw14757072808412747290 tw4388475616133483098 tw16204313301148671706 tw2919714814287745786 tw8017278937057520442 tw17468137996894565210 tw17459074736559467386 tw15379907458621699195 tw18184121148241302715 tw5104107867265851643 tw2157346473337336251 tw16785299765541363131 tw3047110398339516891 tw4268724466812340827 tw11987164319692469915 tw13775758121950829211 tw13629092497265130139 tw14082459996692621083 tw282619105941581627 tw17988539559805738971 tw9718627781089835003 tw11790428656625862748 tw2205666452129511868 tw17334800904816313820 tw1328252831615191580 tw7405665928127747612 tw15882327487607385724 tw15831597432694999772 tw6400649624828299996 tw7584453275071723484 tw17111281874996358108 tw7985209211542098973 tw3709577300902667421 tw16619057697785444669 tw7364599171182797277 tw7299836996679581149 tw2625353310631451261 tw17532443023027153757 tw13285680880537259965 tw17327988490230562781 tw923396760612781118 tw8936210363664020766 tw10624859764926024126 tw17577733825185234366 tw4978775822653556190 tw11967102643677920990 tw10553386350137987870 tw7762324599165750110 tw272715013679536990 tw1487515005616957438 tw2221172813103799423 tw15547317348308699391 tw15250125416456888767 tw5610585103033002495 tw908920948320397919 tw15072758617912651391 tw17322635994195943327 tw847815307456861151 tw9550558632819052782:True)
section
open PySem PySem.W PyProof.Rows
abbrev Pf.G:=Challenge.pw_pagemoves_s01_answers
abbrev Pf.P:=Pf.G.main.body
abbrev Pf.lk:Look:={strict:=false,foot:=none,bare:=[]}
theorem Pf.nr {lk:Look}:∀(k:Nat)(l:List Stmt),noRoadLSs lk (l.take k)=true→noRoadLSs lk (l.drop k)=true→noRoadLSs lk l=true
 |0,_,_,h=>h
 |_+1,[],_,_=>rfl
 |k+1,s::l,a,b=>by
  have a:(noRoadLS lk s&&noRoadLSs lk (l.take k))=true:=a
  rw[Bool.and_eq_true] at a
  show(noRoadLS lk s&&noRoadLSs lk l)=true
  rw[a.1,Pf.nr k l a.2 b];rfl
theorem Pf.r1:noRoadLSs lk (P.take 34)=true:=by decide+kernel
theorem Pf.r2:noRoadLSs lk ((P.drop 34).take 31)=true:=by decide+kernel
theorem Pf.r3:noRoadLSs lk (((P.drop 34).drop 31).take 31)=true:=by decide+kernel
theorem Pf.r4:noRoadLSs lk ((((P.drop 34).drop 31).drop 31).take 23)=true:=by decide+kernel
theorem Pf.r5:noRoadLSs lk (((((P.drop 34).drop 31).drop 31).drop 23).take 29)=true:=by decide+kernel
theorem Pf.r6:noRoadLSs lk (((((P.drop 34).drop 31).drop 31).drop 23).drop 29)=true:=by decide+kernel
theorem Pf.w1:namesResolve G=true:=by decide+kernel
theorem Pf.w2:(namesMeet G G.main.body fun _ n=>attrL n)=true:=by decide+kernel
theorem Pf.w3:(!(importedModules G.main.body).all cThrough.contains)=false:=by decide+kernel
theorem Pf.w4:(List.filter (readsOut G G.main.body) [Str.ofString "vars",Str.ofString "dir",Str.ofString "locals"])=[]:=by rw[←List.isEmpty_iff];decide+kernel
theorem Pf.wellS:Challenge.rw_pagemoves_s01_answers.wellSaid=true:=by
  show (looksOpen G && _ && _ && _ && _ && _) = true
  have h:looksOpen G=true:=by
   unfold looksOpen
   rw[w3,w4,Pf.nr _ _ r1 (Pf.nr _ _ r2 (Pf.nr _ _ r3 (Pf.nr _ _ r4 (Pf.nr _ _ r5 r6)))),w1,w2]
   decide+kernel
  rw[h]
  decide+kernel
local macro_rules|`(tactic|o_law)=>`(tactic|have hws:=Pf.wellS)|`(tactic|k_head)=>`(tactic|k_headS)|`(tactic|w_witness2)=>`(tactic|exact⟨[.list [.int 17]],by decide+kernel,by decide+kernel⟩)
open_top Pm.hd for PySem.Challenge.rw_pagemoves_s01_answers
end
namespace O
variable{α β γ δ ε ζ η}{G:Prop}
section
variable{A B C D E F I J:Prop}
theorem e02(h:A∧B)(k:A→B→G):G:=k h.1 h.2
theorem e03(h:A∧B∧C)(k:A→B→C→G):G:=k h.1 h.2.1 h.2.2
theorem e04(h:A∧B∧C∧D)(k:A→B→C→D→G):G:=k h.1 h.2.1 h.2.2.1 h.2.2.2
theorem e05(h:A∧B∧C∧D∧E)(k:A→B→C→D→E→G):G:=k h.1 h.2.1 h.2.2.1 h.2.2.2.1 h.2.2.2.2
theorem e06(h:A∧B∧C∧D∧E∧F)(k:A→B→C→D→E→F→G):G:=k h.1 h.2.1 h.2.2.1 h.2.2.2.1 h.2.2.2.2.1 h.2.2.2.2.2
theorem e07(h:A∧B∧C∧D∧E∧F∧I)(k:A→B→C→D→E→F→I→G):G:=k h.1 h.2.1 h.2.2.1 h.2.2.2.1 h.2.2.2.2.1 h.2.2.2.2.2.1 h.2.2.2.2.2.2
theorem e08(h:A∧B∧C∧D∧E∧F∧I∧J)(k:A→B→C→D→E→F→I→J→G):G:=k h.1 h.2.1 h.2.2.1 h.2.2.2.1 h.2.2.2.2.1 h.2.2.2.2.2.1 h.2.2.2.2.2.2.1 h.2.2.2.2.2.2.2
end
section
variable{A B C D E F I J:α→Prop}
theorem e11(h:∃x,A x)(k:∀x,A x→G):G:=h.elim k
theorem e12(h:∃x,A x∧B x)(k:∀x,A x→B x→G):G:=h.elim λx h=>e02 h (k x)
theorem e13(h:∃x,A x∧B x∧C x)(k:∀x,A x→B x→C x→G):G:=h.elim λx h=>e03 h (k x)
theorem e14(h:∃x,A x∧B x∧C x∧D x)(k:∀x,A x→B x→C x→D x→G):G:=h.elim λx h=>e04 h (k x)
theorem e15(h:∃x,A x∧B x∧C x∧D x∧E x)(k:∀x,A x→B x→C x→D x→E x→G):G:=h.elim λx h=>e05 h (k x)
theorem e16(h:∃x,A x∧B x∧C x∧D x∧E x∧F x)(k:∀x,A x→B x→C x→D x→E x→F x→G):G:=h.elim λx h=>e06 h (k x)
theorem e17(h:∃x,A x∧B x∧C x∧D x∧E x∧F x∧I x)(k:∀x,A x→B x→C x→D x→E x→F x→I x→G):G:=h.elim λx h=>e07 h (k x)
theorem e18(h:∃x,A x∧B x∧C x∧D x∧E x∧F x∧I x∧J x)(k:∀x,A x→B x→C x→D x→E x→F x→I x→J x→G):G:=h.elim λx h=>e08 h (k x)
end
section
variable{A B C D E F I J:α→β→Prop}
theorem e21(h:∃x y,A x y)(k:∀x y,A x y→G):G:=h.elim λx h=>e11 h (k x)
theorem e22(h:∃x y,A x y∧B x y)(k:∀x y,A x y→B x y→G):G:=h.elim λx h=>e12 h (k x)
theorem e23(h:∃x y,A x y∧B x y∧C x y)(k:∀x y,A x y→B x y→C x y→G):G:=h.elim λx h=>e13 h (k x)
theorem e24(h:∃x y,A x y∧B x y∧C x y∧D x y)(k:∀x y,A x y→B x y→C x y→D x y→G):G:=h.elim λx h=>e14 h (k x)
theorem e25(h:∃x y,A x y∧B x y∧C x y∧D x y∧E x y)(k:∀x y,A x y→B x y→C x y→D x y→E x y→G):G:=h.elim λx h=>e15 h (k x)
theorem e26(h:∃x y,A x y∧B x y∧C x y∧D x y∧E x y∧F x y)(k:∀x y,A x y→B x y→C x y→D x y→E x y→F x y→G):G:=h.elim λx h=>e16 h (k x)
theorem e27(h:∃x y,A x y∧B x y∧C x y∧D x y∧E x y∧F x y∧I x y)(k:∀x y,A x y→B x y→C x y→D x y→E x y→F x y→I x y→G):G:=h.elim λx h=>e17 h (k x)
theorem e28(h:∃x y,A x y∧B x y∧C x y∧D x y∧E x y∧F x y∧I x y∧J x y)(k:∀x y,A x y→B x y→C x y→D x y→E x y→F x y→I x y→J x y→G):G:=h.elim λx h=>e18 h (k x)
end
section
variable{A B C D E F:α→β→γ→Prop}
theorem e31(h:∃x y z,A x y z)(k:∀x y z,A x y z→G):G:=h.elim λx h=>e21 h (k x)
theorem e32(h:∃x y z,A x y z∧B x y z)(k:∀x y z,A x y z→B x y z→G):G:=h.elim λx h=>e22 h (k x)
theorem e33(h:∃x y z,A x y z∧B x y z∧C x y z)(k:∀x y z,A x y z→B x y z→C x y z→G):G:=h.elim λx h=>e23 h (k x)
theorem e34(h:∃x y z,A x y z∧B x y z∧C x y z∧D x y z)(k:∀x y z,A x y z→B x y z→C x y z→D x y z→G):G:=h.elim λx h=>e24 h (k x)
theorem e35(h:∃x y z,A x y z∧B x y z∧C x y z∧D x y z∧E x y z)(k:∀x y z,A x y z→B x y z→C x y z→D x y z→E x y z→G):G:=h.elim λx h=>e25 h (k x)
theorem e36(h:∃x y z,A x y z∧B x y z∧C x y z∧D x y z∧E x y z∧F x y z)(k:∀x y z,A x y z→B x y z→C x y z→D x y z→E x y z→F x y z→G):G:=h.elim λx h=>e26 h (k x)
end
section
variable{A B C D E F:α→β→γ→δ→Prop}
theorem e42(h:∃x y z u,A x y z u∧B x y z u)(k:∀x y z u,A x y z u→B x y z u→G):G:=h.elim λx h=>e32 h (k x)
theorem e43(h:∃x y z u,A x y z u∧B x y z u∧C x y z u)(k:∀x y z u,A x y z u→B x y z u→C x y z u→G):G:=h.elim λx h=>e33 h (k x)
theorem e44(h:∃x y z u,A x y z u∧B x y z u∧C x y z u∧D x y z u)(k:∀x y z u,A x y z u→B x y z u→C x y z u→D x y z u→G):G:=h.elim λx h=>e34 h (k x)
theorem e45(h:∃x y z u,A x y z u∧B x y z u∧C x y z u∧D x y z u∧E x y z u)(k:∀x y z u,A x y z u→B x y z u→C x y z u→D x y z u→E x y z u→G):G:=h.elim λx h=>e35 h (k x)
theorem e46(h:∃x y z u,A x y z u∧B x y z u∧C x y z u∧D x y z u∧E x y z u∧F x y z u)(k:∀x y z u,A x y z u→B x y z u→C x y z u→D x y z u→E x y z u→F x y z u→G):G:=h.elim λx h=>e36 h (k x)
end
section
variable{A B C D E F:α→β→γ→δ→ε→Prop}
theorem e55(h:∃x y z u v,A x y z u v∧B x y z u v∧C x y z u v∧D x y z u v∧E x y z u v)(k:∀x y z u v,A x y z u v→B x y z u v→C x y z u v→D x y z u v→E x y z u v→G):G:=h.elim λx h=>e45 h (k x)
theorem e56(h:∃x y z u v,A x y z u v∧B x y z u v∧C x y z u v∧D x y z u v∧E x y z u v∧F x y z u v)(k:∀x y z u v,A x y z u v→B x y z u v→C x y z u v→D x y z u v→E x y z u v→F x y z u v→G):G:=h.elim λx h=>e46 h (k x)
end
end O
def aq:=@if_pos
def ay:=@if_neg
def bw:=@decide_eq_true_eq
def bz:=@if_true
def bI:=@if_false
def b_:=@decide_eq_true
def cO:=@decide_eq_false
def dX:=@congrArg
def gO:=@beq_iff_eq
def mQ:=@or_false
def o_:=@decide_eq_false_iff_not
def qR:=@of_decide_eq_true
def yd:=@or_true
def BY:=@true_or
def Dc:=@beq_false_of_ne
def Ds:=@decide_true
def Nj:=@beq_eq_false_iff_ne
def Nk:=@beq_self_eq_true
def Pe:=@forall_congr'
def QC:=@imp_congr_right
def RL:=@ne_true_of_eq_false
open Array renaming length_toList->l_,append_assoc->B3,toList->Lj,all_toList->Ve,any_toList->Vf,append_empty->Vg,getElem?_toList->Vh
open Bool renaming and_eq_true->bS,false_eq_true->bT,eq_iff_iff->cw,false_ne_true->dh,not_true->f7,true_and->gp,not_false->ic,noConfusion->ma,false_and->ow,or_eq_true->ox,not_eq_true'->pX,and_false->tT,eq_false_iff->vM,false_or->FG,not_eq_true->FH,or_false->FI,or_true->Lk,and_comm->Vi,and_self->Vj
open Char renaming toNat->Lq
open False renaming elim->ju
open ForInStep renaming yield->FW
open Function renaming comp->rn,comp_def->vU
open Iff renaming rfl->Cc
open Int renaming toNat_natCast->oE,natCast_nonneg->LB,toNat_of_nonneg->LC
open List renaming length_map->aD,map_cons->ba,map_map->bh,mem_cons_of_mem->bp,mem_cons_self->bq,range->bv,getElem?_eq_getElem->ca,getElem?_map->cx,map_append->cB,length_cons->cN,getD_eq_getElem?_getD->cZ,length_append->dG,append_nil->eJ,all_eq_true->eW,map_congr_left->fg,mem_of_getElem?->fh,size_toArray->fi,filter_cons->gd,flatMap_cons->gh,sum_cons->gi,filter_map->gG,map_nil->gY,filter_congr->ie,getElem?_eq_none->ig,mem_cons->iM,cons_append->ja,length_drop->jv,length_filter_le->jw,map->jx,take_length->jy,length_take->ka,all_cons->lg,all_map->lj,contains_iff_mem->lm,length_range->ln,nil_append->lq,not_mem_nil->lx,getElem?_range->mh,ext_getElem?->m8,headD_cons->m9,map_id->m_,replicate->nc,any_cons->oG,filter_append->oH,flatMap_nil->oI,getElem?_mapIdx->oJ,length->oK,append_assoc->pZ,isEmpty_cons->p0,mem_append_right->p5,mem_map_of_mem->p6,length_nil->rB,length_singleton->rC,filter_filter->tZ,filter_nil->t8,filter_sublist->t9,find?_cons->t_,lookup->ua,lookup_cons->ub,tail_cons->uc,drop_drop->vX,drop_zero->vY,flatMap_append->vZ,foldl_cons->v0,idxOf_lt_length_of_mem->v9,length_set->v_,mem_append->wa,mem_append_left->wb,range_succ->wc,set_set->wd,zip_cons_cons->we,any_map->yU,filterMap_cons->yV,of_mem_zip->yW,all_append->Ce,contains_cons->Cf,getElem_idxOf->Cg,idxOf_cons->Ch,isEmpty_iff->Ci,length_zip->Cj,map_flatMap->Ck,nodup_nil->Cm,take_of_length_le->Cn,dropLast_concat->FY,drop_eq_getElem_cons->FZ,drop_succ_cons->F1,filter_eq_nil_iff->F2,flatMap_map->F3,forIn_cons->F4,forIn_nil->F5,getElem?_cons_succ->F7,getElem?_of_mem->F8,getElem?_set->F9,getElem_of_mem->F_,getLast?_concat->Ga,isEmpty_nil->Gb,length_eq_zero_iff->Gc,mem_filter->Gd,mem_map->Ge,mem_of_mem_take->Gf,mem_range->Gg,range_succ_eq_map->Gh,drop_left->LH,drop_length->LI,find?_eq_none->LJ,foldl_append->LK,getElem?_cons_zero->LL,getElem?_set_ne->LM,getElem?_set_self->LN,getElem?_zip_eq_some->LO,getElem_inj->LP,getElem_mem->LQ,head?_drop->LR,length_flatMap->LU,length_mapIdx->LV,map_take->LW,mem_of_getLast?->LX,mem_of_mem_drop->LY,replicate_succ->LZ,reverse_append->L3,singleton_append->L5,sum_eq_zero_iff_forall_eq_nat->L6,takeWhile_append_dropWhile->L7,takeWhile_cons->L8,take_add_one->L9,take_succ_cons->L_,any_eq_false->VN,any_eq_true->VO,contains->VQ,countP_cons->VS,countP_map->VT,dropLast_eq_take->VU,dropWhile_cons->VV,filterMap_map->VW,findIdx?_cons->VX,flatten_cons->VY,getElem?_drop->VZ,getElem?_inj->V0,getElem?_replicate->V1,getElem?_reverse->V2,head?_eq_getElem?->V3,length_dropLast->V4,length_filterMap_le->V5,length_pos_of_mem->V6,length_replicate->V7,length_reverse->V8,map_inj_right->V9,map_singleton->V_,not_any_eq_all_not->V',sum_nil->Wa,tail_drop->Wb,take_left->Wc,take_zero->Wd,toList_toArray->We,zipIdx_cons->Wf,zipIdx_nil->Wg
open List.Pairwise renaming imp_of_mem->VM,map->anf,nil->ang
open List.cons renaming inj->VP
open Nat renaming le_refl->bj,le_trans->cp,ne_of_lt->dZ,zero_le->eX,lt_of_lt_of_le->fj,lt_irrefl->iO,lt_of_le_of_lt->kb,lt_succ_self->ud,mod_eq_of_lt->ue,mul_le_mul_right->wg,ne_of_gt->wj,le_add_right->Co,le_of_lt->Cp,lt_succ_of_lt->Cq,succ_mul->Cr,add_comm->Gi,add_zero->Gj,le_of_eq->Gk,le_of_succ_le->Gm,min_le_right->Gn,sub_zero->Go,zero_add->Gp,le_succ->Mb,lt_trans->Mc,not_lt_zero->Md,succ_pos->Me,le_add_left->Wl,reduceAdd->Wm
open Ne renaming symm->iP
open Option renaming bind_some->de,map_some->fA,getD_some->Ct,none->Gs,map_map->Mh,getD_none->Wo,isSome_some->Wp
open Option.some renaming inj->cV,injEq->wk
open Or renaming inr->wm,inl->yZ
open PyFlat renaming told->jC,rows->ui,row->zd,calls->Gu,played->Gv,call->Mj
open PyProof.Rows renaming envOfC->dn,step_dedup->gW,AllBare->rg,callWith_type1->Cv,Subscript_->GD,callWith_kw->Ml,subscriptTail->Uf,split_le->Wr,subscriptTail_builtinR->alp
open PyProof.Rows.F renaming plain_set_update_loop->Lz,entry_set_update_loop->Vr
open PySem renaming Addr->aa,Value->af,Shared->ax,wpAny_bind->aI,wpAny->aK,Heap->aL,model->aR,World->aW,Program->aZ,Spec->bC,starEach->bJ,wpAny_pure->bR,Around->ci,Stmt->dt,Scope->dS,backTo->eL,cellsFrom->f_,IsPair->gD,compEnvC->g6,intItems->hU,bootBuiltins->jf,NameKind->jz,notedBy->jQ,wpAny_field->j0,IsZip->j_,mem_of_lookup->kf,pyNext->kU,FuncData->lf,argBest->lH,holding->lM,rawInt->lU,sysModules->lY,wpAny_mono->mW,wpAny_seqItems->mX,numAt->n9,BoolOp->oy,codeAny->oY,compareOp->o0,Model->p7,attributeBase->qh,bindArgs->qi,compPost->qp,wpAny_letGo->re,wpAny_tryCatch->rf,DictEntry->rm,Params->rG,atKey->rV,backToKw->rW,codeAny_builtin->r9,field->sk,keywordEach->sC,plainId_quiet->tz,standAt->tJ,wpAny_holding->tQ,wpAny_truthy_bool->tR,assignEach->uw,binaryOp->ux,bindC->uz,bindL->uA,noteFrame->u4,pushCells->vf,seqItems?->vm,sizeLine_eq->vn,swapsWith->vy,typeIs_str->vD,valueAt->vG,wpAny_Call_Name_kw->vJ,assign->wT,call_meets->wW,isTrue->xK,sliceBounds->yr,wpAny_passesOwn->yH,ExceptHandler->yN,Keyword->yS,Result->zj,callWith->zP,codeAny_mono->zV,getItem->Az,getMethod->AA,leaving->A6,pyIter->By,tupleKind->B0,wpAny_updateSeq->B2,BindsTo->B4,ZipApart->CT,builtinsNs->De,callerA->Dg,wpAny_Name->Fo,wpAny_call_entry->Fp,wpAny_execs_nil->Fq,wpAny_newObj_type->Ft,wpAny_rule->Fu,wpAny_setField_rec->Fv,Arguments->FE,GenState->FX,intItems_at->Jl,letOwnedTupleGo->Jv,numAt_eq->JV,pushCells_keeps->Kd,subscripted->Kz,updateSeq->K0,wpAny_call->K_,wpAny_callSpecial?_slot->K',wpAny_eqBool_str->La,wpAny_of_eq->Lb,wpAny_pyIter_list->Lc,wpAny_setField->Ld,wpAny_standAt->Le,Within->MB,closureFor->NK,seqIndex_of->To,tupleKind_room_in1->UH,wpAny_onRaise->U_,evalArgs_none->WS,getD_mem->WT,intText?->WU,wpAny_Call_method->am1,wpAny_assign_Name->am2,wpAny_isTrue_Compare1->am3,wpAny_loadName_free->am4,wpAny_loadName_local->am5,wpAny_pyIter_enum->am6,wpAny_updateSeq_pair->am7
open PySem.Around renaming under_plainId->tS,under->Li
open PySem.Builtin renaming iter->fE
open PySem.Builtin.Builtins renaming bindParams->FJ
open PySem.Builtin.Frozenset renaming updateFrom->anc
open PySem.Builtin.List renaming listTooLong->Ll
open PySem.Builtin.Range renaming rangeSize->and
open PySem.Builtin.SmallTypes renaming nextOf->vN,ownedTupleIsFree->FK,ownedTupleHandOut->Vk
open PySem.Builtin.Str renaming strKind->rh,strSliceIndices->rj,occurrences->Lm,occurrences->RW,partsBetween->Vl,tooLong->Vm,strKind->Ws
open PySem.Calls renaming callWith_builtin->FT,spliced_cons->FU,evalArgs_plain->Ln,spliced_nil->Lo,Name_function_global->Vo
open PySem.CmpOp renaming NotIn->Vp
open PySem.Code renaming isFrame->Lr
open PySem.EqMixed renaming eq_bool_str->anh,eq_int_str->ani,eq_str_bool->anj,eq_str_int->ank,ne_bool_str->anl,ne_int_str->anm,ne_str_bool->ann,ne_str_int->ano
open PySem.F renaming plainAttrs_list->jb,slot_list_append->uj,type_list_append->uk,plain_max_loop->vR,plain_min_loop->vS,slot_list_extend->Cw,type_list_extend->Cy,slot_str_split->FV,slot_tuple_iterator_next->Gw,slot_zip_next->Gx,args_str_split_2->Lv,entry_max_loop->Lw,entry_min_loop->Lx,entry_str_split->Ly,slot_dict_get->Mm,slot_list_count->Mn,slot_list_index->Mo,slot_str_endswith->Mp,type_str_endswith->Mq,plainAttrs_str->Vs,slot_dict_values->Vt,args_dict_get_3->Wt,args_tuple_iterator_next_1->Wu,args_zip_next_1->Wv,entry_dict_get->Ww,entry_tuple_iterator_next->Wx,entry_zip_next->Wy,slot_str_startswith->Wz,slot_str_upper->WA,slot_tuple_index->WB,type_list_count->WC,type_list_index->WE,type_str_startswith->WF,type_str_upper->WG
open PySem.Heap renaming get?_push_of_some->cJ,lt_size->cK,get?_push_size->eV,size_push->gC,get?_update_other->mf,get?_update_self->vW,SameBut->Cb,FlyingW->LA,MadeExcOf->Vy
open PySem.Heap.IsSliceOf renaming new->ane
open PySem.Heap.SameBut renaming update->Vz
open PySem.NameKind renaming free->yY,cell->Ma
open PySem.Obj renaming mapSeq->Cs,data_mapFields->Gr,mapFields->Mf,isFreed_of_fields->Wn
open PySem.Paired renaming length->uh
open PySem.SeqAt.EqAt renaming int_str->WZ,str_int->W0
open PySem.Shared renaming heap->W1
open PySem.Str renaming ofString->bN,empty->wv,join->ME
open PySem.StrLaws renaming sliceText->zh,subAt_one->WH,sliceText_nat->anp,strSliceIndices_plain->anq
open PySem.Txt renaming split->lC,endswith->ww,startswith->wx,isalnum->zk,join->zl,lstripChars->CF,isalpha->GH,islower->GI,upper->GJ
open PySem.Unicode renaming isAlpha->MI,isLower->MJ,isTitle->MK,isUpper->ML,isAlnum->W6
open PySem.Value renaming ref->fD,none->qb,type->rO,bool->ur,int->zy,str->zA,bytes->XV,float->XW,isInt->XX,isStrOf->XY
open PySem.Value.type renaming inj->XZ
open PySem.W renaming Frag->aP,exmOne->fK,WData->fM,fnOf->kd,keepIn->ni,tabObj->pS,WellAll->qc,emptyDict->rH,findIn->rJ,instObj->ul,kla_obj->uS,callWith_K->Gy,excIn->Gz,lookIn->GA,plainGet->GB,codeIn->Mr,hasDictIn->Ms,hideAll->Mt,hideAll_get->Mu,isFn->Mv,kla_obj->Mw,methodObj->Mx,of_hideAll->My,plainGet_of->Mz,takerIn->MA,WRecords->WI,callWith_K0->WJ,cellsFrom_some->WK,exm_one->WL,handedIn->WM,hideAll_none->WN,length_le_weightAllW->WO,makesIn->WP,methodCall_KW->WQ,plainOver->WR
open PySem.W.Codec renaming encAll->B7,app->Ls,denoteAll->Lu
open PySem.W.Looks renaming here->anr,ld->ans
open PySem.W.WData renaming weightAll->G0
open PySem.Walks renaming list->CS
open PyVaaccc renaming whole->jc,shape->wn,answers->MC,answers_asked->WV
open Std.Legacy.Range renaming forIn_eq_forIn_range'->ant,size->anu
open Sum renaming inl->bU,inr->gK
open Sum.inr renaming inj->W2
open True renaming intro->ii
open UInt8 renaming ofNat->wy,toNat_ofNat'->GK,toNat_lt->MH,le_iff_toNat_le->W5
open Vaacca renaming Text->aE,Page->aX,ascii->aY,Name->bb,Rules->cD,opt->cE,ids->cW,spaced->dN,quoted->fC,cutAt->gL,digit->gM,isPage->ij,inOrder->iQ,Kind->jE,actText->jF,areRules->kg,isBox->kh,KINDS->lD,Source->lE,distinct->ml,wordsOf->mm,fitsIn->nq,isRule->nr,rulesOf->nu,allSome->oO,boxWords->oP,pageOf->oQ,pageText->oR,parentIn->oS,DEEP->p_,rulesText->qa,isSmall->rM,boxAt->uo,sourceText->uq,actOn->wz,isPressable->wA,linesOf->wB,nests->wC,pressed->wD,sourceOf->wE,turned->wG,isId->zn,namesOff->zo,parentOf->zp,ruleOf->zq,ruleWords->zr,textOff->zt,whatText->zu,kindText->CG,labelOff->CH,markOff->CI,ruleFor->CJ,startPage->CK,startRules->CL,BOXES->GN,ROLE->GO,isSaid->GP,isVisible->GQ,kindOf->GR,lineOf->GS,whatOf->GU,wordsFrom->GV,LONG->MM,actOf->MN,digitOf->MO,gluedBy->MP,isWordByte->MQ,kidsOf->MR,toldText->MT,REFS->W7,What->W8,aroundFrom->Xa,boxOf->Xb,canPress->Xc,isWithin->Xd,modalOf->Xe,toldTexts->Xf,unquoted->Xg
open Vaacca.Kind renaming check->LF,page->LG
open Vaacca.What renaming flip->W9,hide->W_,show_->W'
open Vaaccb renaming said->dU,levelOf->d9,firstOf->ny,heardText->CM,isSaidAlone->CN,noBox->GX,textOf->GY,heardOf->MU,nameOf->MV,shownIn->MW,Found->Xh,Heard->Xi,boxOf->Xj,foundOf->Xk,fromSource->Xl,hintOf->Xm,innerName->Xn,onOf->Xo,ownOf->Xp,rowOf->Xq,ruleOf->Xr
open Vaaccc renaming does->gZ,State->zv,Call->CO,after->CP,isNear->CQ,Out->GZ,cellAt->MX,heardIds->MY,heardOf->MZ,takesFocus->M0,Head->Xs,atOf->Xt,envOf->Xu,escapesOf->Xv,firstId->Xw,focusOf->Xx,goTo->Xy,gridOf->Xz,headsOf->XA,inClass->XC,isHead->XD,neighbour->XE,nextOf->XF,ofClass->XG,ofKind->XH,onBox->XI,onCell->XJ,onClass->XM,outlineOf->XN,prevOf->XO,sentence->XQ,start->XR,toldId->XS
open VaacccNeutral renaming text?->ki,step->rN,asked1->zw,callOf->zx,natural->XT,start->XU,asked->anw
set_option compiler.extract_closed false
noncomputable section
open Lean Parser.Tactic in
local macro_rules
|`(tactic|obtain ⟨$ps,*⟩:=$h:term)=>do
 let ps:=ps.getElems
 let m:=ps.size
 if m<2 then Macro.throwUnsupported
 let mut xs:Array Ident:=#[]
 let mut q:Array (TSyntax `tactic):=#[]
 for p in ps, i in [0:m] do
  let y:=mkIdent (←Macro.addMacroScope (.mkSimple s!"y{i}"))
  let r:=p.raw[0][0][0]
  if r.getKind== ``Parser.Tactic.rcasesPat.ignore then xs:=xs.push y
  else if r[0].getId== `rfl then xs:=xs.push y;q:=q.push (←`(tactic|subst $y))
  else if r[0].isIdent then if h.raw.isIdent&&h.raw.getId==r[0].getId then xs:=xs.push y;q:=#[←`(tactic|(revert $y;intro $(⟨r[0]⟩):ident))]++q else xs:=xs.push ⟨r[0]⟩
  else xs:=xs.push y;q:=q.push (←`(tactic|obtain $(⟨p.raw[0]⟩):rcasesPatMed:=$y))
 let mut a←`(tactic|fail)
 for k in [0:m] do a←`(tactic|first|refine $(mkIdent ((`O).append (.mkSimple s!"e{k}{m-k}"))) $h fun $xs* => ?_|$a:tactic)
 if h.raw.isIdent then q:=#[←`(tactic|try clear $(⟨h⟩))]++q
 q:=#[a]++q
 `(tactic|($[$q];*))
open Lean Parser.Tactic in
local macro_rules
|`(tactic|rintro $ps*)=>do
 let mut q:Array (TSyntax `tactic):=#[]
 let mut w:=false
 for p in ps, i in [0:ps.size] do
  let y:=mkIdent (←Macro.addMacroScope (.mkSimple s!"y{i}"))
  let r:=p.raw[0]
  if p.raw.getKind != ``rintroPat.one then Macro.throwUnsupported
  if r.getKind== ``rcasesPat.ignore then q:=q.push (←`(tactic|intro _))
  else if r[0].getId== `rfl then q:=q.push (←`(tactic|(intro $y:ident;subst $y)))
  else if r[0].isIdent then q:=q.push (←`(tactic|intro $(⟨r[0]⟩):ident))
  else if r.getKind== ``rcasesPat.tuple then w:=true;q:=q.push (←`(tactic|(intro $y:ident;obtain $(⟨mkNode ``rcasesPatMed #[mkNullNode #[r]]⟩):rcasesPatMed:=$y)))
  else Macro.throwUnsupported
 if w then `(tactic|($[$q];*)) else Macro.throwUnsupported
local macro_rules|`(tactic|omega)=>`(tactic|first|lia|omega (config:={}))
open Lean Parser.Tactic in
local macro_rules
|`(tactic|let #[$ps,*]:=$h:term)=>do
 let mut l:Array (TSyntax ``rcasesPatLo):=#[]
 let mut q:Array (TSyntax `tactic):=#[]
 for p in ps.getElems, i in [0:99] do
  let r:=p.raw
  let y:=mkIdent (←Macro.addMacroScope (.mkSimple s!"y{i}"))
  if !r.isIdent&&r.getKind != `Lean.Parser.Term.hole then q:=q.push (←`(tactic|let $p:term:=$y))
  l:=l.push ⟨mkNode ``rcasesPatLo #[mkNode ``rcasesPatMed #[mkNullNode #[mkNode ``rcasesPat.one #[if r.isIdent then r else y]]],mkNullNode]⟩
 q:=#[←`(tactic|obtain ⟨$l,*⟩:=$h)]++q
 `(tactic|($[$q];*))
local macro_rules|`(#[$ts,*])=>`(⟨$ts,*⟩)
local macro_rules
|`(def $n $b* : $t := $v)=>`(noncomputable def $n $b* : $t := $v)
|`(def $n $b* : $t $a:matchAlts)=>`(noncomputable def $n $b* : $t $a:matchAlts)
local macro_rules|`(tactic|apply $e)=>`(tactic|refine $e)
local macro_rules|`(tactic|show $e)=>`(tactic|exact $e)
local macro_rules|`(tactic|simp![$xs,*] $[$l:location]?)=>`(tactic|simp only[$xs,*] $[$l:location]?)
local macro_rules|`(())=>`(by first|decide|omega|simpa)
namespace Pm
abbrev W:=List Nat
def bg(c:Nat):W->List W
 |[]=>[[]]
 |b::r=>if b=c then[]::bg c r else match bg c r with
  |w::ws=>(b::w)::ws
  |[]=>[[b]]
def i9(c:Nat):∀l:W,bg c l≠[]
 |[]=>by simp[bg]
 |b::r=>by
  unfold bg;split;simp;split<;>simp
def fm(c:Nat):Bool:=decide (97<=c)&&decide (c<=122)
def isUp(c:Nat):Bool:=decide (65<=c)&&decide (c<=90)
def xJ(c:Nat):Bool:=decide (48<=c)&&decide (c<=57)
def gl(c:Nat):Bool:=fm c||(isUp c||xJ c)
def f6(l:W):Prop:=∀c∈l,c<128
theorem f6.split{c:Nat}:∀{l:W},f6 l->∀w∈bg c l,f6 w
 |[],_,w,hw=>by
  have:w=[]:=by simpa[bg]using hw
  subst this;intro c hc;cases hc
 |b::r,h,w,hw=>by
  have hr:f6 r:=λx hx=>h x (bp _ hx);have ih:=f6.split (c:=c) hr;unfold bg at hw;split at hw;rcases iM.mp hw with e|e
  subst e;intro c hc;cases hc;show ih w e;split at hw;rename_i w0 ws e0;rcases iM.mp hw with e|e
  subst e;intro x hx;rcases iM.mp hx with z|z
  rw[z];show h b bq;show ih w0 (by rw[e0];show bq) x z;show ih w (by rw[e0];show bp _ e);have:w=[b]:=by simpa using hw
  subst this;intro x hx;have:x=b:=by simpa using hx
  rw[this];show h b bq
def isSmall(w:W)(n:Int):Bool:=!w.isEmpty&&(w.all fm&&decide ((w.length:Int)<=n))
def isAlnum(w:W):Bool:=!w.isEmpty&&w.all gl
def hZ(w:W):Bool:=decide (w.length<=20)&&(bg 32 w).all isAlnum
def iK(c:Nat)(w:W):Bool:=w.head?==some c
def gj(c:Nat)(w:W):Bool:=w.getLast?==some c
def kJ(t:W):Option (List W):=if gj 10 t=true then some (bg 10 t.dropLast)else none
def eT:W->List W->W×List W
 |q,[]=>(q,[])
 |q,w::r=>if gj 34 q=true then(q,w::r)else eT (q++32::w) r
def kY(ws:List W):Option (W×List W):=
 let x:=eT (ws.headD []) ws.tail
 if iK 34 x.1&&(gj 34 x.1&&hZ (x.1.drop 1).dropLast)then some ((x.1.drop 1).dropLast,x.2)else none
def cs(s:String):W:=s.toList.map Lq
def Cz:List W:=[cs "label",cs "by",cs "hint",cs "hidden",cs "off",cs "on",cs "order",cs "press"]
def gF:List W:=[cs "page",cs "part",cs "h1",cs "h2",cs "h3",cs "p",cs "link",cs "button",cs "field",cs "check",cs "list",cs "item",cs "table",cs "row",cs "cell",cs "th",cs "image",cs "live",cs "modal"]
def p8:List W:=[cs "1",cs "2",cs "3",cs "4",cs "5",cs "6",cs "7",cs "8",cs "9"]
def jt:List W:=[cs "show",cs "hide",cs "flip"]
def uf:List W:=[cs "link",cs "button",cs "check"]
def bA(w:W):Bool:=isSmall w 6&& !Cz.contains w
def gU(w:W):Option (W×W):=match bg 58 w with
 |[d,i]=>if jt.contains d&&bA i then some (d,i)else none
 |_=>none
def fH{A B:Type}(f:A->Option B):List A->Option (List B)
 |[]=>some []
 |a::r=>match f a,fH f r with
  |some b,some l=>some (b::l)
  |_,_=>none
def lZ(ws:List W):Option (List (W×W)):=if ws.isEmpty then none else match fH gU ws with
 |some l=>if l.length<=3 then some l else none
 |none=>none
def fI:List W->Bool
 |[]=>true
 |a::r=>!r.contains a&&fI r
def tL(ws:List W):Option (List W×List W):=
 if bA (ws.headD [])then
  let l:=ws.headD []::ws.tail.takeWhile bA
  if decide (l.length<=3)&&fI l then some (l,ws.tail.dropWhile bA)else none
 else none
structure aQ where
 deep:Int
 kind:W
 ident:W
 parent:Int
 text:W
 label:W
 by_:List W
 hint:W
 hidden:Bool
 off:Bool
 on:Bool
 order:Int
 b7:List (W×W)
deriving DecidableEq
def nH(deep:Int)(kind ident:W):aQ:=#[deep,kind,ident,-1,[],[],[],[],false,false,false,0,[]]
def bo(w:W)(ws:List W):Bool:=decide (ws.headD []=w)
def cY(w:W)(ws:List W):List W:=if ws.headD []=w then ws.tail else ws
def nZ(ws:List W)(b:aQ):Option (List W×aQ):=if iK 34 (ws.headD [])then(kY ws).map λx=>(x.2,{ b with text:=x.1 })else some (ws,b)
def lR(ws:List W)(b:aQ):Option (List W×aQ):=if bo (cs "label") ws then(kY ws.tail).map λx=>(x.2,{ b with label:=x.1 })else some (ws,b)
def jP(ws:List W)(b:aQ):Option (List W×aQ):=if bo (cs "by") ws then(tL ws.tail).map λx=>(x.2,{ b with by_:=x.1 })else some (ws,b)
def mJ(ws:List W)(b:aQ):Option (List W×aQ):=if bo (cs "hint") ws then(if bA (ws.tail.headD [])then some (ws.tail.tail,{ b with hint:=ws.tail.headD [] })else none)else some (ws,b)
def kX(ws:List W)(b:aQ):Option (List W×aQ):=(nZ ws b).bind λx=>(lR x.1 x.2).bind λy=>(jP y.1 y.2).bind λz=>mJ z.1 z.2
def mq(w:W):Int:=((w.headD 48:Nat):Int)-48
def mI(ws:List W)(b:aQ):Option (List W×aQ):=if bo (cs "order") ws then(if p8.contains (ws.tail.headD [])then some (ws.tail.tail,{ b with order:=mq (ws.tail.headD []) })else none)else some (ws,b)
def qN(ws:List W)(b:aQ):Option (List W×aQ):=if bo (cs "press") ws then(lZ ws.tail).map λl=>([],{ b with b7:=l })else some (ws,b)
def mS(ws:List W)(b:aQ):Option (List W×aQ):=
 let w1:=cY (cs "hidden") ws
 let w2:=cY (cs "off") w1
 let w3:=cY (cs "on") w2
 (mI w3 { b with hidden:=bo (cs "hidden") ws,off:=bo (cs "off") w1,on:=bo (cs "on") w2 }).bind λx=>qN x.1 x.2
def qo(b:aQ):Bool:=!(b.on&&decide (b.kind≠cs "check"))&& !(!b.b7.isEmpty&& !uf.contains b.kind)
def eg(l:W):Nat:=(l.takeWhile (· ==32)).length
def jT(line:W):Option aQ:=
 let n:=eg line
 let ws:=bg 32 (line.drop n)
 if n%2≠0 then none
 else if !gF.contains (ws.headD [])then none
 else if !bA (ws.tail.headD [])then none
 else(kX ws.tail.tail (nH (n / 2:Nat) (ws.headD []) (ws.tail.headD []))).bind λx=>(mS x.1 x.2).bind λy=>if y.1.isEmpty&&qo y.2 then some y.2 else none
def CA:List W:=[cs "focus",cs "whole",cs "from"]
def je:List W:=[cs "by",cs "label",cs "text",cs "kids",cs "hint"]
structure ge where
 role:W
 focus:Bool
 whole:Bool
 sources:List W
deriving DecidableEq
def kF(w:W):Bool:=isSmall w 8&& !CA.contains w
def mT(ws:List W):Option (List W):=if !ws.isEmpty&&(ws.all je.contains&&fI ws)then some ws else none
def jo(line kind:W):Option ge:=
 let ws:=bg 32 line
 if ws.headD []≠kind then none
 else if !kF (ws.tail.headD [])then none
 else
  let w1:=cY (cs "focus") ws.tail.tail
  let w2:=cY (cs "whole") w1
  if bo (cs "from") w2 then(mT w2.tail).map λl=>#[ws.tail.headD [],bo (cs "focus") ws.tail.tail,bo (cs "whole") w1,l]
  else if w2.isEmpty then some #[ws.tail.headD [],bo (cs "focus") ws.tail.tail,bo (cs "whole") w1,[]]else none
def qX:List W->List W->Option (List ge)
 |[],[]=>some []
 |k::ks,l::ls=>match jo l k,qX ks ls with
  |some r,some rs=>some (r::rs)
  |_,_=>none
 |_,_=>none
def vi(t:W):Option (List ge):=(kJ t).bind λls=>if ls.length≠19 then none else qX gF ls
def fW(ds:List Int)(d:Int):Nat->Option Nat
 |0=>none
 |n+1=>if ds.getD n 0<d then some n else fW ds d n
def pz(x:Option Nat):Int:=match x with
 |none=> -1
 |some j=>j
def kq(bs:List aQ):List Int:=bs.map λb=>b.deep
def kZ(bs:List aQ):List aQ:=bs.mapIdx λi b=>{ b with parent:=pz (fW (kq bs) b.deep i) }
def rp:List W:=[cs "row",cs "cell",cs "th",cs "item"]
def Qh(o:W):Option (List W):=if o=cs "table" then some [cs "row"] else if o=cs "row" then some [cs "cell",cs "th"] else if o=cs "list" then some [cs "item"] else none
def pK(o i:W):Bool:=match Qh o with
 |some l=>l.contains i
 |none=>!rp.contains i
def ahH:aQ:=nH 0 [] []
def at_(bs:List aQ)(i:Nat):aQ:=bs.getD i ahH
def jk(b:aQ):List W:=b.by_++b.b7.map (λa=>a.2)++(if b.hint=[] then[] else[b.hint])
def iW(bs:List aQ)(x:W):Bool:=bs.any λb=>decide (b.ident=x)
def pD(bs:List aQ):Bool:=fI (bs.map λb=>b.ident)&&bs.all λb=>(jk b).all (iW bs)
def Ax(b:aQ):Bool:=decide (b.kind=cs "page")&&(decide (b.deep=0)&& !b.hidden)
def kH(bs:List aQ)(i:Nat):Bool:=!decide ((at_ bs i).kind=cs "page")&&(!decide ((at_ bs i).deep<1)&&(!decide ((at_ bs i).deep>5)&& !decide ((at_ bs i).deep>(at_ bs (i-1)).deep+1)))
def qI(bs:List aQ)(i:Nat):Bool:=match fW (kq bs) (at_ bs i).deep i with
 |some j=>pK (at_ bs j).kind (at_ bs i).kind
 |none=>false
def pP(bs:List aQ):Bool:=decide (bs.length<=16)&&(Ax (at_ bs 0)&&((bv bs.length).all (λi=>decide (i=0)||(kH bs i&&qI bs i))&&pD bs))
def tE(t:W):Option (List aQ):=(kJ t).bind λls=>(fH jT ls).bind λbs=>if pP bs=true then some (kZ bs)else none
def fO(c:Nat):List W->W
 |[]=>[]
 |[w]=>w
 |w::r=>w++c::fO c r
def kG(c:Nat)(w:W){r:List W}(h:r≠[]):fO c (w::r)=w++c::fO c r:=by
 cases r with
 |nil=>show absurd rfl h
 |cons=>rfl
theorem qE(c:Nat):∀l:W,fO c (bg c l)=l
 |[]=>rfl
 |b::r=>by
  have ih:=qE c r;unfold bg;split;rename_i h;rw[kG _ _ (i9 c r),ih,h];rfl;cases e:bg c r with
  |nil=>show absurd e (i9 c r)
  |cons w ws=>
   rw[e]at ih;cases ws with
   |nil=>simp![fO]at ih⊢;rw[ih]
   |cons v vs=>simp![fO]at ih⊢;rw[<-ih];rfl
def vq(c b:Nat)(r:W):bg c (b::r)=if b=c then[]::bg c r else(match bg c r with
  |w::ws=>(b::w)::ws
  |[]=>[[b]]):=by rw[bg];try rfl
def EZ{α:Type}{l:List α}(h:l≠[]):∃v d,l=v++[d]:=#[l.dropLast,l.getLast h,(List.dropLast_concat_getLast h).symm]
def fk(c:Nat)(w:W):Prop:=c∉w
theorem Kt(c:Nat):∀l:W,∀w∈bg c l,fk c w
 |[],w,h=>by
  have:w=[]:=by simpa[bg]using h
  subst this;intro z;cases z
 |b::r,w,h=>by
  have ih:=Kt c r;unfold bg at h;split at h;rcases iM.mp h with e|e
  subst e;intro z;cases z;show ih w e;rename_i hb;cases e:bg c r with
  |nil=>show absurd e (i9 c r)
  |cons w0 ws=>
   rw[e]at h ih;rcases iM.mp h with z|z
   subst z;intro y;rcases iM.mp y with x|x
   show hb x.symm;show ih w0 bq x;show ih w (bp _ z)
theorem Ks(c:Nat):∀(w:W)(r:W),fk c w->bg c (w++c::r)=w::bg c r
 |[],r,_=>by simp[bg]
 |b::w,r,h=>by
  have hb:b≠c:=λe=>h (by rw[e];show bq);have hw:fk c w:=λz=>h (bp _ z);show bg c (b::(w++c::r))=_;rw[vq,ay hb,Ks c w r hw]
theorem BQ(c:Nat):∀(w:W),fk c w->bg c w=[w]
 |[],_=>rfl
 |b::w,h=>by
  have hb:b≠c:=λe=>h (by rw[e];show bq);have hw:fk c w:=λz=>h (bp _ z);rw[vq,ay hb,BQ c w hw]
theorem yu(c:Nat):∀ws:List W,ws≠[]->(∀w∈ws,fk c w)->bg c (fO c ws)=ws
 |[],h,_=>absurd rfl h
 |[w],_,h=>BQ c w (h w bq)
 |w::v::r,_,h=>by
  rw[kG _ _ (),Ks c w _ (h w bq),yu c (v::r) () λx hx=>h x (bp _ hx)]
theorem QQ(c:Nat):∀(a b:List W),a≠[]->b≠[]->fO c (a++b)=fO c a++c::fO c b
 |[],b,h,_=>absurd rfl h
 |[w],b,_,hb=>by rw[L5,kG _ _ hb];rfl
 |w::v::r,b,_,hb=>by
  rw[ja,kG _ _ (),QQ c (v::r) b () hb,kG c w (r:=v::r) ()];simp
def gn(x:W):W:=34::(x++[34])
def ON(c:Nat)(x:W):gj c (x++[c])=true:=by simp[gj]
def oU:∀c,gl c=true->c≠32/\c≠34/\c≠10/\c≠58/\c≠63:=by
 intro c h;unfold gl fm isUp xJ at h;simp![ox,bS,bw]at h;omega
def M7{w:W}(h:isAlnum w=true):w≠[]/\∀c∈w,gl c=true:=by
 unfold isAlnum at h;rw[bS,eW]at h;show#[by rintro rfl;simp at h,h.2]
def Dz(c d:Nat)(w:W):gj c (w++[d])=decide (d=c):=by
 unfold gj;simp![Ga];rw[cw];simp
def OM{u w:W}(h:isAlnum w=true):gj 34 (u++w)=false:=by
 let#[h1,h2]:=M7 h;let#[v,d,rfl]:=EZ h1;rw[<-pZ,Dz];have:=(oU d (h2 d ())).2.1;simp[this]
def Ec{x:W}(h:hZ x=true):x.length<=20/\∀w∈bg 32 x,isAlnum w=true:=by
 unfold hZ at h;rw[bS,bw,eW]at h;show h
def BH{x:W}(h:hZ x=true):x≠[]:=by
 rintro rfl;simp[hZ,bg,isAlnum]at h
theorem mem_join(c:Nat):∀(ws:List W)(d:Nat),d∈fO c ws->d=c\/∃w∈ws,d∈w
 |[],d,h=>by cases h
 |[w],d,h=>.inr #[w,bq,h]
 |w::v::r,d,h=>by
  rw[kG _ _ ()]at h;rcases wa.mp h with z|z
  show .inr #[w,bq,z];rcases iM.mp z with y|y
  show .inl y;rcases mem_join c (v::r) d y with x|⟨u,hu,x⟩
  show .inl x;show .inr #[u,bp _ hu,x]
def Kl{x:W}(h:hZ x=true):∀c∈x,c=32\/gl c=true:=by
 intro c hc;rw[<-qE 32 x]at hc;rcases mem_join 32 _ c hc with z|⟨w,hw,z⟩
 show .inl z;show .inr ((M7 ((Ec h).2 w hw)).2 c z)
def BW:List W->List W
 |[]=>[]
 |[w]=>[w++[34]]
 |w::r=>w::BW r
theorem T1(c d:Nat)(h:d≠c):∀x:W,bg c (x++[d])=(match bg c x with|[]=>[]|l=>l.dropLast++[l.getLastD []++[d]])
 |[]=>by simp[bg,h]
 |b::r=>by
  have ih:=T1 c d h r;show bg c (b::(r++[d]))=_;rw[vq,vq];cases e:bg c r with
  |nil=>show absurd e (i9 c r)
  |cons w ws=>
   rw[e]at ih;simp only at ih;split;rw[ih];cases ws<;>simp;rw[ih];cases ws<;>simp
theorem Uu:∀l:List W,l≠[]->l.dropLast++[l.getLastD []++[34]]=BW l
 |[],h=>absurd rfl h
 |[w],_=>rfl
 |w::v::r,_=>by
  have:=Uu (v::r) ();show w::((v::r).dropLast++[(v::r).getLastD []++[34]])=_;rw[this];rfl
def T0(x:W):bg 32 (gn x)=(match bg 32 x with|[]=>[]|[w]=>[34::(w++[34])]|w::r=>(34::w)::BW r):=by
 unfold gn;have h:=T1 32 34 () x;rw[vq,ay (),h];cases e:bg 32 x with
 |nil=>show absurd e (i9 32 x)
 |cons w ws=>
  cases ws with
  |nil=>simp
  |cons v vs=>
   simp only;rw[Uu _ ()];rfl
theorem Te:∀(r:List W)(u:W)(bE:List W),r≠[]->(∀w∈r,isAlnum w=true)->gj 34 u=false->
  eT u (BW r++bE)=(u++32::(fO 32 r++[34]),bE)
 |[],_,_,h,_,_=>absurd rfl h
 |[w],u,bE,_,hw,hu=>by
  show eT u ((w++[34])::bE)=_;unfold eT;rw[ay (by rw[hu];show dh)];have e:gj 34 (u++32::(w++[34]))=true:=by
   rw[show u++32::(w++[34])=(u++32::w)++[34] by simp];show ON _ _
  cases bE with
  |nil=>rfl
  |cons a b=>unfold eT;rw[aq e];rfl
 |w::v::r,u,bE,_,hw,hu=>by
  show eT u (w::(BW (v::r)++bE))=_;unfold eT;rw[ay (by rw[hu];show dh)];rw[Te (v::r) (u++32::w) bE () (λx hx=>hw x (bp _ hx)) (by
   rw[show u++32::w=(u++[32])++w by simp];show OM (hw w bq))]
  rw[kG 32 w (r:=v::r) ()];simp
def agT(x:W):((gn x).drop 1).dropLast=x:=by simp[gn]
def alm(x:W):iK 34 (gn x)=true:=rfl
def OO(x:W):gj 34 (gn x)=true:=by
 show gj 34 ((34::x)++[34])=true;show ON _ _
def Uw{x:W}(h:hZ x=true)(bE:List W):kY (bg 32 (gn x)++bE)=some (x,bE):=by
 have hw:=(Ec h).2;have key:eT ((bg 32 (gn x)++bE).headD []) (bg 32 (gn x)++bE).tail=(gn x,bE):=by
  rw[T0];have hj:=qE 32 x;cases e:bg 32 x with
  |nil=>show absurd e (i9 32 x)
  |cons w ws=>
   rw[e]at hw hj;cases ws with
   |nil=>
    simp![fO]at hj;subst hj;simp![ja,lq,m9,uc];have:gj 34 (34::(w++[34]))=true:=OO w;cases bE with
    |nil=>rfl
    |cons a b=>unfold eT;rw[aq this];rfl
   |cons v vs=>
    simp![ja,m9,uc];rw[Te (v::vs) (34::w) bE () (λy hy=>hw y (bp _ hy)) (by
     show OM (u:=[34]) (hw w bq))]
    rw[kG _ _ ()]at hj;rw[<-hj];simp[gn]
 unfold kY;simp![key];rw[alm,OO,agT,h];rfl
theorem Tf:∀(ws:List W)(u:W),∃UE,ws=UE++(eT u ws).2/\(eT u ws).1=u++(UE.flatMap λw=>32::w)
 |[],u=>#[[],rfl,by simp[eT]]
 |w::r,u=>by
  unfold eT;split;show#[[],by simp,by simp];let#[t,h1,h2]:=Tf r (u++32::w);apply#[w::t,by rw[ja,<-h1],?_];rw[h2];simp
theorem O5(w:W):∀t:List W,w++(t.flatMap λw=>32::w)=fO 32 (w::t)
 |[]=>by simp[fO]
 |v::r=>by
  rw[kG _ _ (),<-O5 v r];simp
def Uv{ws:List W}(nb:∀w∈ws,fk 32 w){x:W}{r:List W}(h:kY ws=some (x,r)):hZ x=true/\ws=bg 32 (gn x)++r:=by
 cases ws with
 |nil=>simp[kY,eT,iK]at h
 |cons w0 ws=>
  let#[t,h1,h2]:=Tf ws w0;unfold kY at h;change (if (iK 34 (eT w0 ws).1&&(gj 34 (eT w0 ws).1&&hZ ((eT w0 ws).1.drop 1).dropLast))=true then some (((eT w0 ws).1.drop 1).dropLast,(eT w0 ws).2)else none)=some (x,r)at h;by_cases hc:(iK 34 (eT w0 ws).1&&(gj 34 (eT w0 ws).1&&hZ ((eT w0 ws).1.drop 1).dropLast))=true
  rw[aq hc]at h;simp![bS]at hc;let#[hs,he,hy]:=hc;cases h;apply#[hy,?_];generalize (eT w0 ws).1=u at*
  generalize (eT w0 ws).2=r at*
  have hx:=BH hy;have eu:u=gn (u.drop 1).dropLast:=by
   cases u with
   |nil=>simp[iK]at hs
   |cons a v=>
    simp[iK]at hs;subst hs;simp![F1,vY]at hx⊢;have hv:v≠[]:=by rintro rfl;simp at hx
    let#[y,d,rfl]:=EZ hv;have:d=34:=by
     rw[show 34::(y++[d])=(34::y)++[d] from rfl,Dz]at he;simpa using he
    subst this;simp[gn]
  rw[<-eu,h2,O5,yu 32 (w0::t) () (λw hw=>nb w (by
   rcases iM.mp hw with z|z
   rw[z];show bq;rw[h1];show bp _ (wb _ z)))]
  rw[ja,<-h1];rw[ay hc]at h;cases h
def mn(a:W×W):W:=a.1++58::a.2
def g7(l:List (W×W)):List W:=if l=[] then[] else cs "press"::l.map mn
def n_(o:Int):W:=[48+o.toNat]
def iS(o:Int):List W:=if o=0 then[] else[cs "order",n_ o]
def cz(b:Bool)(w:W):List W:=if b=true then[w] else[]
def iw(h:W):List W:=if h=[] then[] else[cs "hint",h]
def iR(l:List W):List W:=if l=[] then[] else cs "by"::l
def ku(x:W):List W:=if x=[] then[] else bg 32 (gn x)
def jH(x:W):List W:=if x=[] then[] else cs "label"::bg 32 (gn x)
def so(b:aQ):List W:=cz b.hidden (cs "hidden")++(cz b.off (cs "off")++(cz b.on (cs "on")++(iS b.order++g7 b.b7)))
def uH(b:aQ)(r:List W):List W:=ku b.text++(jH b.label++(iR b.by_++(iw b.hint++r)))
def jh(b:aQ):List W:=b.kind::b.ident::uH b (so b)
def sE(b:aQ):W:=nc (2*b.deep.toNat) 32++fO 32 (jh b)
def lB(x:W):Prop:=x=[]\/hZ x=true
structure VB (b:aQ):Prop where
 deep:0<=b.deep
 kind:b.kind∈gF
 ident:bA b.ident=true
 parent:b.parent= -1
 text:lB b.text
 label:lB b.label
 wV:∀w∈b.by_,bA w=true
 zN:b.by_.length<=3
 Ny:fI b.by_=true
 hint:b.hint=[]\/bA b.hint=true
 order:0<=b.order/\b.order<=9
 b7:∀a∈b.b7,a.1∈jt/\bA a.2=true
 G6:b.b7.length<=3
 marks:qo b=true
abbrev aoF(ws:List W):W:=ws.headD []
def ahh{ws r:List W}{b b':aQ}(nb:∀w∈ws,fk 32 w)(h0:b.text=[])(h:nZ ws b=some (r,b')):∃x,lB x/\ws=ku x++r/\b'={ b with text:=x }:=by
 unfold nZ at h;split at h;cases e:kY ws with
 |none=>rw[e]at h;cases h
 |some y=>
  let#[x,r']:=y;rw[e]at h;cases h;let#[h1,h2]:=Uv nb e;show#[x,.inr h1,by rw[ku,ay (BH h1)];show h2,rfl]
 cases h;show#[[],.inl rfl,by simp[ku],by rw[<-h0]]
def vo{w:W}{ws:List W}(hw:w≠[])(h:bo w ws=true):ws=w::ws.tail:=by
 unfold bo at h;rw[bw]at h;cases ws with
 |nil=>show absurd h.symm hw
 |cons a r=>simp at h;rw[h];rfl
def ahp{ws:List W}(nb:∀w∈ws,fk 32 w):∀w∈ws.tail,fk 32 w:=λw hw=>nb w (List.mem_of_mem_tail hw)
def ahe{ws r:List W}{b b':aQ}(nb:∀w∈ws,fk 32 w)(h0:b.label=[])(h:lR ws b=some (r,b')):∃x,lB x/\ws=jH x++r/\b'={ b with label:=x }:=by
 unfold lR at h;split at h;rename_i hs;have e1:=vo () hs;cases e:kY ws.tail with
 |none=>rw[e]at h;cases h
 |some y=>
  let#[x,r']:=y;rw[e]at h;cases h;let#[h1,h2]:=Uv (ahp nb) e;show#[x,.inr h1,by rw[jH,ay (BH h1),e1,h2];rfl,rfl]
 cases h;show#[[],.inl rfl,by simp[jH],by rw[<-h0]]
def amg{ws r:List W}{l:List W}(h:tL ws=some (l,r)):l≠[]/\(∀w∈l,bA w=true)/\l.length<=3/\fI l=true/\ws=l++r:=by
 unfold tL at h;split at h;rename_i h1;change (if _ then some (ws.headD []::ws.tail.takeWhile bA,ws.tail.dropWhile bA)else none)=some (l,r)at h;split at h;rename_i h2;cases h;rw[bS,bw]at h2;apply#[by simp,?_,h2.1,h2.2,?_];intro w hw;rcases iM.mp hw with z|z
 rw[z];show h1;show eW.mp (List.all_takeWhile (p:=bA) (l:=ws.tail)) w z;cases ws with
 |nil=>show absurd h1 ()
 |cons a t=>simp[L7]
 cases h;cases h
def ag9{ws r:List W}{b b':aQ}(h0:b.by_=[])(h:jP ws b=some (r,b')):∃l,(∀w∈l,bA w=true)/\l.length<=3/\fI l=true/\ws=iR l++r/\b'={ b with by_:=l }:=by
 unfold jP at h;split at h;rename_i hs;have e1:=vo () hs;cases e:tL ws.tail with
 |none=>rw[e]at h;cases h
 |some y=>
  let#[l,r']:=y;rw[e]at h;cases h;let#[h1,h2,h3,h4,h5]:=amg e;show#[l,h2,h3,h4,by rw[iR,ay h1,e1,h5];rfl,rfl]
 cases h;show#[[],nofun,by simp,rfl,by simp[iR],by rw[<-h0]]
def Jh{w:W}(h:bA w=true):w≠[]:=by rintro rfl;show absurd h ()
def ahc{ws r:List W}{b b':aQ}(h0:b.hint=[])(h:mJ ws b=some (r,b')):∃x,(x=[]\/bA x=true)/\ws=iw x++r/\b'={ b with hint:=x }:=by
 unfold mJ at h;split at h;rename_i hs;have e1:=vo () hs;split at h;rename_i h2;cases h;apply#[_,.inr h2,?_,rfl];rw[iw,ay (Jh h2)];rw[e1];cases e:ws.tail with
 |nil=>rw[e]at h2;show absurd h2 ()
 |cons a t=>rfl
 cases h;cases h;show#[[],.inl rfl,by simp[iw],by rw[<-h0]]
def amj{ws r:List W}{b b':aQ}(nb:∀w∈ws,fk 32 w)(h0:b.text=[]/\b.label=[]/\b.by_=[]/\b.hint=[])(h:kX ws b=some (r,b')):
  ∃x y l z,lB x/\lB y/\(∀w∈l,bA w=true)/\l.length<=3/\fI l=true/\(z=[]\/bA z=true)/\ws=ku x++(jH y++(iR l++(iw z++r)))/\b'={ b with text:=x,label:=y,by_:=l,hint:=z }:=by
 unfold kX at h;cases e1:nZ ws b with
 |none=>rw[e1]at h;cases h
 |some p1=>
  let#[r1,b1]:=p1;rw[e1]at h;let#[x,hx,w1,rfl]:=ahh nb h0.1 e1;simp![de]at h;cases e2:lR r1 { b with text:=x } with
  |none=>rw[e2]at h;cases h
  |some p2=>
   let#[r2,b2]:=p2;rw[e2]at h;let#[y,hy,w2,rfl]:=ahe (λw hw=>nb w (by rw[w1];show p5 _ hw)) (by show h0.2.1) e2;simp![de]at h;cases e3:jP r2 { b with text:=x,label:=y } with
   |none=>rw[e3]at h;cases h
   |some p3=>
    let#[r3,b3]:=p3;rw[e3]at h;let#[l,l1,l2,l3,w3,rfl]:=ag9 (by show h0.2.2.1) e3;simp![de]at h;let#[z,hz,w4,rfl]:=ahc (by show h0.2.2.2) h;show#[x,y,l,z,hx,hy,l1,l2,l3,hz,by rw[w1,w2,w3,w4],rfl]
def BK{w:W}(hw:w≠[])(ws:List W):ws=cz (bo w ws) w++cY w ws:=by
 unfold cz cY;cases h:bo w ws with
 |false=>
  unfold bo at h;rw[o_]at h;rw[ay h];rfl
 |true=>
  have e:=vo hw h;unfold bo at h;rw[bw]at h;simp![bz,aq h,L5];show e
def nums:∀w∈p8,w=n_ (mq w)/\1<=mq w/\mq w<=9:=by decide
def agF{ws r:List W}{b b':aQ}(h0:b.order=0)(h:mI ws b=some (r,b')):∃o:Int,(0<=o/\o<=9)/\ws=iS o++r/\b'={ b with order:=o }:=by
 unfold mI at h;split at h;rename_i hs;have e1:=vo () hs;split at h;rename_i h2;cases h;have hm:=lm.mp h2;let#[n1,n2,n3]:=nums _ hm;apply#[_,#[by omega,n3],?_,rfl];rw[iS,ay ()];rw[e1];cases e:ws.tail with
 |nil=>rw[e]at hm;show absurd hm ()
 |cons a t=>
  rw[e]at n1;show cs "order"::a::t=cs "order"::n_ (mq a)::t;rw[m9]at n1;rw[<-n1]
 cases h;cases h;show#[0,by decide,by simp[iS],by rw[<-h0]]
def aiU{w:W}{a:W×W}(h:gU w=some a):a.1∈jt/\bA a.2=true/\w=mn a:=by
 unfold gU at h;split at h;rename_i d i e;split at h;rename_i h1;cases h;rw[bS]at h1;apply#[lm.mp h1.1,h1.2,?_];have:=qE 58 w;rw[e]at this;show this.symm;cases h;cases h
theorem Bc{A B:Type}{f:A->Option B}:∀{l:List A}{m:List B},fH f l=some m->jx f l=m.map some
 |[],m,h=>by cases h;rfl
 |a::r,m,h=>by
  unfold fH at h;split at h;rename_i b l e1 e2;cases h;rw[ba,e1,Bc e2];rfl;cases h
theorem Bd{A B:Type}{f:A->Option B}:∀{l:List A}{m:List B},jx f l=m.map some->fH f l=some m
 |[],m,h=>by
  cases m with
  |nil=>rfl
  |cons=>cases h
 |a::r,m,h=>by
  cases m with
  |nil=>cases h
  |cons b m=>
   rw[ba,ba]at h;injection h with h1 h2
   unfold fH;rw[h1,Bd h2]
theorem M5:∀{ws:List W}{l:List (W×W)},jx gU ws=l.map some->(∀a∈l,a.1∈jt/\bA a.2=true)/\ws=l.map mn
 |[],l,h=>by
  cases l with
  |nil=>show#[nofun,rfl]
  |cons=>cases h
 |w::ws,l,h=>by
  cases l with
  |nil=>cases h
  |cons a l=>
   rw[ba,ba]at h;injection h with h1 h2
   let#[i1,i2]:=M5 h2;let#[j1,j2,j3]:=aiU h1;apply#[λx hx=>?_,by rw[ba,<-i2,<-j3]];rcases iM.mp hx with z|z
   rw[z];show#[j1,j2];show i1 x z
def agH{ws r:List W}{b b':aQ}(h0:b.b7=[])(h:qN ws b=some (r,b')):∃l:List (W×W),(∀a∈l,a.1∈jt/\bA a.2=true)/\l.length<=3/\ws=g7 l++r/\b'={ b with b7:=l }:=by
 unfold qN at h;split at h;rename_i hs;have e1:=vo () hs;cases e:lZ ws.tail with
 |none=>rw[e]at h;cases h
 |some l=>
  rw[e]at h;cases h;unfold lZ at e;split at e;cases e;rename_i hne;split at e;rename_i l' e2;split at e;rename_i hl;cases e;let#[i1,i2]:=M5 (Bc e2);apply#[l,i1,hl,?_,rfl];have:l≠[]:=by rintro rfl;rw[i2]at hne;show hne rfl
  rw[g7,ay this,e1,i2];simp;cases e;cases e
 cases h;show#[[],nofun,by simp,by simp[g7],by rw[<-h0]]
def amh{ws r:List W}{b b':aQ}(h0:b.order=0/\b.b7=[])(h:mS ws b=some (r,b')):
  ∃h1 h2 h3 o l,(0<=o/\o<=9)/\(∀a∈l,a.1∈jt/\bA a.2=true)/\l.length<=3/\ws=cz h1 (cs "hidden")++(cz h2 (cs "off")++(cz h3 (cs "on")++(iS o++(g7 l++r))))/\b'={ b with hidden:=h1,off:=h2,on:=h3,order:=o,b7:=l }:=by
 unfold mS at h;have s1:=BK (w:=cs "hidden") () ws;have s2:=BK (w:=cs "off") () (cY (cs "hidden") ws);have s3:=BK (w:=cs "on") () (cY (cs "off") (cY (cs "hidden") ws));cases e1:mI (cY (cs "on") (cY (cs "off") (cY (cs "hidden") ws))) { b with hidden:=bo (cs "hidden") ws,off:=bo (cs "off") (cY (cs "hidden") ws),on:=bo (cs "on") (cY (cs "off") (cY (cs "hidden") ws)) } with
 |none=>simp![e1]at h;cases h
 |some p1=>
  let#[r1,b1]:=p1;simp![e1,de]at h;let#[o,ho,w1,rfl]:=agF (by show h0.1) e1;let#[l,l1,l2,w2,rfl]:=agH (by show h0.2) h;show#[_,_,_,o,l,ho,l1,l2,by rw[<-w2,<-w1,<-s3,<-s2,<-s1],rfl]
def EO(d:Nat)(ws:List W):Option aQ:=
 if !gF.contains (ws.headD [])then none
 else if !bA (ws.tail.headD [])then none
 else(kX ws.tail.tail (nH d (ws.headD []) (ws.tail.headD []))).bind λx=>(mS x.1 x.2).bind λy=>if y.1.isEmpty&&qo y.2 then some y.2 else none
def ai7{d:Nat}{ws:List W}{b:aQ}(nb:∀w∈ws,fk 32 w)(h:EO d ws=some b):VB b/\ws=jh b/\b.deep=d:=by
 unfold EO at h;split at h;cases h;rename_i hk;split at h;cases h;rename_i hi;have hk:gF.contains (ws.headD [])=true:=by simpa using hk
 have hi:bA (ws.tail.headD [])=true:=by simpa using hi
 have hk:=lm.mp hk;cases ws with
 |nil=>show absurd hk ()
 |cons k ws=>
 cases ws with
 |nil=>show absurd hi (by show ¬bA []=true;decide)
 |cons i ws=>
 simp![m9,uc]at h hk hi;cases e1:kX ws (nH d k i)with
 |none=>rw[e1]at h;cases h
 |some p1=>
  let#[r1,b1]:=p1;rw[e1]at h;simp![de]at h;let#[x,y,l,z,hx,hy,l1,l2,l3,hz,w1,rfl]:=amj (λw hw=>nb w (bp _ (bp _ hw))) #[rfl,rfl,rfl,rfl] e1;cases e2:mS r1 { nH d k i with text:=x,label:=y,by_:=l,hint:=z } with
  |none=>rw[e2]at h;cases h
  |some p2=>
   let#[r2,b2]:=p2;rw[e2]at h;simp![de]at h;let#[h1,h2,h3,o,ac,ho,a1,a2,w2,rfl]:=amh #[rfl,rfl] e2;split at h;rename_i hc;rw[bS]at hc;have hr:r2=[]:=Ci.mp hc.1;subst hr;cases h;apply#[#[LB _,hk,hi,rfl,hx,hy,l1,l2,l3,hz,ho,a1,a2,hc.2],?_,rfl];rw[w1,w2];simp[jh,uH,so,nH];cases h
def ahi{x:W}{r:List W}{b:aQ}(hx:lB x)(h0:b.text=[])(hr:iK 34 (aoF r)=false):nZ (ku x++r) b=some (r,{ b with text:=x }):=by
 obtain rfl|hx:=hx
 unfold nZ ku;rw[aq rfl,lq,hr,ay dh,<-h0];unfold nZ ku;rw[ay (BH hx)];have:iK 34 ((bg 32 (gn x)++r).headD [])=true:=by
  rw[T0];cases e:bg 32 x with
  |nil=>show absurd e (i9 32 x)
  |cons w ws=>cases ws<;>rfl
 rw[this,aq rfl,Uw hx];rfl
def BJ{w:W}{r:List W}(h:aoF r≠w):bo w r=false:=cO h
def vp{w:W}{r:List W}:bo w (w::r)=true:=b_ rfl
def ahf{x:W}{r:List W}{b:aQ}(hx:lB x)(h0:b.label=[])(hr:aoF r≠cs "label"):lR (jH x++r) b=some (r,{ b with label:=x }):=by
 obtain rfl|hx:=hx
 unfold lR jH;rw[aq rfl,lq,BJ hr,ay dh,<-h0];unfold lR jH;rw[ay (BH hx),ja,vp,aq rfl,uc,Uw hx];rfl
theorem TU{p:W->Bool}:∀(l r:List W),(∀w∈l,p w=true)->p (aoF r)=false->(l++r).takeWhile p=l/\(l++r).dropWhile p=r
 |[],r,_,h=>by
  cases r with
  |nil=>show#[rfl,rfl]
  |cons a r=>simp at h;simp[h]
 |a::l,r,hl,h=>by
  have ih:=TU l r (λw hw=>hl w (bp _ hw)) h;simp[hl a bq,ih.1,ih.2]
def ag'{l:List W}{r:List W}{b:aQ}(h1:∀w∈l,bA w=true)(h2:l.length<=3)(h3:fI l=true)(h0:b.by_=[])(hr:aoF r≠cs "by")(hi:bA (aoF r)=false):jP (iR l++r) b=some (r,{ b with by_:=l }):=by
 cases l with
 |nil=>
  unfold jP iR;rw[aq rfl,lq,BJ hr,ay dh,<-h0]
 |cons a l=>
  have e0:iR (a::l)=cs "by"::a::l:=ay ();unfold jP;rw[e0,ja,vp,aq rfl,uc];let#[s1,s2]:=TU l r (λw hw=>h1 w (bp _ hw)) hi;have:tL (a::l++r)=some (a::l,r):=by
   show(if bA a=true then(if (decide ((a::(l++r).takeWhile bA).length<=3)&&fI (a::(l++r).takeWhile bA))=true then some (a::(l++r).takeWhile bA,(l++r).dropWhile bA)else none)else none)=_;rw[aq (h1 a bq),s1,s2,h3,b_ h2];rfl
  rw[this];rfl
def ahd{x:W}{r:List W}{b:aQ}(hx:x=[]\/bA x=true)(h0:b.hint=[])(hr:aoF r≠cs "hint"):mJ (iw x++r) b=some (r,{ b with hint:=x }):=by
 obtain rfl|hx:=hx
 unfold mJ iw;rw[aq rfl,lq,BJ hr,ay dh,<-h0];unfold mJ iw;rw[ay (Jh hx)];show(if bo (cs "hint") (cs "hint"::x::r)=true then(if bA x=true then some (r,{ b with hint:=x })else none)else _)=_;rw[vp,aq rfl,aq hx]
def BL{c:Bool}{w:W}{r:List W}(hr:aoF r≠w):bo w (cz c w++r)=c/\cY w (cz c w++r)=r:=by
 cases c with
 |false=>show#[BJ hr,ay hr]
 |true=>show#[vp,aq rfl]
def numsOf:∀n:Fin 9,p8.contains (n_ ((n.val:Int)+1))=true/\mq (n_ ((n.val:Int)+1))=(n.val:Int)+1:=by decide
def agG{o:Int}{r:List W}{b:aQ}(ho:0<=o/\o<=9)(h0:b.order=0)(hr:aoF r≠cs "order"):mI (iS o++r) b=some (r,{ b with order:=o }):=by
 unfold mI iS;by_cases hz:o=0
 subst hz;rw[aq rfl,lq,BJ hr,ay dh,<-h0];rw[ay hz];show(if bo (cs "order") (cs "order"::n_ o::r)=true then(if p8.contains (n_ o)=true then some (r,{ b with order:=mq (n_ o) })else none)else _)=_;obtain⟨n,hn,e⟩:∃n:Nat,n<9/\o=(n:Int)+1:=#[(o-1).toNat,by omega,by omega];have:=numsOf #[n,hn];rw[show((#[n,hn]:Fin 9).val:Int)+1=o from e.symm]at this;rw[vp,aq rfl,aq this.1,this.2]
def uV:∀c,fm c=true->c≠32/\c≠34/\c≠10/\c≠58/\c≠63:=by
 intro c h;unfold fm at h;simp![bS,bw]at h;omega
def Tu{w:W}{n:Int}(h:isSmall w n=true):∀c∈w,fm c=true:=by
 unfold isSmall at h;simp![bS,eW]at h;show h.2.1
def nU{w:W}(h:bA w=true):∀c∈w,fm c=true:=by
 unfold bA at h;rw[bS]at h;show Tu h.1
def w8:∀w∈jt,∀c∈w,fm c=true:=by decide
def aiV{a:W×W}(h1:a.1∈jt)(h2:bA a.2=true):gU (mn a)=some a:=by
 unfold gU mn;rw[Ks 58 a.1 a.2 (λz=>(uV _ (w8 _ h1 _ z)).2.2.2.1 rfl),BQ 58 a.2 (λz=>(uV _ (nU h2 _ z)).2.2.2.1 rfl)];simp![lm.mpr h1,h2,Vj,bz]
def agI{l:List (W×W)}{b:aQ}(h1:∀a∈l,a.1∈jt/\bA a.2=true)(h2:l.length<=3)(h0:b.b7=[]):qN (g7 l) b=some ([],{ b with b7:=l }):=by
 cases l with
 |nil=>
  show some ([],b)=_;rw[<-h0]
 |cons a l=>
  have e0:g7 (a::l)=cs "press"::(a::l).map mn:=ay ();unfold qN;rw[e0,vp,aq rfl,uc];have:lZ ((a::l).map mn)=some (a::l):=by
   unfold lZ;rw[ay ()];have e:fH gU ((a::l).map mn)=some (a::l):=Bd (by
    rw[bh];show fg λx hx=>aiV (h1 x hx).1 (h1 x hx).2)
   rw[e];simp only;rw[aq h2]
  rw[this];rfl
def HD(r:List W)(L:List W):Prop:=aoF r=[]\/aoF r∈L
def HD.nil{L:List W}:HD [] L:=.inl rfl
def HD.mono{r L M:List W}(h:HD r L)(s:∀w∈L,w∈M):HD r M:=h.imp id λz=>s _ z
def HD.opt{c:Prop}[Decidable c]{w:W}{ws r L:List W}(h:HD r L):HD ((if c then[] else w::ws)++r) (w::L):=by
 split;show h.mono λ_ z=>bp _ z;show .inr bq
def HD.yc{c:Bool}{w:W}{r L:List W}(h:HD r L):HD (cz c w++r) (w::L):=by
 cases c with
 |false=>show h.mono λ_ z=>bp _ z
 |true=>show .inr bq
def HD.all{r L:List W}{P:W->Prop}(h:HD r L)(h0:P [])(hl:∀w∈L,P w):P (aoF r):=by
 obtain z|z:=h
 rw[z];show h0;show hl _ z
def PL(l:List (W×W)):HD (g7 l) [cs "press"]:=by
 unfold g7;split;show .nil;show .inr bq
def ami{h1 h2 h3:Bool}{o:Int}{l:List (W×W)}{b:aQ}(ho:0<=o/\o<=9)(a1:∀a∈l,a.1∈jt/\bA a.2=true)(a2:l.length<=3)(h0:b.order=0/\b.b7=[]):
  mS (cz h1 (cs "hidden")++(cz h2 (cs "off")++(cz h3 (cs "on")++(iS o++g7 l)))) b=some ([],{ b with hidden:=h1,off:=h2,on:=h3,order:=o,b7:=l }):=by
 have d1:=PL l;have d2:HD (iS o++g7 l) [cs "order",cs "press"]:=d1.opt;have d3:HD (cz h3 (cs "on")++(iS o++g7 l)) [cs "on",cs "order",cs "press"]:=d2.yc;have d4:HD (cz h2 (cs "off")++(cz h3 (cs "on")++(iS o++g7 l))) [cs "off",cs "on",cs "order",cs "press"]:=d3.yc;unfold mS;let#[s1,s2]:=BL (c:=h1) (w:=cs "hidden") (d4.all (P:=(· ≠cs "hidden")) () ());let#[s3,s4]:=BL (c:=h2) (w:=cs "off") (d3.all (P:=(· ≠cs "off")) () ());let#[s5,s6]:=BL (c:=h3) (w:=cs "on") (d2.all (P:=(· ≠cs "on")) () ());simp![s1,s2,s3,s4,s5,s6];rw[agG ho (by show h0.1) (d1.all (P:=(· ≠cs "order")) () ())];simp![de];rw[agI a1 a2 (by show h0.2)]
def adT(b:aQ):HD (so b) [cs "hidden",cs "off",cs "on",cs "order",cs "press"]:=((((PL b.b7).opt).yc).yc).yc
def amk{x y z:W}{l:List W}{r:List W}{b:aQ}(hx:lB x)(hy:lB y)(l1:∀w∈l,bA w=true)(l2:l.length<=3)(l3:fI l=true)(hz:z=[]\/bA z=true)(hr:HD r [cs "hidden",cs "off",cs "on",cs "order",cs "press"])(h0:b.text=[]/\b.label=[]/\b.by_=[]/\b.hint=[]):
  kX (ku x++(jH y++(iR l++(iw z++r)))) b=some (r,{ b with text:=x,label:=y,by_:=l,hint:=z }):=by
 have d1:HD (iw z++r) [cs "hint",cs "hidden",cs "off",cs "on",cs "order",cs "press"]:=hr.opt;have d2:HD (iR l++(iw z++r)) [cs "by",cs "hint",cs "hidden",cs "off",cs "on",cs "order",cs "press"]:=d1.opt;have d3:HD (jH y++(iR l++(iw z++r))) [cs "label",cs "by",cs "hint",cs "hidden",cs "off",cs "on",cs "order",cs "press"]:=d2.opt;unfold kX;rw[ahi hx h0.1 (d3.all (P:=(iK 34 · =false)) () ())];simp![de];rw[ahf hy (by show h0.2.1) (d2.all (P:=(· ≠cs "label")) () ())];simp![de];rw[ag' l1 l2 l3 (by show h0.2.2.1) (d1.all (P:=(· ≠cs "by")) () ()) (d1.all (P:=(bA · =false)) () ())];simp![de];rw[ahd hz (by show h0.2.2.2) (hr.all (P:=(· ≠cs "hint")) () ())]
def ai8{b:aQ}(v:VB b):EO b.deep.toNat (jh b)=some b:=by
 unfold jh;show(if (!gF.contains b.kind)=true then none else if (!bA b.ident)=true then none else(kX (uH b (so b)) (nH b.deep.toNat b.kind b.ident)).bind λx=>(mS x.1 x.2).bind λy=>if y.1.isEmpty&&qo y.2 then some y.2 else none)=some b;rw[lm.mpr v.kind,v.ident];simp![f7,bT,bI];unfold uH;rw[amk v.text v.label v.wV v.zN v.Ny v.hint (adT b) #[rfl,rfl,rfl,rfl]];simp![de];unfold so;rw[ami v.order v.b7 v.G6 #[rfl,rfl]];have e:({ nH (b.deep.toNat:Int) b.kind b.ident with text:=b.text,label:=b.label,by_:=b.by_,hint:=b.hint,hidden:=b.hidden,off:=b.off,on:=b.on,order:=b.order,b7:=b.b7 }:aQ)=b:=by
  let#[deep,kind,ident,parent,text,label,by_,hint,hidden,off,on,order,b7]:=b;have h1:0<=deep:=v.deep;have h2:parent= -1:=v.parent;subst h2;simp![nH];rw[LC h1]
 simp![de,e,Gb,v.marks,Vj,bz]
def uR:∀w∈gF,w≠[]/\∀c∈w,gl c=true:=by decide
def O7{b:aQ}(v:VB b):∀w∈jh b,fk 32 w:=by
 have JB:∀w:W,(∀c∈w,fm c=true)->fk 32 w:=λw h z=>(uV _ (h _ z)).1 rfl;have sq:∀x,∀w∈bg 32 (gn x),fk 32 w:=λx=>Kt 32 _;intro w hw;unfold jh uH so at hw;simp![iM,wa]at hw;obtain h|h|h|h|h|h|h|h|h|h|h:=hw
 rw[h];intro z;show(oU _ ((uR _ v.kind).2 _ z)).1 rfl;rw[h];show JB _ (nU v.ident);unfold ku at h;split at h;cases h;show sq _ w h;unfold jH at h;split at h;cases h;rcases iM.mp h with z|z
 rw[z];unfold fk;decide;show sq _ w z;unfold iR at h;split at h;cases h;rcases iM.mp h with z|z
 rw[z];unfold fk;decide;show JB _ (nU (v.wV w z));unfold iw at h;split at h;cases h;rename_i hn;simp![iM,lx,mQ]at h;obtain z|z:=h
 rw[z];unfold fk;decide;rw[z];obtain y|y:=v.hint
 show absurd y hn;show JB _ (nU y);unfold cz at h;split at h;rw[List.mem_singleton.mp h];unfold fk;decide;cases h;unfold cz at h;split at h;rw[List.mem_singleton.mp h];unfold fk;decide;cases h;unfold cz at h;split at h;rw[List.mem_singleton.mp h];unfold fk;decide;cases h;unfold iS at h;split at h;cases h;simp![iM,lx,mQ]at h;obtain z|z:=h
 rw[z];unfold fk;decide;rw[z];unfold fk n_;intro y;have:=List.mem_singleton.mp y;omega;unfold g7 at h;split at h;cases h;rcases iM.mp h with z|z
 rw[z];unfold fk;decide;let#[a,ha,rfl]:=Ge.mp z;unfold mn;intro y;rcases wa.mp y with y|y
 show(uV _ (w8 _ (v.b7 a ha).1 _ y)).1 rfl;rcases iM.mp y with y|y
 cases y;show(uV _ (nU (v.b7 a ha).2 _ y)).1 rfl
def SK(line:W):jT line=if eg line%2≠0 then none else EO (eg line / 2) (bg 32 (line.drop (eg line))):=rfl
theorem Q9:∀line:W,line=nc (eg line) 32++line.drop (eg line)
 |[]=>rfl
 |c::r=>by
  by_cases h:c=32
  subst h;have:eg (32::r)=eg r+1:=by simp[eg]
  rw[this,LZ,F1,ja,<-Q9 r];have:eg (c::r)=0:=by simp[eg,h]
  rw[this];rfl
theorem Np:∀(n:Nat)(r:W),r.head?≠some 32->eg (nc n 32++r)=n/\(nc n 32++r).drop n=r
 |0,r,h=>by
  cases r with
  |nil=>show#[rfl,rfl]
  |cons c r=>
   have:c≠32:=by simpa using h
   show#[by simp[eg,this],rfl]
 |n+1,r,h=>by
  let#[i1,i2]:=Np n r h;rw[LZ,ja];apply#[?_,i2];unfold eg at i1⊢;rw[L8,aq (),cN,i1]
def SM{line:W}{b:aQ}(h:jT line=some b):VB b/\line=sE b:=by
 rw[SK]at h;split at h;cases h;rename_i hn;let#[v,e,d]:=ai7 (Kt 32 _) h;apply#[v,?_];unfold sE;rw[<-e,qE,d];have:2*((eg line / 2:Nat):Int).toNat=eg line:=by omega
 rw[this];show Q9 line
def Q8{b:aQ}(v:VB b):(fO 32 (jh b)).head?≠some 32:=by
 have hk:=uR _ v.kind;unfold jh;rw[kG _ _ ()];cases e:b.kind with
 |nil=>show absurd e hk.1
 |cons c r=>
  rw[e]at hk;have:=(oU c (hk.2 c bq)).1;simpa using this
def aiX{b:aQ}(v:VB b):jT (sE b)=some b:=by
 rw[SK];let#[h1,h2]:=Np (2*b.deep.toNat) _ (Q8 v);unfold sE;rw[h1,h2,ay (),yu 32 _ (by simp[jh]) (O7 v),show 2*b.deep.toNat / 2=b.deep.toNat by omega];show ai8 v
end Pm
namespace Pm
open Vaacca (Kind Act What Box Rule Source Now)
def cd(t:aE):W:=t.map UInt8.toNat
def un(w:W):aE:=w.map wy
def wY{a b:aE}(h:cd a=cd b):a=b:=by
 unfold cd at h;show V9 (λ_ _ z=>UInt8.toNat_inj.mp z) |>.mp h
def rY(a b:aE):cd (a++b)=cd a++cd b:=cB
def Hm(a:UInt8)(b:aE):cd (a::b)=a.toNat::cd b:=rfl
def UN(t:aE):un (cd t)=t:=by
 unfold un cd;rw[bh];show(fg λc _=>by simp).trans (m_ _)
def uB{w:W}(h:∀c∈w,c<256):cd (un w)=w:=by
 unfold un cd;rw[bh];apply(fg λc hc=>?_).trans (m_ _);show(wy c).toNat=c;rw[GK];show ue (h c hc)
def ql{t:aE}:cd t=[]↔t=[]:=by cases t<;>simp[cd]
def ko(t:aE):(cd t).length=t.length:=aD _
theorem ND(c:UInt8):∀t:aE,(gL c t).map cd=bg c.toNat (cd t)
 |[]=>rfl
 |b::r=>by
  have ih:=ND c r;rw[Hm,vq,gL];by_cases h:b=c
  subst h;rw[aq rfl,aq rfl,ba,ih];rfl;rw[ay h,ay (λz=>h (UInt8.toNat_inj.mp z)),<-ih];cases gL c r with
  |nil=>rfl
  |cons w ws=>rfl
def NF(b:UInt8):fm b.toNat=rM b:=by
 unfold fm rM;rw[cw];simp![bS,bw,W5];show Cc
def Zk(b:UInt8):gl b.toNat=MQ b:=by
 unfold gl fm isUp xJ MQ rM Vaacca.isGreat Vaacca.isDigit;rw[cw];simp![bS,ox,bw,W5];show Cc
def Hk{f:Nat->Bool}{g:UInt8->Bool}(h:∀b,f b.toNat=g b)(t:aE):(cd t).all f=t.all g:=by
 unfold cd;rw[lj];congr 1;funext b;show h b
def Hn(t:aE):(cd t).isEmpty=t.isEmpty:=by cases t<;>rfl
def Dh(l:List aE)(t:aE):(l.map cd).contains (cd t)=l.contains t:=by
 rw[cw,lm,lm,Ge];show⟨λ⟨a,ha,e⟩=>by rw[<-wY e];show ha,λh=>⟨t,h,rfl⟩⟩
def SS:Cz=Vaacca.RESERVED.map cd:=by decide
def Ho(t:aE):bA (cd t)=zn t:=by
 unfold bA isSmall zn;rw[SS,Dh,Hn,ko,Hk NF];have:decide ((t.length:Int)<=6)=decide (t.length<=MM):=by
  rw[cw,bw,bw];show(t.length:Int)<=6↔t.length<=6;omega
 rw[this];generalize t.isEmpty=a;generalize t.all rM=b;generalize Vaacca.RESERVED.contains t=c;generalize decide (t.length<=MM)=d
 revert a b c d;decide
def Di(t:aE):hZ (cd t)=GP t:=by
 unfold hZ GP;rw[ko,show(32:Nat)=(32:UInt8).toNat from rfl,<-ND,lj];have:(isAlnum∘cd)=λw:aE=>!w.isEmpty&&w.all MQ:=by
  funext w;show(!(cd w).isEmpty&&(cd w).all gl)=_;rw[Hn,Hk Zk]
 rw[this];rfl
def Hl(s:String)(h:s.toList.all (λc=>decide (c.toNat<256))=true):cd (aY s)=cs s:=by
 unfold cd aY cs;rw[bh];apply fg λc hc=>?_;show(wy c.toNat).toNat=c.toNat;rw[GK];show ue (by simpa using eW.mp h c hc)
theorem zQ:∀l:List aE,cd (dN l)=fO 32 (l.map cd)
 |[]=>rfl
 |[t]=>rfl
 |t::u::r=>by
  have ih:=zQ (u::r);unfold dN at ih⊢;rw[ba,kG _ _ (),<-ih];show cd (t++([32]++MP [32] (u::r)))=_;rw[rY,rY];rfl
def NE(t:aE):cd (fC t)=gn (cd t):=by
 unfold fC gn;rw[Hm,rY];rfl
def kT(k:Kind):W:=cd (CG k)
def aM(a:Act):W×W:=(cd (zu a.what),cd a.id)
def bH(b:Box):aQ:=#[b.deep,kT b.kind,cd b.id,-1,cd b.text,cd b.label,b.by_.map cd,cd (b.hint.headD []),b.hidden,b.off,b.on,b.order,b.press.map aM]
def A4:gF=Vaacca.KINDS.map kT:=by decide
def sG(k:Kind):k∈lD:=by cases k<;>decide
def Ee(k:Kind):kT k∈gF:=by rw[A4];show p6 (sG k)
def QS{a b:Kind}(h:kT a=kT b):a=b:=by
 have:∀x∈lD,∀y∈lD,kT x=kT y->x=y:=by decide+kernel
 show this a (sG a) b (sG b) h
def A3{a b:Kind}:kT a=kT b↔a=b:=#[QS,λh=>by rw[h]]
def afU(k:Kind):GR (CG k)=some k:=by cases k<;>decide
def amW(k:What):GU (zu k)=some k:=by cases k<;>decide
def Dt(k:What):cd (zu k)∈jt:=by cases k<;>decide
structure SB (b:Box):Prop where
 vb:VB (bH b)
 h1:b.hint.length<=1
 h2:b.hint≠[[]]
theorem Er:∀l:List aE,fI (l.map cd)=ml l
 |[]=>rfl
 |a::r=>by
  rw[ba,fI,ml,Dh,Er r]
def aaD{o:Nat}(h:o<=9):cd (gM o)=n_ o:=by
 unfold gM n_ cd;simp![ba,gY,oE];rw[GK,ue ()]
def M4(a:Act):cd (jF a)=mn (aM a):=by
 unfold jF mn aM;rw[rY,Hm];rfl
theorem Jo:∀ws:List W,fO 32 (ws.flatMap (bg 32))=fO 32 ws
 |[]=>rfl
 |[w]=>by simp![gh,oI,eJ];show qE 32 w
 |w::v::r=>by
  have ih:=Jo (v::r);rw[gh,QQ 32 _ _ (i9 32 w) (by rw[gh];simp[i9]),ih,qE,kG 32 w (r:=v::r) ()]
def acY{ws:List W}(h:∀w∈ws,fk 32 w):ws.flatMap (bg 32)=ws:=by
 induction ws with
 |nil=>rfl
 |cons a r ih=>rw[gh,BQ 32 a (h a bq),ih λw hw=>h w (bp _ hw)];rfl
def sW(c:Bool)(l:List aE):cE c l=if c=true then l else[]:=rfl
def O9{b:Box}(s:SB b):jh (bH b)=((oP b).map cd).flatMap (bg 32):=by
 have nb:=O7 s.vb;have e1:∀w:W,fk 32 w->bg 32 w=[w]:=BQ 32;have cl:cd (aY "label")=cs "label":=by decide
 have cb:cd (aY "by")=cs "by":=by decide
 have ch:cd (aY "hint")=cs "hint":=by decide
 have Zn:cd (aY "hidden")=cs "hidden":=by decide
 have Zq:cd (aY "off")=cs "off":=by decide
 have Zs:cd (aY "on")=cs "on":=by decide
 have Zt:cd (aY "order")=cs "order":=by decide
 have Zu:cd (aY "press")=cs "press":=by decide
 have fl:∀l:List W,(∀w∈l,w∈jh (bH b))->l.flatMap (bg 32)=l:=λl h=>acY λw hw=>nb w (h w hw);have mem:∀w,w∈jh (bH b)↔w=kT b.kind\/w=cd b.id\/w∈ku (bH b).text\/w∈jH (bH b).label\/w∈iR (bH b).by_\/w∈iw (bH b).hint\/w∈cz b.hidden (cs "hidden")\/w∈cz b.off (cs "off")\/w∈cz b.on (cs "on")\/w∈iS (bH b).order\/w∈g7 (bH b).b7:=by
  intro w;unfold jh uH so;simp![iM,wa];show Cc
 have t1:((cE (!b.text.isEmpty) [fC b.text]).map cd).flatMap (bg 32)=ku (bH b).text:=by
  unfold ku;show _=if cd b.text=[] then _ else _
  cases h:b.text with
  |nil=>rfl
  |cons a r=>rw[ay (by simp[cd])];simp![sW,p0,ic,bz,ba,gY,gh,oI,eJ];rw[NE,show(bH b).text=cd b.text from rfl,h]
 have t2:((cE (!b.label.isEmpty) [aY "label",fC b.label]).map cd).flatMap (bg 32)=jH (bH b).label:=by
  unfold jH;show _=if cd b.label=[] then _ else _
  cases h:b.label with
  |nil=>rfl
  |cons a r=>rw[ay (by simp[cd])];simp![sW,p0,ic,bz,ba,gY,gh,oI,eJ];rw[NE,cl,show(bH b).label=cd b.label from rfl,h,show bg 32 (cs "label")=[cs "label"] by decide];rfl
 have t3:((cE (!b.by_.isEmpty) (aY "by"::b.by_)).map cd).flatMap (bg 32)=iR (bH b).by_:=by
  have:(cE (!b.by_.isEmpty) (aY "by"::b.by_)).map cd=iR (bH b).by_:=by
   unfold iR;show _=if b.by_.map cd=[] then _ else _
   cases h:b.by_ with
   |nil=>rfl
   |cons a r=>rw[ay ()];simp![sW,p0,ic,bz,ba,cb];simp[bH,h]
  rw[this];show fl _ λw hw=>(mem w).mpr (by simp![hw,BY,yd])
 have t4:((cE (!b.hint.isEmpty) (aY "hint"::b.hint)).map cd).flatMap (bg 32)=iw (bH b).hint:=by
  have:(cE (!b.hint.isEmpty) (aY "hint"::b.hint)).map cd=iw (bH b).hint:=by
   unfold iw;show _=if cd (b.hint.headD [])=[] then _ else _
   have h1:=s.h1;have h2:=s.h2;cases h:b.hint with
   |nil=>rfl
   |cons a r=>
    rw[h]at h1 h2;have:r=[]:=by cases r with|nil=>rfl|cons=>simp at h1
    subst this;rw[ay (by rw[m9,ql];rintro rfl;show h2 rfl)];simp![sW,p0,ic,bz,ba,ch,gY];simp[bH,h]
  rw[this];show fl _ λw hw=>(mem w).mpr (by simp![hw,BY,yd])
 have t5:∀(c:Bool)(n:String),(cE c [aY n]).map cd=cz c (cd (aY n)):=by
  intro c n;cases c<;>rfl
 have t6:(cE (b.order != 0) [aY "order",gM b.order]).map cd=iS (bH b).order:=by
  unfold iS;show _=if (b.order:Int)=0 then _ else _
  by_cases h:b.order=0
  rw[h];rfl;have:(b.order != 0)=true:=by simpa using h
  rw[ay (),sW,aq this,ba,ba,Zt,aaD (by have:=s.vb.order.2;simp![bH]at this;omega)];rfl
 have t7:(cE (!b.press.isEmpty) (aY "press"::b.press.map jF)).map cd=g7 (bH b).b7:=by
  unfold g7;show _=if b.press.map aM=[] then _ else _
  cases h:b.press with
  |nil=>rfl
  |cons a r=>
   rw[ay ()];simp![sW,p0,ic,bz,ba,Zu,M4,bh];simp[bH,h,M4]
 unfold oP;simp![cB,vZ,t1,t2,t3,t4,t5,t6,t7,Zn,Zq,Zs];rw[fl (cz b.hidden (cs "hidden")) λw hw=>(mem w).mpr (by simp![hw,BY,yd]),fl (cz b.off (cs "off")) λw hw=>(mem w).mpr (by simp![hw,BY,yd]),fl (cz b.on (cs "on")) λw hw=>(mem w).mpr (by simp![hw,BY,yd]),
  fl (iS (bH b).order) λw hw=>(mem w).mpr (by simp![hw,BY,yd]),fl (g7 (bH b).b7) λw hw=>(mem w).mpr (by simp![hw,yd])]
 simp![ba,gY,gh,oI,eJ];rw[e1 (cd (CG b.kind)) (nb _ ((mem _).mpr (.inl rfl))),e1 (cd b.id) (nb _ ((mem _).mpr (.inr (.inl rfl))))];rfl
def Zj(n:Nat):cd (nc n 32)=nc n 32:=by unfold cd;rw[List.map_replicate];rfl
def lQ(b:Box):aE:=nc (2*b.deep) 32++dN (oP b)
def A7{b:Box}(s:SB b):sE (bH b)=cd (lQ b):=by
 unfold sE lQ;rw[O9 s,Jo,rY,Zj,zQ];show nc (2*((b.deep:Int).toNat)) 32++_=_;rw[oE]
def aiY{b:Box}(s:SB b):jT (cd (lQ b))=some (bH b):=by
 rw[<-A7 s];show aiX s.vb
def u5(m:aQ):Box:={ deep:=m.deep.toNat,kind:=(GR (un m.kind)).getD .page,id:=un m.ident,text:=un m.text,label:=un m.label,by_:=m.by_.map un,hint:=if m.hint=[] then[] else[un m.hint],hidden:=m.hidden,off:=m.off,on:=m.on,order:=m.order.toNat,press:=m.b7.map λa=>#[(GU (un a.1)).getD .show_,un a.2] }
def Ye{c:Nat}(h:gl c=true):c<256:=by
 unfold gl fm isUp xJ at h;simp![ox,bS,bw]at h;omega
def Rj{c:Nat}(h:fm c=true):c<256:=by
 unfold fm at h;simp![bS,bw]at h;omega
def Tc{x:W}(h:lB x):∀c∈x,c<256:=by
 obtain rfl|h:=h
 nofun
 intro c hc;rcases Kl h c hc with z|z
 omega;show Ye z
def D6{x:W}(h:bA x=true):∀c∈x,c<256:=λc hc=>Rj (nU h c hc)
def amt{m:aQ}(v:VB m):bH (u5 m)=m/\SB (u5 m):=by
 have e:bH (u5 m)=m:=by
  let#[deep,kind,ident,parent,text,label,by_,hint,hidden,off,on,order,b7]:=m;have h1:0<=deep:=v.deep;have h2:parent= -1:=v.parent;have h3:kind∈gF:=v.kind;have h4:0<=order:=v.order.1;subst h2;have ek:kT ((GR (un kind)).getD .page)=kind:=by
   have:∀w∈gF,kT ((GR (un w)).getD .page)=w:=by decide+kernel
   show this kind h3
  have eb:(by_.map un).map cd=by_:=by
   rw[bh];show(fg λw hw=>uB (D6 (v.wV w hw))).trans (m_ _)
  have eh:cd ((if hint=[] then[] else[un hint]:List aE).headD [])=hint:=by
   have:=v.hint;by_cases z:hint=[]
   rw[aq z,z];rfl;rw[ay z];obtain y|y:=this
   show absurd y z;show uB (D6 y)
  have ea:(b7.map λa=>(#[(GU (un a.1)).getD .show_,un a.2]:Act)).map aM=b7:=by
   rw[bh];apply(fg λa ha=>?_).trans (m_ _);have hw:∀w∈jt,cd (zu ((GU (un w)).getD .show_))=w:=by decide+kernel
   have:=v.b7 a ha;show(cd _,cd (un a.2))=a;rw[hw _ this.1,uB (D6 this.2)]
  simp![bH,u5,ek,eb,ea,uB (D6 v.ident),uB (Tc v.text),uB (Tc v.label),LC h1,LC h4];simp![aQ.mk.injEq,true_and,and_true];show eh
 apply#[e,by rw[e];show v,?_,?_];unfold u5;split<;>simp;unfold u5;split;simp;rename_i h;intro z;have:un m.hint=[]:=by simpa using z
 unfold un at this;show h (by simpa using this)
def r_(c b:UInt8)(r:aE):gL c (b::r)=if b=c then[]::gL c r else(match gL c r with
  |w::ws=>(b::w)::ws
  |[]=>[[b]]):=by rw[gL];rfl
def HA(c:UInt8):∀l:aE,gL c l≠[]
 |[]=>by simp[gL]
 |b::r=>by
  rw[r_];split;simp;split<;>simp
theorem Dn(c:UInt8):∀(w s:aE),c∉w->∀x xs,gL c s=x::xs->gL c (w++s)=(w++x)::xs
 |[],s,_,x,xs,h=>h
 |b::w,s,hw,x,xs,h=>by
  have ih:=Dn c w s (λz=>hw (bp _ z)) x xs h;have hb:b≠c:=λz=>hw (by rw[z];show bq);rw[ja,r_,ay hb,ih];rfl
def zX(c:UInt8)(w s:aE)(h:c∉w):gL c (w++c::s)=w::gL c s:=by
 rw[Dn c w (c::s) h [] (gL c s) (by rw[r_,aq rfl]),eJ]
def Dm(c:UInt8)(w:aE)(h:c∉w):gL c w=[w]:=by
 have:=Dn c w [] h [] [] rfl
 rwa [eJ]at this
def U6(s:aE):mm (32::s)=mm s:=by
 unfold mm;rw[r_,ay ()];cases e:gL 34 s with
 |nil=>show absurd e (HA 34 s)
 |cons x xs=>
  simp![GV,bT,bI];rw[r_,aq rfl];rfl
def amZ{w:aE}(s:aE)(h0:w≠[])(h1:34∉w)(h2:32∉w):mm (w++32::s)=w::mm s:=by
 rw[<-U6 s];unfold mm;cases e:gL 34 (32::s)with
 |nil=>show absurd e (HA 34 _)
 |cons x xs=>
  rw[Dn 34 w _ h1 x xs e];simp![GV,bT,bI];obtain⟨y,rfl⟩:∃y,x=32::y:=by
   rw[r_,ay ()]at e;cases e2:gL 34 s with
   |nil=>show absurd e2 (HA 34 _)
   |cons a b=>rw[e2]at e;injection e with e3 _;show#[_,e3.symm]
  rw[zX 32 w y h2,r_,aq rfl];have:(!w.isEmpty)=true:=by cases w with|nil=>show absurd rfl h0|cons=>rfl
  simp[this]
def amY{w:aE}(h0:w≠[])(h1:34∉w)(h2:32∉w):mm w=[w]:=by
 unfold mm;rw[Dm 34 w h1];simp![GV,bT,bI];rw[Dm 32 w h2];have:(!w.isEmpty)=true:=by cases w with|nil=>show absurd rfl h0|cons=>rfl
 simp[this]
def U7{t:aE}(s:aE)(h:34∉t):mm (fC t++s)=fC t::mm s:=by
 unfold mm;have:fC t++s=34::(t++34::s):=by simp[fC]
 rw[this,r_,aq rfl,zX 34 t s h];simp[GV,gL]
def WD(w:aE):Prop:=(w≠[]/\34∉w/\32∉w)\/∃t,w=fC t/\34∉t
theorem U8:∀ws:List aE,(∀w∈ws,WD w)->mm (dN ws)=ws
 |[],_=>rfl
 |[w],h=>by
  show mm w=[w];rcases h w bq with⟨h0,h1,h2⟩|⟨t,rfl,ht⟩
  show amY h0 h1 h2;have:=U7 [] ht
  rwa [eJ]at this
 |w::v::r,h=>by
  have ih:=U8 (v::r) λx hx=>h x (bp _ hx);have e:dN (w::v::r)=w++32::dN (v::r):=rfl;rw[e];rcases h w bq with⟨h0,h1,h2⟩|⟨t,rfl,ht⟩
  rw[amZ _ h0 h1 h2,ih];rw[U7 _ ht,U6,ih]
def UR(t:aE):Xg (fC t)=some t:=by
 show(if (t++[34]).getLast?=some 34 then some (t++[34]).dropLast else none)=some t;rw[Ga,aq rfl,FY]
def hT(r:List aE):aE:=r.headD []
def HT(r L:List aE):Prop:=r=[]\/hT r∈L
def HT.mono{r L M:List aE}(h:HT r L)(s:∀w∈L,w∈M):HT r M:=h.imp id λz=>s _ z
def HT.opt{c:Bool}{w:aE}{ws r L:List aE}(h:HT r L):HT (cE c (w::ws)++r) (w::L):=by
 cases c with
 |false=>show h.mono λ_ z=>bp _ z
 |true=>show .inr bq
theorem HT.cases{r L:List aE}(h:HT r L):r=[]\/∃w s,r=w::s/\w∈L:=by
 obtain h|h:=h
 show .inl h;cases r with
 |nil=>show .inl rfl
 |cons a s=>show .inr #[a,s,rfl,h]
def amo{t:aE}{r L:List aE}(h:HT r L)(hl:∀w∈L,Xg w=none):zt (cE (!t.isEmpty) [fC t]++r)=(t,r):=by
 cases t with
 |nil=>
  show zt r=_;rcases h.cases with rfl|⟨w,s,rfl,hw⟩
  rfl;simp[zt,hl w hw]
 |cons a t=>
  show zt (fC (a::t)::r)=_;simp![zt,UR]
def af0{t:aE}{r L:List aE}(h:HT r L)(hl:∀w∈L,w≠aY "label"):CH (cE (!t.isEmpty) [aY "label",fC t]++r)=(t,r):=by
 cases t with
 |nil=>
  show CH r=_;rcases h.cases with rfl|⟨w,s,rfl,hw⟩
  rfl;simp[CH,hl w hw]
 |cons a t=>
  show CH (aY "label"::fC (a::t)::r)=_;simp![CH,bz,zt,UR]
theorem TR{p:aE->Bool}:∀(l r:List aE),(∀w∈l,p w=true)->(r=[]\/p (hT r)=false)->(l++r).takeWhile p=l/\(l++r).dropWhile p=r
 |[],r,_,h=>by
  cases r with
  |nil=>show#[rfl,rfl]
  |cons a r=>simp[hT]at h;simp[h]
 |a::l,r,hl,h=>by
  have ih:=TR l r (λw hw=>hl w (bp _ hw)) h;simp[hl a bq,ih.1,ih.2]
def Bh{n:String}{c:Bool}{l r L:List aE}(hc:c=!l.isEmpty)(hl:∀w∈l,Vaacca.RESERVED.contains w=false)(h:HT r L)(h1:∀w∈L,Vaacca.RESERVED.contains w=true)(h2:∀w∈L,w≠aY n):zo n (cE c (aY n::l)++r)=(l,r):=by
 subst hc;cases l with
 |nil=>
  show zo n r=_;rcases h.cases with rfl|⟨w,s,rfl,hw⟩
  rfl;simp[zo,h2 w hw]
 |cons a l=>
  show zo n (aY n::(a::l++r))=_;have:=TR (p:=λx=>!Vaacca.RESERVED.contains x) (a::l) r (λw hw=>by rw[hl w hw];rfl) (h.imp id λz=>by rw[h1 _ z];rfl);simp![zo,bz];rw[this.1,this.2]
def Be{n:String}{c:Bool}{r L:List aE}(h:HT r L)(h2:∀w∈L,w≠aY n):CI n (cE c [aY n]++r)=(c,r):=by
 cases c with
 |false=>
  show CI n r=_;rcases h.cases with rfl|⟨w,s,rfl,hw⟩
  rfl;simp[CI,h2 w hw]
 |true=>
  show CI n (aY n::r)=_;simp[CI]
theorem C0{A B:Type}{f:A->Option B}{g:B->A}:∀l:List B,(∀b∈l,f (g b)=some b)->oO ((l.map g).map f)=some l
 |[],_=>rfl
 |a::l,h=>by
  rw[ba,ba,oO,h a bq,C0 l λb hb=>h b (bp _ hb)];rfl
def sL{c:UInt8}{t:aE}(h:c.toNat∉cd t):c∉t:=λz=>h (p6 z)
def AX{t:aE}(h:bA (cd t)=true){c:UInt8}(hc:fm c.toNat=false):c∉t:=sL λz=>by rw[nU h _ z]at hc;cases hc
def JC{t:aE}(h:∀c∈cd t,fm c=true){c:UInt8}(hc:fm c.toNat=false):c∉t:=sL λz=>by rw[h _ z]at hc;cases hc
def X9{a:Act}(h:bA (cd a.id)=true):MN (jF a)=some a:=by
 unfold MN jF;rw[zX 58 _ _ (JC (w8 _ (Dt a.what)) rfl),Dm 58 _ (AX h rfl)];simp![amW,fA]
def aaC{o:Nat}(h:o<=9):MO (gM o)=some o:=by
 have:∀n:Fin 10,MO (gM n.val)=some n.val:=by decide
 show this #[o,by omega]
def ajb(t:aE):Cz.contains (cd t)=Vaacca.RESERVED.contains t:=by rw[SS,Dh]
def Qy{t:aE}(h:bA (cd t)=true):Vaacca.RESERVED.contains t=false:=by
 rw[<-ajb];unfold bA at h;rw[bS]at h;simpa using h.2
def ajc:∀w∈Vaacca.RESERVED,58∉w:=by decide
def X_(a:Act):Vaacca.RESERVED.contains (jF a)=false:=by
 rw[vM];intro h;apply ajc _ (lm.mp h) ?_;unfold jF;show p5 _ bq
def aaE{o:Nat}(h:o<=9):Vaacca.RESERVED.contains (gM o)=false:=by
 have:∀n:Fin 10,Vaacca.RESERVED.contains (gM n.val)=false:=by decide
 show this #[o,by omega]
def Y4{b:Box}(s:SB b):Xb b.deep b.kind b.id ((oP b).drop 2)=some b:=by
 have v:=s.vb;have amT:∀w∈b.by_,bA (cd w)=true:=λw hw=>v.wV _ (p6 hw);have amS:∀a∈b.press,bA (cd a.id)=true:=λa ha=>(v.b7 _ (p6 ha)).2;have K3:b.order<=9:=by have:=v.order.2;simp![bH]at this;omega
 have amU:∀w∈b.hint,Vaacca.RESERVED.contains w=false:=by
  intro w hw;have h1:=s.h1;have h2:=s.h2;have h3:=v.hint;cases e:b.hint with
  |nil=>rw[e]at hw;cases hw
  |cons a r=>
   rw[e]at hw h1 h2;have:r=[]:=by cases r with|nil=>rfl|cons=>simp at h1
   subst this;have:=List.mem_singleton.mp hw;subst this;simp![bH,e,m9]at h3;obtain z|z:=h3
   show absurd (ql.mp z) (by rintro rfl;show h2 rfl);show Qy z
 have e:(oP b).drop 2=cE (!b.text.isEmpty) [fC b.text]++(cE (!b.label.isEmpty) [aY "label",fC b.label]++(cE (!b.by_.isEmpty) (aY "by"::b.by_)++(cE (!b.hint.isEmpty) (aY "hint"::b.hint)++(cE b.hidden [aY "hidden"]++(cE b.off [aY "off"]++(cE b.on [aY "on"]++(cE (b.order != 0) [aY "order",gM b.order]++(cE (!b.press.isEmpty) (aY "press"::b.press.map jF)++[])))))))):=by
  rw[eJ];rfl
 rw[e];have d0:HT [] []:=.inl rfl;have d1:=d0.opt (c:=!b.press.isEmpty) (w:=aY "press") (ws:=b.press.map jF);have d2:=d1.opt (c:=b.order != 0) (w:=aY "order") (ws:=[gM b.order]);have d3:=d2.opt (c:=b.on) (w:=aY "on") (ws:=[]);have d4:=d3.opt (c:=b.off) (w:=aY "off") (ws:=[]);have d5:=d4.opt (c:=b.hidden) (w:=aY "hidden") (ws:=[]);have d6:=d5.opt (c:=!b.hint.isEmpty) (w:=aY "hint") (ws:=b.hint);have d7:=d6.opt (c:=!b.by_.isEmpty) (w:=aY "by") (ws:=b.by_);have d8:=d7.opt (c:=!b.label.isEmpty) (w:=aY "label") (ws:=[fC b.label]);have o1:=amo (t:=b.text) d8 ();have o2:=af0 (t:=b.label) d7 ();have o3:=Bh (n:="by") rfl (λw hw=>Qy (amT w hw)) d6 () ();have o4:=Bh (n:="hint") rfl amU d5 () ();have o5:=Be (n:="hidden") (c:=b.hidden) d4 ();have o6:=Be (n:="off") (c:=b.off) d3 ();have o7:=Be (n:="on") (c:=b.on) d2 ();have o9:=Bh (n:="press") (l:=b.press.map jF) (c:=!b.press.isEmpty) (by cases b.press<;>rfl) (λw hw=>by
  let#[a,_,rfl]:=Ge.mp hw;show X_ a) d0 nofun nofun
 have o8:zo "order" (cE (b.order != 0) [aY "order",gM b.order]++(cE (!b.press.isEmpty) (aY "press"::b.press.map jF)++[]))=(if b.order=0 then[] else[gM b.order],cE (!b.press.isEmpty) (aY "press"::b.press.map jF)++[]):=by
  by_cases h:b.order=0
  rw[aq h,h];show Bh (n:="order") (l:=[]) (c:=false) rfl nofun d1 () ();rw[ay h,show(b.order != 0)=true by simpa using h];show Bh (n:="order") (l:=[gM b.order]) (c:=true) rfl (λw hw=>by rw[List.mem_singleton.mp hw];show aaE K3) d1 () ()
 unfold Xb;simp![o1,o2,o3,o4,o5,o6,o7,o8,o9];rw[C0 (f:=MN) (g:=jF) b.press λa ha=>X9 (amS a ha)];have e2:oO ((if b.order=0 then[] else[gM b.order]).map MO)=some (if b.order=0 then[] else[b.order]):=by
  by_cases h:b.order=0
  rw[aq h,aq h];rfl;rw[ay h,ay h];simp[oO,aaC K3]
 rw[e2];have e3:(if b.order=0 then[] else[b.order]).headD 0=b.order:=by
  by_cases h:b.order=0
  rw[aq h,h];rfl;rw[ay h];rfl
 simp![de,fA,e3]
def Td{t:aE}(h:lB (cd t)):34∉t:=by
 apply sL λz=>?_;obtain y|y:=h
 rw[y]at z;cases z;rcases Kl y _ z with x|x
 cases x;show(oU _ x).2.1 rfl
def am0{b:Box}(s:SB b):∀w∈oP b,WD w:=by
 have v:=s.vb;have id_:∀t:aE,bA (cd t)=true->WD t:=λt h=>.inl #[λz=>Jh h (by rw[z];rfl),AX h rfl,AX h rfl];have asc:∀t:aE,(t≠[]/\34∉t/\32∉t)->WD t:=λt h=>.inl h;intro w hw;unfold oP at hw;simp![wa,sW]at hw;obtain h|h|h|h|h|h|h|h|h|h:=hw
 simp![iM,lx,mQ]at h;obtain rfl|rfl:=h
 have hk:=uR _ (Ee b.kind);apply .inl #[λz=>hk.1 (by unfold kT;rw[z];rfl),sL λz=>(oU _ (hk.2 _ z)).2.1 rfl,sL λz=>(oU _ (hk.2 _ z)).1 rfl];show id_ _ v.ident;split at h;rw[List.mem_singleton.mp h];show .inr #[_,rfl,Td v.text];cases h;split at h;simp![iM,lx,mQ]at h;obtain rfl|rfl:=h
 show asc _ ();show .inr #[_,rfl,Td v.label];cases h;split at h;rcases iM.mp h with rfl|h
 show asc _ ();show id_ _ (v.wV _ (p6 h));cases h;split at h;rcases iM.mp h with rfl|h
 show asc _ ();have h1:=s.h1;have h2:=s.h2;have h3:=v.hint;cases e:b.hint with
 |nil=>rw[e]at h;cases h
 |cons a r=>
  rw[e]at h h1 h2;have:r=[]:=by cases r with|nil=>rfl|cons=>simp at h1
  subst this;have:=List.mem_singleton.mp h;subst this;simp![bH,e,m9]at h3;obtain z|z:=h3
  show absurd (ql.mp z) (by rintro rfl;show h2 rfl);show id_ _ z
 cases h;split at h;rw[List.mem_singleton.mp h];show asc _ ();cases h;split at h;rw[List.mem_singleton.mp h];show asc _ ();cases h;split at h;rw[List.mem_singleton.mp h];show asc _ ();cases h;split at h;simp![iM,lx,mQ]at h;obtain rfl|rfl:=h
 show asc _ ();have K3:b.order<=9:=by have:=v.order.2;simp![bH]at this;omega
 have:∀n:Fin 10,gM n.val≠[]/\34∉gM n.val/\32∉gM n.val:=by decide
 show asc _ (this #[b.order,by omega]);cases h;split at h;rcases iM.mp h with rfl|h
 show asc _ ();let#[a,ha,rfl]:=Ge.mp h;have va:=v.b7 _ (p6 ha);apply .inl #[by unfold jF;simp,?_,?_];unfold jF;intro z;rcases wa.mp z with z|z
 show JC (w8 _ (Dt a.what)) rfl z;rcases iM.mp z with z|z
 cases z;show AX va.2 rfl z;unfold jF;intro z;rcases wa.mp z with z|z
 show JC (w8 _ (Dt a.what)) rfl z;rcases iM.mp z with z|z
 cases z;show AX va.2 rfl z;cases h
theorem Uy:∀(n:Nat)(r:aE),r.head?≠some 32->((nc n 32++r).takeWhile λb=>b==32).length=n/\(nc n 32++r).drop n=r
 |0,r,h=>by
  cases r with
  |nil=>show#[rfl,rfl]
  |cons c r=>
   have:c≠32:=by simpa using h
   show#[by simp[this],rfl]
 |n+1,r,h=>by
  let#[i1,i2]:=Uy n r h;rw[LZ,ja];apply#[?_,i2];rw[L8,aq (),cN,i1]
def ago{b:Box}(s:SB b):GS (lQ b)=some b:=by
 have hw:=U8 _ (am0 s);have hh:(dN (oP b)).head?≠some 32:=by
  intro z;have h1:(cd (dN (oP b))).head?=some 32:=by
   unfold cd;rw[List.head?_map,z];rfl
  rw[zQ,<-Jo,<-O9 s]at h1;show Q8 s.vb h1
 let#[t1,t2]:=Uy (2*b.deep) _ hh;unfold GS lQ;simp![t1,t2,hw];have e:oP b=CG b.kind::b.id::(oP b).drop 2:=rfl;rw[e];simp![afU,de];rw[show 2*b.deep / 2=b.deep by omega];show Y4 s
def q_(p:aX):List aQ:=kZ (p.map bH)
theorem Ih:∀l:List W,l≠[]->(l.flatMap λl=>l++[10])=fO 10 l++[10]
 |[],h=>absurd rfl h
 |[a],_=>by simp[fO]
 |a::b::r,_=>by
  rw[gh,Ih (b::r) (),kG 10 a (r:=b::r) ()];simp
def A8{t:W}{ls:List W}(h:kJ t=some ls):t=(ls.flatMap λl=>l++[10])/\ls≠[]:=by
 unfold kJ at h;split at h;rename_i he;cases h;apply#[?_,i9 10 _];have hne:t≠[]:=by rintro rfl;simp[gj]at he
 let#[v,d,rfl]:=EZ hne;rw[Dz,bw]at he;subst he;rw[FY];rw[Ih _ (i9 10 v),qE];cases h
def Rb{ls:List W}(h0:ls≠[])(h:∀l∈ls,fk 10 l):kJ (ls.flatMap λl=>l++[10])=some ls:=by
 rw[Ih ls h0];unfold kJ;rw[Dz,b_ rfl,aq rfl,FY,yu 10 ls h0 h]
def Ra:∀ls:List aE,(∀l∈ls,10∉l)->wB (ls.flatMap λl=>l++[10])=some ls:=by
 intro ls h;have:∀ls:List aE,(∀l∈ls,10∉l)->gL 10 (ls.flatMap λl=>l++[10])=ls++[[]]:=by
  intro ls;induction ls with
  |nil=>intro _;rfl
  |cons a r ih=>
   intro h;rw[gh,pZ,L5,zX 10 a _ (h a bq),ih λl hl=>h l (bp _ hl)];rfl
 unfold wB;simp![this ls h];have e:(ls++[([]:aE)]).getLastD [1]=[]:=by
  rw[List.getLastD_eq_getLast?,Ga];rfl
 rw[aq e,FY]
def acV(o i:Kind)(h:i≠.page):pK (kT o) (kT i)=nq i o:=by
 have:∀o∈lD,∀i∈lD,i≠.page->pK (kT o) (kT i)=nq i o:=by decide+kernel
 show this o (sG o) i (sG i) h
def xO:List Box->List Box->Bool
 |_,[]=>true
 |rev,b::r=>(decide (1<=b.deep)&&(decide (b.deep<=(rev.headD GX).deep+1)&&(match oS b.deep rev with
  |some o=>nq b.kind o.kind
  |none=>false)))&&xO (b::rev) r
structure MD (rev:List Box)(st:List Kind):Prop where
 ne:rev≠[]
 len:st.length=(rev.headD GX).deep+1
 at_:∀d,1<=d->d<=st.length->(oS d rev).map (λb=>b.kind)=(st.drop (st.length-d)).head?
theorem JL:∀(r rev:List Box)(st:List Kind),MD rev st->wC st r=xO rev r
 |[],_,_,_=>by simp[wC,xO]
 |b::r,rev,st,S=>by
  rw[wC,xO];rw[<-S.len];by_cases h1:1<=b.deep
  by_cases h2:b.deep<=st.length
  rw[b_ h1,b_ h2];simp![gp];have ha:=S.at_ b.deep h1 h2;cases e:st.drop (st.length-b.deep)with
  |nil=>
   rw[e]at ha;have:oS b.deep rev=none:=by
    cases q:oS b.deep rev with
    |none=>rfl
    |some o=>rw[q]at ha;cases ha
   rw[this];rfl
  |cons k jq=>
   rw[e]at ha;obtain⟨o,q,ek⟩:∃o,oS b.deep rev=some o/\o.kind=k:=by
    cases q:oS b.deep rev with
    |none=>rw[q]at ha;cases ha
    |some o=>rw[q]at ha;show#[o,rfl,cV ha]
   rw[q];simp![ek];have hl:(k::jq).length=b.deep:=by rw[<-e,jv];omega
   rw[JL r (b::rev) (b.kind::k::jq)];apply#[by simp,by rw[cN,hl];rfl,λd IN adQ=>?_];rw[cN,hl]at adQ⊢;unfold oS;by_cases hb:b.deep<d
   rw[aq hb,show b.deep+1-d=0 by omega];rfl;rw[ay hb,S.at_ d IN (),show b.deep+1-d=(b.deep-d)+1 by omega,F1,<-e,vX,show st.length-b.deep+(b.deep-d)=st.length-d by omega]
  rw[cO h2];simp;rw[cO h1];simp
def Ub(b:Box)(h0:b.deep=0)(hk:b.kind=.page):MD [b] [.page]:=by
 apply#[by simp,by simp[h0],λd h1 h2=>?_];have:d=1:=by simp at h2;omega
 subst this;simp[oS,h0,hk]
def bx(p:aX)(i:Nat):Box:=p.getD i GX
def lK(p:aX):List Int:=p.map λb=>(b.deep:Int)
def HQ{p:aX}{i:Nat}(h:i<p.length):(lK p).getD i 0=((bx p i).deep:Int):=by
 unfold lK bx;rw[cZ,cx,cZ,ca h];rfl
def C9{p:aX}{i:Nat}(h:i<p.length):Pm.at_ (p.map bH) i=bH (bx p i):=by
 unfold Pm.at_ bx;rw[cZ,cx,cZ,ca h];rfl
def OC(p:aX):kq (p.map bH)=lK p:=by unfold kq lK;rw[bh];rfl
theorem u9{ds:List Int}{d:Int}:∀{n j:Nat},fW ds d n=some j->j<n/\ds.getD j 0<d
 |0,j,h=>by cases h
 |n+1,j,h=>by
  unfold fW at h;split at h;rename_i aoF;cases h;show#[ud _,aoF];have:=u9 h;show#[by omega,this.2]
theorem J2{p:aX}{d:Nat}:∀{n:Nat},n<=p.length->oS d (p.take n).reverse=(fW (lK p) d n).map (bx p)
 |0,_=>by simp[oS,fW]
 |n+1,h=>by
  have hn:n<p.length:=h;have e:(p.take (n+1)).reverse=bx p n::(p.take n).reverse:=by
   rw[L9,ca hn,L3];unfold bx;rw[cZ,ca hn];rfl
  rw[e,oS,fW,HQ hn];by_cases aoF:(bx p n).deep<d
  rw[aq aoF,aq ()];rfl;rw[ay aoF,ay ()];show J2 ()
theorem Jt{p:aX}:∀(k i:Nat),i+k=p.length->1<=i->xO (p.take i).reverse (p.drop i)=(bv k).all λj=>decide (1<=(bx p (i+j)).deep)&&(decide ((bx p (i+j)).deep<=(bx p (i+j-1)).deep+1)&&(match fW (lK p) (bx p (i+j)).deep (i+j)with
  |some o=>nq (bx p (i+j)).kind (bx p o).kind
  |none=>false))
 |0,i,h,_=>by
  rw[List.drop_eq_nil_of_le ()];rfl
 |k+1,i,h,h1=>by
  have hi:i<p.length:=by omega
  have e:p.drop i=bx p i::p.drop (i+1):=by
   rw[FZ hi];unfold bx;rw[cZ,ca hi];rfl
  have e2:bx p i::(p.take i).reverse=(p.take (i+1)).reverse:=by
   rw[L9,ca hi,L3];unfold bx;rw[cZ,ca hi];rfl
  rw[e,xO,e2,Jt k (i+1) () (),J2 ()];have e3:((p.take i).reverse.headD GX)=bx p (i-1):=by
   unfold bx;obtain⟨j,rfl⟩:∃j,i=j+1:=#[i-1,by omega];rw[L9,ca (),L3,cZ,Nat.add_sub_cancel,ca ()];rfl
  rw[e3,Gh,lg,lj];congr 1;rw[Gj];congr 2;cases fW (lK p) (bx p i).deep i<;>rfl;congr 1;funext j;simp![Function.comp_apply,Nat.succ_eq_add_one];rw[show i+(j+1)=i+1+j by omega]
def Sx(k:Kind):uf.contains (kT k)=wA k:=by cases k<;>decide
def ajq{p:aX}{b:Box}(hp:∀x∈p,zn x.id=true)(h:kh p b=true):SB b:=by
 unfold kh at h;simp![bS,bw,ox,eW,Ci]at h;obtain⟨h1,h2,h3,h4,h5,h6,h7,h8,h9,adg,adh,h12,Is⟩:=h;have D7:∀n,(cW p).contains n=true->bA (cd n)=true:=by
  intro n hn;obtain⟨x,hx,rfl⟩:=Ge.mp (lm.mp hn);rw[Ho];show hp x hx
 apply⟨⟨LB _,Ee _,by rw[<-Ho]at h1;show h1,rfl,?_,?_,?_,?_,?_,?_,?_,?_,?_,?_⟩,h7,?_⟩;obtain z|z:=h2
 show .inl (by show cd b.text=[];rw[z];rfl);show .inr (by rw[<-Di]at z;show z);obtain z|z:=h3
 show .inl (by show cd b.label=[];rw[z];rfl);show .inr (by rw[<-Di]at z;show z);intro w hw;obtain⟨n,hn,rfl⟩:=Ge.mp hw;show D7 n (h6 n hn);show(b.by_.map cd).length<=3;rw[aD];show h4;show fI (b.by_.map cd)=true;rw[Er];show h5;show cd (b.hint.headD [])=[]\/_;cases e:b.hint with
 |nil=>show .inl rfl
 |cons a r=>show .inr (by show bA (cd (b.hint.headD []))=true;rw[e];show D7 a (h8 a (by rw[e];show bq)))
 show(0:Int)<=(b.order:Int)/\(b.order:Int)<=9;omega;intro a ha;let#[x,hx,rfl]:=Ge.mp ha;show#[Dt x.what,D7 x.id (Is x hx)];show(b.press.map aM).length<=3;rw[aD];show adh;show(!(b.on&&decide (kT b.kind≠cs "check"))&& !(!(b.press.map aM).isEmpty&& !uf.contains (kT b.kind)))=true;rw[Sx];have e1:decide (kT b.kind≠cs "check")=!(b.kind==.check):=by
  rw[show cs "check"=kT .check by decide,cw];simp[A3]
 have e2:(b.press.map aM).isEmpty=b.press.isEmpty:=by cases b.press<;>rfl
 rw[e1,e2];have adi:b.press.isEmpty=true\/wA b.kind=true:=by
  obtain z|z:=h12
  show .inl (by rw[z];rfl);show .inr z
 revert adg adi
 generalize b.on=x;generalize (b.kind==LF)=y;generalize b.press.isEmpty=z;generalize wA b.kind=u
 revert x y z u;decide
 intro z;have:=D7 [] (h8 [] (by rw[z];show bq));show absurd this ()
def IE(p:aX)(n:bb):iW (p.map bH) (cd n)=(cW p).contains n:=by
 unfold iW;rw[yU,cw,VO,lm];unfold cW;rw[Ge];constructor;rintro⟨b,hb,h⟩;show#[b,hb,wY (qR h)];rintro⟨b,hb,rfl⟩;show#[b,hb,b_ rfl]
def ahn{p:aX}{b:Box}(s:SB b):(jk (bH b)).all (iW (p.map bH))=(b.by_.all (cW p).contains&&(b.hint.all (cW p).contains&&b.press.all λa=>(cW p).contains a.id)):=by
 unfold jk;rw[Ce,Ce];have e1:(bH b).by_.all (iW (p.map bH))=b.by_.all (cW p).contains:=by
  show(b.by_.map cd).all _=_;rw[lj];congr 1;funext n;show IE p n
 have e2:((bH b).b7.map λa=>a.2).all (iW (p.map bH))=b.press.all λa=>(cW p).contains a.id:=by
  show((b.press.map aM).map _).all _=_;rw[bh,lj];congr 1;funext a;show IE p a.id
 have e3:(if (bH b).hint=[] then[] else[(bH b).hint]).all (iW (p.map bH))=b.hint.all (cW p).contains:=by
  show(if cd (b.hint.headD [])=[] then[] else[cd (b.hint.headD [])]).all _=_;have h1:=s.h1;have h2:=s.h2;cases e:b.hint with
  |nil=>rfl
  |cons a r=>
   rw[e]at h1 h2;have:r=[]:=by cases r with|nil=>rfl|cons=>simp at h1
   subst this;rw[m9,ay (by rw[ql];rintro rfl;show h2 rfl)];simp[IE]
 rw[e1,e2,e3];generalize b.by_.all _=x;generalize b.press.all _=y;generalize b.hint.all _=z
 revert x y z;decide
def QI{p:aX}{b:Box}(s:SB b):kh p b=(jk (bH b)).all (iW (p.map bH)):=by
 rw[ahn s];have v:=s.vb;unfold kh;have a1:zn b.id=true:=by rw[<-Ho];show v.ident
 have a2:(b.text.isEmpty||GP b.text)=true:=by
  rw[<-Di];obtain z|z:=v.text
  rw[show b.text=[] from ql.mp z];rfl;rw[show hZ (cd b.text)=true from z,Lk]
 have a3:(b.label.isEmpty||GP b.label)=true:=by
  rw[<-Di];obtain z|z:=v.label
  rw[show b.label=[] from ql.mp z];rfl;rw[show hZ (cd b.label)=true from z,Lk]
 have a4:b.by_.length<=W7:=by have:=v.zN;simp![bH,aD]at this;show this
 have a5:ml b.by_=true:=by rw[<-Er];show v.Ny
 have a6:b.order<=9:=by have:=v.order.2;simp![bH]at this;omega
 have a7:b.press.length<=W7:=by have:=v.G6;simp![bH,aD]at this;show this
 have hm:(!(b.on&&decide (kT b.kind≠cs "check"))&& !(!(b.press.map aM).isEmpty&& !uf.contains (kT b.kind)))=true:=v.marks;rw[Sx]at hm;have e1:decide (kT b.kind≠cs "check")=!(b.kind==.check):=by
  rw[show cs "check"=kT .check by decide,cw];simp[A3]
 have e2:(b.press.map aM).isEmpty=b.press.isEmpty:=by cases b.press<;>rfl
 rw[e1,e2]at hm;have a8:(!b.on||b.kind==.check)=true:=by
  revert hm;generalize b.on=x;generalize (b.kind==LF)=y;generalize b.press.isEmpty=z;generalize wA b.kind=u;revert x y z u;decide
 have a9:(b.press.isEmpty||wA b.kind)=true:=by
  revert hm;generalize b.on=x;generalize (b.kind==LF)=y;generalize b.press.isEmpty=z;generalize wA b.kind=u;revert x y z u;decide
 rw[a1,a2,a3,a5,b_ a4,b_ s.h1,b_ a6,a8,b_ a7,a9];simp![gp]
def Bq{p:aX}(h:ij p=true):∀b∈p,SB b:=by
 cases p with
 |nil=>simp[ij]at h
 |cons b0 r=>
  unfold ij at h;simp![bS,eW]at h;have hb:=h.2.2.2.2.2.2.2;intro b cA;apply ajq (p:=b0::r) (λx hx=>?_) (hb b cA);have:=hb x hx;unfold kh at this;rw[bS]at this;show this.1
def Yd{n:Nat}{f:Nat->Bool}(h:f 0=true):(bv (n+1)).all f=(bv n).all λj=>f (1+j):=by
 rw[Gh,lg,lj,h,gp];congr 1;funext j;show f (j+1)=_;rw[Gi]
def Yb{α:Type}{f g:α->Bool}(l:List α):(l.all λx=>f x&&g x)=(l.all f&&l.all g):=by
 rw[cw];simp![bS,eW];show⟨λh=>⟨λx hx=>(h x hx).1,λx hx=>(h x hx).2⟩,λh x hx=>⟨h.1 x hx,h.2 x hx⟩⟩
def aft(p:aX):(p.map bH).map (λb=>b.ident)=(cW p).map cd:=by
 unfold cW;rw[bh,bh];rfl
def Sa{p:aX}(s:∀b∈p,SB b)(h0:p≠[]):pP (p.map bH)=ij p:=by
 cases p with
 |nil=>show absurd rfl h0
 |cons b r=>
  have e1:Ax (Pm.at_ ((b::r).map bH) 0)=(b.deep==0&&(b.kind==.page&& !b.hidden)):=by
   rw[C9 ()];show(decide (kT b.kind=cs "page")&&(decide ((b.deep:Int)=0)&& !b.hidden))=_;have q1:decide (kT b.kind=cs "page")=(b.kind==.page):=by
    rw[show cs "page"=kT .page by decide,cw];simp[A3]
   have q2:decide ((b.deep:Int)=0)=(b.deep==0):=by rw[cw];simp
   rw[q1,q2];generalize (b.kind==LG)=x;generalize (b.deep==0)=y;generalize b.hidden=z;revert x y z;decide
  have e4:pD ((b::r).map bH)=(ml (cW (b::r))&&(b::r).all (kh (b::r))):=by
   unfold pD;rw[aft,Er,lj];congr 1;rw[cw,eW,eW];show#[λh x hx=>by rw[QI (s x hx)];show h x hx,λh x hx=>by have:=h x hx;rw[QI (s x hx)]at this;show this]
  have ip:ij (b::r)=(b.deep==0&&(b.kind==.page&&(!b.hidden&&(wC [.page] r&&(decide ((b::r).length<=GN)&&((b::r).all (λx=>decide (x.deep<=p_))&&(ml (cW (b::r))&&(b::r).all (kh (b::r))))))))):=rfl;unfold pP;rw[ip,e1,e4,aD];cases aoF:(b.deep==0)with
  |false=>simp![ow,tT]
  |true=>
  cases hk:(b.kind==LG)with
  |false=>simp![ow,tT]
  |true=>
  have xq:b.deep=0:=by simpa using aoF
  have AL:b.kind=.page:=by simpa using hk
  have e5:(bv (b::r).length).all (λi=>decide (i=0)||(kH ((b::r).map bH) i&&qI ((b::r).map bH) i))=(wC [.page] r&&(b::r).all λx=>decide (x.deep<=p_)):=by
   rw[JL r [b] [.page] (Ub b xq AL)];have q:=Jt (p:=b::r) r.length 1 (by simp;omega) (bj _);rw[show(List.take 1 (b::r)).reverse=[b] from rfl,show List.drop 1 (b::r)=r from rfl]at q;rw[q,cN,Yd (by rfl)];have q2:((b::r).all λx=>decide (x.deep<=p_))=(bv r.length).all λj=>decide ((bx (b::r) (1+j)).deep<=p_):=by
    rw[lg,xq];rw[cw];simp![bS,eW,Gg];constructor;rintro⟨_,h⟩ j hj;apply h _ ?_;unfold bx;rw[Gi,cZ,F7,ca hj];show LQ hj;intro h;apply#[by decide,λx hx=>?_];let#[j,hj,rfl]:=F_ hx;have:=h j hj;unfold bx at this;rw[Gi,cZ,F7,ca hj]at this;show this
   rw[q2,<-Yb,cw,eW,eW];apply Pe λj=>QC λhj=>?_;have hj:j<r.length:=Gg.mp hj;rw[cO (show ¬1+j=0 by omega),FG];unfold kH qI;rw[C9 (p:=b::r) (by simp;omega),C9 (p:=b::r) (i:=1+j-1) (by simp;omega),OC];show(((!decide (kT (bx (b::r) (1+j)).kind=cs "page")&&(!decide (((bx (b::r) (1+j)).deep:Int)<1)&&(!decide (((bx (b::r) (1+j)).deep:Int)>5)&& !decide (((bx (b::r) (1+j)).deep:Int)>((bx (b::r) (1+j-1)).deep:Int)+1))))&&(match fW (lK (b::r)) ((bx (b::r) (1+j)).deep:Int) (1+j)with
    |some o=>pK (Pm.at_ ((b::r).map bH) o).kind (kT (bx (b::r) (1+j)).kind)
    |none=>false))=true)↔_
   have f1:decide (kT (bx (b::r) (1+j)).kind=cs "page")=decide ((bx (b::r) (1+j)).kind=.page):=by
    rw[show cs "page"=kT .page by decide,cw];simp[A3]
   have f2:∀o,fW (lK (b::r)) ((bx (b::r) (1+j)).deep:Int) (1+j)=some o->Pm.at_ ((b::r).map bH) o=bH (bx (b::r) o):=λo ho=>C9 (by have:=(u9 ho).1;simp;omega);rw[f1];cases ho:fW (lK (b::r)) ((bx (b::r) (1+j)).deep:Int) (1+j)with
   |none=>simp
   |some o=>
    simp![f2 o ho,show(bH (bx (b::r) o)).kind=kT (bx (b::r) o).kind from rfl];by_cases hp:(bx (b::r) (1+j)).kind=.page
    rw[hp];simp[nq];rw[acV _ _ hp];simp![bS,pX,o_,bw];have:p_=5:=rfl;constructor;rintro⟨⟨_,h1,h2,h3⟩,h4⟩;show#[#[by omega,by omega,h4],by omega];rintro⟨⟨h1,h2,h4⟩,h3⟩;show#[#[hp,by omega,by omega,by omega],h4]
  rw[e5];have e6:decide ((b::r).length<=16)=decide ((b::r).length<=GN):=rfl;rw[e6];simp![gp];generalize decide ((b::r).length<=GN)=x1;generalize b.hidden=x2;generalize wC [LG] r=x3;generalize ((b::r).all λx=>decide (x.deep<=p_))=x4;generalize ml (cW (b::r))=x5;generalize (b::r).all (kh (b::r))=x6
  revert x1 x2 x3 x4 x5 x6;decide
def ji(c:Nat):Bool:=gl c||(decide (c=32)||(decide (c=58)||(decide (c=34)||decide (c=10))))
def dm(c:Nat):Nat:=if ji c=true then c else 63
def AB{c:Nat}(h:gl c=true):ji c=true:=by unfold ji;rw[h];rfl
def agA{c:Nat}(h:fm c=true):gl c=true:=by unfold gl;rw[h];rfl
def GW(w:W):Prop:=∀c∈w,ji c=true/\c≠10
theorem Ek(c:Nat):∀(l w:W),w∈bg c l->∀d∈w,d∈l
 |[],w,h,d,aoF=>by
  have:w=[]:=by simpa[bg]using h
  subst this;cases aoF
 |b::r,w,h,d,aoF=>by
  rw[vq]at h;split at h;rcases iM.mp h with e|e
  subst e;cases aoF;show bp _ (Ek c r w e d aoF);cases e:bg c r with
  |nil=>show absurd e (i9 c r)
  |cons w0 ws=>
   rw[e]at h;rcases iM.mp h with z|z
   subst z;rcases iM.mp aoF with y|y
   rw[y];show bq;show bp _ (Ek c r w0 (by rw[e];show bq) d y);show bp _ (Ek c r w (by rw[e];show bp _ z) d aoF)
def xo{w:W}(h:∀c∈w,fm c=true):GW w:=λc hc=>#[AB (agA (h c hc)),(uV _ (h c hc)).2.2.1]
def Ps{x:W}(h:lB x):∀w∈bg 32 (gn x),GW w:=by
 intro w hw c hc;have:=Ek 32 _ w hw c hc;unfold gn at this;simp![iM,wa,lx,mQ]at this;obtain e|e|e:=this
 subst e;decide;obtain z|z:=h
 rw[z]at e;cases e;rcases Kl z c e with y|y
 subst y;decide;show#[AB y,(oU _ y).2.2.1];subst e;decide
def acX{b:aQ}(v:VB b):∀w∈jh b,GW w:=by
 have dc:∀w:W,(∀c∈w,ji c=true/\c≠10)->GW w:=λw h=>h;intro w hw;unfold jh uH so at hw;simp![iM,wa]at hw;obtain h|h|h|h|h|h|h|h|h|h|h:=hw
 rw[h];show λc hc=>#[AB ((uR _ v.kind).2 _ hc),(oU _ ((uR _ v.kind).2 _ hc)).2.2.1];rw[h];show xo (nU v.ident);unfold ku at h;split at h;cases h;show Ps v.text w h;unfold jH at h;split at h;cases h;rcases iM.mp h with z|z
 rw[z];show dc _ ();show Ps v.label w z;unfold iR at h;split at h;cases h;rcases iM.mp h with z|z
 rw[z];show dc _ ();show xo (nU (v.wV w z));unfold iw at h;split at h;cases h;rename_i hn;simp![iM,lx,mQ]at h;obtain z|z:=h
 rw[z];show dc _ ();rw[z];obtain y|y:=v.hint
 show absurd y hn;show xo (nU y);unfold cz at h;split at h;rw[List.mem_singleton.mp h];show dc _ ();cases h;unfold cz at h;split at h;rw[List.mem_singleton.mp h];show dc _ ();cases h;unfold cz at h;split at h;rw[List.mem_singleton.mp h];show dc _ ();cases h;unfold iS at h;split at h;cases h;simp![iM,lx,mQ]at h;obtain z|z:=h
 rw[z];show dc _ ();rw[z];intro c hc;have:=List.mem_singleton.mp hc;have ho:=v.order;apply#[AB ?_,by omega];unfold gl fm isUp xJ;simp![ox,bS,bw];omega;unfold g7 at h;split at h;cases h;rcases iM.mp h with z|z
 rw[z];show dc _ ();let#[a,ha,rfl]:=Ge.mp z;unfold mn;intro c y;rcases wa.mp y with y|y
 show xo (w8 _ (v.b7 a ha).1) c y;rcases iM.mp y with y|y
 subst y;decide;show xo (nU (v.b7 a ha).2) c y
def Jx{b:aQ}(v:VB b):GW (sE b):=by
 intro c hc;unfold sE at hc;rcases wa.mp hc with z|z
 rw[(List.mem_replicate.mp z).2];decide;rcases mem_join 32 _ c z with y|⟨w,hw,y⟩
 rw[y];decide;show acX v w hw c y
def Dk{w:W}(h:∀c∈w,ji c=true):w.map dm=w:=by
 apply(fg λc hc=>?_).trans (m_ _);unfold dm;rw[aq (h c hc)];rfl
def Hu{a b:W}(h:a.map dm=b)(hb:∀c∈b,ji c=true):a=b:=by
 have:∀c∈a,ji c=true:=by
  intro c hc;have h1:dm c∈b:=by rw[<-h];show p6 hc
  have h2:=hb _ h1;unfold dm at h2;split at h2
  assumption
  show absurd h2 ()
 rw[Dk this]at h;show h
def Ez(p:aX):oR p=(p.map lQ).flatMap λl=>l++[10]:=by
 unfold oR;rw[F3];rfl
def wX(ls:List aE):cd (ls.flatMap λl=>l++[10])=(ls.map cd).flatMap λl=>l++[10]:=by
 induction ls with
 |nil=>rfl
 |cons a r ih=>rw[gh,rY,rY,ih,ba,gh];rfl
def agp{b:Box}(s:SB b):(10:UInt8)∉lQ b:=by
 apply sL λz=>?_;rw[<-A7 s]at z;show(Jx s.vb _ z).2 rfl
def J1{p:aX}(h:ij p=true):p≠[]:=by rintro rfl;simp[ij]at h
def Sb{p:aX}(s:∀b∈p,SB b):∀c∈cd (oR p),ji c=true:=by
 rw[Ez,wX];intro c hc;let#[l,hl,hc]:=List.mem_flatMap.mp hc;rw[bh]at hl;let#[b,hb,rfl]:=Ge.mp hl;rcases wa.mp hc with z|z
 have z:c∈cd (lQ b):=z;rw[<-A7 (s b hb)]at z;show(Jx (s b hb).vb c z).1;rw[List.mem_singleton.mp z];decide
def agq{p:aX}(s:∀b∈p,SB b)(h0:p≠[]):kJ (cd (oR p))=some (p.map λb=>cd (lQ b)):=by
 rw[Ez,wX,Rb (by simpa using h0) (by
  intro l hl;rw[bh]at hl;let#[b,hb,rfl]:=Ge.mp hl;intro z;have z:10∈cd (lQ b):=z;rw[<-A7 (s b hb)]at z;show(Jx (s b hb).vb _ z).2 rfl),bh];rfl
def ai0{p:aX}(h:ij p=true):tE (cd (oR p))=some (q_ p):=by
 have s:=Bq h;unfold tE;rw[agq s (J1 h)];simp![de];rw[Bd (m:=p.map bH) (by rw[bh,bh];show fg λb hb=>aiY (s b hb))];simp![de];rw[Sa s (J1 h),h,aq rfl];rfl
def R_{p:aX}(h:ij p=true):oQ (oR p)=some p:=by
 have s:=Bq h;unfold oQ;have e:wB (oR p)=some (p.map lQ):=by
  rw[Ez];show Ra _ λl hl=>by
   let#[b,hb,rfl]:=Ge.mp hl;show agp (s b hb)
 rw[e];simp![de];rw[C0 (f:=GS) (g:=lQ) p λb hb=>ago (s b hb)];simp![de];rw[h];simp
def JZ{t:aE}{p:aX}(h:oQ t=some p):ij p=true/\oR p=t:=by
 unfold oQ at h;cases e:wB t with
 |none=>rw[e]at h;cases h
 |some ls=>
  rw[e]at h;simp![de]at h;cases e2:oO (ls.map GS)with
  |none=>rw[e2]at h;cases h
  |some q=>
   rw[e2]at h;simp![de]at h;split at h;rename_i hc;cases h;rw[bS]at hc;show#[hc.1,by simpa using hc.2];cases h
def aiZ{t:W}{bs:List aQ}(h:tE t=some bs):∃p,ij p=true/\t=cd (oR p)/\bs=q_ p:=by
 unfold tE at h;cases e:kJ t with
 |none=>rw[e]at h;cases h
 |some ls=>
  rw[e]at h;simp![de]at h;cases e2:fH jT ls with
  |none=>rw[e2]at h;cases h
  |some ms=>
   rw[e2]at h;simp![de]at h;split at h;rename_i aS;cases h;let#[t1,t2]:=A8 e;have hm:=Bc e2;have key:∀(ls:List W)(ms:List aQ),ls.map jT=ms.map some->∃p:aX,(∀b∈p,SB b)/\p.map bH=ms/\ls=p.map λb=>cd (lQ b):=by
    intro ls;induction ls with
    |nil=>
     intro ms h;cases ms with
     |nil=>show#[[],(λ_ h=>nomatch h),rfl,rfl]
     |cons=>cases h
    |cons l ls ih=>
     intro ms h;cases ms with
     |nil=>cases h
     |cons m ms=>
      rw[ba,ba]at h;injection h with h1 h2
      let#[p,p1,p2,p3]:=ih ms h2;let#[v,hl]:=SM h1;let#[m1,m2]:=amt v;apply#[u5 m::p,?_,by rw[ba,m1,p2],?_];intro b hb;rcases iM.mp hb with z|z
      rw[z];show m2;show p1 b z;rw[ba,<-p3,<-A7 m2,m1,<-hl]
   let#[p,p1,p2,p3]:=key ls ms hm;have hne:p≠[]:=by rintro rfl;show t2 p3
   apply#[p,by rw[<-Sa p1 hne,p2];show aS,?_,by rw[q_,p2]];rw[t1,p3,Ez,wX,bh];rfl;cases h
def ai1(t:aE):tE ((cd t).map dm)=(oQ t).map q_:=by
 cases h:oQ t with
 |some p=>
  let#[h1,h2]:=JZ h;rw[<-h2,Dk (Sb (Bq h1)),ai0 h1];rfl
 |none=>
  cases h2:tE ((cd t).map dm)with
  |none=>rfl
  |some bs=>
   let#[p,p1,p2,p3]:=aiZ h2;have:=wY (Hu p2 (Sb (Bq p1)));rw[this,R_ p1]at h;cases h
def iu(l:List W):List W:=if l=[] then[] else cs "from"::l
def nY(k:W)(m:ge):List W:=k::m.role::(cz m.focus (cs "focus")++(cz m.whole (cs "whole")++iu m.sources))
structure VR (m:ge):Prop where
 role:kF m.role=true
 src:∀w∈m.sources,w∈je
 nd:fI m.sources=true
def ai2{line kind:W}{m:ge}(hk:kind≠[])(h:jo line kind=some m):VR m/\line=fO 32 (nY kind m):=by
 have e0:=qE 32 line;unfold jo at h;generalize bg 32 line=ws at h e0;simp only at h;by_cases h1:ws.headD []≠kind
 rw[aq h1]at h;cases h;rw[ay h1]at h;by_cases h2:(!kF (ws.tail.headD []))=true
 rw[aq h2]at h;cases h;rw[ay h2]at h;have h1:ws.headD []=kind:=Decidable.not_not.mp h1;have h2:kF (ws.tail.headD [])=true:=by simpa using h2
 cases ws with
 |nil=>show absurd h1.symm hk
 |cons k ws=>
 cases ws with
 |nil=>show absurd h2 (by show ¬kF []=true;decide)
 |cons role ws=>
 change (if bo (cs "from") (cY (cs "whole") (cY (cs "focus") ws))=true then(mT (cY (cs "whole") (cY (cs "focus") ws)).tail).map λl=>(#[role,bo (cs "focus") ws,bo (cs "whole") (cY (cs "focus") ws),l]:ge)else if (cY (cs "whole") (cY (cs "focus") ws)).isEmpty=true then some #[role,bo (cs "focus") ws,bo (cs "whole") (cY (cs "focus") ws),[]]else none)=some m at h;simp![m9,uc]at h1 h2;subst h1;have s1:=BK (w:=cs "focus") () ws;have s2:=BK (w:=cs "whole") () (cY (cs "focus") ws);by_cases h3:bo (cs "from") (cY (cs "whole") (cY (cs "focus") ws))=true
 rw[aq h3]at h;have s3:=vo () h3;unfold mT at h;split at h;rename_i h4;cases h;simp![bS,eW,pX]at h4;apply#[#[h2,λw hw=>lm.mp (h4.2.1 w hw),h4.2.2],?_];rw[<-e0];unfold nY iu;rw[ay (by intro z;simp only at z;rw[z]at h4;show absurd h4.1 ())];simp only;rw[<-s3,<-s2,<-s1];cases h;rw[ay h3]at h;split at h;rename_i h4;cases h;have h4:=Ci.mp h4;apply#[#[h2,nofun,rfl],?_];rw[<-e0];unfold nY iu;simp![bz];rw[<-h4,<-s2,<-s1];cases h
def SU{w:W}(h:kF w=true):∀c∈w,fm c=true:=by
 unfold kF at h;rw[bS]at h;show Tu h.1
def alj:∀w∈je,∀c∈w,fm c=true:=by decide
def Ru{k:W}{m:ge}(v:VR m):∀w∈nY k m,w=k\/∀c∈w,fm c=true:=by
 intro w hw;unfold nY at hw;simp![iM,wa]at hw;obtain h|h|h|h|h:=hw
 show .inl h;rw[h];show .inr (SU v.role);unfold cz at h;split at h;rw[List.mem_singleton.mp h];show .inr ();cases h;unfold cz at h;split at h;rw[List.mem_singleton.mp h];show .inr ();cases h;unfold iu at h;split at h;cases h;rcases iM.mp h with z|z
 rw[z];show .inr ();show .inr (alj _ (v.src w z))
def Rv{k:W}{m:ge}(v:VR m)(hk:∀c∈k,gl c=true):∀w∈nY k m,fk 32 w:=by
 intro w hw z;rcases Ru v w hw with h|h
 rw[h]at z;show(oU _ (hk _ z)).1 rfl;show(uV _ (h _ z)).1 rfl
def ai3{k:W}{m:ge}(v:VR m)(hk:∀c∈k,gl c=true):jo (fO 32 (nY k m)) k=some m:=by
 unfold jo;rw[yu 32 _ (by simp[nY]) (Rv v hk)];have d1:HD (iu m.sources) [cs "from"]:=by
  unfold iu;split;show .nil;show .inr bq
 have d2:HD (cz m.whole (cs "whole")++iu m.sources) [cs "whole",cs "from"]:=d1.yc;let#[s1,s2]:=BL (c:=m.focus) (w:=cs "focus") (d2.all (P:=(· ≠cs "focus")) () ());let#[s3,s4]:=BL (c:=m.whole) (w:=cs "whole") (d1.all (P:=(· ≠cs "whole")) () ());show(if k≠k then none else if (!kF m.role)=true then none else if bo (cs "from") (cY (cs "whole") (cY (cs "focus") (cz m.focus (cs "focus")++(cz m.whole (cs "whole")++iu m.sources))))=true then(mT (cY (cs "whole") (cY (cs "focus") (cz m.focus (cs "focus")++(cz m.whole (cs "whole")++iu m.sources)))).tail).map λl=>(#[m.role,bo (cs "focus") (cz m.focus (cs "focus")++(cz m.whole (cs "whole")++iu m.sources)),bo (cs "whole") (cY (cs "focus") (cz m.focus (cs "focus")++(cz m.whole (cs "whole")++iu m.sources))),l]:ge)else if (cY (cs "whole") (cY (cs "focus") (cz m.focus (cs "focus")++(cz m.whole (cs "whole")++iu m.sources)))).isEmpty=true then some #[m.role,bo (cs "focus") (cz m.focus (cs "focus")++(cz m.whole (cs "whole")++iu m.sources)),bo (cs "whole") (cY (cs "focus") (cz m.focus (cs "focus")++(cz m.whole (cs "whole")++iu m.sources))),[]]else none)=some m;rw[s1,s2,s3,s4,ay (),v.role,ay ()];cases e:m.sources with
 |nil=>
  have:iu []=[]:=rfl;rw[this];simp![show bo (cs "from") []=false by decide,bT,bI,Gb,bz];rw[<-e]
 |cons a l=>
  have e1:iu (a::l)=cs "from"::a::l:=ay ();rw[e1,vp,aq rfl,uc];have:mT (a::l)=some (a::l):=by
   unfold mT;have h1:(a::l).all je.contains=true:=eW.mpr λw hw=>lm.mpr (v.src w (by rw[e];show hw));have h2:=v.nd;rw[e]at h2;rw[h1,h2];rfl
  rw[this,<-e];rfl
def sT(s:Source):W:=cd (uq s)
def gA(r:Rule):ge:=#[cd r.role,r.focus,r.whole,r.sources.map sT]
def FD:List Source:=[.by_,.label,.text,.kids,.hint]
def Rr(s:Source):s∈FD:=by cases s<;>decide
def ajn(s:Source):sT s∈je:=by cases s<;>decide
def S7{a b:Source}(h:sT a=sT b):a=b:=by
 have:∀x∈FD,∀y∈FD,sT x=sT y->x=y:=by decide
 show this a (Rr a) b (Rr b) h
def ajm{a b:Source}:sT a=sT b↔a=b:=#[S7,λh=>by rw[h]]
def ajJ(s:Source):wE (uq s)=some s:=by cases s<;>decide
theorem RS:∀l:List Source,fI (l.map sT)=ml l
 |[]=>rfl
 |a::r=>by
  rw[ba,fI,ml,RS r];congr 2;rw[cw,lm,lm,Ge];show#[λ⟨x,hx,e⟩=>by rw[<-S7 e];show hx,λh=>#[a,h,rfl]]
def afF(t:aE):kF (cd t)=(!t.isEmpty&&(decide (t.length<=GO)&&(t.all rM&& !([aY "focus",aY "whole",aY "from"]:List aE).contains t))):=by
 unfold kF isSmall;have:CA=([aY "focus",aY "whole",aY "from"]:List aE).map cd:=by decide
 rw[this,Dh,Hn,ko,Hk NF];have:decide ((t.length:Int)<=8)=decide (t.length<=GO):=by
  rw[cw,bw,bw];show(t.length:Int)<=8↔t.length<=8;omega
 rw[this];generalize t.isEmpty=a;generalize t.all rM=b;generalize VQ _ t=c;generalize decide (t.length<=GO)=d
 revert a b c d;decide
def Fl(r:Rule):VR (gA r)↔nr r=true:=by
 have e:nr r=(kF (cd r.role)&&ml r.sources):=by
  unfold nr;rw[afF];generalize r.role.isEmpty=a;generalize r.role.all rM=b;generalize VQ _ r.role=c;generalize decide (r.role.length<=GO)=d;generalize ml r.sources=f
  revert a b c d f;decide
 rw[e,bS,<-RS];constructor;show λv=>#[v.role,v.nd];show λ⟨h1,h2⟩=>#[h1,λw hw=>by let#[s,_,rfl]:=Ge.mp hw;show ajn s,h2]
def U9(k:Kind)(r:Rule):(zr k r).map cd=nY (kT k) (gA r):=by
 unfold zr nY;simp![cB,ba,gY,sW];have c1:cd (aY "focus")=cs "focus":=by decide
 have c2:cd (aY "whole")=cs "whole":=by decide
 have c3:cd (aY "from")=cs "from":=by decide
 have e1:(if r.focus=true then[aY "focus"] else[]).map cd=cz r.focus (cs "focus"):=by cases r.focus<;>simp[cz,c1]
 have e2:(if r.whole=true then[aY "whole"] else[]).map cd=cz r.whole (cs "whole"):=by cases r.whole<;>simp[cz,c2]
 have e3:(if (!r.sources.isEmpty)=true then aY "from"::r.sources.map uq else[]).map cd=iu (r.sources.map sT):=by
  cases e:r.sources with
  |nil=>rfl
  |cons a l=>
   unfold iu;rw[ay (show ¬(a::l).map sT=[] by simp)];simp![p0,ic,bz,ba,c3,bh];rfl
 rw[e1,e2,e3];rfl
def lV(k:Kind)(r:Rule):aE:=dN (zr k r)
def Kh(k:Kind)(r:Rule):cd (lV k r)=fO 32 (nY (kT k) (gA r)):=by
 unfold lV;rw[zQ,U9]
def Ed(k:Kind):∀c∈kT k,gl c=true:=(uR _ (Ee k)).2
def ai4{k:Kind}{r:Rule}(h:nr r=true):jo (cd (lV k r)) (kT k)=some (gA r):=by
 rw[Kh];show ai3 ((Fl r).mpr h) (Ed k)
theorem NP:∀ws:List aE,ws≠[]->(∀w∈ws,32∉w)->gL 32 (dN ws)=ws
 |[],h,_=>absurd rfl h
 |[w],_,h=>Dm 32 w (h w bq)
 |w::v::r,_,h=>by
  have e:dN (w::v::r)=w++32::dN (v::r):=rfl;rw[e,zX 32 w _ (h w bq),NP (v::r) () λx hx=>h x (bp _ hx)]
def ajf{k:Kind}{r:Rule}(h:nr r=true):zq (lV k r)=some r:=by
 have v:=(Fl r).mpr h;have nb:∀w∈zr k r,(32:UInt8)∉w:=by
  intro w hw;show sL λz=>Rv v (Ed k) (cd w) (by rw[<-U9];show p6 hw) z
 unfold zq lV;rw[NP _ (by simp[zr]) nb];have e:zr k r=CG k::r.role::(cE r.focus [aY "focus"]++(cE r.whole [aY "whole"]++cE (!r.sources.isEmpty) (aY "from"::r.sources.map uq))):=rfl;rw[e];have d0:HT [] []:=.inl rfl;have d1:HT (cE (!r.sources.isEmpty) (aY "from"::r.sources.map uq)) [aY "from"]:=by
  have:=d0.opt (c:=!r.sources.isEmpty) (w:=aY "from") (ws:=r.sources.map uq)
  rwa [eJ]at this
 have d2:=d1.opt (c:=r.whole) (w:=aY "whole") (ws:=[]);have o1:=Be (n:="focus") (c:=r.focus) d2 ();have o2:=Be (n:="whole") (c:=r.whole) d1 ();simp![o1,o2];cases hs:r.sources with
 |nil=>
  show some (#[r.role,r.focus,r.whole,[]]:Rule)=some r;rw[<-hs]
 |cons a l=>
  show(if aY "from"=aY "from" then(oO (((a::l).map uq).map wE)).map λs=>(#[r.role,r.focus,r.whole,s]:Rule)else none)=some r;rw[aq rfl,C0 (f:=wE) (g:=uq) (a::l) λs _=>ajJ s,<-hs];rfl
def EU(l:cD):qa l=((Vaacca.KINDS.zip l).map λz=>lV z.1 z.2).flatMap λt=>t++[10]:=by
 unfold qa;rw[F3];rfl
def Ki{k:Kind}{r:Rule}(h:nr r=true):GW (cd (lV k r)):=by
 rw[Kh];intro c hc;rcases mem_join 32 _ c hc with y|⟨w,hw,y⟩
 rw[y];decide;rcases Ru ((Fl r).mpr h) w hw with z|z
 rw[z]at y;show#[AB (Ed k c y),(oU _ (Ed k c y)).2.2.1];show xo z c y
def BA{l:cD}(h:kg l=true):l.length=19/\∀r∈l,nr r=true:=by
 unfold kg at h;rw[bS,eW]at h;show#[by simpa[lD]using h.1,h.2]
def S2{l:cD}(h:kg l=true):∀c∈cd (qa l),ji c=true:=by
 rw[EU,wX];intro c hc;let#[t,ht,hc]:=List.mem_flatMap.mp hc;rw[bh]at ht;let#[z,hz,rfl]:=Ge.mp ht;rcases wa.mp hc with y|y
 show(Ki ((BA h).2 _ (yW hz).2) c y).1;rw[List.mem_singleton.mp y];decide
theorem SQ:∀(ks:List Kind)(l:cD),ks.length=l.length->(∀r∈l,nr r=true)->qX (ks.map kT) ((ks.zip l).map λz=>cd (lV z.1 z.2))=some (l.map gA)
 |[],[],_,_=>rfl
 |k::ks,r::l,h,hr=>by
  rw[ba,we,ba,qX,ai4 (hr r bq),SQ ks l (by simpa using h) λx hx=>hr x (bp _ hx)];rfl
theorem SO:∀(ks:List Kind)(ls:List W)(ms:List ge),qX (ks.map kT) ls=some ms->∃l:cD,l.length=ks.length/\(∀r∈l,nr r=true)/\ms=l.map gA/\ls=(ks.zip l).map λz=>cd (lV z.1 z.2)
 |[],[],ms,h=>by cases h;show#[[],rfl,nofun,rfl,rfl]
 |[],_::_,ms,h=>by cases h
 |_::_,[],ms,h=>by cases h
 |k::ks,a::ls,ms,h=>by
  rw[ba,qX]at h;cases e1:jo a (kT k)with
  |none=>rw[e1]at h;cases h
  |some m=>
   cases e2:qX (ks.map kT) ls with
   |none=>rw[e1,e2]at h;cases h
   |some ag0=>
    rw[e1,e2]at h;cases h;let#[l,l1,l2,l3,l4]:=SO ks ls ag0 e2;let#[v,hl]:=ai2 (uR _ (Ee k)).1 e1;have hm:gA #[un m.role,m.focus,m.whole,m.sources.map λw=>(wE (un w)).getD .by_]=m:=by
     let#[role,focus,whole,sources]:=m;have e3:cd (un role)=role:=uB λc hc=>Rj (SU v.role c hc);have e4:(sources.map λw=>(wE (un w)).getD .by_).map sT=sources:=by
      rw[bh];apply(fg λw hw=>?_).trans (m_ _);have:∀w∈je,sT ((wE (un w)).getD .by_)=w:=by decide+kernel
      show this w (v.src w hw)
     simp![gA,e3,e4]
    apply#[#[un m.role,m.focus,m.whole,m.sources.map λw=>(wE (un w)).getD .by_]::l,by rw[cN,cN,l1],?_,by rw[ba,hm,l3],?_];intro r hr;rcases iM.mp hr with z|z
    rw[z];show(Fl _).mp (by rw[hm];show v);show l2 r z;rw[we,ba,<-l4];show a::ls=cd (lV k _)::ls;rw[Kh,hm,<-hl]
def ai5{l:cD}(h:kg l=true):vi (cd (qa l))=some (l.map gA):=by
 let#[h1,h2]:=BA h;unfold vi;have hl:(Vaacca.KINDS.zip l).length=19:=by rw[Cj,h1];rfl
 rw[EU,wX,Rb (by
  intro z;have:=dX oK z;rw[aD,aD,hl]at this;cases this) (by
  intro t ht;rw[bh]at ht;let#[z,hz,rfl]:=Ge.mp ht;show λy=>(Ki (h2 _ (yW hz).2) _ y).2 rfl),bh]
 simp![de];rw[ay (by rw[aD,hl];decide),A4];show SQ lD l (by rw[h1];rfl) h2
def S1{l:cD}(h:kg l=true):nu (qa l)=some l:=by
 let#[h1,h2]:=BA h;unfold nu;have e:wB (qa l)=some ((Vaacca.KINDS.zip l).map λz=>lV z.1 z.2):=by
  rw[EU];show Ra _ λt ht=>by
   let#[z,hz,rfl]:=Ge.mp ht;show sL λy=>(Ki (h2 _ (yW hz).2) _ y).2 rfl
 rw[e];simp![de];have e2:oO (((Vaacca.KINDS.zip l).map λz=>lV z.1 z.2).map zq)=some l:=by
  have key:∀(ks:List Kind)(l:cD),ks.length=l.length->(∀r∈l,nr r=true)->oO (((ks.zip l).map λz=>lV z.1 z.2).map zq)=some l:=by
   intro ks;induction ks with
   |nil=>
    intro l hl _;cases l with
    |nil=>rfl
    |cons=>cases hl
   |cons k ks ih=>
    intro l hl hr;cases l with
    |nil=>cases hl
    |cons r l=>
     rw[we,ba,ba,oO,ajf (hr r bq),ih l (by simpa using hl) λx hx=>hr x (bp _ hx)];rfl
  show key _ l (by rw[h1];rfl) h2
 rw[e2];simp![de];rw[h];simp
def ai6(t:aE):vi ((cd t).map dm)=(nu t).map (jx gA):=by
 cases h:nu t with
 |some l=>
  have:kg l=true/\qa l=t:=by
   unfold nu at h;cases e:wB t with
   |none=>rw[e]at h;cases h
   |some ls=>
    rw[e]at h;simp![de]at h;cases e2:oO (ls.map zq)with
    |none=>rw[e2]at h;cases h
    |some q=>
     rw[e2]at h;simp![de]at h;split at h;rename_i hc;cases h;rw[bS]at hc;show#[hc.1,by simpa using hc.2];cases h
  rw[<-this.2,Dk (S2 this.1),ai5 this.1];rfl
 |none=>
  cases h2:vi ((cd t).map dm)with
  |none=>rfl
  |some ms=>
   unfold vi at h2;cases e:kJ ((cd t).map dm)with
   |none=>rw[e]at h2;cases h2
   |some ls=>
    rw[e]at h2;simp![de]at h2;split at h2;cases h2;rename_i hn;rw[A4]at h2;let#[l,l1,l2,l3,l4]:=SO lD ls ms h2;have ha:kg l=true:=by
     unfold kg;rw[bS,eW];show#[by simpa using l1,l2]
    have ht:(cd t).map dm=cd (qa l):=by
     rw[(A8 e).1,EU,wX,l4,bh];rfl
    have:=wY (Hu ht (S2 ha));rw[this,S1 ha]at h;cases h
def par(p:aX)(i:Nat):Option Nat:=fW (lK p) ((bx p i).deep:Int) i
def pN(p:aX)(i:Nat):List Nat:=(bv p.length).filter λj=>decide (par p j=some i)
def lG(p:aX):Nat->Nat->List Nat
 |0,_=>[]
 |f+1,i=>match par p i with
  |none=>[]
  |some j=>j::lG p f j
def g0(p:aX)(i:Nat):List Nat:=lG p (p_+1) i
def hb(l:List Bool)(i:Nat):Bool:=l.getD i false
def yG(p:aX)(cj:List Bool)(i:Nat):Bool:=!((i::g0 p i).any (hb cj))
structure MS where
 p:aX
 rs:cD
 cj:List Bool
 on:List Bool
 here:Nat
section
variable(s:MS)
def kI(i:Nat):Kind:=(bx s.p i).kind
def e_(i:Nat):Rule:=CJ s.rs (kI s i)
def fb(i:Nat):List Nat:=(pN s.p i).filter λj=>!hb s.cj j
def l0(i:Nat):Bool:=yG s.p s.cj i
def iE:Option Nat:=((bv s.p.length).filter λi=>decide (kI s i=.modal)&&l0 s i).getLast?
def Fn(i:Nat):Bool:=match iE s with
 |none=>true
 |some m=>(g0 s.p i).contains m
def yo(i:Nat):Bool:=!(bx s.p i).off&&(l0 s i&&Fn s i)
def rT(i:Nat):Bool:=l0 s i&& !((g0 s.p i).any λj=>(e_ s j).whole)
def xZ(i:Nat):Bool:=match iE s with
 |none=>true
 |some m=>(i::g0 s.p i).contains m
def nQ(i:Nat):Bool:=rT s i&&xZ s i
def Hy(c:Nat)(k:Kind):Bool:=match c with
 |1=>decide (0<d9 k)
 |3=>k==.link
 |4=>k==.field||k==.check
 |5=>k==.table
 |_=>k==.list
def oX(c i:Nat):Bool:=if c=0 then true else if c=2 then(e_ s i).focus else Hy c (kI s i)
def dj(c:Nat):List Nat:=((bv s.p.length).filter (oX s c)).filter (nQ s)
def sI(c i:Nat):Option Nat:=((dj s c).filter λj=>decide (i<j)).head?
def tD(c i:Nat):Option Nat:=((dj s c).filter λj=>decide (j<i)).getLast?
def eA(n:bb):Nat:=(cW s.p).idxOf n
def jW(BX qC:Nat->aE)(i:Nat)(x:Source):aE:=match x with
 | .by_=>dU ((bx s.p i).by_.map λn=>BX (eA s n))
 | .label=>(bx s.p i).label
 | .text=>(bx s.p i).text
 | .kids=>dU ((fb s i).map qC)
 | .hint=>dU ((bx s.p i).hint.map λn=>BX (eA s n))
def lN:Nat->Nat->aE
 |0,_=>[]
 |f+1,i=>GY (ny (jW s (λ_=>[]) (lN f) i) (e_ s i).sources)
def dJ(i:Nat):aE:=lN s (p_+1) i
def iT(i:Nat):Option Xh:=ny (jW s (dJ s) (dJ s) i) (e_ s i).sources
def fP(i:Nat):aE:=GY (iT s i)
def pc(i:Nat):Bool:=decide (kI s i=.check)|| !(bx s.p i).press.isEmpty
def qk(i:Nat):Bool:=pc s i&&yo s i
def lF(cj:List Bool)(a:Act):List Bool:=cj.set (eA s a.id) (match a.what with
 | .show_=>false
 | .hide=>true
 | .flip=>!hb cj (eA s a.id))
def qz(i:Nat):List Bool:=(bx s.p i).press.foldl (lF s) s.cj
def mO(i:Nat):List Bool:=if kI s i=.check then s.on.set i (!hb s.on i)else s.on
def sX(m i:Nat):Bool:=qk s i&& !yG s.p (qz s i) m
def xj(i:Nat):Bool:=(e_ s i).focus&&yo s i
def iy:List Nat:=(bv s.p.length).filter (xj s)
def di:List Nat:=((bv 9).flatMap λk=>(iy s).filter λi=>(bx s.p i).order==k+1)++(iy s).filter λi=>(bx s.p i).order==0
def dI(t:Nat):List (List Nat):=(fb s t).map (fb s)
structure Spot where
 grid:List (List Nat)
 row:Nat
 col:Nat
def jp(i:Nat):Option Spot:=(par s.p i).bind λr=>(par s.p r).bind λt=>((dI s t).findIdx? λl=>l.contains i).map λk=>#[dI s t,k,((dI s t).getD k []).idxOf i]
def gQ(g:List (List Nat))(r c:Nat):Option Nat:=(g[r]?).bind λl=>l[c]?
def vA(i:Nat):Bool:=decide (kI s i=.th)
def fN(x:Spot):List Nat:=((bv x.row).filterMap λk=>gQ x.grid k x.col).filter (vA s)
def fR(x:Spot):List Nat:=((x.grid.getD x.row []).take x.col).filter (vA s)
def nB(x:Spot)(d:Nat):Option Nat:=match d with
 |0=>if x.col=0 then none else gQ x.grid x.row (x.col-1)
 |1=>gQ x.grid x.row (x.col+1)
 |2=>if x.row=0 then none else gQ x.grid (x.row-1) x.col
 |_=>gQ x.grid (x.row+1) x.col
def vk(x:Spot)(i:Nat):aE:=dU ((fN s x++fR s x++[i]).map (fP s))
def iB(i:Nat):aE:=if (iT s i).any (λx=>x.source==.hint)=true then[] else dU ((bx s.p i).hint.map λn=>dJ s (eA s n))
def iG(i:Nat):aE:=if (e_ s i).whole=true\/(iT s i).any (λx=>x.source==.text)=true then[] else(bx s.p i).text
def dR(i:Nat):Nat:=if kI s i=.check then(if hb s.on i=true then 2 else 1)else 0
def qY(i:Nat):aE:=CM #[(bx s.p i).id,(e_ s i).role,d9 (kI s i),fP s i,(bx s.p i).off,dR s i,iB s i,iG s i]
end
def nm(p:aX)(i:Nat):bb:=(bx p i).id
structure PG (p:aX):Prop where
 is:ij p=true
 nd:(cW p).Nodup
theorem OE:∀l:List bb,ml l=true->l.Nodup
 |[],_=>Cm
 |a::r,h=>by
  unfold ml at h;rw[bS]at h;apply List.nodup_cons.mpr #[λz=>?_,OE r h.2];rw[lm.mpr z]at h;show absurd h.1 ()
def EE{p:aX}(h:ij p=true):PG p:=by
 apply#[h,?_];cases p with
 |nil=>show Cm
 |cons b r=>
  unfold ij at h;simp![bS]at h;show OE _ h.2.2.2.2.2.2.1
def mo{p:aX}{i:Nat}(h:i<p.length):p[i]? =some (bx p i):=by
 unfold bx;rw[cZ,ca h];rfl
def AZ(p:aX):(cW p).length=p.length:=aD _
def uO{p:aX}{i:Nat}(h:i<p.length):(cW p)[i]? =some (nm p i):=by
 unfold cW nm;rw[cx,mo h];rfl
def afs(p:aX):cW p=(bv p.length).map (nm p):=by
 apply m8;intro i;by_cases h:i<p.length
 rw[uO h,cx,mh h];rfl;rw[ig (by rw[AZ];omega),ig (by simp;omega)]
def J0(p:aX):p=(bv p.length).map (bx p):=by
 apply m8;intro i;by_cases h:i<p.length
 rw[mo h,cx,mh h];rfl;rw[ig (),ig (by simp;omega)]
variable{p:aX}
def mK(P:PG p){i j:Nat}(hi:i<p.length)(hj:j<p.length)(h:nm p i=nm p j):i=j:=by
 have h1:=uO hi;have h2:=uO hj;rw[h]at h1;let#[a1,e1]:=List.getElem?_eq_some_iff.mp h1;let#[a2,e2]:=List.getElem?_eq_some_iff.mp h2;show(LP P.nd).mp (e1.trans e2.symm)
def qB(P:PG p){i:Nat}(hi:i<p.length):(cW p).idxOf (nm p i)=i:=by
 have hm:nm p i∈cW p:=fh (uO hi);have hl:=v9 hm;have e:=Cg hl;rw[AZ]at hl;apply mK P hl hi ?_;have:=uO hl;rw[ca (by rw[AZ];show hl),e]at this;show(cV this).symm
def uZ{n:bb}(h:n∈cW p):∃i,i<p.length/\n=nm p i:=by
 let#[i,hi,e]:=F_ h;rw[AZ]at hi;apply#[i,hi,?_];have:=uO hi;rw[ca (by rw[AZ];show hi),e]at this;show cV this
def Bk{i:Nat}(h:i<p.length):nm p i∈cW p:=fh (uO h)
theorem DB{α:Type}{f:α->Bool}:∀{l:List α}{i:Nat}{a:α},l[i]? =some a->f a=true->(∀j b,j<i->l[j]? =some b->f b=false)->l.find? f=some a
 |[],i,a,h,_,_=>by simp at h
 |b::r,0,a,h,ha,_=>by
  have:b=a:=cV h;subst this;simp[ha]
 |b::r,i+1,a,h,ha,hn=>by
  have hb:=hn 0 b (Me _) rfl;rw[t_,hb];show DB (i:=i) h ha λj c hj hc=>hn (j+1) c () hc
def Dd(P:PG p){i:Nat}(hi:i<p.length):uo p (nm p i)=some (bx p i):=by
 unfold uo;apply DB (mo hi) (by simp[nm]) λj b hj hb=>?_;have AK:j<p.length:=by omega
 rw[mo AK]at hb;cases hb;rw[Nj];intro z;have:=mK P AK hi z;omega
def Y3{n:bb}(h:n∉cW p):uo p n=none:=by
 unfold uo;rw[LJ];intro b hb;simp![gO];intro z;show h (Ge.mpr #[b,hb,z])
def Y2(P:PG p)(n:bb):(n∉cW p/\uo p n=none)\/∃i,i<p.length/\n=nm p i/\uo p n=some (bx p i):=by
 by_cases h:n∈cW p
 let#[i,hi,rfl]:=uZ h;show .inr #[i,hi,rfl,Dd P hi];show .inl #[h,Y3 h]
def Ux(P:PG p){i:Nat}(hi:i<p.length):(p.takeWhile λb=>b.id != nm p i)=p.take i/\(p.dropWhile λb=>b.id != nm p i)=p.drop i:=by
 have key:∀(l:List Box)(k:Nat),(∀j b,j<k->l[j]? =some b->b.id≠nm p i)->(∃b,l[k]? =some b/\b.id=nm p i)->(l.takeWhile λb=>b.id != nm p i)=l.take k/\(l.dropWhile λb=>b.id != nm p i)=l.drop k:=by
  intro l;induction l with
  |nil=>rintro k _ ⟨b,h,_⟩;simp at h
  |cons a r ih=>
   intro k h1 h2;cases k with
   |zero=>
    let#[b,hb,e]:=h2;have:a=b:=cV hb;subst this;simp[e]
   |succ k=>
    have ha:=h1 0 a (Me _) rfl;have:=ih k (λj b hj hb=>h1 (j+1) b () hb) h2;have hne:(a.id != nm p i)=true:=by simpa using ha
    rw[L8,aq hne,VV,aq hne,this.1,this.2];show#[rfl,rfl]
 apply key p i (λj b hj hb z=>?_) #[_,mo hi,rfl];have AK:j<p.length:=by omega
 rw[mo AK]at hb;cases hb;have:=mK P AK hi z;omega
def jR{i j:Nat}(h:par p i=some j):j<i:=(u9 h).1
def yf{i j:Nat}(hi:i<p.length)(h:par p i=some j):(bx p j).deep<(bx p i).deep:=by
 have:=u9 h;rw[HQ ()]at this;omega
def Br(P:PG p){i:Nat}(hi:i<p.length):zp p (nm p i)=(par p i).map (nm p):=by
 unfold zp Vaacca.before;rw[Dd P hi,(Ux P hi).1];simp![de];rw[J2 (),Mh];rfl
theorem M'(P:PG p):∀(f:Nat){i:Nat},i<p.length->Xa p f (nm p i)=(lG p f i).map (nm p)
 |0,_,_=>rfl
 |f+1,i,hi=>by
  rw[Xa,Br P hi,lG];cases e:par p i with
  |none=>rfl
  |some j=>
   have:=jR e;simp![fA,ba];rw[M' P f ()]
def C8(P:PG p){i:Nat}(hi:i<p.length):Vaacca.around p (nm p i)=(g0 p i).map (nm p):=M' P _ hi
theorem M9:∀(f:Nat){i j:Nat},j∈lG p f i->j<i
 |0,_,_,h=>by cases h
 |f+1,i,j,h=>by
  rw[lG]at h;cases e:par p i with
  |none=>rw[e]at h;cases h
  |some k=>
   rw[e]at h;have:=jR e;rcases iM.mp h with z|z
   omega;have:=M9 f z;omega
def wS{i j:Nat}(h:j∈g0 p i):j<i:=M9 _ h
def wZ(P:PG p){l:List Nat}{i:Nat}(hl:∀j∈l,j<p.length)(hi:i<p.length):(l.map (nm p)).contains (nm p i)=l.contains i:=by
 rw[cw,lm,lm,Ge];show#[λ⟨j,hj,e⟩=>by rw[<-mK P (hl j hj) hi e];show hj,λh=>#[i,h,rfl]]
theorem JY{ds:List Int}{d:Int}:∀{n j:Nat},fW ds d n=some j->∀k,j<k->k<n->d<=ds.getD k 0
 |0,j,h=>by cases h
 |n+1,j,h=>by
  intro k hk hn;unfold fW at h;split at h;cases h;omega;rename_i aoF;by_cases e:k=n
  subst e;omega;show JY h k hk ()
def OW{α:Type}{f:α->Bool}{l:List α}(h:∀x∈l,f x=false):l.filter f=[]:=by
 rw[F2];intro x hx;rw[h x hx];show dh
def aiT{n i:Nat}(h:i<=n):bv n=bv i++(bv (n-i)).map λk=>i+k:=by
 conv=>lhs;rw[show n=i+(n-i) by omega,List.range_add]
def aaJ(p:aX)(i:Nat):p.drop i=(bv (p.length-i)).map λk=>bx p (i+k):=by
 apply m8;intro k;by_cases h:k<p.length-i
 rw[VZ,mo (),cx,mh h];rfl;rw[ig (by simp;omega),ig (by simp;omega)]
def QU(P:PG p){i:Nat}(hi:i<p.length):MR p (nm p i)=(pN p i).map (nm p):=by
 unfold MR Vaacca.insideOf;rw[Dd P hi];simp only;rw[(Ux P hi).2,vX];generalize hL:p.drop (i+1)=L;have Iz:L=(bv (p.length-(i+1))).map λk=>bx p (i+1+k):=by rw[<-hL];show aaJ p (i+1)
 have tail:∀b∈L.dropWhile (λx=>decide ((bx p i).deep<x.deep)),(zp p b.id==some (nm p i))=false:=by
  intro b hb;let#[t,ht,eb]:=F_ hb;have hsplit:=L7 (p:=λx:Box=>decide ((bx p i).deep<x.deep)) (l:=L);generalize hm:(L.takeWhile (λx=>decide ((bx p i).deep<x.deep))).length=m at*
  have aoF:L.dropWhile (λx=>decide ((bx p i).deep<x.deep))=L.drop m:=by
   conv=>rhs;rw[<-hsplit]
   rw[<-hm,LH]
  have hlen:(L.drop m).length=L.length-m:=jv;rw[aoF]at ht;have hLl:L.length=p.length-(i+1):=by rw[Iz];simp
  have g:∀k,k<L.length->L[k]? =some (bx p (i+1+k)):=λk hk=>by
   rw[Iz,cx,mh ()];rfl
  have abc:b=bx p (i+1+(m+t)):=by
   have h1:(L.drop m)[t]? =some b:=by
    rw[List.getElem?_eq_some_iff];show#[ht,by rw[<-eb];congr 1;show aoF.symm]
   rw[VZ,g (m+t) ()]at h1;show(cV h1).symm
  have he:¬(bx p i).deep<(bx p (i+1+m)).deep:=by
   have hne:L.dropWhile (λx=>decide ((bx p i).deep<x.deep))≠[]:=by
    intro z;rw[aoF]at z;rw[z]at ht;simp at ht
   have h1:=List.head_dropWhile_not (p:=λx:Box=>decide ((bx p i).deep<x.deep)) (l:=L) hne;have h2:(L.dropWhile (λx=>decide ((bx p i).deep<x.deep))).head hne=bx p (i+1+m):=by
    have:(L.drop m).head?=some (bx p (i+1+m)):=by rw[LR,g m ()]
    rw[<-aoF,List.head?_eq_some_head hne]at this;show cV this
   rw[h2]at h1;simpa using h1
  have hj:i+1+(m+t)<p.length:=by omega
  rw[abc,show(bx p (i+1+(m+t))).id=nm p (i+1+(m+t)) from rfl,Br P hj,Nj];intro z;cases q:par p (i+1+(m+t))with
  |none=>rw[q]at z;cases z
  |some k=>
   rw[q]at z;have hk:=jR q;have:=mK P () hi (cV z);subst this;have hdp:=yf hj q;cases t with
   |zero=>simp![Gj]at hdp;omega
   |succ t=>
    have:=JY q (k+1+m) () ();rw[HQ ()]at this;omega
 have e1:((L.takeWhile (λx=>decide ((bx p i).deep<x.deep))).map λx=>x.id).filter (λm=>zp p m==some (nm p i))=(L.map λx=>x.id).filter (λm=>zp p m==some (nm p i)):=by
  conv=>rhs;rw[<-L7 (p:=λx:Box=>decide ((bx p i).deep<x.deep)) (l:=L),cB,oH]
  rw[OW (l:=(L.dropWhile _).map _) (λx hx=>by
   let#[b,hb,rfl]:=Ge.mp hx;show tail b hb),eJ]
 rw[e1];unfold pN;rw[aiT (n:=p.length) (i:=i+1) (),oH,OW (l:=bv (i+1)) (λj hj=>by
  have:=Gg.mp hj;rw[o_];intro z;have:=jR z;omega),lq,Iz,bh,gG,gG,bh]
 show jx (λk=>nm p (i+1+k)) _=jx (λk=>nm p (i+1+k)) _;congr 1;apply ie;intro k hk;have hk:=Gg.mp hk;have hj:i+1+k<p.length:=by omega
 show(zp p (nm p (i+1+k))==some (nm p i))=decide (par p (i+1+k)=some i);rw[Br P hj,cw,gO,bw];cases q:par p (i+1+k)with
 |none=>simp
 |some j=>
  simp![fA,wk];have:=jR q;show#[λz=>mK P () hi z,λz=>by rw[z]]
end Pm
namespace Pm
open Vaacca (Kind Act What Box Rule Source Now)
variable{p:aX}
def xP(P:PG p){i:Nat}(h1:1<=i)(hi:i<p.length):1<=(bx p i).deep/\(bx p i).deep<=5/\∃j,par p i=some j/\nq (bx p i).kind (bx p j).kind=true:=by
 have h:=P.is;cases p with
 |nil=>simp at hi
 |cons b r=>
  have ip:ij (b::r)=(b.deep==0&&(b.kind==.page&&(!b.hidden&&(wC [.page] r&&(decide ((b::r).length<=GN)&&((b::r).all (λx=>decide (x.deep<=p_))&&(ml (cW (b::r))&&(b::r).all (kh (b::r))))))))):=rfl;rw[ip]at h;simp![bS]at h;let#[a1,a2,a3,a4,a5,a6,a7,a8]:=h;rw[JL r [b] [.page] (Ub b (by simpa using a1) (by simpa using a2))]at a4;have q:=Jt (p:=b::r) r.length 1 (by simp;omega) (bj _);rw[show(List.take 1 (b::r)).reverse=[b] from rfl,show List.drop 1 (b::r)=r from rfl]at q;rw[q,eW]at a4;have:=a4 (i-1) (Gg.mpr (by simp at hi;omega));rw[show 1+(i-1)=i by omega]at this;simp![bS,bw]at this;let#[t1,t2,t3]:=this;apply#[t1,?_,?_];have:=eW.mp a6 (bx (b::r) i) (fh (mo hi));show qR this;cases e:par (b::r) i with
  |none=>
   have e:fW (lK (b::r)) ((bx (b::r) i).deep:Int) i=none:=e;rw[e]at t3;cases t3
  |some j=>
   apply#[j,rfl,?_];have e:fW (lK (b::r)) ((bx (b::r) i).deep:Int) i=some j:=e;rw[e]at t3;show t3
def g8(P:PG p):0<p.length/\p.length<=16/\(bx p 0).deep=0/\(bx p 0).kind=.page:=by
 have h:=P.is;cases p with
 |nil=>simp[ij]at h
 |cons b r=>
  unfold ij at h;simp![bS]at h;let#[a1,a2,a3,a4,a5,a6,a7,a8]:=h;show#[by simp,qR a5,by simpa[bx]using a1,by simpa[bx]using a2]
def Du(P:PG p){i:Nat}(hi:i<p.length):(bx p i).deep<=5:=by
 by_cases h:i=0
 rw[h,(g8 P).2.2.1];omega;show(xP P () hi).2.1
def aie(P:PG p){i j:Nat}(hi:i<p.length)(h:par p i=some j):nq (bx p i).kind (bx p j).kind=true:=by
 have:=jR h;let#[_,_,j',e,f]:=xP P (i:=i) () hi;rw[h]at e;cases e;show f
def qj(P:PG p){i:Nat}(hi:i<p.length):SB (bx p i)/\kh p (bx p i)=true:=by
 have hm:=fh (mo hi);apply#[Bq P.is _ hm,?_];have h:=P.is;cases p with
 |nil=>simp at hi
 |cons b r=>
  unfold ij at h;simp![bS,eW]at h;show h.2.2.2.2.2.2.2 _ hm
def tF(P:PG p){i:Nat}(hi:i<p.length):(∀n∈(bx p i).by_,n∈cW p)/\(∀n∈(bx p i).hint,n∈cW p)/\(∀a∈(bx p i).press,a.id∈cW p):=by
 have h:=(qj P hi).2;unfold kh at h;simp![bS,eW]at h;let#[_,_,_,_,_,h6,_,h8,_,_,_,_,Is]:=h;show#[λn hn=>lm.mp (h6 n hn),λn hn=>lm.mp (h8 n hn),λa ha=>lm.mp (Is a ha)]
def iA(p:aX)(l:List bb):List Bool:=p.map λb=>l.contains b.id
def uM{l:List bb}{i:Nat}(hi:i<p.length):hb (iA p l) i=l.contains (nm p i):=by
 unfold hb iA;rw[cZ,cx,mo hi];rfl
def UZ(P:PG p)(w:Now){i:Nat}(hi:i<p.length):GQ p w (nm p i)=yG p (iA p w.hidden) i:=by
 unfold GQ yG;rw[lm.mpr (Bk hi),gp,C8 P hi,<-ba (f:=nm p),lj,V'];rw[cw,eW,eW];apply Pe λj=>QC λhj=>?_;have:j<p.length:=by
  rcases iM.mp hj with z|z
  omega;have:=wS z;omega
 simp![rn,uM this]
structure ck (m:MS)(s:zv):Prop where
 page:s.page=m.p
 rules:s.rules=m.rs
 pg:PG m.p
 ar:kg m.rs=true
 cj:m.cj=iA m.p s.now.hidden
 on:m.on=iA m.p s.now.on
 ho:s.now.hidden=iQ m.p s.now.hidden
 oo:s.now.on=iQ m.p s.now.on
 here:m.here<m.p.length
 hn:s.here=nm m.p m.here
section
variable{m:MS}{s:zv}(R:ck m s)
include R
def ck.env:Xu s=#[m.p,m.rs,s.now]:=by unfold Xu;rw[R.page,R.rules]
def ck.P2{i:Nat}(hi:i<m.p.length):hb m.cj i=s.now.hidden.contains (nm m.p i):=by rw[R.cj];show uM hi
def ck.RZ{i:Nat}(hi:i<m.p.length):hb m.on i=s.now.on.contains (nm m.p i):=by rw[R.on];show uM hi
def ck.Fk{i:Nat}(hi:i<m.p.length):GQ m.p s.now (nm m.p i)=l0 m i:=by
 unfold l0;rw[R.cj];show UZ R.pg _ hi
omit R in
def w_{p:aX}{f:Box->Bool}{g:Nat->Bool}(h:∀i,i<p.length->f (bx p i)=g i):(p.filter f).map (λb=>b.id)=((bv p.length).filter g).map (nm p):=by
 conv=>lhs;rw[J0 p]
 rw[gG,bh];show jx (nm p) _=_;congr 1;apply ie;intro i hi;show h i (Gg.mp hi)
def ck.modal:Xe m.p s.now=(iE m).map (nm m.p):=by
 unfold Xe iE;rw[w_ (g:=λi=>decide (kI m i=.modal)&&l0 m i) (λi hi=>?_),List.getLast?_map];show((bx m.p i).kind==Kind.modal&&GQ m.p s.now (nm m.p i))=_;rw[R.Fk hi];congr 1
omit R in
def mod_lt{i:Nat}(h:iE m=some i):i<m.p.length:=by
 unfold iE at h;have:=LX h;show Gg.mp (Gd.mp this).1
def ck.within{i:Nat}(hi:i<m.p.length):Xd m.p s.now (nm m.p i)=Fn m i:=by
 unfold Xd Fn;rw[R.modal];cases e:iE m with
 |none=>rfl
 |some k=>
  simp![fA];rw[C8 R.pg hi,wZ R.pg (λj hj=>by have:=wS hj;omega) (mod_lt e)]
def ck.box{i:Nat}(hi:i<m.p.length):Xj #[m.p,m.rs,s.now] (nm m.p i)=bx m.p i:=by
 unfold Xj;rw[show(#[m.p,m.rs,s.now]:Vaaccb.Env).page=m.p from rfl,Dd R.pg hi];rfl
def ck.rule{i:Nat}(hi:i<m.p.length):Xr #[m.p,m.rs,s.now] (nm m.p i)=e_ m i:=by
 unfold Xr;rw[R.box hi];rfl
def ck.alone{i:Nat}(hi:i<m.p.length):CN #[m.p,m.rs,s.now] (nm m.p i)=rT m i:=by
 unfold CN rT;simp only;rw[R.Fk hi,C8 R.pg hi,lj,V'];congr 1;rw[cw,eW,eW];apply Pe λj=>QC λhj=>?_;have:=wS hj;simp![rn];rw[R.rule ()]
def ck.near{i:Nat}(hi:i<m.p.length):CQ #[m.p,m.rs,s.now] (nm m.p i)=xZ m i:=by
 unfold CQ xZ;simp only;rw[R.modal];cases e:iE m with
 |none=>rfl
 |some k=>
  simp![fA];have hk:=mod_lt e;rw[C8 R.pg hi,wZ R.pg (λj hj=>by have:=wS hj;omega) hk,Cf];congr 1;rw[cw,gO,gO];show#[λz=>(mK R.pg hi hk z).symm,λz=>by rw[z]]
def ck.heardIds:MY #[m.p,m.rs,s.now]=((bv m.p.length).filter (nQ m)).map (nm m.p):=by
 unfold MY MZ Xq;simp only;rw[gG,bh,tZ];show jx (λb:Box=>b.id) _=_;apply w_ λi hi=>?_;show(CQ _ (nm m.p i)&&CN _ (nm m.p i))=_;rw[R.near hi,R.alone hi,Vi];rfl
def ck.cls{i c:Nat}(hi:i<m.p.length)(hc:c<7):XC #[m.p,m.rs,s.now] c (nm m.p i)=oX m c i:=by
 unfold XC oX;rw[R.box hi,R.rule hi]
 match c,hc with
 |0,_=>rfl
 |1,_=>rfl
 |2,_=>rfl
 |3,_=>rfl
 |4,_=>rfl
 |5,_=>rfl
 |6,_=>rfl
def ck.ofClass{c:Nat}(hc:c<7):XG #[m.p,m.rs,s.now] c=(dj m c).map (nm m.p):=by
 unfold XG dj;rw[R.heardIds,gG,tZ,tZ];congr 1;apply ie;intro i hi;have:=Gg.mp hi;simp![rn];rw[R.cls this hc,Vi]
omit R in
def AI{c i:Nat}(h:i∈dj m c):i<m.p.length:=by
 unfold dj at h;show Gg.mp (Gd.mp (Gd.mp h).1).1
def ck.place{i:Nat}(hi:i<m.p.length):Vaaccc.placeOf #[m.p,m.rs,s.now] (nm m.p i)=i:=qB R.pg hi
omit R in
theorem HX{α β:Type}{f:β->Bool}{g:α->β}:∀l:List α,(l.map g).find? f=((l.filter λx=>f (g x)).head?).map g
 |[]=>rfl
 |a::l=>by
  rw[ba,t_,gd];cases e:f (g a)with
  |true=>rfl
  |false=>simpa using HX l
def ck.next{i c:Nat}(hi:i<m.p.length)(hc:c<7):XF #[m.p,m.rs,s.now] c (nm m.p i)=(sI m c i).map (nm m.p):=by
 unfold XF sI;rw[R.ofClass hc,HX,R.place hi];congr 2;apply ie;intro j hj;rw[R.place (AI hj)]
def ck.prev{i c:Nat}(hi:i<m.p.length)(hc:c<7):XO #[m.p,m.rs,s.now] c (nm m.p i)=(tD m c i).map (nm m.p):=by
 unfold XO tD;rw[R.ofClass hc,<-List.map_reverse,HX,R.place hi,List.filter_reverse,List.head?_reverse];congr 2;apply ie;intro j hj;rw[R.place (AI hj)]
def ck.shown{i:Nat}(hi:i<m.p.length):MW #[m.p,m.rs,s.now] (nm m.p i)=(fb m i).map (nm m.p):=by
 unfold MW fb;simp only;rw[QU R.pg hi,gG];congr 1;apply ie;intro j hj;have:j<m.p.length:=Gg.mp (Gd.mp hj).1;simp![rn];rw[R.P2 this]
omit R in
def om{i j:Nat}(h:j∈fb m i):j<m.p.length/\par m.p j=some i/\hb m.cj j=false:=by
 unfold fb pN at h;have h1:=Gd.mp h;have h2:=Gd.mp h1.1;show#[Gg.mp h2.1,qR h2.2,by simpa using h1.2]
def ck.idx{n:bb}(h:n∈cW m.p):eA m n<m.p.length/\nm m.p (eA m n)=n:=by
 let#[i,hi,rfl]:=uZ h;unfold eA;rw[qB R.pg hi];show#[hi,rfl]
def ck.src{i:Nat}(hi:i<m.p.length){BX qC:bb->aE}{UD QH:Nat->aE}(ht:∀j,j<m.p.length->BX (nm m.p j)=UD j)(hk:∀j∈fb m i,qC (nm m.p j)=QH j)(x:Source):
  Xl #[m.p,m.rs,s.now] BX qC (nm m.p i) x=jW m UD QH i x:=by
 unfold Xl jW;rw[R.box hi];have hr:=tF R.pg hi;cases x with
 |by_=>
  show dU _=dU _;congr 1;apply fg λn hn=>?_;let#[h1,h2]:=R.idx (hr.1 n hn);rw[<-ht _ h1,h2]
 |label=>rfl
 |text=>rfl
 |kids=>
  simp only;rw[R.shown hi,bh];congr 1;show fg λj hj=>hk j hj
 |hint=>
  show dU _=dU _;congr 1;apply fg λn hn=>?_;let#[h1,h2]:=R.idx (hr.2.1 n hn);rw[<-ht _ h1,h2]
theorem ck.innerName:∀(f:Nat){i:Nat},i<m.p.length->Xn #[m.p,m.rs,s.now] f (nm m.p i)=lN m f i
 |0,_,_=>rfl
 |f+1,i,hi=>by
  rw[Xn,lN,R.rule hi];congr 2;funext x;show R.src hi (λ_ _=>rfl) (λj hj=>ck.innerName f (om hj).1) x
def ck.inner{i:Nat}(hi:i<m.p.length):Vaaccb.inner ⟨m.p,m.rs,s.now⟩ (nm m.p i)=dJ m i:=R.innerName _ hi
def ck.found{i:Nat}(hi:i<m.p.length):Xk ⟨m.p,m.rs,s.now⟩ (nm m.p i)=iT m i:=by
 unfold Xk iT;rw[R.rule hi];congr 1;funext x;show R.src hi (λj hj=>R.inner hj) (λj hj=>R.inner (om hj).1) x
def ck.name{i:Nat}(hi:i<m.p.length):MV ⟨m.p,m.rs,s.now⟩ (nm m.p i)=fP m i:=by
 unfold MV fP;rw[R.found hi]
def ck.hint{i:Nat}(hi:i<m.p.length):Xm ⟨m.p,m.rs,s.now⟩ (nm m.p i)=iB m i:=by
 unfold Xm iB;rw[R.found hi,R.box hi];congr 2;apply fg λn hn=>?_;let#[h1,h2]:=R.idx ((tF R.pg hi).2.1 n hn);rw[<-R.inner h1,h2]
def ck.said{i:Nat}(hi:i<m.p.length):CM (MU #[m.p,m.rs,s.now] (bx m.p i))=qY m i:=by
 unfold MU qY;rw[show(bx m.p i).id=nm m.p i from rfl,R.rule hi,R.name hi,R.hint hi];have e1:Xp #[m.p,m.rs,s.now] (nm m.p i)=iG m i:=by
  unfold Xp iG;rw[R.rule hi,R.found hi,R.box hi]
 have e2:Xo #[m.p,m.rs,s.now] (bx m.p i)=dR m i:=by
  unfold Xo dR;rw[show(bx m.p i).id=nm m.p i from rfl,<-R.RZ hi];rfl
 rw[e1,e2];rfl
def ck.ac0{i:Nat}(hi:i<m.p.length):M0 #[m.p,m.rs,s.now] (bx m.p i)=xj m i:=by
 unfold M0 xj yo;simp only;rw[show(bx m.p i).id=nm m.p i from rfl,R.Fk hi,R.within hi];rfl
def ck.focus:Xx #[m.p,m.rs,s.now]=(di m).map (nm m.p):=by
 have key:m.p.filter (M0 #[m.p,m.rs,s.now])=(iy m).map (bx m.p):=by
  unfold iy
  conv=>lhs;arg 2;rw[J0 m.p]
  rw[gG];congr 1;apply ie;intro i hi;show R.ac0 (Gg.mp hi)
 unfold Xx di;simp only;rw[key,cB,cB,Ck,Ck];congr 1;congr 1;funext k;rw[gG,bh];rfl;rw[gG,bh];rfl
def ck.Jq{i j:Nat}(h:j∈fb m i):nq (kI m j) (kI m i)=true:=aie R.pg (om h).1 (om h).2.1
def ck.ofKind{i:Nat}(hi:i<m.p.length){ks:List Kind}(hk:∀j∈fb m i,kI m j∈ks):XH ⟨m.p,m.rs,s.now⟩ ks (MR m.p (nm m.p i))=(fb m i).map (nm m.p):=by
 rw[<-R.shown hi];unfold XH MW;apply ie;intro n hn;simp only;cases hh:s.now.hidden.contains n with
 |true=>simp
 |false=>
  simp![ic,Bool.and_true];rw[QU R.pg hi]at hn;let#[j,hj,rfl]:=Ge.mp hn;have hj2:=Gd.mp hj;have hjl:=Gg.mp hj2.1;rw[R.box hjl];apply lm.mpr (hk j ?_);unfold fb;show Gd.mpr #[hj,by rw[R.P2 hjl,hh];rfl]
def ck.grid{t:Nat}(ht:t<m.p.length)(hk:kI m t=.table):Xz #[m.p,m.rs,s.now] (nm m.p t)=(dI m t).map (jx (nm m.p)):=by
 have Ic:∀a b:Kind,nq a b=true->(b=.table->a=.row)/\(b=.row->a=.cell\/a=.th):=by
  intro a b;cases a<;>cases b<;>decide
 unfold Xz dI;simp only;rw[R.ofKind ht (λj hj=>by rw[((Ic _ _ (R.Jq hj)).1 hk)];show bq),bh,bh];apply fg λr hr=>?_;have hrk:=(Ic _ _ (R.Jq hr)).1 hk;show R.ofKind (om hr).1 λj hj=>by
  rcases(Ic _ _ (R.Jq hj)).2 hrk with z|z<;>rw[z]<;>simp
def tN(p:aX)(x:Spot):Vaaccc.At:=#[x.grid.map (jx (nm p)),x.row,x.col]
omit R in
def Ir{t:Nat}{l:List Nat}(h:l∈dI m t):∀j∈l,j<m.p.length:=by
 let#[r,hr,rfl]:=Ge.mp h;show λj hj=>(om hj).1
def ck.Hr{i:Nat}(hi:i<m.p.length)(hk:kI m i=.cell\/kI m i=.th):∃r t,par m.p i=some r/\par m.p r=some t/\kI m t=.table/\r<m.p.length/\t<m.p.length:=by
 have Ie:∀a b:Kind,nq a b=true->(a=.cell\/a=.th)->b=.row:=by
  intro a b;cases a<;>cases b<;>decide
 have acU:∀b:Kind,nq .row b=true->b=.table:=by
  intro b;cases b<;>decide
 have h0:i≠0:=by
  rintro rfl;have:=(g8 R.pg).2.2.2;unfold kI at hk;rw[this]at hk;rcases hk with z|z<;>cases z
 let#[_,_,r,e1,f1]:=xP R.pg (i:=i) () hi;have hr:=jR e1;have k1:=Ie _ _ f1 hk;have h1:r≠0:=by
  rintro rfl;rw[(g8 R.pg).2.2.2]at k1;cases k1
 let#[_,_,t,e2,f2]:=xP R.pg (i:=r) () ();rw[k1]at f2;have:=jR e2;show#[r,t,e1,e2,acU _ f2,by omega,by omega]
omit R in
theorem OZ{α:Type}{f g:α->Bool}:∀{l:List α},(∀x∈l,f x=g x)->l.findIdx? f=l.findIdx? g
 |[],_=>rfl
 |a::l,h=>by
  rw[VX,VX,h a bq,OZ (l:=l) λx hx=>h x (bp _ hx)]
omit R in
theorem Ji(P:PG m.p){i:Nat}(hi:i<m.p.length):∀l:List Nat,(∀j∈l,j<m.p.length)->(l.map (nm m.p)).idxOf (nm m.p i)=l.idxOf i
 |[],_=>rfl
 |a::l,h=>by
  rw[ba,Ch,Ch,Ji P hi l λx hx=>h x (bp _ hx)];have:(nm m.p a==nm m.p i)=(a==i):=by
   rw[cw,gO,gO];show#[λz=>mK P (h a bq) hi z,λz=>by rw[z]]
  rw[this]
def ck.atOf{i:Nat}(hi:i<m.p.length)(hk:kI m i=.cell\/kI m i=.th):Xt #[m.p,m.rs,s.now] (nm m.p i)=(jp m i).map (tN m.p):=by
 let#[r,t,e1,e2,kt,hr,ht]:=R.Hr hi hk;unfold Xt Vaaccc.tableOf jp;simp only;rw[Br R.pg hi,e1];simp![fA,de];rw[Br R.pg hr,e2];simp![fA,de];rw[R.grid ht kt,List.findIdx?_map,OZ (f:=(λr:List bb=>r.contains (nm m.p i))∘jx (nm m.p)) (g:=λl=>l.contains i) (λl hl=>wZ R.pg (Ir hl) hi),Mh];congr 1;funext k;simp![rn,tN];congr 1;have e:((dI m t).map (jx (nm m.p))).getD k []=((dI m t).getD k []).map (nm m.p):=by
  rw[cZ,cx,cZ];cases(dI m t)[k]? <;>rfl
 rw[e,Ji R.pg hi];intro j hj;rw[cZ]at hj;cases q:(dI m t)[k]? with
 |none=>rw[q]at hj;cases hj
 |some l=>rw[q]at hj;show Ir (fh q) j hj
structure nk (m:MS)(x:Spot):Prop where
 lt:∀l∈x.grid,∀j∈l,j<m.p.length
omit R in
def zR(p:aX)(g:List (List Nat))(r c:Nat):MX (g.map (jx (nm p))) r c=(gQ g r c).map (nm p):=by
 unfold MX gQ;rw[cx];cases e:g[r]? with
 |none=>rfl
 |some l=>simp![fA,de];rw[cx]
omit R in
def rZ{x:Spot}(O:nk m x){r c j:Nat}(h:gQ x.grid r c=some j):j<m.p.length:=by
 unfold gQ at h;cases e:x.grid[r]? with
 |none=>rw[e]at h;cases h
 |some l=>
  rw[e]at h;show O.lt l (fh e) j (fh h)
def ck.isHead{i:Nat}(hi:i<m.p.length):XD #[m.p,m.rs,s.now] (nm m.p i)=vA m i:=by
 unfold XD vA;rw[R.box hi];rfl
def ck.heads{x:Spot}(O:nk m x):XA #[m.p,m.rs,s.now] (tN m.p x)=#[(fN m x).map (nm m.p),(fR m x).map (nm m.p)]:=by
 unfold XA fN fR tN;simp only;congr 1;have:((bv x.row).filterMap λi=>MX (x.grid.map (jx (nm m.p))) i x.col)=((bv x.row).filterMap λk=>gQ x.grid k x.col).map (nm m.p):=by
  rw[List.map_filterMap];congr 1;funext k;show zR _ _ _ _
 rw[this,gG];congr 1;apply ie;intro j hj;obtain⟨k,_,hk⟩:=List.mem_filterMap.mp hj;show R.isHead (rZ O hk);have e:(x.grid.map (jx (nm m.p))).getD x.row []=(x.grid.getD x.row []).map (nm m.p):=by
  rw[cZ,cx,cZ];cases x.grid[x.row]? <;>rfl
 rw[e,<-LW,gG];congr 1;apply ie;intro j hj;apply R.isHead ?_;have hj:=Gf hj;rw[cZ]at hj;cases q:x.grid[x.row]? with
 |none=>rw[q]at hj;cases hj
 |some l=>rw[q]at hj;show O.lt l (fh q) j hj
omit R in
def YX(p:aX)(x:Spot){d:Nat}(aoF:d<4):XE (tN p x) d=(nB x d).map (nm p):=by
 unfold XE nB tN;simp only
 match d,aoF with
 |0,_=>simp only;split;rfl;show zR _ _ _ _
 |1,_=>show zR _ _ _ _
 |2,_=>simp only;split;rfl;show zR _ _ _ _
 |3,_=>show zR _ _ _ _
def ck.sentence{x:Spot}(O:nk m x){i:Nat}(hi:i<m.p.length):XQ #[m.p,m.rs,s.now] (tN m.p x) (nm m.p i)=vk m x i:=by
 unfold XQ vk;simp only;rw[R.heads O];simp only;rw[<-cB,show([nm m.p i]:List bb)=[i].map (nm m.p) from rfl,<-cB,bh];congr 1;apply fg λj hj=>R.name ?_;simp![wa,List.mem_singleton]at hj;rcases hj with(h|h)|h
 unfold fN at h;let#[k,_,hk]:=List.mem_filterMap.mp (Gd.mp h).1;show rZ O hk;unfold fR at h;have h:=Gf (Gd.mp h).1;rw[cZ]at h;cases q:x.grid[x.row]? with
 |none=>rw[q]at h;cases h
 |some l=>rw[q]at h;show O.lt l (fh q) j h
 rw[h];show hi
omit R in
def T5{i:Nat}{x:Spot}(h:jp m i=some x):nk m x:=by
 unfold jp at h;cases e1:par m.p i with
 |none=>rw[e1]at h;cases h
 |some r=>
  rw[e1]at h;simp![de]at h;cases e2:par m.p r with
  |none=>rw[e2]at h;cases h
  |some t=>
   rw[e2]at h;simp![de]at h;let#[k,_,rfl]:=Option.map_eq_some_iff.mp h;show#[λl hl=>Ir hl]
end
end Pm
namespace Pm
open Vaacca (Kind Act What Box Rule Source Now)
def tI(t:aE):List Int:=(t.length:Int)::t.map λb=>(b.toNat:Int)
def vB(l:List aE):List Int:=(l.length:Int)::l.flatMap tI
def jM(m:MS)(l:List Nat):List Int:=vB (l.map (nm m.p))
def pf(m:MS)(x:Option Nat):List Int:=match x with
 |none=>[0]
 |some i=>1::tI (nm m.p i)
def vd(m:MS)(t:aE):Option Nat:=if (cW m.p).contains t=true then some (eA m t)else none
abbrev eK:=Except Nat (MS×List Int)
def gb(m:MS)(t:aE)(f:Nat->eK):eK:=match vd m t with
 |none=>.error 3
 |some i=>f i
def mP(c:Int)(g:Int)(f:Nat->eK):eK:=if c<0\/g<c then .error 2 else f c.toNat
def sO(m:MS)(t:aE)(f:Nat->Spot->eK):eK:=gb m t λi=>if decide (kI m i=.cell)||decide (kI m i=.th)then(match jp m i with
 |none=>.error 6
 |some x=>f i x)else .error 5
def xn(m:MS)(x:Option Nat):eK:=match x with
 |none=>.ok (m,[0])
 |some i=>.ok ({ m with here:=i },1::(tI (nm m.p i)++tI (qY m i)))
def stepI(m:MS)(i k:Nat):eK:=if (di m).contains i=true then .ok (m,tI (nm m.p ((di m).getD (((di m).idxOf i+k)%(di m).length) 0)))else .error 6
def bK(m:MS):CO->eK
 | .page t=>match oQ t with
  |none=>.error 1
  |some p=>.ok (#[p,m.rs,p.map λb=>b.hidden,p.map λb=>b.on,0],[(p.length:Int)])
 | .rules t=>match nu t with
  |none=>.error 1
  |some l=>.ok ({ m with rs:=l },[((l.filter λr=>r.focus).length:Int)])
 | .press t=>gb m t λi=>if pc m i=false then .error 5 else if qk m i=false then .error 6 else
  .ok ({ m with cj:=qz m i,on:=mO m i },[((qz m i).count true:Int),((mO m i).count true:Int)])
 | .focus=>.ok (m,jM m (di m))
 | .tab t=>gb m t λi=>stepI m i 1
 | .back t=>gb m t λi=>stepI m i ((di m).length-1)
 | .next c t=>mP c 6 λk=>gb m t λi=>.ok (m,pf m (sI m k i))
 | .prev c t=>mP c 6 λk=>gb m t λi=>.ok (m,pf m (tD m k i))
 | .outline=>.ok (m,((dj m 1).length:Int)::(dj m 1).flatMap λi=>(d9 (kI m i):Int)::(tI (nm m.p i)++tI (fP m i)))
 | .grid t=>gb m t λi=>if kI m i=.table then .ok (m,((dI m i).length:Int)::(dI m i).flatMap (jM m))else .error 5
 | .heads t=>sO m t λ_ x=>.ok (m,jM m (fN m x)++jM m (fR m x))
 | .move d t=>mP d 3 λk=>sO m t λ_ x=>.ok (m,pf m (nB x k))
 | .sentence t=>sO m t λi x=>.ok (m,tI (vk m x i))
 | .escape=>match iE m with
  |none=>.ok (m,[0])
  |some k=>.ok (m,pf m (some k)++jM m ((bv m.p.length).filter (sX m k)))
 | .here=>.ok (m,tI (nm m.p m.here)++[if nQ m m.here=true then 1 else 0])
 | .go c=>mP c 6 λk=>xn m (sI m k m.here)
 | .goBack c=>mP c 6 λk=>xn m (tD m k m.here)
 | .size=>.ok (m,[((dj m 0).length:Int),((di m).length:Int),((dj m 1).length:Int)])
def agk(m:MS)(i j:Nat):Prop:=(bx m.p i).order<(bx m.p j).order\/((bx m.p i).order=(bx m.p j).order/\i<j)
def Ky{l m:List Nat}(h:l.Sublist m)(hm:m.Pairwise (· < ·)):l.Pairwise (· < ·):=hm.sublist h
def Pa(m:MS):(iy m).Pairwise (· < ·):=Ky t9 List.pairwise_lt_range
theorem Nv(m:MS)(l:List Nat)(hl:l.Pairwise (· < ·)):∀k,((bv k).flatMap λk=>l.filter λi=>(bx m.p i).order==k+1).Pairwise (agk m)/\∀i∈(bv k).flatMap (λk=>l.filter λi=>(bx m.p i).order==k+1),1<=(bx m.p i).order/\(bx m.p i).order<=k
 |0=>#[ang,nofun]
 |k+1=>by
  let#[h1,h2]:=Nv m l hl k;rw[wc,vZ,gh,oI,eJ];have h3:∀i∈l.filter (λi=>(bx m.p i).order==k+1),(bx m.p i).order=k+1:=λi hi=>by simpa using(Gd.mp hi).2
  apply#[List.pairwise_append.mpr #[h1,?_,λa ha b hb=>.inl ?_],λi hi=>?_];apply VM (R:=(· < ·)) (λ{a b} ha hb hab=>.inr #[?_,hab]) (Ky t9 hl);rw[h3 a ha,h3 b hb];have:=(h2 a ha).2;rw[h3 b hb];omega;rcases wa.mp hi with z|z
  have:=h2 i z;omega;rw[h3 i z];omega
def Pd(m:MS):(di m).Nodup:=by
 unfold di;let#[h1,h2]:=Nv m (iy m) (Pa m) 9;apply List.nodup_append.mpr #[?_,?_,?_];apply h1.imp λ{a b} h z=>?_;subst z;obtain y|y:=h
 show iO _ y;show iO _ y.2;show(Ky t9 (Pa m)).imp λ{a b} h=>dZ h;intro a ha b hb z;subst z;have h3:(bx m.p a).order=0:=by simpa using(Gd.mp hb).2
 have:=(h2 a ha).1;omega
def uI{m:MS}{i:Nat}(h:i∈di m):i<m.p.length:=by
 unfold di at h;have:i∈iy m:=by
  rcases wa.mp h with z|z
  let#[k,_,z]:=List.mem_flatMap.mp z;show(Gd.mp z).1;show(Gd.mp z).1
 show Gg.mp (Gd.mp this).1
theorem OG{α:Type}[BEq α][LawfulBEq α]{n:α}:∀l:List α,l.dropWhile (λm=>m != n)=l.drop (l.idxOf n)
 |[]=>rfl
 |a::l=>by
  rw[VV,Ch];cases e:a==n with
  |true=>simp[bne,e]
  |false=>simp[bne,e];show OG l
def M6{l:List bb}{n:bb}(h:n∈l):CP l n=l[(l.idxOf n+1)%l.length]? :=by
 unfold CP;rw[aq (lm.mpr h),OG,vX];have hl:=v9 h;by_cases e:l.idxOf n+1<l.length
 rw[ue e,FZ e,ca e];have e2:l.idxOf n+1=l.length:=by omega
 rw[e2,Nat.mod_self,LI,V3]
def afu{l:List bb}(nd:l.Nodup){n:bb}(h:n∈l):l.reverse.idxOf n=l.length-1-l.idxOf n:=by
 have hl:=v9 h;have hr:n∈l.reverse:=List.mem_reverse.mpr h;have hl2:=v9 hr;have e:=Cg hl2;have e1:=Cg hl;rw[V8]at hl2;rw[List.getElem_reverse]at e;have:=(LP nd).mp (e.trans e1.symm);omega
def X'{l:List bb}(nd:l.Nodup){n:bb}(h:n∈l):CP l.reverse n=l[(l.idxOf n+(l.length-1))%l.length]? :=by
 rw[M6 (List.mem_reverse.mpr h),afu nd h,V8];have hl:=v9 h;generalize l.idxOf n=k at*
 by_cases e:k=0
 subst e;rw[Gp,show l.length-1-0+1=l.length by omega,Nat.mod_self,ue (),V2 (),Go];rw[show l.length-1-k+1=l.length-k by omega,ue (),V2 (),show k+(l.length-1)=(k-1)+l.length by omega,Nat.add_mod_right,ue ()];congr 1;omega
def pQ(t:aE):tI t=(MT t).map λ(n:Nat)=>(n:Int):=by
 unfold tI MT;rw[ba,bh];rfl
def BZ(l:List aE):vB l=(Xf l).map λ(n:Nat)=>(n:Int):=by
 unfold vB Xf;rw[ba,Ck];congr 2;funext t;show pQ t
def Ij(m:MS)(x:Option Nat):pf m x=(XS (x.map (nm m.p))).map λ(n:Nat)=>(n:Int):=by
 cases x with
 |none=>rfl
 |some i=>simp![pf,fA,XS,ba,pQ];rfl
def Rs{p:aX}{l:List bb}{n:bb}(h:n∈cW p):(iQ p l).contains n=l.contains n:=by
 unfold iQ;rw[cw,lm,Gd];show#[λz=>z.2,λz=>#[h,z]]
def afw(p:aX)(l:List bb):iQ p (iQ p l)=iQ p l:=by
 conv=>lhs;unfold iQ
 conv=>rhs;unfold iQ
 apply ie;intro n hn;show Rs hn
def P4{p:aX}{a b:List Bool}(ha:a.length=p.length)(cA:b.length=p.length)(h:∀i,i<p.length->hb a i=hb b i):a=b:=by
 apply List.ext_getElem ();intro i h1 h2;have:=h i ();unfold hb at this;rw[cZ,cZ,ca h1,ca h2]at this;show this
def DR(p:aX)(l:List bb):(iA p l).length=p.length:=aD _
def adF{l:List Bool}{i j:Nat}{v:Bool}(hj:j<l.length):hb (l.set j v) i=if i=j then v else hb l i:=by
 unfold hb;rw[cZ,cZ,F9];by_cases h:j=i
 subst h;simp[hj];rw[ay h,ay (λz=>h z.symm)]
def UL{p:aX}(P:PG p){l:List bb}{n:bb}{yes:Bool}(h:n∈cW p):iA p (wG p l n yes)=(iA p l).set ((cW p).idxOf n) yes:=by
 let#[k,hk,rfl]:=uZ h;rw[qB P hk];apply P4 (p:=p) (DR _ _) (by rw[v_];show DR _ _) λi hi=>?_;rw[uM hi,adF (by rw[DR];show hk),uM hi];unfold wG;rw[Rs (Bk hi)];cases yes with
 |true=>
  simp![bz,Cf];by_cases e:i=k
  rw[aq e,e];simp;rw[ay e];have:(nm p i==nm p k)=false:=by rw[Nj];show λz=>e (mK P hi hk z)
  rw[this,FG]
 |false=>
  simp![bT,bI];by_cases e:i=k
  rw[aq e,e,vM];intro z;have:=(Gd.mp (lm.mp z)).2;simp at this;rw[ay e,cw,lm,lm,Gd];show#[λz=>z.1,λz=>#[z,by simpa using λy=>e (mK P hi hk y)]]
def UM(p:aX)(l:List bb)(n:bb)(yes:Bool):wG p l n yes=iQ p (wG p l n yes):=by
 unfold wG;rw[afw]
def NO{p:aX}{l:List bb}(h:l=iQ p l):(iA p l).count true=l.length:=by
 conv=>rhs;rw[h]
 unfold iA iQ cW;rw[gG,aD,List.count,VT,List.countP_eq_length_filter];congr 1;apply ie;intro b _;simp
section
variable{m:MS}{s:zv}(R:ck m s)
include R
def ck.b7(l:List Act)(hl:∀a∈l,a.id∈cW m.p):∀(w:Now),w.hidden=iQ m.p w.hidden->
  iA m.p (l.foldl (wz m.p) w).hidden=l.foldl (lF m) (iA m.p w.hidden)/\(l.foldl (wz m.p) w).on=w.on/\(l.foldl (wz m.p) w).hidden=iQ m.p (l.foldl (wz m.p) w).hidden:=by
 induction l with
 |nil=>show λw hw=>#[rfl,rfl,hw]
 |cons a l ih=>
  intro w hw;have ha:=hl a bq;rw[v0,v0];have e:iA m.p (wz m.p w a).hidden=lF m (iA m.p w.hidden) a:=by
   unfold wz lF;simp only;rw[UL R.pg ha];have hx:=R.idx ha;unfold eA at hx⊢;congr 1;cases a.what with
   |show_=>rfl
   |hide=>rfl
   |flip=>simp only;rw[uM hx.1,hx.2]
  have:=ih (λx hx=>hl x (bp _ hx)) (wz m.p w a) (UM _ _ _ _);rw[e]at this;show#[this.1,this.2.1,this.2.2]
def ck.pressed{i:Nat}(hi:i<m.p.length):iA m.p (wD m.p s.now (bx m.p i)).hidden=qz m i/\iA m.p (wD m.p s.now (bx m.p i)).on=mO m i/\
  (wD m.p s.now (bx m.p i)).hidden=iQ m.p (wD m.p s.now (bx m.p i)).hidden/\(wD m.p s.now (bx m.p i)).on=iQ m.p (wD m.p s.now (bx m.p i)).on:=by
 unfold wD qz;rw[R.cj];by_cases hc:(bx m.p i).kind=.check
 rw[aq hc];let#[a1,a2,a3]:=R.b7 (bx m.p i).press (tF R.pg hi).2.2 { s.now with on:=wG m.p s.now.on (bx m.p i).id (!s.now.on.contains (bx m.p i).id) } R.ho;apply#[a1,?_,a3,by rw[a2];show UM _ _ _ _];rw[a2];show iA m.p (wG m.p s.now.on (nm m.p i) (!s.now.on.contains (nm m.p i)))=_;rw[UL R.pg (Bk hi),qB R.pg hi];unfold mO;rw[aq (show kI m i=.check from hc),R.RZ hi,R.on];rw[ay hc];let#[a1,a2,a3]:=R.b7 (bx m.p i).press (tF R.pg hi).2.2 s.now R.ho;apply#[a1,?_,a3,by rw[a2];show R.oo];rw[a2];unfold mO;rw[ay (show ¬kI m i=.check from hc),R.on]
def ck.OF{i:Nat}(hi:i<m.p.length):((bx m.p i).kind==.check||(wA (bx m.p i).kind&& !(bx m.p i).press.isEmpty))=pc m i:=by
 have h:=(qj R.pg hi).2;unfold kh at h;simp![bS,ox]at h;have h12:=h.2.2.2.2.2.2.2.2.2.2.2.1;unfold pc;show((bx m.p i).kind==.check||_)=((bx m.p i).kind==.check|| !(bx m.p i).press.isEmpty);congr 1;obtain z|z:=h12
 rw[z];simp;rw[z,gp]
def ck.NC{i:Nat}(hi:i<m.p.length):Xc m.p s.now (bx m.p i)=qk m i:=by
 unfold Xc qk yo;rw[R.OF hi,show(bx m.p i).id=nm m.p i from rfl,R.Fk hi,R.within hi]
def ck.abj{k:Nat}(hk:iE m=some k):Xv #[m.p,m.rs,s.now]=((bv m.p.length).filter (sX m k)).map (nm m.p):=by
 unfold Xv;simp only;rw[R.modal,hk];simp![fA];apply w_ λi hi=>?_;rw[R.NC hi,UZ R.pg _ (mod_lt hk),(R.pressed hi).1];rfl
def ck.outline:XN #[m.p,m.rs,s.now]=(dj m 1).map λi=>#[d9 (kI m i),nm m.p i,fP m i]:=by
 unfold XN MZ Xq;simp only;rw[gG,gG,bh,tZ,tZ]
 conv=>lhs;arg 2;arg 2;rw[J0 m.p]
 rw[gG,bh];unfold dj;rw[tZ];have e1:(bv m.p.length).filter ((λb:Box=>(decide (0<d9 b.kind)&&CQ #[m.p,m.rs,s.now] b.id)&&CN #[m.p,m.rs,s.now] b.id)∘bx m.p)=(bv m.p.length).filter (λa=>nQ m a&&oX m 1 a):=by
  apply ie;intro i hi;have hi:=Gg.mp hi;show((decide (0<d9 (kI m i))&&CQ _ (nm m.p i))&&CN _ (nm m.p i))=((rT m i&&xZ m i)&&decide (0<d9 (kI m i)));rw[R.near hi,R.alone hi];generalize decide (0<d9 (kI m i))=a;generalize xZ m i=b;generalize rT m i=c;revert a b c;decide
 have e2:∀l:List Nat,(∀i∈l,i<m.p.length)->l.map (((λh:Xi=>(#[h.level,h.id,h.name]:Xs))∘MU #[m.p,m.rs,s.now])∘bx m.p)=l.map λi=>#[d9 (kI m i),nm m.p i,fP m i]:=by
  intro l hl;apply fg λi hi=>?_;show(#[d9 (bx m.p i).kind,(bx m.p i).id,MV _ (nm m.p i)]:Xs)=_;rw[R.name (hl i hi)];rfl
 apply Eq.trans ?_ (e2 _ λi hi=>Gg.mp (Gd.mp hi).1);congr 1
def ck.pl(t:aE):(uo m.p t=none/\vd m t=none)\/∃i,i<m.p.length/\t=nm m.p i/\uo m.p t=some (bx m.p i)/\vd m t=some i:=by
 rcases Y2 R.pg t with⟨h1,h2⟩|⟨i,hi,rfl,h2⟩
 apply .inl #[h2,?_];unfold vd;rw[ay (λz=>h1 (lm.mp z))];apply .inr #[i,hi,rfl,h2,?_];unfold vd eA;rw[aq (lm.mpr (Bk hi)),qB R.pg hi]
end
def Agree(x:eK)(y:GZ):Prop:=match x with
 | .ok z=>∃s' l',y=.ok (s',l')/\ck z.1 s'/\z.2=l'.map λ(n:Nat)=>(n:Int)
 | .error n=>y=.error n
section
variable{m:MS}{s:zv}(R:ck m s)
include R
omit R in
def il{m':MS}{s':zv}{l:List Int}{l':List Nat}(R':ck m' s')(h:l=l'.map λ(n:Nat)=>(n:Int)):Agree (.ok (m',l)) (.ok (s',l')):=#[s',l',rfl,R',h]
def ck.gb(t:aE){f:Nat->eK}{g:Box->GZ}(h:∀i,i<m.p.length->t=nm m.p i->Agree (f i) (g (bx m.p i))):Agree (gb m t f) (XI s t g):=by
 unfold Pm.gb XI;rw[R.page];rcases R.pl t with⟨h1,h2⟩|⟨i,hi,rfl,h1,h2⟩
 rw[h1,h2];rfl;rw[h1,h2];show h i hi rfl
omit R in
def CZ(c:Int){f:Nat->eK}{g:Nat->GZ}(h:∀k,k<7->Agree (f k) (g k)):Agree (mP c 6 f) (XM c g):=by
 unfold mP XM;have:Vaaccc.CLASSES=7:=rfl;by_cases hc:c<0\/(6:Int)<c
 rw[aq hc,aq (by rw[this];omega)];rfl;rw[ay hc,ay (by rw[this];omega)];show h c.toNat ()
def ck.onCell(t:aE){f:Nat->Spot->eK}{g:Vaaccc.At->GZ}(h:∀i x,i<m.p.length->t=nm m.p i->nk m x->Agree (f i x) (g (tN m.p x))):Agree (sO m t f) (XJ s t g):=by
 unfold sO XJ;apply R.gb t λi hi e=>?_;have ek:((bx m.p i).kind==Kind.cell||(bx m.p i).kind==Kind.th)=(decide (kI m i=.cell)||decide (kI m i=.th)):=rfl;rw[ek];cases hc:(decide (kI m i=.cell)||decide (kI m i=.th))with
 |false=>simp![bT,bI,bz];rfl
 |true=>
  simp![bz,Bool.true_eq_false,bI];have hk:kI m i=.cell\/kI m i=.th:=by simpa using hc
  rw[R.env,e,R.atOf hi hk];cases q:jp m i with
  |none=>rfl
  |some x=>show h i x hi e (T5 q)
def ck.step{i k:Nat}(hi:i<m.p.length)(y:Option bb)(hy:nm m.p i∈(di m).map (nm m.p)->y=((di m).map (nm m.p))[(((di m).map (nm m.p)).idxOf (nm m.p i)+k)%((di m).map (nm m.p)).length]?)(hn:nm m.p i∉(di m).map (nm m.p)->y=none):
  Agree (stepI m i k) (Vaaccc.given y 6 λz=>Vaaccc.tell s (MT z)):=by
 unfold stepI;have hm:(nm m.p i∈(di m).map (nm m.p))↔(di m).contains i=true:=by
  rw[<-lm,wZ R.pg (λj hj=>uI hj) hi]
 by_cases h:(di m).contains i=true
 rw[aq h,hy (hm.mpr h),Ji R.pg hi _ (λj hj=>uI hj),aD,cx];have hne:0<(di m).length:=V6 (lm.mp h);have hlt:=Nat.mod_lt ((di m).idxOf i+k) hne;rw[ca hlt,cZ,ca hlt];show il R (pQ _);rw[ay h,hn (λz=>h (hm.mp z))];rfl
def ck.goTo(x:Option Nat)(hx:∀i,x=some i->i<m.p.length):Agree (xn m x) (Xy s (x.map (nm m.p))):=by
 cases x with
 |none=>show il R rfl
 |some i=>
  have hi:=hx i rfl;unfold xn Xy;simp![fA];rw[R.env,R.box hi,R.said hi];apply il ?_ ?_;show#[R.page,R.rules,R.pg,R.ar,R.cj,R.on,R.ho,R.oo,hi,rfl];rw[pQ,pQ,ba,cB];rfl
omit R in
def JN{c i j:Nat}(h:sI m c i=some j):j<m.p.length:=by
 unfold sI at h;show AI (Gd.mp (List.mem_of_head? h)).1
omit R in
def J_{c i j:Nat}(h:tD m c i=some j):j<m.p.length:=by
 unfold tD at h;show AI (Gd.mp (LX h)).1
omit R in
def O0{p:aX}(P:PG p)(f:Box->Bool):(p.map f)=iA p ((p.filter f).map λb=>b.id)/\((p.filter f).map λb=>b.id)=iQ p ((p.filter f).map λb=>b.id):=by
 have h:∀i,i<p.length->((p.filter f).map λb=>b.id).contains (nm p i)=f (bx p i):=by
  intro i hi;rw[w_ (g:=λi=>f (bx p i)) (λi _=>rfl),wZ P (λj hj=>Gg.mp (Gd.mp hj).1) hi,cw,lm,Gd];show#[λz=>z.2,λz=>#[Gg.mpr hi,z]]
 constructor;apply P4 (p:=p) (aD _) (DR _ _) λi hi=>?_;rw[uM hi,h i hi];unfold hb;rw[cZ,cx,mo hi];rfl;rw[w_ (p:=p) (g:=λi=>f (bx p i)) (λi _=>rfl)]
 conv=>rhs;unfold iQ;rw[afs,gG]
 congr 1;apply ie;intro i hi;have hi:=Gg.mp hi;rw[<-w_ (p:=p) (g:=λi=>f (bx p i)) (λi _=>rfl)];show(h i hi).symm
omit R in
def S0{t:aE}{l:cD}(h:nu t=some l):kg l=true:=by
 unfold nu at h;cases e:wB t with
 |none=>rw[e]at h;cases h
 |some ls=>
  rw[e]at h;simp![de]at h;cases e2:oO (ls.map zq)with
  |none=>rw[e2]at h;cases h
  |some q=>
   rw[e2]at h;simp![de]at h;split at h;rename_i hc;cases h;rw[bS]at hc;show hc.1;cases h
def Ya(c:CO):Agree (bK m c) (gZ s c):=by
 cases c with
 |page t=>
  rw[bK,gZ];cases e:oQ t with
  |none=>rfl
  |some p=>
   have P:=EE (JZ e).1;apply il ?_ rfl;let#[a1,a2]:=O0 P λb=>b.hidden;let#[b1,b2]:=O0 P λb=>b.on;apply#[rfl,R.rules,P,R.ar,a1,b1,a2,b2,(g8 P).1,?_];show Xw p=nm p 0;unfold Xw nm;cases p with
   |nil=>show absurd rfl (J1 P.is)
   |cons b r=>rfl
 |rules t=>
  rw[bK,gZ];cases e:nu t with
  |none=>rfl
  |some l=>show il #[R.page,rfl,R.pg,S0 e,R.cj,R.on,R.ho,R.oo,R.here,R.hn] rfl
 |press t=>
  rw[bK,gZ];unfold Vaaccc.doPress Vaacca.doPress;simp only;rw[R.page];unfold gb;rcases R.pl t with⟨h1,h2⟩|⟨i,hi,rfl,h1,h2⟩
  rw[h1,h2];rfl;rw[h1,h2];simp![Vaacca.given];rw[R.OF hi,R.NC hi];by_cases aoF:pc m i=false
  rw[aq aoF,aq aoF];rfl;rw[ay aoF,ay aoF];by_cases hc:qk m i=false
  rw[aq hc,aq hc];rfl;rw[ay hc,ay hc];let#[p1,p2,p3,p4]:=R.pressed hi;apply il #[rfl,R.rules,R.pg,R.ar,p1.symm,p2.symm,p3,p4,R.here,R.hn] ?_;rw[<-p1,<-p2,NO p3,NO p4];rfl
 |focus=>
  rw[bK,gZ];rw[R.env,R.focus];show il R (BZ _)
 |tab t=>
  rw[bK,gZ];apply R.gb t λi hi _=>?_;rw[R.env,show(bx m.p i).id=nm m.p i from rfl];unfold Vaaccc.tabOf;rw[R.focus];apply R.step hi _ (λh=>M6 h) λh=>?_;unfold CP;rw[ay (λz=>h (lm.mp z))]
 |back t=>
  rw[bK,gZ];apply R.gb t λi hi _=>?_;rw[R.env,show(bx m.p i).id=nm m.p i from rfl];unfold Vaaccc.backOf;rw[R.focus];apply R.step hi _ (λh=>?_) λh=>?_;rw[X' ?_ h,aD];apply anf _ (λa b h=>h) (VM (R:=(· ≠·)) (λ{a b} ha cA hab=>?_) (Pd m));show λz=>hab (mK R.pg (uI ha) (uI cA) z);unfold CP;rw[ay (λz=>h (List.mem_reverse.mp (lm.mp z)))]
 |next c t=>
  rw[bK,gZ];apply CZ c λk hk=>R.gb t λi hi _=>?_;rw[R.env,show(bx m.p i).id=nm m.p i from rfl,R.next hi hk];show il R (Ij _ _)
 |prev c t=>
  rw[bK,gZ];apply CZ c λk hk=>R.gb t λi hi _=>?_;rw[R.env,show(bx m.p i).id=nm m.p i from rfl,R.prev hi hk];show il R (Ij _ _)
 |outline=>
  rw[bK,gZ];rw[R.env,R.outline];apply il R ?_;rw[aD,ba,F3,Ck];congr 2;funext i;rw[ba,cB,pQ,pQ]
 |grid t=>
  rw[bK,gZ];apply R.gb t λi hi e=>?_;by_cases hk:kI m i=.table
  rw[aq hk,ay (show ¬(bx m.p i).kind≠.table from λz=>z hk),R.env,e,R.grid hi hk];apply il R ?_;rw[aD,ba,F3,Ck];congr 2;funext l;show BZ _;rw[ay hk,aq (show(bx m.p i).kind≠.table from hk)];rfl
 |heads t=>
  rw[bK,gZ];apply R.onCell t λi x hi e O=>?_;simp only;rw[R.env,R.heads O];apply il R ?_;simp only;rw[cB];unfold jM;rw[BZ,BZ]
 |move d t=>
  rw[bK,gZ];unfold mP;by_cases aoF:d<0\/3<d
  rw[aq aoF,aq aoF];rfl;rw[ay aoF,ay aoF];apply R.onCell t λi x hi e O=>?_;rw[YX _ _ ()];show il R (Ij _ _)
 |sentence t=>
  rw[bK,gZ];apply R.onCell t λi x hi e O=>?_;rw[R.env,e,R.sentence O hi];show il R (pQ _)
 |escape=>
  rw[bK,gZ];rw[R.page,R.modal,R.env];cases e:iE m with
  |none=>show il R rfl
  |some k=>
   simp![fA];rw[R.abj e];apply il R ?_;rw[ba,cB];unfold jM;rw[show pf m (some k)=1::tI (nm m.p k) from rfl,pQ,BZ];rfl
 |here=>
  rw[bK,gZ];rw[R.env,R.hn,R.heardIds];apply il R ?_;rw[cB,pQ,wZ R.pg (λj hj=>Gg.mp (Gd.mp hj).1) R.here];congr 1;have:((bv m.p.length).filter (nQ m)).contains m.here=nQ m m.here:=by
   rw[cw,lm,Gd];show#[λz=>z.2,λz=>#[Gg.mpr R.here,z]]
  rw[this];cases nQ m m.here<;>rfl
 |go c=>
  rw[bK,gZ];apply CZ c λk hk=>?_;rw[R.env,R.hn,R.next R.here hk];show R.goTo _ λi h=>JN h
 |goBack c=>
  rw[bK,gZ];apply CZ c λk hk=>?_;rw[R.env,R.hn,R.prev R.here hk];show R.goTo _ λi h=>J_ h
 |size=>
  rw[bK,gZ];rw[R.env,R.focus,R.outline];apply il R ?_;have e:(MZ #[m.p,m.rs,s.now]).length=(dj m 0).length:=by
   have h1:=R.heardIds;unfold MY at h1;have h2:=dX oK h1;rw[aD,aD]at h2;rw[h2];unfold dj;congr 2;show(List.filter_eq_self.mpr λ_ _=>rfl).symm
  rw[e];simp![aD,ba,gY]
end
theorem Uk{g:Nat}(x:Option Nat):∀l:List Nat,l.Nodup->(l.map λi=>if x=some i then g else 0).sum<=g
 |[],_=>by simp
 |a::l,h=>by
  rw[ba,gi];let#[h1,h2]:=List.nodup_cons.mp h;by_cases e:x=some a
  rw[aq e];have:(l.map λi=>if x=some i then g else 0).sum=0:=by
   rw[L6];intro y hy;let#[i,hi,rfl]:=Ge.mp hy;rw[ay];intro z;rw[e]at z;cases z;show h1 hi
  omega;rw[ay e];have:=Uk (g:=g) x l h2;omega
theorem Uh(par:Nat->Option Nat)(g:Nat->Nat)(I:List Nat)(hI:I.Nodup):∀J:List Nat,(I.map λi=>((J.filter λj=>decide (par j=some i)).map g).sum).sum<=(J.map g).sum
 |[]=>by
  have:(I.map λi=>(([]:List Nat).filter λj=>decide (par j=some i)).map g |>.sum).sum=0:=by
   rw[L6];intro y hy;let#[i,_,rfl]:=Ge.mp hy;rfl
  omega
 |j::J=>by
  have ih:=Uh par g I hI J;have e:(I.map λi=>(((j::J).filter λj=>decide (par j=some i)).map g).sum)=I.map λi=>(if par j=some i then g j else 0)+((J.filter λj=>decide (par j=some i)).map g).sum:=by
   apply fg λi _=>?_;rw[gd];by_cases h:par j=some i
   rw[aq (b_ h),aq h,ba,gi];rw[ay (by simpa using h),ay h,Gp]
  have hs:∀(l:List Nat)(a b:Nat->Nat),(l.map λi=>a i+b i).sum=(l.map a).sum+(l.map b).sum:=by
   intro l a b;induction l with
   |nil=>rfl
   |cons x l ih=>simp![ba,gi,ih];omega
  rw[e,hs,ba,gi];have:=Uk (g:=g j) (par j) I hI;omega
theorem Pq:∀l:List aE,(dN l).length<=(l.map λt=>t.length+1).sum
 |[]=>bj _
 |[t]=>by show t.length<=_;simp
 |t::u::r=>by
  have ih:=Pq (u::r);show(t++32::dN (u::r)).length<=_;rw[dG,cN,ba,gi];omega
def BG(l:List aE):(dU l).length<=(l.map λt=>t.length+1).sum:=by
 unfold dU;apply cp (Pq _) ?_;induction l with
 |nil=>show bj _
 |cons t l ih=>
  rw[gd];split;simp![ba,gi];omega;simp![ba,gi];omega
theorem HZ{f:Source->aE}:∀{l:List Source}{x:Xh},ny f l=some x->x.source∈l/\x.text=f x.source/\x.text≠[]
 |[],_,h=>by cases h
 |s::r,x,h=>by
  rw[ny]at h;by_cases e:f s=[]
  rw[aq e]at h;have:=HZ h;show#[bp _ this.1,this.2];rw[ay e]at h;cases h;show#[bq,rfl,e]
def UA{f:Source->aE}{l:List Source}{b:Nat}(h:∀s,(f s).length<=b):(GY (ny f l)).length<=b:=by
 cases e:ny f l with
 |none=>show eX _
 |some x=>
  show x.text.length<=b;rw[(HZ e).2.1];show h _
def He{p:aX}(P:PG p){i:Nat}(hi:i<p.length):(bx p i).label.length<=20/\(bx p i).text.length<=20:=by
 have v:=(qj P hi).1.vb;apply#[?_,?_];obtain z|z:=v.label
 rw[ql.mp z];simp;have:=(Ec z).1;rwa [show((bH (bx p i)).label).length=(bx p i).label.length from ko _]at this;obtain z|z:=v.text
 rw[ql.mp z];simp;have:=(Ec z).1;rwa [show((bH (bx p i)).text).length=(bx p i).text.length from ko _]at this
section
variable(m:MS)
def pJ(f i:Nat):Nat:=(lN m f i).length
def afT(f:Nat):((bv m.p.length).map λi=>((fb m i).map λj=>pJ m f j+1).sum).sum<=((bv m.p.length).map λj=>pJ m f j+1).sum:=by
 apply cp ?_ (Uh (par m.p) (λj=>pJ m f j+1) (bv m.p.length) List.nodup_range (bv m.p.length));have mono:∀(l:List Nat)(a b:Nat->Nat),(∀i∈l,a i<=b i)->(l.map a).sum<=(l.map b).sum:=by
  intro l a b;induction l with
  |nil=>intro _;show bj _
  |cons x l ih=>
   intro h;have h1:=h x bq;have h2:=ih λi hi=>h i (bp _ hi);simp![ba,gi];omega
 apply mono _ _ _ λi _=>?_;unfold fb pN;have:∀(l:List Nat)(q:Nat->Bool)(a:Nat->Nat),((l.filter q).map a).sum<=(l.map a).sum:=by
  intro l q a;induction l with
  |nil=>show bj _
  |cons x l ih=>
   rw[gd];split;simp![ba,gi];omega;simp![ba,gi];omega
 show this _ _ _
def KE(l:List Nat)(c:Nat):(l.map λ_=>c).sum=l.length*c:=by
 induction l with
 |nil=>simp
 |cons x l ih=>rw[ba,gi,ih,cN,Cr];omega
def Ul(l:List Nat)(a b:Nat->Nat):(l.map λi=>a i+b i).sum=(l.map a).sum+(l.map b).sum:=by
 induction l with
 |nil=>rfl
 |cons x l ih=>simp![ba,gi,ih];omega
def Uj{l:List Nat}{a b:Nat->Nat}(h:∀i∈l,a i<=b i):(l.map a).sum<=(l.map b).sum:=by
 induction l with
 |nil=>show bj _
 |cons x l ih=>
  have h1:=h x bq;have h2:=ih λi hi=>h i (bp _ hi);simp![ba,gi];omega
def af'{l:List Nat}{a:Nat->Nat}{i:Nat}(h:i∈l):a i<=(l.map a).sum:=by
 induction l with
 |nil=>cases h
 |cons x l ih=>
  rw[ba,gi];rcases iM.mp h with e|e
  rw[e];omega;have:=ih e;omega
def ali(P:PG m.p){qC:Nat->aE}{i:Nat}(hi:i<m.p.length)(x:Source):(jW m (λ_=>[]) qC i x).length<=20+((fb m i).map λj=>(qC j).length+1).sum:=by
 have hb:=He P hi;have nil_:∀l:List bb,(dU (l.map λ_=>([]:aE))).length=0:=by
  intro l;unfold dU;have:(l.map λ_=>([]:aE)).filter (λt=>!t.isEmpty)=[]:=by
   rw[F2];intro t ht;let#[_,_,rfl]:=Ge.mp ht;simp
  rw[this];rfl
 cases x with
 |by_=>show(dU _).length<=_;rw[nil_];omega
 |label=>show(bx m.p i).label.length<=_;omega
 |text=>show(bx m.p i).text.length<=_;omega
 |kids=>
  show(dU ((fb m i).map qC)).length<=_;have:=BG ((fb m i).map qC);rw[bh]at this;show cp this (Wl _ _)
 |hint=>show(dU _).length<=_;rw[nil_];omega
theorem Ug(P:PG m.p):∀f,((bv m.p.length).map (pJ m f)).sum<=f*(21*m.p.length)
 |0=>by
  have:((bv m.p.length).map (pJ m 0)).sum=0:=by
   rw[L6];intro y hy;let#[i,_,rfl]:=Ge.mp hy;rfl
  omega
 |f+1=>by
  have ih:=Ug P f;have h1:((bv m.p.length).map (pJ m (f+1))).sum<=((bv m.p.length).map λi=>20+((fb m i).map λj=>pJ m f j+1).sum).sum:=by
   apply Uj λi hi=>?_;unfold pJ;rw[lN];show UA λs=>ali m P (Gg.mp hi) s
  rw[Ul,KE,ln]at h1;have h2:=afT m f;rw[Ul,KE,ln]at h2;rw[Cr];omega
def afz(P:PG m.p){i:Nat}(hi:i<m.p.length){f:Nat}(hf:f<=6):(lN m f i).length<=2016:=by
 have h1:=af' (a:=pJ m f) (Gg.mpr hi);have h2:=Ug m P f;have h3:=(g8 P).2.1;have:f*(21*m.p.length)<=6*(21*16):=Nat.mul_le_mul hf ();have h4:pJ m f i=(lN m f i).length:=rfl;omega
def Jj(P:PG m.p){i:Nat}(hi:i<m.p.length):(dJ m i).length<=2016:=afz m P hi (bj _)
def yq(P:PG m.p)(i:Nat):(fb m i).length<=16:=by
 have:=(g8 P).2.1;unfold fb pN;show cp (jw _ _) (cp (jw _ _) (by rw[ln];show this))
def A9{l:List Nat}{a:Nat->Nat}{b:Nat}(h:∀i∈l,a i<=b):(l.map a).sum<=l.length*b:=by
 have:=Uj (b:=λ_=>b) h
 rwa [KE]at this
def QW(P:PG m.p){i:Nat}:((fb m i).map λj=>(dJ m j).length+1).sum<=40000:=by
 have h1:=A9 (l:=fb m i) (a:=λj=>(dJ m j).length+1) (b:=2017) λj hj=>by have:=Jj m P (om hj).1;omega
 have h2:=yq m P i;have:(fb m i).length*2017<=16*2017:=wg _ h2;omega
theorem QG(P:PG m.p):∀(f g:Nat){i:Nat},i<m.p.length->6<=(bx m.p i).deep+f->6<=(bx m.p i).deep+g->lN m f i=lN m g i
 |0,_,i,hi,h,_=>by have:=Du P hi;omega
 |_+1,0,i,hi,_,h=>by have:=Du P hi;omega
 |f+1,g+1,i,hi,h1,h2=>by
  rw[lN,lN];congr 2;funext x;unfold jW;cases x with
  |kids=>
   show dU _=dU _;congr 1;apply fg λj hj=>?_;have:=om hj;have aoF:=yf this.1 this.2.1;show QG P f g this.1 () ()
  |_=>rfl
def afx(P:PG m.p){i:Nat}(hi:i<m.p.length):dJ m i=GY (ny (jW m (λ_=>[]) (dJ m) i) (e_ m i).sources):=by
 unfold dJ;rw[show p_+1=5+1 from rfl,lN];congr 2;funext x;unfold jW;cases x with
 |kids=>
  show dU _=dU _;congr 1;apply fg λj hj=>?_;have:=om hj;have aoF:=yf this.1 this.2.1;show QG m P 5 6 this.1 () ()
 |_=>rfl
def T8(P:PG m.p){i:Nat}(hi:i<m.p.length)(x:Source):(jW m (dJ m) (dJ m) i x).length<=50000:=by
 have hb:=He P hi;have hr:=tF P hi;have idx:∀n,n∈cW m.p->eA m n<m.p.length:=λn hn=>by
  let#[k,hk,rfl]:=uZ hn;unfold eA;rw[qB P hk];show hk
 have names:∀l:List bb,l.length<=3->(∀n∈l,n∈cW m.p)->(dU (l.map λn=>dJ m (eA m n))).length<=50000:=by
  intro l hl hm;have h1:=BG (l.map λn=>dJ m (eA m n));have:∀l:List bb,(∀n∈l,n∈cW m.p)->((l.map λn=>dJ m (eA m n)).map λt=>t.length+1).sum<=l.length*2017:=by
   intro l;induction l with
   |nil=>intro _;simp
   |cons n l ih=>
    intro h;have h1:=Jj m P (idx n (h n bq));have h2:=ih λk hk=>h k (bp _ hk);simp![ba,gi,cN,Cr];omega
  have h2:=this l hm;have:l.length*2017<=3*2017:=wg _ hl;omega
 have vb:=(qj P hi).1;cases x with
 |by_=>show names _ (by have:=vb.vb.zN;rwa [show((bH (bx m.p i)).by_).length=(bx m.p i).by_.length from aD _]at this) hr.1
 |label=>show(bx m.p i).label.length<=_;omega
 |text=>show(bx m.p i).text.length<=_;omega
 |kids=>
  show(dU ((fb m i).map (dJ m))).length<=_;have h1:=BG ((fb m i).map (dJ m));rw[bh]at h1;have h2:=QW m P (i:=i);show cp h1 (cp h2 ())
 |hint=>show names _ (by have:=vb.h1;omega) hr.2.1
def xW(P:PG m.p){i:Nat}(hi:i<m.p.length):(fP m i).length<=50000:=UA λs=>T8 m P hi s
end
theorem Kq:∀(a b:List aE),a≠[]->b≠[]->dN (a++b)=dN a++32::dN b
 |[],_,h,_=>absurd rfl h
 |[x],y::b,_,_=>rfl
 |[_],[],_,h=>absurd rfl h
 |x::y::a,b,_,hb=>by
  have ih:=Kq (y::a) b () hb;show x++32::dN (y::a++b)=(x++32::dN (y::a))++32::dN b;rw[ih];simp
def TQ:∀(a:List aE),a≠[]->(∀w∈a,w≠[])->dN a≠[]
 |[],h,_=>absurd rfl h
 |[x],_,h=>h x bq
 |x::y::a,_,_=>by
  show x++32::_≠[];simp
theorem Ta:∀(gs:List (List aE)),(∀g∈gs,∀w∈g,w≠[])->dU (gs.map dN)=dN gs.flatten
 |[],_=>rfl
 |g::gs,h=>by
  have ih:=Ta gs λx hx=>h x (bp _ hx);unfold dU at ih⊢;rw[ba,gd,VY];by_cases hg:g=[]
  subst hg;rw[ay (by simp[dN,MP]),ih,lq];have hne:=TQ g hg (h g bq);rw[aq (by cases e:dN g with|nil=>show absurd e hne|cons=>rfl)];by_cases hr:gs.flatten=[]
  rw[hr]at ih;have hf:(gs.map dN).filter (λt=>!t.isEmpty)=[]:=by
   rw[F2];intro t ht;let#[x,hx,rfl]:=Ge.mp ht;have:x=[]:=List.flatten_eq_nil_iff.mp hr x hx;rw[this];simp[dN,MP]
  rw[hf,hr,eJ];rfl;rw[Kq g _ hg hr,<-ih];have hf:(gs.map dN).filter (λt=>!t.isEmpty)≠[]:=by
   intro z;rw[z]at ih;show TQ _ hr (λw hw=>by
    let#[x,hx,hw]:=List.mem_flatten.mp hw;show h x (bp _ hx) w hw) ih.symm
  show Kq [dN g] _ () hf
def jN(ahead t:aE):aE:=if t=[] then[] else ahead++(34::(t++[34]))
def mH(n:Nat):aE:=if n=0 then[] else gM n
def sQ(n:Nat):aE:=if n=2 then aY "on" else if n=1 then aY "not on" else[]
def Tb{h:Xi}(hr:h.role≠[])(ho:h.on<=2):dU [h.role,mH h.level,jN [] h.name,if h.off=true then aY "off" else[],sQ h.on,jN (aY "hint ") h.hint,jN (aY "text ") h.own]=CM h:=by
 have e:=Ta [[h.role],cE (h.level != 0) [gM h.level],cE (!h.name.isEmpty) [fC h.name],cE h.off [aY "off"],cE (h.on==2) [aY "on"]++cE (h.on==1) [aY "not",aY "on"],cE (!h.hint.isEmpty) [aY "hint",fC h.hint],cE (!h.own.isEmpty) [aY "text",fC h.own]] (by
  have q:∀t,fC t≠[]:=λt=>by simp[fC]
  have o:∀(c:Bool)(l:List aE),(∀w∈l,w≠[])->∀w∈cE c l,w≠[]:=λc l hl w hw=>by
   cases c with
   |false=>cases hw
   |true=>show hl w hw
  intro g hg;simp![iM,lx,mQ]at hg;obtain rfl|rfl|rfl|rfl|rfl|rfl|rfl:=hg
  intro w hw;rw[List.mem_singleton.mp hw];show hr;show o _ _ λw hw=>by rw[List.mem_singleton.mp hw];simp[gM]
  show o _ _ λw hw=>by rw[List.mem_singleton.mp hw];show q _
  show o _ _ ();intro w hw;rcases wa.mp hw with z|z
  show o _ _ () w z;show o _ _ () w z;apply o _ _ λw hw=>?_;simp![iM,lx,mQ]at hw;obtain rfl|rfl:=hw
  decide;show q _;apply o _ _ λw hw=>?_;simp![iM,lx,mQ]at hw;obtain rfl|rfl:=hw
  decide;show q _)
 have fl:CM h=dN ([[h.role],cE (h.level != 0) [gM h.level],cE (!h.name.isEmpty) [fC h.name],cE h.off [aY "off"],cE (h.on==2) [aY "on"]++cE (h.on==1) [aY "not",aY "on"],cE (!h.hint.isEmpty) [aY "hint",fC h.hint],cE (!h.own.isEmpty) [aY "text",fC h.own]]:List (List aE)).flatten:=by
  unfold CM Vaaccb.heardWords;simp![VY,List.flatten_nil,eJ,pZ]
 rw[fl,<-e];congr 1;simp![ba,gY];have e1:dN (cE (h.level != 0) [gM h.level])=mH h.level:=by
  unfold mH;by_cases z:h.level=0
  rw[z];rfl;rw[ay z,show(h.level != 0)=true by simpa using z];rfl
 have e2:∀t:aE,dN (cE (!t.isEmpty) [fC t])=jN [] t:=by
  intro t;cases t with
  |nil=>rfl
  |cons a r=>unfold jN;rw[ay ()];rfl
 have e3:dN (cE h.off [aY "off"])=if h.off=true then aY "off" else[]:=by cases h.off<;>rfl
 have e4:dN (cE (h.on==2) [aY "on"]++cE (h.on==1) [aY "not",aY "on"])=sQ h.on:=by
  generalize h.on=n at ho
  match n,ho with
  |0,_=>decide
  |1,_=>decide
  |2,_=>decide
 have e5:∀(s s':String)(t:aE),aY s'=aY s++[32]->dN (cE (!t.isEmpty) [aY s,fC t])=jN (aY s') t:=by
  intro s s' t hs;cases t with
  |nil=>rfl
  |cons a r=>
   unfold jN;rw[ay (),hs];show aY s++([32]++fC (a::r))=_;rw[pZ];rfl
 rw[e1,e2,e3,e4,e5 "hint" "hint " _ (),e5 "text" "text " _ ()];rfl
end Pm
namespace Pm
open Vaacca (Kind Act What Box Rule Source Now)
variable{α:Type}
theorem Tv(g:α->Nat)(n:Nat):∀l:List α,l.Pairwise (λx y=>g x<=g y)->(∀x∈l,g x<=n+1)->l=l.filter (λx=>decide (g x<=n))++l.filter (λx=>g x==n+1)
 |[],_,_=>rfl
 |a::l,hp,hb=>by
  let#[h1,h2]:=List.pairwise_cons.mp hp;have ih:=Tv g n l h2 λx hx=>hb x (bp _ hx);by_cases ha:g a<=n
  rw[gd,aq (b_ ha),gd,ay (by rw[gO];omega),ja,<-ih];have hb1:=hb a bq;have all:∀x∈l,g x=n+1:=λx hx=>by
   have:=h1 x hx;have:=hb x (bp _ hx);omega
  rw[gd,ay (by rw[bw];show ha),gd,aq (by rw[gO];omega)];rw[F2.mpr λx hx=>by rw[bw];have:=all x hx;omega,lq];rw[List.filter_eq_self.mpr λx hx=>by rw[gO];show all x hx]
theorem Ko(g:α->Nat):∀(n:Nat)(l:List α),l.Pairwise (λx y=>g x<=g y)->(∀x∈l,1<=g x/\g x<=n)->l=(bv n).flatMap λk=>l.filter λx=>g x==k+1
 |0,l,_,hb=>by
  cases l with
  |nil=>rfl
  |cons a r=>have:=hb a bq;omega
 |n+1,l,hp,hb=>by
  have e:=Tv g n l hp λx hx=>(hb x hx).2;have ih:=Ko g n (l.filter λx=>decide (g x<=n)) (hp.sublist t9) λx hx=>by
   let#[h1,h2]:=Gd.mp hx;show#[(hb x h1).1,qR h2]
  have e2:((bv n).flatMap λk=>(l.filter λx=>decide (g x<=n)).filter λx=>g x==k+1)=(bv n).flatMap λk=>l.filter λx=>g x==k+1:=by
   apply O1;intro k hk;rw[Gg]at hk;rw[tZ];apply ie;intro x _;by_cases h:g x=k+1
   rw[gO.mpr h,gp];show b_ ();rw[show(g x==k+1)=false from by rw[vM];intro z;show h (gO.mp z),ow]
  rw[e2]at ih;rw[wc,vZ];simp![gh,oI,eJ];rw[<-ih];show e
where
 O1 {β:Type} {l:List Nat} {f g:Nat->List β} (h:∀k∈l,f k=g k):l.flatMap f=l.flatMap g:=by
  induction l with
  |nil=>rfl
  |cons a r ih=>rw[gh,gh,h a bq,ih λk hk=>h k (bp _ hk)]
def ac1{m:MS}(hp:PG m.p){ns:List Nat}(h1:ns.Pairwise λx y=>(bx m.p x).order<=(bx m.p y).order)(h2:∀z,ns.filter (λx=>(bx m.p x).order==z)=((iy m).filter λi=>decide ((bx m.p i).order≠0)).filter λx=>(bx m.p x).order==z):ns++(iy m).filter (λi=>(bx m.p i).order==0)=di m:=by
 have mem:∀x∈ns,x∈iy m/\(bx m.p x).order≠0:=λx hx=>by
  have:x∈ns.filter (λy=>(bx m.p y).order==(bx m.p x).order):=Gd.mpr #[hx,by simp];rw[h2]at this;let#[a,b]:=Gd.mp (Gd.mp this).1;show#[a,qR b]
 have b9:∀x∈ns,1<=(bx m.p x).order/\(bx m.p x).order<=9:=λx hx=>by
  let#[a,b]:=mem x hx;have hl:x<m.p.length:=Gg.mp (Gd.mp a).1;have h:=(qj hp hl).2;unfold kh at h;simp![bS,bw]at h;show#[by omega,h.2.2.2.2.2.2.2.2.1]
 have e:=Ko (λi=>(bx m.p i).order) 9 ns h1 b9;unfold di;rw[e];congr 1;apply Ko.O1;intro k _;have:=h2 (k+1);rw[this,tZ];apply ie;intro x _;by_cases h:(bx m.p x).order=k+1
 rw[gO.mpr h,gp];show b_ ();rw[show((bx m.p x).order==k+1)=false from by rw[vM];intro z;show h (gO.mp z),ow]
end Pm
namespace L2
open PySem PySem.Spec PyProof.Rows
abbrev bB:=Sum Int Str
def uP:bB->af->Bool
 | .inl k,v=>XX k v
 | .inr x,v=>XY x v
def QT(w:aW):bB->Int
 | .inl k=>hashInt k
 | .inr x=>hashStr w x
def qH:∀{k:bB}{v:af},uP k v=true->(∃i t,k=bU i/\v=zy i t)\/(∃x t,k=gK x/\v=zA x t)
 | .inl i,v,h=>by
  let#[t,e]:=Value.isInt_shape (k:=i) (v:=v) h;show .inl #[i,t,rfl,e]
 | .inr x,v,h=>by
  let#[t,e]:=Value.isStrOf_shape (x:=x) (v:=v) h;show .inr #[x,t,rfl,e]
def afN(i:Int)(t:Tok):uP (.inl i) (.int i t)=true:=by simp[uP,XX]
def afO(x:Str)(t:Tok):uP (.inr x) (.str x t)=true:=by simp[uP,XY]
def afP(a b:Int):decide ((bU a:bB)=bU b)=(a==b):=by
 by_cases e:a=b
 subst e;simp;have h:¬(bU a:bB)=bU b:=λq=>e (Sum.inl.inj q);rw[cO h];show(Nj.mpr e).symm
def afS(a b:Str):decide ((gK a:bB)=gK b)=decide (a=b):=by
 by_cases e:a=b
 subst e;simp;have h:¬(gK a:bB)=gK b:=λq=>e (W2 q);rw[cO h,cO e]
def afQ(a:Int)(b:Str):decide ((bU a:bB)=gK b)=false:=cO (λq=>nomatch q)
def afR(a:Str)(b:Int):decide ((gK a:bB)=bU b)=false:=cO (λq=>nomatch q)
def fU(prog:aZ)(w:aW):PySem.KeyKind prog w bB where
 is:=uP
 hash:=QT w
 inj:=λv a b ha hb=>by
  rcases qH ha with⟨i,t,rfl,rfl⟩|⟨x,t,rfl,rfl⟩
  rcases qH hb with⟨j,u,rfl,e⟩|⟨y,u,rfl,e⟩
  injection e with e1 _;rw[e1]
  show nomatch e;rcases qH hb with⟨j,u,rfl,e⟩|⟨y,u,rfl,e⟩
  show nomatch e;injection e with e1 _;rw[e1]
 byValue:=λk v h=>by
  rcases qH h with⟨i,t,rfl,rfl⟩|⟨x,t,rfl,rfl⟩<;>rfl
 pyHash:=λhv h=>by
  rcases qH hv with⟨i,t,rfl,rfl⟩|⟨x,t,rfl,rfl⟩
  show wpAny_pyHash_int h;show wpAny_pyHash_str h
 eqBool:=λhu hv h=>by
  rcases qH hu with⟨i,t,rfl,rfl⟩|⟨x,t,rfl,rfl⟩
  rcases qH hv with⟨j,u,rfl,rfl⟩|⟨y,u,rfl,rfl⟩
  rw[afP]at h;show wpAny_eqBool_int h;rw[afQ]at h;show WZ i t y u _ _ _ _ h;rcases qH hv with⟨j,u,rfl,rfl⟩|⟨y,u,rfl,rfl⟩
  rw[afR]at h;show W0 x t j u _ _ _ _ h;rw[afS]at h;show La h
 «strs»:=λk x t v h=>by
  rcases qH h with⟨i,u,rfl,e⟩|⟨y,u,rfl,e⟩
  show nomatch e;injection e with e1 _
  subst e1;cases v<;>rfl
def agU(prog:aZ)(w:aW)(i:Int)(t:Tok):(fU prog w).is (.inl i) (.int i t)=true:=afN i t
def agV(prog:aZ)(w:aW)(x:Str)(t:Tok):(fU prog w).is (.inr x) (.str x t)=true:=afO x t
inductive V where
 |bn|bl (b:Bool)|int (i:Int)|str (x:Str)|gP (b:Array UInt8)|DE (b:UInt64)|ref (a:aa)|ty (n:String)
 deriving DecidableEq
def RelV:V->af->Prop
 | .bn,u=>u=qb
 | .bl b,u=>u=ur b
 | .int i,u=>∃t,u=zy i t
 | .str x,u=>∃t,u=zA x t
 | .gP b,u=>∃t,u=XV b t
 | .DE b,u=>∃t,u=XW b t
 | .ref a,u=>u=fD a
 | .ty n,u=>u=rO n
abbrev bi:List V->List af->Prop:=Paired RelV
def bi.length{xs:List V}{us:List af}(r:bi xs us):xs.length=us.length:=uh r
theorem bi.get:∀{xs:List V}{us:List af}{i:Nat}{x:V},bi xs us->xs[i]? =some x->∃u,us[i]? =some u/\RelV x u
 |_,_,_,_,.nil,e=>by simp at e
 |_,_,0,_,.cons r _,e=>by simp at e;subst e;show#[_,rfl,r]
 |_,_,i+1,x,.cons _ t,e=>by
  let#[u,h1,h2]:=bi.get (i:=i) (x:=x) t (by simpa using e);show#[u,by simpa using h1,h2]
theorem bi.set{x:V}{u:af}(r:RelV x u):∀{xs:List V}{us:List af}(i:Nat),bi xs us->bi (xs.set i x) (us.set i u)
 |_,_,_,.nil=>.nil
 |_,_,0,.cons _ t=>.cons r t
 |_,_,i+1,.cons q t=>.cons q (bi.set r i t)
theorem bi.append:∀{xs ys:List V}{us ws:List af},bi xs us->bi ys ws->bi (xs++ys) (us++ws)
 |_,_,_,_,.nil,s=>s
 |_,_,_,_,.cons r t,s=>.cons r (bi.append t s)
theorem bi.take:∀{xs:List V}{us:List af}(n:Nat),bi xs us->bi (xs.take n) (us.take n)
 |_,_,0,_=>.nil
 |_,_,_+1,.nil=>.nil
 |_,_,n+1,.cons r t=>.cons r (bi.take n t)
theorem bi.drop:∀{xs:List V}{us:List af}(n:Nat),bi xs us->bi (xs.drop n) (us.drop n)
 |_,_,0,r=>r
 |_,_,_+1,.nil=>.nil
 |_,_,n+1,.cons _ t=>bi.drop n t
def gJ:Option V->Option af->Prop
 |some v,some u=>RelV v u
 |none,none=>True
 |_,_=>False
def KV{κ:Type}:List (κ×V)->List (κ×af)->Prop:=Paired λ(p:κ×V) (q:κ×af)=>p.1=q.1/\RelV p.2 q.2
def kV:bB->V
 | .inl i=>.int i
 | .inr x=>.str x
inductive HO where
 |lst (xs:List V)
 |tup (xs:List V)
 |dK (kvs:List (bB×V))|dT (kvs:List (List bB×V))
 |set (S:Int->Bool) (n:Nat)
 |ins (C dx:aa) (fs:List (Str×V))
 |own (x:aa)
 |xd (fs:List (Str×V))
 |met (f x:aa)
 |Bz (lo hi:Int)
 |cT (o:Obj) (u:HO)
 |q5 (ps:Array af)
 |ext (φ:aL->Prop)
abbrev Hp:=aa->Option HO
def upd(H:Hp)(a:aa)(o:HO):Hp:=λb=>if b=a then some o else H b
def aH{H:Hp}{a:aa}{o:HO}:upd H a o a=some o:=by unfold upd;rw[aq rfl]
def aG{H:Hp}{a b:aa}{o:HO}(h:b≠a):upd H a o b=H b:=by unfold upd;rw[ay h]
def yD{H:Hp}{a:aa}{o u:HO}:upd (upd H a o) a u=upd H a u:=by
 funext b;unfold upd;split<;>rfl
def iX{H:Hp}{a b:aa}{o u:HO}(h:H a=some o)(h':H b=some u)(d:o≠u):a≠b:=by
 intro e;subst e;rw[h]at h';show d (cV h')
def bf{H:Hp}{a b:aa}{o:HO}(h:H a=some o)(h':H b=none):a≠b:=by
 intro e;subst e;rw[h]at h';cases h'
section
variable(P:aZ)(w:aW)
def dM(H:Hp)(h:aL)(a:aa):HO->Prop
 | .lst xs=>xs.length<=sizeLine/\∃(aF:List af)(n:Nat),bi xs aF/\h.get? a=some { cls:=.type "list",data:=.seq aF.toArray n }
 | .tup xs=>xs.length<=sizeLine/\∃aF:List af,bi xs aF/\IsTup h a aF.toArray
 | .dK kvs=>kvs.length<=sizeLine/\(a==lY)=false/\∃vs,KV kvs vs/\h.DictOf (fU P w) a vs
 | .dT kvs=>kvs.length<=sizeLine/\(a==lY)=false/\∃xs:List (List bB×aa×af),
   Paired (λ(p:List bB×V) (q:List bB×aa×af)=>p.1=q.1/\H q.2.1=some (.tup (p.1.map kV))/\RelV p.2 q.2.2) kvs xs/\
   ∃o es ep,h.get? a=some o/\o.ExactDict/\o.data=.dict es ep/\es.toList=xs.map (entryOfKey (B0 (fU P w)))/\(xs.map (·.1)).Nodup
 | .set S n=>h.SetOf (intKind P w) a S n
 | .ins C dx fs=>H dx=some (.own a)/\fs.length<=1000/\dx≠a/\h.get? a=some (ul C dx)/\
   ∃mA,h.Ns1 dx mA/\(∀f,gJ (fs.lookup f) (mA f))/\MB mA (fs.map (·.1))
 | .own _=>∃o,h.get? a=some o
 | .xd fs=>∃mA,h.Ns1 a mA/\∀f,gJ (fs.lookup f) (mA f)
 | .Bz lo hi=>∃t u v,h.get? a=some { cls:=.type "range",data:=.fields (List.toArray [.int lo t,.int hi u,.int 1 v]) }
 | .cT o u=>h.get? a=some o/\dM H h a u
 | .q5 ps=>h.get? a=some { cls:=.none,data:=.fields ps }
 | .met f x=>h.get? a=some (Mx (.ref f) (.ref x))
 | .ext φ=>φ h/\(∃o,h.get? a=some o)/\∀h1 h2:aL,φ h1->(∀o,h1.get? a=some o->h2.get? a=some o)->φ h2
def dk(H:Hp)(h:aL):Prop:=∀a o,H a=some o->dM P w H h a o
end
section
variable{P:aZ}{w:aW}{H H':Hp}{h h':aL}{a:aa}{o:HO}
theorem dM.lt(x:dM P w H h a o):a<h.objs.size:=by
 cases o with
 |lst xs=>let#[_,_,_,_,e]:=x;show cK e
 |tup xs=>let#[_,_,_,p]:=x;show p.lt
 |dK kvs=>let#[_,_,_,_,o,_,_,e,_]:=x;show cK e
 |dT kvs=>let#[_,_,_,_,o,_,_,e,_]:=x;show cK e
 |set S n=>let#[o,_,_,_,e,_]:=x;show cK e
 |ins C dx fs=>let#[_,_,_,e,_]:=x;show cK e
 |own y=>let#[_,e]:=x;show cK e
 |xd fs=>let#[_,#[_,_,_,e,_],_]:=x;show cK e
 |Bz lo hi=>let#[_,_,_,e]:=x;show cK e
 |cT ob u=>let#[e,_]:=x;show cK e
 |q5 ps=>show cK (show h.get? a=some _ from x)
 |met f y=>show cK (show h.get? a=some _ from x)
 |ext φ=>let#[_,#[_,e],_]:=x;show cK e
theorem Paired.iD{α β:Type}{F G:α->β->Prop}:∀{l₁:List α}{l₂:List β},Paired F l₁ l₂->(∀a b,F a b->G a b)->Paired G l₁ l₂
 |_,_,.nil,_=>.nil
 |_,_,.cons r t,f=>.cons (f _ _ r) (Paired.iD t f)
def dM.kW(x:dM P w H h a o)(k:∀b u,(b=a\/H b=some (.own a))->h.get? b=some u->h'.get? b=some u)(ho:∀b,H b=some (.own a)->H' b=some (.own a))(ht:∀b xs,H b=some (.tup xs)->H' b=some (.tup xs)):dM P w H' h' a o:=by
 induction o with
 |lst xs=>let#[z,aF,n,r,e]:=x;show#[z,aF,n,r,k _ _ (.inl rfl) e]
 |tup xs=>let#[z,aF,r,ob,e,c]:=x;show#[z,aF,r,ob,k _ _ (.inl rfl) e,c]
 |dK kvs=>let#[z,y,vs,r,ob,es,ep,e,c]:=x;show#[z,y,vs,r,ob,es,ep,k _ _ (.inl rfl) e,c]
 |dT kvs=>
  let#[z,y,xs,r,ob,es,ep,e,c]:=x;show#[z,y,xs,Paired.iD r λp q z=>#[z.1,ht _ _ z.2.1,z.2.2],ob,es,ep,k _ _ (.inl rfl) e,c]
 |set S n=>let#[ob,es,ep,t,e,c]:=x;show#[ob,es,ep,t,k _ _ (.inl rfl) e,c]
 |ins C dx fs=>
  let#[d,z,ne,e,mA,#[od,es,ep,e2,c],r]:=x;show#[ho _ d,z,ne,k _ _ (.inl rfl) e,mA,#[od,es,ep,k _ _ (.inr d) e2,c],r]
 |own y=>let#[ob,e]:=x;show#[ob,k _ _ (.inl rfl) e]
 |xd fs=>let#[mA,#[od,es,ep,e,c],r]:=x;show#[mA,#[od,es,ep,k _ _ (.inl rfl) e,c],r]
 |Bz lo hi=>let#[t,u,v,e]:=x;show#[t,u,v,k _ _ (.inl rfl) e]
 |cT ob u ih=>let#[e,q]:=x;show#[k _ _ (.inl rfl) e,ih q]
 |q5 ps=>
  have e:h.get? a=some { cls:=.none,data:=.fields ps }:=x;show h'.get? a=some { cls:=.none,data:=.fields ps };show k a _ (.inl rfl) e
 |met f y=>
  have e:h.get? a=some (Mx (.ref f) (.ref y)):=x;show h'.get? a=some (Mx (.ref f) (.ref y));show k a _ (.inl rfl) e
 |ext φ=>let#[p,#[o,e],st]:=x;show#[st _ _ p λo q=>k _ _ (.inl rfl) q,#[o,k _ _ (.inl rfl) e],st]
def dk.lt(x:dk P w H h)(e:H a=some o):a<h.objs.size:=(x a o e).lt
def dk.fresh(x:dk P w H h)(e:h.objs.size<=a):H a=none:=by
 cases q:H a with
 |none=>rfl
 |some u=>show absurd (fj (x.lt q) e) (iO _)
def dk.kept(x:dk P w H h)(k:∀b u,h.get? b=some u->h'.get? b=some u):dk P w H h':=λa o e=>
 (x a o e).kW (λb u _ q=>k b u q) (λ_ q=>q) λ_ _ q=>q
def dk.laid(x:dk P w H h)(k:∀b u,h.get? b=some u->h'.get? b=some u)(hp:h.objs.size<=a)(new:dM P w (upd H a o) h' a o):dk P w (upd H a o) h':=λb u e=>by
 have hn:=x.fresh hp;by_cases hb:b=a
 subst hb;rw[aH]at e;cases e;show new;rw[aG hb]at e;show(x b u e).kW (λc v _ q=>k c v q) (λc q=>by rw[aG (bf q hn)];show q) λc xs q=>by rw[aG (bf q hn)];show q
end
def Rd(H:Hp)(a:aa)(u:HO):Prop:=H a=some u\/∃o,H a=some (.cT o u)
def Rd.of{H:Hp}{a:aa}{u:HO}(h:H a=some u):Rd H a u:=.inl h
def Rd.ok{P:aZ}{w:aW}{H:Hp}{h:aL}{a:aa}{u:HO}(r:Rd H a u)(x:dk P w H h):dM P w H h a u:=by
 rcases r with r|⟨o,r⟩
 show x a u r;let#[_,q]:=x a _ r;show q
def rD:Option HO->Prop
 |some (.lst _)=>True
 |some (.dK _)=>True
 |some (.dT _)=>True
 |some (.set _ _)=>True
 |some (.ins _ _ _)=>True
 |some (.ext _)=>True
 |_=>False
section
variable{P:aZ}{w:aW}{H:Hp}{h h':aL}{x e:aa}{o':HO}
def dk.write(ok:dk P w H h)(mu:rD (H x))(he:e=x\/H e=some (.own x))(k:∀b u,b≠e->h.get? b=some u->h'.get? b=some u)(xx:∃u,h'.get? e=some u)(new:dM P w (upd H x o') h' x o'):dk P w (upd H x o') h':=λb u q=>by
 have RT:∀c y,H c=some (.own y)->c≠x:=λc y r z=>by subst z;rw[r]at mu;show mu
 have ahW:∀c xs,H c=some (.tup xs)->c≠x:=λc xs r z=>by subst z;rw[r]at mu;show mu
 by_cases hb:b=x
 subst hb;rw[aH]at q;cases q;show new;rw[aG hb]at q;by_cases hbe:b=e
 have q':H b=some (.own x):=by
  obtain z|z:=he
  show absurd (hbe.trans z) hb;rw[hbe];show z
 rw[q]at q';cases q';let#[v,hv]:=xx;show#[v,by rw[hbe];show hv];apply(ok b u q).kW (λc v hc r=>k c v ?_ r) (λc r=>by rw[aG (RT c b r)];show r) λc xs r=>by rw[aG (ahW c xs r)];show r
 obtain rfl|hc:=hc
 show hbe;rintro rfl;obtain z|z:=he
 show RT c b hc z;rw[hc]at z;cases z;show hb rfl
end
structure Un (fs ex:List aa)(H H':Hp)(h h':aL):Prop where
 keep:∀b o,h.get? b=some o->H b=none->b∉fs->b∉ex->h'.get? b=some o
 slot:∀b o,h.get? b=some o->H b=none->b∈fs->b∉ex->∃sl,h'.get? b=some { o with slots:=sl }
 free:∀b o,h.get? b=some o->H b=none->b∉ex->H' b=none
 there:∀b o,h.get? b=some o->b∉ex->∃o',h'.get? b=some o'
 js:∀b xs,H b=some (.tup xs)->H' b=some (.tup xs)
 iz:∀b o u,H b=some (.cT o u)->H' b=some (.cT o u)
 jr:∀b ps,H b=some (.q5 ps)->∃more,H' b=some (.q5 (ps++more))
section
variable{fs ada ex ex':List aa}{H H1 H2:Hp}{h h1 h2 h':aL}{a x e:aa}{o:HO}
def Un.any(u:Un fs ex H H1 h h1){b:aa}{ob:Obj}(q:h.get? b=some ob)(n:H b=none)(hx:b∉ex):∃sl,h1.get? b=some { ob with slots:=sl }:=by
 by_cases hb:b∈fs
 show u.slot b ob q n hb hx;show#[ob.slots,u.keep b ob q n hb hx]
def Un.kept(k:∀b u,h.get? b=some u->h'.get? b=some u):Un fs ex H H h h':=
 #[λb ob q _ _ _=>k b ob q,λb ob q _ _ _=>#[ob.slots,k b ob q],λ_ _ _ n _=>n,λb ob q _=>#[ob,k b ob q],λ_ _ q=>q,λ_ _ _ q=>q,λ_ ps q=>#[(List.toArray []),by rw[q];simp]]
def Un.refl:Un fs ex H H h h:=Un.kept λ_ _ q=>q
def Un.laid(k:∀b u,h.get? b=some u->h'.get? b=some u)(hp:h.objs.size<=a)(hn:H a=none):Un fs ex H (upd H a o) h h' where
 keep:=λb u q _ _ _=>k b u q
 slot:=λb u q _ _ _=>#[u.slots,k b u q]
 free:=λb u q n _=>by rw[aG (dZ (fj (cK q) hp))];show n
 there:=λb u q _=>#[u,k b u q]
 js:=λb xs q=>by rw[aG (bf q hn)];show q
 iz:=λb u xs q=>by rw[aG (bf q hn)];show q
 jr:=λb ps q=>#[(List.toArray []),by rw[aG (bf q hn),q];simp]
def Un.write(mu:rD (H x))(he:e=x\/H e=some (.own x))(k:∀b u,b≠e->h.get? b=some u->h'.get? b=some u)(xx:∃u,h'.get? e=some u):Un fs ex H (upd H x o) h h':=by
 have hx:∀b,H b=none->b≠x:=λb n z=>by subst z;rw[n]at mu;show mu
 have hb:∀b,H b=none->b≠e:=λb n z=>by
  subst z;obtain r|r:=he
  show hx b n r;rw[n]at r;cases r
 have hm:∀b u,H b=some u->¬rD (some u)->b≠x:=λb u q nm z=>by subst z;rw[q]at mu;show nm mu
 apply#[λb u q n _ _=>k b u (hb b n) q,λb u q n _ _=>#[u.slots,k b u (hb b n) q],λb u q n _=>by rw[aG (hx b n)];show n,λb u q _=>?_,
  λb xs q=>by rw[aG (hm b _ q λz=>z)];show q,λb u xs q=>by rw[aG (hm b _ q λz=>z)];show q,λb ps q=>#[(List.toArray []),by rw[aG (hm b _ q λz=>z),q];simp]]
 by_cases hbe:b=e
 subst hbe;show xx;show#[u,k b u hbe q]
end
def Fe(h:aL)(H:Hp):List aa:=(bv h.objs.size).filter λa=>(H a).isSome
def px(h:aL)(H:Hp):aL:=Mt h (Fe h H)
def aef(h:aL)(H:Hp):(px h H).objs.size=h.objs.size:=PySem.W.hideAll_size _ _
def aee{h:aL}{H:Hp}{b:aa}{o:Obj}(e:h.get? b=some o)(n:H b=none):(px h H).get? b=some o:=
 Mu _ e λhm=>by
  have q:(H b).isSome=true:=(Gd.mp hm).2;rw[n]at q;simp at q
def ah1{h:aL}{H:Hp}{b:aa}{o:Obj}(e:(px h H).get? b=some o):h.get? b=some o/\H b=none:=by
 have e':h.get? b=some o:=My (Fe h H) e;apply#[e',?_];cases q:H b with
 |none=>rfl
 |some x=>
  have hm:b∈Fe h H:=Gd.mpr #[Gg.mpr (cK e'),by simp[q]];have z:(px h H).get? b=none:=WN (Fe h H) hm;rw[z]at e;cases e
def zH(g h:aL)(L:aa):List (aa×Obj):=(bv h.objs.size).filterMap λa=>if a=L\/(g.get? a).isSome=true then none else(h.get? a).map λo=>(a,o)
def Rq{g h:aL}{L a:aa}{o:Obj}(h1:a≠L)(h2:g.get? a=none)(h3:h.get? a=some o):(a,o)∈zH g h L:=
 List.mem_filterMap.mpr #[a,Gg.mpr (cK h3),by simp[h1,h2,h3]]
def ah2{g h:aL}{L:aa}{p:aa×Obj}(hp:p∈zH g h L):p.1≠L/\g.get? p.1=none/\h.get? p.1=some p.2:=by
 let#[b,_,e]:=List.mem_filterMap.mp hp;split at e;cases e;rename_i hn;cases q:h.get? b with
 |none=>rw[q]at e;simp at e
 |some u=>
  rw[q]at e;simp![fA,wk]at e;subst e;apply#[λz=>hn (.inl z),?_,q];show g.get? b=none;cases r:g.get? b with
  |none=>rfl
  |some v=>show(hn (.inr (by simp[r]))).elim
def bE(g h:aL)(L d:aa):List (aa×Obj):=(zH g h L).filter λp=>decide (p.1≠d)
def ahv{g h:aL}{L:aa}:News g L h (zH g h L):=λp hp=>let ⟨a,b,c⟩:=ah2 hp;#[c,a,b]
structure Mod (K:aP)(mg:Str->Option af)(base:aL):Prop where
 uQ:K.In base
 glob:base.Ns mainGlobals mg
 blt:∃mb,base.Ns De mb/\∀x:Str,x≠"__name__"->mb x=jf x
 nolimit:base.NoLimit
structure Cx where
 prog:aZ
 w:aW
 K:aP
 mg:Str->Option af
 base:aL
 A:ci
 N:List Str
 gy:ax
 tY:Hp
 env:Env
 outer:List Env
 stack:List Env
 ex:List aa
 fn:Str->Bool
 calm:Bool
 pn:List (aa×Obj)
 xe:af->ax->Prop
def cH(l:List Env):List aa:=l.filterMap (·.frame)
abbrev Cx.fs(X:Cx):List aa:=cH X.outer
def uu(sc:dS)(x:Str):Prop:=sc.names.lookup x=some .local\/sc.names.lookup x=some .cell\/sc.names.lookup x=some .free
def Loc(sc:dS)(x:Str):Prop:=sc.names.lookup x=some .local\/sc.names.lookup x=some .cell
def Look(env:Env)(h:aL)(m:Str->Option af)(x:Str)(u:af):Prop:=
 (env.kindOf x=some .local/\m x=some u)\/((env.kindOf x=some .cell\/env.kindOf x=some .free)/\∃c,env.cells.lookup x=some c/\h.IsCell c (some u))
structure Cx.Ok (X:Cx):Prop where
 mod:Mod X.K X.mg X.base
 kind:X.env.scope.kind=.function
 glob:X.env.globals=mainGlobals
 blt:X.env.builtins=De
 above:X.gy.heap.objs.size<=X.env.locals
 inj:∀x y c,X.env.cells.lookup x=some c->X.env.cells.lookup y=some c->x=y
 has:∀x,(X.env.kindOf x=some .cell\/X.env.kindOf x=some .free)->∃c,X.env.cells.lookup x=some c
 zO:∀x c,X.fn x=true->X.env.cells.lookup x=some c->X.gy.heap.objs.size<=c
 aoF:X.calm=true->X.A.handled=none
 frames:X.A.frames=some X.stack
 yw:X.stack=X.outer\/(X.stack=X.env::X.outer/\X.env.frame=some X.env.locals)
 DA:∀b∈X.ex,b≠X.env.locals/\∀x c,X.env.cells.lookup x=some c->c≠b
 bs:∀b o,X.base.get? b=some o->X.gy.heap.get? b=some o/\X.tY b=none
 nE:X.base.objs.size<=X.gy.heap.objs.size
 Bl:∀b o,X.base.get? b=some o->b∉X.ex
 Ac:∀b∈X.ex,b∉X.fs
 mr:X.gy.heap.FunFrames X.base X.outer
 uJ:∀b∈X.fs,X.tY b=none
structure Inv (X:Cx)(ae:List (aa×Obj))(σ:List (Option V))(H:Hp)(s:ax):Prop where
 ok:X.Ok
 os:s.os=X.gy.os
 bare:rg s.gens
 base:Un X.fs X.ex X.tY H X.gy.heap s.heap
 loc:∃m,s.heap.Ns X.env.locals m/\∀(i:Nat)(x:Str)(v:V),X.N[i]? =some x->σ[i]? =some (some v)->uu X.env.scope x->∃u,RelV v u/\Look X.env s.heap m x u
 cell:∀x c,X.env.cells.lookup x=some c->∃v,s.heap.IsCell c v
 free:H X.env.locals=none
 kx:∀x c,X.env.cells.lookup x=some c->H c=none
 pin:∀p∈X.pn++ae,s.heap.get? p.1=some p.2/\H p.1=none/\p.1≠X.env.locals/\p.1∉X.fs/\∀v,p.2.data≠.cell v
 aS:dk X.prog X.w H s.heap
 len:σ.length=X.N.length
section
variable{X:Cx}{ae:List (aa×Obj)}{σ:List (Option V)}{H H':Hp}{s:ax}{h':aL}
def Cx.Ok.ahL(ok:X.Ok){b:aa}{o:Obj}(e:X.base.get? b=some o):b∉X.fs:=λhb=>by
 have:=(ok.mr.mem hb).1;rw[e]at this;cases this
def Inv.bs(I:Inv X ae σ H s):∀b o,X.base.get? b=some o->s.heap.get? b=some o/\H b=none:=λb o e=>
 #[I.base.keep b o (I.ok.bs b o e).1 (I.ok.bs b o e).2 (I.ok.ahL e) (I.ok.Bl b o e),I.base.free b o (I.ok.bs b o e).1 (I.ok.bs b o e).2 (I.ok.Bl b o e)]
def Inv.bk(I:Inv X ae σ H s):∀b o,X.base.get? b=some o->s.heap.get? b=some o:=λb o e=>(I.bs b o e).1
def Inv.mod(I:Inv X ae σ H s):Mod X.K X.mg X.base:=I.ok.mod
def Inv.gu(I:Inv X ae σ H s):X.K.In s.heap:=I.ok.mod.uQ.keeps I.bk
def Inv.fr(I:Inv X ae σ H s):∃m,Fr X.base X.env.locals s.heap m:=
 let ⟨m,hn,_⟩:=I.loc
 #[m,hn,I.bk,cp I.ok.nE I.ok.above]
def Inv.lt(I:Inv X ae σ H s):X.env.locals<s.heap.objs.size:=let ⟨_,hn,_⟩:=I.loc;hn.lt
def Inv.sz(I:Inv X ae σ H s):X.gy.heap.objs.size<=s.heap.objs.size:=cp I.ok.above (Cp I.lt)
def Inv.ahO(I:Inv X ae σ H s){a:aa}(h:s.heap.objs.size<=a):a∉X.fs:=λhb=>by
 let#[_,o,ho,_]:=I.ok.mr.mem hb;show absurd (fj (cK ho) (cp I.sz h)) (iO _)
def Inv.r8(I:Inv X ae σ H s):∀x c,X.env.cells.lookup x=some c->c≠X.env.locals:=λx c e z=>by
 let#[v,o,ho,aoF]:=I.cell x c e;let#[m,#[o',es,ep,mC,xq,_],_]:=I.loc;rw[z,mC]at ho;cases ho;rw[xq]at aoF;cases aoF
def Inv.mr(I:Inv X ae σ H s):s.heap.FunFrames X.base X.outer:=by
 have all:∀(l:List Env),(∀b∈cH l,b∈X.fs)->X.gy.heap.FunFrames X.base l->s.heap.FunFrames X.base l:=by
  intro l;induction l with
  |nil=>intro _ _;trivial
  |cons env r ih=>
   intro hs hl;let#[hk,#[L,o,hf,hn,ho,aoF],hr]:=hl;have hL:L∈X.fs:=hs L (by unfold cH;rw[yV,hf];show bq);let#[sl,e]:=I.base.slot L o ho (I.ok.uJ L hL) hL λz=>I.ok.Ac L z hL;show#[hk,#[L,_,hf,hn,e,aoF],ih (λb hb=>hs b (by unfold cH;rw[yV,hf];show bp _ hb)) hr]
 show all X.outer (λ_ hb=>hb) I.ok.mr
def Inv.stack(I:Inv X ae σ H s):s.heap.FunFrames X.base X.stack:=by
 rcases I.ok.yw with e|⟨e,hf⟩
 rw[e];show I.mr;rw[e];let#[m,hn,_]:=I.loc;apply .cons (by rw[I.ok.kind];decide) hf hn ?_ I.mr;show Heap.get?_none_of_le (cp I.ok.nE I.ok.above)
def Inv.Kw(I:Inv X ae σ H s):∀b∈cH X.stack,b∈X.env.locals::X.fs:=λb hb=>by
 rcases I.ok.yw with e|⟨e,hf⟩
 rw[e]at hb;show bp _ hb;rw[e]at hb;unfold cH at hb;rw[yV,hf]at hb;show hb
def Inv.Kv(I:Inv X ae σ H s):∀b∈cH X.stack,H b=none:=λb hb=>by
 rcases iM.mp (I.Kw b hb)with e|hb
 rw[e];show I.free;let#[_,o,ho,_]:=I.ok.mr.mem hb;show I.base.free b o ho (I.ok.uJ b hb) λz=>I.ok.Ac b z hb
def Inv.step{g':Array FX}{t':Nat}{d':Drawn}{ch:List aa}(I:Inv X ae σ H s)(pq:∀b∈ch,(b∈X.ex\/X.gy.heap.objs.size<=b)/\b≠X.env.locals/\(∀x c,X.env.cells.lookup x=some c->c≠b)/\∀p∈X.pn++ae,p.1≠b)(keep:∀b o,b≠X.env.locals->b∉X.fs->b∉ch->s.heap.get? b=some o->H b=none->h'.get? b=some o)(slot:∀b o,b≠X.env.locals->b∈X.fs->b∉ch->s.heap.get? b=some o->H b=none->∃sl,h'.get? b=some { o with slots:=sl })(free:∀b o,b∉ch->s.heap.get? b=some o->H b=none->H' b=none)(there:∀b o,b∉ch->s.heap.get? b=some o->∃o',h'.get? b=some o')(js:∀b xs,H b=some (.tup xs)->H' b=some (.tup xs))(iz:∀b o u,H b=some (.cT o u)->H' b=some (.cT o u))(jr:∀b ps,H b=some (.q5 ps)->∃more,H' b=some (.q5 (ps++more)))(ns:∀m,s.heap.Ns X.env.locals m->h'.Ns X.env.locals m)(aS:dk X.prog X.w H' h')(hg:rg g'):
  Inv X ae σ H' { s with heap:=h',gens:=g',drawn:=d',toks:=t' }:=by
 have RK:∀b o,X.gy.heap.get? b=some o->b≠X.env.locals:=λb o e=>dZ (fj (cK e) I.ok.above);have xX:∀b o,X.gy.heap.get? b=some o->b∉X.ex->b∉ch:=λb o e hx hb=>by
  rcases(pq b hb).1 with z|z
  show hx z;show absurd (fj (cK e) z) (iO _)
 have NG:∀x c,X.env.cells.lookup x=some c->∀v,s.heap.IsCell c v->h'.IsCell c v:=λx c e v ⟨o,ho,aoF⟩=>by
  have Bi:c∉ch:=λz=>(pq c z).2.2.1 x c e rfl;by_cases hc:c∈X.fs
  let#[sl,q]:=slot c o (I.r8 x c e) hc Bi ho (I.kx x c e);show#[_,q,aoF];show#[o,keep c o (I.r8 x c e) hc Bi ho (I.kx x c e),aoF]
 apply#[I.ok,I.os,hg,#[λb o e n hb hx=>?_,λb o e n hb hx=>?_,λb o e n hx=>?_,λb o e hx=>?_,λb xs e=>js b xs (I.base.js b xs e),λb o xs e=>iz b o xs (I.base.iz b o xs e),λb ps e=>?_],?_,λx c e=>?_,?_,λx c e=>?_,λp hp=>?_,aS,I.len];show keep b o (RK b o e) hb (xX b o e hx) (I.base.keep b o e n hb hx) (I.base.free b o e n hx);let#[sl,e1]:=I.base.slot b o e n hb hx;let#[BM,e2]:=slot b _ (RK b o e) hb (xX b o e hx) e1 (I.base.free b o e n hx);show#[BM,e2];let#[o',e1]:=I.base.there b o e hx;show free b o' (xX b o e hx) e1 (I.base.free b o e n hx);let#[o',e1]:=I.base.there b o e hx;show there b o' (xX b o e hx) e1;let#[m1,e1]:=I.base.jr b ps e;let#[m2,e2]:=jr b _ e1;show#[m1++m2,by rw[e2,B3]];let#[m,hn,hl]:=I.loc;apply#[m,ns m hn,λi x v e1 e2 e3=>?_];let#[u,r,l]:=hl i x v e1 e2 e3;apply#[u,r,?_];rcases l with l|⟨k,c,e,z⟩
 show .inl l;show .inr #[k,c,e,NG x c e _ z];let#[v,z]:=I.cell x c e;show#[v,NG x c e v z];let#[m,#[o,_,_,ho,_],_]:=I.loc;show free _ o (λz=>(pq _ z).2.1 rfl) ho I.free;let#[v,o,ho,aoF]:=I.cell x c e;show free c o (λz=>(pq c z).2.2.1 x c e rfl) ho (I.kx x c e);let#[e,n,ne,nf,d]:=I.pin p hp;have Bi:p.1∉ch:=λz=>(pq p.1 z).2.2.2 p hp rfl;show#[keep p.1 p.2 ne nf Bi e n,free p.1 p.2 Bi e n,ne,nf,d]
def Inv.un{t':Nat}(I:Inv X ae σ H s)(u:Un X.fs [] H H' s.heap h')(aS:dk X.prog X.w H' h'):Inv X ae σ H' { s with heap:=h',toks:=t' }:=by
 let#[m,#[o,es,ep,ho,r],_]:=id I.loc;let#[sl,hL]:=u.any ho I.free ();show I.step (g':=s.gens) (d':=s.drawn) (ch:=[]) (λ_ z=>nomatch z) (λb o _ hb _ e n=>u.keep b o e n hb ()) (λb o _ hb _ e n=>u.slot b o e n hb ()) (λb o _ e n=>u.free b o e n ()) (λb o _ e=>u.there b o e ()) u.js u.iz u.jr (λm' hm=>by
  let#[o',qu,qt,mC,r']:=hm;rw[ho]at mC;cases mC;show#[_,qu,qt,hL,r']) aS I.bare
def Inv.call{g':Array FX}{t':Nat}{d':Drawn}{ch:List aa}(I:Inv X ae σ H s)(u:Un (cH X.stack) ch H H' s.heap h')(aS:dk X.prog X.w H' h')(hg:rg g')(pq:∀b∈ch,(b∈X.ex\/X.gy.heap.objs.size<=b)/\b≠X.env.locals/\(∀x c,X.env.cells.lookup x=some c->c≠b)/\∀p∈X.pn++ae,p.1≠b):
  Inv X ae σ H' { s with heap:=h',gens:=g',drawn:=d',toks:=t' }:=by
 let#[m,#[o,es,ep,ho,r],_]:=id I.loc;let#[sl,hL]:=u.any ho I.free λz=>(pq _ z).2.1 rfl;show I.step (ch:=ch) pq (λb o hL hb hc e n=>u.keep b o e n (λz=>(iM.mp (I.Kw b z)).elim hL hb) hc) (λb o _ _ hc e n=>u.any e n hc) (λb o hc e n=>u.free b o e n hc) (λb o hc e=>u.there b o e hc) u.js u.iz u.jr (λm' hm=>by
  let#[o',qu,qt,mC,r']:=hm;rw[ho]at mC;cases mC;show#[_,qu,qt,hL,r']) aS hg
def Inv.turned{t':Nat}{it:aa}(I:Inv X ae σ H s)(k:∀b o,b≠it->s.heap.get? b=some o->h'.get? b=some o)(hn:H it=none)(hL:it≠X.env.locals)(h1:it∈X.ex\/X.gy.heap.objs.size<=it)(h2:∀x c,X.env.cells.lookup x=some c->c≠it)(h3:∀p∈X.pn++ae,p.1≠it):Inv X ae σ H { s with heap:=h',toks:=t' }:=by
 have sJ:∀b u,H b=some u->b≠it:=λb u e z=>by rw[z,hn]at e;cases e
 apply I.step (g':=s.gens) (d':=s.drawn) (ch:=[it]) (λb hb=>?_) (λb o _ _ hc e _=>k b o (λz=>hc (by simp[z])) e) (λb o _ _ hc e _=>#[o.slots,k b o (λz=>hc (by simp[z])) e]) (λ_ _ _ _ n=>n)
  (λb o hc e=>#[o,k b o (λz=>hc (by simp[z])) e]) (λ_ _ e=>e) (λ_ _ _ e=>e) (λb ps e=>#[(List.toArray []),by rw[e];simp]) (λm hm=>?_) (λb u e=>?_) I.bare
 have e:b=it:=by simpa using hb
 subst e;show#[h1,hL,h2,h3];let#[o,es,ep,ho,r]:=hm;show#[o,es,ep,k _ o (iP hL) ho,r];apply(I.aS b u e).kW (λc v hc q=>k c v ?_ q) (λ_ q=>q) λ_ _ q=>q;obtain z|z:=hc
 rw[z];show sJ b u e;show sJ c _ z
def Inv.tok(I:Inv X ae σ H s)(t:Nat):Inv X ae σ H { s with toks:=t }:=I.un (h':=s.heap) (t':=t) Un.refl I.aS
def Inv.kept{t':Nat}(I:Inv X ae σ H s)(k:∀b u,s.heap.get? b=some u->h'.get? b=some u):Inv X ae σ H { s with heap:=h',toks:=t' }:=I.un (Un.kept k) (I.aS.kept k)
def Inv.laid{a:aa}{o:HO}{t':Nat}(I:Inv X ae σ H s)(k:∀b u,s.heap.get? b=some u->h'.get? b=some u)(hp:s.heap.objs.size<=a)(new:dM X.prog X.w (upd H a o) h' a o):
  Inv X ae σ (upd H a o) { s with heap:=h',toks:=t' }:=I.un (Un.laid k hp (I.aS.fresh hp)) (I.aS.laid k hp new)
def Inv.write{x e:aa}{o:HO}{t':Nat}(I:Inv X ae σ H s)(mu:rD (H x))(he:e=x\/H e=some (.own x))(k:∀b u,b≠e->s.heap.get? b=some u->h'.get? b=some u)(xx:∃u,h'.get? e=some u)(new:dM X.prog X.w (upd H x o) h' x o):Inv X ae σ (upd H x o) { s with heap:=h',toks:=t' }:=I.un (Un.write mu he k xx) (I.aS.write mu he k xx new)
def Inv.weak{σ':List (Option V)}(I:Inv X ae σ H s)(hl:σ'.length=σ.length)(w:∀(i:Nat) v,σ'[i]? =some (some v)->σ[i]? =some (some v)):Inv X ae σ' H s:=
 #[I.ok,I.os,I.bare,I.base,let ⟨m,hn,AM⟩:=I.loc;#[m,hn,λi x v e1 e2 e3=>AM i x v e1 (w i v e2) e3],I.cell,I.free,I.kx,I.pin,I.aS,hl.trans I.len]
def Inv.Sq{So:List (aa×Obj)}(I:Inv X ae σ H s)(h:∀p∈So,s.heap.get? p.1=some p.2/\H p.1=none/\p.1≠X.env.locals/\p.1∉X.fs/\∀v,p.2.data≠.cell v):Inv X So σ H s:=
 #[I.ok,I.os,I.bare,I.base,I.loc,I.cell,I.free,I.kx,λp hp=>(wa.mp hp).elim (λz=>I.pin p (wb _ z)) (h p),I.aS,I.len]
def JR{N:List Str}(hN:N.Nodup){i j:Nat}{x:Str}(a:N[i]? =some x)(b:N[j]? =some x):i=j:=by
 let#[h1,e1]:=List.getElem?_eq_some_iff.mp a;let#[h2,e2]:=List.getElem?_eq_some_iff.mp b;show(LP hN).mp (e1.trans e2.symm)
def Ud{M:p7}{A:ci}{E:af->ax->Prop}{i:Nat}{x:Str}{v:V}{u:af}{Q:Unit->ax->Prop}(I:Inv X ae σ H s)(hN:X.N.Nodup)(hi:X.N[i]? =some x)(hx:Loc X.env.scope x)(r:RelV v u)(h:∀s',Inv X ae (σ.set i (some v)) H s'->(∃a,Cb a s.heap s'.heap/\(a=X.env.locals\/X.env.cells.lookup x=some a))->Q #[] s')(hf:X.fn x=true\/X.env.scope.names.lookup x=some .local:=by first|show .inl rfl|show .inr rfl|assumption):aK M A (storeName X.env x u) Q E s:=by
 let#[m,hn,hl]:=id I.loc;have adO:(X.env.scope.kind==.class||(X.env.scope.kind==.module&&X.env.locals != X.env.globals))=false:=by rw[I.ok.kind];rfl
 have P7:i<σ.length:=by rw[I.len];show(List.getElem?_eq_some_iff.mp hi).1
 have r8:=I.r8;have tracked:∀{a:aa}{h':aL},(∃o,s.heap.get? a=some o/\H a=none)->Cb a s.heap h'->dk X.prog X.w H h':=λ{a h'} ha hs b ob e=>by
  let#[_,_,xy]:=ha;apply(I.aS b ob e).kW (λc w' hc q=>(hs.2 c ?_).trans q) (λ_ q=>q) λ_ _ q=>q;rintro rfl;obtain rfl|hc:=hc
  rw[xy]at e;cases e;rw[xy]at hc;cases hc
 obtain hk|hk:=hx
 apply wpAny_storeName_local hk hn (λh' sw hs=>?_) adO;let#[oL,_,_,aeH,_]:=id hn;apply h _ #[I.ok,I.os,I.bare,#[λb o e n hb hx=>?_,λb o e n hb hx=>?_,I.base.free,λb o e hx=>?_,I.base.js,I.base.iz,I.base.jr],#[_,sw,λj y v' e1 e2 e3=>?_],λy c e=>?_,I.free,I.kx,λp hp=>?_,tracked #[oL,aeH,I.free] hs,by simpa using I.len] #[_,hs,.inl rfl];show(hs.2 b (dZ (fj (cK e) I.ok.above))).trans (I.base.keep b o e n hb hx);let#[sl,e1]:=I.base.slot b o e n hb hx;show#[sl,(hs.2 b (dZ (fj (cK e) I.ok.above))).trans e1];let#[o',e1]:=I.base.there b o e hx;show#[o',(hs.2 b (dZ (fj (cK e) I.ok.above))).trans e1];by_cases hj:j=i
 subst hj;rw[hi]at e1;cases e1;rw[LN P7]at e2;cases e2;show#[u,r,.inl #[hk,by simp]];rw[LM (iP hj)]at e2;let#[u',r',q]:=hl j y v' e1 e2 e3;apply#[u',r',?_];rcases q with⟨k,e⟩|⟨k,c,e,z⟩
 apply .inl #[k,?_];have:y≠x:=λe=>hj (JR hN e1 (e▸hi));simp[this,e];show .inr #[k,c,e,z.sameBut hs (r8 y c e)];let#[w',z]:=I.cell y c e;show#[w',z.sameBut hs (r8 y c e)];let#[e,n,ne,nf,d]:=I.pin p hp;show#[(hs.2 p.1 ne).trans e,n,ne,nf,d];have IR:X.fn x=true:=by
  obtain z|z:=hf
  show z;rw[z]at hk;cases hk
 let#[c,hc]:=I.ok.has x (.inl hk);let#[w',z]:=I.cell x c hc;apply wpAny_storeName_cell I.ok.kind hk hc z (λh' mw hs=>?_);let#[oc,xA,aeK]:=id z;apply h { s with heap:=h' } #[I.ok,I.os,I.bare,#[λb o e n hb hx=>?_,λb o e n hb hx=>?_,I.base.free,λb o e hx=>?_,I.base.js,I.base.iz,I.base.jr],#[m,hn.sameBut hs (iP (r8 x c hc)),λj y v' e1 e2 e3=>?_],λy c' e=>?_,I.free,I.kx,λp hp=>?_,tracked #[oc,xA,I.kx x c hc] hs,by simpa using I.len] #[c,hs,.inr hc];show(hs.2 b (dZ (fj (cK e) (I.ok.zO x c IR hc)))).trans (I.base.keep b o e n hb hx);let#[sl,e1]:=I.base.slot b o e n hb hx;show#[sl,(hs.2 b (dZ (fj (cK e) (I.ok.zO x c IR hc)))).trans e1];let#[o',e1]:=I.base.there b o e hx;show#[o',(hs.2 b (dZ (fj (cK e) (I.ok.zO x c IR hc)))).trans e1];by_cases hj:j=i
 subst hj;rw[hi]at e1;cases e1;rw[LN P7]at e2;cases e2;show#[u,r,.inr #[.inl hk,c,hc,mw]];rw[LM (iP hj)]at e2;let#[u',r',q]:=hl j y v' e1 e2 e3;apply#[u',r',?_];rcases q with q|⟨k,c',e,z'⟩
 show .inl q;apply .inr #[k,c',e,z'.sameBut hs ?_];rintro rfl;show hj (JR hN e1 (I.ok.inj _ _ _ e hc▸hi));by_cases DM:c'=c
 subst DM;show#[_,mw];let#[w2,z2]:=I.cell y c' e;show#[w2,z2.sameBut hs DM];let#[e,n,ne,nf,d]:=I.pin p hp;apply#[(hs.2 p.1 ?_).trans e,n,ne,nf,d];intro q;rw[q,xA]at e;have q':oc=p.2:=cV e;show d w' (by rw[<-q'];show aeK)
def Uc{M:p7}{A:ci}{E:af->ax->Prop}{i:Nat}{x:Str}{v:V}{u:af}{Q:Unit->ax->Prop}(I:Inv X ae σ H s)(hN:X.N.Nodup)(hi:X.N[i]? =some x)(hx:Loc X.env.scope x)(r:RelV v u)(h:∀s',Inv X ae (σ.set i (some v)) H s'->Q #[] s')(hf:X.fn x=true\/X.env.scope.names.lookup x=some .local:=by first|show .inl rfl|show .inr rfl|assumption):aK M A (storeName X.env x u) Q E s:=
 Ud I hN hi hx r (λs' I' _=>h s' I') hf
def Inv.NA{s':ax}{ch:List aa}(I:Inv X ae σ H s)(ho:s'.os=s.os)(u:Un (cH X.stack) ch H H' s.heap s'.heap)(aS:dk X.prog X.w H' s'.heap)(hg:rg s'.gens)(pq:∀b∈ch,(b∈X.ex\/X.gy.heap.objs.size<=b)/\b≠X.env.locals/\(∀x c,X.env.cells.lookup x=some c->c≠b)/\∀p∈X.pn++ae,p.1≠b):Inv X ae σ H' s':=by
 let#[h',g',d',t',o']:=s';have e:o'=s.os:=ho;subst e;show I.call (g':=g') (t':=t') (d':=d') u aS hg pq
end
abbrev XK:=af->Option aa->Hp->Prop
abbrev St:=List (Option V)
abbrev VK:=V->Hp->Prop
abbrev TE:=St->Hp->VK->Prop
abbrev TT:=St->Hp->(Bool->Hp->Prop)->Prop
abbrev TA:=St->Hp->(List V->Hp->Prop)->Prop
structure m7 where
 nx:St->Hp->Prop
 rt:VK
 bk:St->Hp->Prop:=λ_ _=>False
 ct:St->Hp->Prop:=λ_ _=>False
abbrev TS:=m7->St->Hp->Prop
inductive EP (X:Cx)(ae:List (aa×Obj))(σ:St)(Q:VK)(u:af)(s':ax):Prop|mk (v:V) (H':Hp) (i:Inv X ae σ H' s') (r:RelV v u) (q:Q v H')
inductive TP (X:Cx)(ae:List (aa×Obj))(σ:St)(Q:Bool->Hp->Prop)(b:Bool)(s':ax):Prop|mk (H':Hp) (i:Inv X ae σ H' s') (q:Q b H')
inductive AP (X:Cx)(ae:List (aa×Obj))(σ:St)(Q:List V->Hp->Prop)(us:List af)(s':ax):Prop|mk (vs:List V) (H':Hp) (i:Inv X ae σ H' s') (r:bi vs us) (q:Q vs H')
inductive SN (X:Cx)(ae:List (aa×Obj))(D:St->Hp->Prop)(s':ax):Prop|mk (σ':St) (H':Hp) (i:Inv X ae σ' H' s') (q:D σ' H')
inductive SR (X:Cx)(ae:List (aa×Obj))(D:VK)(u:af)(s':ax):Prop|mk (v:V) (σ':St) (H':Hp) (i:Inv X ae σ' H' s') (r:RelV v u) (q:D v H')
def SP(X:Cx)(ae:List (aa×Obj))(D:m7)(f:Flow)(s':ax):Prop:=
 match f with
 | .next=>SN X ae D.nx s'
 | .brk=>SN X ae D.bk s'
 | .cont=>SN X ae D.ct s'
 | .ret u=>SR X ae D.rt u s'
def PE(X:Cx)(e:Expr)(t:TE):Prop:=
 ∀(ae:List (aa×Obj))(s:ax)(σ:St)(H:Hp)(Q:VK),Inv X ae σ H s->t σ H Q->aK (aR X.prog X.w) X.A (eval e X.env) (EP X ae σ Q) X.xe s
def PT(X:Cx)(e:Expr)(t:TT):Prop:=
 ∀(ae:List (aa×Obj))(s:ax)(σ:St)(H:Hp)(Q:Bool->Hp->Prop),Inv X ae σ H s->t σ H Q->aK (aR X.prog X.w) X.A (xK e X.env (eval e X.env)) (TP X ae σ Q) X.xe s
def PW(X:Cx)(e:Expr)(t:TT):Prop:=
 ∀(whole:Sem af)(ae:List (aa×Obj))(s:ax)(σ:St)(H:Hp)(Q:Bool->Hp->Prop),Inv X ae σ H s->t σ H Q->aK (aR X.prog X.w) X.A (xK e X.env whole) (TP X ae σ Q) X.xe s
def PW.pt{X:Cx}{e:Expr}{t:TT}(h:PW X e t):PT X e t:=h _
def PA(X:Cx)(es:List Expr)(t:TA):Prop:=
 ∀(pos:Pos)(ae:List (aa×Obj))(s:ax)(σ:St)(H:Hp)(Q:List V->Hp->Prop),Inv X ae σ H s->t σ H Q->aK (aR X.prog X.w) X.A (spliced (eL pos (bJ es X.env))) (AP X ae σ Q) X.xe s
def PS(X:Cx)(st:dt)(t:TS):Prop:=
 ∀(ae:List (aa×Obj))(s:ax)(σ:St)(H:Hp)(D:m7),Inv X ae σ H s->t D σ H->aK (aR X.prog X.w) X.A (exec st X.env) (SP X ae D) X.xe s
def lA(X:Cx)(st:List dt)(t:TS):Prop:=
 ∀(ae:List (aa×Obj))(s:ax)(σ:St)(H:Hp)(D:m7),Inv X ae σ H s->t D σ H->aK (aR X.prog X.w) X.A (execs st X.env) (SP X ae D) X.xe s
def cI{α:Type}{t:Sem α}{Q Q':α->ax->Prop}{M:p7}{A:ci}{E:af->ax->Prop}{s:ax}(h:aK M A t Q E s)(hQ:∀a s,Q a s->Q' a s):aK M A t Q' E s:=mW h hQ λ_ _ x=>x
def dz{X:Cx}{ae:List (aa×Obj)}{σ:St}{M:p7}{A:ci}{E:af->ax->Prop}{s:ax}{Q:VK}{t:Sem af}{Q':af->ax->Prop}(h:aK M A t (EP X ae σ Q) E s)(hQ:∀u s x H,Inv X ae σ H s->RelV x u->Q x H->Q' u s):aK M A t Q' E s:=cI h λu s ⟨x,H,i,r,q⟩=>hQ u s x H i r q
def oq{X:Cx}{ae:List (aa×Obj)}{σ:St}{M:p7}{A:ci}{E:af->ax->Prop}{s:ax}{Q:List V->Hp->Prop}{t:Sem (List af)}{Q':List af->ax->Prop}(h:aK M A t (AP X ae σ Q) E s)(hQ:∀u s x H,Inv X ae σ H s->bi x u->Q x H->Q' u s):aK M A t Q' E s:=cI h λu s ⟨x,H,i,r,q⟩=>hQ u s x H i r q
def KO{X:Cx}{ae:List (aa×Obj)}{σ:St}{M:p7}{A:ci}{E:af->ax->Prop}{s:ax}{Q:Bool->Hp->Prop}{t:Sem Bool}{Q':Bool->ax->Prop}(h:aK M A t (TP X ae σ Q) E s)(hQ:∀b s H,Inv X ae σ H s->Q b H->Q' b s):aK M A t Q' E s:=cI h λu s ⟨H,i,q⟩=>hQ u s H i q
section
variable{X:Cx}
def Bn(o:Option (Option V))(p:V->Prop):Prop:=match o with|some (some v)=>p v|_=>False
def kN(x:V)(p:Bool->Prop):Prop:=match x with| .bl c=>p c|_=>False
def dR(x:V)(p:Int->Prop):Prop:=match x with| .int c=>p c|_=>False
def u7(x:V)(p:Prop):Prop:=match x with| .str _=>p|_=>False
def qS(x:V)(p:aa->Prop):Prop:=match x with| .ref c=>p c|_=>False
section
variable{o o':Option (Option V)}{p:V->Prop}{b:Bool->Prop}{i:Int->Prop}{j:Int->Int->Prop}{s:Prop}{r:aa->Prop}{x x' y:V}{c:Bool}{d:Int}{f:Str}{a:aa}
def Bn.ex(h:Bn o p):∃v,o=some (some v)/\p v:=match o,h with|some (some v),h=>#[v,rfl,h]
def kN.ex(h:kN x b):∃c,x=.bl c/\b c:=by cases x<;>first|show#[_,rfl,h]|show h.elim
def dR.ex(h:dR x i):∃c,x=.int c/\i c:=by cases x<;>first|show#[_,rfl,h]|show h.elim
def dR.ex2(h:dR x λc=>dR y (j c)):∃c d,x=.int c/\y=.int d/\j c d:=by
 let#[c,e,k]:=dR.ex h;let#[d,g,l]:=dR.ex k;show#[c,d,e,g,l]
def u7.ex(h:u7 x s):(∃a,x=.str a)/\s:=by cases x<;>first|show#[#[_,rfl],h]|show h.elim
def qS.ex(h:qS x r):∃c,x=.ref c/\r c:=by cases x<;>first|show#[_,rfl,h]|show h.elim
def Ew{v:V}:Bn (some (some v)) p=p v:=rfl
def oa:kN (.bl c) b=b c:=rfl
def sP:dR (.int d) i=i d:=rfl
def aow:dR (.str f) i=False:=rfl
def aov:dR (.ref a) i=False:=rfl
def aox:u7 (.str f) s=s:=rfl
def Ev:qS (.ref a) r=r a:=rfl
end
def BV(i:Nat):TE:=λσ H Q=>Bn σ[i]? λv=>Q v H
def tC(v:V):TE:=λ_ H Q=>Q v H
def aiv{i:Nat}{x:Str}{pos:Pos}(hN:X.N[i]? =some x)(hv:uu X.env.scope x)(aoF:(x==("__debug__":Str))=false:=by decide)(my:(x==("__classdict__":Str))=false:=by decide):PE X (.Name x pos) (BV i):=by
 intro ae s σ H Q I h;let#[v,e,h]:=Bn.ex h;let#[m,hn,hl]:=I.loc;let#[u,r,l]:=hl i x v hN e hv;have bW:EP X ae σ Q u s:=#[v,H,I,r,h];rcases l with⟨hk,hm⟩|⟨hk,c,hc,DN⟩
 show Fo (am5 I.ok.kind hk hn hm bW) aoF;obtain hk|hk:=hk
 show Fo (wpAny_loadName_cell I.ok.kind hk hc DN bW) aoF;show Fo (am4 I.ok.kind hk hc DN bW my) aoF
def cS{i j pos}:PE X (.Constant (.int i) j pos) (tC (.int i)):=λ_ _ _ H _ I h=>wpAny_Constant_int #[.int i,H,I.tok _,#[_,rfl],h]
def qU{b j pos}:PE X (.Constant (.bool b) j pos) (tC (.bl b)):=λ_ _ _ H _ I h=>Constant_bool #[.bl b,H,I,rfl,h]
def bG{x j pos}:PE X (.Constant (.str x) j pos) (tC (.str x)):=λ_ _ _ H _ I h=>Calls.Constant_str #[.str x,H,I.tok _,#[_,rfl],h]
def Gl(X:Cx)(x:Str):Prop:=X.env.kindOf x=some .globalImplicit
def xS{E:af->ax->Prop}{ae:List (aa×Obj)}{s:ax}{σ:St}{H:Hp}{x:Str}{u:af}{pos:Pos}{Q:af->ax->Prop}(I:Inv X ae σ H s)(hg:Gl X x)(hm:X.mg x=some u)(h:Q u s)(aoF:(x==("__debug__":Str))=false:=by decide):aK (aR X.prog X.w) X.A (eval (.Name x pos) X.env) Q E s:=
 Vo I.ok.kind hg (Calls.loadGlobal_global (by rw[I.ok.glob];show I.mod.glob.keeps I.bk) hm h) aoF
def qK{E:af->ax->Prop}{ae:List (aa×Obj)}{s:ax}{σ:St}{H:Hp}{x:Str}{u:af}{pos:Pos}{Q:af->ax->Prop}(I:Inv X ae σ H s)(hg:Gl X x)(hm:X.mg x=none)(hv:jf x=some u)(h:Q u s)(hn:x≠"__name__":=by decide)(aoF:(x==("__debug__":Str))=false:=by decide):aK (aR X.prog X.w) X.A (eval (.Name x pos) X.env) Q E s:=by
 let#[mb,h1,h2]:=I.mod.blt;show Vo I.ok.kind hg (Calls.loadGlobal_builtin (by rw[I.ok.glob];show I.mod.glob.keeps I.bk) hm (by rw[I.ok.blt];show h1.keeps I.bk) ((h2 x hn).trans hv) h) aoF
def aim{x:Str}{v:V}{u:af}{pos:Pos}(hg:Gl X x)(hm:X.mg x=some u)(r:RelV v u)(aoF:(x==("__debug__":Str))=false:=by decide):PE X (.Name x pos) (tC v):=
 λ_ _ _ H _ I h=>xS I hg hm #[v,H,I,r,h] aoF
variable{a b:Expr}{ta tb:TE}{pos:Pos}
def PC(X:Cx)(op:CmpOp)(a b:Expr)(t:TE):Prop:=
 ∀(ae:List (aa×Obj))(s:ax)(σ:St)(H:Hp)(Q:VK),Inv X ae σ H s->t σ H Q->
  aK (aR X.prog X.w) X.A (eval a X.env) (λv s₁=>aK (aR X.prog X.w) X.A (eval b X.env) (λu s₂=>aK (aR X.prog X.w) X.A (o0 op v u) (EP X ae σ Q) X.xe s₂) X.xe s₁) X.xe s
def ahK(b:Expr){op:CmpOp}(h:op≠.In)(h2:op≠.NotIn):behindInMarks op b=false:=by
 have e1:(op==CmpOp.In)=false:=by cases op<;>first|rfl|show absurd rfl h
 have e2:(op==Vp)=false:=by cases op<;>first|rfl|show absurd rfl h2
 cases b<;>simp[behindInMarks,e1,e2]
def tB(t:TE):TT:=λσ H Q=>t σ H λx H1=>kN x λc=>Q c H1
def aiE{op:CmpOp}{t:TE}(h:PC X op a b t)(h1:behindInMarks op b=false:=by first|show ahK _ () ()|rfl):PT X (.Compare a [op] [b] pos) (tB t):=by
 intro ae s σ H Q I hw;apply am3 (cI (h ae s σ H _ I hw) λv s1 h1=>cI h1 λu s2 h2=>dz h2 λc s3 x H1 I1 r1 q1=>?_) h1;let#[d,rfl,q]:=kN.ex q1;cases r1;show tR #[H1,I1,q]
variable{tA E8:TT}{bE:List Expr}
def alr(t u:TT):TT:=λσ H Q=>t σ H λc H1=>if c=true then u σ H1 Q else Q false H1
def alJ(t u:TT):TT:=λσ H Q=>t σ H λc H1=>if c=true then Q true H1 else u σ H1 Q
def alH(t:TT):TT:=λσ H Q=>t σ H λc H1=>Q (!c) H1
def Bx(ha:PT X a tA):PW X (.BoolOp .And [a] pos) tA:=by
 intro wh ae s σ H Q I h;apply isTrue_and (cI (ha ae s σ H Q I h) λc s1 e=>?_);cases c with
 |true=>show isTrue_and_nil e
 |false=>show e
def oj(ha:PT X a tA):PW X (.BoolOp .Or [a] pos) tA:=by
 intro wh ae s σ H Q I h;apply isTrue_or (cI (ha ae s σ H Q I h) λc s1 e=>?_);cases c with
 |false=>show isTrue_or_nil e
 |true=>show e
def Bw(ha:PT X a tA)(hb:PW X (.BoolOp .And (b::bE) pos) E8):PW X (.BoolOp .And (a::b::bE) pos) (alr tA E8):=by
 intro wh ae s σ H Q I h;apply isTrue_and (KO (ha ae s σ H _ I h) λc s1 H1 I1 q1=>?_);cases c with
 |true=>show hb wh ae s1 σ H1 Q I1 q1
 |false=>show#[H1,I1,q1]
def jm(ha:PT X a tA)(hb:PW X (.BoolOp .Or (b::bE) pos) E8):PW X (.BoolOp .Or (a::b::bE) pos) (alJ tA E8):=by
 intro wh ae s σ H Q I h;apply isTrue_or (KO (ha ae s σ H _ I h) λc s1 H1 I1 q1=>?_);cases c with
 |true=>show#[H1,I1,q1]
 |false=>show hb wh ae s1 σ H1 Q I1 q1
def gx(ha:PT X a tA):PT X (.UnaryOp .Not a pos) (alH tA):=by
 intro ae s σ H Q I h;show isTrue_not (cI (ha ae s σ H (λc H1=>Q (!c) H1) I h) λ_ _ ⟨a,b,c⟩=>#[a,b,c])
def als(ta tb:TE):TE:=λσ H Q=>ta σ H λx H1=>kN x λc=>if c=true then tb σ H1 Q else Q (.bl false) H1
def alK(ta tb:TE):TE:=λσ H Q=>ta σ H λx H1=>kN x λc=>if c=true then Q (.bl true) H1 else tb σ H1 Q
def alI(ta:TE):TE:=λσ H Q=>ta σ H λx H1=>kN x λc=>Q (.bl (!c)) H1
def qW{op}{t:TE}(h:PE X a t):PE X (.BoolOp op [a] pos) t:=λae s σ H Q I hw=>BoolOp_one (h ae s σ H Q I hw)
def u_(ha:PE X a ta)(hb:PE X (.BoolOp .And (b::bE) pos) tb):PE X (.BoolOp .And (a::b::bE) pos) (als ta tb):=by
 intro ae s σ H Q I h;apply BoolOp_and (dz (ha ae s σ H _ I h) λv s1 x H1 I1 r1 q1=>?_);let#[c,rfl,q1]:=kN.ex q1;cases r1;apply tR ?_;cases c with
 |true=>show hb ae s1 σ H1 Q I1 q1
 |false=>show#[.bl false,H1,I1,rfl,q1]
def J3(ha:PE X a ta)(hb:PE X (.BoolOp .Or (b::bE) pos) tb):PE X (.BoolOp .Or (a::b::bE) pos) (alK ta tb):=by
 intro ae s σ H Q I h;apply BoolOp_or (dz (ha ae s σ H _ I h) λv s1 x H1 I1 r1 q1=>?_);let#[c,rfl,q1]:=kN.ex q1;cases r1;apply tR ?_;cases c with
 |false=>show hb ae s1 σ H1 Q I1 q1
 |true=>show#[.bl true,H1,I1,rfl,q1]
def Bt(ha:PE X a ta):PE X (.UnaryOp .Not a pos) (alI ta):=by
 intro ae s σ H Q I h;apply UnaryOp_ (dz (ha ae s σ H _ I h) λv s1 x H1 I1 r1 q1=>?_);let#[c,rfl,q1]:=kN.ex q1;cases r1;show not_of (tR #[.bl (!c),H1,I1,rfl,q1])
def alz(t:TT)(ta tb:TE):TE:=λσ H Q=>t σ H λc H1=>if c=true then ta σ H1 Q else tb σ H1 Q
def qV{c:Expr}(hc:PT X c tA)(ha:PE X a ta)(hb:PE X b tb):PE X (.IfExp c a b pos) (alz tA ta tb):=by
 intro ae s σ H Q I h;apply wpAny_IfExp (cI (hc ae s σ H _ I h) λd s1 ⟨H1,I1,q1⟩=>?_);cases d with
 |true=>show ha ae s1 σ H1 Q I1 q1
 |false=>show hb ae s1 σ H1 Q I1 q1
end
def az(K:aP)(H:Hp)(a:aa)(xs:List V):Prop:=
 Rd H a (.lst xs)\/
  ∃(o:Obj)(aF:Array af)(n:Nat),K.lookup a=some o/\o.cls=.type "list"/\o.dict=none/\o.data=.seq aF n/\aF.size<=sizeLine/\bi xs aF.toList
def bL(K:aP)(H:Hp)(a:aa)(xs:List V):Prop:=
 Rd H a (.tup xs)\/
  ∃(o:Obj)(aF:Array af)(n:Nat),K.lookup a=some o/\o.cls=.type "tuple"/\o.data=.seq aF n/\aF.size<=sizeLine/\bi xs aF.toList
def X0:af->Option V
 | .none=>some .bn
 | .bool b=>some (.bl b)
 | .int i _=>some (.int i)
 | .str x _=>some (.str x)
 | .bytes b _=>some (.gP b)
 | .float b _=>some (.DE b)
 | .ref a=>some (.ref a)
 | .type n=>some (.ty n)
 |_=>none
def RelV.abs{x:V}{u:af}(r:RelV x u):X0 u=some x:=by
 cases x with
 |bn=>cases r;rfl
 |bl _=>cases r;rfl
 |int _=>let#[t,rfl]:=r;rfl
 |str _=>let#[t,rfl]:=r;rfl
 |gP _=>let#[t,rfl]:=r;rfl
 |DE _=>let#[t,rfl]:=r;rfl
 |ref _=>cases r;rfl
 |ty _=>cases r;rfl
def RelV.inj{x y:V}{u:af}(r:RelV x u)(q:RelV y u):x=y:=cV (r.abs.symm.trans q.abs)
theorem bi.inj:∀{xs ys:List V}{us:List af},bi xs us->bi ys us->xs=ys
 |_,_,_,.nil,.nil=>rfl
 |_,_,_,.cons r t,.cons r' t'=>by rw[r.inj r',bi.inj t t']
section
variable{X:Cx}{ae:List (aa×Obj)}{σ:St}{H:Hp}{s:ax}{a:aa}{xs ys:List V}
def az.of{K:aP}(h:H a=some (.lst xs)):az K H a xs:=.inl (.inl h)
def bL.of{K:aP}(h:H a=some (.tup xs)):bL K H a xs:=.inl (.inl h)
def Inv.list(I:Inv X ae σ H s)(h:az X.K H a xs):∃aF:List af,bi xs aF/\PlainL s.heap a aF.toArray/\xs.length<=sizeLine:=by
 rcases h with h|⟨o,aF,n,hk,hc,aoF,hs,hz,r⟩
 let#[z,aF,n,r,e]:=h.ok I.aS;show#[aF,r,#[_,n,e,rfl,rfl,rfl],z];apply#[aF.toList,r,#[o,n,I.gu a o hk,hc,aoF,by simpa using hs],?_];have e:=r.length;simp![l_]at e;omega
def Inv.tuple(I:Inv X ae σ H s)(h:bL X.K H a xs):∃aF:List af,bi xs aF/\IsTup s.heap a aF.toArray/\xs.length<=sizeLine:=by
 rcases h with h|⟨o,aF,n,hk,hc,hs,hz,r⟩
 let#[z,aF,r,p]:=h.ok I.aS;show#[aF,r,p,z];apply#[aF.toList,r,#[o,I.gu a o hk,hc,n,by simpa using hs],?_];have e:=r.length;simp![l_]at e;omega
def Inv.Jy(I:Inv X ae σ H s)(h:az X.K H a xs)(h':az X.K H a ys):xs=ys:=by
 let#[aF,r,#[o,n,e,_,_,d],_]:=I.list h;let#[its',r',#[o',n',e',_,_,d'],_]:=I.list h';rw[e]at e';cases e';rw[d]at d';injection d' with d1 _
 have:aF=its':=by simpa using dX Lj d1
 subst this;show r.inj r'
def Inv.amB(I:Inv X ae σ H s)(h:bL X.K H a xs)(h':bL X.K H a ys):xs=ys:=by
 let#[aF,r,#[o,e,_,n,d],_]:=I.tuple h;let#[its',r',#[o',e',_,n',d'],_]:=I.tuple h';rw[e]at e';cases e';rw[d]at d';injection d' with d1 _
 have:aF=its':=by simpa using dX Lj d1
 subst this;show r.inj r'
end
abbrev Cx.fw(X:Cx)(E:af->ax->Prop):Cx:={ X with xe:=E }
def Cx.Ok.fw{X:Cx}(ok:X.Ok)(E:af->ax->Prop):(X.fw E).Ok:=
 #[ok.mod,ok.kind,ok.glob,ok.blt,ok.above,ok.inj,ok.has,ok.zO,ok.aoF,ok.frames,ok.yw,ok.DA,ok.bs,ok.nE,ok.Bl,ok.Ac,ok.mr,ok.uJ]
section
variable{X:Cx}{ae:List (aa×Obj)}{σ:St}{H:Hp}{s:ax}{E:af->ax->Prop}
def Inv.fw(I:Inv X ae σ H s)(E:af->ax->Prop):Inv (X.fw E) ae σ H s:=#[I.ok.fw E,I.os,I.bare,I.base,I.loc,I.cell,I.free,I.kx,I.pin,I.aS,I.len]
end
section
variable{X:Cx}{st:dt}{bE:List dt}{t u:TS}{e:Expr}{te:TE}{pos:Pos}
def alG:TS:=λD σ H=>D.nx σ H
def alN(t u:TS):TS:=λD σ H=>t { D with nx:=u D } σ H
def bZ:lA X [] alG:=λ_ _ σ H _ I h=>Fq #[σ,H,I,h]
def aC(h1:PS X st t)(h2:lA X bE u):lA X (st::bE) (alN t u):=by
 intro ae s σ H D I h;apply wpAny_execs_cons (cI (h1 ae s σ H { D with nx:=u D } I h) λf s1 q=>?_);cases f with
 |next=>
  let#[σ',H',I',q]:=q;show h2 ae s1 σ' H' D I' q
 |ret v=>show q
 |brk=>show q
 |cont=>show q
def aA(h1:PS X st t):lA X [st] t:=by
 intro ae s σ H D I h;apply wpAny_execs_cons (cI (h1 ae s σ H D I h) λf s1 q=>?_);cases f with
 |next=>show Fq q
 |ret v=>show q
 |brk=>show q
 |cont=>show q
def Inv.quiet{ae:List (aa×Obj)}{σ:St}{H:Hp}{s:ax}(I:Inv X ae σ H s):interactive X.env=false:=by simp[interactive,I.ok.kind]
def alx(te:TE):TS:=λD σ H=>te σ H λ_ H1=>D.nx σ H1
def e9(he:PE X e te)(hs:vy e none pos.line X.env=pure false:=by rfl):PS X (.Expr e pos) (alx te):=by
 intro ae s σ H D I h;show wpAny_Expr_any (dz (he ae s σ H _ I h) λv s1 x H1 I1 r1 q1=>#[σ,H1,I1,q1]) I.quiet hs
def alM(te:TE):TS:=λD σ H=>te σ H D.rt
def aT(he:PE X e te):PS X (.Return (some e) pos) (alM te):=by
 intro ae s σ H D I h;show wpAny_Return_some (dz (he ae s σ H _ I h) λv s1 x H1 I1 r1 q1=>#[x,σ,H1,I1,r1,q1])
def aoB:TS:=λD _ H=>D.rt .bn H
def alA(c:TT)(t u:TS):TS:=λD σ H=>c σ H λb H1=>if b=true then t D σ H1 else u D σ H1
def bY{c:Expr}{a b:List dt}{tc:TT}(hc:PT X c tc)(ha:lA X a t)(hb:lA X b u):PS X (.If c a b pos) (alA tc t u):=by
 intro ae s σ H D I h;apply wpAny_If (cI (hc ae s σ H _ I h) λd s1 ⟨H1,I1,q1⟩=>?_);cases d with
 |true=>show ha ae s1 σ H1 D I1 q1
 |false=>show hb ae s1 σ H1 D I1 q1
end
abbrev TG:=V->St->Hp->(St->Hp->Prop)->Prop
abbrev rK:=List V->St->Hp->(St->Hp->Prop)->Prop
def PG(X:Cx)(yB:Expr)(t:TG):Prop:=
 ∀(ae:List (aa×Obj))(s:ax)(σ:St)(H:Hp)(v:V)(u:af)(Q:St->Hp->Prop),Inv X ae σ H s->RelV v u->t v σ H Q->
  aK (aR X.prog X.w) X.A (wT yB X.env u) (λ_ s'=>∃σ' H',Inv X ae σ' H' s'/\Q σ' H') X.xe s
def y_(X:Cx)(ts:List Expr)(t:rK):Prop:=
 ∀(ae:List (aa×Obj))(s:ax)(σ:St)(H:Hp)(vs:List V)(us:List af)(Q:St->Hp->Prop),Inv X ae σ H s->bi vs us->t vs σ H Q->
  aK (aR X.prog X.w) X.A (assignInOrder ((uw ts X.env).map (·.2)) us) (λ_ s'=>∃σ' H',Inv X ae σ' H' s'/\Q σ' H') X.xe s
abbrev GG:=V->V->V->Hp->(Hp->Prop)->Prop
def Mi(X:Cx)(t:GG):Prop:=
 ∀(ae:List (aa×Obj))(s:ax)(σ:St)(H:Hp)(o i v:V)(ov iv u:af)(Q:Hp->Prop),Inv X ae σ H s->RelV o ov->RelV i iv->RelV v u->t o i v H Q->
  aK (aR X.prog X.w) X.A (setItem ov iv u) (λ_ s'=>∃H',Inv X ae σ H' s'/\Q H') X.xe s
section
variable{X:Cx}{pos:Pos}
def iU(i:Nat):TG:=λv σ H Q=>Q (σ.set i (some v)) H
def aiw{i:Nat}{x:Str}(hN:X.N.Nodup)(hi:X.N[i]? =some x)(hx:Loc X.env.scope x)(hf:X.fn x=true\/X.env.scope.names.lookup x=some .local:=by first|show .inl rfl|show .inr rfl|assumption):PG X (.Name x pos) (iU i):=by
 intro ae s σ H v u Q I r h;show am2 (Uc I hN hi hx r (λs' I'=>#[_,H,I',h]) hf)
def Pn:rK:=λvs σ H Q=>vs=[]/\Q σ H
def Io(t:TG)(u:rK):rK:=λvs σ H Q=>∃v r,vs=v::r/\t v σ H λσ' H'=>u r σ' H' Q
def vc:y_ X [] Pn:=by
 intro ae s σ H vs us Q I r h;let#[e,h]:=h;subst e;cases r;show assignInOrder_nil #[σ,H,I,h]
def kP{e:Expr}{es:List Expr}{t:TG}{u:rK}(h1:PG X e t)(h2:y_ X es u)(hs:(uw (e::es) X.env).map (·.2)=wT e X.env::(uw es X.env).map (·.2):=by rfl):y_ X (e::es) (Io t u):=by
 intro ae s σ H vs us Q I r h;let#[v,vr,e1,h]:=h;subst e1;cases r with
 |cons r rr=>
  rw[hs];apply assignInOrder_cons (cI (h1 ae s σ H _ _ _ I r h) λ_ s1 ⟨σ1,H1,I1,q1⟩=>?_);show h2 ae s1 σ1 H1 _ _ Q I1 rr q1
def Ip(K:aP)(n:Nat)(t:rK):TG:=λv σ H Q=>∃a xs,v=.ref a/\bL K H a xs/\xs.length=n/\t xs σ H Q
def yh{es:List Expr}{k:Nat}{t:rK}{n:Nat}(hc:X.calm=true)(h:y_ X es t)(hn:(uw es X.env).length=n:=by rfl)(e7:(uw es X.env).findIdx? (·.1)=none:=by rfl):PG X (.Tuple es k pos) (Ip X.K n t):=by
 intro ae s σ H v u Q I r hw;let#[a,xs,e1,hq,hl,hw]:=hw;subst e1;cases r;let#[aF,rv,ht,hz]:=I.tuple hq;apply assign_Tuple_tuple (I.ok.aoF hc) ht (by simp[hn,<-hl,rv.length]) e7 λh' hx=>?_;have I1:Inv X ae σ H { s with heap:=h' }:=I.kept (t':=s.toks) λb o e=>hx b o (dZ (cK e)) e;show h ae _ σ H xs _ Q I1 (by simpa using rv) hw
def adc(to ti:TE)(t:GG):TG:=λv σ H Q=>to σ H λo H1=>ti σ H1 λi H2=>t o i v H2 λH3=>Q σ H3
def J4{o i:Expr}{to ti:TE}{t:GG}(ho:PE X o to)(hi:PE X i ti)(hs:Mi X t)(ha:∀v,wT (.Subscript o i pos) X.env v=(do
   let ov<-lM [v] (eval o X.env)
   let iv<-lM [v,ov] (eval i X.env)
   tJ pos
   lM [v,ov,iv] (setItem ov iv v)
   release [v,ov,iv] []):=by intro _;rfl):PG X (.Subscript o i pos) (adc to ti t):=by
 intro ae s σ H v u Q I r h;rw[ha];apply aI (tQ (dz (ho ae s σ H _ I h) λov s1 x H1 I1 r1 q1=>?_));apply aI (tQ (dz (hi ae s1 σ H1 _ I1 q1) λiv s2 y H2 I2 r2 q2=>?_));apply aI (Le (aI (tQ (cI (hs ae s2 σ H2 x y v ov iv u _ I2 r1 r2 r q2) λ_ s3 ⟨H3,I3,q3⟩=>?_))));show wpAny_release #[σ,H3,I3,q3]
def E7(te:TE)(g:TG):TS:=λD σ H=>te σ H λx H1=>g x σ H1 D.nx
def Ka{tg e:Expr}{te:TE}{g:TG}(he:PE X e te)(hg:PG X tg g)(hs:swapsWithSole [tg] e pos.line X.env=pure false:=by rfl)(hw:swappedStores [tg] e X.env=pure none:=by rfl)(h1:(uw [tg] X.env).map (·.2)=[wT tg X.env]:=by rfl):PS X (.Assign [tg] e pos) (E7 te g):=by
 intro ae s σ H D I h;apply wpAny_Assign_stores (dz (he ae s σ H _ I h) λv s1 x H1 I1 r1 q1=>?_) hs hw;rw[h1];show cI (hg ae s1 σ H1 x v _ I1 r1 q1) λ_ s2 ⟨a,b,c,d⟩=>#[a,b,c,d]
def Kc{i:Nat}{x:Str}{e:Expr}{te:TE}{lT:Pos}(hN:X.N.Nodup)(hi:X.N[i]? =some x)(hx:Loc X.env.scope x)(he:PE X e te)(hs:vy e (some (.Name x lT)) pos.line X.env=pure false:=by rfl)(hf:X.fn x=true\/X.env.scope.names.lookup x=some .local:=by first|show .inl rfl|show .inr rfl|assumption):
  PS X (.Assign [.Name x lT] e pos) (E7 te (iU i)):=by
 intro ae s σ H D I h;apply wpAny_Assign_Name (dz (he ae s σ H _ I h) λv s1 y H1 I1 r1 q1=>?_) hs;show Uc I1 hN hi hx r1 (λs2 I2=>#[_,H1,I2,q1]) hf
def alU(c:TT)(tb:TS):TS:=λD σ H=>∃W:Nat->St->Hp->Prop,(∃m,W m σ H)/\∀m σ H,W m σ H->
 c σ H λb H1=>if b=true then ∃N:St->Hp->Prop,(∀σ' H',N σ' H'->∃m',m'<m/\W m' σ' H')/\tb { D with nx:=N,ct:=N,bk:=D.nx } σ H1 else D.nx σ H1
def ve{c:Expr}{fS:List dt}{tc:TT}{tb:TS}(hp:PassesOwn (aR X.prog X.w) X.A X.env X.xe)(hc:PT X c tc)(hb:lA X fS tb):PS X (.While c fS [] pos) (alU tc tb):=by
 intro ae s σ H D I h;let#[W,#[m0,w0],vC]:=h;apply wpAny_While (codeAny_whileLoop (λn s'=>∃σ' H',Inv X ae σ' H' s'/\W n σ' H') ?_ m0 #[σ,H,I,w0]);rintro n s1 ⟨σ1,H1,I1,w1⟩;apply yH hp (KO (hc ae s1 σ1 H1 _ I1 (vC n σ1 H1 w1)) λb s2 H2 I2 q2=>?_);cases b with
 |true=>
  let#[N,hN,q2]:=q2;rw[aq rfl];apply yH hp (cI (hb ae s2 σ1 H2 _ I2 q2) λf s3 q3=>?_);cases f with
  |next=>
   let#[σ3,H3,I3,n3]:=q3;let#[m',hm,w3]:=hN σ3 H3 n3;show#[m',hm,σ3,H3,I3,w3]
  |cont=>
   let#[σ3,H3,I3,n3]:=q3;let#[m',hm,w3]:=hN σ3 H3 n3;show#[m',hm,σ3,H3,I3,w3]
  |brk=>show q3
  |ret v=>show q3
 |false=>
  rw[ay dh];show Fq #[σ1,H2,I2,q2]
end
structure It where
 go:Nat->Hp->Prop
 ib:Nat->Hp->V->Hp->Prop
 stop:Nat->Hp->Prop
def me(X:Cx)(ae:List (aa×Obj))(H:Hp)(b:aa):Prop:=
 H b=none/\b≠X.env.locals/\b∉X.fs/\(b∈X.ex\/X.gy.heap.objs.size<=b)/\(∀x c,X.env.cells.lookup x=some c->c≠b)/\∀p∈X.pn++ae,p.1≠b
def Inv.xk{X:Cx}{ae:List (aa×Obj)}{σ:St}{H H':Hp}{s:ax}{b:aa}(I:Inv X ae σ H s)(hb:s.heap.objs.size<=b)(hn:H' b=none):me X ae H' b:=by
 apply#[hn,wj (fj I.lt hb),I.ahO hb,.inr (cp I.sz hb),λx c e z=>?_,λp hp z=>?_];let#[v,q]:=I.cell x c e;show absurd (fj q.lt (by rw[z];show hb)) (iO _);show absurd (fj (cK (I.pin p hp).1) (by rw[z];show hb)) (iO _)
structure rL (P:aZ)(w:aW)(K:aP)(tg:Expr)(J:It)(fp:List aa)(it:aa)(tn:Nat->aL->Prop):Prop where
 mem:it∈fp
 obj:∀i h,tn i h->∀b∈fp,∃o,h.get? b=some o/\∀v,o.data≠.cell v
 keep:∀i h h',tn i h->(∀b∈fp,∀o,h.get? b=some o->h'.get? b=some o)->tn i h'
 item:∀(X:Cx),X.prog=P->X.w=w->X.K=K->X.calm=true->∀(i:Nat)(ae:List (aa×Obj))(s:ax)(σ:St)(H:Hp)(E:af->ax->Prop),Inv X ae σ H s->(∀b∈fp,me X ae H b)->tn i s.heap->J.go i H->
  aK (aR P w) X.A (kU (.ref it)) (λr s1=>∃u,r=some u/\
   aK (aR P w) X.A (Jv tg (.ref it) u) (λ_ s2=>∃x H',Inv X ae σ H' s2/\RelV x u/\J.ib i H x H'/\tn (i+1) s2.heap/\∀b∈fp,H' b=none) E s1) E s
 done:∀(X:Cx),X.prog=P->X.w=w->X.K=K->X.calm=true->∀(i:Nat)(ae:List (aa×Obj))(s:ax)(σ:St)(H:Hp)(E:af->ax->Prop),Inv X ae σ H s->(∀b∈fp,me X ae H b)->tn i s.heap->J.stop i H->
  aK (aR P w) X.A (kU (.ref it)) (λr s1=>r=none/\Inv X ae σ H s1) E s
 self:∀(A:ci)(i:Nat)(s:ax)(Q:af->ax->Prop)(E:af->ax->Prop),tn i s.heap->Q (.ref it) s->aK (aR P w) A (By (.ref it)) Q E s
abbrev TI:=St->Hp->(It->Hp->Prop)->Prop
def Cu(X:Cx)(ae:List (aa×Obj))(σ:St)(tg:Expr)(R:It->Hp->Prop)(Jm:af)(s2:ax):Prop:=
 ∃(it:aa)(fp:List aa)(tn:Nat->aL->Prop)(J:It)(H':Hp),Jm=.ref it/\Inv X ae σ H' s2/\rL X.prog X.w X.K tg J fp it tn/\tn 0 s2.heap/\(∀b∈fp,me X ae H' b)/\R J H'
def PI(X:Cx)(tg fE:Expr)(wi:TI):Prop:=
 ∀(ae:List (aa×Obj))(s:ax)(σ:St)(H:Hp)(R:It->Hp->Prop),Inv X ae σ H s->wi σ H R->
  aK (aR X.prog X.w) X.A (eval fE X.env) (λv s1=>aK (aR X.prog X.w) X.A (By v) (Cu X ae σ tg R) X.xe s1) X.xe s
def DI{M:p7}{A:ci}{E:af->ax->Prop}{s:ax}{tg:Expr}{it:aa}{u:af}{o:Obj}{n:String}{vs:Array af}{Q:Unit->ax->Prop}(ho:s.heap.get? it=some o)(hc:o.cls=.type n)(aoF:o.data=.fields vs)(hn:["enumerate","zip","dict_itemiterator","dict_reverseitemiterator","odict_iterator","itertools.zip_longest","itertools.pairwise"].contains n=false)(hQ:Q #[] s):aK M A (Jv tg (.ref it) u) Q E s:=by
 unfold Jv;cases tg<;>first
  |show bR hQ
  |(cases u<;>first
    |show bR hQ
    |(apply aI (wpAny_load ho ?_)
      rw[hc,aoF];show aK M A (if (["enumerate","zip","dict_itemiterator","dict_reverseitemiterator","odict_iterator","itertools.zip_longest","itertools.pairwise"].contains n&&vs[0]? ==some (lU _))=true then _ else _) Q E s;rw[ay (by intro h;rw[hn,ow]at h;cases h)];show bR hQ))
def gE(K:aP)(a:aa):It:=
 #[λi H=>∃xs x,az K H a xs/\xs[i]? =some x,λi H x H'=>H'=H/\∀xs,az K H a xs->xs[i]? =some x,λi H=>∃xs,az K H a xs/\xs.length<=i]
def i'(lo:Int)(n:Nat):It:=#[λi _=>i<n,λi H x H'=>H'=H/\x=.int (lo+i),λi _=>n<=i]
def amD{P:aZ}{w:aW}{K:aP}{tg:Expr}(a it:aa):rL P w K tg (gE K a) [it] it (λi h=>h.IsListIter it a i) where
 mem:=by simp
 obj:=λi h st b hb=>by
  have e:b=it:=by simpa using hb
  subst e;let#[o,e,c,d]:=st;show#[o,e,λv z=>by rw[d]at z;cases z]
 keep:=λi h h' st k=>st.at λo e=>k it () o e
 item:=by
  intro X hP hw hK hc i ae s σ H E I hf st hg;subst hP hw hK;let#[xs,x,hq,hx]:=hg;let#[aF,rv,p,hz]:=I.list hq;let#[u,hu,ru]:=rv.get hx;let#[f0,f1,f2,f3,f4,f5]:=hf it ();apply wpAny_pyNext_list_item st p.isList (x:=u) (by simpa using hu) λh' jq sb=>?_;have I1:Inv X ae σ H { s with heap:=h' }:=I.turned (t':=s.toks) (λb o hb e=>(sb.2 b hb).trans e) f0 f1 f3 f4 f5;let#[o,e,c,d]:=id jq;show#[u,rfl,DI (s:={ s with heap:=h' }) e c d () #[x,H,I1,ru,#[rfl,λys hy=>by rw[I.Jy hy hq];show hx],jq,λb hb=>(hf b hb).1]]
 done:=by
  intro X hP hw hK hc i ae s σ H E I hf st hg;subst hP hw hK;let#[xs,hq,hx]:=hg;let#[aF,rv,p,hz]:=I.list hq;let#[f0,f1,f2,f3,f4,f5]:=hf it ();have hl:=rv.length;show wpAny_pyNext_list_end (I.ok.aoF hc) st p.isList (by simp;omega) λh' eb=>#[rfl,I.turned (t':=s.toks) (λb o hb e=>eb b o hb e) f0 f1 f3 f4 f5]
 self:=λ_ _ _ _ _ st h=>wpAny_pyIter_listiter st h
def amE{P:aZ}{w:aW}{K:aP}{tg:Expr}(it:aa)(lo:Int)(n:Nat):rL P w K tg (i' lo n) [it] it (λi h=>IsRangeIter h it (lo+(i:Nat)*1) ((n:Int)-(i:Nat)) 1) where
 mem:=by simp
 obj:=λi h st b hb=>by
  have e:b=it:=by simpa using hb
  subst e;show#[_,st,λv z=>by
   have z':Data.fields _=Data.cell v:=z;cases z']
 keep:=λi h h' st k=>k it () _ st
 item:=by
  intro X hP hw hK hc i ae s σ H E I hf st hg;subst hP hw hK;let#[f0,f1,f2,f3,f4,f5]:=hf it ();have W:=Walks.range (prog:=X.prog) (w:=X.w) (I.ok.aoF hc) it lo 1 n;apply W.item i s _ _ hg st λv h' tk hv jq kk=>?_;let#[t,rfl]:=hv;have I1:Inv X ae σ H { s with heap:=h',toks:=tk }:=I.turned (λb o hb e=>kk b o (by simpa using hb) e) f0 f1 f3 f4 f5;apply#[_,rfl,DI (s:={ s with heap:=h',toks:=tk }) (n:="range_iterator") jq rfl rfl () #[.int (lo+i),H,I1,#[t,?_],#[rfl,rfl],jq,λb hb=>(hf b hb).1]];rw[Int.mul_one]
 done:=by
  intro X hP hw hK hc i ae s σ H E I hf st hg;subst hP hw hK;let#[f0,f1,f2,f3,f4,f5]:=hf it ();show wpAny_pyNext_range_end (I.ok.aoF hc) st (by have:n<=i:=hg;omega) λh' eb=>#[rfl,I.turned (t':=s.toks) (λb o hb e=>eb b o hb e) f0 f1 f3 f4 f5]
 self:=λ_ _ _ _ _ st h=>wpAny_pyIter_rangeiter st h
section
variable{X:Cx}{tg:Expr}
def aff(K:aP)(tl:TE):TI:=λσ H R=>tl σ H λx H1=>∃a,x=.ref a/\(∃xs,az K H1 a xs)/\R (gE K a) H1
def eF{l:Expr}{tl:TE}(hl:PE X l tl):PI X tg l (aff X.K tl):=by
 intro ae s σ H R I h;apply cI (hl ae s σ H _ I h) λv s1 ⟨x,H1,I1,r1,q1⟩=>?_;let#[a,e,#[xs,hq],q]:=q1;subst e;cases r1;let#[aF,rv,p,hz]:=I1.list hq;apply Lc p.isList ?_;apply#[s1.heap.objs.size,[s1.heap.objs.size],_,_,H1,rfl,I1.kept (t':=s1.toks) λb o e=>cJ _ e,amD a _,#[_,eV _ rfl,rfl,rfl],λb hb=>?_,q];have e:b=s1.heap.objs.size:=by simpa using hb
 subst e;show I1.xk (bj _) (I1.aS.fresh (bj _))
def SH{ae:List (aa×Obj)}{σ:St}{H:Hp}{s:ax}{R:It->Hp->Prop}{E:af->ax->Prop}{lo hi:Int}{t u v:Tok}{tk:Nat}(I:Inv X ae σ H s)(h1: -(2 ^ 62)<=lo)(h2:lo<2 ^ 62)(h3: -(2 ^ 62)<=hi)(h4:hi<2 ^ 62)(q:R (i' lo (hi-lo).toNat) H):aK (aR X.prog X.w) X.A (By (.ref s.heap.objs.size)) (Cu X ae σ tg R) E { s with heap:=s.heap.push { cls:=.type "range",data:=.fields (List.toArray [.int lo t,.int hi u,.int 1 v]) },toks:=tk }:=by
 apply wpAny_pyIter_range (IsRange.new ..) (small_one h1 h2 h3 h4) ?_;have I1:Inv X ae σ H { s with heap:=s.heap.push { cls:=.type "range",data:=.fields (List.toArray [.int lo t,.int hi u,.int 1 v]) },toks:=tk }:=I.kept λb o e=>cJ _ e;apply#[(s.heap.push { cls:=.type "range",data:=.fields (List.toArray [.int lo t,.int hi u,.int 1 v]) }).objs.size,[(s.heap.push { cls:=.type "range",data:=.fields (List.toArray [.int lo t,.int hi u,.int 1 v]) }).objs.size],_,_,H,rfl,
  I1.kept (t':=tk) λb o e=>cJ _ e,amE _ lo (hi-lo).toNat,?_,λb hb=>?_,q]
 have e1:lo+((0:Nat):Int)*1=lo:=by simp
 have e2:(((hi-lo).toNat:Nat):Int)-((0:Nat):Int)=and lo hi 1:=by rw[rangeSize_one];split<;>omega
 show IsRangeIter _ _ (lo+((0:Nat):Int)*1) ((((hi-lo).toNat:Nat):Int)-((0:Nat):Int)) 1;rw[e1,e2];show eV _ rfl;have e:b=(s.heap.push { cls:=.type "range",data:=.fields (List.toArray [.int lo t,.int hi u,.int 1 v]) }).objs.size:=by simpa using hb
 subst e;show I1.xk (bj _) (I1.aS.fresh (bj _))
def afg(ta:TA):TI:=λσ H R=>ta σ H λvs H1=>∃j:Int,vs=[.int j]/\ -(2 ^ 62)<=j/\j<2 ^ 62/\R (i' 0 j.toNat) H1
def afh(ta:TA):TI:=λσ H R=>ta σ H λvs H1=>∃i j:Int,vs=[.int i,.int j]/\(-(2 ^ 62)<=i/\i<2 ^ 62/\ -(2 ^ 62)<=j/\j<2 ^ 62)/\R (i' i (j-i).toNat) H1
def EG{a:Expr}{ta:TA}{p pos:Pos}(hg:Gl X "range")(hm:X.mg "range"=none)(ha:PA X [a] ta)(hs:bJ [a] X.env=[(false,eval a X.env)]:=by rfl):PI X tg (.Call (.Name "range" p) [a] [] pos) (afg ta):=by
 intro ae s σ H R I h;apply Call_ (qK I hg hm boot_range (Cv (oq (ha pos ae s σ H _ I h) λus s1 vs H1 I1 r1 q1=>?_) hs rfl));let#[j,e,q1,q2,q]:=q1;subst e;cases r1 with
 |cons r rr=>
  cases rr;let#[t,rfl]:=r;show call_range_1 (SH I1 () () q1 q2 (by simpa using q))
def aix{a b:Expr}{ta:TA}{p pos:Pos}(hg:Gl X "range")(hm:X.mg "range"=none)(ha:PA X [a,b] ta)(hs:bJ [a,b] X.env=[(false,eval a X.env),(false,eval b X.env)]:=by rfl)(AQ:bJ [b] X.env=[(false,eval b X.env)]:=by rfl):
  PI X tg (.Call (.Name "range" p) [a,b] [] pos) (afh ta):=by
 intro ae s σ H R I h;apply Call_ (qK I hg hm boot_range (Cv (oq (ha pos ae s σ H _ I h) λus s1 vs H1 I1 r1 q1=>?_) (by rw[hs,AQ]) (by rw[AQ];rfl)));let#[i,j,e,#[q1,q2,q3,q4],q]:=q1;subst e;cases r1 with
 |cons r rr=>
  cases rr with
  |cons r' rr=>
   cases rr;let#[t,rfl]:=r;let#[t',rfl]:=r';show call_range_2 (SH I1 q1 q2 q3 q4 q)
def aly(wi:TI)(g:TG)(tb:TS):TS:=λD σ H=>wi σ H λJ H1=>∃W:Nat->Nat->St->Hp->Prop,(∃m,W 0 m σ H1)/\∀i m σ H,W i m σ H->
 (J.stop i H/\D.nx σ H)\/(J.go i H/\∃N:St->Hp->Prop,(∀σ' H',N σ' H'->∃m',m'<m/\W (i+1) m' σ' H')/\∀x H',J.ib i H x H'->g x σ H' λσ2 H2=>tb { D with nx:=N,ct:=N,bk:=D.nx } σ2 H2)
def Bu(fp:List aa)(h:aL):List (aa×Obj):=fp.filterMap λb=>(h.get? b).map λo=>(b,o)
def JH{fp:List aa}{h:aL}{b:aa}{o:Obj}(hb:b∈fp)(e:h.get? b=some o):(b,o)∈Bu fp h:=List.mem_filterMap.mpr #[b,hb,by rw[e];rfl]
def ah3{fp:List aa}{h:aL}{p:aa×Obj}(hp:p∈Bu fp h):p.1∈fp/\h.get? p.1=some p.2:=by
 let#[b,hb,e]:=List.mem_filterMap.mp hp;cases q:h.get? b with
 |none=>rw[q]at e;cases e
 |some o=>
  rw[q]at e;have e':(b,o)=p:=cV e;subst e';show#[hb,q]
def Inv.pinned{ae:List (aa×Obj)}{σ:St}{H:Hp}{s:ax}{fp:List aa}(I:Inv X ae σ H s)(hf:∀b∈fp,me X ae H b)(ho:∀b∈fp,∃o,s.heap.get? b=some o/\∀v,o.data≠.cell v):Inv X (ae++Bu fp s.heap) σ H s:=
 I.Sq λp hp=>(wa.mp hp).elim (λz=>I.pin p (p5 _ z)) λz=>by
  let#[hb,e]:=ah3 z;let#[f0,f1,f2,_]:=hf p.1 hb;let#[o,e',d]:=ho p.1 hb;rw[e]at e';cases e';show#[e,f0,f1,f2,d]
def Inv.Ff{ae pl:List (aa×Obj)}{σ:St}{H:Hp}{s:ax}(I:Inv X (ae++pl) σ H s):Inv X ae σ H s:=I.Sq λp hp=>I.pin p (p5 _ (wb _ hp))
def kR{fE:Expr}{fS:List dt}{wi:TI}{g:TG}{tb:TS}{pos:Pos}(hp:PassesOwn (aR X.prog X.w) X.A X.env X.xe)(hc:X.calm=true)(hi:PI X tg fE wi)(hg:PG X tg g)(hb:lA X fS tb)(hs:∀x,foldedSetIterable fE X.env x=pure x:=by intro _;rfl):PS X (.For tg fE fS [] pos) (aly wi g tb):=by
 intro ae s σ H D I h;apply wpAny_For (cI (hi ae s σ H _ I h) λv s1 h1=>cI h1 λJm s2 h2=>?_) hs;let#[it,fp,tn,J,H2,e,I2,T,E6,f2,W,#[m0,w0],vC]:=h2;subst e;have vx:∀{H':Hp},(∀b∈fp,H' b=none)->∀b∈fp,me X ae H' b:=λhn b hb=>#[hn b hb,(f2 b hb).2];apply codeAny_forLoop_any (λn s'=>∃i σ' H',Inv X ae σ' H' s'/\tn i s'.heap/\(∀b∈fp,H' b=none)/\W i n σ' H') ?_ m0 #[0,σ,H2,I2,E6,λb hb=>(f2 b hb).1,w0];rintro n s3 ⟨i,σ3,H3,I3,fY,Ph,w3⟩;rcases vC i n σ3 H3 w3 with⟨stop,qn⟩|⟨go,N,hN,step⟩
 apply yH hp (cI (T.done X rfl rfl rfl hc i ae s3 σ3 H3 X.xe I3 (vx Ph) fY stop) λr s4 ⟨hr,I4⟩=>?_);subst hr;show Fq #[σ3,H3,I4,qn];apply yH hp (cI (T.item X rfl rfl rfl hc i ae s3 σ3 H3 X.xe I3 (vx Ph) fY go) λr s4 ⟨u,hr,h4⟩=>?_);subst hr;apply yH hp (cI h4 λ_ s5 ⟨x,H5,I5,r5,y5,tH,ac8⟩=>?_);have I5':=I5.pinned (vx ac8) (T.obj _ _ tH);apply yH hp (cI (hg _ s5 σ3 H5 x u _ I5' r5 (step x H5 y5)) λ_ s6 ⟨σ6,H6,I6,q6⟩=>?_);apply yH hp (cI (hb _ s6 σ6 H6 _ I6 q6) λf s7 q7=>?_);have again:∀{σ7:St}{H7:Hp},Inv X (ae++Bu fp s5.heap) σ7 H7 s7->N σ7 H7->∃m,m<n/\∃i σ' H',Inv X ae σ' H' s7/\tn i s7.heap/\(∀b∈fp,H' b=none)/\W i m σ' H':=λ{σ7 H7} I7 n7=>by
  let#[m',hm,w7]:=hN σ7 H7 n7;apply#[m',hm,i+1,σ7,H7,I7.Ff,T.keep _ _ _ tH λb hb o e=>(I7.pin (b,o) (p5 _ (p5 _ (JH hb e)))).1,λb hb=>?_,w7];let#[o,e,d]:=T.obj _ _ tH b hb;show(I7.pin (b,o) (p5 _ (p5 _ (JH hb e)))).2.1
 cases f with
 |next=>let#[σ7,H7,I7,n7]:=q7;show again I7 n7
 |cont=>let#[σ7,H7,I7,n7]:=q7;show again I7 n7
 |brk=>let#[σ7,H7,I7,q7]:=q7;show#[σ7,H7,I7.Ff,q7]
 |ret v=>let#[x7,σ7,H7,I7,r7,q7]:=q7;show#[x7,σ7,H7,I7.Ff,r7,q7]
end
def ss{K:aP}{a:aa}{xs:List V}{g:TG}{tb:TS}{D:m7}{σ:St}{H:Hp}(Pv:Nat->St->Hp->Prop)(h0:Pv 0 σ H)(hl:∀i σ H,i<=xs.length->Pv i σ H->az K H a xs)(hs:∀i x σ H,xs[i]? =some x->Pv i σ H->g x σ H λσ2 H2=>tb { D with nx:=Pv (i+1),ct:=Pv (i+1),bk:=D.nx } σ2 H2)(aoF:∀σ H,Pv xs.length σ H->D.nx σ H):
  ∃W:Nat->Nat->St->Hp->Prop,(∃m,W 0 m σ H)/\∀i m σ H,W i m σ H->
   ((gE K a).stop i H/\D.nx σ H)\/((gE K a).go i H/\∃N:St->Hp->Prop,(∀σ' H',N σ' H'->∃m',m'<m/\W (i+1) m' σ' H')/\∀x H',(gE K a).ib i H x H'->g x σ H' λσ2 H2=>tb { D with nx:=N,ct:=N,bk:=D.nx } σ2 H2):=by
 apply#[λi m σ H=>m=xs.length-i/\i<=xs.length/\Pv i σ H,#[xs.length,by simp,eX _,h0],?_];rintro i m σ H ⟨rfl,hi,p⟩;have q:=hl i σ H hi p;by_cases hlt:i<xs.length
 apply .inr #[#[xs,xs[i],q,by simp[hlt]],Pv (i+1),λσ' H' p'=>#[xs.length-(i+1),by omega,rfl,hlt,p'],λx H' y=>?_];let#[e,y]:=y;subst e;show hs i x σ _ (y xs q) p;have e:i=xs.length:=by omega
 subst e;show .inl #[#[xs,q,bj _],aoF σ H p]
def ac2{lo:Int}{n:Nat}{g:TG}{tb:TS}{D:m7}{σ:St}{H:Hp}(Pv:Nat->St->Hp->Prop)(h0:Pv 0 σ H)(hs:∀i σ H,i<n->Pv i σ H->g (.int (lo+i)) σ H λσ2 H2=>tb { D with nx:=Pv (i+1),ct:=Pv (i+1),bk:=D.nx } σ2 H2)(aoF:∀σ H,Pv n σ H->D.nx σ H):
  ∃W:Nat->Nat->St->Hp->Prop,(∃m,W 0 m σ H)/\∀i m σ H,W i m σ H->
   ((i' lo n).stop i H/\D.nx σ H)\/((i' lo n).go i H/\∃N:St->Hp->Prop,(∀σ' H',N σ' H'->∃m',m'<m/\W (i+1) m' σ' H')/\∀x H',(i' lo n).ib i H x H'->g x σ H' λσ2 H2=>tb { D with nx:=N,ct:=N,bk:=D.nx } σ2 H2):=by
 apply#[λi m σ H=>m=n-i/\i<=n/\Pv i σ H,#[n,by simp,eX _,h0],?_];rintro i m σ H ⟨rfl,hi,p⟩;by_cases hlt:i<n
 apply .inr #[hlt,Pv (i+1),λσ' H' p'=>#[n-(i+1),by omega,rfl,hlt,p'],λx H' y=>?_];let#[e,y]:=y;subst e y;show hs i σ _ hlt p;have e:i=n:=by omega
 subst e;show .inl #[bj _,aoF σ H p]
abbrev R2:=V->V->Hp->VK->Prop
def fz(X:Cx)(f:af->af->Sem af)(r:R2):Prop:=
 ∀(ae:List (aa×Obj))(s:ax)(σ:St)(H:Hp)(x y:V)(v u:af)(Q:VK),Inv X ae σ H s->RelV x v->RelV y u->r x y H Q->
  aK (aR X.prog X.w) X.A (f v u) (EP X ae σ Q) X.xe s
def GL(X:Cx)(f:af->Sem af)(r:V->Hp->VK->Prop):Prop:=
 ∀(ae:List (aa×Obj))(s:ax)(σ:St)(H:Hp)(x:V)(v:af)(Q:VK),Inv X ae σ H s->RelV x v->r x H Q->
  aK (aR X.prog X.w) X.A (f v) (EP X ae σ Q) X.xe s
def mZ(X:Cx)(f:af)(r:List V->Hp->VK->Prop):Prop:=
 ∀(ae:List (aa×Obj))(s:ax)(σ:St)(H:Hp)(xs:List V)(us:List af)(Q:VK),Inv X ae σ H s->bi xs us->r xs H Q->
  aK (aR X.prog X.w) X.A (call f us) (EP X ae σ Q) X.xe s
def W4(X:Cx)(r:V->Hp->(Bool->Hp->Prop)->Prop):Prop:=
 ∀(ae:List (aa×Obj))(s:ax)(σ:St)(H:Hp)(x:V)(v:af)(Q:Bool->Hp->Prop),Inv X ae σ H s->RelV x v->r x H Q->
  aK (aR X.prog X.w) X.A (truthy v) (TP X ae σ Q) X.xe s
def Fb(r:R2)(ta tb:TE):TE:=λσ H Q=>ta σ H λx H1=>tb σ H1 λy H2=>r x y H2 Q
def alT(r:V->Hp->VK->Prop)(ta:TE):TE:=λσ H Q=>ta σ H λx H1=>r x H1 Q
def rI(C:Int->Int->Prop)(g:Int->Int->V):R2:=λx y H Q=>dR x λi=>dR y λj=>C i j/\Q (g i j) H
def jn(g:Int->Int->V):R2:=λx y H Q=>dR x λi=>dR y λj=>Q (g i j) H
def rU(g:Int->V):V->Hp->VK->Prop:=λx H Q=>dR x λi=>Q (g i) H
section
variable{X:Cx}{a b c:Expr}{ta tb tc:TE}{pos:Pos}
def Hb(ha:PE X a ta)(hb:PE X b tb){ae:List (aa×Obj)}{s:ax}{σ:St}{H:Hp}{R:V->V->Hp->Prop}(I:Inv X ae σ H s)(h:ta σ H λx H1=>tb σ H1 λy H2=>R x y H2){Q:af->ax->Prop}{f:af->af->Sem af}(hf:∀v u s2 x y H2,Inv X ae σ H2 s2->RelV x v->RelV y u->R x y H2->aK (aR X.prog X.w) X.A (f v u) Q X.xe s2):
  aK (aR X.prog X.w) X.A (eval a X.env) (λv s₁=>aK (aR X.prog X.w) X.A (eval b X.env) (λu s₂=>aK (aR X.prog X.w) X.A (f v u) Q X.xe s₂) X.xe s₁) X.xe s:=by
 apply dz (ha ae s σ H _ I h) λv s1 x H1 I1 r1 q1=>?_;apply dz (hb ae s1 σ H1 _ I1 q1) λu s2 y H2 I2 r2 q2=>?_;show hf v u s2 x y H2 I2 r1 r2 q2
def eD{op:Operator}{r:R2}(ho:fz X (ux op) r)(ha:PE X a ta)(hb:PE X b tb):PE X (.BinOp a op b pos) (Fb r ta tb):=by
 intro ae s σ H Q I h;show wpAny_BinOp (Hb ha hb I h λv u s2 x y H2 I2 rx ry q=>ho ae s2 σ H2 x y v u Q I2 rx ry q)
def tm{op:UnaryOp}{r:V->Hp->VK->Prop}(ho:GL X (unaryOp op) r)(ha:PE X a ta):PE X (.UnaryOp op a pos) (alT r ta):=by
 intro ae s σ H Q I h;show UnaryOp_ (dz (ha ae s σ H _ I h) λv s1 x H1 I1 r1 q1=>ho ae s1 σ H1 x v Q I1 r1 q1)
def R3{f:af->af->Sem af}{C:Int->Int->Prop}{g:Int->Int->Int}(rule:∀(i j:Int)(t u:Tok)(s:ax)(Q:af->ax->Prop)(E:af->ax->Prop),C i j->Q (.int (g i j) s.toks) { s with toks:=s.toks+1 }->aK (aR X.prog X.w) X.A (f (.int i t) (.int j u)) Q E s):
  fz X f (rI C λi j=>.int (g i j)):=by
 intro ae s σ H x y v u Q I rx ry h;let#[i,j,rfl,rfl,hc,q]:=dR.ex2 h;let#[t,rfl]:=rx;let#[t',rfl]:=ry;show rule i j t t' s _ _ hc #[.int (g i j),H,I.tok _,#[_,rfl],q]
def R4{f:af->af->Sem af}{g:Int->Int->Int}(rule:∀(i j:Int)(t u:Tok)(s:ax)(Q:af->ax->Prop)(E:af->ax->Prop),Q (.int (g i j) s.toks) { s with toks:=s.toks+1 }->aK (aR X.prog X.w) X.A (f (.int i t) (.int j u)) Q E s):
  fz X f (jn λi j=>.int (g i j)):=by
 intro ae s σ H x y v u Q I rx ry h;let#[i,j,rfl,rfl,q]:=dR.ex2 h;let#[t,rfl]:=rx;let#[t',rfl]:=ry;show rule i j t t' s _ _ #[.int (g i j),H,I.tok _,#[_,rfl],q]
def Ex{f:af->af->Sem af}{g:Int->Int->Bool}(rule:∀(i j:Int)(t u:Tok)(s:ax)(Q:af->ax->Prop)(E:af->ax->Prop),Q (.bool (g i j)) s->aK (aR X.prog X.w) X.A (f (.int i t) (.int j u)) Q E s):
  fz X f (jn λi j=>.bl (g i j)):=by
 intro ae s σ H x y v u Q I rx ry h;let#[i,j,rfl,rfl,q]:=dR.ex2 h;let#[t,rfl]:=rx;let#[t',rfl]:=ry;show rule i j t t' s _ _ #[.bl (g i j),H,I,rfl,q]
def Vn(i j:Int):Prop:=0<j/\j<1073741824
def ah7:fz X (ux .Add) (jn λi j=>.int (i+j)):=R4 λ_ _ _ _ _ _ _ q=>add_int q
def Ey:fz X (ux .Sub) (jn λi j=>.int (i-j)):=R4 λ_ _ _ _ _ _ _ q=>sub_int q
def ah':fz X (ux .FloorDiv) (rI Vn λi j=>.int (i / j)):=R3 λi j _ _ _ _ _ hc q=>by
 have h1:(0:Int)<j:=hc.1;have h2:j<1073741824:=hc.2;show floordiv_int () (by rw[Int.fdiv_eq_ediv_of_nonneg i ()];show q) (.inl (PyProof.noPylong_small ()))
def R6:fz X (ux .Mod) (rI (λ_ j=>0<j) λi j=>.int (i%j)):=R3 λi j _ _ _ _ _ hc q=>by
 have h1:(0:Int)<j:=hc;show mod_int' () (by rw[Int.fmod_eq_emod_of_nonneg i ()];show q)
def amK{f:af->Sem af}{g:Int->Int}(rule:∀(i:Int)(t:Tok)(s:ax)(Q:af->ax->Prop)(E:af->ax->Prop),Q (.int (g i) s.toks) { s with toks:=s.toks+1 }->aK (aR X.prog X.w) X.A (f (.int i t)) Q E s):
  GL X f (rU λi=>.int (g i)):=by
 intro ae s σ H x v Q I rx h;let#[i,rfl,q]:=dR.ex h;let#[t,rfl]:=rx;show rule i t s _ _ #[.int (g i),H,I.tok _,#[_,rfl],q]
def tO:GL X (unaryOp .USub) (rU λi=>.int (-i)):=amK λ_ _ _ _ _ q=>neg_int q
end
def Tn:V->V->Bool
 | .bn,.bn=>true| .bn,.int _=>true| .int _,.bn=>true| .bn,.bl _=>true| .bl _,.bn=>true| .bn,.str _=>true| .str _,.bn=>true
 | .int _,.int _=>true| .bl _,.bl _=>true| .str _,.str _=>true| .gP _,.gP _=>true
 | .int _,.str _=>true| .str _,.int _=>true| .bl _,.str _=>true| .str _,.bl _=>true
 |_,_=>false
def aiL:R2:=λx y H Q=>Tn x y=true/\Q (.bl (decide (x=y))) H
def aiQ:R2:=λx y H Q=>Tn x y=true/\Q (.bl (!decide (x=y))) H
def Oy{i j:Int}:decide (V.int i=V.int j)=(i==j):=by
 rw[cw];simp
def Ow{i j:Bool}:decide (V.bl i=V.bl j)=(i==j):=by
 rw[cw];simp
def Oz{i j:Str}:decide (V.str i=V.str j)=(i==j):=by
 rw[cw];simp
def Ox{i j:Array UInt8}:decide (V.gP i=V.gP j)=(i.toList==j.toList):=by
 rw[cw];cases i;cases j;simp
section
variable{X:Cx}{a b c:Expr}{ta tb tc:TE}{pos:Pos}
def eZ{ae:List (aa×Obj)}{σ:St}{H:Hp}{s:ax}{Q:VK}{k k':Bool}(I:Inv X ae σ H s)(q:Q (.bl k) H)(e:k=k'):EP X ae σ Q (.bool k') s:=by
 subst e;show#[.bl k,H,I,rfl,q]
def fu:fz X (o0 .Eq) aiL:=by
 intro ae s σ H x y v u Q I rx ry h;let#[hs,q]:=h;cases x with
 |bn=>
  cases rx;cases y with
  |bn=>cases ry;show PySem.EqNone.eq_none_none (eZ I q ())
  |bl j=>cases ry;show PySem.EqNone.eq_none_bool (eZ I q ())
  |int j=>let#[t',rfl]:=ry;show PySem.EqNone.eq_none_int (eZ I q ())
  |str j=>let#[t',rfl]:=ry;show PySem.EqNone.eq_none_str (eZ I q ())
  |_=>show absurd (show false=true from hs) dh
 |bl i=>
  cases rx;cases y with
  |bn=>cases ry;show PySem.EqNone.eq_bool_none (eZ I q ())
  |bl j=>cases ry;show eq_bool (eZ I q Ow)
  |str j=>let#[t',rfl]:=ry;show anh (eZ I q ())
  |_=>show absurd (show false=true from hs) dh
 |int i=>
  let#[t,rfl]:=rx;cases y with
  |bn=>cases ry;show PySem.EqNone.eq_int_none (eZ I q ())
  |int j=>let#[t',rfl]:=ry;show eq_int (eZ I q Oy)
  |str j=>let#[t',rfl]:=ry;show ani (eZ I q ())
  |_=>show absurd (show false=true from hs) dh
 |str i=>
  let#[t,rfl]:=rx;cases y with
  |bn=>cases ry;show PySem.EqNone.eq_str_none (eZ I q ())
  |bl j=>cases ry;show anj (eZ I q ())
  |int j=>let#[t',rfl]:=ry;show ank (eZ I q ())
  |str j=>let#[t',rfl]:=ry;show eq_str (eZ I q Oz)
  |_=>show absurd (show false=true from hs) dh
 |gP i=>
  let#[t,rfl]:=rx;cases y with
  |gP j=>let#[t',rfl]:=ry;show PySem.W.eq_bytes (eZ I q Ox)
  |_=>show absurd (show false=true from hs) dh
 |_=>cases y<;>show absurd (show false=true from hs) dh
def jl:fz X (o0 .NotEq) aiQ:=by
 intro ae s σ H x y v u Q I rx ry h;let#[hs,q]:=h;cases x with
 |bn=>
  cases rx;cases y with
  |bn=>cases ry;show PySem.EqNone.ne_none_none (eZ I q ())
  |bl j=>cases ry;show PySem.EqNone.ne_none_bool (eZ I q ())
  |int j=>let#[t',rfl]:=ry;show PySem.EqNone.ne_none_int (eZ I q ())
  |str j=>let#[t',rfl]:=ry;show PySem.EqNone.ne_none_str (eZ I q ())
  |_=>show absurd (show false=true from hs) dh
 |bl i=>
  cases rx;cases y with
  |bn=>cases ry;show PySem.EqNone.ne_bool_none (eZ I q ())
  |bl j=>cases ry;show ne_bool (eZ I q (dX not Ow))
  |str j=>let#[t',rfl]:=ry;show anl (eZ I q ())
  |_=>show absurd (show false=true from hs) dh
 |int i=>
  let#[t,rfl]:=rx;cases y with
  |bn=>cases ry;show PySem.EqNone.ne_int_none (eZ I q ())
  |int j=>let#[t',rfl]:=ry;show ne_int (eZ I q (dX not Oy))
  |str j=>let#[t',rfl]:=ry;show anm (eZ I q ())
  |_=>show absurd (show false=true from hs) dh
 |str i=>
  let#[t,rfl]:=rx;cases y with
  |bn=>cases ry;show PySem.EqNone.ne_str_none (eZ I q ())
  |bl j=>cases ry;show ann (eZ I q ())
  |int j=>let#[t',rfl]:=ry;show ano (eZ I q ())
  |str j=>let#[t',rfl]:=ry;show ne_str (eZ I q (dX not Oz))
  |_=>show absurd (show false=true from hs) dh
 |gP i=>
  let#[t,rfl]:=rx;cases y with
  |gP j=>let#[t',rfl]:=ry;show PySem.W.ne_bytes (eZ I q (dX not Ox))
  |_=>show absurd (show false=true from hs) dh
 |_=>cases y<;>show absurd (show false=true from hs) dh
def sV:fz X (o0 .Lt) (jn λi j=>.bl (decide (i<j))):=Ex λ_ _ _ _ _ _ _ q=>lt_int q
def R5:fz X (o0 .LtE) (jn λi j=>.bl (decide (i<=j))):=Ex λ_ _ _ _ _ _ _ q=>le_int q
def sS:fz X (o0 .Gt) (jn λi j=>.bl (decide (j<i))):=Ex λ_ _ _ _ _ _ _ q=>gt_int q
def Bp:fz X (o0 .GtE) (jn λi j=>.bl (decide (j<=i))):=Ex λ_ _ _ _ _ _ _ q=>ge_int q
def fz.or{f:af->af->Sem af}{r r':R2}(h:fz X f r)(h':fz X f r'):fz X f (λx y H Q=>r x y H Q\/r' x y H Q):=by
 intro ae s σ H x y v u Q I rx ry q;obtain q|q:=q
 show h ae s σ H x y v u Q I rx ry q;show h' ae s σ H x y v u Q I rx ry q
def bO(b:Expr){op:CmpOp}(h:op≠.In:=by decide)(h2:op≠.NotIn:=by decide):behindInMarks op b=false:=by
 have e1:(op==CmpOp.In)=false:=by cases op<;>first|rfl|show absurd rfl h
 have e2:(op==Vp)=false:=by cases op<;>first|rfl|show absurd rfl h2
 cases b<;>simp[behindInMarks,e1,e2]
def iY{op:CmpOp}{r:R2}(ho:fz X (o0 op) r)(ha:PE X a ta)(hb:PE X b tb)(hm:behindInMarks op b=false):PE X (.Compare a [op] [b] pos) (Fb r ta tb):=by
 intro ae s σ H Q I h;show wpAny_Compare1 (Hb ha hb I h λv u s2 x y H2 I2 rx ry q=>ho ae s2 σ H2 x y v u Q I2 rx ry q) hm
def alP(t:TE):TT:=λσ H Q=>t σ H λx H1=>kN x λc=>Q c H1
def bQ{op:CmpOp}{r:R2}(ho:fz X (o0 op) r)(ha:PE X a ta)(hb:PE X b tb)(hm:behindInMarks op b=false):PT X (.Compare a [op] [b] pos) (alP (Fb r ta tb)):=by
 intro ae s σ H Q I h;apply am3 (dz (ha ae s σ H _ I h) λv s1 x H1 I1 r1 q1=>dz (hb ae s1 σ H1 _ I1 q1) λu s2 y H2 I2 r2 q2=>
  cI (ho ae s2 σ H2 x y v u _ I2 r1 r2 q2) λc s3 ⟨z,H3,I3,r3,gg⟩=>?_) hm
 let#[k,e,q3]:=kN.ex gg;subst e;cases r3;show tR #[H3,I3,q3]
def CD(K:aP)(x:V)(H:Hp)(k:Bool):Prop:=
 match x with
 | .bn=>k=false
 | .bl b=>k=b
 | .int i=>k=(i != 0)
 | .str y=>y.length<=sizeLine/\k=((y.length:Int) != 0)
 | .gP y=>y.size<=sizeLine/\k=((y.size:Int) != 0)
 | .ref p=>(∃xs,az K H p xs/\k=!xs.isEmpty)\/(∃xs,bL K H p xs/\k=!xs.isEmpty)\/∃kvs,H p=some (.dK kvs)/\k=!kvs.isEmpty
 |_=>False
def afE{κ:Type}{kvs:List (κ×V)}{vs:List (κ×af)}(r:KV kvs vs):(!vs.isEmpty)=!kvs.isEmpty:=by
 cases r<;>rfl
def QJ{xs:List V}{aF:List af}(r:bi xs aF):(!aF.toArray.isEmpty)=!xs.isEmpty:=by
 cases r<;>simp
def uU:(sizeLine:Nat)<2 ^ 63:=by rw[vn];decide
def amz:W4 X (λx H Q=>∃k,CD X.K x H k/\Q k H):=by
 intro ae s σ H x v Q I rx h;let#[k,e,q]:=h;have hl:=uU;have hs:sizeLine=16777216:=vn;cases x with
 |bn=>
  cases rx;have e':k=false:=e;subst e';show truthy_none #[H,I,q]
 |bl b=>
  cases rx;have e':k=b:=e;subst e';show tR #[H,I,q]
 |int i=>
  let#[t,rfl]:=rx;have e':k=(i != 0):=e;subst e';show PySem.P.truthy_int #[H,I,q]
 |str y=>
  let#[t,rfl]:=rx;obtain⟨hy,e'⟩:y.length<=sizeLine/\k=((y.length:Int) != 0):=e;subst e';show PySem.P.truthy_str () #[H,I.tok _,q]
 |gP y=>
  let#[t,rfl]:=rx;obtain⟨hy,e'⟩:y.size<=sizeLine/\k=((y.size:Int) != 0):=e;subst e';show PySem.W.truthy_bytes () #[H,I.tok _,q]
 |ref p=>
  cases rx;have e':(∃xs,az X.K H p xs/\k=!xs.isEmpty)\/(∃xs,bL X.K H p xs/\k=!xs.isEmpty)\/∃kvs,H p=some (.dK kvs)/\k=!kvs.isEmpty:=e;rcases e' with⟨xs,hx,e'⟩|⟨xs,hx,e'⟩|⟨kvs,hx,e'⟩
  subst e';let#[aF,r,pl,hz]:=I.list hx;have hlen:=r.length;show wpAny_truthy_list pl.isList (by simp![fi];omega) #[H,I.tok _,by rw[QJ r];show q];subst e';let#[aF,r,pl,hz]:=I.tuple hx;have hlen:=r.length;show truthy_tuple pl (by simp![fi];omega) #[H,I.tok _,by rw[QJ r];show q];subst e';obtain⟨hz,hS,vs,r,m⟩:kvs.length<=sizeLine/\(p==lY)=false/\∃vs,KV kvs vs/\s.heap.DictOf (fU X.prog X.w) p vs:=I.aS p _ hx;have hlen:kvs.length=vs.length:=uh r;show wpAny_truthy_dict hS m () #[H,I.tok _,by rw[afE r];show q]
 |_=>show(show False from e).elim
def dq(ha:PE X a ta)(he:∀whole,xK a X.env whole=(do let v<-whole;tJ a.pos;lM [v] (truthy v))):
  PT X a (λσ H Q=>ta σ H λx H'=>∃k,CD X.K x H' k/\Q k H'):=by
 intro ae s σ H Q I h;show isTrue_plain (dz (ha ae s σ H _ I h) λv s1 x H1 I1 r1 q1=>amz ae s1 σ H1 x v Q I1 r1 q1) (he _)
def ah8:fz X (ux .Add) (λx y H Q=>∃i j,x=.str i/\y=.str j/\i.length+j.length<=sizeLine/\Q (.str (i++j)) H):=by
 intro ae s σ H x y v u Q I rx ry h;let#[i,j,rfl,rfl,hz,q]:=h;let#[t,rfl]:=rx;let#[t',rfl]:=ry;show add_str (λt' tk=>#[.str (i++j),H,I.tok _,#[_,rfl],q]) hz
def vals1{x:V}{us:List af}(r:bi [x] us):∃u,us=[u]/\RelV x u:=by
 cases r with
 |cons r1 r2=>cases r2;show#[_,rfl,r1]
def Zf:mZ X (.type "str") (λxs H Q=>∃i,xs=[.int i]/\i.natAbs.log2<1920/\Q (.str (toString i)) H):=by
 intro ae s σ H xs us Q I r h;let#[i,rfl,hz,q]:=h;let#[u,rfl,t,rfl]:=vals1 r;show PySem.P.str_of_int hz #[.str _,H,I.tok _,#[_,rfl],q]
def Hi:mZ X (.builtin "ord") (λxs H Q=>∃x,xs=[.str x]/\x.length=1/\Q (.int (x.cps.getD 0 0:Nat)) H):=by
 intro ae s σ H xs us Q I r h;let#[x,rfl,hz,q]:=h;let#[u,rfl,t,rfl]:=vals1 r;show ord_of_one hz #[.int _,H,I.tok _,#[_,rfl],q]
def VL(K:aP)(x:V)(H:Hp)(n:Nat):Prop:=
 match x with
 | .str y=>y.length<=sizeLine/\n=y.length
 | .gP y=>y.size<=sizeLine/\n=y.size
 | .ref p=>(∃xs,az K H p xs/\n=xs.length)\/∃xs,bL K H p xs/\n=xs.length
 |_=>False
def dW:mZ X (.builtin "len") (λxs H Q=>∃x n,xs=[x]/\VL X.K x H n/\Q (.int n) H):=by
 intro ae s σ H xs us Q I r h;let#[x,n,rfl,e,q]:=h;let#[u,rfl,rx]:=vals1 r;have hl:=uU;have hs:sizeLine=16777216:=vn;cases x with
 |str y=>
  let#[t,rfl]:=rx;obtain⟨hy,e'⟩:y.length<=sizeLine/\n=y.length:=e;subst e';show len_str () #[.int _,H,I.tok _,#[_,rfl],q]
 |gP y=>
  let#[t,rfl]:=rx;obtain⟨hy,e'⟩:y.size<=sizeLine/\n=y.size:=e;subst e';show PySem.W.len_bytes () #[.int _,H,I.tok _,#[_,rfl],q]
 |ref p=>
  cases rx;have e':(∃xs,az X.K H p xs/\n=xs.length)\/∃xs,bL X.K H p xs/\n=xs.length:=e;rcases e' with⟨xs,hx,e'⟩|⟨xs,hx,e'⟩
  subst e';let#[aF,r',pl,hz]:=I.list hx;have hlen:=r'.length;show Calls.call_len_list pl.isList (by simp![fi];omega) #[.int xs.length,H,I.tok _,#[_,by simp![fi];rw[hlen]],q];subst e';let#[aF,r',pl,hz]:=I.tuple hx;have hlen:=r'.length;show len_tuple pl (by simp![fi];omega) #[.int xs.length,H,I.tok _,#[_,by simp![fi];rw[hlen]],q]
 |_=>show(show False from e).elim
end
structure rE (h:aL)(x dx C:aa)(mA:Str->Option af):Prop where
 obj:h.get? x=some (ul C dx)
 ns:h.Ns1 dx mA
 ne:dx≠x
def agw{h:aL}{dx:aa}{mA:Str->Option af}(n:h.Ns1 dx mA):∃od,h.get? dx=some od/\∀name,GA name od=some (mA name):=by
 let#[o,es,ep,ho,aoF,hk,_,hm]:=n;apply#[o,ho,λname=>?_];have e:=hm name;unfold nsFind findBy at e;rw[<-Array.find?_toList]at e;unfold GA;rw[aoF];dsimp only;split;rename_i y q;rw[q]at e;show dX some e;rename_i q;rw[q]at e;have a:es.toList.any (·.refKey)=false:=by
  rw[VN];intro y hy;let#[z,t,aem]:=hk y (Array.mem_toList_iff.mp hy);simp[DictEntry.refKey,aem]
 have a':¬es.toList.any (·.refKey)=true:=by rw[a];show dh
 rw[ay a'];show dX some e
def rE.look{h:aL}{x dx C:aa}{mA:Str->Option af}(I:rE h x dx C mA):∃od,PySem.W.InstAt h x (ul C dx) C (some od)/\∀name,GA name od=some (mA name):=
 let ⟨od,ho,hl⟩:=agw I.ns
 #[od,#[I.obj,rfl,rfl,ho],hl]
section
variable{prog:aZ}{w:aW}{A:ci}{E:af->ax->Prop}{s:ax}{K:aP}{x dx C f:aa}{mA:Str->Option af}{name:Str}{v:af}
def Po{abk:Bool}{Q:af->ax->Prop}(X:K.In s.heap)(I:rE s.heap x dx C mA)(hg:GB K C name=true)(hh:Ms K C=true)(ha:rJ K (.ref C) name=some none)(hv:mA name=some v)(hv':WM v=true)(h:Q v { s with toks:=s.toks+1 }):
  aK (aR prog w) A (getAttr (.ref x) name abk) Q E s:=by
 let#[od,J,hl]:=I.look;show PySem.W.get_value X J (Mz hg).1 (PySem.W.findObj_own hh ha rfl (by rw[hl,hv])) hv' h
def ade{pl:Sem Bool}{Q:af×List af->ax->Prop}(X:K.In s.heap)(I:rE s.heap x dx C mA)(hg:GB K C name=true)(hf:rJ K (.ref C) name=some (some (.ref f)))(ht:Mv K (.ref f)=true)(hv:mA name=none)(h:Q (.ref f,[.ref x]) s):
  aK (aR prog w) A (AA (.ref x) name pl) Q E s:=by
 let#[od,J,hl]:=I.look;show PySem.W.method_fn X J (Mz hg).1 (Mz hg).2 hf (gO.mp ht) (by show(GA name od).map (·.isSome)=some false;rw[hl,hv];rfl) h
def ajv{ns:List Str}{Q:Unit->ax->Prop}(X:K.In s.heap)(I:rE s.heap x dx C mA)(hs:rJ K (.ref C) "__setattr__"=some (some (.builtin "object.__setattr__")))(hp:WR K C=true)(ht:MA K C name=some none)(hh:Ms K C=true)(hw:MB mA ns)(hsz:ns.length<=sizeLine)(h:∀h',rE h' x dx C (λy=>if y=name then some v else mA y)->Cb dx s.heap h'->Q #[] { s with heap:=h',toks:=s.toks+2 }):
  aK (aR prog w) A (setAttr (.ref x) name v) Q E s:=by
 let#[od,J,hl]:=I.look;apply PySem.W.set_plain X J hs (PySem.W.osa_open (s:={ s with toks:=s.toks+1 }) (r:=none) X J hp ht λb=>?_);let#[cd,hc,xq]:=PySem.W.any_some hh;have hx:s.heap.get? x=some #[.ref C,some dx,.plain,(List.toArray [])]:=I.obj;apply aI (bR (aI (aI (wpAny_loadPart hx (aI (anr (s:={ s with toks:=s.toks+1 }) (PySem.W.looks_clsIn X hc) ?_))))));rw[xq];apply bR (a:=some dx) (aI (bR (aI ?_)));apply wpAny_nsSet1 (s:={ s with toks:=s.toks+1 }) I.ns λh' mB AQ=>?_;let#[oD,esD,epD,aeG,adS,adN]:=mB.count (PySem.Within.cons name v hw);apply aI (wpAny_lookBehind aeG (by rw[adS];show pastItsLine_dict (cp adN (by rw[cN];omega))) ?_);show bR (h _ #[(AQ.2 _ (iP I.ne)).trans I.obj,mB,I.ne] AQ)
def agK{R:zj->ax->Prop}{vs:List af}{kw:List (Str×af)}(X:K.In s.heap)(hm:WP K C=true)(hi:rJ K (.ref C) "__init__"=some (some (.ref f)))(hf:PySem.W.typeIn K (.ref f)=some (.type "function"))(h:oY (aR prog w) (A.under (.builtin "type.__call__" #[.ref C::vs,kw])) (.call (.ref f) #[.ref (s.heap.objs.size+1)::vs,kw]) (PySem.W.InitBack (s.heap.objs.size+1) R)
   { s with heap:=(s.heap.push rH).push (ul C s.heap.objs.size) }):
  oY (aR prog w) A (.call (.ref C) #[vs,kw]) R s:=by
 let#[hh,g,d,t,os]:=s;show PySem.W.make_core (PySem.W.makes_of X hm) (PySem.W.looks_findIn X hi) (λself=>PySem.W.bind_fn X self hf) (.inl rfl) h
end
def dL(f:Str)(v:V):List (Str×V)->List (Str×V)
 |[]=>[(f,v)]
 |(g,x)::r=>if g=f then(g,v)::r else(g,x)::dL f v r
theorem Rh(f g:Str)(v:V):∀fs:List (Str×V),(dL f v fs).lookup g=if g=f then some v else fs.lookup g
 |[]=>by
  show ua g [(f,v)]=_;by_cases h:g=f
  have hb:(g==f)=true:=gO.mpr h;simp![ua,hb,aq h];have hb:(g==f)=false:=Nj.mpr h;simp![ua,hb,ay h]
 |(k,x)::r=>by
  have ih:=Rh f g v r;rw[show dL f v ((k,x)::r)=(if k=f then(k,v)::r else(k,x)::dL f v r) from rfl];by_cases hk:k=f
  rw[aq hk];by_cases h:g=k
  have hb:(g==k)=true:=gO.mpr h;simp![ua,hb,aq (h.trans hk)];have hb:(g==k)=false:=Nj.mpr h;simp![ua,hb,ay (λe:g=f=>h (e.trans hk.symm))];rw[ay hk];by_cases h:g=k
  have hb:(g==k)=true:=gO.mpr h;simp![ua,hb,ay (λe:g=f=>hk (h.symm.trans e))];have hb:(g==k)=false:=Nj.mpr h;simp![ua,hb];show ih
theorem Jp(f:Str)(v:V):∀fs:List (Str×V),f∈(dL f v fs).map (·.1)/\∀g,g∈fs.map (·.1)->g∈(dL f v fs).map (·.1)
 |[]=>#[by simp[dL],λg h=>by simp at h]
 |(k,x)::r=>by
  let#[i1,i2]:=Jp f v r;rw[show dL f v ((k,x)::r)=(if k=f then(k,v)::r else(k,x)::dL f v r) from rfl];by_cases hk:k=f
  rw[aq hk];subst hk;show#[by simp,λg h=>by simpa using h];rw[ay hk];apply#[?_,λg h=>?_];rw[ba];show bp _ i1;rw[ba]at h⊢;rcases iM.mp h with e|e
  show iM.mpr (.inl e);show bp _ (i2 g e)
theorem Q5(f:Str)(v:V):∀fs:List (Str×V),(dL f v fs).length<=fs.length+1
 |[]=>by simp[dL]
 |(k,x)::r=>by
  have ih:=Q5 f v r;rw[show dL f v ((k,x)::r)=(if k=f then(k,v)::r else(k,x)::dL f v r) from rfl];by_cases hk:k=f
  rw[aq hk,cN,cN];omega;rw[ay hk,cN,cN];omega
def gJ.some_of{v:V}{o:Option af}(r:gJ (some v) o):∃u,o=some u/\RelV v u:=by
 cases o with
 |none=>show(show False from r).elim
 |some u=>show#[u,rfl,r]
def gJ.none_of{o:Option af}(r:gJ none o):o=none:=by
 cases o with
 |none=>rfl
 |some u=>show(show False from r).elim
def adC{v:V}{u:af}(r:RelV v u):WM u=true:=by
 cases v with
 |bn=>cases(show u=qb from r);rfl
 |bl b=>cases(show u=ur b from r);rfl
 |int i=>let#[t,e]:=(show ∃t,u=zy i t from r);cases e;rfl
 |str x=>let#[t,e]:=(show ∃t,u=zA x t from r);cases e;rfl
 |gP b=>let#[t,e]:=(show ∃t,u=XV b t from r);cases e;rfl
 |DE b=>let#[t,e]:=(show ∃t,u=XW b t from r);cases e;rfl
 |ref a=>cases(show u=fD a from r);rfl
 |ty n=>cases(show u=rO n from r);rfl
section
variable{P:aZ}{w:aW}{H H':Hp}{h h':aL}{a C dx:aa}{fs ada:List (Str×V)}
def Ea(aS:dk P w H h)(e:H a=some (.ins C dx fs)):∃mA,rE h a dx C mA/\(∀f,gJ (fs.lookup f) (mA f))/\MB mA (fs.map (·.1))/\fs.length<=1000/\H dx=some (.own a):=by
 let#[d,z,ne,ob,mA,n,r,q]:=(show dM P w H h a (.ins C dx fs) from aS a _ e);show#[mA,#[ob,n,ne],r,q,z,d]
end
structure eU (K:aP)(C:aa):Prop where
 pg:GB K C wv=true
 aoF:Ms K C=true
 po:WR K C=true
 sa:rJ K (.ref C) "__setattr__"=some (some (.builtin "object.__setattr__"))
def eU.get{K:aP}{C:aa}(c:eU K C)(f:Str):GB K C f=true:=c.pg
def cM(K:aP)(C:aa)(f:Str):Prop:=rJ K (.ref C) f=some none
def cM.amm{K:aP}{C:aa}{f:Str}(n:cM K C f):MA K C f=some none:=by
 unfold MA;rw[show rJ K (.ref C) f=some none from n];rfl
structure yX (K:aP)(C:aa)(m:Str)(f:aa):Prop where
 at_:rJ K (.ref C) m=some (some (.ref f))
 fn:Mv K (.ref f)=true
 kp:ni K (.ref f)=true
section
variable{X:Cx}{ae:List (aa×Obj)}{σ:St}{H:Hp}{s:ax}{a C dx:aa}{fs:List (Str×V)}{f:Str}{v:V}{A:ci}{E:af->ax->Prop}
def adf{b:Bool}{Q:af->ax->Prop}(I:Inv X ae σ H s)(e:H a=some (.ins C dx fs))(c:eU X.K C)(n:cM X.K C f)(l:fs.lookup f=some v)(h:∀u s',Inv X ae σ H s'->RelV v u->Q u s'):aK (aR X.prog X.w) A (getAttr (.ref a) f b) Q E s:=by
 let#[mA,O,r,_,_,_]:=Ea I.aS e;let#[u,hu,ru]:=gJ.some_of (v:=v) (o:=mA f) (by rw[<-l];show r f);show Po I.gu O (c.get f) c.aoF n hu (adC ru) (h u _ (I.tok _) ru)
def Pp{m:Str}{g:aa}{pl:Sem Bool}{Q:af×List af->ax->Prop}(I:Inv X ae σ H s)(e:H a=some (.ins C dx fs))(c:eU X.K C)(k:yX X.K C m g)(l:fs.lookup m=none)(h:Q (.ref g,[.ref a]) s):aK (aR X.prog X.w) A (AA (.ref a) m pl) Q E s:=by
 let#[mA,O,r,_,_,_]:=Ea I.aS e;have hn:mA m=none:=gJ.none_of (by rw[<-l];show r m);show ade I.gu O (c.get m) k.at_ k.fn hn h
def ajx{y:V}{u:af}{Q:Unit->ax->Prop}(I:Inv X ae σ H s)(e:H a=some (.ins C dx fs))(c:eU X.K C)(n:cM X.K C f)(hl:fs.length<1000)(ry:RelV y u)(h:∀s',Inv X ae σ (upd H a (.ins C dx (dL f y fs))) s'->Q #[] s'):aK (aR X.prog X.w) A (setAttr (.ref a) f u) Q E s:=by
 let#[mA,O,r,wi,_,ho]:=Ea I.aS e;have hz:(fs.map (·.1)).length<=sizeLine:=by rw[aD,vn];omega
 apply ajv I.gu O c.sa c.po n.amm c.aoF wi hz λh' O' sb=>h _ ?_;have aoF:∃o,h'.get? dx=some o:=let ⟨o,_,_,e',_⟩:=O'.ns;#[o,e']
 apply I.write (x:=a) (e:=dx) (by rw[e];show ii) (.inr ho) (λb q hb z=>(sb.2 b hb).trans z) aoF ?_;apply#[by rw[aG O.ne];show ho,?_,O.ne,O'.obj,_,O'.ns,λg=>?_,λg hg=>?_];have:=Q5 f y fs;omega;show gJ ((dL f y fs).lookup g) (if g=f then some u else mA g);rw[Rh];by_cases q:g=f
 rw[aq q,aq q];show ry;rw[ay q,ay q];show r g;by_cases q:g=f
 rw[q];show(Jp f y fs).1;apply(Jp f y fs).2 g (wi g λz=>hg ?_);show(if g=f then some u else mA g)=none;rw[ay q];show z
def Inv.made(I:Inv X ae σ H s):Inv X ae σ (upd (upd H s.heap.objs.size (.own (s.heap.objs.size+1))) (s.heap.objs.size+1) (.ins C s.heap.objs.size []))
  { s with heap:=(s.heap.push rH).push (ul C s.heap.objs.size) }:=by
 have e1:(s.heap.push rH).get? s.heap.objs.size=some rH:=eV s.heap rfl;have e2:((s.heap.push rH).push (ul C s.heap.objs.size)).get? (s.heap.objs.size+1)=some (ul C s.heap.objs.size):=by
  have:=eV (s.heap.push rH) (o:=ul C s.heap.objs.size) rfl
  rwa [gC]at this
 have e3:(s.heap.push rH).Ns s.heap.objs.size (λ_=>none):=#[rH,(List.toArray []),_,e1,rfl,(λe he=>absurd he ()),λ_=>rfl];have I1:=I.laid (a:=s.heap.objs.size) (o:=.own (s.heap.objs.size+1)) (h':=s.heap.push rH) (t':=s.toks) (λb u q=>cJ _ q) (bj _) #[_,e1];apply I1.laid (a:=s.heap.objs.size+1) (o:=.ins C s.heap.objs.size []) (t':=s.toks) (λb u q=>cJ _ q) (Gk (gC _ _)) ?_;have ne:s.heap.objs.size≠s.heap.objs.size+1:=dZ (ud _);apply#[by rw[aG ne,aH],eX _,ne,e2,λ_=>none,(Heap.Ns1.of_empty e3).at λo q=>cJ _ q,λ_=>ii,λy hy=>absurd rfl hy]
def Nd{prog:aZ}{w:aW}{env:Env}{e:Expr}{f:Str}{pos:Pos}{s:ax}{Q:af->ax->Prop}(hb:qh e f env (eval e env)=eval e env)(h:aK (aR prog w) A (eval e env) (λo s₁=>aK (aR prog w) A (getAttr o f true) Q E s₁) E s):aK (aR prog w) A (eval (.Attribute e f pos) env) Q E s:=
 Attribute_any_ h (by rw[arm_eval_Attribute,hb])
end
def xT(o:Option V)(q:V->Prop):Prop:=match o with|some v=>q v|_=>False
def be(K:aP)(f:Str)(o:Option HO)(q:V->Prop):Prop:=match o with|some (.ins C _ fs)=>eU K C/\cM K C f/\xT (fs.lookup f) q|_=>False
def f'(C:aa)(m:Str)(o:Option HO)(r:Prop):Prop:=match o with|some (.ins C' _ fs)=>C'=C/\fs.lookup m=none/\r|_=>False
def fq(K:aP)(f:Str)(o:Option HO)(r:aa->aa->List (Str×V)->Prop):Prop:=match o with|some (.ins C dx fs)=>eU K C/\cM K C f/\fs.length<1000/\r C dx fs|_=>False
section
variable{K:aP}{f:Str}{C C' dx:aa}{fs:List (Str×V)}{q:V->Prop}{r':Prop}{r:aa->aa->List (Str×V)->Prop}{rr:aa->aa->aa->List (Str×V)->Prop}{x v:V}{H:Hp}{o:Option V}
def xT.ex(h:xT o q):∃v,o=some v/\q v:=match o,h with|some v,h=>#[v,rfl,h]
def be.ex(h:qS x λa=>be K f (H a) q):∃a C dx fs v,x=.ref a/\H a=some (.ins C dx fs)/\eU K C/\cM K C f/\fs.lookup f=some v/\q v:=by
 let#[a,e0,k]:=h.ex;subst e0;unfold be at k;split at k
 next C dx fs e=>let#[h1,h2,h3]:=k;let#[v,h5,h4]:=h3.ex;show#[a,C,dx,fs,v,rfl,e,h1,h2,h5,h4]
 show k.elim
def f'.ex(h:qS x λa=>f' C f (H a) r'):∃a dx fs,x=.ref a/\H a=some (.ins C dx fs)/\fs.lookup f=none/\r':=by
 let#[a,e0,k]:=h.ex;subst e0;unfold f' at k;split at k
 next C dx fs e=>let#[h1,h2,h3]:=k;show#[a,dx,fs,rfl,h1▸e,h2,h3]
 show k.elim
def fq.ex(h:qS x λa=>fq K f (H a) (rr a)):∃a C dx fs,x=.ref a/\H a=some (.ins C dx fs)/\eU K C/\cM K C f/\fs.length<1000/\rr a C dx fs:=by
 let#[a,e0,k]:=h.ex;subst e0;unfold fq at k;split at k
 next C dx fs e=>let#[h1,h2,h3]:=k;show#[a,C,dx,fs,rfl,e,h1,h2,h3]
 show k.elim
def fq.mk{o:Option HO}(e:o=some (.ins C dx fs))(a:eU K C)(b:cM K C f)(c:fs.length<1000)(d:r C dx fs):fq K f o r:=e▸#[a,b,c,d]
def be.mk{o:Option HO}(e:o=some (.ins C dx fs))(a:eU K C)(b:cM K C f)(c:fs.lookup f=some v)(d:q v):be K f o q:=by subst e;show#[a,b,by unfold xT;rw[c];show d]
def f'.mk{o:Option HO}(e:o=some (.ins C dx fs))(c:fs.lookup f=none)(d:r'):f' C f o r':=e▸#[rfl,c,d]
def an4:xT (some v) q=q v:=rfl
def anX:be K f (some (.ins C dx fs)) q=(eU K C/\cM K C f/\xT (fs.lookup f) q):=rfl
def an6:f' C f (some (.ins C' dx fs)) r'=(C'=C/\fs.lookup f=none/\r'):=rfl
def aoA:fq K f (some (.ins C dx fs)) r=(eU K C/\cM K C f/\fs.length<1000/\r C dx fs):=rfl
end
def KG(K:aP)(ta:TE)(f:Str):TE:=λσ H Q=>ta σ H λx H1=>qS x λa=>be K f (H1 a) λv=>Q v H1
def ajk(K:aP)(ta tv:TE)(f:Str):TS:=λD σ H=>tv σ H λy H1=>ta σ H1 λx H2=>qS x λa=>fq K f (H2 a) λC dx fs=>D.nx σ (upd H2 a (.ins C dx (dL f y fs)))
section
variable{X:Cx}{o e h_:Expr}{f:Str}{pos lT rb:Pos}{ta tv:TE}
def aN(he:PE X e ta)(hb:qh e f X.env (eval e X.env)=eval e X.env):PE X (.Attribute e f pos) (KG X.K ta f):=by
 intro ae s σ H Q I h;apply Nd hb (dz (he ae s σ H _ I h) λu s1 x H1 I1 rx gg=>?_);let#[a,C,dx,fs,v,ex,ea,c,n,l,q]:=be.ex gg;subst ex;obtain rfl:u=fD a:=rx;show adf I1 ea c n l λu' s2 I2 ru=>#[v,H1,I2,ru,q]
def cQ(ha:PE X o ta)(hv:PE X h_ tv)(hs:vy h_ (some (.Attribute o f lT)) pos.line X.env=pure false):PS X (.Assign [.Attribute o f lT] h_ pos) (ajk X.K ta tv f):=by
 intro ae s σ H D I h;apply plainObj_wpAny_Assign_Attribute (dz (hv ae s σ H _ I h) λu s1 y H1 I1 ry q=>dz (ha ae s1 σ H1 _ I1 q) λov s2 x H2 I2 rx gg=>?_) hs;let#[a,C,dx,fs,ex,ea,c,n,l,q2]:=fq.ex (rr:=λa C dx fs=>D.nx σ (upd H2 a (.ins C dx (dL f y fs)))) gg;subst ex;obtain rfl:ov=fD a:=rx;show ajx I2 ea c n l ry λs3 I3=>#[σ,_,I3,q2]
end
structure dQ (k:Nat)(A:ci):Prop where
 aoF:A.handled=none
 dp:A.depth+3*k+5<recursionLimit
 un:A.units+16*k+200<cLine
def dQ.mono{j k:Nat}{A:ci}(r:dQ k A)(h:j<=k):dQ j A:=#[r.aoF,by have:=r.dp;omega,by have:=r.un;omega]
def dQ.deeper{k:Nat}{A:ci}(r:dQ (k+1) A)(env:Env):dQ k (A.deeper env):=
 #[r.aoF,by have:=r.dp;show A.depth+1+3*k+5<_;omega,by have:=r.un;show A.units+3+16*k+200<_;omega]
def agJ{A:ci}{C:aa}{us:List af}{kw:List (Str×af)}:(A.under (.builtin "type.__call__" #[.ref C::us,kw])).depth=A.depth+1:=by
 first|rfl|simp[Li,Code.weight,Code.isCreation,Code.isGuard,Code.isCaller,Code.frames,Lr,guardIds]
def agL{A:ci}{C:aa}{us:List af}{kw:List (Str×af)}:(A.under (.builtin "type.__call__" #[.ref C::us,kw])).units=A.units+1:=by
 first|rfl|simp[Li,Code.cUnits,Code.frames,Lr]
def dQ.make{k:Nat}{A:ci}(r:dQ (k+1) A)(C:aa)(us:List af)(kw:List (Str×af)):dQ k (A.under (.builtin "type.__call__" #[.ref C::us,kw])):=
 #[r.aoF,by have:=r.dp;rw[agJ];omega,by have:=r.un;rw[agL];omega]
def dQ.depth{k:Nat}{A:ci}(r:dQ k A):A.depth<recursionLimit:=by have:=r.dp;omega
def dQ.units{k:Nat}{A:ci}(r:dQ k A):A.units+64<cLine:=by have:=r.un;omega
def vz:TA:=λ_ H Q=>Q [] H
def E_(ta:TE)(tr:TA):TA:=λσ H Q=>ta σ H λx H1=>tr σ H1 λxs H2=>Q (x::xs) H2
section
variable{X:Cx}{e:Expr}{es:List Expr}{te:TE}{t:TA}{pos:Pos}
def ao:PA X [] vz:=λ_ _ _ _ H Q I h=>Lo #[[],H,I,.nil,h]
def ag(ha:PE X e te)(hr:PA X es t)(hs:bJ (e::es) X.env=(false,eval e X.env)::bJ es X.env:=by rfl):PA X (e::es) (E_ te t):=by
 intro pos ae s σ H Q I h;rw[hs];show aK _ _ (spliced ((false,eval e X.env)::eL pos (bJ es X.env))) _ _ s;apply FU (dz (ha ae s σ H _ I h) λu s1 x H1 I1 r1 q1=>?_);show oq (hr pos ae s1 σ H1 _ I1 q1) λus s2 xs H2 I2 r2 q2=>#[x::xs,H2,I2,.cons r1 r2,q2]
def alS(t:TA):TE:=λσ H Q=>t σ H λxs H1=>xs.length<=sizeLine/\∀p,H1 p=none->Q (.ref p) (upd H1 p (.tup xs))
def alE(t:TA):TE:=λσ H Q=>t σ H λxs H1=>xs.length<=sizeLine/\∀p,H1 p=none->Q (.ref p) (upd H1 p (.lst xs))
def aiu{x1}(h:PA X es t):PE X (.Tuple es x1 pos) (alS t):=by
 intro ae s σ H Q I hq;apply wpAny_Tuple_spliced (cI (h pos ae s σ H _ I hq) λus s1 ⟨xs,H1,I1,r,z,q⟩=>#[by rw[<-r.length];show z,?_]);have hf:H1 s1.heap.objs.size=none:=I1.aS.fresh (bj _);apply#[.ref s1.heap.objs.size,upd H1 s1.heap.objs.size (.tup xs),I1.laid (t':=s1.toks) (λb u e=>cJ _ e) (bj _) ?_,rfl,q _ hf];show#[z,us,r,#[_,eV _ rfl,rfl,_,rfl]]
def eS(h:PA X es t):PE X (.List es pos) (alE t):=by
 intro ae s σ H Q I hq;apply wpAny_List_spliced (cI (h pos ae s σ H _ I hq) λus s1 ⟨xs,H1,I1,r,z,q⟩=>#[by rw[<-r.length];show z,?_]);have hf:H1 s1.heap.objs.size=none:=I1.aS.fresh (bj _);apply#[.ref s1.heap.objs.size,upd H1 s1.heap.objs.size (.lst xs),I1.laid (t':=s1.toks) (λb u e=>cJ _ e) (bj _) ?_,rfl,q _ hf];show#[z,us,0,r,eV _ rfl]
end
abbrev Sp:=List V->Hp->VK->XK->Prop
abbrev md:=List Env->Hp->ax->XK->af->ax->Prop
structure tV (P:aZ)(w:aW)(K:aP)(mg:Str->Option af)(base:aL)(A:ci)(outer:List Env)(s:ax)(H:Hp):Prop where
 frames:A.frames=some outer
 mod:Mod K mg base
 bs:∀b o,base.get? b=some o->s.heap.get? b=some o/\H b=none
 nE:base.objs.size<=s.heap.objs.size
 mr:s.heap.FunFrames base outer
 uJ:∀b∈cH outer,H b=none
 aS:dk P w H s.heap
 bare:rg s.gens
def CE(outer:List Env)(P:aZ)(w:aW)(H:Hp)(s:ax)(Q:VK)(u:af)(s':ax):Prop:=
 ∃v H',s'.os=s.os/\rg s'.gens/\Un (cH outer) [] H H' s.heap s'.heap/\dk P w H' s'.heap/\RelV v u/\Q v H'
def CR(CX:md)(outer:List Env)(P:aZ)(w:aW)(H:Hp)(s:ax)(Q:VK)(E:XK)(r:zj)(s':ax):Prop:=
 match r with
 | .ok (.ret u)=>CE outer P w H s Q u s'
 | .ok _=>False
 | .error e=>CX outer H s E e s'
structure ff (P:aZ)(w:aW)(K:aP)(mg:Str->Option af)(base:aL)(CX:md)(k:Nat)(f:aa)(fd:lf)(ps:List Str)(sp:Sp):Prop where
 len:∀vs H Q E,sp vs H Q E->vs.length=ps.length
 run:∀(A:ci)(outer:List Env)(s:ax)(H:Hp)(args:Args)(us:List af)(vs:List V)(Q:VK)(E:XK),dQ k A->tV P w K mg base A outer s H->B4 s fd args (ps.zip us)->bi vs us->sp vs H Q E->
  oY (aR P w) A (.call (.ref f) args) (CR CX outer P w H s Q E) s
def ff.mono{P:aZ}{w:aW}{K:aP}{mg:Str->Option af}{base:aL}{CX:md}{j k:Nat}{f:aa}{fd:lf}{ps:List Str}{sp:Sp}(F:ff P w K mg base CX j f fd ps sp)(h:j<=k):
  ff P w K mg base CX k f fd ps sp:=#[F.len,λA outer s H args us vs Q E hr=>F.run A outer s H args us vs Q E (hr.mono h)]
def ff.imp{P:aZ}{w:aW}{K:aP}{mg:Str->Option af}{base:aL}{CX:md}{k:Nat}{f:aa}{fd:lf}{ps:List Str}{sp sp':Sp}(F:ff P w K mg base CX k f fd ps sp)(h:∀vs H Q E,sp' vs H Q E->sp vs H Q E):ff P w K mg base CX k f fd ps sp':=
 #[λvs H Q E q=>F.len vs H Q E (h _ _ _ _ q),λA outer s H args us vs Q E hr he hb hv hs=>F.run A outer s H args us vs Q E hr he hb hv (h _ _ _ _ hs)]
def tV.make{P:aZ}{w:aW}{K:aP}{mg:Str->Option af}{base:aL}{A:ci}{outer:List Env}{s:ax}{H:Hp}(e:tV P w K mg base A outer s H)(C:aa)(us:List af)(kw:List (Str×af)):
  tV P w K mg base (A.under (.builtin "type.__call__" #[.ref C::us,kw])) outer s H:=#[by first|show e.frames|(simpa[Li,Code.envs,Lr,pushEnvs]using e.frames),e.mod,e.bs,e.nE,e.mr,e.uJ,e.aS,e.bare]
section
variable{X:Cx}{ae:List (aa×Obj)}{σ:St}{H:Hp}{s s':ax}
def Inv.OP(I:Inv X ae σ H s):tV X.prog X.w X.K X.mg X.base X.A X.stack s H:=
 #[I.ok.frames,I.ok.mod,I.bs,cp I.ok.nE I.sz,I.stack,I.Kv,I.aS,I.bare]
def Inv.after{Q:VK}{u:af}(I:Inv X ae σ H s)(h:CE X.stack X.prog X.w H s Q u s'):EP X ae σ Q u s':=by
 let#[v,H',os,bare,un,aS,r,q]:=h;let#[hh,g,d,t,aia]:=s';obtain rfl:aia=s.os:=os;show#[v,H',I.call (h':=hh) (g':=g) (d':=d) (t':=t) (ch:=[]) un aS bare (λb z=>absurd z ()),r,q]
end
def BU(sp:Sp)(dvs:List V)(E:XK)(t:TA):TE:=λσ H Q=>t σ H λvs H1=>sp (vs++dvs) H1 Q E
def Fa(C:aa)(m:Str)(sp:Sp)(dvs:List V)(E:XK)(ta:TE)(t:TA):TE:=λσ H Q=>ta σ H λx H1=>qS x λa=>f' C m (H1 a) (t σ H1 λvs H2=>sp (x::(vs++dvs)) H2 Q E)
def Uq(C:aa)(sp:Sp)(dvs:List V)(E:XK)(t:TA):TE:=λσ H Q=>t σ H λvs H1=>∀x dx,H1 x=none->H1 dx=none->dx≠x->
 sp (.ref x::(vs++dvs)) (upd (upd H1 dx (.own x)) x (.ins C dx [])) (λv H2=>v=.bn/\Q (.ref x) H2) E
def Binds(K:aP)(fd:lf)(ps:List Str)(ds:List af):Prop:=
 ∀(s:ax)(us:List af),K.In s.heap->(us++ds).length=ps.length->B4 s fd #[us,[]] (ps.zip (us++ds))
def Binds.all{K:aP}{fd:lf}{ps:List Str}(h:∀us:List af,us.length=ps.length->qi fd #[us,[]]=pure (ps.zip us)):Binds K fd ps []:=λs us _ hl=>by
 rw[eJ]at hl⊢;show .of_eq (h us hl)
def gI(CX:md)(X:Cx)(E:XK):Prop:=∀(ae:List (aa×Obj))(σ:St)(H:Hp)(s:ax)(e:af)(s':ax),Inv X ae σ H s->CX X.stack H s E e s'->X.xe e s'
section
variable{X:Cx}{CX:md}{k:Nat}{f C:aa}{fd:lf}{ps:List Str}{sp:Sp}{dvs:List V}{ds:List af}{E:XK}{x m:Str}{p pos dB:Pos}{e o:Expr}{es:List Expr}{ta:TE}{t:TA}
def BB{ae:List (aa×Obj)}{σ:St}{H:Hp}{s:ax}{Q:VK}{us:List af}{vs:List V}(F:ff X.prog X.w X.K X.mg X.base CX k f fd ps sp)(hr:dQ k X.A)(hb:Binds X.K fd ps ds)(aoF:bi dvs ds)(hx:gI CX X E)(I:Inv X ae σ H s)(r:bi vs us)(h:sp (vs++dvs) H Q E):aK (aR X.prog X.w) X.A (call (.ref f) us) (EP X ae σ Q) X.xe s:=by
 have r2:bi (vs++dvs) (us++ds):=r.append aoF;have hl:(us++ds).length=ps.length:=by rw[<-r2.length];show F.len _ _ _ _ h
 apply K_ (zV (F.run X.A X.stack s H #[us,[]] (us++ds) (vs++dvs) Q E hr I.OP (hb s us I.gu hl) r2 h) λr s' hq=>?_);cases r with
 |error e=>show hx ae σ H s e s' I hq
 |ok fl=>
  cases fl with
  |ret u=>show I.after hq
  |next=>show ju hq
  |brk=>show ju hq
  |cont=>show ju hq
def aig(F:ff X.prog X.w X.K X.mg X.base CX k f fd ps sp)(hr:dQ k X.A)(hg:Gl X x)(hm:X.mg x=some (.ref f))(hk:ni X.K (.ref f)=true)(hb:Binds X.K fd ps ds)(aoF:bi dvs ds)(hx:gI CX X E)(ha:PA X (e::es) t)(hG:(x==("__debug__":Str))=false:=by decide)(he:bJ (e::es) X.env=(false,eval e X.env)::bJ es X.env:=by rfl)(hpl:(eL pos (bJ es X.env)).any (·.1)=false:=by rfl):
  PE X (.Call (.Name x p) (e::es) [] pos) (BU sp dvs E t):=by
 intro ae s σ H Q I h;apply vJ (xS I hg hm ?_ hG);apply Gy (h₀:=X.base) I.ok.mod.uQ hk (oq (ha pos ae s σ H _ I h) λus s1 vs H1 I1 r q=>#[I1.gu,?_]) he hpl;show BB F hr hb aoF hx I1 r q
def aih(F:ff X.prog X.w X.K X.mg X.base CX k f fd ps sp)(hr:dQ k X.A)(hg:Gl X x)(hm:X.mg x=some (.ref f))(hk:ni X.K (.ref f)=true)(hb:Binds X.K fd ps ds)(aoF:bi dvs ds)(hx:gI CX X E)(hG:(x==("__debug__":Str))=false:=by decide):PE X (.Call (.Name x p) [] [] pos) (BU sp dvs E vz):=by
 intro ae s σ H Q I h;apply vJ (xS I hg hm ?_ hG);show WJ I.gu hk (BB (us:=[]) F hr hb aoF hx I .nil h)
def aiq{pl:Sem Bool}(he:PE X o ta)(c:eU X.K C)(hm:yX X.K C m f)(F:ff X.prog X.w X.K X.mg X.base CX k f fd ps sp)(hr:dQ k X.A)(hb:Binds X.K fd ps ds)(aoF:bi dvs ds)(hx:gI CX X E)(ha:PA X (e::es) t)(e7:bJ (e::es) X.env=(false,eval e X.env)::bJ es X.env:=by rfl)(hpl:(eL pos (bJ es X.env)).any (·.1)=false:=by rfl)(ht:eval (.Call (.Attribute o m dB) (e::es) [] pos) X.env=(do
   let ov<-eval o X.env
   tJ dB.atName
   let (f,first)<-lM [ov] (AA ov m pl)
   zP pos f first (eL pos (bJ (e::es) X.env)) (rW pos (sC [] X.env))):=by rfl):
  PE X (.Call (.Attribute o m dB) (e::es) [] pos) (Fa C m sp dvs E ta t):=by
 intro ae s σ H Q I h;apply WQ (pl:=pl) (dz (he ae s σ H _ I h) λu s1 x H1 I1 rx gg=>?_) ht;let#[a,dx,fs,ex,ea,l,q]:=f'.ex gg;subst ex;obtain rfl:u=fD a:=rx;apply Pp I1 ea c hm l ?_;apply Gy (first:=[.ref a]) (h₀:=X.base) I.ok.mod.uQ hm.kp (oq (ha pos ae s1 σ H1 _ I1 q) λus s2 vs H2 I2 r q2=>#[I2.gu,?_]) e7 hpl;show BB (us:=.ref a::us) (vs:=.ref a::vs) F hr hb aoF hx I2 (.cons rfl r) q2
def air{pl:Sem Bool}(he:PE X o ta)(c:eU X.K C)(hm:yX X.K C m f)(F:ff X.prog X.w X.K X.mg X.base CX k f fd ps sp)(hr:dQ k X.A)(hb:Binds X.K fd ps ds)(aoF:bi dvs ds)(hx:gI CX X E)(ht:eval (.Call (.Attribute o m dB) [] [] pos) X.env=(do
   let ov<-eval o X.env
   tJ dB.atName
   let (f,first)<-lM [ov] (AA ov m pl)
   zP pos f first (eL pos (bJ [] X.env)) (rW pos (sC [] X.env))):=by rfl):
  PE X (.Call (.Attribute o m dB) [] [] pos) (Fa C m sp dvs E ta vz):=by
 intro ae s σ H Q I h;apply WQ (pl:=pl) (dz (he ae s σ H _ I h) λu s1 x H1 I1 rx gg=>?_) ht;let#[a,dx,fs,ex,ea,l,q]:=f'.ex gg;subst ex;obtain rfl:u=fD a:=rx;apply Pp I1 ea c hm l ?_;show WJ (first:=[.ref a]) I1.gu hm.kp (BB (us:=[.ref a]) (vs:=[.ref a]) F hr hb aoF hx I1 (.cons rfl .nil) q)
structure Mk (K:aP)(C f:aa):Prop where
 makes:WP K C=true
 init:rJ K (.ref C) "__init__"=some (some (.ref f))
 fn:Mv K (.ref f)=true
 kp:ni K (.ref C)=true
def ajh{ae:List (aa×Obj)}{σ:St}{H:Hp}{s:ax}{Q:VK}{us:List af}{vs:List V}(M:Mk X.K C f)(F:ff X.prog X.w X.K X.mg X.base CX k f fd ps sp)(hr:dQ (k+1) X.A)(hb:Binds X.K fd ps ds)(aoF:bi dvs ds)(hx:gI CX X E)(I:Inv X ae σ H s)(r:bi vs us)(h:∀x dx,H x=none->H dx=none->dx≠x->sp (.ref x::(vs++dvs)) (upd (upd H dx (.own x)) x (.ins C dx [])) (λv H2=>v=.bn/\Q (.ref x) H2) E):
  aK (aR X.prog X.w) X.A (call (.ref C) us) (EP X ae σ Q) X.xe s:=by
 have hq:=h (s.heap.objs.size+1) s.heap.objs.size (I.aS.fresh (Mb _)) (I.aS.fresh (bj _)) (dZ (ud _));have I2:=Inv.made (C:=C) I;have r2:bi (V.ref (s.heap.objs.size+1)::(vs++dvs)) (fD (s.heap.objs.size+1)::(us++ds)):=.cons rfl (r.append aoF);have hl:(fD (s.heap.objs.size+1)::us++ds).length=ps.length:=by
  have e:=r2.length;rw[F.len _ _ _ _ hq]at e;show e.symm
 apply K_ (agK (f:=f) I.gu M.makes M.init (gO.mp M.fn) (zV (F.run _ X.stack _ _ #[fD (s.heap.objs.size+1)::us,[]] (fD (s.heap.objs.size+1)::(us++ds)) _ _ E (hr.make C us [])
  (I2.OP.make C us []) (hb _ (fD (s.heap.objs.size+1)::us) I2.gu hl) r2 hq) λr s' sy=>?_))
 cases r with
 |error e=>show hx ae σ _ _ e s' I2 sy
 |ok fl=>
  cases fl with
  |ret u=>
   let#[v,H',I3,rv,ev,q3]:=I2.after sy;subst ev;show#[rv,#[V.ref (s.heap.objs.size+1),H',I3,rfl,q3]]
  |next=>show ju sy
  |brk=>show ju sy
  |cont=>show ju sy
def aio(M:Mk X.K C f)(F:ff X.prog X.w X.K X.mg X.base CX k f fd ps sp)(hr:dQ (k+1) X.A)(hg:Gl X x)(hm:X.mg x=some (.ref C))(hb:Binds X.K fd ps ds)(aoF:bi dvs ds)(hx:gI CX X E)(ha:PA X (e::es) t)(hG:(x==("__debug__":Str))=false:=by decide)(he:bJ (e::es) X.env=(false,eval e X.env)::bJ es X.env:=by rfl)(hpl:(eL pos (bJ es X.env)).any (·.1)=false:=by rfl):
  PE X (.Call (.Name x p) (e::es) [] pos) (Uq C sp dvs E t):=by
 intro ae s σ H Q I h;apply vJ (xS I hg hm ?_ hG);apply Gy (h₀:=X.base) I.ok.mod.uQ M.kp (oq (ha pos ae s σ H _ I h) λus s1 vs H1 I1 r q=>#[I1.gu,?_]) he hpl;show ajh M F hr hb aoF hx I1 r q
end
def PK(X:Cx)(A5:List yS)(t:TA):Prop:=
 ∀(pos:Pos)(ae:List (aa×Obj))(s:ax)(σ:St)(H:Hp)(Q:List V->Hp->Prop),Inv X ae σ H s->t σ H Q->aK (aR X.prog X.w) X.A (evalAll ((rW pos (sC A5 X.env)).map (·.2))) (AP X ae σ Q) X.xe s
section
variable{X:Cx}{CX:md}{k:Nat}{f C:aa}{fd:lf}{ps ks:List Str}{sp:Sp}{E:XK}{x m:Str}{p pos dB kpos:Pos}{e o:Expr}{es:List Expr}{A5:List yS}{te ta:TE}{t tk:TA}{nm:Option Str}
def J7:PK X [] vz:=λ_ _ _ _ H Q I h=>wpAny_evalAll_nil #[[],H,I,.nil,h]
def J6(ha:PE X e te)(hr:PK X A5 t):PK X (#[nm,e,kpos]::A5) (E_ te t):=by
 intro pos ae s σ H Q I h;show aK _ _ (evalAll ((do let v<-eval e X.env;tJ pos;pure v)::(rW pos (sC A5 X.env)).map (·.2))) _ _ s;apply wpAny_evalAll_cons (aI (dz (ha ae s σ H _ I h) λu s1 x H1 I1 r1 q1=>aI (Le (bR ?_))));show oq (hr pos ae s1 σ H1 _ I1 q1) λus s2 xs H2 I2 r2 q2=>#[x::xs,H2,I2,.cons r1 r2,q2]
variable{g:List af->List af->List af}{gV:List V->List V->List V}
end
structure le (N P:List Str)(sc:dS):Prop where
 kind:sc.kind=.function
 co:sc.isCoroutine=false
 gen:sc.isGenerator=false
 nd:N.Nodup
 pre:N.take P.length=P
 par:∀x∈P,sc.names.lookup x=some .local\/sc.names.lookup x=some .cell
 ahM:∀y∈sc.names,y.2≠.free
theorem No{kindOf:Str->Option jz}{x:Str}:∀{binds:List (Str×af)}{m:Str->Option af},(∀v,(x,v)∉binds)->uA kindOf binds m x=m x
 |[],_,_=>rfl
 |(n,v)::r,m,h=>by
  unfold uA;rw[No λw hw=>h w (bp _ hw)];split;have:x≠n:=by rintro rfl;show h v bq
  simp[this];rfl
theorem Nm{kindOf:Str->Option jz}{x:Str}:∀{binds:List (Str×af)}{m:Str->Option af},(∀v,(x,v)∉binds)->uz kindOf binds m x=m x
 |[],_,_=>rfl
 |(n,v)::r,m,h=>by
  unfold uz;rw[Nm λw hw=>h w (bp _ hw)];split;rfl;have:x≠n:=by rintro rfl;show h v bq
  simp[this]
theorem Nn{kindOf:Str->Option jz}{x:Str}{v:af}:∀{P:List Str}{vs:List af}{i:Nat}{m:Str->Option af},P.Nodup->P[i]? =some x->vs[i]? =some v->kindOf x=some .local->
  uA kindOf (P.zip vs) m x=some v
 |[],_,_,_,_,h,_,_=>by simp at h
 |_::_,[],_,_,_,_,h,_=>by simp at h
 |p::P,w::vs,0,m,nd,h1,h2,hk=>by
  simp at h1 h2;subst h1;subst h2;show uA kindOf ((p,w)::P.zip vs) m p=_;unfold uA;rw[No λv hv=>(List.nodup_cons.mp nd).1 (yW hv).1,aq hk];simp
 |p::P,w::vs,i+1,m,nd,h1,h2,hk=>by
  show uA kindOf ((p,w)::P.zip vs) m x=_;unfold uA;show Nn (i:=i) (List.nodup_cons.mp nd).2 (by simpa using h1) (by simpa using h2) hk
theorem Nl{kindOf:Str->Option jz}{x:Str}{v:af}:∀{P:List Str}{vs:List af}{i:Nat}{m:Str->Option af},P.Nodup->P[i]? =some x->vs[i]? =some v->kindOf x≠some .local->
  uz kindOf (P.zip vs) m x=some v
 |[],_,_,_,_,h,_,_=>by simp at h
 |_::_,[],_,_,_,_,h,_=>by simp at h
 |p::P,w::vs,0,m,nd,h1,h2,hk=>by
  simp at h1 h2;subst h1;subst h2;show uz kindOf ((p,w)::P.zip vs) m p=_;unfold uz;rw[Nm λv hv=>(List.nodup_cons.mp nd).1 (yW hv).1,ay hk];simp
 |p::P,w::vs,i+1,m,nd,h1,h2,hk=>by
  show uz kindOf ((p,w)::P.zip vs) m x=_;unfold uz;show Nl (i:=i) (List.nodup_cons.mp nd).2 (by simpa using h1) (by simpa using h2) hk
def start(N:List Str)(vs:List V):St:=vs.map some++nc (N.length-vs.length) none
def gR(CX:md)(P:aZ)(w:aW)(K:aP)(mg:Str->Option af)(base:aL)(N:List Str)(qual:Str)(aB:dS)(f:aa)(cd:af)(A:ci)(outer:List Env)(s:ax)(H:Hp)(E:XK):Cx where
 prog:=P
 w:=w
 K:=K
 mg:=mg
 base:=base
 A:=A.deeper (dn qual aB s.heap.objs.size f cd)
 N:=N
 gy:=s
 tY:=H
 env:=dn qual aB s.heap.objs.size f cd
 outer:=outer
 stack:=dn qual aB s.heap.objs.size f cd::outer
 ex:=[]
 calm:=true
 fn:=λ_=>true
 pn:=[]
 xe:=λe s'=>aK (aR P w) (A.deeper (dn qual aB s.heap.objs.size f cd)) (A6 (dn qual aB s.heap.objs.size f cd) e) (λ_ i7=>CX outer H s E e i7) (λe' i7=>CX outer H s E e' i7) s'
def NH{sc:dS}{n:Nat}{x:Str}(h:sc.names.lookup x=some .cell):∃c,(f_ n sc.names []).lookup x=some c:=by
 have q:=WK sc.names n [] (.inl h);show Option.isSome_iff_exists.mp q
def afC{CX:md}{P:aZ}{w:aW}{K:aP}{mg:Str->Option af}{base:aL}{N ps:List Str}{qual:Str}{aB:dS}{f:aa}{cd:af}{A:ci}{outer:List Env}{s s1:ax}{H:Hp}{E:XK}{us:List af}{vs:List V}(S:le N ps aB)(aoF:A.handled=none)(e0:tV P w K mg base A outer s H)(hl:vs.length=ps.length)(r:bi vs us)(x:InCallC s s.heap.objs.size (uA (dn qual aB s.heap.objs.size f cd).kindOf (ps.zip us) λ_=>none) (f_ (s.heap.objs.size+1) aB.names []) (uz (dn qual aB s.heap.objs.size f cd).kindOf (ps.zip us) λ_=>none) s1):
  Inv (gR CX P w K mg base N qual aB f cd A outer s H E) [] (start N vs) H s1:=by
 have hpl:ps.length<=N.length:=by have:=dX oK S.pre;rw[ka]at this;omega
 let#[h1,tk,rfl,hk]:=x.done;have qP:∀b:aa,b∉(gR CX P w K mg base N qual aB f cd A outer s H E).ex:=λb z=>absurd (show b∈([]:List aa) from z) ();apply#[#[e0.mod,S.kind,rfl,rfl,bj _,λy z c h1 h2=>?_,λy hy=>?_,λy c _ h=>?_,λ_=>aoF,Around.frames_deeper e0.frames,.inr #[rfl,rfl],λb z=>absurd z (qP b),e0.bs,e0.nE,λb _ _=>qP b,λb z=>absurd z (qP b),e0.mr,e0.uJ],
  rfl,e0.bare,Un.kept hk,#[_,x.toInCall.ns,λi y v h1 h2 h3=>?_],λy c h=>#[_,x.cell y c h],e0.aS.fresh (bj _),λy c h=>?_,λp hp=>absurd (show p∈([]:List (aa×Obj)) from hp) (),e0.aS.kept hk,?_]
 show name_of_addr x.apart (kf h1) (kf h2);have hy:aB.names.lookup y=some .cell\/aB.names.lookup y=some .free:=hy;obtain hy|hy:=hy
 show NH hy;show absurd rfl (S.ahM _ (kf hy));show Cp (x.above y c (kf h));have hi:i<vs.length:=by
  unfold start at h2;by_cases hi:i<vs.length
  show hi;rw[List.getElem?_append_right (by simpa using hi)]at h2;rw[V1]at h2;split at h2<;>cases h2
 have ha:vs[i]? =some v:=by
  unfold start at h2;rw[List.getElem?_append_left (by simpa using hi),cx]at h2;cases e:vs[i]? with
  |none=>rw[e]at h2;cases h2
  |some a=>rw[e]at h2;cases h2;rfl
 let#[u,hu,rv]:=r.get ha;have hp:ps[i]? =some y:=by
  rw[<-S.pre,List.getElem?_take_of_lt ()];show h1
 have RJ:ps.Nodup:=by rw[<-S.pre];show S.nd.sublist (List.take_sublist _ _)
 apply#[u,rv,?_];rcases S.par y (fh hp)with k|k
 show .inl #[k,Nn RJ hp hu k];let#[c,e]:=NH (n:=s.heap.objs.size+1) k;apply .inr #[.inl k,c,e,?_];have q:=x.cell y c e;rw[Nl RJ hp hu (by show aB.names.lookup y≠_;rw[k];decide)]at q;show q;show e0.aS.fresh (Cp (x.above y c (kf h)));unfold start;show _=N.length;rw[dG,aD,V7];omega
def O_{CX:md}{P:aZ}{w:aW}{K:aP}{mg:Str->Option af}{base:aL}{k:Nat}{f:aa}{name qual:Str}{Sg:FE}{fS:List dt}{aB:dS}{dV kV eq pm cf ct oc:af}{an od:Option aa}{iF:Array (Option af)}{N ps:List Str}{sp:Sp}(lk:K.lookup f=some #[oc,od,.func (kd name qual Sg fS aB dV kV eq pm an cf ct),iF])(my:Mr K cf qual=true)(S:le N ps aB)(len:∀vs H Q E,sp vs H Q E->vs.length=ps.length)(IG:∀(A:ci)(outer:List Env)(s:ax)(H:Hp)(vs:List V)(Q:VK)(E:XK),dQ k (A.deeper (dn qual aB s.heap.objs.size f cf))->sp vs H Q E->
   ∃t,lA (gR CX P w K mg base N qual aB f cf A outer s H E) fS t/\t { nx:=λ_ H'=>Q .bn H',rt:=Q } (start N vs) H):
  ff P w K mg base CX (k+1) f (kd name qual Sg fS aB dV kV eq pm an cf ct) ps sp:=by
 apply#[len,λA outer s H args us vs Q E hr e0 hb r sA=>?_];have hl:=len _ _ _ _ sA;have KX:K.In s.heap:=e0.mod.uQ.keeps λb o e=>(e0.bs b o e).1;have agn:s.heap.NoLimit:=e0.mod.nolimit.keeps λb o e=>(e0.bs b o e).1;have aen:∀y∈ps.zip us,aB.names.lookup y.1=some .local\/(aB.names.lookup y.1=some .cell/\((f_ (s.heap.objs.size+1) aB.names []).lookup y.1).isSome=true):=λ⟨n,v⟩ hy=>by
  rcases S.par n (yW hy).1 with q|q
  show .inl q;show .inr #[q,WK _ _ _ (.inl q)]
 apply codeAny_call_function hr.depth (KX _ _ lk) rfl S.co S.gen rfl (PySem.W.codeRec_of KX my) (hb _ _ _ _ ?_);apply wpAny_newFunctionEnv_cells S.kind aen λenv he s1 x=>?_;subst he;apply#[agn.keeps x.toInCall.keep,codeAny_func ?_];let#[t,ht,hq]:=IG A outer s H vs Q E (hr.deeper _) sA;have I:Inv (gR CX P w K mg base N qual aB f cf A outer s H E) [] (start N vs) H s1:=afC S hr.aoF e0 hl r x;apply mW (ht [] s1 (start N vs) H _ I hq) (λfl s' hs=>?_) λe s' hs=>hs;have bW:∀{σ':St}{H':Hp}{v:V}{u:af},Inv (gR CX P w K mg base N qual aB f cf A outer s H E) [] σ' H' s'->RelV v u->Q v H'->CE outer P w H s Q u s':=
  λ{σ' H' v u} J rv q=>#[v,H',J.os,J.bare,J.base,J.aS,rv,q]
 cases fl with
 |ret u=>
  let#[v,σ',H',J,rv,q]:=hs;show bW J rv q
 |next=>
  let#[σ',H',J,q]:=hs;show bW (v:=V.bn) (u:=qb) J rfl q
 |brk=>
  let#[_,_,_,q]:=hs;show ju q
 |cont=>
  let#[_,_,_,q]:=hs;show ju q
section
variable{X:Cx}{x:Str}{p pos:Pos}{e:Expr}{es:List Expr}{t:TA}{id T:String}{r:List V->Hp->VK->Prop}
def Uo(r:List V->Hp->VK->Prop)(t:TA):TE:=λσ H Q=>t σ H λvs H1=>r vs H1 Q
def dg(hc:mZ X (.builtin id) r)(hg:Gl X x)(hm:X.mg x=none)(hv:jf x=some (.builtin id))(ha:PA X (e::es) t)(hn:x≠"__name__":=by decide)(hG:(x==("__debug__":Str))=false:=by decide)(he:bJ (e::es) X.env=(false,eval e X.env)::bJ es X.env:=by rfl)(hpl:(eL pos (bJ es X.env)).any (·.1)=false:=by rfl):PE X (.Call (.Name x p) (e::es) [] pos) (Uo r t):=by
 intro ae s σ H Q I h;apply vJ (qK I hg hm hv ?_ hn hG);show PyProof.Rows.callWith_builtin1 (oq (ha pos ae s σ H _ I h) λus s1 vs H1 I1 r1 q1=>hc ae s1 σ H1 vs us Q I1 r1 q1) he hpl
def yg(hc:mZ X (.type T) r)(hg:Gl X x)(hm:X.mg x=none)(hv:jf x=some (.type T))(ha:PA X (e::es) t)(hn:x≠"__name__":=by decide)(hG:(x==("__debug__":Str))=false:=by decide)(he:bJ (e::es) X.env=(false,eval e X.env)::bJ es X.env:=by rfl)(hpl:(eL pos (bJ es X.env)).any (·.1)=false:=by rfl):PE X (.Call (.Name x p) (e::es) [] pos) (Uo r t):=by
 intro ae s σ H Q I h;apply vJ (qK I hg hm hv ?_ hn hG);show Cv (oq (ha pos ae s σ H _ I h) λus s1 vs H1 I1 r1 q1=>hc ae s1 σ H1 vs us Q I1 r1 q1) he hpl
end
end L2
namespace HT
open PySem PyProof.Rows
section
variable{prog:aZ}{w:aW}{A:ci}{E:af->ax->Prop}{s:ax}
def cu(n d:Nat):Option Int->Nat
 |none=>d
 |some v=>if v<0 then(v+(n:Int)).toNat else min v.toNat n
def S6(n d:Nat)(aoF:d<=n)(o:Option Int):cu n d o<=n:=by
 cases o with
 |none=>show aoF
 |some v=>
  show(if v<0 then(v+(n:Int)).toNat else min v.toNat n)<=n;by_cases hv:v<0
  rw[aq hv];omega;rw[ay hv];show Gn _ _
end
end HT
namespace L2
open PySem PySem.Spec PyProof.Rows
abbrev TO:=St->Hp->(Option Int->Hp->Prop)->Prop
def PO(X:Cx)(e:Option Expr)(t:TO):Prop:=
 ∀(ae:List (aa×Obj))(s:ax)(σ:St)(H:Hp)(Q:Option Int->Hp->Prop),Inv X ae σ H s->t σ H Q->
  aK (aR X.prog X.w) X.A (evalPart e X.env) (λu s'=>∃o H',Inv X ae σ H' s'/\IsPart u o/\Q o H') X.xe s
def Ur:TO:=λ_ H Q=>Q none H
def KJ(t:TE):TO:=λσ H Q=>t σ H λx H1=>∃i,x=.int i/\Q (some i) H1
section
variable{X:Cx}{e:Expr}{te:TE}{lo hi:Option Expr}{tl th:TO}{pos p2:Pos}
def Sv:PO X none Ur:=by
 intro ae s σ H Q I h;rw[evalPart_none];show bR #[none,H,I,.none,h]
def yj(h:PE X e te):PO X (some e) (KJ te):=by
 intro ae s σ H Q I hw;rw[evalPart_some];apply dz (h ae s σ H _ I hw) λu s1 x H1 I1 r1 q1=>?_;let#[i,rfl,q]:=q1;let#[t,rfl]:=r1;show#[some i,H1,I1,.int i t,q]
def p9(X:Cx)(r:V->Option Int->Option Int->Hp->VK->Prop):Prop:=
 ∀(ae:List (aa×Obj))(s:ax)(σ:St)(H:Hp)(x:V)(v vl vu:af)(lo hi:Option Int)(sl:aa)(Q:VK),Inv X ae σ H s->RelV x v->s.heap.IsSliceOf sl vl vu .none->IsPart vl lo->IsPart vu hi->r x lo hi H Q->
  ∃T id,typeLookup (.type T) "__getitem__"=pure (some (.builtin id))/\s.TypeIs v T/\aK (aR X.prog X.w) X.A (Az v (.ref sl)) (EP X ae σ Q) X.xe s
def p9.or{r r':V->Option Int->Option Int->Hp->VK->Prop}(h:p9 X r)(h':p9 X r'):p9 X (λx lo hi H Q=>r x lo hi H Q\/r' x lo hi H Q):=by
 intro ae s σ H x v vl vu lo hi sl Q I rx hs pl pu q;obtain q|q:=q
 show h ae s σ H x v vl vu lo hi sl Q I rx hs pl pu q;show h' ae s σ H x v vl vu lo hi sl Q I rx hs pl pu q
def KL(r:V->Option Int->Option Int->Hp->VK->Prop)(te:TE)(tl th:TO):TE:=λσ H Q=>te σ H λx H1=>tl σ H1 λl H2=>th σ H2 λu H3=>r x l u H3 Q
def EC{r:V->Option Int->Option Int->Hp->VK->Prop}(hr:p9 X r)(he:PE X e te)(hl:PO X lo tl)(hu:PO X hi th):PE X (.Subscript e (.Slice lo hi none p2) pos) (KL r te tl th):=by
 intro ae s σ H Q I h;apply GD (dz (he ae s σ H _ I h) λv s1 x H1 I1 r1 q1=>?_);apply wpAny_Slice (cI (hl ae s1 σ H1 _ I1 q1) λvl s2 ⟨l,H2,I2,pl,q2⟩=>cI (hu ae s2 σ H2 _ I2 q2) λvu s3 ⟨u,H3,I3,pu,q3⟩=>?_);rw[evalPart_none];apply bR ?_;have I4:Inv X ae σ H3 { s3 with heap:=s3.heap.push { cls:=.type "slice",data:=.fields (List.toArray [vl,vu,.none]) } }:=I3.kept (t':=s3.toks) λb ob q=>cJ _ q;let#[T,id,hT,ht,hg]:=hr ae { s3 with heap:=s3.heap.push { cls:=.type "slice",data:=.fields (List.toArray [vl,vu,.none]) } } σ H3 x v vl vu l u s3.heap.objs.size Q I4 r1 (ane ..) pl pu q3;show aK (aR X.prog X.w) X.A (Uf e (.Slice lo hi none p2) v (.ref s3.heap.objs.size)) (EP X ae σ Q) X.xe { s3 with heap:=s3.heap.push { cls:=.type "slice",data:=.fields (List.toArray [vl,vu,.none]) } };show tail_any (ops:=[.ref s3.heap.objs.size,v]) ht hT hg (by with_unfolding_all rfl)
def sf(xs:List V)(lo hi:Option Int):List V:=(xs.drop (HT.cu xs.length 0 lo)).take (HT.cu xs.length xs.length hi-HT.cu xs.length 0 lo)
def ZA(xs:List V)(lo hi:Option Int):(sf xs lo hi).length<=xs.length:=by
 unfold sf;rw[ka,jv];omega
end
def pF(n:Nat)(i:Int):Option Nat:=if 0<=i then(if i<n then some i.toNat else none)else if -(n:Int)<=i then some (i+n).toNat else none
def qg{α:Type}(xs:List α)(i:Int):Option α:=(pF xs.length i).bind λj=>xs[j]?
def QP{n:Nat}{i:Int}{j:Nat}(h:pF n i=some j):seqIndex? i n=some j/\j<n/\ -(n:Int)<=i/\i<n:=by
 unfold pF at h;by_cases h0:0<=i
 rw[aq h0]at h;by_cases h1:i<n
 rw[aq h1]at h;have e:i.toNat=j:=cV h;show#[by rw[To h0 h1,e],by omega,by omega,h1];rw[ay h1]at h;cases h;rw[ay h0]at h;by_cases h1: -(n:Int)<=i
 rw[aq h1]at h;have e:(i+n).toNat=j:=cV h;show#[by rw[seqIndex_neg () h1,e],by omega,h1,by omega];rw[ay h1]at h;cases h
def G7{α:Type}{xs:List α}{i:Int}{v:α}(h:qg xs i=some v):∃j,seqIndex? i xs.length=some j/\xs[j]? =some v/\j<xs.length/\ -(xs.length:Int)<=i/\i<xs.length:=by
 unfold qg at h;cases e:pF xs.length i with
 |none=>rw[e]at h;cases h
 |some j=>
  rw[e]at h;let#[h1,h2,h3,h4]:=QP e;show#[j,h1,h,h2,h3,h4]
def cG{α:Type}{xs:List α}{j:Nat}{v:α}(h:xs[j]? =some v):qg xs (j:Int)=some v:=by
 have hj:j<xs.length:=(List.getElem?_eq_some_iff.mp h).1;have e:pF xs.length (j:Int)=some j:=by
  unfold pF;rw[aq (),aq ()];simp
 unfold qg;rw[e];show h
def Wq(b:Expr):Prop:=∀o i,Kz b false o i=operate [o,i] (Az o i)
def oF(X:Cx)(r:R2):Prop:=
 ∀(h_ lW:Expr)(ae:List (aa×Obj))(s:ax)(σ:St)(H:Hp)(x y:V)(v u:af)(Q:VK),Inv X ae σ H s->RelV x v->RelV y u->r x y H Q->
  Kz lW false v u=operate [v,u] (Az v u)->aK (aR X.prog X.w) X.A (Uf h_ lW v u) (EP X ae σ Q) X.xe s
def iN(X:Cx)(id:String)(r:V->List V->Hp->VK->Prop):Prop:=
 ∀(ae:List (aa×Obj))(s:ax)(σ:St)(H:Hp)(x:V)(xs:List V)(v:af)(us:List af)(Q:VK),Inv X ae σ H s->RelV x v->bi xs us->r x xs H Q->
  aK (aR X.prog X.w) X.A (call (.builtin id) (v::us)) (EP X ae σ Q) X.xe s
section
variable{X:Cx}{a b:Expr}{ta tb:TE}{pos:Pos}
def oF.or{r r':R2}(h:oF X r)(h':oF X r'):oF X (λx y H Q=>r x y H Q\/r' x y H Q):=by
 intro h_ lW ae s σ H x y v u Q I rx ry q hs;obtain q|q:=q
 show h h_ lW ae s σ H x y v u Q I rx ry q hs;show h' h_ lW ae s σ H x y v u Q I rx ry q hs
def cr{r:R2}(hr:oF X r)(ha:PE X a ta)(hb:PE X b tb)(hs:Wq b):PE X (.Subscript a b pos) (Fb r ta tb):=by
 intro ae s σ H Q I h;show GD (Hb ha hb I h λv u s2 x y H2 I2 rx ry q=>hr a b ae s2 σ H2 x y v u Q I2 rx ry q (hs _ _))
def SE(K:aP):R2:=λx y H Q=>∃p xs i v,x=.ref p/\y=.int i/\az K H p xs/\qg xs i=some v/\Q v H
def SG(K:aP):R2:=λx y H Q=>∃p xs i v,x=.ref p/\y=.int i/\bL K H p xs/\qg xs i=some v/\Q v H
def SF:R2:=λx y H Q=>∃z i c,x=.str z/\y=.int i/\z.length<=sizeLine/\qg z.cps.toList i=some c/\Q (.str #[(List.toArray [c])]) H
def afI:oF X (SE X.K):=by
 intro h_ lW ae s σ H x y v u Q I rx ry h hs;let#[p,xs,i,z,rfl,rfl,hq,he,q]:=h;cases rx;let#[t,rfl]:=ry;let#[aF,r,pl,hz]:=I.list hq;let#[j,h1,h2,h3,h4,h5]:=G7 he;let#[w,ew,jU]:=r.get h2;have hl:=r.length;have hn:=uU;have bW:EP X ae σ Q w s:=#[z,H,I,jU,q];by_cases h0:0<=i
 have hj:i.toNat=j:=by
  rw[To h0 h5]at h1;show cV h1
 show item_listR pl.isList h0 () (by rw[hj];simpa using ew) bW hs;have hj:(i+(aF.toArray.size:Int)).toNat=j:=by
  rw[seqIndex_neg () h4]at h1;rw[fi,<-hl];show cV h1
 show alp (x:=w) pl.isList.typeIs slot_list_getitem.lookup
  (wpAny_getItem_list_neg (Q:=λr s'=>r=w/\EP X ae σ Q r s') pl.isList () (by rw[fi]<;>omega) () (by rw[hj];simpa using ew) #[rfl,bW]) hs
def afK:oF X (SG X.K):=by
 intro h_ lW ae s σ H x y v u Q I rx ry h hs;let#[p,xs,i,z,rfl,rfl,hq,he,q]:=h;cases rx;let#[t,rfl]:=ry;let#[aF,r,pl,hz]:=I.tuple hq;let#[j,h1,h2,h3,h4,h5]:=G7 he;let#[w,ew,jU]:=r.get h2;have hl:=r.length;have hn:=uU;have bW:EP X ae σ Q w s:=#[z,H,I,jU,q];show alp (x:=w) pl.typeIs slot_tuple_getitem.lookup
  (getItem_tuple (j:=j) (Q:=λr s'=>r=w/\EP X ae σ Q r s') pl () () (by rw[fi,<-hl];show h1) (by simpa using ew) #[rfl,bW]) hs
def afJ:oF X SF:=by
 intro h_ lW ae s σ H x y v u Q I rx ry h hs;let#[z,i,c,rfl,rfl,hz,he,q]:=h;let#[t,rfl]:=rx;let#[t',rfl]:=ry;let#[j,h1,h2,h3,h4,h5]:=G7 he;have hl:z.cps.toList.length=z.length:=by simp[Str.length]
 rw[hl]at h1 h4 h5;have hn:=uU;show tail_any (vD s z t) slot_str_getitem.lookup (getItem_str (c:=c) (by
  have e1:decide (i< -(2 ^ 63:Int))=false:=cO ();have e2:decide (i≥2 ^ 63)=false:=cO ();rw[e1,e2,FI]) (by rw[h1];simpa using h2) #[.str #[(List.toArray [c])],H,I.tok _,#[_,rfl],q]) hs
def SD(K:aP):R2:=λx y H Q=>SE K x y H Q\/SG K x y H Q\/SF x y H Q
def cP:oF X (SD X.K):=afI.or (afK.or afJ)
def agM(aF:List af)(n j:Nat)(u:af):Cs (·.setIfInBounds j u) { cls:=.type "list",data:=.seq aF.toArray n }={ cls:=.type "list",data:=.seq (aF.set j u).toArray n }:=by
 simp[Cs]
def Inv.lst{ae:List (aa×Obj)}{σ:St}{H:Hp}{s:ax}{p:aa}{xs:List V}(I:Inv X ae σ H s)(h:H p=some (.lst xs)):
  ∃(aF:List af)(n:Nat),bi xs aF/\s.heap.get? p=some { cls:=.type "list",data:=.seq aF.toArray n }/\xs.length<=sizeLine:=by
 let#[z,aF,n,r,e]:=I.aS p _ h;show#[aF,n,r,e,z]
def Inv.agC{ae:List (aa×Obj)}{σ:St}{H:Hp}{s:ax}{p:aa}{xs ys:List V}{aF its':List af}{n n':Nat}{f:Obj->Obj}(I:Inv X ae σ H s)(h:H p=some (.lst xs))(ho:s.heap.get? p=some { cls:=.type "list",data:=.seq aF.toArray n })(hf:f { cls:=.type "list",data:=.seq aF.toArray n }={ cls:=.type "list",data:=.seq its'.toArray n' })(r:bi ys its')(hz:ys.length<=sizeLine)(t:Nat):
  Inv X ae σ (upd H p (.lst ys)) { s with heap:=s.heap.update p f,toks:=t }:=by
 have e:(s.heap.update p f).get? p=some { cls:=.type "list",data:=.seq its'.toArray n' }:=by
  rw[vW f ho (by rw[hf]<;>rfl),hf]
 apply I.write (x:=p) (e:=p) (by rw[h];trivial) (.inl rfl) (λb u hb q=>(mf _ _ (iP hb)).trans q) #[_,e] ?_;show#[hz,its',n',r,e]
def aiR:V->V->V->Hp->(Hp->Prop)->Prop:=λo i v H Q=>∃p xs k j,o=.ref p/\i=.int k/\H p=some (.lst xs)/\pF xs.length k=some j/\Q (upd H p (.lst (xs.set j v)))
def Kn:Mi X aiR:=by
 intro ae s σ H o i v ov iv u Q I ro ri rv h;let#[p,xs,k,j,rfl,rfl,hp,hj,q]:=h;cases ro;let#[t,rfl]:=ri;let#[aF,n,r,ho,hz]:=I.lst hp;let#[h1,h2,h3,h4]:=QP hj;have hl:=r.length;have hn:=uU;have I':Inv X ae σ (upd H p (.lst (xs.set j v))) { s with heap:=s.heap.update p (Cs (·.setIfInBounds j u)) }:=
  I.agC hp ho (agM aF n j u) (r.set rv j) (by rw[v_];show hz) s.toks
 by_cases h0:0<=k
 have hk:k.toNat=j:=by
  rw[To h0 h4]at h1;show cV h1
 show PySem.W.ki_setAt ho h0 () (by rw[fi,<-hl];show h4) (by rw[hk];show#[_,I',q]);have hk:(k+(aF.toArray.size:Int)).toNat=j:=by
  rw[seqIndex_neg () h3]at h1;rw[fi,<-hl];show cV h1
 show PySem.W.ki_setBack ho () (by rw[fi,<-hl];show h3) () (by rw[hk];show#[_,I',q])
def ajH(lo hi:Option Int)(n:Nat):(yr lo hi none n).1=((HT.cu n 0 lo:Nat):Int)/\(yr lo hi none n).2.1=((HT.cu n n hi:Nat):Int)/\(yr lo hi none n).2.2=1:=by
 apply#[?_,?_,rfl];cases lo with
 |none=>simp[yr,HT.cu]
 |some i=>
  simp![yr,HT.cu,Wo,show(1:Int)>0 by decide,bz];by_cases h:i<0
  simp![h,bz]<;>omega;simp![h,bI]<;>omega
 cases hi with
 |none=>simp[yr,HT.cu]
 |some i=>
  simp![yr,HT.cu,Wo,show(1:Int)>0 by decide,bz];by_cases h:i<0
  simp![h,bz]<;>omega;simp![h,bI]<;>omega
def ajG(aF:List af)(lo hi:Option Int):slicePick aF.toArray lo hi none=((aF.drop (HT.cu aF.length 0 lo)).take (HT.cu aF.length aF.length hi-HT.cu aF.length 0 lo)).toArray:=by
 let#[h1,h2,h3]:=ajH lo hi aF.toArray.size;unfold slicePick;rw[h1,h2,h3];simp![sliceRange_one,pick_run,fi]<;>rfl
def EM(K:aP):V->Option Int->Option Int->Hp->VK->Prop:=λx lo hi H Q=>∃a xs,x=.ref a/\az K H a xs/\∀p,H p=none->Q (.ref p) (upd H p (.lst (sf xs lo hi)))
def ajE:p9 X (EM X.K):=by
 intro ae s σ H x v vl vu lo hi sl Q I rx hs pl pu h;let#[a,xs,rfl,hx,q]:=h;cases rx;let#[aF,r,ht,hz]:=I.list hx;have hlen:=r.length;apply#["list",_,slot_list_getitem.lookup,ht.isList.typeIs,?_];apply wpAny_getItem_list_slice ht.isList hs pl pu .none () ?_ (by rw[fi]<;>omega);rw[ajG,<-hlen];apply#[.ref s.heap.objs.size,_,I.laid (t':=s.toks) (o:=.lst (sf xs lo hi)) (λb ob q=>cJ _ q) (bj _) ?_,rfl,q _ (I.aS.fresh (bj _))];show#[cp (ZA xs lo hi) hz,_,0,(r.drop (HT.cu xs.length 0 lo)).take (HT.cu xs.length xs.length hi-HT.cu xs.length 0 lo),eV _ rfl]
def g9:V->Bool
 | .bn=>true
 | .bl _=>true
 | .int _=>true
 | .str _=>true
 |_=>false
def ir:V->V->Bool
 | .bn,.bn=>true
 | .bl a,.bl b=>a==b
 | .bl a,.int b=>(if a then 1 else 0)==b
 | .int a,.bl b=>a==(if b then 1 else 0)
 | .int a,.int b=>a==b
 | .str a,.str b=>a==b
 |_,_=>false
def abh{A:ci}{s:ax}{y x:V}{u v:af}(ry:RelV y u)(rx:RelV x v)(fy:g9 y=true)(fx:g9 x=true):SeqAt.EqAt A s u v (ir y x):=by
 cases y with
 |bn=>
  cases ry;cases x with
  |bn=>cases rx;show SeqAt.EqAt.same _
  |bl b=>cases rx;show SeqAt.EqAt.none_bool b
  |int b=>let#[t,rfl]:=rx;show SeqAt.EqAt.none_int b t
  |str b=>let#[t,rfl]:=rx;show SeqAt.EqAt.none_str b t
  |_=>show absurd (show false=true from fx) dh
 |bl a=>
  cases ry;cases x with
  |bn=>cases rx;show SeqAt.EqAt.bool_none a
  |bl b=>cases rx;show SeqAt.EqAt.bool_bool a b
  |int b=>let#[t,rfl]:=rx;show SeqAt.EqAt.bool_int a b t
  |str b=>let#[t,rfl]:=rx;show SeqAt.EqAt.bool_str a b t
  |_=>show absurd (show false=true from fx) dh
 |int a=>
  let#[t',rfl]:=ry;cases x with
  |bn=>cases rx;show SeqAt.EqAt.int_none a t'
  |bl b=>cases rx;show SeqAt.EqAt.int_bool a t' b
  |int b=>let#[t,rfl]:=rx;show SeqAt.EqAt.int_int a t' b t
  |str b=>let#[t,rfl]:=rx;show WZ a t' b t
  |_=>show absurd (show false=true from fx) dh
 |str a=>
  let#[t',rfl]:=ry;cases x with
  |bn=>cases rx;show SeqAt.EqAt.str_none a t'
  |bl b=>cases rx;show SeqAt.EqAt.str_bool a t' b
  |int b=>let#[t,rfl]:=rx;show W0 a t' b t
  |str b=>let#[t,rfl]:=rx;show SeqAt.EqAt.str_str a t' b t
  |_=>show absurd (show false=true from fx) dh
 |_=>show absurd (show false=true from fy) dh
def iq(x:V)(u:af):Bool:=match u with
 | .none=>ir .bn x
 | .bool b=>ir (.bl b) x
 | .int i _=>ir (.int i) x
 | .str z _=>ir (.str z) x
 |_=>false
def Ab{x y:V}{u:af}(r:RelV y u)(f:g9 y=true):iq x u=ir y x:=by
 cases y with
 |bn=>cases r;rfl
 |bl b=>cases r;rfl
 |int i=>let#[t,rfl]:=r;rfl
 |str z=>let#[t,rfl]:=r;rfl
 |_=>show absurd (show false=true from f) dh
theorem zI{x:V}:∀{xs:List V}{us:List af},bi xs us->xs.all g9=true->us.any (iq x)=xs.any λy=>ir y x
 |_,_,.nil,_=>rfl
 |y::xs,u::us,.cons r t,f=>by
  rw[lg,bS]at f;rw[oG,oG,Ab r f.1,zI t f.2]
theorem uY{A:ci}{s:ax}{x:V}{v:af}(rx:RelV x v)(fx:g9 x=true):∀{xs:List V}{us:List af},bi xs us->xs.all g9=true->∀u∈us,SeqAt.EqAt A s u v (iq x u)
 |_,_,.nil,_=>λu hu=>by cases hu
 |y::xs,u::us,.cons r t,f=>λu' hu=>by
  rw[lg,bS]at f;rcases iM.mp hu with rfl|hu
  rw[Ab r f.1];show abh r rx f.1 fx;show uY rx fx t f.2 u' hu
def pE(x:V)(xs:List V):Bool:=xs.any λy=>ir y x
def ym(K:aP)(neg:Bool):R2:=λx y H Q=>∃p xs,y=.ref p/\(az K H p xs\/bL K H p xs)/\g9 x=true/\xs.all g9=true/\Q (.bl (if neg then !pE x xs else pE x xs)) H
def sU:fz X (o0 .In) (ym X.K false):=by
 intro ae s σ H x y v u Q I rx ry h;let#[p,xs,rfl,hq,fx,fs,q]:=h;cases ry;obtain hq|hq:=hq
 let#[aF,r,pl,hz]:=I.list hq;apply SeqAt.in_listAt (iq x) pl.isList (λw hw=>uY rx fx r fs w (by simpa using hw)) #[.bl _,H,I,rfl,?_];rw[show aF.toArray.any (iq x)=aF.any (iq x) by simp,zI r fs];show q;let#[aF,r,pl,hz]:=I.tuple hq;apply SeqAt.in_tupleAt (iq x) pl (λw hw=>uY rx fx r fs w (by simpa using hw)) #[.bl _,H,I,rfl,?_];rw[show aF.toArray.any (iq x)=aF.any (iq x) by simp,zI r fs];show q
def qT:fz X (o0 .NotIn) (ym X.K true):=by
 intro ae s σ H x y v u Q I rx ry h;let#[p,xs,rfl,hq,fx,fs,q]:=h;cases ry;obtain hq|hq:=hq
 let#[aF,r,pl,hz]:=I.list hq;apply SeqAt.notIn_listAt (iq x) pl.isList (λw hw=>uY rx fx r fs w (by simpa using hw)) #[.bl _,H,I,rfl,?_];rw[show aF.toArray.any (iq x)=aF.any (iq x) by simp,zI r fs];show q;let#[aF,r,pl,hz]:=I.tuple hq;apply SeqAt.notIn_tupleAt (iq x) pl (λw hw=>uY rx fx r fs w (by simpa using hw)) #[.bl _,H,I,rfl,?_];rw[show aF.toArray.any (iq x)=aF.any (iq x) by simp,zI r fs];show q
def Ze:mZ X (.type "list") (λxs H Q=>∃p ys,xs=[.ref p]/\(az X.K H p ys\/bL X.K H p ys)/\∀l,H l=none->Q (.ref l) (upd H l (.lst ys))):=by
 intro ae s σ H xs us Q I r h;let#[p,ys,rfl,hq,q]:=h;let#[u,rfl,rx]:=vals1 r;cases rx;have bW:∀(aF:List af),bi ys aF->ys.length<=sizeLine->∀(h':aL)(c':Nat),(∀b o',s.heap.get? b=some o'->h'.get? b=some o')->
   h'.get? s.heap.objs.size=some { cls:=.type "list",dict:=none,data:=.seq aF.toArray c',slots:= (List.toArray []) }->EP X ae σ Q (.ref s.heap.objs.size) { s with heap:=h' }:=λaF r' hz h' c' kp e=>
  #[.ref s.heap.objs.size,_,I.laid (t':=s.toks) kp (bj _) (show dM X.prog X.w _ h' _ (.lst ys) from#[hz,aF,c',r',e]),rfl,q _ (I.aS.fresh (bj _))]
 obtain hq|hq:=hq
 let#[aF,r',pl,hz]:=I.list hq;have hlen:=r'.length;let#[o,ho,hc,n,aoF]:=pl.isList;show call_list_seq p (.inl rfl) ho hc aoF (λh' c' kp e=>bW aF r' hz h' c' kp e) (by simp![fi]<;>omega);let#[aF,r',pl,hz]:=I.tuple hq;have hlen:=r'.length;let#[o,ho,hc,n,aoF]:=pl;show call_list_seq p (.inr rfl) ho hc aoF (λh' c' kp e=>bW aF r' hz h' c' kp e) (by simp![fi]<;>omega)
def B1(K:aP)(T:String)(x:V)(H:Hp):Prop:=match x with
 | .str _=>T="str"
 | .int _=>T="int"
 | .ref p=>(T="list"/\∃xs,az K H p xs)\/(T="tuple"/\∃o,K.lookup p=some o/\o.cls=.type "tuple"/\o.dict=none)\/
   (T="dict"/\((∃kvs,H p=some (.dK kvs))\/∃kvs,H p=some (.dT kvs)))\/(T="set"/\∃S n,H p=some (.set S n))
 |_=>False
def amJ{ae:List (aa×Obj)}{σ:St}{H:Hp}{s:ax}{T:String}{x:V}{v:af}(I:Inv X ae σ H s)(r:RelV x v)(ty:B1 X.K T x H):
  s.TypeIs v T/\∀a,v=.ref a->∃ob,s.heap.get? a=some ob/\ob.dict=none:=by
 cases x with
 |str z=>
  let#[t,rfl]:=r;cases(show T="str" from ty);show#[vD s z t,λ_ e=>nomatch e]
 |int i=>
  let#[t,rfl]:=r;cases(show T="int" from ty);show#[typeIs_int s i t,λ_ e=>nomatch e]
 |ref p=>
  cases r;rcases ty with⟨rfl,xs,hq⟩|⟨rfl,o,hk,hc,aoF⟩|⟨rfl,hk⟩|⟨rfl,S,n,hk⟩
  let#[aF,_,pl,_]:=I.list hq;apply#[pl.isList.typeIs,λa e=>?_];cases e;let#[o,n,e,c,aoF,_]:=pl;show#[o,e,aoF];apply#[#[o,I.gu p o hk,hc],λa e=>?_];cases e;show#[o,I.gu _ o hk,aoF];have z:∃o,s.heap.get? p=some o/\o.ExactDict:=by
   rcases hk with⟨kvs,hk⟩|⟨kvs,hk⟩
   let#[_,_,_,_,o,_,_,e,ex,_]:=I.aS p _ hk;show#[o,e,ex];let#[_,_,_,_,o,_,_,e,ex,_]:=I.aS p _ hk;show#[o,e,ex]
  let#[o,e,ex]:=z;apply#[#[o,e,ex.1],λa e2=>?_];cases e2;show#[o,e,ex.2.1];let#[o,_,_,_,e,ex,_]:=I.aS p _ hk;apply#[#[o,e,ex.1],λa e2=>?_];cases e2;show#[o,e,ex.2.1]
 |_=>show ju ty
def E9(K:aP)(T:String)(r:V->List V->Hp->VK->Prop)(to:TE)(t:TA):TE:=λσ H Q=>to σ H λx H1=>B1 K T x H1/\t σ H1 λxs H2=>r x xs H2 Q
variable{o e:Expr}{es:List Expr}{to:TE}{t:TA}{name:Str}{dB gr:Pos}{T id:String}{r:V->List V->Hp->VK->Prop}
def iH(pa:PlainAttrs T)(slot:Slot T name id)(xE:typeOf (.builtin id)=pure (.type "method_descriptor"))(hm:iN X id r)(ho:PE X o to)(ha:PA X (e::es) t)(nN:qh o name X.env (eval o X.env)=eval o X.env:=by rfl)(ad5:((eL gr (bJ (e::es) X.env)).all (λx=>!x.1)&&(rW gr (sC [] X.env)).all (λx=>x.1.isSome)
   &&decide ((e::es).length+([]:List yS).length+(if ([]:List yS).isEmpty then 0 else 1)<30))=true:=by rfl)(nT:(dB.endLine==gr.line)=true:=by rfl)(hs:bJ (e::es) X.env=(false,eval e X.env)::bJ es X.env:=by rfl)(aeO:(eL gr (bJ es X.env)).any (·.1)=false:=by rfl):
  PE X (.Call (.Attribute o name dB) (e::es) [] gr) (E9 X.K T r to t):=by
 intro ae s σ H Q I h;apply wpAny_Call_method_late nN ad5 nT rfl (dz (ho ae s σ H _ I h) λv s1 x H1 I1 r1 gg=>?_);let#[ty,q1]:=gg;let#[h1,h2]:=amJ I1 r1 ty;apply#[T,id,pa,slot,xE,h1,h2,?_];have hA:=ha gr ae s1 σ H1 _ I1 q1;rw[hs]at hA⊢;apply FT (by show(false||(eL gr (bJ es X.env)).any (·.1))=false;rw[aeO]<;>rfl) (Ln ?_);show oq hA λus s2 vs H2 I2 r2 q2=>hm ae s2 σ H2 x vs v us Q I2 r1 r2 q2
end
def L'(X:Cx)(id:String)(r:V->List V->Hp->VK->Prop):Prop:=
 ∀(ae:List (aa×Obj))(s:ax)(σ:St)(H:Hp)(x:V)(xs:List V)(v:af)(us:List af)(Q:VK),Inv X ae σ H s->RelV x v->bi xs us->r x xs H Q->
  aK (aR X.prog X.w) X.A (call (.builtin id) (v::us)) (EP X ae σ Q) X.xe s
def bi.one:∀{x:V}{us:List af},bi [x] us->∃u,us=[u]/\RelV x u
 |_,_,.cons r .nil=>#[_,rfl,r]
section
variable{X:Cx}{ae:List (aa×Obj)}{σ:St}{H:Hp}{s:ax}{l b:aa}{xs ys zs:List V}
def Inv.Rk{aF its':List af}{n:Nat}{f:Array af->Array af}{t':Nat}(I:Inv X ae σ H s)(hH:H l=some (.lst xs))(e:s.heap.get? l=some { cls:=.type "list",data:=.seq aF.toArray n })(hf:f aF.toArray=its'.toArray)(hv:bi ys its')(hz:ys.length<=sizeLine):
  Inv X ae σ (upd H l (.lst ys)) { s with heap:=s.heap.update l (Cs f),toks:=t' }:=by
 have q:=PySem.IsL.update e f;rw[hf]at q;apply I.write (x:=l) (e:=l) (by rw[hH];show trivial) (.inl rfl) (λb' u hb hu=>(mf s.heap (Cs f) (iP hb)).trans hu) #[_,q] ?_;show#[hz,its',_,hv,q]
def Inv.agt{aF:List af}{t':Nat}(I:Inv X ae σ H s)(hv:bi ys aF)(hz:ys.length<=sizeLine):
  Inv X ae σ (upd H s.heap.objs.size (.lst ys)) { s with heap:=s.heap.push { cls:=.type "list",data:=.seq aF.toArray },toks:=t' }:=
 I.laid (λ_ _ q=>cJ _ q) (bj _) #[hz,aF,0,hv,eV _ rfl]
def Inv.fresh(I:Inv X ae σ H s):H s.heap.objs.size=none:=I.aS.fresh (bj _)
def Inv.Ba(I:Inv X ae σ H s)(hH:H l=some (.lst xs)):xs.length<=sizeLine/\∃(aF:List af)(n:Nat),bi xs aF/\xs.length=aF.length/\s.heap.get? l=some { cls:=.type "list",data:=.seq aF.toArray n }:=by
 let#[z,aF,n,r,e]:=I.aS l _ hH;show#[z,aF,n,r,r.length,e]
def ahQ{n:Nat}(h:n<=sizeLine):Ll n=false:=by
 unfold Ll;show cO ()
end
section
variable{X:Cx}
def EK:V->List V->Hp->VK->Prop:=λx vs H Q=>∃l xs y,x=.ref l/\vs=[y]/\H l=some (.lst xs)/\xs.length<sizeLine/\Q .bn (upd H l (.lst (xs++[y])))
def sH:L' X "list.append" EK:=by
 intro ae s σ H x vs v us Q I rx rv h;let#[l,xs,y,rfl,rfl,hH,hz,q]:=h;cases rx;let#[u,rfl,ru]:=rv.one;let#[z,aF,n,r,hl,e]:=I.Ba hH;apply wW F.slot_list_append #[_,e,rfl] F.entry_list_append (F.args_list_append_2 _ _) (PySem.list_append l aF.toArray n u (by rw[fi];omega)) #[e,?_];apply#[.bn,_,I.Rk (its':=aF++[u]) hH e () (r.append (.cons ru .nil)) ?_,rfl,q];rw[dG,rC];omega
def aiM:V->List V->Hp->VK->Prop:=λx vs H Q=>∃l b xs zs,x=.ref l/\vs=[.ref b]/\H l=some (.lst xs)/\H b=some (.lst zs)/\xs.length+zs.length<=sizeLine/\Q .bn (upd H l (.lst (xs++zs)))
def Bg:L' X "list.extend" aiM:=by
 intro ae s σ H x vs v us Q I rx rv h;let#[l,b,xs,zs,rfl,rfl,hH,hB,hz,q]:=h;cases rx;let#[u,rfl,ru]:=rv.one;cases ru;let#[z,aF,n,r,hl,e]:=I.Ba hH;let#[z2,qD,n2,r2,hl2,e2]:=I.Ba hB;have hsz:aF.toArray.size+qD.toArray.size<=sizeLine:=by rw[fi,fi];omega
 have aev:¬(!aF.toArray.isEmpty&&Ll (aF.toArray.size+qD.toArray.size))=true:=by
  rw[ahQ hsz,tT];show dh
 apply wW F.slot_list_extend #[_,e,rfl] F.entry_list_extend (F.args_list_extend_2 _ _)
  (AutoSeq1.list_extend_list_list_0 l aF.toArray n b qD.toArray n2 aev (by rw[fi];omega) ()) #[e,e2,?_]
 apply#[.bn,_,I.Rk (its':=aF++qD) hH e () (r.append r2) ?_,rfl,q];rw[dG];omega
def EL:R2:=λx y H Q=>∃l b xs zs,x=.ref l/\y=.ref b/\H l=some (.lst xs)/\H b=some (.lst zs)/\xs.length+zs.length<=sizeLine/\∀p,H p=none->Q (.ref p) (upd H p (.lst (xs++zs)))
def ah9:fz X (ux .Add) EL:=by
 intro ae s σ H x y v u Q I rx ry h;let#[l,b,xs,zs,rfl,rfl,hH,hB,hz,q]:=h;cases rx;cases ry;let#[z,aF,n,r,hl,e]:=I.Ba hH;let#[z2,qD,n2,r2,hl2,e2]:=I.Ba hB;apply PySem.P.add_list e e2 ?_ (by rw[fi,fi];omega);have ea:aF.toArray++qD.toArray=(aF++qD).toArray:=by simp
 rw[ea];show#[.ref _,_,I.agt (t':=s.toks) (r.append r2) (by rw[dG];omega),rfl,q _ I.fresh]
end
theorem bi.ints:∀{ns:List Int}{us:List af},bi (ns.map V.int) us->IntsAre us ns
 |[],us,h=>by
  rw[gY]at h;cases h;show IntsAre.nil
 |n::ns,us,h=>by
  rw[ba]at h;cases h with
  |cons r t=>
   let#[k,rfl]:=r;show IntsAre.cons n k (bi.ints t)
theorem UX:∀{us:List af}{ns:List Int},IntsAre us ns->bi (ns.map V.int) us
 |_,_,.nil=>by rw[gY];show Paired.nil
 |_,_,.cons n t h=>by rw[ba];show Paired.cons (show RelV (V.int n) (zy n t) from#[t,rfl]) (UX h)
theorem bi.strs:∀{xs:List Str}{us:List af},bi (xs.map V.str) us->StrsAre us xs
 |[],us,h=>by
  rw[gY]at h;cases h;show StrsAre.nil
 |x::xs,us,h=>by
  rw[ba]at h;cases h with
  |cons r t=>
   let#[k,rfl]:=r;show StrsAre.cons x k (bi.strs t)
theorem bi.Hc:∀{bs:List Bool}{us:List af},bi (bs.map V.bl) us->us=bs.map ur
 |[],us,h=>by
  rw[gY]at h;cases h;rfl
 |b::bs,us,h=>by
  rw[ba]at h;cases h with
  |cons r t=>
   cases r;rw[bi.Hc t,ba]
def bi.EQ{a:aa}{us:List af}(r:bi [V.ref a] us):us=[fD a]:=by
 cases r with
 |cons r t=>
  cases t;cases r;rfl
section
variable{X:Cx}
def aiO(K:aP):V->List V->Hp->VK->Prop:=λx xs H Q=>∃(a:aa)(ys:List V)(y:V)(j:Nat)(z:V),x=V.ref a/\xs=[y]/\az K H a ys/\g9 y=true/\ys.all g9=true/\ys[j]? =some z/\ir z y=true/\
 (∀(m:Nat)(z':V),m<j->ys[m]? =some z'->ir z' y=false)/\Q (.int (j:Nat)) H
def O3{ys:List V}(f:ys.all g9=true){j:Nat}{z:V}(h:ys[j]? =some z):g9 z=true:=eW.mp f z (fh h)
def Ry:iN X "list.index" (aiO X.K):=by
 intro ae s σ H x xs v us Q I rx BC h;let#[a,ys,y,j,z,rfl,rfl,hs,fy,xm,hz,ae9,IX,q]:=h;cases rx;cases BC with
 |cons ry rt=>
  rename_i uy ut;cases rt;let#[aF,rv,#[#[cls,dd,data,sl],n,ho,hc,adV,aoF],hlen]:=I.list hs;simp only at hc aoF;subst hc aoF;let#[u,hu,ru]:=rv.get hz;let#[hjl,aej]:=List.getElem?_eq_some_iff.mp hu;have hvl:=rv.length;have hj:j<aF.toArray.size:=by simpa using hjl
  have hsl:=vn;apply wW Mo #[_,ho,rfl] PySem.F.entry_list_index (PySem.F.args_list_index_2 _ _)
   (SeqAt.list_indexAt a aF.toArray n dd sl uy (iq y) j hj () ?_ ?_) #[ho,λu' Jb=>uY ry fy rv xm u' (by simpa using Jb),?_]
  have e1:aF.toArray[j]=u:=by simpa using aej
  rw[e1,Ab ru (O3 xm hz)];show ae9;intro m hm aez;have hml:m<aF.length:=by simpa using hm
  have aeA:m<ys.length:=by omega
  have Jg:ys[m]? =some ys[m]:=ca aeA;let#[u2,Jc,Kg]:=rv.get Jg;let#[_,aey]:=List.getElem?_eq_some_iff.mp Jc;have e1:aF.toArray[m]=u2:=by simpa using aey
  rw[e1,Ab Kg (O3 xm Jg)];show IX m _ aez Jg;show#[.int (j:Nat),H,I.tok _,#[_,rfl],q]
end
def QN{prog:aZ}{w:aW}{A:ci}{E:af->ax->Prop}{s:ax}{l:aa}{items:Array af}{Q:af->ax->Prop}(hl:s.heap.IsList l items)(h:∀s₂:ax,s₂={ s with heap:=s.heap.push { cls:=.type "list_iterator",data:=.fields (List.toArray [.ref l,.int 0 0]) } }->
   (s₂.heap.IsListIter s.heap.objs.size l 0/\s₂.heap.IsList l items)->l≠s.heap.objs.size->Q (.ref s.heap.objs.size) s₂):aK (aR prog w) A (By (.ref l)) Q E s:=by
 have hlt:l<s.heap.objs.size:=by let#[_,e,_]:=hl;show cK e
 show Lc hl (h _ rfl #[#[_,eV _ rfl,rfl,rfl],hl.push _] (dZ hlt))
def UG{prog:aZ}{w:aW}{A:ci}{bs:List Bool}{aF:List af}(e:aF=bs.map ur):
  TruthOf prog w A (λi v=>aF.toArray[i]? =some v) (λi=>bs.getD i false):=λi v s Q E hv hq=>by
 have hv':aF[i]? =some v:=by simpa using hv
 rw[e,cx]at hv';let#[b,hb,rfl]:=Option.map_eq_some_iff.mp hv';have hg:bs.getD i false=b:=by rw[cZ,hb]<;>rfl
 have sy:Q (bs.getD i false) s:=hq;rw[hg]at sy;show tR sy
theorem any_range:∀bs:List Bool,(bv bs.length).any (λi=>bs.getD i false)=bs.any id
 |[]=>rfl
 |b::bs=>by
  rw[cN,Gh,oG,yU,oG,<-any_range bs]
  all_goals rfl
theorem all_range:∀bs:List Bool,(bv bs.length).all (λi=>bs.getD i false)=bs.all id
 |[]=>rfl
 |b::bs=>by
  rw[cN,Gh,lg,lj,lg,<-all_range bs]
  all_goals rfl
section
variable{X:Cx}
def aiJ(K:aP):List V->Hp->VK->Prop:=λvs H Q=>∃(a:aa)(bs:List Bool),vs=[V.ref a]/\az K H a (bs.map V.bl)/\Q (.bl (bs.any id)) H
def aiI(K:aP):List V->Hp->VK->Prop:=λvs H Q=>∃(a:aa)(bs:List Bool),vs=[V.ref a]/\az K H a (bs.map V.bl)/\Q (.bl (bs.all id)) H
def Hz(hc:X.calm=true):mZ X (.builtin "any") (aiJ X.K):=by
 intro ae s σ H vs us Q I r h;let#[a,bs,rfl,hs,q]:=h;let#[aF,rv,hl,_]:=I.list hs;rw[bi.EQ r];have hb:=rv.Hc;apply call_any_walk (QN hl.isList λs₂ e2 st hne=>?_);subst e2;apply#[_,_,_,_,_,_,_,rfl,CS (A:=X.A.in1) (I.ok.aoF hc) _ a hne aF.toArray,st,UG hb,λh' tk hk=>?_];apply#[.bl _,H,I.kept λb o eo=>hk b o (λhmem=>?_) (cJ _ eo),?_,q];rcases iM.mp hmem with e1|hmem
 show absurd (e1▸cK eo) (iO _);cases hmem;show ur _=ur _;rw[<-any_range,hb,fi,aD]
def Zx(hc:X.calm=true):mZ X (.builtin "all") (aiI X.K):=by
 intro ae s σ H vs us Q I r h;let#[a,bs,rfl,hs,q]:=h;let#[aF,rv,hl,_]:=I.list hs;rw[bi.EQ r];have hb:=rv.Hc;apply call_all_walk (QN hl.isList λs₂ e2 st hne=>?_);subst e2;apply#[_,_,_,_,_,_,_,rfl,CS (A:=X.A.in1) (I.ok.aoF hc) _ a hne aF.toArray,st,UG hb,λh' tk hk=>?_];apply#[.bl _,H,I.kept λb o eo=>hk b o (λhmem=>?_) (cJ _ eo),?_,q];rcases iM.mp hmem with e1|hmem
 show absurd (e1▸cK eo) (iO _);cases hmem;show ur _=ur _;rw[<-all_range,hb,fi,aD]
end
abbrev Lp(h:aL)(c:aa)(v:Option af):Prop:=h.IsCell c v
def ai'(aB sc:dS):dS:=
 { aB with names:=aB.names.map λ(n,k)=>if (k==.free&&sc.kind==.function&&sc.names.lookup n==some .cell)then(n,.cell)else(n,k) }
def fT(cells:List (Str×aa)):List (Str×jz)->List (Str×aa)->List (Str×aa)
 |[],acc=>acc
 |(n,k)::r,acc=>if k==.free then fT cells r ((n,(cells.lookup n).getD 0)::acc)else fT cells r acc
theorem NL(env:Env)(f:Str×jz->List (Str×aa)->Sem (ForInStep (List (Str×aa))))(hf:∀n k c,f (n,k) c=if k==.free then(do let a<-cellOf env n;pure (.yield ((n,a)::c)))else pure (.yield c)):
  ∀(names:List (Str×jz))(acc:List (Str×aa)),(∀y∈names,y.2=.free->∃c,env.cells.lookup y.1=some c)->forIn names acc f=pure (fT env.cells names acc)
 |[],acc,_=>by rw[F5];rfl
 |(n,k)::r,acc,h=>by
  rw[F4,hf];have ih:=λacc=>NL env f hf r acc λy hy=>h y (bp _ hy);unfold fT;by_cases hk:(k==yY)=true
  rw[aq hk,aq hk];let#[c,hc]:=h (n,k) bq (by simpa using hk);have e:cellOf env n=pure c:=by unfold cellOf;rw[hc]
  rw[e];have e2:(env.cells.lookup n).getD 0=c:=by rw[hc];rfl
  rw[e2];show ih _;rw[ay hk,ay hk];show ih _
def Zo{aB:dS}{env:Env}(h:∀y∈aB.names,y.2=.free->∃c,env.cells.lookup y.1=some c):NK aB env=pure (fT env.cells aB.names []):=by
 simp![NK];rw[NL env _ (λn k c=>rfl) aB.names [] h];rfl
theorem mem_lookup{α:Type}:∀{l:List (Str×α)}{n:Str}{c:α},(n,c)∈l->∃c',l.lookup n=some c'
 |(k,v)::r,n,c,h=>by
  rw[ub];cases hb:n==k with
  |true=>show#[_,rfl]
  |false=>
   rcases iM.mp h with e|h
   cases e;simp at hb;show mem_lookup h
theorem Dl{cells:List (Str×aa)}:∀{names:List (Str×jz)}{acc:List (Str×aa)}{n:Str}{c:aa},(n,c)∈fT cells names acc->(n,c)∈acc\/((n,.free)∈names/\c=(cells.lookup n).getD 0)
 |[],_,_,_,h=>.inl h
 |(m,k)::r,acc,n,c,h=>by
  unfold fT at h;split at h;rename_i hk;have hk:k=.free:=by simpa using hk
  rcases Dl h with h|⟨h1,h2⟩
  rcases iM.mp h with e|h
  cases e;show .inr #[hk▸bq,rfl];show .inl h;show .inr #[bp _ h1,h2];rcases Dl h with h|⟨h1,h2⟩
  show .inl h;show .inr #[bp _ h1,h2]
theorem Hv{cells:List (Str×aa)}:∀{names:List (Str×jz)}{acc:List (Str×aa)}{p:Str×aa},p∈acc->p∈fT cells names acc
 |[],_,_,h=>h
 |(m,k)::r,acc,p,h=>by
  unfold fT;split;show Hv (bp _ h);show Hv h
theorem Hw{cells:List (Str×aa)}:∀{names:List (Str×jz)}{acc:List (Str×aa)}{n:Str},(n,.free)∈names->(n,(cells.lookup n).getD 0)∈fT cells names acc
 |(m,k)::r,acc,n,h=>by
  unfold fT;rcases iM.mp h with e|h
  cases e;show Hv bq;split;show Hw h;show Hw h
theorem zS:∀{names:List (Str×jz)}{h:aL}{acc:List (Str×aa)}{x:Str}{c:aa},(x,c)∈f_ h.objs.size names acc->
  (x,c)∈acc\/((x,.cell)∈names/\h.objs.size<=c/\Lp (vf h names) c none)
 |[],_,_,_,_,h=>.inl h
 |(n,k)::r,h,acc,x,c,hm=>by
  unfold f_ at hm;unfold vf;split at hm;rename_i hk;rw[aq hk];have hk:k=.cell:=by simpa using hk
  rw[<-gC h { cls:=.type "cell",data:=.cell none }]at hm;rcases zS hm with hm|⟨h1,h2,h3⟩
  rcases iM.mp hm with e|hm
  cases e;show .inr #[hk▸bq,bj _,_,Kd r _ _ _ (eV _ rfl),rfl];show .inl hm;rw[gC]at h2;show .inr #[bp _ h1,Gm h2,h3];rename_i hk;rw[ay hk];rcases zS hm with hm|⟨h1,h2,h3⟩
  show .inl hm;show .inr #[bp _ h1,h2,h3]
theorem Dj:∀{names:List (Str×jz)}{n:Nat}{acc:List (Str×aa)}{p:Str×aa},p∈acc->p∈f_ n names acc
 |[],_,_,_,h=>h
 |(m,k)::r,n,acc,p,h=>by
  unfold f_;split;show Dj (bp _ h);show Dj h
theorem Hs:∀{names:List (Str×jz)}{n:Nat}{acc:List (Str×aa)}{x:Str},(x,.cell)∈names->∃c,(x,c)∈f_ n names acc
 |(m,k)::r,n,acc,x,h=>by
  unfold f_;rcases iM.mp h with e|h
  cases e;show#[n,Dj bq];split;show Hs h;show Hs h
theorem Ht:∀{names:List (Str×jz)}{h:aL}{acc:List (Str×aa)}{x y:Str}{c:aa},(∀p∈acc,p.2<h.objs.size)->(∀x y c,(x,c)∈acc->(y,c)∈acc->x=y)->
  (x,c)∈f_ h.objs.size names acc->(y,c)∈f_ h.objs.size names acc->x=y
 |[],_,_,_,_,_,_,hi,h1,h2=>hi _ _ _ h1 h2
 |(n,k)::r,h,acc,x,y,c,hl,hi,h1,h2=>by
  unfold f_ at h1 h2;split at h1;rename_i hk;rw[aq hk]at h2;rw[<-gC h { cls:=.type "cell",data:=.cell none }]at h1 h2;apply Ht (h:=h.push _) (λp hp=>?_) (λx y c a b=>?_) h1 h2;rw[gC];rcases iM.mp hp with rfl|hp
  show ud _;show Cq (hl p hp);rcases iM.mp a with e|a<;>rcases iM.mp b with e'|b
  cases e;cases e';rfl;cases e;show absurd (hl _ b) (iO _);cases e';show absurd (hl _ a) (iO _);show hi _ _ _ a b;rename_i hk;rw[ay hk]at h2;show Ht hl hi h1 h2
def ahu{M:p7}{A:ci}{E:af->ax->Prop}{s:ax}{aB:dS}{globals:aa}{Hx:List (Str×aa)}{qual:Str}{Pl:Option aa}{code:af}{around:Env}{Nw:aa}{Q:Env->ax->Prop}(h:Q (newEnv aB s.heap.objs.size globals (f_ (s.heap.objs.size+1) aB.names Hx) qual Pl code (some around) Nw)
   { s with heap:=vf (s.heap.push { cls:=.type "dict",data:=.dict (List.toArray []) }) aB.names }):
  aK M A (newFunctionEnv aB globals Hx [] qual Pl code (some around) Nw) Q E s:=by
 simp![newFunctionEnv,Wp,bz];apply aI (wpAny_alloc ?_);apply aI (wpAny_layCells _ (λn k c=>rfl) aB.names Hx _ _ ?_);rw[show({ s with heap:=s.heap.push { cls:=.type "dict",data:=.dict (List.toArray []) } }:ax).heap.objs.size=s.heap.objs.size+1 from gC ..];rw[F5];show aI (bR (bR h))
theorem JA{sc:dS}:∀{names:List (Str×jz)}{x:Str}{k:jz},
  (names.map λ(n,k)=>if (k==yY&&sc.kind==.function&&sc.names.lookup n==some .cell)then(n,Ma)else(n,k)).lookup x=some k->
  ∃k',names.lookup x=some k'/\(k=k'\/(k'=.free/\k=.cell))
 |[],_,_,h=>by simp at h
 |(n,k₀)::r,x,k,h=>by
  have ih:=@JA sc r x k;have h':ua x ((if (k₀==yY&&sc.kind==.function&&sc.names.lookup n==some .cell)=true then(n,Ma)else(n,k₀))::(r.map _))=some k:=h;cases hx:x==n with
  |true=>
   simp![ub,hx];by_cases hc:(k₀==yY&&sc.kind==.function&&sc.names.lookup n==some .cell)=true
   rw[aq hc]at h';simp![ub,hx]at h';cases h';simp![bS,gO]at hc;show#[k₀,rfl,.inr #[hc.1.1,rfl]];rw[ay hc]at h';simp![ub,hx]at h';cases h';show#[_,rfl,.inl rfl]
  |false=>
   simp![ub,hx];by_cases hc:(k₀==yY&&sc.kind==.function&&sc.names.lookup n==some .cell)=true
   rw[aq hc]at h';simp![ub,hx]at h';show ih h';rw[ay hc]at h';simp![ub,hx]at h';show ih h'
structure yI (N:List Str)(sc aB:dS)(own:List (Str×Nat)):Prop where
 kind:aB.kind=.function
 uniq:∀y∈aB.names,aB.names.lookup y.1=some y.2
 ix:∀p∈own,N[p.2]? =some p.1
 free:∀y∈aB.names,y.2=.free->sc.names.lookup y.1=some .cell\/sc.names.lookup y.1=some .free
 own:∀y∈aB.names,y.2=.local\/y.2=.cell->y.1∈own.map (·.1)\/y.1∉N
def bD(σ:St):List Nat->St
 |[]=>σ
 |v::vs=>(bD σ vs).set v none
theorem K7(σ:St):∀vs:List Nat,(bD σ vs).length=σ.length
 |[]=>rfl
 |v::vs=>by unfold bD;rw[v_,K7 σ vs]
theorem K8{σ:St}{i:Nat}{x:V}:∀{vs:List Nat},(bD σ vs)[i]? =some (some x)->σ[i]? =some (some x)/\i∉vs
 |[],h=>#[h,by simp]
 |v::vs,h=>by
  unfold bD at h;by_cases hi:v=i
  subst hi;by_cases hv:v<(bD σ vs).length
  rw[LN hv]at h;cases h;rw[ig (by simpa using hv)]at h;cases h;rw[LM hi]at h;let#[h1,h2]:=K8 h;show#[h1,by simp![iM,not_or];show#[λe=>hi e.symm,h2]]
abbrev Cx.f9(X:Cx)(s:ax)(H:Hp)(aB:dS)(eQ:Env)(fp:List aa):Cx:={ X with gy:=s,tY:=H,env:=eQ,outer:=X.stack,ex:=fp,fn:=λx=>aB.names.lookup x==some .cell,pn:=[],xe:=λ_ _=>False }
section
variable{X:Cx}{ae:List (aa×Obj)}{σ:St}{H:Hp}{s:ax}
def Y0{aB:dS}{own:List (Str×Nat)}{fp:List aa}(I:Inv X ae σ H s)(ok:yI X.N X.env.scope aB own)(hN:X.N.Nodup)(kC:∀b∈fp,me X ae H b/\b<s.heap.objs.size):
  Inv (X.f9 s H aB (g6 aB (f_ (s.heap.objs.size+1) aB.names (fT X.env.cells aB.names [])) s.heap.objs.size X.env) fp) [] (bD σ (own.map (·.2))) H { s with heap:=vf (s.heap.push { cls:=.type "dict",data:=.dict (List.toArray []) }) aB.names }:=by
 have xy:∀y∈aB.names,y.2=.free->∃c,X.env.cells.lookup y.1=some c:=λy hy e=>by
  rcases ok.free y hy e with k|k
  show I.ok.has _ (.inl k);show I.ok.has _ (.inr k)
 generalize AH:g6 aB (f_ (s.heap.objs.size+1) aB.names (fT X.env.cells aB.names [])) s.heap.objs.size X.env=eQ;have kp:∀b o,s.heap.get? b=some o->(vf (s.heap.push { cls:=.type "dict",data:=.dict (List.toArray []) }) aB.names).get? b=some o:=λb o e=>Kd _ _ _ _ (cJ _ e);have hL:eQ.locals=s.heap.objs.size:=by rw[<-AH];rfl
 have gk:eQ.cells=f_ (s.heap.objs.size+1) aB.names (fT X.env.cells aB.names []):=by rw[<-AH];rfl
 have I0:eQ.scope=ai' aB X.env.scope:=by rw[<-AH];rfl
 rw[<-gC s.heap { cls:=.type "dict",data:=.dict (List.toArray []) }]at gk;have cm:∀{y c},(y,c)∈fT X.env.cells aB.names []->X.env.cells.lookup y=some c/\c<s.heap.objs.size:=λ{y c} hm=>by
  rcases Dl hm with hm|⟨h1,rfl⟩
  cases hm;let#[c,hc]:=xy _ h1 rfl;rw[hc];let#[w,z]:=I.cell _ _ hc;show#[rfl,z.lt]
 have mem:∀{y c},eQ.cells.lookup y=some c->(X.env.cells.lookup y=some c/\c<s.heap.objs.size)\/(s.heap.objs.size+1<=c/\Lp (vf (s.heap.push { cls:=.type "dict",data:=.dict (List.toArray []) }) aB.names) c none):=λ{y c} e=>by
  rw[gk]at e;rcases zS (kf e)with hm|⟨_,h2,h3⟩
  show .inl (cm hm);rw[gC]at h2;show .inr #[h2,h3]
 have look:∀{y},aB.names.lookup y=some .free->∃c,eQ.cells.lookup y=some c/\X.env.cells.lookup y=some c:=λ{y} hl=>by
  have hy:(y,yY)∈aB.names:=kf hl;let#[c',e']:=mem_lookup (Dj (names:=aB.names) (n:=(s.heap.push { cls:=.type "dict",data:=.dict (List.toArray []) }).objs.size) (Hw (cells:=X.env.cells) (acc:=[]) hy));rw[<-gk]at e';apply#[c',e',?_];rw[gk]at e';rcases zS (kf e')with hm|⟨h1,_,_⟩
  show(cm hm).1;have:=ok.uniq _ h1;rw[hl]at this;cases this
 have ah4:(X.f9 s H aB eQ fp).Ok:=by
  apply#[I.ok.mod,by show eQ.scope.kind=_;rw[I0];show ok.kind,by show eQ.globals=_;rw[<-AH];show I.ok.glob,by show eQ.builtins=_;rw[<-AH];show I.ok.blt,by show s.heap.objs.size<=eQ.locals;rw[hL];show bj _,
   λy z c e1 e2=>?_,λy hy=>?_,λy c z e=>?_,I.ok.aoF,I.ok.frames,.inl rfl,λb hb=>#[?_,λy c e z=>?_],I.bs,cp I.ok.nE I.sz,λb o e hb=>?_,λb hb z=>?_,I.stack,I.Kv]
  have e1:eQ.cells.lookup y=some c:=e1;have e2:eQ.cells.lookup z=some c:=e2;rw[gk]at e1 e2;apply Ht (λp hp=>?_) (λy z c a b=>I.ok.inj y z c (cm a).1 (cm b).1) (kf e1) (kf e2);rw[gC];show Cq (cm (y:=p.1) (c:=p.2) hp).2;show ∃c,eQ.cells.lookup y=some c;have key:∀k,eQ.kindOf y=some k->(k=.cell\/k=.free)->∃c,eQ.cells.lookup y=some c:=λk hk AL=>by
   unfold Env.kindOf at hk;rw[I0]at hk;let#[k',e,r]:=JA hk;have:k'=.cell\/k'=.free:=by
    rcases r with rfl|⟨rfl,_⟩
    show AL;show .inr rfl
   obtain rfl|rfl:=this
   let#[c,hm]:=Hs (n:=(s.heap.push { cls:=.type "dict",data:=.dict (List.toArray []) }).objs.size) (acc:=fT X.env.cells aB.names []) (kf e);let#[c',e']:=mem_lookup hm;show#[c',by rw[gk];show e'];let#[c,h1,_]:=look e;show#[c,h1]
  obtain hy|hy:=hy
  show key _ hy (.inl rfl);show key _ hy (.inr rfl);have z:(aB.names.lookup y==some Ma)=true:=z;have z:aB.names.lookup y=some .cell:=by simpa using z
  have e:eQ.cells.lookup y=some c:=e;rw[gk]at e;rcases zS (kf e)with hm|⟨_,h2,_⟩
  rcases Dl hm with hm|⟨h1,_⟩
  cases hm;have q:=ok.uniq _ h1;rw[z]at q;cases q;rw[gC]at h2;show Gm h2;show b≠eQ.locals;rw[hL];show dZ (kC b hb).2;have e:eQ.cells.lookup y=some c:=e;rcases mem e with⟨h1,_⟩|⟨h1,_⟩
  show(kC b hb).1.2.2.2.2.1 y c h1 z;have h2:s.heap.objs.size+1<=b:=by rw[<-z];show h1
  show absurd (fj (kC b hb).2 (Gm h2)) (iO _);rcases(kC b hb).1.2.2.2.1 with z|z
  show I.ok.Bl b o e z;show absurd (fj (cK e) (cp I.ok.nE z)) (iO _);rcases iM.mp (I.Kw b z)with z|z
  show(kC b hb).1.2.1 z;show(kC b hb).1.2.2.1 z
 apply#[ah4,rfl,I.bare,Un.kept kp,#[λ_=>none,?_,λi y av e1 e2 e3=>?_],λy c e=>?_,?_,λy c e=>?_,λp hp=>?_,I.aS.kept kp,by rw[K7];show I.len];show Heap.Ns _ eQ.locals _;rw[hL];show Heap.Ns.keeps (Heap.Ns.new ..) λb o e=>Kd _ _ _ _ e;let#[e2,hne]:=K8 e2;have jK:aB.names.lookup y=some .free/\(eQ.kindOf y=some .cell\/eQ.kindOf y=some .free):=by
  have key:∀k,eQ.scope.names.lookup y=some k->k=.local\/k=.cell\/k=.free->aB.names.lookup y=some .free/\(eQ.kindOf y=some .cell\/eQ.kindOf y=some .free):=λk hk AL=>by
   have hk0:=hk;rw[I0]at hk;let#[k',e,r]:=JA hk;have no:¬(k'=.local\/k'=.cell):=λhh=>by
    rcases ok.own _ (kf e) hh with e'|e'
    let#[p,hp,aeQ]:=Ge.mp e';have e3:=ok.ix p hp;have:p.1=y:=aeQ;rw[this]at e3;show hne (Ge.mpr #[p,hp,JR hN e3 e1]);show e' (fh e1)
   rcases r with rfl|⟨rfl,rfl⟩
   obtain rfl|rfl|rfl:=AL
   show absurd (.inl rfl) no;show absurd (.inr rfl) no;show#[e,.inr hk0];show#[e,.inl hk0]
  have e3:uu eQ.scope y:=e3;obtain e3|e3|e3:=e3
  show key _ e3 (.inl rfl);show key _ e3 (.inr (.inl rfl));show key _ e3 (.inr (.inr rfl))
 let#[m,hn,hl]:=I.loc;have pB:uu X.env.scope y:=(ok.free _ (kf jK.1) rfl).elim (λk=>.inr (.inl k)) (λk=>.inr (.inr k));let#[w,r,q]:=hl i y av e1 e2 pB;apply#[w,r,.inr #[jK.2,?_]];let#[c,h1,h2]:=look jK.1;rcases q with⟨k,_⟩|⟨_,c',e',z⟩
 have k:X.env.scope.names.lookup y=some .local:=k;rcases ok.free _ (kf jK.1) rfl with k'|k'<;>rw[show X.env.scope.names.lookup y=_ from k']at k<;>cases k
 rw[h2]at e';cases e';show#[c,h1,z.keeps kp];have e:eQ.cells.lookup y=some c:=e;rcases mem e with⟨h1,_⟩|⟨_,z⟩
 let#[w,z]:=I.cell y c h1;show#[w,z.keeps kp];show#[_,z];show H eQ.locals=none;rw[hL];show I.aS.fresh (bj _);have e:eQ.cells.lookup y=some c:=e;rcases mem e with⟨h1,_⟩|⟨h1,_⟩
 show I.kx y c h1;show I.aS.fresh (Gm h1);show absurd (show p∈([]:List (aa×Obj))++[] from hp) ()
def YA{E:af->ax->Prop}{D:aa}{xs:List V}{y:V}{v:af}{Q:af->ax->Prop}(I:Inv X ae σ H s)(hD:H D=some (.lst xs))(hz:xs.length<sizeLine)(r:RelV y v)(h:∀s',Inv X ae σ (upd H D (.lst (xs++[y]))) s'->Q .none s'):aK (aR X.prog X.w) X.A (call (.builtin "list.append") [.ref D,v]) Q E s:=by
 let#[hz',aF,n,ri,e]:=I.aS D _ hD;have hl:=ri.length;apply append_at (hsz:=by rw[fi];omega) e λh' sb mC=>?_;apply h { s with heap:=h' } (I.write (t':=s.toks) (by rw[hD];trivial) (.inl rfl) (λb u hb q=>(sb.2 b hb).trans q) #[_,mC] #[by rw[dG];show hz,aF++[v],n+1,ri.append (.cons r .nil),?_]);rw[mC];simp
def zc(X:Cx)(hJ:List Expr)(t:TT):Prop:=
 ∀(ae:List (aa×Obj))(s:ax)(σ:St)(H:Hp)(Q:Bool->Hp->Prop),Inv X ae σ H s->t σ H Q->
  aK (aR X.prog X.w) X.A (forIn hJ true λc r=>if r=true then do let ok<-xK c X.env (eval c X.env);pure (FW ok)else pure (FW r)) (TP X ae σ Q) X.xe s
def pR:TT:=λ_ H Q=>Q true H
def i6:zc X [] pR:=λ_ _ _ H _ I h=>wpAny_tests_nil #[H,I,h]
def kS{c:Expr}{t:TT}(h:PT X c t):zc X [c] t:=λae s σ H Q I hw=>wpAny_tests_one (h ae s σ H Q I hw)
end
def KN{α:Type}{t:Sem α}{Q Q':α->ax->Prop}{M:p7}{A:ci}{E:af->ax->Prop}{s:ax}(h:aK M A t Q (λ_ _=>False) s)(hQ:∀a s,Q a s->Q' a s):aK M A t Q' E s:=mW h hQ λ_ _ z=>ju z
def Zr{prog:aZ}{w:aW}{A:ci}{R:zj->ax->Prop}{s:ax}{io yB fE:Expr}{hJ:List Expr}{aB:dS}{pos:Pos}{it acc:af}{env:Env}(I:Nat->ax->Prop)(vC:∀n s,I n s->aK (aR prog w) A (kU it) (λr s₁=>match r with
   |none=>R (.ok .next) s₁
   |some v=>aK (aR prog w) A (Jv yB it v) (λ_ Um=>aK (aR prog w) A (wT yB env v) (λ_ s₂=>
     aK (aR prog w) A (forIn hJ true λc r=>if r=true then do let ok<-xK c env (eval c env);pure (FW ok)else pure (FW r)) (λok s₃=>
      if ok=true then aK (aR prog w) A (eval io env) (λx s₄=>
       aK (aR prog w) A (call (.builtin "list.append") [acc,x]) (λ_ s₅=>∃m,m<n/\I m s₅) (jQ (aR prog w) A env λe s'=>R (.error e) s') s₄) (jQ (aR prog w) A env λe s'=>R (.error e) s') s₃
      else ∃m,m<n/\I m s₃) (jQ (aR prog w) A env λe s'=>R (.error e) s') s₂) (jQ (aR prog w) A env λe s'=>R (.error e) s') Um) (jQ (aR prog w) A env λe s'=>R (.error e) s') s₁) (jQ (aR prog w) A env λe s'=>R (.error e) s') s)(n:Nat)(h:I n s):
  oY (aR prog w) A (.compLoop (.ListComp io [#[yB,fE,hJ,0]] aB pos) 0 it acc env) R s:=by
 apply codeAny_loop rfl I (λn s hI=>?_) n h;show aK _ A ((compTurn (.ListComp io [#[yB,fE,hJ,0]] aB pos) 0 it acc env).onRaise (λx=>do u4 x env;theTreesLotGoes x)) _ _ s;apply wpAny_noted ?_;rw[compTurn_list];apply aI (Le (aI (mW (vC n s hI) (λr s₁ h₁=>?_) λ_ _ h'=>h')));cases r with
 |none=>show bR h₁
 |some v=>
  apply aI (mW h₁ (λ_ Um ae'=>?_) λ_ _ h'=>h');apply aI (mW ae' (λ_ s₂ h₂=>aI (mW h₂ (λok s₃ h₃=>?_) λ_ _ h'=>h')) λ_ _ h'=>h');cases ok with
  |false=>show bR #[rfl,h₃]
  |true=>
   show aI (aI (mW h₃ (λx s₄ h₄=>aI (mW h₄ (λ_ s₅ h₅=>bR (bR #[rfl,h₅])) λ_ _ h'=>h')) λ_ _ h'=>h'))
section
variable{X:Cx}
def E'(wi:TI)(g:TG)(tt:TT)(te:TE)(vs:List Nat):TE:=λσ H Q=>wi σ H λJ H1=>∀D,H1 D=none->∃W:Nat->Nat->Hp->Prop,(∃m,W 0 m (upd H1 D (.lst [])))/\∀i m H,W i m H->
 (J.stop i H/\Q (.ref D) H)\/(J.go i H/\∃Nx:Hp->Prop,(∀H',Nx H'->∃m',m'<m/\W (i+1) m' H')/\∀x H',J.ib i H x H'->g x (bD σ vs) H' λσ2 H2=>bD σ2 vs=bD σ vs/\tt σ2 H2 λb H3=>
  if b=true then te σ2 H3 λy H4=>∃acc,H4 D=some (.lst acc)/\acc.length<sizeLine/\Nx (upd H4 D (.lst (acc++[y])))else Nx H3)
def yz{io:Expr}{gs:List Comprehension}{aB:dS}{pos py:Pos}{y:Str}{l:Nat}{env:Env}(hk:env.scope.kind=.function)(hy:env.scope.names.lookup y=some .local)(hl:(py.line==pos.line)=true)(ha:(aB.names.any λ(n,k)=>n==y&&(k==.local||k==.cell))=false):vy (.ListComp io gs aB pos) (some (.Name y py)) l env=pure true:=by
 have ky:env.kindOf y=some .local:=hy;have hb:env.blockKind=.function:=by unfold Env.blockKind;rw[hk];rfl
 unfold vy;simp![hb,ky,ha,Expr.pos,hl];rfl
end
def af9{lo:Int}{n:Nat}{g:TG}{tt:TT}{te:TE}{vs:List Nat}{σ:St}{H1:Hp}{D:aa}{Qd:Hp->Prop}(Pv:Nat->Hp->Prop)(h0:Pv 0 (upd H1 D (.lst [])))(hs:∀i H,i<n->Pv i H->g (.int (lo+i)) (bD σ vs) H λσ2 H2=>bD σ2 vs=bD σ vs/\tt σ2 H2 λb H3=>
   if b=true then te σ2 H3 λy H4=>∃acc,H4 D=some (.lst acc)/\acc.length<sizeLine/\Pv (i+1) (upd H4 D (.lst (acc++[y])))else Pv (i+1) H3)(aoF:∀H,Pv n H->Qd H):
  ∃W:Nat->Nat->Hp->Prop,(∃m,W 0 m (upd H1 D (.lst [])))/\∀i m H,W i m H->
   ((i' lo n).stop i H/\Qd H)\/((i' lo n).go i H/\∃Nx:Hp->Prop,(∀H',Nx H'->∃m',m'<m/\W (i+1) m' H')/\∀x H',(i' lo n).ib i H x H'->g x (bD σ vs) H' λσ2 H2=>bD σ2 vs=bD σ vs/\tt σ2 H2 λb H3=>
    if b=true then te σ2 H3 λy H4=>∃acc,H4 D=some (.lst acc)/\acc.length<sizeLine/\Nx (upd H4 D (.lst (acc++[y])))else Nx H3):=by
 apply#[λi m H=>m=n-i/\i<=n/\Pv i H,#[n,by simp,eX _,h0],?_];rintro i m H ⟨rfl,hi,p⟩;by_cases hlt:i<n
 apply .inr #[hlt,Pv (i+1),λH' p'=>#[n-(i+1),by omega,rfl,hlt,p'],λx H' y=>?_];let#[e,y]:=y;subst e y;show hs i _ hlt p;have e:i=n:=by omega
 subst e;show .inl #[bj _,aoF H p]
def xR{K:aP}{a:aa}{xs:List V}{g:TG}{tt:TT}{te:TE}{vs:List Nat}{σ:St}{H1:Hp}{D:aa}{Qd:Hp->Prop}(Pv:Nat->Hp->Prop)(h0:Pv 0 (upd H1 D (.lst [])))(hl:∀i H,i<=xs.length->Pv i H->az K H a xs)(hs:∀i x H,xs[i]? =some x->Pv i H->g x (bD σ vs) H λσ2 H2=>bD σ2 vs=bD σ vs/\tt σ2 H2 λb H3=>
   if b=true then te σ2 H3 λy H4=>∃acc,H4 D=some (.lst acc)/\acc.length<sizeLine/\Pv (i+1) (upd H4 D (.lst (acc++[y])))else Pv (i+1) H3)(aoF:∀H,Pv xs.length H->Qd H):
  ∃W:Nat->Nat->Hp->Prop,(∃m,W 0 m (upd H1 D (.lst [])))/\∀i m H,W i m H->
   ((gE K a).stop i H/\Qd H)\/((gE K a).go i H/\∃Nx:Hp->Prop,(∀H',Nx H'->∃m',m'<m/\W (i+1) m' H')/\∀x H',(gE K a).ib i H x H'->g x (bD σ vs) H' λσ2 H2=>bD σ2 vs=bD σ vs/\tt σ2 H2 λb H3=>
    if b=true then te σ2 H3 λy H4=>∃acc,H4 D=some (.lst acc)/\acc.length<sizeLine/\Nx (upd H4 D (.lst (acc++[y])))else Nx H3):=by
 apply#[λi m H=>m=xs.length-i/\i<=xs.length/\Pv i H,#[xs.length,by simp,eX _,h0],?_];rintro i m H ⟨rfl,hi,p⟩;have q:=hl i H hi p;by_cases hlt:i<xs.length
 apply .inr #[#[xs,xs[i],q,by simp[hlt]],Pv (i+1),λH' p'=>#[xs.length-(i+1),by omega,rfl,hlt,p'],λx H' y=>?_];let#[e,y]:=y;subst e;show hs i x _ (y xs q) p;have e:i=xs.length:=by omega
 subst e;show .inl #[#[xs,q,bj _],aoF H p]
def Nq(N:List Str)(sc aB:dS)(own:List (Str×Nat)):Bool:=
 (match aB.kind with| .function=>true|_=>false)&&(aB.names.all λy=>decide (aB.names.lookup y.1=some y.2))&&(own.all λp=>decide (N[p.2]? =some p.1))&&
  (aB.names.all λy=>match y.2 with
   | .free=>(match sc.names.lookup y.1 with|some .cell=>true|some .free=>true|_=>false)
   | .local=>decide (y.1∈own.map (·.1))||decide (y.1∉N)
   | .cell=>decide (y.1∈own.map (·.1))||decide (y.1∉N)
   |_=>true)
def eN{N:List Str}{sc aB:dS}{own:List (Str×Nat)}(h:Nq N sc aB own=true):yI N sc aB own:=by
 unfold Nq at h;simp![bS,eW,bw]at h;let#[#[#[h1,h2],h3],h4]:=h;apply#[?_,h2,h3,λy hy e=>?_,λy hy e=>?_];split at h1
 assumption
 cases h1;have q:=h4 y hy;simp![e]at q;split at q<;>first|show .inl (by assumption)|show .inr (by assumption)|cases q
 have q:=h4 y hy;rcases e with e|e<;>(simp![e,ox,bw]at q;show q)
section
variable{κ:Type}[DecidableEq κ]
def gB(kvs:List (κ×V))(k:κ):Option V:=(kvs.find? λkv=>decide (kv.1=k)).map (·.2)
def iJ(kvs:List (κ×V))(k:κ)(v:V):List (κ×V):=
 if (kvs.any λkv=>decide (kv.1=k))=true then kvs.map (λkv=>if kv.1=k then(kv.1,v)else kv)else kvs++[(k,v)]
def Fj{p:κ×V}{r:List (κ×V)}{k:κ}(e:p.1=k):gB (p::r) k=some p.2:=by simp[gB,t_,e]
def vE{p:κ×V}{r:List (κ×V)}{k:κ}(e:¬p.1=k):gB (p::r) k=gB r k:=by simp[gB,t_,e]
theorem UV(k:κ):∀kvs:List (κ×V),(kvs.any λkv=>decide (kv.1=k))=(gB kvs k).isSome
 |[]=>rfl
 |p::r=>by
  rw[oG];by_cases e:p.1=k
  simp![Fj e,b_ e,Bool.true_or,Wp];rw[vE e,cO e,FG];show UV k r
def Q7(kvs:List (κ×V))(k:κ)(v:V):(iJ kvs k v).length<=kvs.length+1:=by
 unfold iJ;split;rw[aD];omega;rw[dG,cN,rB];omega
def gJ.QK{o:Option V}{u:Option af}(r:gJ o u):o.isSome=u.isSome:=by
 cases o with
 |none=>cases u with
  |none=>rfl
  |some _=>show(show False from r).elim
 |some _=>cases u with
  |none=>show(show False from r).elim
  |some _=>rfl
theorem gJ.getD{o:Option V}{u:Option af}{d:V}{d':af}(r:gJ o u)(rd:RelV d d'):RelV (o.getD d) (u.getD d'):=by
 cases o with
 |none=>cases u with
  |none=>show rd
  |some _=>show(show False from r).elim
 |some _=>cases u with
  |none=>show(show False from r).elim
  |some _=>show r
def KV.val{kvs:List (κ×V)}{vs:List (κ×af)}(r:KV kvs vs)(k:κ):gJ (gB kvs k) (vG vs k):=by
 unfold KV at r;induction r with
 |nil=>show ii
 |@cons p q ps qs h t ih=>
  let#[h1,h2]:=h;by_cases e:p.1=k
  have e':q.1=k:=h1.symm.trans e;have b:vG (q::qs) k=some q.2:=by simp[vG,t_,e']
  rw[Fj e,b];show h2;have e':¬q.1=k:=λz=>e (h1.trans z);have b:vG (q::qs) k=vG qs k:=by simp[vG,t_,e']
  rw[vE e,b];show ih
theorem KV.any{kvs:List (κ×V)}{vs:List (κ×af)}(r:KV kvs vs)(k:κ):(kvs.any λkv=>decide (kv.1=k))=vs.any λkv=>decide (kv.1=k):=by
 unfold KV at r;induction r with
 |nil=>rfl
 |cons h t ih=>rw[oG,oG,ih,h.1]
def KV.Kf{kvs:List (κ×V)}{vs:List (κ×af)}(r:KV kvs vs)(k:κ){y:V}{u:af}(ry:RelV y u):
  KV (kvs.map λkv=>if kv.1=k then(kv.1,y)else kv) (vs.map λkv=>if kv.1=k then(kv.1,u)else kv):=by
 unfold KV at r⊢;induction r with
 |nil=>show .nil
 |@cons p q ps qs h t ih=>
  rw[ba,ba];apply .cons ?_ ih;let#[h1,h2]:=h;by_cases e:p.1=k
  rw[aq e,aq (h1.symm.trans e)];show#[h1,ry];rw[ay e,ay (λz=>e (h1.trans z))];show#[h1,h2]
def KV.put{kvs:List (κ×V)}{vs:List (κ×af)}(r:KV kvs vs)(k:κ){y:V}{u:af}(ry:RelV y u):KV (iJ kvs k y) (stored vs k u):=by
 unfold iJ stored;rw[r.any k];by_cases e:(vs.any λkv=>decide (kv.1=k))=true
 rw[aq e,aq e];show r.Kf k ry;rw[ay e,ay e];show Paired.snoc r #[rfl,ry]
def KV.length{kvs:List (κ×V)}{vs:List (κ×af)}(r:KV kvs vs):kvs.length=vs.length:=uh r
end
def xM{P:aZ}{w:aW}{k:bB}{u:af}(r:RelV (kV k) u):(fU P w).is k u=true:=by
 cases k with
 |inl i=>let#[t,e]:=(show ∃t,u=zy i t from r);subst e;show agU P w i t
 |inr x=>let#[t,e]:=(show ∃t,u=zA x t from r);subst e;show agV P w x t
theorem QM{P:aZ}{w:aW}:∀{ks:List bB}{us:List af},bi (ks.map kV) us->ItemsAre (fU P w) ks us
 |[],_,r=>by rw[gY]at r;cases r;show .nil
 |k::ks,_,r=>by
  rw[ba]at r;cases r with
  |cons h t=>show .cons (xM h) (QM t)
abbrev KT(H:Hp):List (List bB×V)->List (List bB×aa×af)->Prop:=Paired λp q=>p.1=q.1/\H q.2.1=some (.tup (p.1.map kV))/\RelV p.2 q.2.2
def KT.val{H:Hp}{kvs:List (List bB×V)}{xs:List (List bB×aa×af)}(r:KT H kvs xs)(k:List bB):gJ (gB kvs k) ((rV xs k).map (·.2)):=by
 induction r with
 |nil=>show ii
 |@cons p q ps qs h t ih=>
  let#[h1,_,h2]:=h;by_cases e:p.1=k
  have e':q.1=k:=h1.symm.trans e;have b:rV (q::qs) k=some q.2:=by simp[rV,t_,e']
  rw[Fj e,b];show h2;have e':¬q.1=k:=λz=>e (h1.trans z);have b:rV (q::qs) k=rV qs k:=by simp[rV,t_,e']
  rw[vE e,b];show ih
def KT.Kf{H:Hp}{kvs:List (List bB×V)}{xs:List (List bB×aa×af)}(r:KT H kvs xs)(k:List bB){y:V}{u:af}(ry:RelV y u):
  KT H (kvs.map λkv=>if kv.1=k then(kv.1,y)else kv) (xs.map (putAt k u)):=by
 induction r with
 |nil=>show .nil
 |@cons p q ps qs h t ih=>
  rw[ba,ba];apply .cons ?_ ih;let#[h1,h2,h3]:=h;unfold putAt;by_cases e:p.1=k
  rw[aq e,aq (h1.symm.trans e)];show#[h1,h2,ry];rw[ay e,ay (λz=>e (h1.trans z))];show#[h1,h2,h3]
def KT.put{H:Hp}{kvs:List (List bB×V)}{xs:List (List bB×aa×af)}(r:KT H kvs xs)(k:List bB){b:aa}{y:V}{u:af}(hb:H b=some (.tup (k.map kV)))(ry:RelV y u):
  KT H (iJ kvs k y) (storedH xs k b u):=by
 have e:(kvs.any λkv=>decide (kv.1=k))=(rV xs k).isSome:=by
  rw[UV,(r.val k).QK,Option.isSome_map]
 unfold iJ storedH;rw[e];by_cases q:(rV xs k).isSome=true
 rw[aq q,aq q];show r.Kf k ry;rw[ay q,ay q];show Paired.snoc r #[rfl,hb,ry]
def KT.keeps{H H':Hp}{kvs:List (List bB×V)}{xs:List (List bB×aa×af)}(r:KT H kvs xs)(ht:∀b ys,H b=some (.tup ys)->H' b=some (.tup ys)):KT H' kvs xs:=
 Paired.iD r λ_ _ z=>#[z.1,ht _ _ z.2.1,z.2.2]
section
variable{P:aZ}{w:aW}{H:Hp}{h:aL}{a:aa}
def SI{u:HO}(ok:dk P w H h)(e:Rd H a u):dM P w H h a u:=e.ok ok
def z_{kvs:List (bB×V)}(ok:dk P w H h)(e:Rd H a (.dK kvs)):kvs.length<=sizeLine/\(a==lY)=false/\∃vs,KV kvs vs/\h.DictOf (fU P w) a vs:=
 show dM P w H h a (.dK kvs) from SI ok e
def aaH{kvs:List (bB×V)}(ok:dk P w H h)(e:H a=some (.dK kvs)):kvs.length<=sizeLine/\(a==lY)=false/\∃vs,KV kvs vs/\h.DictOf (fU P w) a vs:=z_ ok (.inl e)
def Ef{ks:List bB}(ok:dk P w H h)(e:H a=some (.tup (ks.map kV))):(B0 (fU P w)).is h ks a:=by
 let#[_,aF,r,o,h1,h2,n,h3]:=(show dM P w H h a (.tup (ks.map kV)) from ok a _ e);show#[o,aF.toArray,n,h1,h2,h3,by simpa using QM r]
def Aa{kvs:List (List bB×V)}(ok:dk P w H h)(e:Rd H a (.dT kvs)):kvs.length<=sizeLine/\(a==lY)=false/\
  ∃xs,KT H kvs xs/\h.DictOfH (B0 (fU P w)) a xs:=by
 let#[z,y,xs,r,o,es,ep,h1,h2,h3,h4,h5]:=(show dM P w H h a (.dT kvs) from SI ok e);apply#[z,y,xs,r,o,es,ep,h1,h2,h3,h4,λx hx=>?_,h5];have all:∀{l:List (List bB×V)}{m:List (List bB×aa×af)},KT H l m->∀x∈m,(B0 (fU P w)).is h x.1 x.2.1:=by
  intro l m q;induction q with
  |nil=>intro x hx;show nomatch hx
  |@cons p q ps qs hq t ih=>
   intro x hx;rcases iM.mp hx with e|hx
   subst e;show Ef ok (by rw[<-hq.1];show hq.2.1);show ih x hx
 show all r x hx
def aaK{kvs:List (List bB×V)}(ok:dk P w H h)(e:H a=some (.dT kvs)):kvs.length<=sizeLine/\(a==lY)=false/\
  ∃xs,KT H kvs xs/\h.DictOfH (B0 (fU P w)) a xs:=Aa ok (.inl e)
end
def oA(H:Hp)(a:aa)(y:V)(r:Option V):Prop:=
 (∃kvs k,Rd H a (.dK kvs)/\y=kV k/\r=gB kvs k)\/∃kvs k b,Rd H a (.dT kvs)/\y=.ref b/\H b=some (.tup (k.map kV))/\r=gB kvs k
def yL(H:Hp)(a:aa)(y v:V)(H':Hp):Prop:=
 (∃kvs k,H a=some (.dK kvs)/\y=kV k/\kvs.length<sizeLine/\H'=upd H a (.dK (iJ kvs k v)))\/
 ∃kvs k b,H a=some (.dT kvs)/\y=.ref b/\H b=some (.tup (k.map kV))/\kvs.length<sizeLine/\H'=upd H a (.dT (iJ kvs k v))
def oA.k{H:Hp}{a:aa}{kvs:List (bB×V)}{k:bB}(e:H a=some (.dK kvs)):oA H a (kV k) (gB kvs k):=.inl #[kvs,k,.inl e,rfl,rfl]
def yL.k{H:Hp}{a:aa}{kvs:List (bB×V)}{k:bB}{v:V}(e:H a=some (.dK kvs))(hl:kvs.length<sizeLine):yL H a (kV k) v (upd H a (.dK (iJ kvs k v))):=.inl #[kvs,k,e,rfl,hl,rfl]
section
variable{X:Cx}{ae:List (aa×Obj)}{σ:St}{H:Hp}{s:ax}{a:aa}{y v:V}{u r:af}{o:Option V}{A:ci}{E:af->ax->Prop}
def Inv.big(I:Inv X ae σ H s):lY<s.heap.objs.size:=by
 have h:mainGlobals<s.heap.objs.size:=(I.mod.glob.keeps I.bk).lt;show Mc () h
def Z2{Q:af->ax->Prop}(hu:A.units+1<cLine)(I:Inv X ae σ H s)(g:oA H a y (some v))(ry:RelV y u)(h:∀w' s',Inv X ae σ H s'->RelV v w'->Q w' s'):
  aK (aR X.prog X.w) A (Az (.ref a) u) Q E s:=by
 rcases g with⟨kvs,k,e,ey,l⟩|⟨kvs,k,b,e,ey,eb,l⟩
 subst ey;let#[z,aoF,vs,rel,dd]:=z_ I.aS e;let#[w',hw,jU]:=gJ.some_of (v:=v) (o:=vG vs k) (by rw[l];show rel.val k);show wpAny_getItem_of (xM ry) dd.mapOf hw (h w' _ (I.tok _) jU);subst ey;cases(show u=fD b from ry);let#[z,aoF,xs,rel,dd]:=Aa I.aS e;let#[w',hw,jU]:=gJ.some_of (v:=v) (o:=(rV xs k).map (·.2)) (by rw[l];show rel.val k);let#[p,hp,hp2]:=Option.map_eq_some_iff.mp hw;apply wpAny_getItem_heap (UH hu) (Ef I.aS eb) dd hp ?_;rw[hp2];show h w' _ (I.tok _) jU
def Ov{h':aL}{t':Nat}{ob:HO}(I:Inv X ae σ H s)(mu:rD (H a))(hs:Cb a s.heap h')(he:∃q,h'.get? a=some q)(new:dM X.prog X.w (upd H a ob) h' a ob):
  Inv X ae σ (upd H a ob) { s with heap:=h',toks:=t' }:=
 I.write (x:=a) (e:=a) mu (.inl rfl) (λb q hb z=>(hs.2 b hb).trans z) he new
def aaG{P:aZ}{w:aW}{H':Hp}{h':aL}{kvs:List (bB×V)}{vs:List (bB×af)}(z:kvs.length<=sizeLine)(aoF:(a==lY)=false)(rel:KV kvs vs)(dd:h'.DictOf (fU P w) a vs):
  dM P w H' h' a (.dK kvs):=#[z,aoF,vs,rel,dd]
def aaj{H':Hp}{Q:Unit->ax->Prop}(hu:A.units+1<cLine)(I:Inv X ae σ H s)(g:yL H a y v H')(ry:RelV y u)(rv:RelV v r)(h:∀s',Inv X ae σ H' s'->Q #[] s'):
  aK (aR X.prog X.w) A (setItem (.ref a) u r) Q E s:=by
 rcases g with⟨kvs,k,e,ey,l,eH⟩|⟨kvs,k,b,e,ey,eb,l,eH⟩
 subst ey eH;let#[z,aoF,vs,rel,dd]:=aaH I.aS e;have hz:vs.length<=sizeLine:=by rw[<-rel.length];show z
 have hl:(iJ kvs k v).length<=sizeLine:=by have:=Q7 kvs k v;omega
 apply wpAny_setItem_pairs (hsz:=hz) (xM ry) dd λh' Dr hs=>h _ ?_;have he:∃q,h'.get? a=some q:=let ⟨q,_,_,hq,_⟩:=Dr;#[q,hq]
 show Ov I (by rw[e];show ii) hs he (aaG hl aoF (rel.put k rv) Dr);subst ey eH;cases(show u=fD b from ry);let#[z,aoF,xs,rel,dd]:=aaK I.aS e;have hz:xs.length<=sizeLine:=by rw[<-uh rel];show z
 have hl:(iJ kvs k v).length<=sizeLine:=by have:=Q7 kvs k v;omega
 apply wpAny_setItem_heap (hsz:=hz) (UH hu) (Ef I.aS eb) dd λh' Dr hs=>h _ ?_;let#[q,es,ep,hq,h2,h3,h4,_,h5]:=Dr;apply Ov I (by rw[e];show ii) hs #[q,hq] #[hl,aoF,_,(rel.put k eb rv).keeps λc ys ec=>?_,q,es,ep,hq,h2,h3,h4,h5];rw[aG (iX ec e (λz=>nomatch z))];show ec
end
def Gq(i:Expr):Prop:=∀ov iv,Kz i false ov iv=operate [ov,iv] (Az ov iv)
def Ue{prog:aZ}{w:aW}{A:ci}{E:af->ax->Prop}{s:ax}{env:Env}{h_ lW:Expr}{pos:Pos}{T id:String}{Q:af->ax->Prop}(hl:typeLookup (.type T) "__getitem__"=pure (some (.builtin id)))(hs:Gq lW)(h:aK (aR prog w) A (eval h_ env) (λo s₁=>aK (aR prog w) A (eval lW env) (λi s₂=>s₂.TypeIs o T/\aK (aR prog w) A (Az o i) Q E s₂) E s₁) E s):
  aK (aR prog w) A (eval (.Subscript h_ lW pos) env) Q E s:=by
 apply GD (mW h (λo s₁ h₁=>mW h₁ (λi s₂ h₂=>?_) λ_ _ x=>x) λ_ _ x=>x);let#[hT,h₂]:=h₂;unfold Uf;apply aI ?_;rw[getitemInPython_of_ne hT.not_modules];apply aI (wpAny_specialOf hT hl ?_);have bW:aK (aR prog w) A (Kz lW false o i) (λr s₃=>aK (aR prog w) A (letTemporaryGo h_ o r>>=λ_=>pure r) Q E s₃) E s₂:=by
  rw[hs o i];show wpAny_operating (mW h₂ (λr s₃ h₃=>aI (wpAny_letTemporaryGo (bR h₃))) λ_ _ x=>x)
 first
  |show bR (aI bW)
  |show aI (bR (aI bW))
  |show aI bW
def aaB{X:Cx}{ae:List (aa×Obj)}{σ:St}{H:Hp}{s:ax}{a:aa}{y:V}{o:Option V}(I:Inv X ae σ H s)(g:oA H a y o):s.TypeIs (.ref a) "dict":=by
 rcases g with⟨kvs,k,e,_,_⟩|⟨kvs,k,b,e,_,_,_⟩
 let#[_,_,vs,_,dd]:=z_ I.aS e;show dd.typeIs;let#[_,_,xs,_,dd]:=Aa I.aS e;show dd.typeIs
def Up(td ty:TE):TE:=λσ H Q=>td σ H λx H1=>ty σ H1 λy H2=>∃a v,x=.ref a/\oA H2 a y (some v)/\Q v H2
def ajj(td ty tv:TE):TS:=λD σ H=>tv σ H λv H1=>td σ H1 λx H2=>ty σ H2 λy H3=>∃a H4,x=.ref a/\yL H3 a y v H4/\D.nx σ H4
section
variable{X:Cx}{o i e h_:Expr}{pos lT rb:Pos}{td ty tv:TE}
def aik(hu:X.A.units+1<cLine)(ho:PE X o td)(hi:PE X i ty)(hs:Gq i):PE X (.Subscript o i pos) (Up td ty):=by
 intro ae s σ H Q I h;apply Ue PySem.F.slot_dict_getitem.lookup hs (dz (ho ae s σ H _ I h) λu s1 x H1 I1 rx q1=>dz (hi ae s1 σ H1 _ I1 q1) λiv s2 y H2 I2 ry gg=>?_);let#[a,v,ex,g,q2]:=gg;subst ex;obtain rfl:u=fD a:=rx;show#[aaB I2 g,Z2 hu I2 g ry λw' s3 I3 jU=>#[v,H2,I3,jU,q2]]
def Kb(hu:X.A.units+1<cLine)(ho:PE X o td)(hi:PE X i ty)(hv:PE X h_ tv)(hs:vy h_ (some (.Subscript o i lT)) pos.line X.env=pure false):
  PS X (.Assign [.Subscript o i lT] h_ pos) (ajj td ty tv):=by
 intro ae s σ H D I h;apply wpAny_Assign_Subscript (dz (hv ae s σ H _ I h) λr s1 v H1 I1 rv q1=>dz (ho ae s1 σ H1 _ I1 q1) λu s2 x H2 I2 rx q2=>dz (hi ae s2 σ H2 _ I2 q2) λiv s3 y H3 I3 ry gg=>?_) hs;let#[a,H4,ex,g,q3]:=gg;subst ex;obtain rfl:u=fD a:=rx;show aaj hu I3 g ry rv λs4 I4=>#[σ,H4,I4,q3]
end
def aaF{P:aZ}{w:aW}{H:Hp}(h:aL)(hb:lY<h.objs.size):dM P w H (h.push { cls:=.type "dict",data:=.dict (List.toArray []) }) h.objs.size (.dK []):=
 #[eX _,Nj.mpr (iP (dZ hb)),[],.nil,Heap.DictOf.new h]
def alw:TE:=λ_ H Q=>∀p,H p=none->Q (.ref p) (upd H p (.dK []))
section
variable{X:Cx}{pos:Pos}
def Si:PE X (.Dict [] [] pos) alw:=λae s σ H Q I h=>
 wpAny_Dict_empty #[.ref s.heap.objs.size,_,I.laid (a:=s.heap.objs.size) (o:=.dK []) (t':=s.toks) (λ_ _ q=>cJ _ q) (bj _) (aaF s.heap I.big),rfl,h _ (I.aS.fresh (bj _))]
end
structure M2 (X:Cx)(o:Expr)(m:Str)(dB:Pos)(e f:Expr)(gr:Pos):Prop where
 base:qh o m X.env (eval o X.env)=eval o X.env
 acO:((eL gr (bJ [e,f] X.env)).all (λx=>!x.1)&&(rW gr (sC [] X.env)).all (λx=>x.1.isSome)
  &&decide (([e,f]:List Expr).length+([]:List yS).length+(if ([]:List yS).isEmpty then 0 else 1)<30))=true
 line:(dB.endLine==gr.line)=true
 trees:eL gr (bJ [e,f] X.env)=[(false,eval e X.env),(false,eval f X.env)]
def LD(H:Hp)(a:aa):Prop:=(∃kvs,Rd H a (.dK kvs))\/∃kvs,Rd H a (.dT kvs)
def afD{X:Cx}{ae:List (aa×Obj)}{σ:St}{H:Hp}{s:ax}{a:aa}(I:Inv X ae σ H s)(d:LD H a):
  s.TypeIs (.ref a) "dict"/\(∀b,fD a=.ref b->∃ob,s.heap.get? b=some ob/\ob.dict=none)/\(a==lY)=false:=by
 rcases d with⟨kvs,e⟩|⟨kvs,e⟩
 let#[_,aoF,vs,_,dd]:=z_ I.aS e;apply#[dd.typeIs,λb q=>?_,aoF];cases q;let#[ob,_,_,h1,h2,_]:=dd;show#[ob,h1,h2.2.1];let#[_,aoF,xs,_,dd]:=Aa I.aS e;apply#[dd.typeIs,λb q=>?_,aoF];cases q;let#[ob,_,_,h1,h2,_]:=dd;show#[ob,h1,h2.2.1]
section
variable{X:Cx}{ae:List (aa×Obj)}{σ:St}{H:Hp}{s:ax}{a:aa}{y d:V}{u r:af}{o:Option V}{A:ci}{E:af->ax->Prop}
def Z1{Q:af->ax->Prop}(hu:A.units+1<cLine)(I:Inv X ae σ H s)(g:oA H a y o)(ry:RelV y u)(rd:RelV d r)(h:∀w' s',Inv X ae σ H s'->RelV (o.getD d) w'->Q w' s'):
  aK (aR X.prog X.w) A (call (.builtin "dict.get") [.ref a,u,r]) Q E s:=by
 rcases g with⟨kvs,k,e,ey,l⟩|⟨kvs,k,b,e,ey,eb,l⟩
 subst ey;let#[z,aoF,vs,rel,dd]:=z_ I.aS e;apply call_meetsIn Mm dd.typeIs Ww (Wt _ _ _) (meets_dict_get_default (fU X.prog X.w) a (xM ry) aoF r) #[_,dd.mapOf,h _ _ (I.tok _) ?_];rw[l];show(rel.val k).getD rd;subst ey;cases(show u=fD b from ry);let#[z,aoF,xs,rel,dd]:=Aa I.aS e;apply call_meetsIn Mm dd.typeIs Ww (Wt _ _ _) (meetsH_dict_get_default (B0 (fU X.prog X.w)) a b aoF r) #[UH hu,k,xs,Ef I.aS eb,dd,h _ _ (I.tok _) ?_];rw[l];show(rel.val k).getD rd
end
def alv(td ty tx:TE):TE:=λσ H Q=>td σ H λx H1=>∃a,x=.ref a/\LD H1 a/\ty σ H1 λy H2=>tx σ H2 λz H3=>∃o,oA H3 a y o/\Q (o.getD z) H3
section
variable{X:Cx}{o e f:Expr}{dB gr:Pos}{td ty tx:TE}
def ail(hu:X.A.units+1<cLine)(ho:PE X o td)(he:PE X e ty)(hf:PE X f tx)(m:M2 X o "get" dB e f gr):PE X (.Call (.Attribute o "get" dB) [e,f] [] gr) (alv td ty tx):=by
 intro ae s σ H Q I h;apply am1 m.base m.acO m.line PySem.F.plainAttrs_dict Mm PySem.F.type_dict_get (dz (ho ae s σ H _ I h) λu s1 x H1 I1 rx gg=>?_);let#[a,ex,d,q1]:=gg;subst ex;obtain rfl:u=fD a:=rx;let#[t1,t2,_]:=afD I1 d;apply#[t1,t2,?_];rw[m.trees];apply FT rfl (Ln (FU (dz (he ae s1 σ H1 _ I1 q1) λiv s2 y H2 I2 ry q2=>
  FU (cI (hf ae s2 σ H2 _ I2 q2) λfv s3 ⟨z,H3,I3,rz,ov,g,q3⟩=>Lo ?_))))
 show Z1 hu I3 g ry rz λw' s4 I4 jU=>#[_,H3,I4,jU,q3]
end
section
variable{X:Cx}{ae:List (aa×Obj)}{σ:St}{H:Hp}{s:ax}{h':aL}
def Inv.amH{t':Nat}{ch:List aa}(I:Inv X ae σ H s)(k:∀b o,b∉ch->s.heap.get? b=some o->h'.get? b=some o)(hf:∀b∈ch,me X ae H b):Inv X ae σ H { s with heap:=h',toks:=t' }:=by
 have sJ:∀b u,H b=some u->b∉ch:=λb u e z=>by
  have q:=(hf b z).1;rw[q]at e;cases e
 apply I.step (g':=s.gens) (d':=s.drawn) (ch:=ch) (λb hb=>#[(hf b hb).2.2.2.1,(hf b hb).2.1,(hf b hb).2.2.2.2.1,(hf b hb).2.2.2.2.2]) (λb o _ _ hc e _=>k b o hc e) (λb o _ _ hc e _=>#[o.slots,k b o hc e])
  (λ_ _ _ _ n=>n) (λb o hc e=>#[o,k b o hc e]) (λ_ _ e=>e) (λ_ _ _ e=>e) (λb ps e=>#[(List.toArray []),by rw[e];simp]) (λm hm=>?_) (λb u e=>?_) I.bare
 let#[o,es,ep,ho,r]:=hm;show#[o,es,ep,k _ o (λz=>(hf _ z).2.1 rfl) ho,r];apply(I.aS b u e).kW (λc v hc q=>k c v ?_ q) (λ_ q=>q) λ_ _ q=>q;obtain z|z:=hc
 rw[z];show sJ b u e;show sJ c _ z
def Inv.UK{t':Nat}{ch:List aa}{T:aa}{ob:HO}(I:Inv X ae σ H s)(k:∀b o,b∉ch->s.heap.get? b=some o->h'.get? b=some o)(hf:∀b∈ch,me X ae H b)(hT:s.heap.objs.size<=T)(new:dM X.prog X.w (upd H T ob) h' T ob):Inv X ae σ (upd H T ob) { s with heap:=h',toks:=t' }:=by
 have hn:H T=none:=I.aS.fresh hT;have sJ:∀b u,H b=some u->b∉ch:=λb u e z=>by
  have q:=(hf b z).1;rw[q]at e;cases e
 apply I.step (g':=s.gens) (d':=s.drawn) (ch:=ch) (λb hb=>#[(hf b hb).2.2.2.1,(hf b hb).2.1,(hf b hb).2.2.2.2.1,(hf b hb).2.2.2.2.2]) (λb o _ _ hc e _=>k b o hc e) (λb o _ _ hc e _=>#[o.slots,k b o hc e])
  (λb o _ e n=>?_) (λb o hc e=>#[o,k b o hc e]) (λb xs e=>?_) (λb o u e=>?_) (λb ps e=>#[(List.toArray []),?_]) (λm hm=>?_) (λb u e=>?_) I.bare
 rw[aG (dZ (fj (cK e) hT))];show n;rw[aG (bf e hn)];show e;rw[aG (bf e hn)];show e;rw[aG (bf e hn),e];simp;let#[o,es,ep,ho,r]:=hm;show#[o,es,ep,k _ o (λz=>(hf _ z).2.1 rfl) ho,r];by_cases hb:b=T
 subst hb;rw[aH]at e;cases e;show new;rw[aG hb]at e;apply(I.aS b u e).kW (λc v hc q=>k c v ?_ q) (λc q=>by rw[aG (bf q hn)];show q) λc xs q=>by rw[aG (bf q hn)];show q
 obtain z|z:=hc
 rw[z];show sJ b u e;show sJ c _ z
def Inv.lock{d:aa}{u:HO}(I:Inv X ae σ H s)(h:H d=some u)(mu:rD (some u)):∃od,Inv X ae σ (upd H d (.cT od u)) s:=by
 have x:=I.aS d u h;have ex:∃od,s.heap.get? d=some od:=by
  cases u with
  |lst xs=>let#[_,_,_,_,e]:=x;show#[_,e]
  |dK kvs=>let#[_,_,_,_,o,_,_,e,_]:=x;show#[o,e]
  |dT kvs=>let#[_,_,_,_,o,_,_,e,_]:=x;show#[o,e]
  |set S n=>let#[o,_,_,_,e,_]:=x;show#[o,e]
  |ins C dx fs=>let#[_,_,_,e,_]:=x;show#[_,e]
  |ext φ=>let#[_,#[_,e],_]:=x;show#[_,e]
  |_=>show ju mu
 let#[od,e]:=ex;have new:dM X.prog X.w (upd H d (.cT od u)) s.heap d (.cT od u):=by
  apply#[e,x.kW (λb v _ q=>q) (λb q=>?_) λb xs q=>?_];rw[aG (λz=>by rw[z,h]at q;cases q;show mu)];show q;rw[aG (λz=>by rw[z,h]at q;cases q;show mu)];show q
 show#[od,I.write (x:=d) (e:=d) (t':=s.toks) (h':=s.heap) (by rw[h];show mu) (.inl rfl) (λb v _ q=>q) #[od,e] new]
def Inv.ahN{d:aa}{u:HO}(I:Inv X ae σ H s)(h:H d=some u)(mu:rD (some u)):∀o' u',X.tY d≠some (.cT o' u'):=λo' u' e=>by
 have q:=I.base.iz d o' u' e;rw[h]at q;cases q;show mu
def Inv.unlock{d:aa}{od:Obj}{u:HO}(I:Inv X ae σ H s)(h:H d=some (.cT od u))(hn:∀o' u',X.tY d≠some (.cT o' u')):Inv X ae σ (upd H d u) s:=by
 have xY:∀b o,H b=some o->(∀o' u',o≠.cT o' u')->b≠d:=λb o e hne z=>by
  rw[z,h]at e;cases e;show hne _ _ rfl
 have neN:∀b,H b=none->b≠d:=λb e z=>by rw[z,h]at e;cases e
 apply#[I.ok,I.os,I.bare,#[I.base.keep,I.base.slot,λb o e n hx=>?_,I.base.there,λb xs e=>?_,λb o x e=>?_,λb ps e=>?_],I.loc,I.cell,?_,λx c e=>?_,λp hp=>?_,λb o e=>?_,I.len];rw[aG (neN b (I.base.free b o e n hx))];show I.base.free b o e n hx;have q:=I.base.js b xs e;rw[aG (xY b _ q (λ_ _ z=>nomatch z))];show q;have q:=I.base.iz b o x e;rw[aG (λz=>by rw[z]at e;show hn _ _ e)];show q;let#[m,q]:=I.base.jr b ps e;show#[m,by rw[aG (xY b _ q (λ_ _ z=>nomatch z))];show q];rw[aG (neN _ I.free)];show I.free;rw[aG (neN c (I.kx x c e))];show I.kx x c e;let#[e,n,r]:=I.pin p hp;show#[e,by rw[aG (neN _ n)];show n,r];by_cases hb:b=d
 rw[hb,aH]at e;cases e;rw[hb];let#[_,x]:=I.aS d _ h;show x.kW (λc v _ q=>q) (λc q=>by rw[aG (xY c _ q (λ_ _ z=>nomatch z))];show q) λc xs q=>by rw[aG (xY c _ q (λ_ _ z=>nomatch z))];show q
 rw[aG hb]at e;show(I.aS b o e).kW (λc v _ q=>q) (λc q=>by rw[aG (xY c _ q (λ_ _ z=>nomatch z))];show q) λc xs q=>by rw[aG (xY c _ q (λ_ _ z=>nomatch z))];show q
end
def alD(t:TE):TE:=λσ H Q=>∃d u,H d=some u/\rD (some u)/\∀od,t σ (upd H d (.cT od u)) λv H'=>H' d=some (.cT od u)/\Q v (upd H' d u)
section
variable{X:Cx}
def Sk{e:Expr}{t:TE}(h:PE X e t):PE X e (alD t):=by
 intro ae s σ H Q I hw;let#[d,u,aoF,mu,hw]:=hw;let#[od,I1]:=I.lock aoF mu;apply dz (h ae s σ _ _ I1 (hw od)) λv s1 x H1 I2 r gg=>?_;let#[e2,q]:=gg;show#[x,_,I2.unlock e2 (I.ahN aoF mu),r,q]
def J5{tg:Expr}{ae:List (aa×Obj)}{σ:St}{H:Hp}{s:ax}{R:It->Hp->Prop}{J:It}{tn:Nat->aL->Prop}{tk:Nat}(I:Inv X ae σ H s)(o:Obj)(T:rL X.prog X.w X.K tg J [s.heap.objs.size] s.heap.objs.size tn)(st:tn 0 (s.heap.push o))(q:R J H):Cu X ae σ tg R (.ref s.heap.objs.size) { s with heap:=s.heap.push o,toks:=tk }:=by
 apply#[s.heap.objs.size,[s.heap.objs.size],tn,J,H,rfl,I.kept λb ob e=>cJ _ e,T,st,λb hb=>?_,q];have e:b=s.heap.objs.size:=by simpa using hb
 subst e;show I.xk (bj _) (I.aS.fresh (bj _))
end
def rA(x:Str):It:=#[λi _=>i<x.cps.size,λi H v H'=>H'=H/\∃c,x.cps[i]? =some c/\v=.str #[(List.toArray [c])],λi _=>x.cps.size<=i]
def UJ{P:aZ}{w:aW}{K:aP}{tg:Expr}(it:aa)(x:Str)(t:Tok)(ty:String)(xE:ty="str_ascii_iterator"\/ty="str_iterator"):
  rL P w K tg (rA x) [it] it (λi h=>h.IsStrIter it ty x t i) where
 mem:=by simp
 obj:=λi h st b hb=>by
  have e:b=it:=by simpa using hb
  subst e;let#[o,e,c,d]:=st;show#[o,e,λv z=>by rw[d]at z;cases z]
 keep:=λi h h' st k=>let ⟨o,ho,r⟩:=st;#[o,k it () o ho,r]
 item:=by
  intro X hP hw hK hc i ae s σ H E I hf st hg;subst hP hw hK;let#[f0,f1,f2,f3,f4,f5]:=hf it ();have W:Walks X.prog X.w X.A it [it] [it] x.cps.size (SignAt x) (λi h=>h.IsStrIter it ty x t i):=by
   obtain e|e:=xE
   rw[e];show Walks.strAscii (I.ok.aoF hc) it x t;rw[e];show Walks.strWide (I.ok.aoF hc) it x t
  have IX:["enumerate","zip","dict_itemiterator","dict_reverseitemiterator","odict_iterator","itertools.zip_longest","itertools.pairwise"].contains ty=false:=by
   obtain e|e:=xE
   rw[e];decide;rw[e];decide
  apply W.item i s _ _ hg st λv h' tk hv jq kk=>?_;let#[c,u,adP,rfl]:=hv;have I1:Inv X ae σ H { s with heap:=h',toks:=tk }:=I.turned (λb o hb e=>kk b o (by simpa using hb) e) f0 f1 f3 f4 f5;let#[oi,e,cc,dd]:=id jq;show#[_,rfl,DI (s:={ s with heap:=h',toks:=tk }) e cc dd IX #[.str #[(List.toArray [c])],H,I1,#[u,rfl],#[rfl,c,adP,rfl],jq,λb hb=>(hf b hb).1]]
 done:=by
  intro X hP hw hK hc i ae s σ H E I hf st hg;subst hP hw hK;let#[f0,f1,f2,f3,f4,f5]:=hf it ();have hx:x.cps[i]? =none:=Array.getElem?_eq_none hg;obtain e|e:=xE
  rw[e]at st;show wpAny_pyNext_ascii_end (I.ok.aoF hc) st hx λh' eb=>#[rfl,I.turned (t':=s.toks) (λb o hb e=>eb b o hb e) f0 f1 f3 f4 f5];rw[e]at st;show wpAny_pyNext_wide_end (I.ok.aoF hc) st hx λh' eb=>#[rfl,I.turned (t':=s.toks) (λb o hb e=>eb b o hb e) f0 f1 f3 f4 f5]
 self:=λA i s Q E st h=>by
  obtain e|e:=xE
  rw[e]at st;show wpAny_pyIter_striter_ascii st h;rw[e]at st;show wpAny_pyIter_striter_wide st h
def afi(te:TE):TI:=λσ H R=>te σ H λv H1=>∃x,v=.str x/\R (rA x) H1
def Sm{X:Cx}{tg e:Expr}{te:TE}(he:PE X e te):PI X tg e (afi te):=by
 intro ae s σ H R I h;apply dz (he ae s σ H _ I h) λv s1 y H1 I1 r1 gg=>?_;let#[x,ex,q]:=gg;subst ex;let#[t,rfl]:=r1;cases ha:x.cps.all (· <128);show wpAny_pyIter_wide ha (J5 (tk:=s1.toks) I1 _ (UJ _ x t "str_iterator" (.inr rfl)) #[_,eV _ rfl,rfl,rfl] q);show wpAny_pyIter_ascii ha (J5 (tk:=s1.toks) I1 _ (UJ _ x t "str_ascii_iterator" (.inl rfl)) #[_,eV _ rfl,rfl,rfl] q)
def afW{κ:Type}{kvs:List (κ×V)}{vs:List (κ×af)}(h:KV kvs vs):∀{i:Nat}{k:κ}{v:V},kvs[i]? =some (k,v)->∃u,vs[i]? =some (k,u)/\RelV v u:=by
 unfold KV at h;induction h with
 |nil=>intro i k v e;simp at e
 |@cons a b l₁ l₂ r t ih=>
  intro i k v e;cases i with
  |zero=>
   simp![LL,wk]at e;subst e;apply#[b.2,?_,r.2];simp![LL];show dX some (Prod.ext r.1.symm rfl)
  |succ j=>
   simp![F7]at e⊢;show ih e
section
variable{X:Cx}{ae:List (aa×Obj)}{σ:St}{H:Hp}{s:ax}{d:aa}{o:Obj}
def Inv.Ik{kvs:List (bB×V)}(I:Inv X ae σ H s)(h:H d=some (.cT o (.dK kvs))):
  (d==lY)=false/\s.heap.get? d=some o/\o.ExactDict/\∃(es:Array rm)(ep:Nat)(vs:List (bB×af)),o.data=.dict es ep/\es.size=kvs.length/\KV kvs vs/\s.heap.DictAt (fU X.prog X.w) d vs ep:=by
 let#[aoF,z,hs,vs,kv,o',es,ep,ho,hx,su,r]:=I.aS d _ h;rw[aoF]at ho;cases ho;apply#[hs,aoF,hx,es,ep,vs,su,?_,kv,o,es,aoF,hx,su,r];have l1:=r.2.1.length;have l2:kvs.length=vs.length:=uh kv;rw[l_]at l1;omega
end
def yQ(d:aa)(o:Obj)(kvs:List (bB×V)):It:=
 #[λi H=>H d=some (.cT o (.dK kvs))/\i<kvs.length,λi H x H'=>H'=H/\∃k,kvs[i]? =some (k,x),λi H=>H d=some (.cT o (.dK kvs))/\kvs.length<=i]
def OD{o:Obj}{es qu:Array rm}{ep qt:Nat}(h:o.data=.dict es ep)(h':o.data=.dict qu qt):qu=es/\qt=ep:=by
 rw[h]at h';cases h';show#[rfl,rfl]
section
variable{P:aZ}{w:aW}{K:aP}{tg:Expr}{d:aa}{o:Obj}{es:Array rm}{ep:Nat}
def amF{kvs:List (bB×V)}(it:aa)(Qe:o.data=.dict es ep):rL P w K tg (yQ d o kvs) [it] it (λi h=>h.IsValIter it d i kvs.length ep) where
 mem:=by simp
 obj:=λi h st b hb=>by
  have e:b=it:=by simpa using hb
  subst e;let#[oi,e,c,dd]:=st;show#[oi,e,λv z=>by rw[dd]at z;cases z]
 keep:=λi h h' st k=>st.at λoi e=>k it () oi e
 item:=by
  intro X hP hw hK hc i ae s σ H E I hf st hg;subst hP hw hK;let#[aoF,hi]:=hg;let#[f0,f1,f2,f3,f4,f5]:=hf it ();let#[hs,PY,hx,qu,qt,vs,su,hsz,kv,hm]:=I.Ik aoF;let#[rfl,rfl]:=OD Qe su;obtain⟨⟨k,v⟩,sv⟩:∃p,kvs[i]? =some p:=#[kvs[i],ca hi];let#[u,hu,ru]:=afW kv sv;have hl:kvs.length=vs.length:=uh kv;rw[hl]at st;apply wpAny_pyNext_values_item st hm hu λh' jq sb=>?_;have I1:Inv X ae σ H { s with heap:=h' }:=I.turned (t':=s.toks) (λb ob hb e=>(sb.2 b hb).trans e) f0 f1 f3 f4 f5;let#[oi,e,c,dd]:=id jq;apply#[u,rfl,DI (s:={ s with heap:=h' }) e c dd () #[v,H,I1,ru,#[rfl,k,sv],?_,λb hb=>(hf b hb).1]];show h'.IsValIter it d (i+1) kvs.length _;rw[hl];show jq
 done:=by
  intro X hP hw hK hc i ae s σ H E I hf st hg;subst hP hw hK;let#[aoF,hi]:=hg;let#[f0,f1,f2,f3,f4,f5]:=hf it ();let#[hs,PY,hx,qu,qt,vs,su,hsz,kv,hm]:=I.Ik aoF;let#[rfl,rfl]:=OD Qe su;have hl:kvs.length=vs.length:=uh kv;rw[hl]at st;show wpAny_pyNext_values_end (I.ok.aoF hc) st hm (ig ()) λh' eb=>#[rfl,I.turned (t':=s.toks) (λb ob hb e=>eb b ob hb e) f0 f1 f3 f4 f5]
 self:=λA i s Q E st h=>wpAny_pyIter_valiter st h
end
def afj(td:TE):TI:=λσ H R=>td σ H λx H1=>∃d o kvs,x=.ref d/\H1 d=some (.cT o (.dK kvs))/\R (yQ d o kvs) H1
section
variable{X:Cx}{tg e:Expr}{td:TE}{dB gr:Pos}
def aiy(he:PE X e td)(nN:qh e "values" X.env (eval e X.env)=eval e X.env:=by rfl)(nT:(dB.endLine==gr.line)=true:=by rfl):PI X tg (.Call (.Attribute e "values" dB) [] [] gr) (afj td):=by
 intro ae s σ H R I h;apply am1 (T:="dict") (id:="dict.values") nN rfl nT F.plainAttrs_dict Vt F.type_dict_values (dz (he ae s σ H _ I h) λu s1 x H1 I1 rx gg=>?_);let#[d,o,kvs,ex,aoF,q]:=gg;subst ex;obtain rfl:u=fD d:=rx;let#[hs,PY,hx,es,ep,vs,su,hsz,kv,hm]:=I1.Ik aoF;have hl:kvs.length=vs.length:=uh kv;apply#[hm.dictOf.typeIs,hm.dictOf.mapOf.noDict,?_];have I2:Inv X ae σ H1 { s1 with heap:=s1.heap.push { cls:=.type "dict_values",data:=.fields (List.toArray [.ref d]) } }:=I1.kept (t':=s1.toks) λb ob q=>cJ _ q;have bW:aK (aR X.prog X.w) X.A (By (.ref s1.heap.objs.size)) (Cu X ae σ tg R) X.xe { s1 with heap:=s1.heap.push { cls:=.type "dict_values",data:=.fields (List.toArray [.ref d]) } }:=by
  apply wpAny_pyIter_values (d:=d) (knd:=fU X.prog X.w) #[_,eV _ rfl,rfl,rfl] (hm.push _) (J5 (tk:=s1.toks) I2 _ (amF _ su) #[_,eV _ rfl,rfl,?_] q);rw[hl]<;>rfl
 show aK _ _ (zP gr (.builtin "dict.values") [.ref d] [] []) _ X.xe s1;show method_meetsIn Vt F.entry_dict_values rfl (WS #[rfl,hm.dictOf.typeIs,F.args_dict_values_1 _,_,meets_dict_values (fU X.prog X.w) d hs,#[vs,hm.dictOf],bW])
end
def rq(K:aP)(a:aa):It:=
 #[λi H=>∃(xs:List V)(x:V),az K H a xs/\xs[i]? =some x,λi H v H'=>∃T x,v=.ref T/\H T=none/\H'=upd H T (.tup [.int (i:Nat),x])/\∀xs,az K H a xs->xs[i]? =some x,λi H=>∃xs:List V,az K H a xs/\xs.length<=i]
def amC{P:aZ}{w:aW}{K:aP}{uF:List Expr}{kk:Nat}{rb:Pos}(a e it:aa):
  rL P w K (.Tuple uF kk rb) (rq K a) [e,it] e (λi h=>(∃old,IsEnum h e it ((i:Nat):Int) old)/\h.IsListIter it a i/\e≠it) where
 mem:=by simp
 obj:=λi h st b hb=>by
  let#[#[old,he],#[o,ho,hc,aoF],_]:=st;have e':b=e\/b=it:=by simpa using hb
  obtain z|z:=e'
  rw[z];show#[_,he,λv q=>nomatch q];rw[z];show#[o,ho,λv q=>by rw[aoF]at q;cases q]
 keep:=λi h h' st k=>let ⟨⟨old,he⟩,hi,hne⟩:=st;#[#[old,k e () _ he],hi.at λo q=>k it () o q,hne]
 item:=by
  intro X hP hw hK hc i ae s σ H E I hf st hg;subst hP hw hK;let#[#[old,he],iC,hne]:=st;let#[xs,x,hq,hx]:=hg;let#[aF,rv,p,hz]:=I.list hq;let#[u,hu,ru]:=rv.get hx;have xu:e<s.heap.objs.size:=cK he;have aeg:it<s.heap.objs.size:=by let#[_,q,_]:=iC;show cK q
  apply wpAny_pyNext_enum_item he iC p.isList (x:=u) (by simpa using hu) hne λh' ho aei hT hsz hk=>?_;apply#[_,rfl,wpAny_letOwnedTupleGo_enum (s:={ s with heap:=h',toks:=s.toks+1 }) ho λph adZ sb=>?_];have IC:ph.get? s.heap.objs.size=some { cls:=.type "tuple",data:=.seq (List.toArray [.int i s.toks,u]) }:=(sb.2 _ (wj xu)).trans hT;have new:dM X.prog X.w (upd H s.heap.objs.size (.tup [.int (i:Nat),x])) ph s.heap.objs.size (.tup [.int (i:Nat),x]):=
   #[by show 2<=sizeLine;decide,[.int i s.toks,u],.cons #[_,rfl] (.cons ru .nil),#[_,IC,rfl,_,rfl]]
  have I1:Inv X ae σ (upd H s.heap.objs.size (.tup [.int (i:Nat),x])) { s with heap:=ph,toks:=s.toks+1 }:=
   I.UK (ch:=[e,it]) (λb ob hb q=>(sb.2 b (λz=>hb (by simp[z]))).trans (hk b ob (λz=>hb (by simp[z])) (λz=>hb (by simp[z])) q)) hf (bj _) new
  apply#[.ref s.heap.objs.size,_,I1,rfl,#[_,x,rfl,I.aS.fresh (bj _),rfl,λys hy=>by rw[I.Jy hy hq];show hx],#[#[u,?_],aei.at λo q=>(sb.2 it (iP hne)).trans q,hne],λb hb=>?_];have e1:((i+1:Nat):Int)=(i:Int)+1:=by omega
  rw[e1];show adZ;have cA:b<s.heap.objs.size:=by
   have e':b=e\/b=it:=by simpa using hb
   obtain z|z:=e'
   rw[z];show xu;rw[z];show aeg
  rw[aG (dZ cA)];show(hf b hb).1
 done:=by
  intro X hP hw hK hc i ae s σ H E I hf st hg;subst hP hw hK;let#[#[old,he],iC,hne]:=st;let#[xs,hq,hx]:=hg;let#[aF,rv,p,hz]:=I.list hq;let#[f0,f1,f2,f3,f4,f5]:=hf it ();have hl:=rv.length;show wpAny_pyNext_enum_end (I.ok.aoF hc) he iC p.isList (by simp;omega) λh' eb=>#[rfl,I.turned (t':=s.toks) (λb o hb q=>eb b o hb q) f0 f1 f3 f4 f5]
 self:=λA i s Q E st h=>let ⟨⟨_,he⟩,_⟩:=st;am6 he h
def afe(K:aP)(ta:TA):TI:=λσ H R=>ta σ H λvs H1=>∃a xs,vs=[.ref a]/\az K H1 a xs/\R (rq K a) H1
def EF{X:Cx}{e:Expr}{ta:TA}{p pos rb:Pos}{uF:List Expr}{kk:Nat}(hg:Gl X "enumerate")(hm:X.mg "enumerate"=none)(ha:PA X [e] ta)(hs:bJ [e] X.env=[(false,eval e X.env)]:=by rfl):
  PI X (.Tuple uF kk rb) (.Call (.Name "enumerate" p) [e] [] pos) (afe X.K ta):=by
 intro ae s σ H R I h;apply Call_ (qK I hg hm boot_enumerate (Cv (oq (ha pos ae s σ H _ I h) λus s1 vs H1 I1 r1 q1=>?_) hs rfl));let#[a,xs,ex,hq,q]:=q1;subst ex;cases r1 with
 |cons r rr=>
  cases rr;cases r;let#[aF,rv,p',hz]:=I1.list hq;apply call_enumerate_list p'.isList λh' he iC hsz hk=>am6 he ?_;have I2:Inv X ae σ H1 { s1 with heap:=h' }:=I1.kept (t':=s1.toks) hk;apply#[s1.heap.objs.size+1,[s1.heap.objs.size+1,s1.heap.objs.size],_,_,H1,rfl,I2,amC a (s1.heap.objs.size+1) s1.heap.objs.size,#[#[.none,he],iC,Nat.succ_ne_self _],λb hb=>?_,q];have e':b=s1.heap.objs.size+1\/b=s1.heap.objs.size:=by simpa using hb
  have hle:s1.heap.objs.size<=b:=by
   obtain z|z:=e'
   rw[z];show Co _ _;rw[z];show bj _
  show I1.xk hle (I1.aS.fresh hle)
def Y1:jf "zip"=some (.type "zip"):=by decide+kernel
end L2
section
namespace TL
open PySem PySem.Builtin PySem.Builtin.Str PySem.StrLaws
abbrev tl(x:Str):List Nat:=x.cps.toList
def uT(x:Str):x.length=(tl x).length:=by simp[tl,Str.length]
def uG{x y:Str}(h:tl x=tl y):x=y:=Str.ext' (Array.toList_inj.mp h)
def KP(x y:Str):tl (x++y)=tl x++tl y:=by
 show(x++y).cps.toList=_;rw[Str.cps_append,Array.toList_append]
def agW(x:Str):(#[(tl x).toArray]:Str)=x:=uG rfl
theorem JG:∀{l m:List Str},l.map tl=m.map tl->l=m
 |[],[],_=>rfl
 |[],_::_,h=>by simp at h
 |_::_,[],h=>by simp at h
 |x::l,y::m,h=>by
  rw[ba,ba]at h;injection h with h1 h2
  rw[uG h1,JG h2]
def amp(s:String):tl (bN s)=s.toList.map Lq:=PyProof.Rows.signs_ofString s
def pre(S l:List Nat):Bool:=l.take S.length==S
def dO(S:List Nat):Nat->List Nat->List Nat->List (List Nat)
 |_,acc,[]=>[acc]
 |0,acc,c::r=>if pre S (c::r)=true then acc::dO S (S.length-1) [] r else dO S 0 (acc++[c]) r
 |k+1,acc,_::r=>dO S k acc r
def par(S:List Nat):List Nat->List Nat->Option (List Nat×List Nat)
 |_,[]=>none
 |acc,c::r=>if pre S (c::r)=true then some (acc,(c::r).drop S.length)else par S (acc++[c]) r
def E3(S:List Nat)(k:Nat)(acc:List Nat):dO S k acc []=[acc]:=by cases k<;>rfl
def TW{S acc r:List Nat}{c:Nat}(h:pre S (c::r)=true):dO S 0 acc (c::r)=acc::dO S (S.length-1) [] r:=by
 show(if pre S (c::r)=true then acc::dO S (S.length-1) [] r else dO S 0 (acc++[c]) r)=_;rw[aq h]
def TY{S acc r:List Nat}{c:Nat}(h:pre S (c::r)=false):dO S 0 acc (c::r)=dO S 0 (acc++[c]) r:=by
 show(if pre S (c::r)=true then acc::dO S (S.length-1) [] r else dO S 0 (acc++[c]) r)=_;rw[ay (by rw[h];show dh)]
theorem TZ(S:List Nat):∀(k:Nat)(acc l:List Nat),dO S k acc l=dO S 0 acc (l.drop k)
 |0,_,_=>by rw[vY]
 |k+1,acc,[]=>by rw[List.drop_nil,E3,E3]
 |k+1,acc,c::r=>by
  show dO S k acc r=dO S 0 acc (r.drop k);show TZ S k acc r
def aiA{S:List Nat}(hS:S≠[]):pre S []=false:=by
 cases S with
 |nil=>show absurd rfl hS
 |cons s S=>rfl
def Sw{s c:Nat}(S r:List Nat)(h:c≠s):pre (s::S) (c::r)=false:=by
 cases hp:pre (s::S) (c::r)with
 |false=>rfl
 |true=>
  have e:(c::r).take (s::S).length=s::S:=eq_of_beq hp;rw[cN,L_]at e;injection e with e1 e2
  show absurd e1 h
def aiB(S r:List Nat):pre S (S++r)=true:=by
 show((S++r).take S.length==S)=true;have e:(S++r).take S.length=S:=Wc;rw[e]<;>show Nk S
def add{L:List Nat}{a:Nat}(h:a<L.length):∃c,L.drop a=c::L.drop (a+1):=#[L[a],FZ h]
theorem BP(S L:List Nat):∀(m a:Nat)(acc:List Nat),a+m<=L.length->(∀k,a<=k->k<a+m->pre S (L.drop k)=false)->
  dO S 0 acc (L.drop a)=dO S 0 (acc++(L.drop a).take m) (L.drop (a+m))
 |0,a,acc,_,_=>by rw[Wd,eJ,Gj]
 |m+1,a,acc,h,hn=>by
  have hlt:a<L.length:=by omega
  let#[c,e]:=add hlt;have h0:=hn a (bj _) ();have ih:=BP S L m (a+1) (acc++[c]) () (λk h1 h2=>hn k () ());have e2:a+1+m=a+(m+1):=by omega
  rw[e2]at ih;rw[e]at h0;rw[e,TY h0,ih,L_,pZ]<;>rfl
def OH(L:List Nat)(a b:Nat):(L.drop a).drop b=L.drop (a+b):=by
 first
  |rw[vX]
  |rw[vX,Gi]
def TV{S L:List Nat}(hS:S≠[]){c:Nat}{acc:List Nat}(h:pre S (L.drop c)=true):dO S 0 acc (L.drop c)=acc::dO S 0 [] (L.drop (c+S.length)):=by
 rw[<-OH];cases e:L.drop c with
 |nil=>rw[e,aiA hS]at h;cases h
 |cons d r=>
  rw[e]at h;rw[TW h,TZ];cases S with
  |nil=>show absurd rfl hS
  |cons s S=>rfl
def Nc{x y:Str}(hy:tl y≠[])(i:Nat):At x y x.length i↔pre (tl y) ((tl x).drop i)=true:=by
 have hx:=uT x;have hl:=uT y;constructor;intro h;have h2:=h.2;rw[subAt_eq,hl]at h2;show h2;intro h;have e:((tl x).drop i).take (tl y).length=tl y:=eq_of_beq h;have e1:=dX oK e;rw[ka,jv]at e1;have e2:0<(tl y).length:=List.length_pos_iff.mpr hy;apply#[by omega,?_];rw[subAt_eq,hl];show h
def RQ{x y:Str}(hy:tl y≠[]){i:Nat}(h:¬At x y x.length i):pre (tl y) ((tl x).drop i)=false:=by
 cases hp:pre (tl y) ((tl x).drop i)with
 |false=>rfl
 |true=>show absurd ((Nc hy i).mpr hp) h
def agd{y:Str}(hy:tl y≠[]):1<=y.length:=by
 have e2:0<(tl y).length:=List.length_pos_iff.mpr hy;rw[uT y];show e2
def KQ(x:Str)(i j:Nat):tl (strSub x i j)=((tl x).drop i).take (j-i):=strSub_toList x i j
def amq(x:Str)(i:Nat):tl (strSub x i x.length)=(tl x).drop i:=by
 rw[KQ,uT x];show Cn (by rw[jv]<;>omega)
theorem Sh{x y:Str}(hy:tl y≠[]):∀(NQ:List Nat)(a f:Nat),a<=(tl x).length->ChainG x y x.length a NQ f->(∀k,f<=k->¬At x y x.length k)->
  (partsFrom x y.length a NQ).map tl=dO (tl y) 0 [] ((tl x).drop a)
 |[],a,f,ha,h,hn=>by
  have e:f=a:=h;subst e;show[tl (strSub x f x.length)]=_;have run:=BP (tl y) (tl x) ((tl x).length-f) f [] () (λk h1 _=>RQ hy (hn k h1));have e2:f+((tl x).length-f)=(tl x).length:=by omega
  rw[e2,LI,E3,lq,Cn (by rw[jv]<;>omega)]at run;rw[run,amq]
 |c::r,a,f,ha,h,hn=>by
  let#[h1,h2,h3,h4]:=h;have hc:c+y.length<=x.length:=h2.1;have hx:=uT x;have hl:=uT y;have ih:=Sh hy r (c+y.length) f () h4 hn;show tl (strSub x a c)::(partsFrom x y.length (c+y.length) r).map tl=_;have run:=BP (tl y) (tl x) (c-a) a [] () (λk k1 k2=>RQ hy (h3 k k1 ()));have e2:a+(c-a)=c:=by omega
  rw[e2,lq,TV hy ((Nc hy c).mp h2)]at run;rw[run,ih,KQ,hl]
def T2(x y:Str)(hy:tl y≠[])(hk:¬rh x<rh y):(lC x y).map tl=dO (tl y) 0 [] (tl x):=by
 let#[f,g,hn]:=occ_tight x y (agd hy);have key:=Sh hy _ 0 f (eX _) g hn;rw[vY]at key;have none_case:RW x y 0 x.length (x.length+1)=[]->[x].map tl=dO (tl y) 0 [] (tl x):=λho=>by
  rw[ho]at key;rw[<-key];show[tl x]=[tl (strSub x 0 x.length)];rw[sub_whole]
 unfold lC;by_cases h1:(decide (x.length<y.length)||decide (rh x<rh y))=true
 rw[aq h1];have hlt:x.length<y.length:=by
  simp![ox,bw]at h1;obtain h|h:=h1
  show h;show absurd h hk
 apply none_case ?_;cases ho:RW x y 0 x.length (x.length+1)with
 |nil=>rfl
 |cons c r=>
  rw[ho]at g;have hc:c+y.length<=x.length:=g.2.1.1;omega
 rw[ay h1];by_cases h2:(RW x y 0 x.length (x.length+1)).isEmpty=true
 rw[aq h2];show none_case (Ci.mp h2);rw[ay h2,partsBetween_eq];show key
def QX{x y:Str}(h:y.cps.all (· <256)=true):¬rh x<rh y:=by
 have e:rh y=1:=by unfold Ws;rw[aq h]
 rw[e];unfold Ws;split;omega;split<;>omega
def ald{S p bE acc:List Nat}(hS:S≠[])(h:∀i,i<p.length->pre S ((p++(S++bE)).drop i)=false):
  dO S 0 acc (p++(S++bE))=(acc++p)::dO S 0 [] bE:=by
 have run:=BP S (p++(S++bE)) p.length 0 acc (by rw[dG];omega) (λk _ k2=>h k ());have ed:(p++(S++bE)).drop p.length=S++bE:=LH;rw[vY,Gp,Wc]at run;rw[run,TV hS (by rw[ed];show aiB S bE),<-OH,ed,LH]
def alb{S p acc:List Nat}(h:∀i,i<p.length->pre S (p.drop i)=false):dO S 0 acc p=[acc++p]:=by
 have run:=BP S p p.length 0 acc () (λk _ k2=>h k ());rw[vY,Gp,LI,E3,jy]at run;show run
def Pk{s:Nat}{S p q:List Nat}(h:s∉p):∀i,i<p.length->pre (s::S) ((p++q).drop i)=false:=λi hi=>by
 have hlt:i<(p++q).length:=by rw[dG];omega
 have e:(p++q).drop i=(p++q)[i]::(p++q).drop (i+1):=FZ hlt;rw[e];apply Sw _ _ λz=>h ?_;have e1:(p++q)[i]=p[i]:=List.getElem_append_left hi;rw[<-z,e1];show LQ hi
def ale{s:Nat}{S p bE acc:List Nat}(h:s∉p):dO (s::S) 0 acc (p++(s::S++bE))=(acc++p)::dO (s::S) 0 [] bE:=
 ald () (Pk h)
def alc{s:Nat}{S p acc:List Nat}(h:s∉p):dO (s::S) 0 acc p=[acc++p]:=alb λi hi=>by
 have z:=Pk (S:=S) (q:=[]) h i hi;rw[eJ]at z;show z
def qF(S:List Nat):List (List Nat)->List Nat
 |[]=>[]
 |[p]=>p
 |p::q::r=>p++(S++qF S (q::r))
theorem Fc(y:Str):∀parts:List Str,tl (ME y parts)=qF (tl y) (parts.map tl)
 |[]=>rfl
 |[_]=>rfl
 |x::z::r=>by
  show tl (x++y++ME y (z::r))=tl x++(tl y++qF (tl y) ((z::r).map tl));rw[KP,KP,Fc y (z::r),pZ]
theorem TX{s:Nat}{S:List Nat}:∀{parts:List (List Nat)},parts≠[]->(∀p∈parts,s∉p)->dO (s::S) 0 [] (qF (s::S) parts)=parts
 |[],h,_=>absurd rfl h
 |[p],_,hp=>by
  show dO (s::S) 0 [] p=[p];rw[alc (hp p (List.mem_singleton.mpr rfl)),lq]
 |p::q::r,_,hp=>by
  show dO (s::S) 0 [] (p++(s::S++qF (s::S) (q::r)))=p::q::r;rw[ale (hp p (bq ..)),lq,TX () λz hz=>hp z (bp _ hz)]
def Jn(y:Str)(parts:List Str):zl y parts=ME y parts:=glued_eq_join y parts
def yu{y:Str}{s:Nat}{S:List Nat}(ey:tl y=s::S)(hk:y.cps.all (· <256)=true){parts:List Str}(hne:parts≠[])(hp:∀p∈parts,s∉tl p):
  lC (zl y parts) y=parts:=by
 apply JG ?_;rw[T2 _ y (by rw[ey];simp) (QX hk),Jn,Fc,ey];apply TX (λe=>hne (List.map_eq_nil_iff.mp e)) λp h=>?_;let#[z,hz,rfl]:=Ge.mp h;show hp z hz
end TL
end
namespace L2
open PySem PySem.Spec PyProof.Rows
def ahP{n:Nat}(h:n<=16777216):Vm n=false:=by
 have e:(2:Nat) ^ 24=16777216:=by decide
 unfold Vm sizeLine;show cO ()
theorem UY:∀l:List (Str×Tok),bi ((l.map (·.1)).map V.str) (strValues l)
 |[]=>.nil
 |p::r=>.cons #[p.2,rfl] (UY r)
theorem Kx:∀{ys:List Str}{us:List af},bi (ys.map V.str) us->StrsAre us ys
 |[],_,.nil=>.nil
 |y::ys,_,.cons r t=>by
  let#[k,rfl]:=r;show .cons y k (Kx t)
def yn(ys:List Str):Hp->VK->Prop:=λH Q=>∀p,H p=none->Q (.ref p) (upd H p (.lst (ys.map V.str)))
section
variable{X:Cx}{ae:List (aa×Obj)}{σ:St}{H:Hp}{s:ax}{Q:VK}
def Js{l:List (Str×Tok)}{ys:List Str}{k:Nat}(I:Inv X ae σ H s)(e:l.map (·.1)=ys)(hz:ys.length<=sizeLine)(h:yn ys H Q):
  EP X ae σ Q (.ref s.heap.objs.size) { s with toks:=k,heap:=s.heap.push { cls:=.type "list",data:=.seq (strValues l).toArray } }:=by
 have hp:=I.aS.fresh (bj _);apply#[.ref s.heap.objs.size,upd H s.heap.objs.size (.lst (ys.map V.str)),I.laid (λb u q=>cJ _ q) (bj _) #[by rw[aD];show hz,strValues l,_,?_,eV _ rfl],rfl,h _ hp];rw[<-e];show UY l
end
section
variable{X:Cx}
def ag7:iN X "str.split" (λx xs H Q=>∃a b,x=.str a/\xs=[.str b]/\(b.length==0)=false/\a.length+2<=sizeLine/\yn (lC a b) H Q):=by
 intro ae s σ H x xs v us Q I rx rs h;let#[a,b,rfl,rfl,hb,hz,h]:=h;let#[t,rfl]:=rx;cases rs with
 |cons r1 rs=>
  cases rs;let#[u,rfl]:=r1;have hl:(lC a b).length<=sizeLine:=cp (Wr a b) hz;have hn:(Vl a (Lm a b 0 a.length (a.length+1)) b.length).length<=sizeLine:=by
   have e1:=StrLaws.occ_length_le a b 0 a.length (a.length+1);rw[length_partsBetween];omega
  cases h1:(decide (a.length<b.length)||decide (rh a<rh b));cases hf:(Lm a b 0 a.length (a.length+1)).isEmpty;apply wW FV (vD _ _ _) Ly (Lv _ _) (meets_str_split_sep a b t u h1 hb hf () hn) ?_;show EP X ae σ Q (.ref s.heap.objs.size) { s with toks:=_,heap:=s.heap.push { cls:=.type "list",data:=.seq (strsFrom s.toks (Vl a (Lm a b 0 a.length (a.length+1)) b.length)).toArray } };rw[strsFrom_eq];show Js (ys:=lC a b) I ((numbered_texts _ _).trans ((ay (RL h1)).trans (ay (RL hf))).symm) hl h;apply wW FV (vD _ _ _) Ly (Lv _ _) (meets_str_split_not_found a b t u h1 hb hf) ?_;show Js (l:=[(a,t)]) (ys:=lC a b) (k:=s.toks) I ((ay (RL h1)).trans (aq hf)).symm hl h;apply wW FV (vD _ _ _) Ly (Lv _ _) (meets_str_split_cannot_occur a b t u h1) ?_;show Js (l:=[(a,t)]) (ys:=lC a b) (k:=s.toks) I (aq h1).symm hl h
def ag5:iN X "str.join" (λx xs H Q=>∃a p,∃ys:List Str,x=.str a/\xs=[.ref p]/\(az X.K H p (ys.map V.str)\/bL X.K H p (ys.map V.str))/\
  (ys.map (·.length)).sum+ys.length*a.length<=16777216/\Q (.str (zl a ys)) H):=by
 intro ae s σ H x xs v us Q I rx rs h;let#[a,p,ys,rfl,rfl,hp,hz,h]:=h;let#[t,rfl]:=rx;cases rs with
 |cons r1 rs=>
  cases rs;cases r1;obtain hp|hp:=hp
  let#[aF,r,#[o,n,ho,hc,_,aoF],_]:=I.list hp;show PyProof.Rows.join_list (items:=aF.toArray) #[o,ho,hc,n,aoF] (by rw[We];show Kx r) hz λt' k=>#[.str _,H,I.tok k,#[t',rfl],h];let#[aF,r,ht,_]:=I.tuple hp;show PyProof.Rows.join_tuple (items:=aF.toArray) ht (by rw[We];show Kx r) hz λt' k=>#[.str _,H,I.tok k,#[t',rfl],h]
def El{id:String}{C:Str->Prop}{g:Str->V}(rule:∀(a:Str)(t:Tok)(s:ax)(Q:af->ax->Prop),C a->(∀(u:af)(k:Nat),RelV (g a) u->Q u { s with toks:=k })->
  aK (aR X.prog X.w) X.A (call (.builtin id) [.str a t]) Q X.xe s):iN X id (λx xs H Q=>∃a,x=.str a/\xs=[]/\C a/\Q (g a) H):=by
 intro ae s σ H x xs v us Q I rx rs h;let#[a,rfl,rfl,hc,h]:=h;let#[t,rfl]:=rx;cases rs;show rule a t s _ hc λu k r=>#[g a,H,I.tok k,r,h]
def RB:iN X "str.upper" (λx xs H Q=>∃a,x=.str a/\xs=[]/\a.length<=5592405/\Q (.str (GJ a)) H):=
 El (C:=λa=>a.length<=5592405) (g:=λa=>.str (GJ a)) λa _ s _ hc h=>
  PySem.SC.upper (ahP (by have h1:a.length<=5592405:=hc;have:=PyProof.Rows.len_upper a;omega)) (h _ (s.toks+1) #[_,rfl])
def ag3:iN X "str.isalpha" (λx xs H Q=>∃a,x=.str a/\xs=[]/\True/\Q (.bl (GH a)) H):=
 El (C:=λ_=>True) (g:=λa=>.bl (GH a)) λ_ _ s _ _ h=>PySem.SC.isalpha (h _ s.toks rfl)
def ag2:iN X "str.isalnum" (λx xs H Q=>∃a,x=.str a/\xs=[]/\True/\Q (.bl (zk a)) H):=
 El (C:=λ_=>True) (g:=λa=>.bl (zk a)) λ_ _ s _ _ h=>PySem.SC.isalnum (h _ s.toks rfl)
def Rw{id:String}{g:Str->Str->V}(rule:∀(a b:Str)(t u:Tok)(s:ax)(Q:af->ax->Prop),(∀(v:af)(k:Nat),RelV (g a b) v->Q v { s with toks:=k })->
  aK (aR X.prog X.w) X.A (call (.builtin id) [.str a t,.str b u]) Q X.xe s):iN X id (λx xs H Q=>∃a b,x=.str a/\xs=[.str b]/\Q (g a b) H):=by
 intro ae s σ H x xs v us Q I rx rs h;let#[a,b,rfl,rfl,h]:=h;let#[t,rfl]:=rx;cases rs with
 |cons r1 rs=>
  cases rs;let#[u,rfl]:=r1;show rule a b t u s _ λv k r=>#[g a b,H,I.tok k,r,h]
def RA:iN X "str.startswith" (λx xs H Q=>∃a b,x=.str a/\xs=[.str b]/\Q (.bl (wx a b)) H):=
 Rw (g:=λa b=>.bl (wx a b)) λ_ _ _ _ s _ h=>PySem.SC.startswith (h _ s.toks rfl)
def JJ:iN X "str.endswith" (λx xs H Q=>∃a b,x=.str a/\xs=[.str b]/\Q (.bl (ww a b)) H):=
 Rw (g:=λa b=>.bl (ww a b)) λ_ _ _ _ s _ h=>PySem.SC.endswith (h _ s.toks rfl)
def Zd:mZ X (.type "int") (λxs H Q=>∃a n,xs=[.str a]/\WU a=some n/\a.length<=640/\Q (.int n) H):=by
 intro ae s σ H xs us Q I rs h;let#[a,n,rfl,hn,hl,h]:=h;cases rs with
 |cons r1 rs=>
  cases rs;let#[t,rfl]:=r1;show PySem.W.KIN.call_text hn hl #[.int n,H,I.tok _,#[_,rfl],h]
end
section
variable{X:Cx}{o e:Expr}{to te:TE}
def alF(r:V->List V->Hp->VK->Prop)(to:TE):TE:=λσ H Q=>to σ H λx H1=>u7 x (r x [] H1 Q)
def KI(r:V->List V->Hp->VK->Prop)(to te:TE):TE:=λσ H Q=>to σ H λx H1=>u7 x (te σ H1 λy H2=>r x [y] H2 Q)
def Bs{id:String}{name:Str}{dB pos:Pos}{r:V->List V->Hp->VK->Prop}(slot:Slot "str" name id)(ty:typeOf (.builtin id)=pure (.type "method_descriptor"))(rule:iN X id r)(ho:PE X o to)(nN:qh o name X.env (eval o X.env)=eval o X.env:=by rfl)(nT:(dB.endLine==pos.line)=true:=by rfl):PE X (.Call (.Attribute o name dB) [] [] pos) (alF r to):=by
 intro ae s σ H Q I h;apply PySem.Call_method0 nN nT (dz (ho ae s σ H _ I h) λv s1 x H1 I1 r1 q1=>?_);let#[#[a,rfl],q1]:=u7.ex q1;let#[t,rfl]:=_root_.id r1;show#["str",_,Vs,slot,ty,vD _ _ _,(λ_ e=>nomatch e),FT rfl (WS (rule ae s1 σ H1 _ [] _ [] Q I1 r1 .nil q1))]
def s_{id:String}{name:Str}{dB pos:Pos}{r:V->List V->Hp->VK->Prop}(slot:Slot "str" name id)(ty:typeOf (.builtin id)=pure (.type "method_descriptor"))(rule:iN X id r)(ho:PE X o to)(he:PE X e te)(hs:bJ [e] X.env=[(false,eval e X.env)]:=by rfl)(nN:qh o name X.env (eval o X.env)=eval o X.env:=by rfl)(nT:(dB.endLine==pos.line)=true:=by rfl):
  PE X (.Call (.Attribute o name dB) [e] [] pos) (KI r to te):=by
 intro ae s σ H Q I h;apply PySem.Call_method1 nN hs nT (dz (ho ae s σ H _ I h) λv s1 x H1 I1 r1 q1=>?_);let#[#[a,rfl],q1]:=u7.ex q1;let#[t,rfl]:=_root_.id r1;apply#["str",_,Vs,slot,ty,vD _ _ _,(λ_ e=>nomatch e),FT rfl (Ln (FU ?_))];show dz (he ae s1 σ H1 _ I1 q1) λu s2 y H2 I2 r2 q2=>Lo (rule ae s2 σ H2 _ [y] _ [u] Q I2 r1 (.cons r2 .nil) q2)
def ED{dB pos:Pos}(ho:PE X o to)(he:PE X e te)(hs:bJ [e] X.env=[(false,eval e X.env)]:=by rfl)(nN:qh o "split" X.env (eval o X.env)=eval o X.env:=by rfl)(nT:(dB.endLine==pos.line)=true:=by rfl):
  PE X (.Call (.Attribute o "split" dB) [e] [] pos) (KI (λx xs H Q=>∃a b,x=.str a/\xs=[.str b]/\(b.length==0)=false/\a.length+2<=sizeLine/\yn (lC a b) H Q) to te):=
 s_ FV F.type_str_split ag7 ho he hs nN nT
def Sj{dB pos:Pos}(ho:PE X o to)(he:PE X e te)(hs:bJ [e] X.env=[(false,eval e X.env)]:=by rfl)(nN:qh o "join" X.env (eval o X.env)=eval o X.env:=by rfl)(nT:(dB.endLine==pos.line)=true:=by rfl):
  PE X (.Call (.Attribute o "join" dB) [e] [] pos) (KI (λx xs H Q=>∃a p,∃ys:List Str,x=.str a/\xs=[.ref p]/\(az X.K H p (ys.map V.str)\/bL X.K H p (ys.map V.str))/\
   (ys.map (·.length)).sum+ys.length*a.length<=16777216/\Q (.str (zl a ys)) H) to te):=
 s_ F.slot_str_join F.type_str_join ag5 ho he hs nN nT
end
def IsPart.raw{v:af}{o:Option Int}(p:IsPart v o):∃l:Option (Int×Tok),v=partValue l/\l.map (·.1)=o:=by
 cases p with
 |none=>show#[none,rfl,rfl]
 |int i t=>show#[some (i,t),rfl,rfl]
def zU(n d:Nat):Option Int->Int
 |none=>(d:Int)
 |some i=>max 0 (min (if i<0 then i+(n:Int)else i) (n:Int))
def NJ(n d:Nat)(o:Option Int):zU n d o=((HT.cu n d o:Nat):Int):=by
 cases o with
 |none=>rfl
 |some v=>
  show max (0:Int) (min (if v<0 then v+(n:Int)else v) (n:Int))=(((if v<0 then(v+(n:Int)).toNat else min v.toNat n):Nat):Int);by_cases hv:v<0
  simp![aq hv];omega;simp![ay hv];omega
def ajB(a b:Option Int)(n:Nat):rj a b 1 n=sliceRange (zU n 0 a) (zU n n b) 1:=by
 have h1:((1:Int)>0)=True:=by simp
 cases a<;>cases b<;>first
  |rfl
  |(simp![rj,zU,h1,bz];rfl)
  |simp[rj,zU]
def ajA(a b:Option Int)(n:Nat):rj a b 1 n=(bv (HT.cu n n b-HT.cu n 0 a)).map (λk=>HT.cu n 0 a+k):=by
 rw[ajB,NJ,NJ];generalize HT.cu n 0 a=p;generalize HT.cu n n b=q;simp![sliceRange,show((1:Int)>0)=True from by simp,bz];by_cases hlt:(p:Int)<q
 have e3:(((q:Int)-p+1-1) / 1).toNat=q-p:=by first|omega|(simp;done)|(simp;omega)
 simp![hlt,bz,e3];apply fg λk _=>?_;omega;have:q-p=0:=by omega
 simp[hlt,this]
def uD(z:Str)(lo hi:Option Int):Str:=
 #[((z.cps.toList.drop (HT.cu z.length 0 lo)).take (HT.cu z.length z.length hi-HT.cu z.length 0 lo)).toArray]
def Tt(z:Str)(lo hi:Option Int):zh z lo hi=uD z lo hi:=by
 have h1:HT.cu z.length 0 lo<=z.length:=HT.S6 _ _ (eX _) _;have h2:HT.cu z.length z.length hi<=z.length:=HT.S6 _ _ (bj _) _;have hp:HT.cu z.length 0 lo<=max (HT.cu z.length 0 lo) (HT.cu z.length z.length hi):=Nat.le_max_left _ _;have hq:max (HT.cu z.length 0 lo) (HT.cu z.length z.length hi)<=z.length:=Nat.max_le.mpr #[h1,h2];have aoF:max (HT.cu z.length 0 lo) (HT.cu z.length z.length hi)-HT.cu z.length 0 lo=HT.cu z.length z.length hi-HT.cu z.length 0 lo:=by omega
 have e:rj lo hi 1 z.length=
   rj (some ((HT.cu z.length 0 lo:Nat):Int)) (some ((max (HT.cu z.length 0 lo) (HT.cu z.length z.length hi):Nat):Int)) 1 z.length:=by
  rw[anq hp hq,aoF,ajA]
 have e2:zh z lo hi=
   zh z (some ((HT.cu z.length 0 lo:Nat):Int)) (some ((max (HT.cu z.length 0 lo) (HT.cu z.length z.length hi):Nat):Int)):=by
  unfold zh;rw[e]
 rw[e2,anp z hp hq,aoF];rfl
def Zz(z:Str)(lo hi:Option Int):(uD z lo hi).length<=z.length:=by
 show(((z.cps.toList.drop (HT.cu z.length 0 lo)).take (HT.cu z.length z.length hi-HT.cu z.length 0 lo)).toArray).size<=z.cps.size;rw[fi,ka,jv,l_];omega
def EN:V->Option Int->Option Int->Hp->VK->Prop:=λx lo hi H Q=>∃z,x=.str z/\z.length<=sizeLine/\Q (.str (uD z lo hi)) H
def ajF{X:Cx}:p9 X EN:=by
 intro ae s σ H x v vl vu lo hi sl Q I rx hs pl pu h;let#[z,rfl,hz,q]:=h;let#[t,rfl]:=rx;let#[os,aeL,IM,adY]:=hs;let#[l,rfl,rfl]:=IsPart.raw pl;let#[u,rfl,rfl]:=IsPart.raw pu;apply#["str",_,F.slot_str_getitem.lookup,vD _ _ _,?_];apply wpAny_getItem_str_slice (l:=l) (u:=u) (st:=none) #[os,aeL,IM,adY] rfl ?_;have hl:(zh z (l.map (·.1)) (u.map (·.1))).length<=sizeLine:=by
  rw[Tt];show cp (Zz z _ _) hz
 rw[<-Tt]at q;unfold zh at q hl;show Made.post (if ((1:Int)==1&&(rj (l.map (·.1)) (u.map (·.1)) 1 z.length).length==z.length)=true then Made.val (.str z t)
  else Made.str #[((rj (l.map (·.1)) (u.map (·.1)) 1 z.length).filterMap (z.cps[·]?)).toArray]) (EP X ae σ Q) s
 by_cases c:((1:Int)==1&&(rj (l.map (·.1)) (u.map (·.1)) 1 z.length).length==z.length)=true
 rw[aq c]at q⊢;show#[.str z,H,I,#[t,rfl],q];rw[ay c]at q hl⊢;show#[hl,.str _,H,I.tok _,#[_,rfl],q]
def inClass(s:dt)(j:Nat):dt:=match s with
 | .ClassDef _ _ _ fS _ _ _ _ _ _ _=>fS.getD j (.Pass #[0,0,0,0])
 |_=>.Pass #[0,0,0,0]
def lJ(s:dt):FE:=match s with
 | .FunctionDef _ a _ _ _ _ _ _ _ _=>a
 |_=>{ posonlyargs:=[],args:=[],vararg:=none,kwonlyargs:=[],kw_defaults:=[],kwarg:=none,defaults:=[] }
def jG(s:dt):List dt:=match s with
 | .FunctionDef _ _ b _ _ _ _ _ _ _=>b
 |_=>[]
def eR(s:dt):dS:=match s with
 | .FunctionDef _ _ _ _ _ _ sc _ _ _=>sc
 |_=>{ kind:=.function,names:=[],isGenerator:=false,isCoroutine:=false }
abbrev E0:XK:=λ_ _ _=>False
structure j8 (K:aP)(x qual:Str)(st:dt)(f:aa)(fd:lf):Prop where
 ex:∃(oc:af)(od:Option aa)(kV eq pm:af)(an:Option aa)(cf ct:af)(iF:Array (Option af)),
  fd=kd x qual (lJ st) (jG st) (eR st) .none kV eq pm an cf ct/\K.lookup f=some #[oc,od,.func fd,iF]/\Mr K cf qual=true
 kp:ni K (.ref f)=true
section
variable{P:aZ}{w:aW}{K:aP}{mg:Str->Option af}{base:aL}
def j8.binds{x qual:Str}{st:dt}{f:aa}{fd:lf}{ps:List Str}(F:j8 K x qual st f fd)(h:∀(kV eq pm:af)(an:Option aa)(cf ct:af)(us:List af),us.length=ps.length->qi (kd x qual (lJ st) (jG st) (eR st) .none kV eq pm an cf ct) #[us,[]]=pure (ps.zip us)):Binds K fd ps []:=by
 let#[oc,od,kV,eq,pm,an,cf,ct,iF,rfl,lk,my]:=F.ex;show .all (h kV eq pm an cf ct)
def Il{x qual:Str}{st:dt}{f:aa}{oc:af}{od an:Option aa}{iF:Array (Option af)}{kV eq pm cf ct:af}(l:K.lookup f=some #[oc,od,.func (kd x qual (lJ st) (jG st) (eR st) .none kV eq pm an cf ct),iF])(c:Mr K cf qual=true)(k:ni K (.ref f)=true):j8 K x qual st f (kd x qual (lJ st) (jG st) (eR st) .none kV eq pm an cf ct):=#[#[oc,od,kV,eq,pm,an,cf,ct,iF,rfl,l,c],k]
end
def AT{A:ci}{k:Nat}(hr:dQ k A):A.units+1<cLine:=kb (Nat.add_le_add_left (by decide:1<=64) _) hr.units
section
variable{X:Cx}
def pv(i:Nat){x:Str}{pos:Pos}(hN:X.N[i]? =some x:=by rfl)(hv:uu X.env.scope x:=by first|show yZ rfl|show wm (yZ rfl)|show wm (wm rfl))(aoF:(x==("__debug__":Str))=false:=by decide)(my:(x==("__classdict__":Str))=false:=by decide):PE X (.Name x pos) (BV i):=aiv hN hv aoF my
end
def am(H H':Hp):Prop:=∀b o,H b=some o->H' b=some o
def am.refl(H:Hp):am H H:=λ_ _ h=>h
def am.trans{H H1 H2:Hp}(a:am H H1)(b:am H1 H2):am H H2:=λc o h=>b c o (a c o h)
def am.free{H H':Hp}(e:am H H'){l:aa}(h:H' l=Gs):H l=Gs:=by
 cases q:H l with
 |none=>rfl
 |some o=>
  rw[e l o q]at h;cases h
def am.seq{K:aP}{H H':Hp}{a:aa}{xs:List V}(e:am H H')(h:az K H a xs):az K H' a xs:=by
 rcases h with(h|⟨o,h⟩)|h
 show .inl (.inl (e _ _ h));show .inl (.inr #[o,e _ _ h]);show .inr h
def am.made{H H1:Hp}{x dx C:aa}(nx:H x=Gs)(nd:H dx=Gs)(k:∀b o,(upd (upd H dx (.own x)) x (.ins C dx [])) b=some o->b≠x->H1 b=some o):am H H1:=λb o e=>
 k b o (by rw[aG (bf e nx),aG (bf e nd)];show e) (bf e nx)
structure oB (P:aZ)(w:aW)(outer:List Env)(H H':Hp)(s s':ax)(e C:aa):Prop where
 os:s'.os=s.os
 bare:rg s'.gens
 un:Un (cH outer) [] H H' s.heap s'.heap
 aS:dk P w H' s'.heap
 DF:∃(B:aL)(a0:af),(∀b o,s'.heap.get? b=some o->(H' b≠none\/(b∉cH outer/\∃o',s.heap.get? b=some o'))->B.get? b=some o)/\LA B outer e (.ref C) a0 s'.heap
abbrev c_(P:aZ)(w:aW):md:=λouter H s E e s'=>∃a C H',e=.ref a/\oB P w outer H H' s s' a C/\E (.ref C) none H'
def oh{P:aZ}{w:aW}{X:Cx}:gI (c_ P w) X E0:=λ_ _ _ _ _ _ _ ⟨_,_,_,_,_,h⟩=>h.elim
def dM.there{P:aZ}{w:aW}{H:Hp}{h:aL}{a:aa}{o:HO}(x:dM P w H h a o):∃ob,h.get? a=some ob:=by
 cases o with
 |lst xs=>let#[_,_,_,_,e]:=x;show#[_,e]
 |tup xs=>let#[_,_,_,ob,e,_]:=x;show#[_,e]
 |dK kvs=>let#[_,_,_,_,o,_,_,e,_]:=x;show#[_,e]
 |dT kvs=>let#[_,_,_,_,o,_,_,e,_]:=x;show#[_,e]
 |set S n=>let#[o,_,_,_,e,_]:=x;show#[_,e]
 |ins C dx fs=>let#[_,_,_,e,_]:=x;show#[_,e]
 |own y=>show x
 |xd fs=>let#[_,#[_,_,_,e,_],_]:=x;show#[_,e]
 |Bz lo hi=>let#[_,_,_,e]:=x;show#[_,e]
 |cT ob u=>let#[e,_]:=x;show#[_,e]
 |q5 ps=>show#[_,(show h.get? a=some _ from x)]
 |met f y=>show#[_,(show h.get? a=some _ from x)]
 |ext φ=>let#[_,e,_]:=x;show e
def dk.tracked{P:aZ}{w:aW}{H:Hp}{h h':aL}(x:dk P w H h)(k:∀b o,H b≠none->h.get? b=some o->h'.get? b=some o):dk P w H h':=λa o e=>
 (x a o e).kW (λb u hb q=>k b u (by
  obtain z|z:=hb
  rw[z,e];show nofun;rw[z];show nofun) q) (λ_ q=>q) λ_ _ q=>q
def Un.upTo{fs:List aa}{H H1:Hp}{h h1 h2:aL}(u:Un fs [] H H1 h h1)(k:∀b o,b∉fs->(∃o',h.get? b=some o')->h1.get? b=some o->h2.get? b=some o)(sl:∀b o,b∈fs->h1.get? b=some o->∃sl,h2.get? b=some { o with slots:=sl }):Un fs [] H H1 h h2 where
 keep:=λb o e n hb hx=>k b o hb #[o,e] (u.keep b o e n hb hx)
 slot:=λb o e n hb hx=>by
  let#[s1,e1]:=u.slot b o e n hb hx;let#[s2,e2]:=sl b _ hb e1;show#[s2,e2]
 free:=u.free
 there:=λb o e hx=>by
  let#[o1,e1]:=u.there b o e hx;by_cases hb:b∈fs
  let#[s2,e2]:=sl b _ hb e1;show#[_,e2];show#[_,k b o1 hb #[o,e] e1]
 js:=u.js
 iz:=u.iz
 jr:=u.jr
section
variable{P:aZ}{w:aW}{K:aP}{mg:Str->Option af}{base:aL}{N:List Str}{qual:Str}{aB:dS}{f:aa}{cd:af}{A:ci}{outer:List Env}{s0:ax}{H0:Hp}{E:XK}
def cn:gI (c_ P w) (gR (c_ P w) P w K mg base N qual aB f cd A outer s0 H0 E) E:=by
 rintro ae σ H s e s' I ⟨a,C,H',rfl,F,hE⟩;let#[B,a0,hB,hfl]:=F.DF;show aK (aR P w) (A.deeper (dn qual aB s0.heap.objs.size f cd)) (A6 (dn qual aB s0.heap.objs.size f cd) (.ref a)) _ _ s';have jK:(A.deeper (dn qual aB s0.heap.objs.size f cd)).frames=some (dn qual aB s0.heap.objs.size f cd::outer):=I.ok.frames;have kE:Un (cH outer) [] H0 H s0.heap s.heap:=I.base;have above:∀b o,s0.heap.get? b=some o->b≠s0.heap.objs.size:=λb o e=>dZ (cK e);have Qq:Un (cH outer) [] H0 H' s0.heap s'.heap:=by
  have fr:∀b o,s0.heap.get? b=some o->b∉cH outer->b∉cH (dn qual aB s0.heap.objs.size f cd::outer):=λb o e hb hm=>by
   have hm:b∈s0.heap.objs.size::cH outer:=hm;rcases iM.mp hm with z|z
   show above b o e z;show hb z
  have any:∀b o,s0.heap.get? b=some o->H0 b=none->∃sl,s'.heap.get? b=some { o with slots:=sl }:=λb o e n=>by
   let#[s1,e1]:=kE.any e n ();let#[s2,e2]:=F.un.any e1 (kE.free b o e n ()) ();show#[s2,e2]
  apply#[λb o e n hb _=>?_,λb o e n _ _=>any b o e n,λb o e n _=>?_,λb o e _=>?_,λb xs q=>F.un.js b xs (kE.js b xs q),λb o u q=>F.un.iz b o u (kE.iz b o u q),λb ps q=>?_];show F.un.keep b o (kE.keep b o e n hb ()) (kE.free b o e n ()) (fr b o e hb) ();let#[o1,e1]:=kE.there b o e ();show F.un.free b o1 e1 (kE.free b o e n ()) ();let#[o1,e1]:=kE.there b o e ();show F.un.there b o1 e1 ();let#[m1,e1]:=kE.jr b ps q;let#[m2,e2]:=F.un.jr b _ e1;show#[m1++m2,by rw[e2,B3]]
 apply wpAny_leaves_onW jK rfl hfl λh' PV up=>#[a,C,H',rfl,?_,hE];have A1:∀b o,s'.heap.get? b=some o->(H' b≠none\/(b∉cH outer/\∃o',s0.heap.get? b=some o'))->B.get? b=some o:=λb o e hb=>by
  apply hB b o e ?_;rcases hb with z|⟨z,o',z'⟩
  show .inl z;apply .inr #[λhm=>?_,kE.there b o' z' ()];have hm:b∈s0.heap.objs.size::cH outer:=hm;rcases iM.mp hm with y|y
  show above b o' z' y;show z y
 have kept:∀b o,(H' b≠none\/(b∉cH outer/\∃o',s0.heap.get? b=some o'))->s'.heap.get? b=some o->h'.get? b=some o:=λb o hb e=>PV.1 b o (A1 b o e hb);apply#[F.os.trans I.os,F.bare,?_,F.aS.tracked λb o hb e=>kept b o (.inl hb) e,B,a0,λb o e hb=>?_,PV];apply Qq.upTo (λb o hb hx e=>kept b o (.inr #[hb,hx]) e) λb o hb e=>up b o e ?_;let#[_,o2,e2,d2]:=hfl.2.2.1.mem (show b∈(dn qual aB s0.heap.objs.size f cd::outer).filterMap (·.frame) from bp _ hb);rw[e]at e2;cases e2;show d2
 ·
  have:∃o1,s'.heap.get? b=some o1:=by
   rcases hb with z|⟨_,o',z'⟩
   let#[u,hu]:=Option.ne_none_iff_exists'.mp z;show(F.aS b u hu).there;show Qq.there b o' z' ()
  let#[o1,e1]:=this;have e2:=kept b o1 hb e1;rw[e]at e2;cases e2;show A1 b o e1 hb
def aga{ae:List (aa×Obj)}{σ:St}{H:Hp}{s:ax}{h':aL}{a C:aa}{vs:List af}(I:Inv (gR (c_ P w) P w K mg base N qual aB f cd A outer s0 H0 E) ae σ H s)(hx:Vy s.heap h' a (.ref C) vs)(hE:E (.ref C) none H):
  (gR (c_ P w) P w K mg base N qual aB f cd A outer s0 H0 E).xe (.ref a) { s with heap:=h' }:=by
 show aK (aR P w) (A.deeper (dn qual aB s0.heap.objs.size f cd)) (A6 (dn qual aB s0.heap.objs.size f cd) (.ref a)) _ _ { s with heap:=h' };have jK:(A.deeper (dn qual aB s0.heap.objs.size f cd)).frames=some (dn qual aB s0.heap.objs.size f cd::outer):=I.ok.frames;have kE:Un (cH outer) [] H0 H s0.heap s.heap:=I.base;have above:∀b o,s0.heap.get? b=some o->b≠s0.heap.objs.size:=λb o e=>dZ (cK e);have Qo:s.heap.FunFrames base (dn qual aB s0.heap.objs.size f cd::outer):=I.stack;have aeh:∀env∈(dn qual aB s0.heap.objs.size f cd::outer),∀b,env.frame=some b->b∈cH (dn qual aB s0.heap.objs.size f cd::outer):=λenv he b hb=>List.mem_filterMap.mpr #[env,he,hb];generalize hB:Mt s.heap (cH (dn qual aB s0.heap.objs.size f cd::outer))=B;have jI:s.heap.FunFrames B (dn qual aB s0.heap.objs.size f cd::outer):=by rw[<-hB];show PySem.W.funFrames_hide Qo aeh
 have A1:∀b o,s.heap.get? b=some o->(H b≠none\/(b∉cH outer/\∃o',s0.heap.get? b=some o'))->B.get? b=some o:=λb o e hb=>by
  rw[<-hB];apply Mu _ e λhm=>?_;rcases hb with z|⟨z,o',z'⟩
  show z (I.Kv b hm);have hm:b∈s0.heap.objs.size::cH outer:=hm;rcases iM.mp hm with y|y
  show above b o' z' y;show z y
 apply wpAny_leaves_madeW (base:=B) (h:=s.heap) jK rfl (λb o e=>by rw[<-hB]at e;show My _ e) jI hx λph t hfl ht hn up=>#[a,C,H,rfl,?_,hE];have kept:∀b o,(H b≠none\/(b∉cH outer/\∃o',s0.heap.get? b=some o'))->s.heap.get? b=some o->ph.get? b=some o:=λb o hb e=>hfl.1 b o (A1 b o e hb);apply#[I.os,I.bare,?_,I.aS.tracked λb o hb e=>kept b o (.inl hb) e,B,.ref t,λb o e hb=>?_,hfl];apply kE.upTo (λb o hb hx e=>kept b o (.inr #[hb,hx]) e) λb o hb e=>up b o (hx.keeps b o e) ?_;let#[_,o2,e2,d2]:=Qo.mem (show b∈(dn qual aB s0.heap.objs.size f cd::outer).filterMap (·.frame) from bp _ hb);rw[e]at e2;cases e2;show d2;have:∃o1,s.heap.get? b=some o1:=by
  rcases hb with z|⟨_,o',z'⟩
  let#[u,hu]:=Option.ne_none_iff_exists'.mp z;show(I.aS b u hu).there;show kE.there b o' z' ()
 let#[o1,e1]:=this;have e2:=kept b o1 hb e1;rw[e]at e2;cases e2;show A1 b o e1 hb
end
structure tW (K:aP)(mg:Str->Option af)(x:Str)(C:aa):Prop where
 bound:mg x=some (.ref C)
 exc:∃(B x8 QF:String)(bm:List af),ExcBaseFacts B x8 QF bm/\Gz K C bm x8=true
def Rz(X:Cx)(E:XK):Prop:=∀(ae:List (aa×Obj))(σ:St)(H:Hp)(s:ax)(h':aL)(a C:aa),Inv X ae σ H s->Vy s.heap h' a (.ref C) []->E (.ref C) none H->X.xe (.ref a) { s with heap:=h' }
def alL(C:aa)(E:XK):TS:=λ_ _ H=>E (.ref C) none H
def aid{K:aP}{mg:Str->Option af}{h:aL}{x:Str}{C:aa}{Nr:List af}{x8:String}(X:K.In h)(hm:mg x=some (.ref C))(q:Gz K C Nr x8=true):OwnCls x C Nr x8 mg h:=by
 constructor;show hm
 revert q
 unfold Gz;cases hk:K.lookup C with
 |none=>intro z;cases z
 |some ob=>
  let#[oc,od,ahZ,iF]:=ob;split
  ·next z1 z2 z3 z4 z5=>
   cases z5;split
   ·next y1 y2 y3 y4 y5 y6 y7 y8 y9 am8=>
    intro r;simp![bS,gO,pX]at r;let#[#[#[#[#[r1,r2],r3],r4],r5],r6]:=r;let#[c1,c2,c3,c4,c5,c6,c7,c8,c9,Y5,Y6]:=z3;have ey:c3=.ref y1::y2:=y9;have ed:Y6=false:=r3;have es:iF= (List.toArray [y3,y4,y5,y6,some (.builtin y7),y8]):=Array.toList_inj.mp am8;subst ey ed es r1 r2;show#[y2,c4,c1,c5,c2,c6,c7,c8,c9,Y5,od,y3,y4,y5,y6,y8,h.nsMap c4,X _ _ hk,.of_isNs (PySem.W.isNs_of_in X r5),PySem.W.nsMap_none_of_in X r5 r6,PySem.W.tail_of_in X r4]
   intro z;cases z
  intro z;cases z
def eG{X:Cx}{E:XK}{x:Str}{C:aa}{np gr pos:Pos}(O:tW X.K X.mg x C)(hR:Rz X E)(hc:X.calm=true)(hg:Gl X x)(aoF:(x==("__debug__":Str))=false:=by decide):PS X (.Raise (some (.Call (.Name x np) [] [] gr)) none pos) (alL C E):=by
 intro ae s σ H D I h;let#[B,x8,QF,bm,FB,q]:=O.exc;let#[tl,N,nm,qn,bs,hdct,sn,sub,ab,col,dd,k0,k1,k2,k3,k5,mN,hC,hN,aeE,T]:=(aid I.gu O.bound q).obj;apply wpAny_Raise_call_subT (C:=C) (nm:=nm) (q:=qn) (N:=N) (bs:=bs) (bm:=tl) (hdct:=hdct) (sn:=sn) (sub:=sub) (ab:=ab) (col:=col) (dd:=dd) (k0:=k0) (k1:=k1) (k2:=k2) (k3:=k3) (k5:=k5)
  FB (mN:=mN) (T.hasType FB.hasBase) (I.ok.aoF hc) rfl aeE (xS I hg O.bound #[rfl,?_] aoF)
 show evalArgs_empty #[rfl,eX _,hC,hN,T,λh' e hm=>hR ae σ H s h' e C I hm h]
def eI{P:aZ}{w:aW}{K:aP}{mg:Str->Option af}{base:aL}{N:List Str}{qual:Str}{aB:dS}{f:aa}{cd:af}{A:ci}{outer:List Env}{s0:ax}{H0:Hp}{E:XK}:Rz (gR (c_ P w) P w K mg base N qual aB f cd A outer s0 H0 E) E:=
 λ_ _ _ _ _ _ _ I hm hE=>aga I hm hE
def gw{P:aZ}{w:aW}{K:aP}{mg:Str->Option af}{base:aL}{N:List Str}{qual:Str}{aB:dS}{f:aa}{cd:af}{A:ci}{outer:List Env}{s0:ax}{H0:Hp}{E:XK}:
  PassesOwn (aR P w) (gR (c_ P w) P w K mg base N qual aB f cd A outer s0 H0 E).A (gR (c_ P w) P w K mg base N qual aB f cd A outer s0 H0 E).env (gR (c_ P w) P w K mg base N qual aB f cd A outer s0 H0 E).xe:=PassesOwn.leaving
def j8.yb{P:aZ}{w:aW}{K:aP}{mg:Str->Option af}{base:aL}{x qual:Str}{st:dt}{f:aa}{fd:lf}{N ps:List Str}{k:Nat}{sp:Sp}(F:j8 K x qual st f fd)(S:le N ps (eR st))(len:∀vs H Q E,sp vs H Q E->vs.length=ps.length)(IG:∀(cf:af)(A:ci)(outer:List Env)(s:ax)(H:Hp)(vs:List V)(Q:VK)(E:XK),dQ k (A.deeper (dn qual (eR st) s.heap.objs.size f cf))->sp vs H Q E->
   ∃t,lA (gR (c_ P w) P w K mg base N qual (eR st) f cf A outer s H E) (jG st) t/\t { nx:=λ_ H'=>Q .bn H',rt:=Q } (start N vs) H):ff P w K mg base (c_ P w) (k+1) f fd ps sp:=by
 let#[oc,od,kV,eq,pm,an,cf,ct,iF,rfl,lk,my]:=F.ex;show O_ lk my S len λA outer s H vs Q E hr sA=>IG cf A outer s H vs Q E hr sA
abbrev Cx.about(X:Cx)(A:ci)(calm:Bool)(pn:List (aa×Obj))(E:af->ax->Prop):Cx:={ X with A:=A,calm:=calm,pn:=pn,xe:=E }
section
variable{X:Cx}{ae pn:List (aa×Obj)}{σ:St}{H:Hp}{s:ax}{E:af->ax->Prop}{A:ci}{c:Bool}
def Cx.Ok.about(ok:X.Ok)(hf:A.frames=X.A.frames)(hc:c=true->A.handled=none):(X.about A c pn E).Ok:=
 #[ok.mod,ok.kind,ok.glob,ok.blt,ok.above,ok.inj,ok.has,ok.zO,hc,hf.trans ok.frames,ok.yw,ok.DA,ok.bs,ok.nE,ok.Bl,ok.Ac,ok.mr,ok.uJ]
def Inv.about(I:Inv X ae σ H s)(hf:A.frames=X.A.frames)(hc:c=true->A.handled=none):Inv (X.about A c (X.pn++ae) E) [] σ H s:=
 #[I.ok.about hf hc,I.os,I.bare,I.base,I.loc,I.cell,I.free,I.kx,λp hp=>I.pin p (by simpa using hp),I.aS,I.len]
def Inv.ou{pl:List (aa×Obj)}(ok:X.Ok)(I:Inv (X.about A c (X.pn++ae) E) pl σ H s):Inv X ae σ H s:=
 #[ok,I.os,I.bare,I.base,I.loc,I.cell,I.free,I.kx,λp hp=>I.pin p (wb _ hp),I.aS,I.len]
theorem SP.ou{pl:List (aa×Obj)}{D:m7}{f:Flow}{s':ax}(ok:X.Ok)(h:SP (X.about A c (X.pn++ae) E) pl D f s'):SP X ae D f s':=by
 cases f with
 |next=>let#[σ',H',I,q]:=h;show#[σ',H',I.ou ok,q]
 |brk=>let#[σ',H',I,q]:=h;show#[σ',H',I.ou ok,q]
 |cont=>let#[σ',H',I,q]:=h;show#[σ',H',I.ou ok,q]
 |ret u=>let#[v,σ',H',I,r,q]:=h;show#[v,σ',H',I.ou ok,r,q]
end
def wU(N:List Str):St:=nc N.length none
inductive Hd (X:Cx):List yN->List (aa×TS)->Prop
 |nil:Hd X [] []
 |cons {x:Str} {C:aa} {np pos:Pos} {b0:dt} {KA:List dt} {t:TS} {bE:List yN} {l:List (aa×TS)} (hm:X.mg x=some (.ref C)) (hg:Gl X x) (aoF:(x==("__debug__":Str))=false)
   (hs:∀(A:ci)(pn:List (aa×Obj))(E:af->ax->Prop),lA (X.about A false pn E) (b0::KA) t) (hr:Hd X bE l) (h1:fK X.K (.ref C) (.ref C)=some true) (h2:∀p∈l,fK X.K (.ref p.1) (.ref C)=some false):
   Hd X (.ExceptHandler (some (.Name x np)) none (b0::KA) pos::bE) ((C,t)::l)
section
variable{X:Cx}{ae:List (aa×Obj)}{σ:St}{H H':Hp}{s s':ax}{e C:aa}{D:m7}
def oB.more{P:aZ}{w:aW}{outer:List Env}(F:oB P w outer H H' s s' e C){B h':aL}{a0:af}(hB:∀b o,s'.heap.get? b=some o->(H' b≠none\/(b∉cH outer/\∃o',s.heap.get? b=some o'))->B.get? b=some o)(qy:s'.heap.FunFrames B outer)(hfl:LA B outer e (.ref C) a0 h')(up:s'.heap.UpToSlots h'):oB P w outer H H' s { s' with heap:=h' } e C:=by
 have kept:∀b o,(H' b≠none\/(b∉cH outer/\∃o',s.heap.get? b=some o'))->s'.heap.get? b=some o->h'.get? b=some o:=λb o hb e=>hfl.1 b o (hB b o e hb);apply#[F.os,F.bare,?_,F.aS.tracked λb o hb e=>kept b o (.inl hb) e,B,a0,λb o e1 hb=>?_,hfl];apply F.un.upTo (λb o hb hx e=>kept b o (.inr #[hb,hx]) e) λb o hb e=>up b o e ?_;let#[_,o2,e2,d2]:=qy.mem hb;rw[e]at e2;cases e2;show d2;have:∃o1,s'.heap.get? b=some o1:=by
  rcases hb with z|⟨_,o',z'⟩
  let#[u,hu]:=Option.ne_none_iff_exists'.mp z;show(F.aS b u hu).there;show F.un.there b o' z' ()
 let#[o1,q1]:=this;have e2:=kept b o1 hb q1;have e1:h'.get? b=some o:=e1;rw[e1]at e2;cases e2;show hB b o q1 hb
def oB.inv(F:oB X.prog X.w X.stack H H' s s' e C)(I:Inv X ae σ H s):Inv X ae σ H' s':=I.NA (ch:=[]) F.os F.un F.aS F.bare λb z=>absurd z ()
def adD{hs:List yN}{l:List (aa×TS)}(aoF:Hd X hs l)(I:Inv X ae σ H s)(hf:X.env.frame=some X.env.locals)(e7:X.stack=X.env::X.outer):
  ∀{s':ax},oB X.prog X.w X.stack H H' s s' e C->(∃t,(C,t)∈l/\t D (wU X.N) H')->aK (aR X.prog X.w) X.A (handleBy (.ref e) X.env hs) (SP X ae D) X.xe s':=by
 induction aoF with
 |nil=>rintro s' F ⟨t,m,_⟩;cases m
 |@cons x C1 np pos b0 KA t1 bE l hm hg hG aeW hr h1 h2 ih=>
  rintro s' F ⟨t,m,q⟩;have I':=F.inv I;have Im:Inv (X.about (X.A.mark (some (.ref e))) false (X.pn++ae) (jQ (aR X.prog X.w) (X.A.mark (some (.ref e))) X.env (cameBackBy (aR X.prog X.w) X.A X.env X.xe))) [] σ H' s':=I'.about rfl (by intro z;cases z);let#[B,a0,hB,hfl]:=F.DF;let#[ob,aeI,aeJ]:=hfl.there;have LT:PySem.W.Looks (aR X.prog X.w) s'.heap (typeOf (.ref e)) (.ref C):=by
   rw[<-aeJ];show(ans aeI).andThen .now
  apply wpAny_handleBy_cons (codeAny_handlers_test (xS (X:=X.about (X.A.mark (some (.ref e))) false (X.pn++ae) _) Im hg hm ?_ hG)) (by intro q;cases q);rcases iM.mp m with z|z
  cases z;apply(WL I'.gu LT h1).here ?_;apply codeAny_handlers_suite (lands_againW hfl λh6 ad8 KZ=>?_);have F6:=F.more hB hfl.2.2.1 ad8 KZ;have I6:=F6.inv I;have VD:Inv (X.about (X.A.mark (some (.ref e))) false (X.pn++ae) (jQ (aR X.prog X.w) (X.A.mark (some (.ref e))) X.env (cameBackBy (aR X.prog X.w) X.A X.env X.xe))) [] (wU X.N) H' { s' with heap:=h6 }:=by
   apply(Inv.weak (σ':=wU X.N) I6 ?_ ?_).about rfl (by intro z;cases z);rw[I6.len];show V7;intro i v z;unfold wU at z;rw[V1]at z;split at z<;>cases z
  show cI (aeW _ _ _ [] _ (wU X.N) H' D VD q) λf s7 q7=>q7.ou I.ok;apply(WL I'.gu LT (h2 _ z)).here ?_;show ih F #[t,z,q]
def alR(N:List Str)(l:List (aa×TS))(tb:XK->TS):TS:=λD σ H=>tb (λc _ H'=>∃C t,c=.ref C/\(C,t)∈l/\t D (wU N) H') D σ H
def aiD{fS:List dt}{hs:List yN}{h0:yN}{l:List (aa×TS)}{tb:XK->TS}{pos:Pos}(hf:X.env.frame=some X.env.locals)(e7:X.stack=X.env::X.outer)(aoF:Hd X (h0::hs) l)(hb:∀(pn:List (aa×Obj))(xe:af->ax->Prop)(Eb:XK),gI (c_ X.prog X.w) (X.about X.A X.calm pn xe) Eb->lA (X.about X.A X.calm pn xe) fS (tb Eb)):
  PS X (.Try fS (h0::hs) [] [] pos) (alR X.N l tb):=by
 intro ae s σ H D I h;apply wpAny_Try_except ?_;have Ia:=I.about (A:=X.A) (c:=X.calm) (E:=λe s1=>aK (aR X.prog X.w) X.A (u4 e X.env) (λ_ s2=>aK (aR X.prog X.w) X.A (setFlight e none) (λ_ s3=>aK (aR X.prog X.w) X.A (handleBy e X.env (h0::hs)) (SP X ae D) X.xe s3) X.xe s2) X.xe s1) rfl I.ok.aoF;apply mW (hb (X.pn++ae) _ _ ?_ [] s σ H D Ia h) (λf s1 q=>?_) λ_ _ z=>z;rintro pl σ1 H1 s1 e s1' J ⟨a,C,H',rfl,F,C',t,ec,m,q⟩;cases ec;have J':Inv X ae σ1 H1 s1:=J.ou I.ok;have F:oB X.prog X.w X.stack H1 H' s1 s1' a C:=F;let#[B,a0,hB,hfl]:=F.DF;show aK (aR X.prog X.w) X.A (u4 (.ref a) X.env) _ X.xe s1';have hfl0:=hfl;rw[e7]at hfl0;apply wpAny_looks_onW (by rw[I.ok.frames,e7]) hf hfl0 λh4 aed KY=>?_;apply wpAny_landsW aed λh5 PX amM=>?_;rw[<-e7]at PX;show adD aoF J' hf e7 (F.more hB hfl.2.2.1 PX (KY.trans amM)) #[t,m,q];cases f with
 |next=>show Fq (q.ou I.ok)
 |brk=>show q.ou I.ok
 |cont=>show q.ou I.ok
 |ret v=>show q.ou I.ok
end
def boot_len:jf "len"=some (.builtin "len"):=rfl
def boot_any:jf "any"=some (.builtin "any"):=rfl
def boot_all:jf "all"=some (.builtin "all"):=rfl
def boot_ord:jf "ord"=some (.builtin "ord"):=rfl
def boot_int:jf "int"=some (.type "int"):=rfl
def a_(K:aP)(mg:Str->Option af)(x:Str)(st:dt):Prop:=∃f fd,j8 K x x st f fd/\mg x=some (.ref f)
def MethAt(K:aP)(C:aa)(m qual:Str)(st:dt):Prop:=∃f fd,j8 K m qual st f fd/\yX K C m f
def ClsAt(K:aP)(mg:Str->Option af)(x:Str)(C:aa)(qual:Str)(st:dt):Prop:=∃f fd,j8 K "__init__" qual st f fd/\Mk K C f/\mg x=some (.ref C)
structure aV (P:aZ)(w:aW)(K:aP)(mg:Str->Option af)(base:aL)(x:Str)(k:Nat)(ps:List Str)(sp:Sp):Prop where
 ex:∃f fd,ff P w K mg base (c_ P w) k f fd ps sp/\mg x=some (.ref f)/\ni K (.ref f)=true/\Binds K fd ps []
structure ly (P:aZ)(w:aW)(K:aP)(mg:Str->Option af)(base:aL)(C:aa)(m:Str)(k:Nat)(ps:List Str)(sp:Sp):Prop where
 cls:eU K C
 ex:∃f fd,ff P w K mg base (c_ P w) k f fd ps sp/\yX K C m f/\Binds K fd ps []
structure oz (P:aZ)(w:aW)(K:aP)(mg:Str->Option af)(base:aL)(x:Str)(C:aa)(k:Nat)(ps:List Str)(sp:Sp):Prop where
 ex:∃f fd,ff P w K mg base (c_ P w) k f fd ps sp/\Mk K C f/\mg x=some (.ref C)/\Binds K fd ps []
section
variable{P:aZ}{w:aW}{K:aP}{mg:Str->Option af}{base:aL}
def Dv{x:Str}{st:dt}{k:Nat}{ps:List Str}{sp:Sp}(D:a_ K mg x st)(hb:∀(kV eq pm:af)(an:Option aa)(cf ct:af)(us:List af),us.length=ps.length->qi (kd x x (lJ st) (jG st) (eR st) .none kV eq pm an cf ct) #[us,[]]=pure (ps.zip us))(ok:∀f fd,j8 K x x st f fd->ff P w K mg base (c_ P w) k f fd ps sp):aV P w K mg base x k ps sp:=
 let ⟨f,fd,F,hm⟩:=D
 #[f,fd,ok f fd F,hm,F.kp,F.binds hb]
def agN{C:aa}{m qual:Str}{st:dt}{k:Nat}{ps:List Str}{sp:Sp}(c:eU K C)(D:MethAt K C m qual st)(hb:∀(kV eq pm:af)(an:Option aa)(cf ct:af)(us:List af),us.length=ps.length->qi (kd m qual (lJ st) (jG st) (eR st) .none kV eq pm an cf ct) #[us,[]]=pure (ps.zip us))(ok:∀f fd,j8 K m qual st f fd->ff P w K mg base (c_ P w) k f fd ps sp):ly P w K mg base C m k ps sp:=
 let ⟨f,fd,F,hm⟩:=D
 #[c,f,fd,ok f fd F,hm,F.binds hb]
def Zl{x:Str}{C:aa}{qual:Str}{st:dt}{k:Nat}{ps:List Str}{sp:Sp}(D:ClsAt K mg x C qual st)(hb:∀(kV eq pm:af)(an:Option aa)(cf ct:af)(us:List af),us.length=ps.length->qi (kd "__init__" qual (lJ st) (jG st) (eR st) .none kV eq pm an cf ct) #[us,[]]=pure (ps.zip us))(ok:∀f fd,j8 K "__init__" qual st f fd->ff P w K mg base (c_ P w) k f fd ps sp):oz P w K mg base x C k ps sp:=
 let ⟨f,fd,F,M,hm⟩:=D
 #[f,fd,ok f fd F,M,hm,F.binds hb]
def Tg(N ps:List Str)(sc:dS):Bool:=decide (sc.kind=.function)&&(!sc.isCoroutine&&(!sc.isGenerator&&(decide N.Nodup&&(decide (N.take ps.length=ps)&&(ps.all (λx=>decide (sc.names.lookup x=some .local)||decide (sc.names.lookup x=some .cell))&&sc.names.all λy=>decide (y.2≠.free))))))
def qZ(N ps:List Str)(st:dt)(h:Tg N ps (eR st)=true):le N ps (eR st):=by
 unfold Tg at h;simp![bS,bw,pX,eW,ox]at h;let#[h1,h2,h3,h4,h5,h6,h7]:=h;show#[h1,h2,h3,h4,h5,h6,h7]
abbrev FF(P:aZ)(w:aW)(K:aP)(mg:Str->Option af)(base:aL)(qual:Str)(st:dt)(k:Nat)(N:List Str)(sp:Sp):Prop:=
 ∀(f:aa)(cf:af)(A:ci)(outer:List Env)(s:ax)(H:Hp)(vs:List V)(Q:VK)(E:XK),dQ k (A.deeper (dn qual (eR st) s.heap.objs.size f cf))->N.Nodup->sp vs H Q E->
  ∃t,lA (gR (c_ P w) P w K mg base N qual (eR st) f cf A outer s H E) (jG st) t/\t { nx:=λ_ H'=>Q .bn H',rt:=Q } (start N vs) H
def agr{p:List af->Prop}(h:p [])(us:List af)(hl:us.length=0):p us:=by
 cases us with|nil=>show h|cons _ _=>cases hl
def Ei{p:List af->Prop}(h:∀a,p [a])(us:List af)(hl:us.length=1):p us:=by
 cases us with|nil=>cases hl|cons a us=>?_
 cases us with|nil=>show h a|cons _ _=>cases hl
def A_{p:List af->Prop}(h:∀a b,p [a,b])(us:List af)(hl:us.length=2):p us:=by
 cases us with|nil=>cases hl|cons a us=>?_
 cases us with|nil=>cases hl|cons b us=>?_
 cases us with|nil=>show h a b|cons _ _=>cases hl
def Jz{p:List af->Prop}(h:∀a b c,p [a,b,c])(us:List af)(hl:us.length=3):p us:=by
 cases us with|nil=>cases hl|cons a us=>?_
 cases us with|nil=>cases hl|cons b us=>?_
 cases us with|nil=>cases hl|cons c us=>?_
 cases us with|nil=>show h a b c|cons _ _=>cases hl
def Rf{p:List af->Prop}(h:∀a b c d,p [a,b,c,d])(us:List af)(hl:us.length=4):p us:=by
 cases us with|nil=>cases hl|cons a us=>?_
 cases us with|nil=>cases hl|cons b us=>?_
 cases us with|nil=>cases hl|cons c us=>?_
 cases us with|nil=>cases hl|cons d us=>?_
 cases us with|nil=>show h a b c d|cons _ _=>cases hl
def ags{p:List af->Prop}(h:∀a b c d e,p [a,b,c,d,e])(us:List af)(hl:us.length=5):p us:=by
 cases us with|nil=>cases hl|cons a us=>?_
 cases us with|nil=>cases hl|cons b us=>?_
 cases us with|nil=>cases hl|cons c us=>?_
 cases us with|nil=>cases hl|cons d us=>?_
 cases us with|nil=>cases hl|cons e us=>?_
 cases us with|nil=>show h a b c d e|cons _ _=>cases hl
def bd{x:Str}{st:dt}{k:Nat}{ps:List Str}{sp:Sp}(D:a_ K mg x st)(N:List Str)(fS:FF P w K mg base x st k N sp)(hb:∀(kV eq pm:af)(an:Option aa)(cf ct:af)(us:List af),us.length=ps.length->qi (kd x x (lJ st) (jG st) (eR st) .none kV eq pm an cf ct) #[us,[]]=pure (ps.zip us):=by
   first|show(λ_ _ _ _ _ _=>Ei λ_=>rfl)|show(λ_ _ _ _ _ _=>A_ λ_ _=>rfl)|show(λ_ _ _ _ _ _=>Jz λ_ _ _=>rfl)|show(λ_ _ _ _ _ _=>agr rfl)|show(λ_ _ _ _ _ _=>Rf λ_ _ _ _=>rfl))(len:∀vs H Q E,sp vs H Q E->vs.length=ps.length:=by
   intro vs H Q E h;first|(let#[_,rfl,_]:=h;rfl)|(let#[_,_,rfl,_]:=h;rfl)|(let#[_,_,_,rfl,_]:=h;rfl)|(let#[_,_,_,_,rfl,_]:=h;rfl)|(let#[_,_,_,_,_,rfl,_]:=h;rfl)|(let#[_,_,_,_,_,_,rfl,_]:=h;rfl)|(let#[_,_,_,_,_,_,_,rfl,_]:=h;rfl)|(let#[_,_,_,_,_,_,_,_,rfl,_]:=h;rfl)|(let#[_,_,_,_,_,_,_,_,_,rfl,_]:=h;rfl))(S:le N ps (eR st):=by show qZ _ _ _ (by decide+kernel)):aV P w K mg base x (k+1) ps sp:=
 Dv D hb λf fd F=>F.yb S len λcf A outer s H vs Q E hr h=>fS f cf A outer s H vs Q E hr S.nd h
def qO{C:aa}{m qual:Str}{st:dt}{k:Nat}{ps:List Str}{sp:Sp}(c:eU K C)(D:MethAt K C m qual st)(N:List Str)(fS:FF P w K mg base qual st k N sp)(hb:∀(kV eq pm:af)(an:Option aa)(cf ct:af)(us:List af),us.length=ps.length->qi (kd m qual (lJ st) (jG st) (eR st) .none kV eq pm an cf ct) #[us,[]]=pure (ps.zip us):=by
   first|show(λ_ _ _ _ _ _=>Ei λ_=>rfl)|show(λ_ _ _ _ _ _=>A_ λ_ _=>rfl)|show(λ_ _ _ _ _ _=>Jz λ_ _ _=>rfl))(len:∀vs H Q E,sp vs H Q E->vs.length=ps.length:=by
   intro vs H Q E h;first|(let#[_,rfl,_]:=h;rfl)|(let#[_,_,rfl,_]:=h;rfl)|(let#[_,_,_,rfl,_]:=h;rfl)|(let#[_,_,_,_,rfl,_]:=h;rfl)|(let#[_,_,_,_,_,rfl,_]:=h;rfl)|(let#[_,_,_,_,_,_,rfl,_]:=h;rfl)|(let#[_,_,_,_,_,_,_,rfl,_]:=h;rfl)|(let#[_,_,_,_,_,_,_,_,rfl,_]:=h;rfl))(S:le N ps (eR st):=by show qZ _ _ _ (by decide+kernel)):ly P w K mg base C m (k+1) ps sp:=
 agN c D hb λf fd F=>F.yb S len λcf A outer s H vs Q E hr h=>fS f cf A outer s H vs Q E hr S.nd h
def uC{x:Str}{C:aa}{qual:Str}{st:dt}{k:Nat}{ps:List Str}{sp:Sp}(D:ClsAt K mg x C qual st)(N:List Str)(fS:FF P w K mg base qual st k N sp)(hb:∀(kV eq pm:af)(an:Option aa)(cf ct:af)(us:List af),us.length=ps.length->qi (kd "__init__" qual (lJ st) (jG st) (eR st) .none kV eq pm an cf ct) #[us,[]]=pure (ps.zip us):=by
   first|show(λ_ _ _ _ _ _=>A_ λ_ _=>rfl)|show(λ_ _ _ _ _ _=>Jz λ_ _ _=>rfl)|show(λ_ _ _ _ _ _=>Rf λ_ _ _ _=>rfl)|show(λ_ _ _ _ _ _=>ags λ_ _ _ _ _=>rfl))(len:∀vs H Q E,sp vs H Q E->vs.length=ps.length:=by
   intro vs H Q E h;first|(let#[_,rfl,_]:=h;rfl)|(let#[_,_,rfl,_]:=h;rfl)|(let#[_,_,_,rfl,_]:=h;rfl)|(let#[_,_,_,_,rfl,_]:=h;rfl)|(let#[_,_,_,_,_,rfl,_]:=h;rfl)|(let#[_,_,_,_,_,_,rfl,_]:=h;rfl))(S:le N ps (eR st):=by show qZ _ _ _ (by decide+kernel)):oz P w K mg base x C (k+1) ps sp:=
 Zl D hb λf fd F=>F.yb S len λcf A outer s H vs Q E hr h=>fS f cf A outer s H vs Q E hr S.nd h
end
section
variable{X:Cx}{k:Nat}{C:aa}{ps:List Str}{sp:Sp}{E:XK}{x m:Str}{p pos dB:Pos}{e o:Expr}{es:List Expr}{ta:TE}{t:TA}
def iI(G:aV X.prog X.w X.K X.mg X.base x k ps sp)(hr:dQ k X.A)(hx:gI (c_ X.prog X.w) X E)(hg:Gl X x)(ha:PA X (e::es) t)(hG:(x==("__debug__":Str))=false:=by decide)(he:bJ (e::es) X.env=(false,eval e X.env)::bJ es X.env:=by rfl)(hpl:(eL pos (bJ es X.env)).any (·.1)=false:=by rfl):PE X (.Call (.Name x p) (e::es) [] pos) (BU sp [] E t):=by
 let#[f,fd,F,hm,hk,hb]:=G.ex;show aig F hr hg hm hk hb .nil hx ha hG he hpl
def tj(G:oz X.prog X.w X.K X.mg X.base x C k ps sp)(hr:dQ (k+1) X.A)(hx:gI (c_ X.prog X.w) X E)(hg:Gl X x)(ha:PA X (e::es) t)(hG:(x==("__debug__":Str))=false:=by decide)(he:bJ (e::es) X.env=(false,eval e X.env)::bJ es X.env:=by rfl)(hpl:(eL pos (bJ es X.env)).any (·.1)=false:=by rfl):PE X (.Call (.Name x p) (e::es) [] pos) (Uq C sp [] E t):=by
 let#[f,fd,F,M,hm,hb]:=G.ex;show aio M F hr hg hm hb .nil hx ha hG he hpl
def kO{pl:Sem Bool}(G:ly X.prog X.w X.K X.mg X.base C m k ps sp)(hr:dQ k X.A)(hx:gI (c_ X.prog X.w) X E)(ho:PE X o ta)(ha:PA X (e::es) t)(e7:bJ (e::es) X.env=(false,eval e X.env)::bJ es X.env:=by rfl)(hpl:(eL pos (bJ es X.env)).any (·.1)=false:=by rfl)(ht:eval (.Call (.Attribute o m dB) (e::es) [] pos) X.env=(do
   let ov<-eval o X.env
   tJ dB.atName
   let (f,first)<-lM [ov] (AA ov m pl)
   zP pos f first (eL pos (bJ (e::es) X.env)) (rW pos (sC [] X.env))):=by rfl):PE X (.Call (.Attribute o m dB) (e::es) [] pos) (Fa C m sp [] E ta t):=by
 let#[f,fd,F,hm,hb]:=G.ex;show aiq (pl:=pl) ho G.cls hm F hr hb .nil hx ha e7 hpl ht
def fJ{pl:Sem Bool}(G:ly X.prog X.w X.K X.mg X.base C m k ps sp)(hr:dQ k X.A)(hx:gI (c_ X.prog X.w) X E)(ho:PE X o ta)(ht:eval (.Call (.Attribute o m dB) [] [] pos) X.env=(do
   let ov<-eval o X.env
   tJ dB.atName
   let (f,first)<-lM [ov] (AA ov m pl)
   zP pos f first (eL pos (bJ [] X.env)) (rW pos (sC [] X.env))):=by rfl):PE X (.Call (.Attribute o m dB) [] [] pos) (Fa C m sp [] E ta vz):=by
 let#[f,fd,F,hm,hb]:=G.ex;show air (pl:=pl) ho G.cls hm F hr hb .nil hx ht
def dP(mg:Str->Option af)(x:Str)(v:V):Prop:=∃u,mg x=some u/\RelV v u
def cq{v:V}(h:dP X.mg x v)(hg:Gl X x)(aoF:(x==("__debug__":Str))=false:=by decide):PE X (.Name x p) (tC v):=by
 let#[u,hm,r]:=h;show aim hg hm r aoF
end
section
variable{X:Cx}
def fV:fz X (ux .Add) (λx y H Q=>jn (λi j=>.int (i+j)) x y H Q\/(λx y H Q=>∃i j,x=V.str i/\y=V.str j/\i.length+j.length<=sizeLine/\Q (V.str (i++j)) H) x y H Q\/EL x y H Q):=by
 apply fz.or ah7 (fz.or ?_ ah9);show ah8
def EY:p9 X (λx lo hi H Q=>EN x lo hi H Q\/EM X.K x lo hi H Q):=p9.or ajF ajE
def ag4:iN X "str.islower" (λx xs H Q=>∃a,x=.str a/\xs=[]/\True/\Q (.bl (GI a)) H):=
 El (C:=λ_=>True) (g:=λa=>.bl (GI a)) λ_ _ s _ _ h=>PySem.SC.islower (h _ s.toks rfl)
def ag6:iN X "str.lstrip" (λx xs H Q=>∃a b,x=.str a/\xs=[.str b]/\a.length<=sizeLine/\Q (.str (CF a b)) H):=by
 intro ae s σ H x xs v us Q I rx rs h;let#[a,b,rfl,rfl,hz,h]:=h;let#[t,rfl]:=rx;cases rs with
 |cons r1 rs=>
  cases rs;let#[u,rfl]:=r1;show PySem.SC.lstripChars (λt' k=>#[.str (CF a b),H,I.tok k,#[t',rfl],h]) hz
end
section
variable{X:Cx}{K:aP}{e a:Expr}{ta:TE}{f:Str}{pos:Pos}
def iZ(hK:X.K=K)(he:PE X e ta)(hb:qh e f X.env (eval e X.env)=eval e X.env):PE X (.Attribute e f pos) (KG K ta f):=by
 subst hK;show aN he hb
def aiF(hK:X.K=K)(ha:PE X a ta)(he:∀whole,xK a X.env whole=(do let v<-whole;tJ a.pos;lM [v] (truthy v))):PT X a (λσ H Q=>ta σ H λx H'=>∃k,CD K x H' k/\Q k H'):=by
 subst hK;show dq ha he
def xL(hK:X.K=K):oF X (SD K):=by subst hK;show cP
def Sl{es:List Expr}{k:Nat}{t:rK}{n:Nat}(hK:X.K=K)(hc:X.calm=true)(h:y_ X es t)(hn:(uw es X.env).length=n:=by rfl)(e7:(uw es X.env).findIdx? (·.1)=none:=by rfl):PG X (.Tuple es k pos) (Ip K n t):=by
 subst hK;show yh hc h hn e7
end
def alu(t:TS):TS:=λD σ H=>∃R:St->Hp->Prop,t { D with nx:=R } σ H/\∀σ' H',R σ' H'->D.nx σ' H'
def EJ{X:Cx}{st:dt}{t:TS}(h:PS X st t):PS X st (alu t):=by
 rintro ae s σ H D I ⟨R,q,k⟩;apply cI (h ae s σ H { D with nx:=R } I q) λf s' z=>?_;cases f with
 |next=>
  let#[σ',H',I',r]:=z;show#[σ',H',I',k σ' H' r]
 |brk=>show z
 |cont=>show z
 |ret u=>show z
def anC{CX:md}{P:aZ}{w:aW}{K:aP}{mg:Str->Option af}{base:aL}{N:List Str}{qual:Str}{aB:dS}{f:aa}{cd:af}{A:ci}{outer:List Env}{s0:ax}{H0:Hp}{E:XK}:(gR CX P w K mg base N qual aB f cd A outer s0 H0 E).K=K:=rfl
section
variable{X:Cx}{k j:Nat}{ps:List Str}{sp:Sp}{E:XK}{x:Str}{p pos lT:Pos}{e:Expr}{es:List Expr}{te:TE}{t:TA}
def aJ(G:aV X.prog X.w X.K X.mg X.base x k ps sp)(hr:dQ j X.A)(ha:PA X (e::es) t)(hl:k<=j:=by decide)(hx:gI (c_ X.prog X.w) X E:=by show cn)(hg:Gl X x:=by rfl)(hG:(x==("__debug__":Str))=false:=by decide)(he:bJ (e::es) X.env=(false,eval e X.env)::bJ es X.env:=by rfl)(hpl:(eL pos (bJ es X.env)).any (·.1)=false:=by rfl):PE X (.Call (.Name x p) (e::es) [] pos) (BU sp [] E t):=iI G (hr.mono hl) hx hg ha hG he hpl
def cC(i:Nat)(hN:X.N.Nodup)(hi:X.N[i]? =some x:=by rfl)(hx:Loc X.env.scope x:=by show yZ rfl)(hf:X.fn x=true\/X.env.scope.names.lookup x=some .local:=by first|show .inl rfl|show .inr rfl|assumption):PG X (.Name x pos) (iU i):=aiw hN hi hx hf
def bu(i:Nat)(hN:X.N.Nodup)(he:PE X e te)(hi:X.N[i]? =some x:=by rfl)(hx:Loc X.env.scope x:=by show yZ rfl)(hs:vy e (some (.Name x lT)) pos.line X.env=pure false:=by rfl)(hf:X.fn x=true\/X.env.scope.names.lookup x=some .local:=by first|show .inl rfl|show .inr rfl|assumption):
  PS X (.Assign [.Name x lT] e pos) (E7 te (iU i)):=Kc hN hi hx he hs hf
end
def KD(w:aW)(K:aP)(a:aa)(kvs:List (bB×V)):Prop:=(a==lY)=false/\∃(es:Array rm)(ep:Nat)(vs:List (bB×af)),
 K.lookup a=some { cls:=.type "dict",data:=.dict es ep }/\(∀P:aZ,PySem.KeysOf (fU P w) es/\PySem.Pairs (fU P w) es.toList vs)/\(vs.map (·.1)).Nodup/\KV kvs vs
def KD.at{w:aW}{K:aP}{a:aa}{kvs:List (bB×V)}{h:aL}(P:aZ)(D:KD w K a kvs)(hk:K.In h):∃vs,KV kvs vs/\h.DictOf (fU P w) a vs:=by
 let#[_,es,ep,vs,lk,al,nd,kv]:=D;show#[vs,kv,_,es,ep,hk _ _ lk,#[rfl,rfl,rfl],rfl,(al P).1,(al P).2,nd]
section
variable{X:Cx}{o i:Expr}{pos:Pos}{td ty:TE}{a:aa}{kvs:List (bB×V)}
def KH(a:aa)(kvs:List (bB×V))(td ty:TE):TE:=λσ H Q=>td σ H λx H1=>ty σ H1 λy H2=>∃k v,x=.ref a/\y=kV k/\gB kvs k=some v/\Q v H2
def EB(D:KD X.w X.K a kvs)(ho:PE X o td)(hi:PE X i ty)(hs:Gq i):PE X (.Subscript o i pos) (KH a kvs td ty):=by
 intro ae s σ H Q I h;apply Ue PySem.F.slot_dict_getitem.lookup hs (cI (ho ae s σ H _ I h) λu s1 ⟨x,H1,I1,rx,q1⟩=>cI (hi ae s1 σ H1 _ I1 q1) λiv s2 ⟨y,H2,I2,ry,k,v,ex,ek,hv,q2⟩=>?_);subst ex ek;obtain rfl:u=fD a:=rx;let#[vs,rel,dd]:=D.at X.prog I2.gu;let#[w',hw,jU]:=gJ.some_of (v:=v) (o:=vG vs k) (by rw[<-hv];show rel.val k);show#[dd.mapOf.typeIs,wpAny_getItem_of (xM ry) dd.mapOf hw #[v,H2,I2.tok _,jU,q2]]
def alB(a:aa)(kvs:List (bB×V))(ty td:TE):TE:=λσ H Q=>ty σ H λy H1=>td σ H1 λx H2=>∃k,x=.ref a/\y=kV k/\Q (.bl (gB kvs k).isSome) H2
def aif(D:KD X.w X.K a kvs)(hi:PE X i ty)(ho:PE X o td):PC X .In i o (alB a kvs ty td):=by
 intro ae s σ H Q I h;apply cI (hi ae s σ H _ I h) λiv s1 ⟨y,H1,I1,ry,q1⟩=>cI (ho ae s1 σ H1 _ I1 q1) λu s2 ⟨x,H2,I2,rx,k,ex,ek,q2⟩=>?_;subst ex ek;obtain rfl:u=fD a:=rx;let#[vs,rel,dd]:=D.at X.prog I2.gu;apply wpAny_in_of (xM ry) D.1 dd.mapOf ?_;rw[<-(rel.val k).QK];show#[.bl (gB kvs k).isSome,H2,I2.tok _,rfl,q2]
end
section
variable{X:Cx}{fe e:Expr}{es:List Expr}{pos:Pos}{tf:TE}{t:TA}{E:XK}
def alt(Fs:aa->Sp->Prop)(E:XK)(tf:TE)(t:TA):TE:=λσ H Q=>tf σ H λx H1=>∃f sp,x=.ref f/\Fs f sp/\t σ H1 λvs H2=>sp vs H2 Q E
def aii{Fs:aa->Sp->Prop}{k:Nat}{ps:List Str}(hF:∀f sp,Fs f sp->∃fd,ff X.prog X.w X.K X.mg X.base (c_ X.prog X.w) k f fd ps sp/\ni X.K (.ref f)=true/\Binds X.K fd ps [])(hr:dQ k X.A)(hx:gI (c_ X.prog X.w) X E)(hf:PE X fe tf)(ha:PA X (e::es) t)(ad2:eval (.Call fe (e::es) [] pos) X.env=(do let f<-eval fe X.env;zP pos f [] (eL pos (bJ (e::es) X.env)) (rW pos (sC [] X.env))):=by rfl)(he:bJ (e::es) X.env=(false,eval e X.env)::bJ es X.env:=by rfl)(hpl:(eL pos (bJ es X.env)).any (·.1)=false:=by rfl):PE X (.Call fe (e::es) [] pos) (alt Fs E tf t):=by
 intro ae s σ H Q I h;rw[ad2];apply aI (cI (hf ae s σ H _ I h) λu s1 ⟨x,H1,I1,rx,f,sp,ex,kD,q1⟩=>?_);subst ex;obtain rfl:u=fD f:=rx;let#[fd,F,hk,hb]:=hF f sp kD;apply Gy (h₀:=X.base) I1.ok.mod.uQ hk (cI (ha pos ae s1 σ H1 _ I1 q1) λus s2 ⟨vs,H2,I2,r,q⟩=>#[I2.gu,?_]) he hpl;show BB (dvs:=[]) (ds:=[]) F hr hb .nil hx I2 r (by rw[eJ];show q)
end
section
variable{X:Cx}
def aiK(K:aP):V->List V->Hp->VK->Prop:=λx xs H Q=>∃(a:aa)(ys:List V)(y:V),x=V.ref a/\xs=[y]/\az K H a ys/\g9 y=true/\ys.all g9=true/\Q (.int ((ys.countP λz=>ir z y:Nat):Int)) H
def Rx:iN X "list.count" (aiK X.K):=by
 intro ae s σ H x xs v us Q I rx BC h;let#[a,ys,y,rfl,rfl,hs,fy,xm,q]:=h;cases rx;cases BC with
 |cons ry rt=>
  rename_i uy ut;cases rt;let#[aF,rv,#[#[cls,dd,data,sl],n,ho,hc,adV,aoF],hlen]:=I.list hs;simp only at hc aoF;subst hc aoF;apply wW Mn #[_,ho,rfl] PySem.F.entry_list_count (PySem.F.args_list_count_2 _ _) (SeqAt.list_countAt a aF.toArray n dd sl uy (iq y)) #[ho,λu' Jb=>uY ry fy rv xm u' (by simpa using Jb),?_];have e:∀{ys:List V}{aF:List af},bi ys aF->ys.all g9=true->aF.countP (iq y)=ys.countP λz=>ir z y:=by
   intro ys aF r;induction r with
   |nil=>intro _;rfl
   |cons h t ih=>
    intro f;rw[lg,bS]at f;rw[VS,VS,ih f.2,Ab h f.1]
  rw[show aF.toArray.toList=aF from rfl,e rv xm];show#[.int _,H,I.tok _,#[_,rfl],q]
end
def vj{q:aa}{H:Hp}{o:HO}(hq:H q=none):am H (upd H q o):=λb u e=>by rw[aG (bf e hq)];show e
theorem gz{α:Type}:∀{l:List α}{i:Nat}{x:α},l[i]? =some x->l.take (i+1)=l.take i++[x]
 |[],i,x,h=>by simp at h
 |a::l,0,x,h=>by
  have e:a=x:=cV h;subst e;rfl
 |a::l,i+1,x,h=>by
  have ih:=gz (l:=l) (i:=i) (x:=x) h;show a::l.take (i+1)=a::l.take i++[x];rw[ih];rfl
def jD{α:Type}(t:St->Hp->(α->Hp->Prop)->Prop)(σ:St)(H:Hp)(v:α):Prop:=∀(H':Hp)(Q:α->Hp->Prop),am H H'->(∀vV,am H' vV->Q v vV)->t σ H' Q
def tP{σ:St}{i:Nat}{x:V}:bD ((bD σ [i]).set i (some x)) [i]=bD σ [i]:=by
 show((σ.set i none).set i (some x)).set i none=σ.set i none;rw[wd,wd]
def U5{σ:St}{i j:Nat}{x y:V}:bD (((bD σ [i,j]).set i (some x)).set j (some y)) [i,j]=bD σ [i,j]:=by
 show(((((σ.set j none).set i none).set i (some x)).set j (some y)).set j none).set i none=(σ.set j none).set i none;by_cases h:i=j
 subst h;simp![wd];rw[wd,wd,List.set_comm (some x) none h,wd,wd]
def pW{σ:St}{H:Hp}:jD pR σ H true:=λH' Q _ k=>k H' (am.refl _)
section
variable{K:aP}{tt:TT}{te:TE}{σ:St}{H1:Hp}{Q:aa->Hp->Prop}{f:V->Bool}{h:V->V}
def qJ{a:aa}{xs:List V}{i:Nat}(hS:az K H1 a xs)(hz:xs.length<=sizeLine)(ht:∀x∈xs,jD tt ((bD σ [i]).set i (some x)) H1 (f x))(he:∀x∈xs,f x=true->jD te ((bD σ [i]).set i (some x)) H1 (h x))(q:∀D H',am H1 H'->H' D=some (.lst ((xs.filter f).map h))->Q D H'):
  ∀D,H1 D=none->∃W:Nat->Nat->Hp->Prop,(∃m,W 0 m (upd H1 D (.lst [])))/\∀n m H,W n m H->
   ((gE K a).stop n H/\Q D H)\/((gE K a).go n H/\∃Nx:Hp->Prop,(∀H',Nx H'->∃m',m'<m/\W (n+1) m' H')/\∀x H',(gE K a).ib n H x H'->iU i x (bD σ [i]) H' λσ2 H2=>bD σ2 [i]=bD σ [i]/\tt σ2 H2 λb H3=>
    if b=true then te σ2 H3 λy H4=>∃acc,H4 D=some (.lst acc)/\acc.length<sizeLine/\Nx (upd H4 D (.lst (acc++[y])))else Nx H3):=λD hD=>by
 apply xR (K:=K) (a:=a) (xs:=xs) (λn H=>am H1 H/\H D=some (.lst (((xs.take n).filter f).map h))) #[vj hD,by rw[aH];simp] (λn H _ ⟨s,_⟩=>s.seq hS) ?_ λH ⟨s,e⟩=>?_;rintro n x H hx ⟨s,e⟩;have mx:=fh hx;have hlt:n<xs.length:=(List.getElem?_eq_some_iff.mp hx).1;apply#[tP,ht x mx H _ s λH3 s3=>?_];cases hf:f x with
 |false=>
  simp![bT,bI];apply#[s.trans s3,?_];rw[gz hx,oH];simp![gd,hf,t8,bT,bI,eJ];show s3 _ _ e
 |true=>
  simp![bz];apply he x mx hf H3 _ (s.trans s3) λH4 s4=>#[_,s4 _ _ (s3 _ _ e),?_,?_,?_];rw[aD];apply kb (jw _ _) ?_;rw[ka];omega;intro b o hb;rw[aG (bf hb hD)];show s4 _ _ (s3 _ _ (s _ _ hb));rw[aH,gz hx,oH];simp![gd,hf,t8,bz,cB,ba,gY]
 rw[jy]at e;show q D H s e
def af7{lo:Int}{n i:Nat}(hz:n<=sizeLine)(ht:∀k,k<n->jD tt ((bD σ [i]).set i (some (.int (lo+(k:Nat))))) H1 (f (.int (lo+(k:Nat)))))(he:∀k,k<n->f (.int (lo+(k:Nat)))=true->jD te ((bD σ [i]).set i (some (.int (lo+(k:Nat))))) H1 (h (.int (lo+(k:Nat)))))(q:∀D H',am H1 H'->H' D=some (.lst ((((bv n).map λ(k:Nat)=>V.int (lo+(k:Nat))).filter f).map h))->Q D H'):
  ∀D,H1 D=none->∃W:Nat->Nat->Hp->Prop,(∃m,W 0 m (upd H1 D (.lst [])))/\∀j m H,W j m H->
   ((i' lo n).stop j H/\Q D H)\/((i' lo n).go j H/\∃Nx:Hp->Prop,(∀H',Nx H'->∃m',m'<m/\W (j+1) m' H')/\∀x H',(i' lo n).ib j H x H'->iU i x (bD σ [i]) H' λσ2 H2=>bD σ2 [i]=bD σ [i]/\tt σ2 H2 λb H3=>
    if b=true then te σ2 H3 λy H4=>∃acc,H4 D=some (.lst acc)/\acc.length<sizeLine/\Nx (upd H4 D (.lst (acc++[y])))else Nx H3):=λD hD=>by
 apply af9 (λj H=>am H1 H/\H D=some (.lst ((((bv j).map λ(k:Nat)=>V.int (lo+(k:Nat))).filter f).map h))) #[vj hD,by rw[aH];simp] ?_ λH ⟨s,e⟩=>q D H s e;rintro j H hj ⟨s,e⟩;apply#[tP,ht j hj H _ s λH3 s3=>?_];cases hf:f (.int (lo+(j:Nat)))with
 |false=>
  simp![bT,bI];apply#[s.trans s3,?_];rw[wc,cB,oH];simp![ba,gY,gd,hf,t8,bT,bI,eJ];show s3 _ _ e
 |true=>
  simp![bz];apply he j hj hf H3 _ (s.trans s3) λH4 s4=>#[_,s4 _ _ (s3 _ _ e),?_,?_,?_];rw[aD];apply kb (jw _ _) ?_;rw[aD,ln];omega;intro b o hb;rw[aG (bf hb hD)];show s4 _ _ (s3 _ _ (s _ _ hb));rw[aH,wc,cB,oH];simp![ba,gY,gd,hf,t8,bz,cB]
end
def kM(f:Nat->Str)(i:Nat):List Str:=((bv i).map f).foldl gW []
def JI(f:Nat->Str)(i:Nat):kM f (i+1)=gW (kM f i) (f i):=by
 show((bv (i+1)).map f).foldl gW []=_;rw[wc,cB,LK];show rfl
def aaA(l:List Str)(x k:Str):(gW l x).any (· ==k)=(l.any (· ==k)||decide (k=x)):=by
 show(if l.any (· ==x)then l else l++[x]).any _=_;split
 ·next h=>
  by_cases e:k=x
  rw[e,h];rfl;rw[cO e,FI]
 rw[List.any_append];congr 1;rw[oG,List.any_nil,FI,cw,gO,bw];show eq_comm
def HN(l:List Str)(x:Str):(gW l x).length=if l.any (· ==x)then l.length else l.length+1:=by
 show(if l.any (· ==x)then l else l++[x]).length=_;split<;>simp
def agQ(f:Nat->Str)(i:Nat):(kM f i).length<=i:=by
 induction i with
 |zero=>show bj 0
 |succ n ih=>
  rw[JI,HN];split<;>omega
section
variable{prog:aZ}{w:aW}{A:ci}{R:zj->ax->Prop}{I:aa}{fp wr:List aa}{G:Array FX->Array FX->Prop}{n:Nat}{P:Nat->af->Prop}{St:Nat->ax->Prop}
def aju(Wk:WalksS prog w A.in1 I fp wr G n P St)(a:aa)(ha:a∉fp)(f:Nat->Str)(hf:∀i v,P i v->∃t,v=.str (f i) t)(hn:n+1<scanBound):
  ∀(k i:Nat)(s:ax),n-i=k->i<=n->St i s->s.heap.SetOf (strKind prog w) a (λx=>(kM f i).any (· ==x)) (kM f i).length->
   (∀s',Moved (a::wr) G s s'->s'.heap.SetOf (strKind prog w) a (λx=>(kM f n).any (· ==x)) (kM f n).length->R (.ok (.ret .none)) s')->
   oY (aR prog w) A (.builtin "set.update.loop" #[[.ref a,.ref I],[]]) R s:=by
 have aw:a∉wr:=λz=>ha (Wk.sub _ z);have up:∀b∈wr,b∈a::wr:=λb z=>iM.mpr (.inr z);have T_:∀{s s':ax}{S:Str->Bool}{m:Nat},Moved wr G s s'->s.heap.SetOf (strKind prog w) a S m->s'.heap.SetOf (strKind prog w) a S m:=λ{s s' S m} mv ⟨o,es,ep,t,ho,bE⟩=>#[o,es,ep,t,mv.heap a _ aw ho,bE];intro k;induction k with
 |zero=>
  intro i s hk hi st hS hR;obtain rfl:i=n:=by omega
  apply r9 Vr ?_;rw[tS Lz _];show aI (m:=kU (.ref I)) (Wk.done s _ _ st λs' mv=>bR (hR s' (mv.mono up) (T_ mv hS)))
 |succ k ih=>
  intro i s hk hi st hS hR;have lt:i<n:=by omega
  apply r9 Vr ?_;rw[tS Lz _];apply aI (m:=kU (.ref I)) (Wk.item i s _ _ lt st λv s' hP jq mv=>?_);let#[t,rfl]:=hf i v hP;have hS1:=T_ mv hS;apply aI (m:=lM [zA (f i) t] (setAdd a (.str (f i) t))) (tQ ?_);show aK _ _ (lM _ _) _ _ _;apply tQ (aI ((strKind prog w).pyHash (k:=f i) (strKind_is _ _ _ _) ?_));have ajd:(kM f i).length+1<scanBound:=by have:=agQ f i;omega
  apply wpAny_setAddHashed_of (knd:=strKind prog w) (s:={ s' with toks:=s'.toks+1 }) (strKind_is _ _ _ _) rfl hS1 ajd λh' sb adx=>?_;have IB:h'.SetOf (strKind prog w) a (λx=>(kM f (i+1)).any (· ==x)) (kM f (i+1)).length:=
   SetOf_congr adx (λx=>by rw[JI,aaA]) (by rw[JI,HN])
  apply bR #[tz Lz _,ih (i+1) _ () lt (Wk.frame _ s' _ _ jq (Mb _) λb z o e=>?_) IB λs2 ag8 ady=>?_];show(sb.2 b (λq:b=a=>ha (q▸z))).trans e;apply hR s2 (Moved.trans Wk.gtrans ((mv.mono up).then_heap (Mb _) λb o z e=>?_) ag8) ady;show(sb.2 b (λq:b=a=>z (by rw[q];show iM.mpr (.inl rfl)))).trans e
end
theorem StrsAre.at:∀{us:List af}{ys:List Str},StrsAre us ys->∀(i:Nat)(v:af),us[i]? =some v->∃t,v=.str (ys.getD i wv) t
 |_,_,.nil,i,v,e=>by simp at e
 |_,_,.cons y t r,0,v,e=>by
  have e:zA y t=v:=cV e;show#[t,e.symm]
 |_,_,.cons y t r,i+1,v,e=>StrsAre.at r i v e
def agR(ys:List Str):kM (λi=>ys.getD i wv) ys.length=ys.foldl gW []:=by
 unfold kM;congr 1;apply m8;intro i;rw[cx];by_cases h:i<ys.length
 rw[mh h,ca h];simp[List.getD,ca h];rw[ig (by simpa using h),ig (by simpa using h)];rfl
section
variable{prog:aZ}{w:aW}{A:ci}{E:af->ax->Prop}{s:ax}
abbrev qv(jO:Bool):Obj:={ cls:=.type "set",dict:=none,data:=.set (List.toArray []) 0 (.fresh 0 0 jO) }
def ajw{l:aa}{us:List af}{ys:List Str}{Q:af->ax->Prop}(aoF:A.handled=none)(hl:s.heap.IsList l us.toArray)(hy:StrsAre us ys)(hlen:us.length=ys.length)(hn:ys.length+1<scanBound)(q:∀(h':aL)(tk:Nat),h'.SetOf (strKind prog w) s.heap.objs.size (λx=>(ys.foldl gW []).any (· ==x)) (ys.foldl gW []).length->
   (∀b o,b<s.heap.objs.size->s.heap.get? b=some o->h'.get? b=some o)->Q (.ref s.heap.objs.size) { s with heap:=h',toks:=tk }):
  aK (aR prog w) A (call (.type "set") [.ref l]) Q E s:=by
 rw[<-agR]at q;let#[c0,tl0,m0]:=F.called_set.mro;have m1:=F.called_set.made;have m2:=F.called_set.sub;apply K_ (codeAny_of_tree ?_);show aK _ _ (callAny (.type "set") _) _ _ _;apply bR #[Code.quiet_builtin _ (by decide+kernel),r9 F.entry_type_call ?_];rw[Around.under_plain (weight_type_call_type "set" [.ref l] []) rfl];have m3:=F.called_set.notType;have m4:=F.called_set.canCreate;have m5:=F.typeCall_set_1 (.ref l)
 repeat any_goals first|assumption|wp_step
 apply zV (code_set_new_1 (.ref l) (E:=E) (Q₁:=λv s1=>∃jO:Bool,v=.ref s.heap.objs.size/\s1={ s with heap:=s.heap.push (qv jO) }) λjO=>#[jO,rfl,rfl]) λr s1 hr=>?_
 match r,hr with
 | .error e,hr=>show hr
 | .ok .next,hr=>show hr.elim
 | .ok .brk,hr=>show hr.elim
 | .ok .cont,hr=>show hr.elim
 | .ok (.ret v),⟨jO,e1,e2⟩=>
  subst e1 e2;have Na:(s.heap.push (qv jO)).get? s.heap.objs.size=some (qv jO):=eV _ rfl;have amI:Shared.TypeIs { s with heap:=s.heap.push (qv jO) } (.ref s.heap.objs.size) "set":=#[_,Na,rfl];have i1:=F.called_set.init.lookup;have i2:=F.called_set.init.bind (.ref s.heap.objs.size)
  repeat any_goals first|assumption|wp_step
  apply zV (codeAny_call_builtin (R:=wants (λv s2=>v=.none/\∃h' tk,s2={ s with heap:=h',toks:=tk }/\
    h'.SetOf (strKind prog w) s.heap.objs.size (λx=>(kM (λi=>ys.getD i wv) ys.length).any (· ==x)) (kM (λi=>ys.getD i wv) ys.length).length/\
    (∀b o,b<s.heap.objs.size->s.heap.get? b=some o->h'.get? b=some o)) E) F.called_set.init.plain F.entry_set_init (check_set_init_1 amI ?_)) λr2 s2 hr2=>?_
  let#[ol,l1,l2,nl,l3]:=hl;let#[oc,od,ahZ,iF]:=ol;simp only at l2 l3;subst l2 l3;have YJ:(s.heap.push (qv jO)).get? l=some { cls:=.type "list",dict:=od,data:=.seq us.toArray nl,slots:=iF }:=cJ _ l1;have k1:=F.sub_list_set;have k2:=F.sub_list_frozenset;have k3:(rO "list"==rO "dict")=false:=by decide
  have QL:(s.heap.push (qv jO)).IsList l us.toArray:=#[_,YJ,rfl,nl,rfl];unfold Builtin.«set.__init__» noKeywords anc;generalize adv:By=PI
  wp_walk
  subst adv;apply Lc QL (aI (wpAny_runValue ?_));have Rl:l<s.heap.objs.size:=cK l1;have adR:A.in1.in1.in1.handled=none:=by simp[aoF]
  have sz:(s.heap.push (qv jO)).objs.size=s.heap.objs.size+1:=gC ..
  have nI:l≠(s.heap.push (qv jO)).objs.size:=by rw[sz];show dZ (Cq Rl)
  have nS:s.heap.objs.size∉[(s.heap.push (qv jO)).objs.size,l]:=by
   rw[sz];simp![iM,lx,mQ,not_or];show#[dZ (ud _),wj Rl]
  have ae2:us.toArray.size=ys.length:=by rw[fi];show hlen
  have mV:∀(i:Nat)(v:af),us.toArray[i]? =some v->∃t,v=.str ((λi=>ys.getD i wv) i) t:=λi v e=>StrsAre.at hy i v (by simpa using e);have Wk:=(CS adR _ l nI us.toArray).toS (prog:=prog) (w:=w);rw[ae2]at Wk;apply aju Wk s.heap.objs.size nS (λi=>ys.getD i wv) mV hn (ys.length-0) 0 _ rfl (eX _) #[#[_,eV _ rfl,rfl,rfl],QL.push _] ?_ ?_;show SetOf_congr ((setObjOf_fresh (knd:=strKind prog w) jO).setOf (cJ _ Na) (by unfold scanBound;omega)) (λ_=>rfl) rfl;intro s3 mv IB;let#[h3,g3,d3,t3,o3]:=s3;obtain rfl:g3=s.gens:=mv.gens;obtain rfl:d3=s.drawn:=mv.drawn;obtain rfl:o3=s.os:=mv.os;apply bR (bR #[rfl,h3,t3,rfl,IB,λb o lt e=>?_]);apply mv.heap b o ?_ (cJ _ (cJ _ e));rw[sz];simp![iM,lx,mQ,not_or];show#[dZ lt,dZ (Cq lt)]
  ·match r2,hr2 with
   | .error e,hr2=>show hr2
   | .ok .next,hr2=>show hr2.elim
   | .ok .brk,hr2=>show hr2.elim
   | .ok .cont,hr2=>show hr2.elim
   | .ok (.ret v),⟨e1,h',tk,e2,hS,kp⟩=>
    subst e1 e2
    repeat any_goals first|assumption|wp_step
    show q _ _ hS kp
end
def wu(P:aZ)(w:aW)(a:aa)(xs:List Str):HO:=.ext λh=>h.SetOf (strKind P w) a (λx=>(xs.foldl gW []).any (· ==x)) (xs.foldl gW []).length
theorem HM:∀(xs acc:List Str),(xs.foldl gW acc).length<=acc.length+xs.length
 |[],acc=>bj _
 |x::r,acc=>by
  have:=HM r (gW acc x);rw[HN]at this;rw[v0,cN];split at this<;>omega
section
variable{X:Cx}
def Hj(hc:X.calm=true):mZ X (.type "set") (λvs H Q=>∃(a:aa)(xs:List Str),vs=[.ref a]/\az X.K H a (xs.map V.str)/\xs.length+1<scanBound/\∀p,H p=none->Q (.ref p) (upd H p (wu X.prog X.w p xs))):=by
 intro ae s σ H vs us Q I r h;let#[a,xs,rfl,hs,hn,q]:=h;let#[aF,rv,hl,_]:=I.list hs;rw[bi.EQ r];have hlen:aF.length=xs.length:=by rw[<-rv.length,aD]
 apply ajw (I.ok.aoF hc) hl.isList rv.strs hlen hn λh' tk hS kp=>?_;apply#[.ref s.heap.objs.size,_,I.laid (t':=tk) (o:=wu X.prog X.w s.heap.objs.size xs) (λb o e=>kp b o (cK e) e) (bj _) ?_,rfl,q _ (I.aS.fresh (bj _))];apply#[hS,?_,λh1 h2 z k=>?_];let#[o,es,ep,t,ho,_]:=hS;show#[o,ho];let#[o,es,ep,t,ho,bE]:=z;show#[o,es,ep,t,k o ho,bE]
def Hh:mZ X (.builtin "len") (λvs H Q=>∃(a:aa)(xs:List Str),vs=[.ref a]/\H a=some (wu X.prog X.w a xs)/\xs.length+1<scanBound/\Q (.int ((xs.foldl gW []).length:Nat)) H):=by
 intro ae s σ H vs us Q I r h;let#[a,xs,rfl,ha,hn,q]:=h;rw[bi.EQ r];let#[hS,_,_]:=I.aS a _ ha;have hle:=HM xs [];let#[o,es,ep,t,ho,hex,aoF,hf,bE]:=id hS;let#[_,DZ,ad9,mB]:=bE;have hsz:(es.size:Int)<2 ^ 63:=by
  have:es.size<4096:=DZ;omega
 show call_len_set ho hex aoF ad9 hsz #[.int ((xs.foldl gW []).length:Nat),H,I.tok _,#[_,by rw[mB]],q]
end
def boot_set:jf "set"=some (.type "set"):=rfl
section
variable{M:p7}{A:ci}{E:af->ax->Prop}{s:ax}{B:aL}{l outer:List Env}{e:aa}{cls a0 fl:af}
def UI{h:aL}{T:aa}{oT:Obj}{ts:Array af}(v:af)(hT:h.get? T=some oT)(mz:oT.data=.fields ts):
  (∀b,b≠T->(h.update T (Mf (·.setIfInBounds 3 v))).get? b=h.get? b)/\h.UpToSlots (h.update T (Mf (·.setIfInBounds 3 v))):=by
 have k:∀b,b≠T->(h.update T (Mf (·.setIfInBounds 3 v))).get? b=h.get? b:=λb z=>mf _ _ (iP z);apply#[k,λb o q nf=>#[o.slots,(k b λz=>?_).trans q]];subst z;rw[hT]at q;cases q;show nf ts mz
def acZ{f:Option aa}{Q:Unit->ax->Prop}(e7:B.StaysIn s.heap)(qy:s.heap.FunFrames B l)(ht:s.heap.TracedAtW B e cls a0 fl)(h:∀h' Ig,B.StaysIn h'->h'.FunFrames B l->h'.TracedAtW B e cls a0 Ig->s.heap.UpToSlots h'->Q #[] { s with heap:=h' }):aK M A (setFlight (.ref e) f) Q E s:=by
 let#[oe,vs,T,oT,ts,he,hc,aoF,h1,sx,xp,hT,mz,h3]:=ht;have sz:3<ts.size:=(Array.getElem?_eq_some_iff.mp h3).1;unfold setFlight;apply aI (j0 he aoF h1 ?_);rw[aq ()];let#[k,up]:=UI (f.elim qb λf=>lU f) hT mz;apply Ld hT mz sz (h _ (f.elim qb λf=>lU f) (λb o q=>(k b λz=>?_).trans (e7 b o q)) (qy.of_keeps λb o q nf=>?_) #[oe,vs,T,_,_,(k e (iP xp)).trans he,hc,aoF,h1,sx,xp,vW _ hT (Wn (Gr mz _)),Gr mz _,by simp[sz]] up);subst z;rw[sx]at q;cases q;let#[sl,z]:=up b o q nf;show#[_,z,rfl]
def agb{env:Env}{L:aa}{Q:Unit->ax->Prop}(jK:A.frames=some (env::outer))(hf:env.frame=some L)(e7:B.StaysIn s.heap)(AJ:B.get? e=none)(qy:s.heap.FunFrames B (env::outer))(ht:s.heap.TracedAtW B e cls a0 fl)(h:∀h',LA B outer e cls a0 h'->s.heap.UpToSlots h'->Q #[] { s with heap:=h' }):aK M A (A6 env (.ref e)) Q E s:=by
 by_cases hfl:fl=lU L
 subst hfl;apply aI (m:=u4 (.ref e) env) (wpAny_noteFrame_againW hf ht (wpAny_landsW #[e7,AJ,qy,ht] λh' z up=>h h' #[z.1,z.2.1,z.2.2.1.2.2,z.2.2.2] up));let#[oe,vs,T,oT,ts,he,hc,aoF,h1,sx,xp,hT,mz,h3]:=ht;have sz:3<ts.size:=(Array.getElem?_eq_some_iff.mp h3).1;let#[gk,h0]:=hc;subst gk;let#[k,up]:=UI .none hT mz;unfold A6 u4;simp![hf];apply aI (aI (j0 he aoF h1 ?_));rw[aq ()];apply aI (j0 hT mz h3 ?_);rw[ay (by simpa using hfl)];apply aI (Ld hT mz sz ?_);apply wpAny_newEntryW jK (qy.of_keeps λb o q nf=>?_) hf ((k e (iP xp)).trans he) (λb o q=>(k b λz=>?_).trans (e7 b o q)) AJ aoF (Array.getElem?_eq_some_iff.mp h1).1 h0 λh' z=>?_;let#[sl,z]:=up b o q nf;show#[_,z,rfl];subst z;rw[sx]at q;cases q;let#[z1,#[_,_,z2],z3,z4]:=z;show h h' #[z1,AJ,z2,z3] (up.trans z4)
end
section
variable{P:aZ}{w:aW}{K:aP}{mg:Str->Option af}{base:aL}{N:List Str}{qual:Str}{aB:dS}{f:aa}{cd:af}{A:ci}{outer:List Env}{s0:ax}{H0:Hp}{E:XK}
def agc{s':ax}{H':Hp}{a C:aa}{B:aL}{a0 fl:af}(jK:(A.deeper (dn qual aB s0.heap.objs.size f cd)).frames=some (dn qual aB s0.heap.objs.size f cd::outer))(os:s'.os=s0.os)(bare:rg s'.gens)(un:Un (cH outer) [] H0 H' s0.heap s'.heap)(aS:dk P w H' s'.heap)(hB:∀b o,s'.heap.get? b=some o->(H' b≠none\/(b∉cH outer/\∃o',s0.heap.get? b=some o'))->B.get? b=some o)(e7:B.StaysIn s'.heap)(AJ:B.get? a=none)(qy:s'.heap.FunFrames B (dn qual aB s0.heap.objs.size f cd::outer))(ht:s'.heap.TracedAtW B a (.ref C) a0 fl)(hE:E (.ref C) none H'):
  (gR (c_ P w) P w K mg base N qual aB f cd A outer s0 H0 E).xe (.ref a) s':=by
 show aK (aR P w) (A.deeper (dn qual aB s0.heap.objs.size f cd)) (A6 (dn qual aB s0.heap.objs.size f cd) (.ref a)) _ _ s';apply agb jK rfl e7 AJ qy ht λh' hfl up=>#[a,C,H',rfl,?_,hE];have kept:∀b o,(H' b≠none\/(b∉cH outer/\∃o',s0.heap.get? b=some o'))->s'.heap.get? b=some o->h'.get? b=some o:=λb o hb e=>hfl.1 b o (hB b o e hb);apply#[os,bare,un.upTo (λb o hb hx e=>kept b o (.inr #[hb,hx]) e) λb o hb e=>up b o e ?_,aS.tracked λb o hb e=>kept b o (.inl hb) e,B,a0,λb o e hb=>?_,hfl];let#[_,o2,e2,d2]:=qy.mem (show b∈(dn qual aB s0.heap.objs.size f cd::outer).filterMap (·.frame) from bp _ hb);rw[e]at e2;cases e2;show d2;have:∃o1,s'.heap.get? b=some o1:=by
  rcases hb with z|⟨_,o',z'⟩
  let#[u,hu]:=Option.ne_none_iff_exists'.mp z;show(aS b u hu).there;show un.there b o' z' ()
 let#[o1,e1]:=this;have e2:=kept b o1 hb e1;have e:h'.get? b=some o:=e;rw[e]at e2;cases e2;show hB b o e1 hb
theorem OV{h h' B B':aL}:∀{l:List Env},h.FunFrames B l->(∀b∈cH l,∀o,h.get? b=some o->∃o',h'.get? b=some o'/\o'.data=o.data)->(∀b∈cH l,B'.get? b=none)->h'.FunFrames B' l
 |[],_,_,_=>trivial
 |env::r,⟨hk,⟨L,o,hf,hn,ho,aoF⟩,hr⟩,k,n=>by
  have m:L∈cH (env::r):=by unfold cH;rw[yV,hf];show bq
  have sub:∀b∈cH r,b∈cH (env::r):=λb z=>by unfold cH;rw[yV,hf];show bp _ z
  let#[o',e',d']:=k L m o ho;show#[hk,#[L,o',hf,n L m,e',λvs=>d'▸aoF vs],OV hr (λb z=>k b (sub b z)) λb z=>n b (sub b z)]
def YZ{ae pl:List (aa×Obj)}{σ σ1:St}{H3 H1 H':Hp}{s3 s1 s1':ax}{Hf:dS}{ce:Env}{fp:List aa}{a C D:aa}{XB:af->ax->Prop}{use:Option (af->Sem Unit)}{Qf:af->ax->Prop}(pp:ce.locals=s3.heap.objs.size)(IJ:ce.frame=(dn qual aB s0.heap.objs.size f cd).frame)(I3:Inv (gR (c_ P w) P w K mg base N qual aB f cd A outer s0 H0 E) ae σ H3 s3)(kC:∀b∈fp,s0.heap.objs.size<=b)(J:Inv (((gR (c_ P w) P w K mg base N qual aB f cd A outer s0 H0 E).f9 s3 H3 Hf ce fp).fw XB) pl σ1 H1 s1)(F:oB P w (dn qual aB s0.heap.objs.size f cd::outer) H1 H' s1 s1' a C)(hE:E (.ref C) none H'):
  jQ (aR P w) (A.deeper (dn qual aB s0.heap.objs.size f cd)) ce (λe i7=>qp (aR P w) (A.deeper (dn qual aB s0.heap.objs.size f cd)) (gR (c_ P w) P w K mg base N qual aB f cd A outer s0 H0 E).xe use Qf (.ref D) s3.heap.objs.size (.error e) i7) (.ref a) s1':=by
 generalize DP:dn qual aB s0.heap.objs.size f cd=env at*
 have jK:(A.deeper env).frames=some (env::outer):=by have:=I3.ok.frames;rw[<-DP];show this
 have PU:env.frame=some s0.heap.objs.size:=by rw[<-DP];rfl
 let#[B,a0,hB,hfl]:=F.DF;have e1:u4 (.ref a) ce=u4 (.ref a) env:=by
  unfold u4 PySem.frameOf;rw[IJ]
 unfold jQ;rw[e1];apply wpAny_looks_onW jK PU hfl λh4 PQ KY=>?_;have yw:∀b,b∈cH (env::outer)->b=s0.heap.objs.size\/b∈cH outer:=λb z=>by
  unfold cH at z;rw[yV,PU]at z;show iM.mp z
 have ad6:s3.heap.FunFrames base (env::outer):=by have:=I3.stack;rw[<-DP];show this
 have Em:∀b∈cH (env::outer),b≠s3.heap.objs.size:=λb z=>by
  let#[_,o,ho,_]:=ad6.mem z;show dZ (cK ho)
 let#[m,pA,_]:=J.loc;have pA:s1.heap.Ns s3.heap.objs.size m:=by rw[<-pp];show pA
 have adl:∃o,s1.heap.get? s3.heap.objs.size=some o:=let ⟨o,_,_,ho,_⟩:=pA;#[o,ho]
 have RD:H1 s3.heap.objs.size=none:=by have:=J.free;rw[<-pp];show this
 have adm:∀o,s1.heap.get? s3.heap.objs.size=some o->s1'.heap.get? s3.heap.objs.size=some o:=λo q=>F.un.keep _ o q RD (λz=>Em _ z rfl) ();have Pw:∀o,s1.heap.get? s3.heap.objs.size=some o->B.get? s3.heap.objs.size=some o:=λo q=>hB _ o (adm o q) (.inr #[λz=>Em _ z rfl,o,q]);have ahU:h4.Ns s3.heap.objs.size m:=by
  let#[o,es,ep,ho,r]:=pA;show#[o,es,ep,PQ.1 _ _ (Pw o ho),r]
 apply#[m,ahU,λh5 sb eQ gk=>?_];let#[oC,Qa]:=adl;have hBC:=Pw oC Qa;let#[k1,k2,k3,oe,vs,T,oT,ts,he,hc,aoF,q1,sx,xp,hT,mz,q3]:=PQ;have xX:a≠s3.heap.objs.size:=λz=>by rw[z,hBC]at k2;cases k2
 have ahg:T≠s3.heap.objs.size:=λz=>by rw[z,hBC]at sx;cases sx
 have PM:h5.get? a=some oe:=(sb.2 a xX).trans he;have adz:h5.get? T=some oT:=(sb.2 T ahg).trans hT;generalize Iu:Mt B [s3.heap.objs.size]=B';have QD:∀b o,b≠s3.heap.objs.size->B.get? b=some o->B'.get? b=some o:=λb o z q=>by rw[<-Iu];show Mu _ q (by simpa using z)
 have RX:∀b o,B'.get? b=some o->B.get? b=some o:=λb o q=>by rw[<-Iu]at q;show My _ q
 have ahI:B'.get? s3.heap.objs.size=none:=by rw[<-Iu];show WN _ ()
 have cj:∀b,B.get? b=none->B'.get? b=none:=λb q=>by
  cases z:B'.get? b with
  |none=>rfl
  |some o=>rw[RX b o z]at q;cases q
 have tH:B'.StaysIn h5:=λb o q=>by
  have nb:b≠s3.heap.objs.size:=λz=>by rw[z,ahI]at q;cases q
  show(sb.2 b nb).trans (k1 b o (RX b o q))
 have acP:h5.FunFrames B' (env::outer):=OV k3 (λb z o q=>#[o,(sb.2 b (Em b z)).trans q,rfl]) λb z=>cj b (k3.mem z).1;have amx:h5.TracedAtW B' a (.ref C) a0 (lU s0.heap.objs.size):=#[oe,vs,T,oT,ts,PM,hc,aoF,q1,cj T sx,xp,adz,mz,q3];unfold PySem.passOn;apply aI (j0 (s:={ s1' with heap:=h5 }) PM aoF q1 ?_);rw[ay ()];apply aI (acZ (s:={ s1' with heap:=h5 }) tH acP amx λh6 Ig BR acQ amy KZ=>wpAny_throw ?_);subst DP;have alq:s0.heap.objs.size<=s3.heap.objs.size:=I3.sz;have pV:Un (cH outer) [] H0 H3 s0.heap s3.heap:=I3.base;have pU:Un (cH (dn qual aB s0.heap.objs.size f cd::outer)) fp H3 H1 s3.heap s1.heap:=J.base;have old:∀b o,s0.heap.get? b=some o->b<s0.heap.objs.size:=λb o q=>cK q;have pL:∀b o,s0.heap.get? b=some o->b∉fp:=λb o q z=>absurd (fj (old b o q) (kC b z)) (iO _);have nC:∀b o,s0.heap.get? b=some o->b≠s3.heap.objs.size:=λb o q=>dZ (fj (old b o q) alq);have JU:∀b o,s0.heap.get? b=some o->b∉cH outer->b∉cH (dn qual aB s0.heap.objs.size f cd::outer):=λb o q z y=>by
  rcases yw b y with y|y
  show absurd (y▸old b o q) (iO _);show z y
 have aha:H' s3.heap.objs.size=none:=F.un.free _ oC Qa RD ();have OR:∀b o,s0.heap.get? b=some o->∃o',s1.heap.get? b=some o':=λb o q=>by
  let#[o1,q1]:=pV.there b o q ();show pU.there b o1 q1 (pL b o q)
 have Fd:∀b o,(H' b≠none\/(b∉cH outer/\∃o',s0.heap.get? b=some o'))->s1'.heap.get? b=some o->B'.get? b=some o:=λb o hb q=>by
  rcases hb with z|⟨z,o',z'⟩
  show QD b o (λy=>z (y▸aha)) (hB b o q (.inl z));show QD b o (nC b o' z') (hB b o q (.inr #[JU b o' z' z,OR b o' z']))
 have Pj:∀b o,b∈cH outer->s1'.heap.get? b=some o->∃sl,h6.get? b=some { o with slots:=sl }:=λb o z q=>by
  have zm:b∈cH (dn qual aB s0.heap.objs.size f cd::outer):=bp _ z;let#[_,o2,e2,d2]:=hfl.2.2.1.mem zm;rw[q]at e2;cases e2;let#[ajC,e4]:=KY b o q d2;have e5:h5.get? b=some { o with slots:=ajC }:=(sb.2 b (Em b zm)).trans e4;let#[ajD,e6]:=KZ b _ e5 d2;show#[ajD,e6]
 have Yy:∀b o,s0.heap.get? b=some o->H0 b=none->∃sl,s1'.heap.get? b=some { o with slots:=sl }:=λb o q n=>by
  let#[sl3,e3]:=pV.any q n ();have n3:=pV.free b o q n ();let#[sl1,e1]:=pU.any e3 n3 (pL b o q);have n1:=pU.free b _ e3 n3 (pL b o q);let#[sl,e]:=F.un.any e1 n1 ();show#[sl,e]
 have UC:∀b o,s0.heap.get? b=some o->∃o',s1'.heap.get? b=some o':=λb o q=>by
  let#[o1,q1]:=OR b o q;show F.un.there b o1 q1 ()
 have ac':∀b o,s0.heap.get? b=some o->H0 b=none->H' b=none:=λb o q n=>by
  have n3:=pV.free b o q n ();let#[o3,q3]:=pV.there b o q ();have n1:=pU.free b o3 q3 n3 (pL b o q);let#[o1,q1]:=pU.there b o3 q3 (pL b o q);show F.un.free b o1 q1 n1 ()
 apply agc (s':={ s1' with heap:=h6 }) (H':=H') (C:=C) (B:=B') (a0:=a0) (fl:=Ig) jK (F.os.trans (J.os.trans I3.os)) F.bare #[λb o q n hb _=>?_,λb o q n hb _=>?_,λb o q n _=>ac' b o q n,λb o q _=>?_,λb xs q=>F.un.js b xs (pU.js b xs (pV.js b xs q)),λb o u q=>F.un.iz b o u (pU.iz b o u (pV.iz b o u q)),λb ps q=>?_] (F.aS.tracked λb o hb q=>BR b o (Fd b o (.inl hb) q)) (λb o q hb=>?_) BR (cj a k2) acQ amy hE;have q3:=pV.keep b o q n hb ();have n3:=pV.free b o q n ();have q1:=pU.keep b o q3 n3 (JU b o q hb) (pL b o q);have n1:=pU.free b o q3 n3 (pL b o q);have q':=F.un.keep b o q1 n1 (JU b o q hb) ();show BR b o (Fd b o (.inr #[hb,o,q]) q');let#[sl,e]:=Yy b o q n;let#[BM,e']:=Pj b _ hb e;show#[BM,e'];let#[o1,e]:=UC b o q;by_cases hb:b∈cH outer
 let#[BM,e']:=Pj b _ hb e;show#[_,e'];show#[o1,BR b o1 (Fd b o1 (.inr #[hb,o,q]) e)];let#[m1,q3]:=pV.jr b ps q;let#[m2,q1]:=pU.jr b _ q3;let#[m3,q']:=F.un.jr b _ q1;show#[m1++m2++m3,by rw[q',B3,B3,B3]];have:∃o1,s1'.heap.get? b=some o1:=by
  rcases hb with z|⟨_,o',z'⟩
  let#[u,hu]:=Option.ne_none_iff_exists'.mp z;show(F.aS b u hu).there;show UC b o' z'
 let#[o1,e]:=this;have z:=Fd b o1 hb e;have z6:=BR b o1 z;have q:h6.get? b=some o:=q;rw[q]at z6;cases z6;show z
end
def B5(X:Cx)(E:XK):Prop:=∀{ae pl:List (aa×Obj)}{σ σ1:St}{H3 H1 H':Hp}{s3 s1 s1':ax}{Hf:dS}{ce:Env}{fp:List aa}{a C D:aa}{XB:af->ax->Prop}{use:Option (af->Sem Unit)}{Qf:af->ax->Prop},
 ce.locals=s3.heap.objs.size->ce.frame=X.env.frame->Inv X ae σ H3 s3->(∀b∈fp,X.gy.heap.objs.size<=b)->Inv ((X.f9 s3 H3 Hf ce fp).fw XB) pl σ1 H1 s1->oB X.prog X.w X.stack H1 H' s1 s1' a C->E (.ref C) none H'->
 jQ (aR X.prog X.w) X.A ce (λe i7=>qp (aR X.prog X.w) X.A X.xe use Qf (.ref D) s3.heap.objs.size (.error e) i7) (.ref a) s1'
def eM{P:aZ}{w:aW}{K:aP}{mg:Str->Option af}{base:aL}{N:List Str}{qual:Str}{aB:dS}{f:aa}{cd:af}{A:ci}{outer:List Env}{s0:ax}{H0:Hp}{E:XK}:B5 (gR (c_ P w) P w K mg base N qual aB f cd A outer s0 H0 E) E:=
 λpp IJ I3 kC J F hE=>YZ pp IJ I3 kC J F hE
section
variable{X:Cx}{Eb:XK}
def Q1{ae:List (aa×Obj)}{s:ax}{σ:St}{H:Hp}{Q:VK}{io tg fE:Expr}{hJ:List Expr}{aB:dS}{own:List (Str×Nat)}{pos lT:Pos}{wi:TI}{g:TG}{tt:TT}{te:TE}{use:Option (af->Sem Unit)}{Qf:af->ax->Prop}(hX:B5 X Eb)(hex:X.ex=[])(hc:X.calm=true)(hN:X.N.Nodup)(I:Inv X ae σ H s)(hi:PI X tg fE wi)(ok:yI X.N X.env.scope aB own)(hg:∀(s:ax)(H:Hp)(C:aa)(cl:List (Str×aa))(fp:List aa)(xe:af->ax->Prop),PG ((X.f9 s H aB (g6 aB cl C X.env) fp).fw xe) tg g)(ht:∀(s:ax)(H:Hp)(C:aa)(cl:List (Str×aa))(fp:List aa)(xe:af->ax->Prop),zc ((X.f9 s H aB (g6 aB cl C X.env) fp).fw xe) hJ tt)(he:∀(s:ax)(H:Hp)(C:aa)(cl:List (Str×aa))(fp:List aa)(xe:af->ax->Prop),gI (c_ X.prog X.w) ((X.f9 s H aB (g6 aB cl C X.env) fp).fw xe) Eb->PE ((X.f9 s H aB (g6 aB cl C X.env) fp).fw xe) io te)(hs:∀x,foldedSetIterable fE X.env x=pure x)(h:E' wi g tt te (own.map (·.2)) σ H Q)(adw:∀D C s' m H',Inv X ae σ H' s'->Q (.ref D) H'->s'.heap.Ns C m->me X ae H' C->qp (aR X.prog X.w) X.A X.xe use Qf (.ref D) C (.ok .next) s'):
  aK (aR X.prog X.w) X.A (comprehension (.ListComp io [#[tg,fE,hJ,0]] aB pos) aB X.env lT (newList []) false (eval fE X.env) use) Qf X.xe s:=by
 have xy:∀y∈aB.names,y.2=.free->∃c,X.env.cells.lookup y.1=some c:=λy hy e=>by
  rcases ok.free y hy e with k|k
  show I.ok.has _ (.inl k);show I.ok.has _ (.inr k)
 apply wpAny_comprehension_free (use:=use) rfl hs (Zo xy) ok.kind (λy hy e=>by rw[ok.uniq y hy,e])
  (cI (hi ae s σ H _ I h) λxv s1 hx=>cI hx λJm s2 h2=>?_)
 let#[it,fp,tn,J,H2,e,I2,T,E6,f2,q]:=h2;subst e;apply Ft (ahu ?_) (by show 0<=sizeLine;decide);generalize hD:s2.heap.objs.size=D;have adp:H2 D=none:=I2.aS.fresh (Gk hD);let#[W,#[m0,w0],vC]:=q D adp;generalize mD:({ s2 with heap:=s2.heap.push { cls:=.type "list",data:=.seq ([]:List af).toArray } }:ax)=s3;have I3:Inv X ae σ (upd H2 D (.lst [])) s3:=by
  rw[<-mD];apply I2.laid (t':=s2.toks) (λb o e=>cJ _ e) (Gk hD) #[eX _,[],0,.nil,?_];rw[<-hD];show eV _ rfl
 have h3:s3.heap=s2.heap.push { cls:=.type "list",data:=.seq ([]:List af).toArray }:=by rw[<-mD]
 have sz:∀b∈fp,b<s2.heap.objs.size:=λb hb=>by
  let#[o,e,_]:=T.obj _ _ E6 b hb;show cK e
 have f3:∀b∈fp,me X ae (upd H2 D (.lst [])) b/\b<s3.heap.objs.size:=λb hb=>by
  have hlt:=sz b hb;apply#[#[?_,(f2 b hb).2],by rw[h3,gC];show Cq hlt];rw[aG (by rw[<-hD];show dZ hlt)];show(f2 b hb).1
 have fY:tn 0 s3.heap:=T.keep _ _ _ E6 λb _ o e=>by rw[h3];show cJ _ e
 have I4:=(Y0 I3 ok hN f3).fw (jQ (aR X.prog X.w) X.A (g6 aB (f_ (s3.heap.objs.size+1) aB.names (fT X.env.cells aB.names [])) s3.heap.objs.size X.env) (λe i7=>qp (aR X.prog X.w) X.A X.xe use Qf (.ref D) s3.heap.objs.size (.error e) i7));have pg:=hg s3 (upd H2 D (.lst [])) s3.heap.objs.size (f_ (s3.heap.objs.size+1) aB.names (fT X.env.cells aB.names [])) fp (jQ (aR X.prog X.w) X.A (g6 aB (f_ (s3.heap.objs.size+1) aB.names (fT X.env.cells aB.names [])) s3.heap.objs.size X.env) (λe i7=>qp (aR X.prog X.w) X.A X.xe use Qf (.ref D) s3.heap.objs.size (.error e) i7));have pt:=ht s3 (upd H2 D (.lst [])) s3.heap.objs.size (f_ (s3.heap.objs.size+1) aB.names (fT X.env.cells aB.names [])) fp (jQ (aR X.prog X.w) X.A (g6 aB (f_ (s3.heap.objs.size+1) aB.names (fT X.env.cells aB.names [])) s3.heap.objs.size X.env) (λe i7=>qp (aR X.prog X.w) X.A X.xe use Qf (.ref D) s3.heap.objs.size (.error e) i7));have pe:=he s3 (upd H2 D (.lst [])) s3.heap.objs.size (f_ (s3.heap.objs.size+1) aB.names (fT X.env.cells aB.names [])) fp (jQ (aR X.prog X.w) X.A (g6 aB (f_ (s3.heap.objs.size+1) aB.names (fT X.env.cells aB.names [])) s3.heap.objs.size X.env) (λe i7=>qp (aR X.prog X.w) X.A X.xe use Qf (.ref D) s3.heap.objs.size (.error e) i7));show oY _ _ (.compStart (.ListComp io [#[tg,fE,hJ,0]] aB pos) 0 (.ref it) (.ref D) (g6 aB (f_ (s3.heap.objs.size+1) aB.names (fT X.env.cells aB.names [])) s3.heap.objs.size X.env)) (qp (aR X.prog X.w) X.A X.xe use Qf (.ref D) s3.heap.objs.size) { s3 with heap:=vf (s3.heap.push { cls:=.type "dict",data:=.dict (List.toArray []) }) aB.names };have pL:∀b∈fp,(upd H2 D (.lst [])) b=none:=λb hb=>(f3 b hb).1.1;generalize pp:g6 aB (f_ (s3.heap.objs.size+1) aB.names (fT X.env.cells aB.names [])) s3.heap.objs.size X.env=ce at I4 pg pt pe⊢;have cL:ce.locals=s3.heap.objs.size:=by subst pp;rfl
 have cF:ce.frame=X.env.frame:=by subst pp;rfl
 generalize hH3:upd H2 D (.lst [])=H3 at I3 I4 pg pt pe w0 pL f3;have pe:=pe (by
  rintro pl σ1 H1 s1 e s1' J ⟨a,C,H',rfl,F,hE⟩;show hX cL cF I3 (λb hb=>by
   rcases(f3 b hb).1.2.2.2.1 with z|z
   rw[hex]at z;cases z;show z) J F hE)
 generalize adA:jQ (aR X.prog X.w) X.A ce (λe i7=>qp (aR X.prog X.w) X.A X.xe use Qf (.ref D) s3.heap.objs.size (.error e) i7)=XB at I4 pg pt pe;generalize aeV:({ s3 with heap:=vf (s3.heap.push { cls:=.type "dict",data:=.dict (List.toArray []) }) aB.names }:ax)=s4 at I4⊢;have jX:tn 0 s4.heap:=T.keep _ _ _ fY λb _ o e=>by rw[<-aeV];show Kd _ _ _ _ (cJ _ e)
 have vx:∀{σ':St}{H':Hp}{s':ax},Inv ((X.f9 s3 H3 aB ce fp).fw XB) [] σ' H' s'->(∀b∈fp,H' b=none)->∀b∈fp,me ((X.f9 s3 H3 aB ce fp).fw XB) [] H' b:=λ{σ' H' s'} I' hn b hb=>
  #[hn b hb,(I'.ok.DA b hb).1,I'.ok.Ac b hb,.inl hb,λx c e=>(I'.ok.DA b hb).2 x c e,λp hp=>absurd (show p∈([]:List (aa×Obj))++[] from hp) ()]
 have Ri:oY (aR X.prog X.w) X.A (.compLoop (.ListComp io [#[tg,fE,hJ,0]] aB pos) 0 (.ref it) (.ref D) ce) (qp (aR X.prog X.w) X.A X.xe use Qf (.ref D) s3.heap.objs.size) s4:=by
  apply Zr (λn s'=>∃i H',Inv ((X.f9 s3 H3 aB ce fp).fw XB) [] (bD σ (own.map (·.2))) H' s'/\tn i s'.heap/\(∀b∈fp,H' b=none)/\W i n H') ?_ m0 #[0,H3,I4,jX,pL,w0];rintro n s5 ⟨i,H5,I5,tH,n5,w5⟩;rcases vC i n H5 w5 with⟨stop,qq⟩|⟨go,Nx,adu,step⟩
  have td:=T.done ((X.f9 s3 H3 aB ce fp).fw XB) rfl rfl rfl hc i [] s5 _ H5 (λ_ _=>False) I5 (vx I5 n5) tH stop;apply KN td λr s6 ⟨hr,I6⟩=>?_;subst hr;have I7:Inv X ae σ H5 s6:=I3.NA (ch:=fp) I6.os I6.base I6.aS I6.bare λb hb=>#[(f3 b hb).1.2.2.2.1,(f3 b hb).1.2.1,(f3 b hb).1.2.2.2.2.1,(f3 b hb).1.2.2.2.2.2];have nC:H5 s3.heap.objs.size=none:=by
   have z:H5 ce.locals=none:=I6.free;rw[cL]at z;show z
  let#[m,hn,_]:=I6.loc;have hn:s6.heap.Ns ce.locals m:=hn;rw[cL]at hn;show adw D s3.heap.objs.size s6 m H5 I7 qq hn (I3.xk (bj _) nC);have ti:=T.item ((X.f9 s3 H3 aB ce fp).fw XB) rfl rfl rfl hc i [] s5 _ H5 (λ_ _=>False) I5 (vx I5 n5) tH go;apply KN ti λr s6 ⟨u,hr,h6⟩=>?_;subst hr;apply KN h6 λ_ s7 ⟨x,H7,I7,r7,y7,vw,n7⟩=>?_;have I7':=I7.pinned (vx I7 n7) (T.obj _ _ vw);rw[adA];apply cI (pg _ s7 _ H7 x u _ I7' r7 (step x H7 y7)) λ_ s8 ⟨σ8,H8,I8,mE,q8⟩=>?_;apply cI (pt _ s8 σ8 H8 _ I8 q8) λb s9 ⟨H9,I9,q9⟩=>?_;have bW:∀{s':ax}{H':Hp},Inv ((X.f9 s3 H3 aB ce fp).fw XB) ([]++Bu fp s7.heap) σ8 H' s'->Nx H'->∃m,m<n/\∃i H',Inv ((X.f9 s3 H3 aB ce fp).fw XB) [] (bD σ (own.map (·.2))) H' s'/\tn i s'.heap/\(∀b∈fp,H' b=none)/\W i m H':=λ{s' H'} I' nx=>by
   let#[m',hm,w']:=adu H' nx;have Sn:∀b∈fp,∀o,s7.heap.get? b=some o->s'.heap.get? b=some o/\H' b=none:=λb hb o e=>
    let z:=I'.pin (b,o) (p5 _ (p5 _ (JH hb e)))
    #[z.1,z.2.1]
   have hl:(bD σ (own.map (·.2))).length=σ8.length:=by rw[<-mE,K7]
   apply#[m',hm,i+1,H',(I'.Ff (ae:=[])).weak hl (λj v e=>?_),T.keep _ _ _ vw λb hb o e=>(Sn b hb o e).1,λb hb=>?_,w'];rw[<-mE]at e;show(K8 e).1;let#[o,e,_]:=T.obj _ _ vw b hb;show(Sn b hb o e).2
  cases b with
  |false=>
   simp![bT,bI]at q9⊢;show bW I9 q9
  |true=>
   simp![bz]at q9⊢;apply cI (pe _ s9 σ8 H9 _ I9 q9) λz s10 ⟨yv,H10,VA,aiH,acc,adn,ae8,nx⟩=>?_;show YA (X:=(X.f9 s3 H3 aB ce fp).fw XB) VA adn ae8 aiH λs11 VC=>bW VC nx
 show codeAny_compStart_list Ri (T.self X.A 0 _ _ _ jX Ri)
def fX{io tg fE:Expr}{hJ:List Expr}{aB:dS}{own:List (Str×Nat)}{pos:Pos}{wi:TI}{g:TG}{tt:TT}{te:TE}(hX:B5 X Eb)(hex:X.ex=[])(hc:X.calm=true)(hN:X.N.Nodup)(hi:PI X tg fE wi)(ok:yI X.N X.env.scope aB own)(hg:∀(s:ax)(H:Hp)(C:aa)(cl:List (Str×aa))(fp:List aa)(xe:af->ax->Prop),PG ((X.f9 s H aB (g6 aB cl C X.env) fp).fw xe) tg g)(ht:∀(s:ax)(H:Hp)(C:aa)(cl:List (Str×aa))(fp:List aa)(xe:af->ax->Prop),zc ((X.f9 s H aB (g6 aB cl C X.env) fp).fw xe) hJ tt)(he:∀(s:ax)(H:Hp)(C:aa)(cl:List (Str×aa))(fp:List aa)(xe:af->ax->Prop),gI (c_ X.prog X.w) ((X.f9 s H aB (g6 aB cl C X.env) fp).fw xe) Eb->PE ((X.f9 s H aB (g6 aB cl C X.env) fp).fw xe) io te)(hs:∀x,foldedSetIterable fE X.env x=pure x:=by intro _;rfl):
  PE X (.ListComp io [#[tg,fE,hJ,0]] aB pos) (E' wi g tt te (own.map (·.2))):=by
 intro ae s σ H Q I h;rw[eval_ListComp];apply Q1 hX hex hc hN I hi ok hg ht he hs h λD C s' m H' I' q hn f=>#[m,hn,λph sb=>?_];let#[f0,f1,f2,f3,f4,f5]:=f;show#[.ref D,H',I'.turned (t':=s'.toks) (λb o hb e=>(sb.2 b hb).trans e) f0 f1 f3 f4 f5,rfl,q]
def yk{i:Nat}{y:Str}{py:Pos}{io tg fE:Expr}{hJ:List Expr}{aB:dS}{own:List (Str×Nat)}{pos T3:Pos}{wi:TI}{g:TG}{tt:TT}{te:TE}(hX:B5 X Eb)(hex:X.ex=[])(hc:X.calm=true)(hN:X.N.Nodup)(hy:X.N[i]? =some y)(Qv:X.env.scope.names.lookup y=some .local)(aeX:vy (.ListComp io [#[tg,fE,hJ,0]] aB pos) (some (.Name y py)) T3.line X.env=pure true)(hi:PI X tg fE wi)(ok:yI X.N X.env.scope aB own)(hg:∀(s:ax)(H:Hp)(C:aa)(cl:List (Str×aa))(fp:List aa)(xe:af->ax->Prop),PG ((X.f9 s H aB (g6 aB cl C X.env) fp).fw xe) tg g)(ht:∀(s:ax)(H:Hp)(C:aa)(cl:List (Str×aa))(fp:List aa)(xe:af->ax->Prop),zc ((X.f9 s H aB (g6 aB cl C X.env) fp).fw xe) hJ tt)(he:∀(s:ax)(H:Hp)(C:aa)(cl:List (Str×aa))(fp:List aa)(xe:af->ax->Prop),gI (c_ X.prog X.w) ((X.f9 s H aB (g6 aB cl C X.env) fp).fw xe) Eb->PE ((X.f9 s H aB (g6 aB cl C X.env) fp).fw xe) io te)(hs:∀x,foldedSetIterable fE X.env x=pure x:=by intro _;rfl):
  PS X (.Assign [.Name y py] (.ListComp io [#[tg,fE,hJ,0]] aB pos) T3) (E7 (E' wi g tt te (own.map (·.2))) (iU i)):=by
 intro ae s σ H D I h;rw[exec_Assign_Name_used _ _ _ _ aeX];apply aI (Le (aI ?_));show aK _ X.A (do let _<-comprehension (.ListComp io [#[tg,fE,hJ,0]] aB pos) aB X.env (firstIterPos [#[tg,fE,hJ,0]] pos) (newList []) false (eval fE X.env) (some (wT (.Name y py) X.env))) _ _ s;have h:E' wi g tt te (own.map (·.2)) σ H (λx H1=>iU i x σ H1 D.nx):=h;apply aI (cI (Q1 (Qf:=λ_ s'=>SP X ae D .next s') hX hex hc hN I hi ok hg ht he hs h λL C s' m H' I' q hn f=>?_) λ_ s' hq=>bR (bR hq));show aK _ _ (wT (.Name y py) X.env (.ref L)) _ _ _;apply am2 (Ud (v:=V.ref L) I' hN hy (.inl Qv) rfl (λs2 I2 ⟨a,sb,ha⟩=>?_) (.inr Qv));let#[f0,f1,f2,f3,f4,f5]:=f;have adB:C≠a:=by
  obtain z|z:=ha
  rw[z];show f1;show λe=>f4 y a z e.symm
 apply#[m,hn.sameBut sb adB,λh3 ajp=>?_];show#[_,H',I2.turned (t':=s2.toks) (λb o hb e=>(ajp.2 b hb).trans e) f0 f1 f3 f4 f5,q]
end
def Ii{K:aP}{a:aa}{xs:List V}{g:TG}{tb:TS}{D:m7}{σ:St}{H:Hp}(Pv:Nat->St->Hp->Prop)(h0:Pv 0 σ H)(hl:∀i σ H,i<=xs.length->Pv i σ H->az K H a xs)(hs:∀i x σ H,xs[i]? =some x->Pv i σ H->∀T,H T=none->g (.ref T) σ (upd H T (.tup [.int (i:Nat),x])) λσ2 H2=>tb { D with nx:=Pv (i+1),ct:=Pv (i+1),bk:=D.nx } σ2 H2)(aoF:∀σ H,Pv xs.length σ H->D.nx σ H):
  ∃W:Nat->Nat->St->Hp->Prop,(∃m,W 0 m σ H)/\∀i m σ H,W i m σ H->
   ((rq K a).stop i H/\D.nx σ H)\/((rq K a).go i H/\∃N:St->Hp->Prop,(∀σ' H',N σ' H'->∃m',m'<m/\W (i+1) m' σ' H')/\∀x H',(rq K a).ib i H x H'->g x σ H' λσ2 H2=>tb { D with nx:=N,ct:=N,bk:=D.nx } σ2 H2):=by
 apply#[λi m σ H=>m=xs.length-i/\i<=xs.length/\Pv i σ H,#[xs.length,by simp,eX _,h0],?_];rintro i m σ H ⟨rfl,hi,p⟩;have q:=hl i σ H hi p;by_cases hlt:i<xs.length
 apply .inr #[#[xs,xs[i],q,by simp[hlt]],Pv (i+1),λσ' H' p'=>#[xs.length-(i+1),by omega,rfl,hlt,p'],λx H' y=>?_];let#[T,x1,e,hT,eH,y]:=y;subst e eH;show hs i x1 σ _ (y xs q) p T hT;have e:i=xs.length:=by omega
 subst e;show .inl #[#[xs,q,bj _],aoF σ H p]
def af6{K:aP}{tt:TT}{te:TE}{σ:St}{H1:Hp}{Q:aa->Hp->Prop}{f:Nat->V->Bool}{h:Nat->V->V}{a:aa}{xs:List V}{i j:Nat}(hS:az K H1 a xs)(hz:xs.length<=sizeLine)(ht:∀k x,xs[k]? =some x->jD tt (((bD σ [i,j]).set i (some (.int (k:Nat)))).set j (some x)) H1 (f k x))(he:∀k x,xs[k]? =some x->f k x=true->jD te (((bD σ [i,j]).set i (some (.int (k:Nat)))).set j (some x)) H1 (h k x))(q:∀D H',am H1 H'->H' D=some (.lst ((((bv xs.length).zip xs).filter λz=>f z.1 z.2).map λz=>h z.1 z.2))->Q D H'):
  ∀D,H1 D=none->∃W:Nat->Nat->Hp->Prop,(∃m,W 0 m (upd H1 D (.lst [])))/\∀n m H,W n m H->
   ((rq K a).stop n H/\Q D H)\/((rq K a).go n H/\∃Nx:Hp->Prop,(∀H',Nx H'->∃m',m'<m/\W (n+1) m' H')/\∀x H',(rq K a).ib n H x H'->Ip K 2 (Io (iU i) (Io (iU j) Pn)) x (bD σ [i,j]) H' λσ2 H2=>bD σ2 [i,j]=bD σ [i,j]/\tt σ2 H2 λb H3=>
    if b=true then te σ2 H3 λy H4=>∃acc,H4 D=some (.lst acc)/\acc.length<sizeLine/\Nx (upd H4 D (.lst (acc++[y])))else Nx H3):=λD hD=>by
 apply#[λn m H=>m=xs.length-n/\n<=xs.length/\am H1 H/\H D=some (.lst (((((bv xs.length).zip xs).take n).filter λz=>f z.1 z.2).map λz=>h z.1 z.2)),#[xs.length,by simp,eX _,vj hD,by rw[aH];simp],?_];rintro n m H ⟨rfl,hn,s,e⟩;have hq:=s.seq hS;have D0:((bv xs.length).zip xs).length=xs.length:=by rw[Cj,ln,Nat.min_self]
 by_cases hlt:n<xs.length
 apply .inr #[#[xs,xs[n],hq,by simp[hlt]],λH'=>am H1 H'/\H' D=some (.lst (((((bv xs.length).zip xs).take (n+1)).filter λz=>f z.1 z.2).map λz=>h z.1 z.2)),λH' p'=>#[xs.length-(n+1),by omega,rfl,hlt,p'],λx H' y=>?_];let#[T,x1,ex,hT,eH,y]:=y;subst ex eH;have hx:=y xs hq;have xG:((bv xs.length).zip xs)[n]? =some (n,x1):=by rw[LO];show#[mh hlt,hx]
 have sT:am H (upd H T (.tup [.int (n:Nat),x1])):=vj hT;have s1:=s.trans sT;have e1:=sT _ _ e;apply#[T,_,rfl,bL.of aH,rfl,_,_,rfl,_,_,rfl,rfl,U5,ht n x1 hx _ _ s1 λH3 s3=>?_];cases hf:f n x1 with
 |false=>
  simp![bT,bI];apply#[s1.trans s3,?_];rw[gz xG,oH];simp![gd,hf,t8,bT,bI,eJ];show s3 _ _ e1
 |true=>
  simp![bz];apply he n x1 hx hf H3 _ (s1.trans s3) λH4 s4=>#[_,s4 _ _ (s3 _ _ e1),?_,?_,?_];rw[aD];apply kb (jw _ _) ?_;rw[ka];omega;intro b o hb;rw[aG (bf hb hD)];show s4 _ _ (s3 _ _ (s1 _ _ hb));rw[aH,gz xG,oH];simp![gd,hf,t8,bz,cB,ba,gY]
 have en:n=xs.length:=by omega
 subst en;rw[Cn (by rw[D0];show bj _)]at e;show .inl #[#[xs,hq,bj _],q D H s e]
def alQ(K:aP)(ta:TE):TT:=λσ H Q=>ta σ H λx H'=>∃k,CD K x H' k/\Q k H'
def yl{X:Cx}{K:aP}{a:Expr}{ta:TE}(hK:X.K=K)(ha:PE X a ta)(he:∀whole,xK a X.env whole=(do let v<-whole;tJ a.pos;lM [v] (truthy v))):PT X a (alQ K ta):=aiF hK ha he
section
variable{prog:aZ}{w:aW}{A:ci}{E:af->ax->Prop}{s:ax}
def ahw{ti tu:aa}{n:Nat}{vs:Array af}{v:af}{Q:af->ax->Prop}(iC:s.heap.IsTupleIter ti tu n)(ht:s.heap.IsTuple tu vs)(hv:vs[n]? =some v)(hQ:∀h',h'.IsTupleIter ti tu (n+1)->Cb ti s.heap h'->Q v { s with heap:=h' }):aK (aR prog w) A (vN (.ref ti)) Q E s:=by
 let#[b,hb,hc,aoF]:=id iC;let#[bl,kz,_,nl,IP]:=ht;unfold vN;apply aI (K' (name:=bN "__next__") iC.typeIs Gw (Fp Gw iC.typeIs Wx ?_ (Wu _)));show aK _ _ (sk (.ref ti) 0>>=_) _ _ s;apply aI (j0 hb aoF (x:=.ref tu) rfl ?_);show aK _ _ (if (fD tu==qb)=true then _ else _) _ _ s;rw[ay (show ¬((fD tu==qb)=true) from dh)];show aK _ _ (sk (.ref ti) 1>>=_) _ _ s;apply aI (j0 hb aoF (x:=.int n 0) rfl ?_);show aK _ _ (vm (.ref tu)>>=_) _ _ s;apply aI (mX kz IP ?_);simp![oE,hv];apply aI (Ld hb aoF () (bR #[v,rfl,bR (hQ _ #[_,vW _ hb (Wn (Gr aoF _)),(Obj.cls_mapFields ..).trans hc,?_] (Vz ..))]));rw[Gr aoF];simp[lU]
def ahx{ti tu:aa}{n:Nat}{vs:Array af}{Q:af->ax->Prop}(hh:A.handled=none)(iC:s.heap.IsTupleIter ti tu n)(ht:s.heap.IsTuple tu vs)(hv:vs[n]? =none)(hE:∀h' e,Heap.ExtBut ti s.heap h'->(∃o,h'.get? e=some o/\o.cls=.type "StopIteration")->E (.ref e) { s with heap:=h' }):aK (aR prog w) A (vN (.ref ti)) Q E s:=by
 let#[b,hb,hc,aoF]:=id iC;let#[bl,kz,_,nl,IP]:=ht;unfold vN;apply aI (K' (name:=bN "__next__") iC.typeIs Gw (Fp Gw iC.typeIs Wx ?_ (Wu _)));show aK _ _ (sk (.ref ti) 0>>=_) _ _ s;apply aI (j0 hb aoF (x:=.ref tu) rfl ?_);show aK _ _ (if (fD tu==qb)=true then _ else _) _ _ s;rw[ay (show ¬((fD tu==qb)=true) from dh)];show aK _ _ (sk (.ref ti) 1>>=_) _ _ s;apply aI (j0 hb aoF (x:=.int n 0) rfl ?_);show aK _ _ (vm (.ref tu)>>=_) _ _ s;apply aI (mX kz IP ?_);simp![oE,hv];apply aI (Fu (aI (Ld hb aoF () ?_)));show aK _ _ (newExc (.type "StopIteration") []>>=_) _ _ _;apply aI ?_;simp![newExc,newTuple];apply aI (Ft ?_ (by size_fits));apply aI (m:=firstArgMember _ _) (Lb (a:=qb) (by first|rfl|(simp![firstArgMember];rfl)) (Ft ?_ (by size_fits)));simp![raiseNew];apply aI (wpAny_handled ?_)
 first|rw[show A.in1.handled=none from hh];skip|rw[hh]
 apply aI (bR (wpAny_throw (hE _ _ (((Vz ..).extBut.push _).push _) #[_,eV _ rfl,rfl])))
def anb{z TI TO i1 i2 l1 l2:aa}{k1 k2:Nat}{xs ys:Array af}{x y a b:af}{Q:af->ax->Prop}(D:CT z TI TO i1 i2 l1 l2)(hz:j_ s.heap z TI TO .none)(gt:gD s.heap TI (.ref i1) (.ref i2))(iV:gD s.heap TO a b)(h1:s.heap.IsTupleIter i1 l1 k1)(h2:s.heap.IsListIter i2 l2 k2)(jj:s.heap.IsTuple l1 xs)(hl2:s.heap.IsList l2 ys)(hx:xs[k1]? =some x)(hy:ys[k2]? =some y)(hQ:∀h',j_ h' z TI TO (lU s.heap.objs.size)->gD h' TO x y->h'.IsTupleIter i1 l1 (k1+1)->h'.IsListIter i2 l2 (k2+1)->gD h' s.heap.objs.size x y->h'.objs.size=s.heap.objs.size+1->
   (∀c o,c≠z->c≠TO->c≠i1->c≠i2->s.heap.get? c=some o->h'.get? c=some o)->Q (.ref s.heap.objs.size) { s with heap:=h' }):
  aK (aR prog w) A (Builtin.«zip.__next__» #[[.ref z],[]]) (λbW s'=>∃v,bW=.done (.ret v)/\Q v s') E s:=by
 show aK _ _ (sk (.ref z) 2>>=_) _ _ _;apply aI (j0 hz rfl (x:=.bool false) rfl ?_);show aK _ _ (sk (.ref z) 3>>=_) _ _ _;apply aI (j0 hz rfl (x:=.ref TI) rfl ?_);apply aI (mX gt rfl ?_);show aK _ _ (FK (.ref z)>>=_) _ _ _;apply aI ?_;unfold FK;apply aI (j0 hz rfl (x:=.none) rfl (bR ?_));simp![bz];apply aI (Fu ?_);apply aI (j0 hz rfl (x:=.ref TO) rfl ?_);apply aI (Fv hz () λha za sa=>?_);replace za:j_ ha z TI TO .ellipsis:=za;apply aI ?_;simp![Wf,Wg,F4,F5];apply aI (aI (U_ ?_));show aK _ _ (vN (.ref i1)>>=_) _ _ _;apply aI (ahw (h1.extBut sa.extBut D.i1z) (jj.extBut sa.extBut D.l1z) hx λhb afa sb=>bR ?_);have MF:gD hb TO a b:=sb.extBut _ _ D.TOi1 (sa.extBut _ _ D.TOz iV);apply aI (mX MF rfl ?_);apply aI (am7 MF λhc GF sc=>?_);replace GF:gD hc TO x b:=GF;apply aI (re (bR ?_));apply aI (aI (U_ ?_));show aK _ _ (vN (.ref i2)>>=_) _ _ _;apply aI (wpAny_nextOf_list_item (((h2.extBut sa.extBut D.i2z).extBut sb.extBut D.i12.symm).extBut sc.extBut D.TOi2.symm)
  (((hl2.extBut sa.extBut D.l2z).extBut sb.extBut D.l2i1).extBut sc.extBut D.l2TO) hy λaoF afc sd=>bR ?_)
 have MG:gD aoF TO x b:=sd.extBut _ _ D.TOi2 GF;apply aI (mX MG rfl ?_);apply aI (am7 MG λhe CB se=>?_);replace CB:gD he TO x y:=CB;apply aI (re (bR (bR ?_)));apply aI (mX CB rfl ?_);apply aI (wpAny_newTuple ?_);have hsz:he.objs.size=s.heap.objs.size:=by rw[se.1,sd.1,sc.1,sb.1,sa.1]
 have ze:j_ he z TI TO .ellipsis:=se.extBut _ _ D.TOz.symm (sd.extBut _ _ D.i2z.symm (sc.extBut _ _ D.TOz.symm (sb.extBut _ _ D.i1z.symm za)));have ke:∀c o,c≠z->c≠TO->c≠i1->c≠i2->s.heap.get? c=some o->he.get? c=some o:=λc o c1 c2 c3 c4 e=>se.extBut _ _ c2 (sd.extBut _ _ c4 (sc.extBut _ _ c2 (sb.extBut _ _ c3 (sa.extBut _ _ c1 e))));have afb:he.IsTupleIter i1 l1 (k1+1):=((afa.extBut sc.extBut D.TOi1.symm).extBut sd.extBut D.i12).extBut se.extBut D.TOi1.symm;have afd:he.IsListIter i2 l2 (k2+1):=afc.extBut se.extBut D.TOi2.symm;have Vc:z<he.objs.size:=cK ze;show aK _ _ (Vk (.ref z) (.ref he.objs.size)>>=_) _ _ _;apply aI ?_;unfold Vk;have zf:j_ (he.push { cls:=.type "tuple",data:=.seq (List.toArray [x,y]) }) z TI TO .ellipsis:=cJ _ ze;apply aI (Fv zf () λhg zg sg=>?_);replace zg:j_ hg z TI TO (lU he.objs.size):=zg;apply Fv zg () λhi zi si=>?_;replace zi:j_ hi z TI TO (lU he.objs.size):=zi;have up:∀c o,c≠z->he.get? c=some o->hi.get? c=some o:=λc o c1 e=>si.extBut _ _ c1 (sg.extBut _ _ c1 (cJ _ e));have Ti:gD hi he.objs.size x y:=si.extBut _ _ (wj Vc) (sg.extBut _ _ (wj Vc) (eV _ rfl));have zz:hi.objs.size=he.objs.size+1:=by rw[si.1,sg.1,gC]
 rw[hsz]at zi Ti zz;apply bR #[_,rfl,?_];show Q (.ref he.objs.size) _;rw[hsz];show hQ hi zi (up _ _ D.TOz CB) (afb.at λo e=>up _ o D.i1z e) (afd.at λo e=>up _ o D.i2z e) Ti zz λc o c1 c2 c3 c4 e=>up c o c1 (ke c o c1 c2 c3 c4 e)
def am'{z TI TO i1 i2 l1 l2:aa}{k1:Nat}{xs:Array af}{a b:af}{Q:Fin->ax->Prop}(hh:A.handled=none)(D:CT z TI TO i1 i2 l1 l2)(hz:j_ s.heap z TI TO .none)(gt:gD s.heap TI (.ref i1) (.ref i2))(iV:gD s.heap TO a b)(h1:s.heap.IsTupleIter i1 l1 k1)(jj:s.heap.IsTuple l1 xs)(hx:xs[k1]? =none)(hE:∀h' e,(∀c o,c≠z->c≠i1->s.heap.get? c=some o->h'.get? c=some o)->(∃o,h'.get? e=some o/\o.cls=.type "StopIteration")->E (.ref e) { s with heap:=h' }):
  aK (aR prog w) A (Builtin.«zip.__next__» #[[.ref z],[]]) Q E s:=by
 show aK _ _ (sk (.ref z) 2>>=_) _ _ _;apply aI (j0 hz rfl (x:=.bool false) rfl ?_);show aK _ _ (sk (.ref z) 3>>=_) _ _ _;apply aI (j0 hz rfl (x:=.ref TI) rfl ?_);apply aI (mX gt rfl ?_);show aK _ _ (FK (.ref z)>>=_) _ _ _;apply aI ?_;unfold FK;apply aI (j0 hz rfl (x:=.none) rfl (bR ?_));simp![bz];apply aI (Fu ?_);apply aI (j0 hz rfl (x:=.ref TO) rfl ?_);apply aI (Fv hz () λha za sa=>?_);replace za:j_ ha z TI TO .ellipsis:=za;apply aI ?_;simp![Wf,Wg,F4,F5];apply aI (aI (U_ ?_));show aK _ _ (vN (.ref i1)>>=_) _ _ _;apply aI (ahx hh (h1.extBut sa.extBut D.i1z) (jj.extBut sa.extBut D.l1z) hx λhb e sb ⟨oe,IY,pp⟩=>?_);have zb:j_ hb z TI TO .ellipsis:=sb _ _ D.i1z.symm za;have ad3:e≠z:=λx=>by subst x;rw[zb]at IY;cases IY;simp at pp
 apply Fv zb () λhc _ sc=>hE hc e (λc o c1 c3 x=>sc.extBut _ _ c1 (sb _ _ c3 (sa.extBut _ _ c1 x))) #[oe,sc.extBut _ _ ad3 IY,pp]
def ahy{z TI TO i1 i2 l1 l2:aa}{k1 k2:Nat}{xs ys:Array af}{x y a b:af}{Q:Option af->ax->Prop}(D:CT z TI TO i1 i2 l1 l2)(hz:j_ s.heap z TI TO .none)(gt:gD s.heap TI (.ref i1) (.ref i2))(iV:gD s.heap TO a b)(h1:s.heap.IsTupleIter i1 l1 k1)(h2:s.heap.IsListIter i2 l2 k2)(jj:s.heap.IsTuple l1 xs)(hl2:s.heap.IsList l2 ys)(hx:xs[k1]? =some x)(hy:ys[k2]? =some y)(hQ:∀h',j_ h' z TI TO (lU s.heap.objs.size)->gD h' TO x y->h'.IsTupleIter i1 l1 (k1+1)->h'.IsListIter i2 l2 (k2+1)->gD h' s.heap.objs.size x y->h'.objs.size=s.heap.objs.size+1->
   (∀c o,c≠z->c≠TO->c≠i1->c≠i2->s.heap.get? c=some o->h'.get? c=some o)->Q (some (.ref s.heap.objs.size)) { s with heap:=h' }):aK (aR prog w) A (kU (.ref z)) Q E s:=by
 have hT:s.TypeIs (.ref z) "zip":=#[_,hz,rfl];unfold kU;show aI (wpAny_attempt (K' (name:=bN "__next__") hT Gx (Fp Gx hT Wy
   (anb D hz gt iV h1 h2 jj hl2 hx hy λh' a1 a2 a3 a4 a5 a6 a7=>bR (hQ h' a1 a2 a3 a4 a5 a6 a7)) (Wv _))))
def ahz{z TI TO i1 i2 l1 l2:aa}{k1:Nat}{xs:Array af}{a b:af}{Q:Option af->ax->Prop}(hh:A.handled=none)(D:CT z TI TO i1 i2 l1 l2)(hz:j_ s.heap z TI TO .none)(gt:gD s.heap TI (.ref i1) (.ref i2))(iV:gD s.heap TO a b)(h1:s.heap.IsTupleIter i1 l1 k1)(jj:s.heap.IsTuple l1 xs)(hx:xs[k1]? =none)(hQ:∀h',(∀c o,c≠z->c≠i1->s.heap.get? c=some o->h'.get? c=some o)->Q none { s with heap:=h' }):aK (aR prog w) A (kU (.ref z)) Q E s:=by
 have hT:s.TypeIs (.ref z) "zip":=#[_,hz,rfl];unfold kU;apply aI (wpAny_attempt (K' (name:=bN "__next__") hT Gx (Fp Gx hT Wy
   (am' hh D hz gt iV h1 jj hx λh' e hk ⟨o,ho,hc⟩=>?_) (Wv _))))
 show aI (wpAny_isInstance (T:="StopIteration") (b:=true) #[o,ho,hc] isSubtype_stop (bR (hQ _ hk)))
end
abbrev Fy(h:aL)(l1:aa):aL:=h.push { cls:=.type "tuple_iterator",data:=.fields (List.toArray [.ref l1,.int 0 0]) }
abbrev Fz(h:aL)(l1 l2:aa):aL:=(Fy h l1).push { cls:=.type "list_iterator",data:=.fields (List.toArray [.ref l2,.int 0 0]) }
abbrev FA(h:aL)(l1 l2:aa):aL:=(Fz h l1 l2).push { cls:=.type "tuple",data:=.seq (List.toArray [.ref h.objs.size,.ref (Fy h l1).objs.size]) }
abbrev FC(h:aL)(l1 l2:aa):aL:=(FA h l1 l2).push { cls:=.type "tuple",data:=.seq (List.toArray [.none,.none]) }
abbrev vK(h:aL)(l1 l2:aa):aL:=(FC h l1 l2).push { cls:=.type "zip",data:=.fields (List.toArray [.none,.bool false,.bool false,.ref (Fz h l1 l2).objs.size,.ref (FA h l1 l2).objs.size]) }
def agO(l1 l2:aa)(xs ys:Array af):Meets (Builtin.«zip.__new__» #[[.type "zip",.ref l1,.ref l2],[]]) (λ_ R s=>s.heap.IsTuple l1 xs/\s.heap.IsList l2 ys/\
   R (.ok (.ret (.ref (FC s.heap l1 l2).objs.size))) { s with heap:=vK s.heap l1 l2 }):=
 .of_wp λprog w A R s h=>by
  let#[hp,g,d,tk,os]:=s;let#[ha,hb,h]:=h;have hsub:=sub_zip;have hA:Heap.IsTuple (W1 #[hp,g,d,tk,os]) l1 xs:=ha;have hB:Heap.IsList (W1 #[hp.push { cls:=.type "tuple_iterator",data:=.fields (List.toArray [.ref l1,.int 0 0]) },g,d,tk,os]) l2 ys:=Heap.IsList.push hb _
  wp_walk using wpAny_pyIter_tuple hA,Lc hB
  show#[_,rfl,h]
section
variable{prog:aZ}{w:aW}{A:ci}{E:af->ax->Prop}{s:ax}
def Zg{l1 l2:aa}{xs ys:Array af}{Q:af->ax->Prop}(jj:s.heap.IsTuple l1 xs)(hl2:s.heap.IsList l2 ys)(h:∀h',j_ h' (s.heap.objs.size+4) (s.heap.objs.size+2) (s.heap.objs.size+3) .none->gD h' (s.heap.objs.size+2) (.ref s.heap.objs.size) (.ref (s.heap.objs.size+1))->
   gD h' (s.heap.objs.size+3) .none .none->h'.IsTupleIter s.heap.objs.size l1 0->h'.IsListIter (s.heap.objs.size+1) l2 0->h'.objs.size=s.heap.objs.size+5->(∀c o,s.heap.get? c=some o->h'.get? c=some o)->Q (.ref (s.heap.objs.size+4)) { s with heap:=h' }):
  aK (aR prog w) A (call (.type "zip") [.ref l1,.ref l2]) Q E s:=by
 apply callType_new PySem.F.called_zip () (PySem.F.typeCall_zip_2 _ _) (PySem.F.newCall_zip_2 _ _) (λobj=>PySem.F.args_object_init_3 obj _ _) PySem.F.entry_zip_new (agO l1 l2 xs ys) #[jj,hl2,?_];have z1:(Fy s.heap l1).objs.size=s.heap.objs.size+1:=gC ..
 have z2:(Fz s.heap l1 l2).objs.size=s.heap.objs.size+2:=by rw[gC,z1]
 have z3:(FA s.heap l1 l2).objs.size=s.heap.objs.size+3:=by rw[gC,z2]
 have z4:(FC s.heap l1 l2).objs.size=s.heap.objs.size+4:=by rw[gC,z3]
 have z5:(vK s.heap l1 l2).objs.size=s.heap.objs.size+5:=by rw[gC,z4]
 have g5:(vK s.heap l1 l2).get? (FC s.heap l1 l2).objs.size=some _:=eV _ rfl;have g4:(vK s.heap l1 l2).get? (FA s.heap l1 l2).objs.size=some _:=cJ _ (eV _ rfl);have g3:(vK s.heap l1 l2).get? (Fz s.heap l1 l2).objs.size=some _:=cJ _ (cJ _ (eV _ rfl));have g2:(vK s.heap l1 l2).get? (Fy s.heap l1).objs.size=some _:=cJ _ (cJ _ (cJ _ (eV _ rfl)));have g1:(vK s.heap l1 l2).get? s.heap.objs.size=some _:=cJ _ (cJ _ (cJ _ (cJ _ (eV _ rfl))));show _/\_;rw[z2,z3,z4]at g5;rw[z1,z2]at g3;rw[z3]at g4;rw[z1]at g2;rw[z4];show#[#[_,g5,rfl],h _ g5 g3 g4 #[_,g1,rfl,rfl] #[_,g2,rfl,rfl] z5 λc o x=>cJ _ (cJ _ (cJ _ (cJ _ (cJ _ x))))]
end
def yR(K:aP)(a b:aa):It:=
 #[λi H=>∃(xs ys:List V)(x y:V),bL K H a xs/\az K H b ys/\xs[i]? =some x/\ys[i]? =some y,
  λi H v H'=>∃T x y,v=.ref T/\H T=none/\H'=upd H T (.tup [x,y])/\(∀xs,bL K H a xs->xs[i]? =some x)/\∀ys,az K H b ys->ys[i]? =some y,
  λi H=>∃xs:List V,bL K H a xs/\xs.length<=i]
def amG{P:aZ}{w:aW}{K:aP}{uF:List Expr}{kk:Nat}{rb:Pos}{a b z TI TO i1 i2:aa}(D:CT z TI TO i1 i2 a b):
  rL P w K (.Tuple uF kk rb) (yR K a b) [z,TI,TO,i1,i2] z (λi h=>j_ h z TI TO .none/\gD h TI (.ref i1) (.ref i2)/\(∃x y,gD h TO x y)/\h.IsTupleIter i1 a i/\h.IsListIter i2 b i) where
 mem:=by simp
 obj:=λi h st c hc=>by
  let#[hz,gt,#[x,y,iV],#[o1,e1,_,d1],#[o2,e2,_,d2]]:=st;have e':c=z\/c=TI\/c=TO\/c=i1\/c=i2:=by simpa using hc
  obtain q|q|q|q|q:=e'
  rw[q];show#[_,hz,λv q=>nomatch q];rw[q];show#[_,gt,λv q=>nomatch q];rw[q];show#[_,iV,λv q=>nomatch q];rw[q];show#[o1,e1,λv q=>by rw[d1]at q;cases q];rw[q];show#[o2,e2,λv q=>by rw[d2]at q;cases q]
 keep:=λi h h' st k=>by
  let#[hz,gt,#[x,y,iV],h1,h2]:=st;show#[k z () _ hz,k TI () _ gt,#[x,y,k TO () _ iV],h1.at λo q=>k i1 () o q,h2.at λo q=>k i2 () o q]
 item:=by
  intro X hP hw hK hc i ae s σ H E I hf st hg;subst hP hw hK;let#[hz,gt,#[x0,y0,iV],h1,h2]:=st;let#[xs,ys,x,y,xC,DY,hx,hy]:=hg;let#[aF,rv,p,_]:=I.tuple xC;let#[qD,S3,p2,_]:=I.list DY;let#[u,hu,ru]:=rv.get hx;let#[u2,Jc,Kg]:=S3.get hy;have D0:z<s.heap.objs.size:=cK hz;apply ahy D hz gt iV h1 h2 (show s.heap.IsTuple a aF.toArray from p) p2.isList (x:=u) (y:=u2) (by simpa using hu) (by simpa using Jc) λh' z' W3 h1' adj hT hsz hk=>?_;apply#[_,rfl,wpAny_letOwnedTupleGo_zip (s:={ s with heap:=h' }) z' λph am9 sb=>?_];have IC:ph.get? s.heap.objs.size=some { cls:=.type "tuple",data:=.seq (List.toArray [u,u2]) }:=(sb.2 _ (wj D0)).trans hT;have new:dM X.prog X.w (upd H s.heap.objs.size (.tup [x,y])) ph s.heap.objs.size (.tup [x,y]):=#[by show 2<=sizeLine;decide,[u,u2],.cons ru (.cons Kg .nil),#[_,IC,rfl,_,rfl]];have I1:Inv X ae σ (upd H s.heap.objs.size (.tup [x,y])) { s with heap:=ph }:=
   I.UK (t':=s.toks) (ch:=[z,TI,TO,i1,i2]) (λc o hb q=>(sb.2 c (λq'=>hb (by simp[q']))).trans (hk c o (λq'=>hb (by simp[q'])) (λq'=>hb (by simp[q'])) (λq'=>hb (by simp[q'])) (λq'=>hb (by simp[q'])) q)) hf (bj _) new
  apply#[.ref s.heap.objs.size,_,I1,rfl,#[_,x,y,rfl,I.aS.fresh (bj _),rfl,λl hl=>by rw[I.amB hl xC];show hx,λl hl=>by rw[I.Jy hl DY];show hy],#[am9,?_,#[u,u2,?_],?_,?_],λc DO=>?_];show(sb.2 _ D.TIz).trans (hk _ _ D.TIz D.TITO D.TIi1 D.TIi2 gt);show(sb.2 _ D.TOz).trans W3;show h1'.at λo q=>(sb.2 _ D.i1z).trans q;show adj.at λo q=>(sb.2 _ D.i2z).trans q;have hlt:c<s.heap.objs.size:=by
   have e':c=z\/c=TI\/c=TO\/c=i1\/c=i2:=by simpa using DO
   obtain q|q|q|q|q:=e'
   rw[q];show D0;rw[q];show cK gt;rw[q];show cK iV;rw[q];let#[_,e1,_]:=h1;show cK e1;rw[q];let#[_,e2,_]:=h2;show cK e2
  rw[aG (dZ hlt)];show(hf c DO).1
 done:=by
  intro X hP hw hK hc i ae s σ H E I hf st hg;subst hP hw hK;let#[hz,gt,#[x0,y0,iV],h1,h2]:=st;let#[xs,xC,PR]:=hg;let#[aF,rv,p,_]:=I.tuple xC;have l1:=rv.length;show ahz (I.ok.aoF hc) D hz gt iV h1 (show s.heap.IsTuple a aF.toArray from p) (by simp;omega) λh' hk=>#[rfl,I.amH (t':=s.toks) (ch:=[z,TI,TO,i1,i2]) (λc o hb q=>hk c o (λq'=>hb (by simp[q'])) (λq'=>hb (by simp[q'])) q) hf]
 self:=λA i s Q E st h=>wpAny_pyIter_zip st.1 h
def afk(K:aP)(ta:TA):TI:=λσ H R=>ta σ H λvs H1=>∃a b xs ys,vs=[.ref a,.ref b]/\bL K H1 a xs/\az K H1 b ys/\R (yR K a b) H1
def aiz{X:Cx}{e e2:Expr}{ta:TA}{p pos rb:Pos}{uF:List Expr}{kk:Nat}(hg:Gl X "zip")(hm:X.mg "zip"=none)(ha:PA X [e,e2] ta)(hs:bJ [e,e2] X.env=(false,eval e X.env)::bJ [e2] X.env:=by rfl)(hpl:(eL pos (bJ [e2] X.env)).any (·.1)=false:=by rfl):PI X (.Tuple uF kk rb) (.Call (.Name "zip" p) [e,e2] [] pos) (afk X.K ta):=by
 intro ae s σ H R I h;apply Call_ (qK I hg hm Y1 (Cv (cI (ha pos ae s σ H _ I h) λus s1 ⟨vs,H1,I1,r1,q1⟩=>?_) hs hpl));let#[a,b,xs,ys,ex,xC,DY,q]:=q1;subst ex;cases r1 with
 |cons r rr=>
  cases rr with
  |cons r' rr=>
   cases rr;cases r;cases r';let#[aF,rv,p1,_]:=I1.tuple xC;let#[qD,S3,p2,_]:=I1.list DY;have la:a<s1.heap.objs.size:=by let#[o,eo,_]:=p1;show cK eo
   have lb:b<s1.heap.objs.size:=p2.lt;apply Zg (show s1.heap.IsTuple a aF.toArray from p1) p2.isList λh' hz gt iV h1 h2 hsz hk=>wpAny_pyIter_zip hz ?_;have I2:Inv X ae σ H1 { s1 with heap:=h' }:=I1.kept (t':=s1.toks) hk;apply#[s1.heap.objs.size+4,[s1.heap.objs.size+4,s1.heap.objs.size+2,s1.heap.objs.size+3,s1.heap.objs.size,s1.heap.objs.size+1],_,_,H1,rfl,I2,amG (PySem.W.ktu_apart s1.heap.objs.size a b la lb),#[hz,gt,#[_,_,iV],h1,h2],λc DO=>?_,q];have e':c=s1.heap.objs.size+4\/c=s1.heap.objs.size+2\/c=s1.heap.objs.size+3\/c=s1.heap.objs.size\/c=s1.heap.objs.size+1:=by simpa using DO
   have hle:s1.heap.objs.size<=c:=by
    obtain z|z|z|z|z:=e'
    rw[z];show Co _ _;rw[z];show Co _ _;rw[z];show Co _ _;rw[z];show bj _;rw[z];show Co _ _
   show I1.xk hle (I1.aS.fresh hle)
def ac7{K:aP}{a b:aa}{xs ys:List V}{g:TG}{tb:TS}{D:m7}{σ:St}{H:Hp}(he:ys.length=xs.length)(Pv:Nat->St->Hp->Prop)(h0:Pv 0 σ H)(hl:∀i σ H,i<=xs.length->Pv i σ H->bL K H a xs/\az K H b ys)(hs:∀i x y σ H,xs[i]? =some x->ys[i]? =some y->Pv i σ H->∀T,H T=none->g (.ref T) σ (upd H T (.tup [x,y])) λσ2 H2=>tb { D with nx:=Pv (i+1),ct:=Pv (i+1),bk:=D.nx } σ2 H2)(aoF:∀σ H,Pv xs.length σ H->D.nx σ H):
  ∃W:Nat->Nat->St->Hp->Prop,(∃m,W 0 m σ H)/\∀i m σ H,W i m σ H->
   ((yR K a b).stop i H/\D.nx σ H)\/((yR K a b).go i H/\∃N:St->Hp->Prop,(∀σ' H',N σ' H'->∃m',m'<m/\W (i+1) m' σ' H')/\∀x H',(yR K a b).ib i H x H'->g x σ H' λσ2 H2=>tb { D with nx:=N,ct:=N,bk:=D.nx } σ2 H2):=by
 apply#[λi m σ H=>m=xs.length-i/\i<=xs.length/\Pv i σ H,#[xs.length,by simp,eX _,h0],?_];rintro i m σ H ⟨rfl,hi,p⟩;let#[q1,q2]:=hl i σ H hi p;by_cases hlt:i<xs.length
 apply .inr #[#[xs,ys,xs[i],ys[i]'(),q1,q2,by simp[hlt],by rw[ca]],Pv (i+1),λσ' H' p'=>#[xs.length-(i+1),by omega,rfl,hlt,p'],λx H' y=>?_];let#[T,x1,y1,e,hT,eH,yx,yy]:=y;subst e eH;show hs i x1 y1 σ _ (yx xs q1) (yy ys q2) p T hT;have e:i=xs.length:=by omega
 subst e;show .inl #[#[xs,q1,bj _],aoF σ H p]
end L2
namespace L2
open PySem PySem.Spec PyProof.Rows
open PySem.W (tabObj CodeHd kla_obj kla_fn envX)
def tK(Pt:aa):HO:=.ext λh=>h.get? Pt=some (pS (List.toArray []))
def yA(Pt:aa)(lp:Pos)(c:aa):HO:=.ext λh=>h.get? Pt=some (pS (List.toArray [lU lp.line,lU lp.col,.ref c]))
def oZ(c:aa)(qual:Str):HO:=.ext λh=>h.CodeRec (.ref c) qual
def nJ(f:aa)(o:Obj):HO:=.ext λh=>h.get? f=some o
structure CC (mg:Str->Option af)(base:aL)(c Pt:aa):Prop where
 aoF:CodeHd base c Pt
 bm:base.BuiltinsAt mg Pt
section
variable{X:Cx}{ae:List (aa×Obj)}{σ:St}{H:Hp}{s:ax}
def Inv.grown{Pt c':aa}{φ ψ χ:aL->Prop}{h':aL}{t':Nat}(I:Inv X ae σ H s)(hP:H Pt=some (.ext φ))(hx:Heap.ExtBut Pt s.heap h')(hc:s.heap.objs.size<=c')(En:dM X.prog X.w H h' Pt (.ext ψ))(JM:dM X.prog X.w H h' c' (.ext χ)):
  Inv X ae σ (upd (upd H Pt (.ext ψ)) c' (.ext χ)) { s with heap:=h',toks:=t' }:=by
 have nO:H c'=none:=I.aS.fresh hc;have hpc:Pt≠c':=bf hP nO;have nP:∀b,H b=none->b≠Pt:=λb n z=>by rw[z,hP]at n;cases n
 have lt:∀b o,s.heap.get? b=some o->b≠c':=λb o e=>dZ (fj (cK e) hc);have old:∀b o,H b=some o->(∀φ,o≠.ext φ)->upd (upd H Pt (.ext ψ)) c' (.ext χ) b=some o:=λb o e ne=>by
  rw[aG (bf e nO),aG (λz=>by rw[z,hP]at e;show ne φ (cV e).symm)];show e
 apply I.un #[λb o e n _ _=>hx b o (nP b n) e,λb o e n _ _=>#[o.slots,hx b o (nP b n) e],λb o e n _=>by rw[aG (lt b o e),aG (nP b n)];show n,λb o e _=>?_,λb xs e=>old b _ e nofun,λb o u e=>old b _ e nofun,λb ps e=>#[(List.toArray []),by rw[old b _ e nofun,Vg]]] λb o e=>?_;by_cases hb:b=Pt
 subst hb;let#[_,#[o',e'],_]:=En;show#[o',e'];show#[o,hx b o hb e];by_cases h1:b=c'
 subst h1;rw[aH]at e;cases e;show JM;rw[aG h1]at e;by_cases h2:b=Pt
 subst h2;rw[aH]at e;cases e;show En;rw[aG h2]at e;apply(I.aS b o e).kW (λd u aoF q=>hx d u (λz=>?_) q) (λd q=>old d _ q nofun) λd xs q=>old d _ q nofun;obtain aoF|aoF:=aoF
 show h2 (aoF.symm.trans z);rw[z,hP]at aoF;cases aoF
def NM{c:aa}{qual:Str}{h1 h2:aL}(x:h1.CodeRec (.ref c) qual)(k:∀o,h1.get? c=some o->h2.get? c=some o):h2.CodeRec (.ref c) qual:=by
 let#[c2,oc,vs,t,e2,xA,aoF,hv]:=x;cases e2;show#[c,oc,vs,t,rfl,k _ xA,aoF,hv]
def alC(Pt:aa)(lp:Pos)(qual:Str)(ob:aa->af->Obj):TE:=λ_ H Q=>
 (H Pt=some (tK Pt)/\∀c f ct,H c=none->H f=none->f≠c->Q (.ref f) (upd (upd (upd H Pt (yA Pt lp c)) c (oZ c qual)) f (nJ f (ob c ct))))\/
 ∃c,H Pt=some (yA Pt lp c)/\H c=some (oZ c qual)/\∀f ct,H f=none->Q (.ref f) (upd H f (nJ f (ob c ct)))
def ain{Bv:FE}{fS:Expr}{BI:dS}{lp:Pos}{c Pt:aa}{clos:List (Str×aa)}(TB:CC X.mg X.base c Pt)(hcode:X.env.code=.ref c)(adU:defaultsOf Bv X.env=([],[]):=by rfl)(gk:NK BI X.env=pure clos:=by rfl):
  PE X (.Lambda Bv fS BI lp) (alC Pt lp (X.env.qual++"<lambda>") λc' ct=>uS "<lambda>" (X.env.qual++"<lambda>") Bv fS BI clos ((X.mg "__name__").getD .none) c' ct):=by
 intro ae s σ H Q I h;apply PySem.W.kla_eval adU ?_;have C:CodeHd s.heap c Pt:=TB.aoF.keeps I.bk;have G:=I.mod.glob.keeps I.bk;let#[bm,ob,b1,b2,b3,b4,b5,b6]:=TB.bm;have B:s.heap.BuiltinsAt X.mg Pt:=#[bm,ob,b1,b2,b3,b4,I.bk _ _ b5,b6];rcases h with⟨hP,q⟩|⟨c1,hP,hc1,q⟩
 have eP:s.heap.get? Pt=some (pS (List.toArray [])):=(I.aS Pt _ hP).1;have aeb:mainGlobals≠Pt:=λz=>by
  let#[o,es,ep,e,aoF,_]:=G;rw[z,eP]at e;cases e;cases aoF
 apply PySem.W.kla_makeFunction gk I.ok.glob G hcode C eP trivial rfl aeb B λc' zW h' tk hx IT hlt Qn Qp=>?_;have En:dM X.prog X.w H h' Pt (yA Pt lp c'):=#[by simpa using Qp,#[_,Qp],λh1 h2 a k=>k _ a];have JM:dM X.prog X.w H h' c' (oZ c' (X.env.qual++"<lambda>")):=#[Qn,(by let#[c2,oc,vs,t,e2,xA,_]:=Qn;cases e2;show#[_,xA]),λh1 h2 a k=>NM a k];have I1:=I.grown (t':=tk) hP hx IT En JM;have hf:h'.objs.size≠c':=wj hlt;have sz:s.heap.objs.size<=h'.objs.size:=cp IT (Cp hlt);have I2:=I1.laid (t':=tk) (a:=h'.objs.size) (o:=nJ h'.objs.size (uS "<lambda>" (X.env.qual++"<lambda>") Bv fS BI clos ((X.mg "__name__").getD .none) c' zW)) (λb u e=>cJ _ e) (bj _) #[eV _ rfl,#[_,eV _ rfl],λh1 h2 a k=>k _ a];show#[.ref h'.objs.size,_,I2,rfl,q c' h'.objs.size zW (I.aS.fresh IT) (I.aS.fresh sz) hf];have eP:s.heap.get? Pt=some (pS (List.toArray [lU lp.line,lU lp.col,.ref c1])):=(I.aS Pt _ hP).1;apply PySem.W.kla_makeFunctionHit (cv:=.ref c1) gk I.ok.glob G hcode C eP ?_ ?_ B λzW h' tk hk hsz=>?_;show trivial;show codeAmong_snoc [] trivial rfl;have I1:Inv X ae σ H { s with heap:=h',toks:=tk }:=I.kept hk;have I2:=I1.laid (t':=tk) (a:=h'.objs.size) (o:=nJ h'.objs.size (uS "<lambda>" (X.env.qual++"<lambda>") Bv fS BI clos ((X.mg "__name__").getD .none) c1 zW)) (λb u e=>cJ _ e) (bj _) #[eV _ rfl,#[_,eV _ rfl],λh1 h2 a k=>k _ a];show#[.ref h'.objs.size,_,I2,rfl,q h'.objs.size zW (I.aS.fresh hsz)]
abbrev pH(ap:Pos):FE:={ posonlyargs:=[],args:=[{ arg:="place",annotation:=none,pos:=ap }],vararg:=none,kwonlyargs:=[],kw_defaults:=[],kwarg:=none,defaults:=[] }
abbrev mG:dS:={ kind:=.function,names:=[("place",.local),("boxes",.free)],isGenerator:=false,isCoroutine:=false,more:=[] }
abbrev nX(p1 p2 p3 p4:Pos):Expr:=.Attribute (.Subscript (.Name "boxes" p1) (.Name "place" p2) p3) "order" p4
theorem dM.some{P:aZ}{w:aW}{H:Hp}{h:aL}{a:aa}{o:HO}(x:dM P w H h a o):∃ob,h.get? a=some ob:=by
 cases o with
 |lst xs=>let#[_,_,_,_,e]:=x;show#[_,e]
 |tup xs=>let#[_,_,_,o,e,_]:=x;show#[_,e]
 |dK kvs=>let#[_,_,_,_,o,_,_,e,_]:=x;show#[_,e]
 |dT kvs=>let#[_,_,_,_,o,_,_,e,_]:=x;show#[_,e]
 |set S n=>let#[o,_,_,_,e,_]:=x;show#[_,e]
 |ins C dx fs=>let#[_,_,_,e,_]:=x;show#[_,e]
 |own y=>show x
 |xd fs=>let#[_,#[_,_,_,e,_],_]:=x;show#[_,e]
 |Bz lo hi=>let#[_,_,_,e]:=x;show#[_,e]
 |cT ob u=>let#[e,_]:=x;show#[_,e]
 |q5 ps=>show#[_,x]
 |met f y=>show#[_,x]
 |ext φ=>let#[_,e,_]:=x;show e
def ahV{h:aL}{a:aa}{m m':Str->Option af}(x:h.Ns a m)(y:h.Ns a m'):m=m':=by
 let#[o,es,ep,e1,e2,_,e3]:=x;let#[o',qu,qt,f1,f2,_,f3]:=y;rw[e1]at f1;cases f1;rw[e2]at f2;cases f2;funext n;rw[<-e3,<-f3]
def Zy{Q:VK}{f c' l lb cb:aa}{ns:List Int}{xs:List V}{j:Nat}{g:Int->Int}{qual:Str}{ap p1 p2 p3 p4:Pos}{pm ct:af}(I:Inv X ae σ H s)(aoF:X.A.in1.in1.depth<recursionLimit)(hl:az X.K H l (ns.map V.int))(hf:H f=some (nJ f (uS "<lambda>" qual (pH ap) (nX p1 p2 p3 p4) mG [("boxes",cb)] pm c' ct)))(hc:H c'=some (oZ c' qual))(hN:X.N[j]? =some "boxes")(hk:X.env.kindOf "boxes"=some .cell)(hv:uu X.env.scope "boxes")(DL:X.env.cells.lookup ("boxes":Str)=some cb)(hσ:σ[j]? =some (some (.ref lb)))(hb:az X.K H lb xs)(adL:∀n∈ns,0<=n/\∃a C dx fs,xs[n.toNat]? =some (.ref a)/\H a=some (.ins C dx fs)/\eU X.K C/\cM X.K C "order"/\fs.lookup ("order":Str)=some (V.int (g n)))(h:∀(D:aa)(eC:List Int),eC.Pairwise (λx y=>g x<=g y)->(∀z,eC.filter (λx=>g x==z)=ns.filter (λx=>g x==z))->H D=none->Q (.ref D) (upd H D (.lst (eC.map V.int)))):
  aK (aR X.prog X.w) X.A (call (.builtin "sorted") [.ref l] [("key",.ref f)]) (EP X ae σ Q) X.xe s:=by
 obtain⟨aF,rv,pl,hz⟩:=I.list hl;have hi:=rv.ints;obtain⟨m,hn,aew⟩:=I.loc;have F:Fr X.base X.env.locals s.heap m:=⟨hn,I.bk,cp I.ok.nE I.ok.above⟩;obtain⟨u,ru,lk⟩:=aew j _ _ hN hσ hv;cases ru;have nL:∀{b:aa}{o:HO},H b=some o->b≠X.env.locals:=λe=>bf e I.free;have kept:∀{h':aL}{nw:List (aa×Obj)},(∀p∈zH X.base s.heap X.env.locals,p∈nw)->Fr X.base X.env.locals h' m->News X.base X.env.locals h' nw->∀b o,b≠X.env.locals->s.heap.get? b=some o->h'.get? b=some o:=λ{h' nw} sub F' N' b o nb e=>by
  cases q:X.base.get? b with
  |some u=>
   have:=I.bk b u q;rw[e]at this;cases this;show F'.keep b _ q
  |none=>show(N' (b,o) (sub _ (Rq nb q e))).1
 apply ksk_letterSt (b:=false) g F ahv pl.isList hi (by rw[aD]at hz;show hz) (ksk_s1 _ _) (λx=>ksk_l1 _ _) (λx=>ksk_t1 f x) (λn t h1 tk own aeB F' N'=>?_) λD amV eC c h' tk F' N' lt hv' hlen anZ aeN _ ad7=>?_;have kp:=kept (λp hp=>wb _ hp) F' N';have ef:=kp f _ (nL hf) (I.aS f _ hf).1;have ec:h1.CodeRec (.ref c') qual:=NM (I.aS c' _ hc).1 λo e=>kp c' o (nL hc) e;apply K_ (PySem.W.kla_callFunE aoF ef rfl rfl rfl rfl ec ?_);rw[show qi (kla_fn "<lambda>" qual (pH ap) (nX p1 p2 p3 p4) mG [("boxes",cb)] pm (.ref c') ct) #[[.int n t],[]]=pure [(("place":Str),zy n t)] from rfl];apply bR (wpAny_newFunctionEnv (show ∀x∈mG.names,x.2≠.cell by decide) (locs rfl) (λh2 pA DZ=>#[(I.ok.mod.nolimit.keeps F'.keep).fresh _ DZ,?_]) rfl);have k2:∀b o,h1.get? b=some o->h2.get? b=some o:=λb o e=>DZ.extBut b o (dZ (cK e)) (cJ _ e);have k3:∀b o,b≠X.env.locals->s.heap.get? b=some o->h2.get? b=some o:=λb o nb e=>k2 b o (kp b o nb e);show oY _ _ (.expr (nX p1 p2 p3 p4) (envX qual mG h1.objs.size f (.ref c') [("boxes",cb)])) _ _;apply PySem.W.kla_codeExpr (Nd rfl ?_);have DN:h2.IsCell cb (some (.ref lb)):=by
  rcases lk with⟨z,_⟩|⟨_,c2,e2,⟨o,eo,adW⟩⟩
  rw[hk]at z;cases z;rw[DL]at e2;cases e2;show#[o,k3 _ _ (I.r8 _ _ DL) eo,adW]
 let#[h0,a,C,dx,fs,ex,ea,hC,hA,kD]:=adL n aeB;let#[afH,aji,Su,hzb]:=I.list hb;let#[w,ew,jU]:=aji.get ex;cases jU;have hlt:n.toNat<xs.length:=(List.getElem?_eq_some_iff.mp ex).1;have l63:=uU;apply GD (Fo (am4 rfl rfl rfl DN (Fo (am5 rfl rfl pA rfl ?_) ())) ());have lst:h2.IsList lb afH.toArray:=Su.isList.at λo e=>k3 lb o (λz=>by
  let#[o1,eo,_,n1,ed]:=Su.isList;let#[o2,es,ep,e',d',_]:=hn;rw[z,e']at eo;cases eo;rw[d']at ed;cases ed) e
 apply item_listR lst h0 () (by simpa using ew) ?_ rfl;let#[mA,O,r,_,_,aib]:=Ea I.aS ea;let#[u,hu,ru]:=gJ.some_of (v:=.int (g n)) (o:=mA "order") (by rw[<-kD];show r "order");let#[t2,rfl]:=ru;have O2:rE h2 a dx C mA:=by
  let#[o1,o2,o3]:=O;show#[k3 _ _ (nL ea) o1,o2.at λo q=>k3 _ _ (nL aib) q,o3]
 apply Po ((I.ok.mod.uQ.keeps F'.keep).keeps k2) O2 (hC.get _) hC.aoF hA hu rfl ?_;show#[h2,_,t2,rfl,rfl,#[F'.ns.keeps k2,λb o e=>k2 _ _ (F'.keep b o e),F'.above],λp hp=>#[k2 _ _ (N' p hp).1,(N' p hp).2]];have kp:=kept (λp hp=>bp _ hp) F' N';have nD:=N' _ (bq);have sD:s.heap.get? D=none:=by
  cases q:s.heap.get? D with
  |none=>rfl
  |some o=>show absurd (lt _ (Rq nD.2.1 nD.2.2 q)) (iO _)
 have HD:H D=none:=by
  cases q:H D with
  |none=>rfl
  |some o=>
   let#[o',e']:=(I.aS D o q).some;rw[sD]at e';cases e'
 apply#[.ref D,upd H D (.lst (eC.map V.int)),?_,rfl,h D eC (by simpa using aeN) ad7 HD];have Bj:∀{b:aa}{o:HO},H b=some o->b≠D:=λe=>bf e HD;apply I.step (g':=s.gens) (d':=s.drawn) (t':=tk) (ch:=[]) (λ_ z=>nomatch z) (λb o nb _ _ e _=>kp b o nb e) (λb o nb _ _ e _=>#[o.slots,kp b o nb e]) (λb o _ e n=>by rw[aG (λz=>by rw[z,sD]at e;cases e)];show n) (λb o _ e=>?_)
  (λb ys e=>by rw[aG (Bj e)];show e) (λb o w e=>by rw[aG (Bj e)];show e) (λb ps e=>#[(List.toArray []),by rw[aG (Bj e),e,Vg]]) (λm' hm=>by rw[<-ahV hn hm];show F'.ns) (λb o e=>?_) I.bare
 by_cases hb:b=X.env.locals
 let#[o',_,_,e',_]:=F'.ns;show#[o',by rw[hb];show e'];show#[o,kp b o hb e];by_cases hb:b=D
 subst hb;rw[aH]at e;cases e;show#[by rw[aD,hlen];rw[aD]at hz;show hz,amV,c,UX hv',nD.1];rw[aG hb]at e;apply(I.aS b o e).kW (λd u aoF q=>kp d u ?_ q) (λd q=>by rw[aG (Bj q)];show q) λd ys q=>by rw[aG (Bj q)];show q
 obtain rfl|aoF:=aoF
 show nL e;show nL aoF
def alO(K:aP)(te tl:TE)(qual:Str)(ob:aa->af->Obj)(j:Nat):TE:=λσ H Q=>te σ H λx H1=>tl σ H1 λy H2=>∃(l f c' lb:aa)(ct:af)(ns:List Int)(xs:List V)(g:Int->Int),x=.ref l/\y=.ref f/\H2 f=some (nJ f (ob c' ct))/\H2 c'=some (oZ c' qual)/\az K H2 l (ns.map V.int)/\σ[j]? =some (some (.ref lb))/\az K H2 lb xs/\
 (∀n∈ns,0<=n/\∃a C dx fs,xs[n.toNat]? =some (.ref a)/\H2 a=some (.ins C dx fs)/\eU K C/\cM K C "order"/\fs.lookup ("order":Str)=some (V.int (g n)))/\
 ∀(D:aa)(eC:List Int),eC.Pairwise (λx y=>g x<=g y)->(∀z,eC.filter (λx=>g x==z)=ns.filter (λx=>g x==z))->H2 D=none->Q (.ref D) (upd H2 D (.lst (eC.map V.int)))
def ait{p pos kpos lp ap p1 p2 p3 p4:Pos}{e:Expr}{te tl:TE}{qual:Str}{pm:af}{cb:aa}(j:Nat)(hg:Gl X "sorted")(hm:X.mg "sorted"=none)(he:PE X e te)(hL:PE X (.Lambda (pH ap) (nX p1 p2 p3 p4) mG lp) tl)(aoF:X.A.in1.in1.depth<recursionLimit)(DL:X.env.cells.lookup ("boxes":Str)=some cb)(hN:X.N[j]? =some "boxes":=by rfl)(hk:X.env.kindOf "boxes"=some .cell:=by rfl)(hv:uu X.env.scope "boxes":=by show wm (yZ rfl))(hs:bJ [e] X.env=(false,eval e X.env)::bJ [] X.env:=by rfl)(hb:eL pos (bJ [e] X.env)=(false,eval e X.env)::eL pos (bJ [] X.env):=by rfl)(hpl:(eL pos (bJ [e] X.env)).any (·.1)=false:=by rfl):
  PE X (.Call (.Name "sorted" p) [e] [#[some "key",.Lambda (pH ap) (nX p1 p2 p3 p4) mG lp,kpos]] pos) (alO X.K te tl qual (λc' ct=>uS "<lambda>" qual (pH ap) (nX p1 p2 p3 p4) mG [("boxes",cb)] pm c' ct) j):=by
 intro ae s σ H Q I h;apply vJ (qK I hg hm (show jf "sorted"=some (.builtin "sorted") from rfl) ?_);apply Ml (cI ((ag he ao hs) pos ae s σ H (λvs H1=>match vs with
  |[x]=>tl σ H1 λy H2=>∃(l f c' lb:aa)(ct:af)(ns:List Int)(xs:List V)(g:Int->Int),x=.ref l/\y=.ref f/\H2 f=some (nJ f (uS "<lambda>" qual (pH ap) (nX p1 p2 p3 p4) mG [("boxes",cb)] pm c' ct))/\H2 c'=some (oZ c' qual)/\az X.K H2 l (ns.map V.int)/\σ[j]? =some (some (.ref lb))/\az X.K H2 lb xs/\
   (∀n∈ns,0<=n/\∃a C dx fs,xs[n.toNat]? =some (.ref a)/\H2 a=some (.ins C dx fs)/\eU X.K C/\cM X.K C "order"/\fs.lookup ("order":Str)=some (V.int (g n)))/\
   ∀(D:aa)(eC:List Int),eC.Pairwise (λx y=>g x<=g y)->(∀z,eC.filter (λx=>g x==z)=ns.filter (λx=>g x==z))->H2 D=none->Q (.ref D) (upd H2 D (.lst (eC.map V.int)))
  |_=>False) I h) λus s1 ⟨vs,H1,I1,r1,q1⟩=>?_) hb hpl
 cases r1 with
 |nil=>show q1.elim
 |@cons a u _ _ ra r1=>
  cases r1 with
  |cons _ _=>show q1.elim
  |nil=>
   apply cI (J6 (nm:=some "key") (kpos:=kpos) hL J7 pos ae s1 σ H1 (λzs H2=>match zs with
    |[y]=>∃(l f c' lb:aa)(ct:af)(ns:List Int)(xs:List V)(g:Int->Int),a=.ref l/\y=.ref f/\H2 f=some (nJ f (uS "<lambda>" qual (pH ap) (nX p1 p2 p3 p4) mG [("boxes",cb)] pm c' ct))/\H2 c'=some (oZ c' qual)/\az X.K H2 l (ns.map V.int)/\σ[j]? =some (some (.ref lb))/\az X.K H2 lb xs/\
     (∀n∈ns,0<=n/\∃a C dx fs,xs[n.toNat]? =some (.ref a)/\H2 a=some (.ins C dx fs)/\eU X.K C/\cM X.K C "order"/\fs.lookup ("order":Str)=some (V.int (g n)))/\
     ∀(D:aa)(eC:List Int),eC.Pairwise (λx y=>g x<=g y)->(∀z,eC.filter (λx=>g x==z)=ns.filter (λx=>g x==z))->H2 D=none->Q (.ref D) (upd H2 D (.lst (eC.map V.int)))
    |_=>False) I1 q1) λws s2 ⟨zs,H2,I2,r2,q2⟩=>?_
   cases r2 with
   |nil=>show q2.elim
   |cons rd r2=>
    cases r2 with
    |cons _ _=>show q2.elim
    |nil=>
     let#[l,f,c',lb,ct,ns,xs,g,e1,e2,hf,hc,hl,hσ,hlb,adM,q]:=q2;subst e1 e2;cases ra;cases rd;show Zy I2 aoF hl hf hc hN hk hv DL hσ hlb adM q
end
end L2
namespace L2
open PySem PySem.Spec PyProof.Rows
section
variable{X:Cx}
def aiP(K:aP):V->List V->Hp->VK->Prop:=λx xs H Q=>∃(a:aa)(y0 y1 y2 y:Str),x=V.ref a/\xs=[.str y]/\bL K H a [.str y0,.str y1,.str y2]/\(y0=y\/y1=y\/y2=y)/\Q (.int (if y0=y then 0 else if y1=y then 1 else 2)) H
def amA{P:aZ}{w:aW}{A:ci}{E:af->ax->Prop}{s:ax}{Q:PySem.Fin->ax->Prop}{a:aa}{y0 y1 y2 y:Str}{t0 t1 t2 t:Tok}(ht:IsTup s.heap a (List.toArray [.str y0 t0,.str y1 t1,.str y2 t2]))(hy:y0=y\/y1=y\/y2=y)(h:∀t',Q (.done (.ret (.int (if y0=y then 0 else if y1=y then 1 else 2) t'))) { s with toks:=s.toks+1 }):aK (aR P w) A (Builtin.«tuple.index» #[[.ref a,.str y t],[]]) Q E s:=by
 unfold Builtin.«tuple.index»;apply aI (Lb (show selfAndSome "tuple.index" "index" 1 3 #[[.ref a,.str y t],[]]=pure (.ref a,[.str y t]) from rfl) ?_);apply aI (tupleItemsOf_ ht ?_);simp![pure_bind,fi,cN,rB,Wm,Nat.min_self];rw[ant];simp![anu,Go,Wm,Nat.reduceSub,Nat.div_one,List.range'_succ,List.range'_zero,F4];have iC:∀(j:Int){Q':PySem.Fin->ax->Prop},(∀t',Q' (.done (.ret (.int j t'))) { s with toks:=s.toks+1 })->aK (aR P w) A (retInt j) Q' E s:=λj Q' k=>aI (wpAny_mkInt (bR (k _)));apply aI (aI (aI (La ?_)));by_cases e0:y0=y
 simp![e0,Ds,bz];apply aI (iC 0 λt'=>bR (bR (bR ?_)));have:=h t'
 rwa [aq e0]at this
 simp![e0,decide_false,bT,bI];apply bR (aI (aI (La ?_)));by_cases e1:y1=y
 simp![e1,Ds,bz];apply aI (iC 1 λt'=>bR (bR (bR ?_)));have:=h t'
 rwa [ay e0,aq e1]at this
 have e2:y2=y:=(hy.resolve_left e0).resolve_left e1;simp![e1,decide_false,bT,bI];apply bR (aI (aI (La ?_)));simp![e2,Ds,bz];apply aI (iC 2 λt'=>bR (bR (bR ?_)));have:=h t'
 rwa [ay e0,ay e1]at this
def ag1:iN X "tuple.index" (aiP X.K):=by
 intro ae s σ H x xs v us Q I rx BC h;let#[a,y0,y1,y2,y,rfl,rfl,hs,hy,q]:=h;cases rx;cases BC with
 |cons ry rt=>
  cases rt;let#[t,rfl]:=ry;let#[aF,rv,ht,_]:=I.tuple hs;cases rv with
  |cons r0 rv=>
   cases rv with
   |cons r1 rv=>
    cases rv with
    |cons r2 rv=>
     cases rv;let#[t0,rfl]:=r0;let#[t1,rfl]:=r1;let#[t2,rfl]:=r2;let#[o,h1,h2,h3]:=id ht;apply Fp WB #[_,h1,h2] PySem.F.entry_tuple_index (amA ht hy λt'=>#[_,rfl,?_]) (PySem.F.args_tuple_index_2 _ _);show#[.int _,H,I.tok _,#[_,rfl],q]
end
def agy{prog:aZ}{w:aW}{A:ci}{R:zj->ax->Prop}{It:aa}{fp wr:List aa}{n:Nat}{P:Nat->af->Prop}{St:Nat->aL->Prop}{d:af}(W:Walks prog w A.in1 It fp wr n P St)(bt:Nat->Nat->Bool)(IL:CmpOf prog w A.in1 .Lt P bt)(B:aa)(jI:B∉fp):∀(k j:Nat)(s:ax)(vb:af)(c:Nat),n-(j+1)=k->j+1<=n->St (j+1) s.heap->P (lH bt j) vb->s.heap.get? B=some { cls:=.type "list",dict:=none,data:=.seq (List.toArray [vb,vb]) c,slots:= (List.toArray []) }->
  (∀v h' tk,P (lH bt (n-1)) v->(∀b o,b∉wr->b≠B->s.heap.get? b=some o->h'.get? b=some o)->R (.ok (.ret v)) { s with heap:=h',toks:=tk })->oY (aR prog w) A (.builtin "min.loop" #[[.ref It,.none,.ref B],[("default",d)]]) R s:=by
 have AF:B∉wr:=λq=>jI (W.sub _ q);have n8:(toString "min"++toString ".loop":String)="min.loop":=by decide
 intro k;induction k with
 |zero=>
  intro j s vb c ek ej e7 qw hB bW;have en:j+1=n:=by omega
  apply r9 Lx ?_;rw[tS vS _];show aK _ A.in1 (vm (.ref B)>>=_) _ _ s;apply aI (mX hB rfl ?_);show aK _ A.in1 (tryCatch (kU (.ref It)) _>>=_) _ _ s;apply aI (rf (W.done s _ _ (en▸e7) λh1 tk kp=>?_));have hB1:=kp B _ AF hB;show aK _ A.in1 (K0 B (λ_=> (List.toArray []))>>=_) _ _ _;apply aI (B2 hB1 rfl (aI (re (bR (bW vb _ tk (by rw[<-en];show qw) λb o hb1 hb2 e=>?_)))));show(mf _ _ (iP hb2)).trans (kp b o hb1 e)
 |succ k ih=>
  intro j s vb c ek ej e7 qw hB bW;have uW:j+1<n:=by omega
  apply r9 Lx ?_;rw[tS vS _];show aK _ A.in1 (vm (.ref B)>>=_) _ _ s;apply aI (mX hB rfl ?_);show aK _ A.in1 (tryCatch (kU (.ref It)) _>>=_) _ _ s;apply aI (rf (W.item (j+1) s _ _ uW e7 λv h1 tk qx qA kp=>?_));have hB1:=kp B _ AF hB;show aK _ A.in1 (tryCatch (lM [v,v] (richCompare .Lt v vb>>=_)) _>>=_) _ _ _;apply aI (rf (tQ (aI (IL (j+1) (lH bt j) v vb _ _ _ qx qw (aI (tQ (tR (aI (re (bR ?_))))))))));cases eb:bt (j+1) (lH bt j)with
  |true=>
   simp![bz];apply aI (B2 hB1 rfl (aI (re ?_)));rw[n8];apply bR #[tz vS _,ih (j+1) _ v _ () uW (W.frame _ _ _ qA λb uK o e=>(mf _ _ (λq:B=b=>jI (by rw[q];show uK))).trans e) (by simp![lH,eb,bz];show qx) (vW _ hB1 rfl) λv2 h2 ot nM nW=>?_];show bW v2 h2 ot nM λb o hb1 hb2 e=>nW b o hb1 hb2 ((mf _ _ (iP hb2)).trans (kp b o hb1 e))
  |false=>
   simp![bT,bI];apply aI (re ?_);rw[n8];apply bR #[tz vS _,ih (j+1) _ vb c () uW qA (by simp![lH,eb,bT,bI];show qw) hB1 λv2 h2 ot nM nW=>bW v2 h2 ot nM λb o hb1 hb2 e=>nW b o hb1 hb2 (kp b o hb1 e)]
def YH(a d:af):argsOk "min" #[[a],[("default",d)]]:=by unfold argsOk;kernel_rfl
def Zc{prog:aZ}{w:aW}{A:ci}{E:af->ax->Prop}{s:ax}{l:aa}{xs:Array (Int×Tok)}{d:af}{Q:af->ax->Prop}(hh:A.handled=none)(hl:s.heap.IsList l (hU xs))(h:∀v h' tk,0<xs.size->(hU xs)[lH (λi j=>decide (n9 xs i<n9 xs j)) (xs.size-1)]? =some v->(∀b o,s.heap.get? b=some o->h'.get? b=some o)->Q v { s with heap:=h',toks:=tk })(h0:∀h' tk,xs.size=0->(∀b o,s.heap.get? b=some o->h'.get? b=some o)->Q d { s with heap:=h',toks:=tk }):aK (aR prog w) A (call (.builtin "min") [.ref l] [("default",d)]) Q E s:=by
 have n8:(toString "min"++toString ".loop":String)="min.loop":=by decide
 apply kmk_tree F.kind_min F.plain_min F.entry_min (YH _ _) ?_;show aK _ A.in1 (FJ "min" ["key","default"] 0 #[[],[("default",d)]]>>=_) _ _ s;apply aI (Lb (show FJ "min" ["key","default"] 0 #[[],[("default",d)]]=pure [none,some d] from rfl) (aI (bR (aI (iter_intList hl λs2 e st kC IU=>?_)))));subst e;have W:=CS (prog:=prog) (w:=w) (A:=A.in1) hh _ l IU (hU xs);apply aI (Ft ?_);rw[n8];apply bR #[tz vS _,r9 Lx ?_];rw[tS vS _];generalize hB:(s.heap.push { cls:=.type "list_iterator",data:=.fields (List.toArray [.ref l,.int 0 0]) }).objs.size=B at*
 generalize mD:({ s with heap:=(s.heap.push { cls:=.type "list_iterator",data:=.fields (List.toArray [.ref l,.int 0 0]) }).push { cls:=.type "list",data:=.seq (List.toArray []) } }:ax)=s3;have eh:s3.heap=(s.heap.push { cls:=.type "list_iterator",data:=.fields (List.toArray [.ref l,.int 0 0]) }).push { cls:=.type "list",data:=.seq (List.toArray []) }:=by rw[<-mD]
 have es:∀h' tk,({ s3 with heap:=h',toks:=tk }:ax)={ s with heap:=h',toks:=tk }:=λ_ _=>by rw[<-mD]
 have Iv:B=s.heap.objs.size+1:=by rw[<-hB,gC]
 have old:∀b o,s.heap.get? b=some o->s3.heap.get? b=some o/\b≠s.heap.objs.size/\b≠B:=λb o e=>by
  have:=cK e;show#[by rw[eh];show cJ _ (cJ _ e),dZ this,dZ (Mc this (by rw[Iv];show ud _))]
 have AE:s3.heap.get? B=some { cls:=.type "list",dict:=none,data:=.seq (List.toArray []) 0,slots:= (List.toArray []) }:=by rw[eh,<-hB];show eV _ rfl
 have fY:s3.heap.IsListIter s.heap.objs.size l 0/\s3.heap.IsList l (hU xs):=W.frame 0 _ _ st λb _ o e=>by rw[eh];show cJ _ e
 have jI:B∉[s.heap.objs.size,l]:=λq=>iO _ (kC B q);show aK _ A.in1 (vm (.ref B)>>=_) _ _ s3;apply aI (mX AE rfl ?_);show aK _ A.in1 (tryCatch (kU (.ref s.heap.objs.size)) _>>=_) _ _ s3;by_cases hn:0<xs.size
 have mB:0<(hU xs).size:=by simpa[hU]using hn
 apply aI (rf (W.item 0 s3 _ _ mB fY λv h1 tk qx qA kp=>?_));have hB1:=kp B _ (λq=>jI (W.sub _ q)) AE;show aK _ A.in1 (K0 B (λ_=> (List.toArray [v,v]))>>=_) _ _ _;apply aI (B2 hB1 rfl ?_);rw[n8];apply bR #[tz vS _,agy W (λi j=>decide (n9 xs i<n9 xs j)) (CmpOf.ints_lt (n9 xs) (λ_ _=>Jl)) B jI _ 0 _ v _ rfl mB (W.frame _ _ _ qA λb uK o e=>(mf _ _ (λq:B=b=>jI (by rw[q];show uK))).trans e) qx (vW _ hB1 rfl) λv2 h2 ot nM nW=>?_];rw[<-mD];apply h v2 h2 ot hn (by simpa[hU]using nM) λb o e=>?_;let#[o1,o2,o3]:=old b o e;show nW b o (by simpa using o2) o3 ((mf _ _ (iP o3)).trans (kp b o (by simpa using o2) o1));have hz:xs.size=0:=by omega
 have AW:(hU xs).size=0:=by simpa[hU]using hz
 apply aI (rf (W.done s3 _ _ (by rw[AW];show fY) λh1 tk kp=>?_));apply aI (Fu (bR ?_));rw[<-mD];apply h0 h1 tk hz λb o e=>?_;let#[o1,o2,o3]:=old b o e;show kp b o (by simpa using o2) o1
def ES(K:aP):List V->Hp->VK->Prop:=λvs H Q=>∃(a:aa)(ns:List Int)(d:V),vs=[V.ref a,d]/\az K H a (ns.map V.int)/\(ns=[]->Q d H)/\∀m,m∈ns->(∀y,y∈ns->m<=y)->Q (.int m) H
def Zw{X:Cx}{ae:List (aa×Obj)}{s:ax}{σ:St}{H:Hp}{a d:V}{u v:af}{Q:VK}(hc:X.calm=true)(I:Inv X ae σ H s)(ra:RelV a u)(rd:RelV d v)(h:ES X.K [a,d] H Q):
  aK (aR X.prog X.w) X.A (call (.builtin "min") [u] [("default",v)]) (EP X ae σ Q) X.xe s:=by
 let#[a',ns,d',e,hs,h0,h1]:=h;cases e;cases ra;let#[aF,rv,hl,_]:=I.list hs;have hi:=rv.ints;let#[xs,e]:=hi.allInts.items;have hn:numsOf (hU xs).toList=ns:=by rw[<-e];show hi.numsOf
 rw[nums_intItems]at hn;subst hn;have hl:=hl.isList;rw[e]at hl;apply Zc (I.ok.aoF hc) hl (λw h' tk hne hw hk=>?_) λh' tk hz hk=>?_;let#[t,rfl]:=Jl hw;let#[q1,q2]:=argBest_lt (n9 xs) (xs.size-1);apply#[.int _,H,I.kept hk,#[_,rfl],h1 _ ?_ λy hy=>?_];rw[JV];show WT (by rw[aD,l_];omega);let#[j,hj,rfl]:=mem_getD hy;rw[aD,l_]at hj;rw[<-JV];show q2 j ();apply#[d,H,I.kept hk,rd,h0 ?_];have:xs.toList=[]:=by rw[<-Gc,l_];show hz
 rw[this];rfl
def ams(K:aP)(ta td:TE):TE:=λσ H Q=>ta σ H λa H1=>td σ H1 λd H2=>ES K [a,d] H2 Q
def ais{X:Cx}{p pos kpos:Pos}{e1 e2:Expr}{ta td:TE}(hc:X.calm=true)(hg:Gl X "min")(hm:X.mg "min"=none)(h1:PE X e1 ta)(h2:PE X e2 td)(hs:bJ [e1] X.env=(false,eval e1 X.env)::bJ [] X.env:=by rfl)(he:eL pos (bJ [e1] X.env)=(false,eval e1 X.env)::eL pos (bJ [] X.env):=by rfl)(hpl:(eL pos (bJ [e1] X.env)).any (·.1)=false:=by rfl):
  PE X (.Call (.Name "min" p) [e1] [#[some "default",e2,kpos]] pos) (ams X.K ta td):=by
 intro ae s σ H Q I h;apply vJ (qK I hg hm (show jf "min"=some (.builtin "min") from rfl) ?_);apply Ml (cI ((ag h1 ao hs) pos ae s σ H (λvs H1=>match vs with|[a]=>td σ H1 λd H2=>ES X.K [a,d] H2 Q|_=>False) I h) λus s1 ⟨vs,H1,I1,r1,q1⟩=>?_) he hpl;cases r1 with
 |nil=>show q1.elim
 |@cons a u _ _ ra r1=>
  cases r1 with
  |cons _ _=>show q1.elim
  |nil=>
   apply cI ((J6 (nm:=some "default") (kpos:=kpos) h2 J7) pos ae s1 σ H1 (λzs H2=>match zs with|[d]=>ES X.K [a,d] H2 Q|_=>False) I1 q1) λws s2 ⟨zs,H2,I2,r2,q2⟩=>?_;cases r2 with
   |nil=>show q2.elim
   |cons rd r2=>
    cases r2 with
    |cons _ _=>show q2.elim
    |nil=>show Zw hc I2 ra rd q2
def agx{prog:aZ}{w:aW}{A:ci}{R:zj->ax->Prop}{It:aa}{fp wr:List aa}{n:Nat}{P:Nat->af->Prop}{St:Nat->aL->Prop}{d:af}(W:Walks prog w A.in1 It fp wr n P St)(bt:Nat->Nat->Bool)(IL:CmpOf prog w A.in1 .Gt P bt)(B:aa)(jI:B∉fp):∀(k j:Nat)(s:ax)(vb:af)(c:Nat),n-(j+1)=k->j+1<=n->St (j+1) s.heap->P (lH bt j) vb->s.heap.get? B=some { cls:=.type "list",dict:=none,data:=.seq (List.toArray [vb,vb]) c,slots:= (List.toArray []) }->
  (∀v h' tk,P (lH bt (n-1)) v->(∀b o,b∉wr->b≠B->s.heap.get? b=some o->h'.get? b=some o)->R (.ok (.ret v)) { s with heap:=h',toks:=tk })->oY (aR prog w) A (.builtin "max.loop" #[[.ref It,.none,.ref B],[("default",d)]]) R s:=by
 have AF:B∉wr:=λq=>jI (W.sub _ q);have n8:(toString "max"++toString ".loop":String)="max.loop":=by decide
 intro k;induction k with
 |zero=>
  intro j s vb c ek ej e7 qw hB bW;have en:j+1=n:=by omega
  apply r9 Lw ?_;rw[tS vR _];show aK _ A.in1 (vm (.ref B)>>=_) _ _ s;apply aI (mX hB rfl ?_);show aK _ A.in1 (tryCatch (kU (.ref It)) _>>=_) _ _ s;apply aI (rf (W.done s _ _ (en▸e7) λh1 tk kp=>?_));have hB1:=kp B _ AF hB;show aK _ A.in1 (K0 B (λ_=> (List.toArray []))>>=_) _ _ _;apply aI (B2 hB1 rfl (aI (re (bR (bW vb _ tk (by rw[<-en];show qw) λb o hb1 hb2 e=>?_)))));show(mf _ _ (iP hb2)).trans (kp b o hb1 e)
 |succ k ih=>
  intro j s vb c ek ej e7 qw hB bW;have uW:j+1<n:=by omega
  apply r9 Lw ?_;rw[tS vR _];show aK _ A.in1 (vm (.ref B)>>=_) _ _ s;apply aI (mX hB rfl ?_);show aK _ A.in1 (tryCatch (kU (.ref It)) _>>=_) _ _ s;apply aI (rf (W.item (j+1) s _ _ uW e7 λv h1 tk qx qA kp=>?_));have hB1:=kp B _ AF hB;show aK _ A.in1 (tryCatch (lM [v,v] (richCompare .Gt v vb>>=_)) _>>=_) _ _ _;apply aI (rf (tQ (aI (IL (j+1) (lH bt j) v vb _ _ _ qx qw (aI (tQ (tR (aI (re (bR ?_))))))))));cases eb:bt (j+1) (lH bt j)with
  |true=>
   simp![bz];apply aI (B2 hB1 rfl (aI (re ?_)));rw[n8];apply bR #[tz vR _,ih (j+1) _ v _ () uW (W.frame _ _ _ qA λb uK o e=>(mf _ _ (λq:B=b=>jI (by rw[q];show uK))).trans e) (by simp![lH,eb,bz];show qx) (vW _ hB1 rfl) λv2 h2 ot nM nW=>?_];show bW v2 h2 ot nM λb o hb1 hb2 e=>nW b o hb1 hb2 ((mf _ _ (iP hb2)).trans (kp b o hb1 e))
  |false=>
   simp![bT,bI];apply aI (re ?_);rw[n8];apply bR #[tz vR _,ih (j+1) _ vb c () uW qA (by simp![lH,eb,bT,bI];show qw) hB1 λv2 h2 ot nM nW=>bW v2 h2 ot nM λb o hb1 hb2 e=>nW b o hb1 hb2 (kp b o hb1 e)]
def YG(a d:af):argsOk "max" #[[a],[("default",d)]]:=by unfold argsOk;kernel_rfl
def Zb{prog:aZ}{w:aW}{A:ci}{E:af->ax->Prop}{s:ax}{l:aa}{xs:Array (Int×Tok)}{d:af}{Q:af->ax->Prop}(hh:A.handled=none)(hl:s.heap.IsList l (hU xs))(h:∀v h' tk,0<xs.size->(hU xs)[lH (λi j=>decide (n9 xs i>n9 xs j)) (xs.size-1)]? =some v->(∀b o,s.heap.get? b=some o->h'.get? b=some o)->Q v { s with heap:=h',toks:=tk })(h0:∀h' tk,xs.size=0->(∀b o,s.heap.get? b=some o->h'.get? b=some o)->Q d { s with heap:=h',toks:=tk }):aK (aR prog w) A (call (.builtin "max") [.ref l] [("default",d)]) Q E s:=by
 have n8:(toString "max"++toString ".loop":String)="max.loop":=by decide
 apply kmk_tree F.kind_max F.plain_max F.entry_max (YG _ _) ?_;show aK _ A.in1 (FJ "max" ["key","default"] 0 #[[],[("default",d)]]>>=_) _ _ s;apply aI (Lb (show FJ "max" ["key","default"] 0 #[[],[("default",d)]]=pure [none,some d] from rfl) (aI (bR (aI (iter_intList hl λs2 e st kC IU=>?_)))));subst e;have W:=CS (prog:=prog) (w:=w) (A:=A.in1) hh _ l IU (hU xs);apply aI (Ft ?_);rw[n8];apply bR #[tz vR _,r9 Lw ?_];rw[tS vR _];generalize hB:(s.heap.push { cls:=.type "list_iterator",data:=.fields (List.toArray [.ref l,.int 0 0]) }).objs.size=B at*
 generalize mD:({ s with heap:=(s.heap.push { cls:=.type "list_iterator",data:=.fields (List.toArray [.ref l,.int 0 0]) }).push { cls:=.type "list",data:=.seq (List.toArray []) } }:ax)=s3;have eh:s3.heap=(s.heap.push { cls:=.type "list_iterator",data:=.fields (List.toArray [.ref l,.int 0 0]) }).push { cls:=.type "list",data:=.seq (List.toArray []) }:=by rw[<-mD]
 have es:∀h' tk,({ s3 with heap:=h',toks:=tk }:ax)={ s with heap:=h',toks:=tk }:=λ_ _=>by rw[<-mD]
 have Iv:B=s.heap.objs.size+1:=by rw[<-hB,gC]
 have old:∀b o,s.heap.get? b=some o->s3.heap.get? b=some o/\b≠s.heap.objs.size/\b≠B:=λb o e=>by
  have:=cK e;show#[by rw[eh];show cJ _ (cJ _ e),dZ this,dZ (Mc this (by rw[Iv];show ud _))]
 have AE:s3.heap.get? B=some { cls:=.type "list",dict:=none,data:=.seq (List.toArray []) 0,slots:= (List.toArray []) }:=by rw[eh,<-hB];show eV _ rfl
 have fY:s3.heap.IsListIter s.heap.objs.size l 0/\s3.heap.IsList l (hU xs):=W.frame 0 _ _ st λb _ o e=>by rw[eh];show cJ _ e
 have jI:B∉[s.heap.objs.size,l]:=λq=>iO _ (kC B q);show aK _ A.in1 (vm (.ref B)>>=_) _ _ s3;apply aI (mX AE rfl ?_);show aK _ A.in1 (tryCatch (kU (.ref s.heap.objs.size)) _>>=_) _ _ s3;by_cases hn:0<xs.size
 have mB:0<(hU xs).size:=by simpa[hU]using hn
 apply aI (rf (W.item 0 s3 _ _ mB fY λv h1 tk qx qA kp=>?_));have hB1:=kp B _ (λq=>jI (W.sub _ q)) AE;show aK _ A.in1 (K0 B (λ_=> (List.toArray [v,v]))>>=_) _ _ _;apply aI (B2 hB1 rfl ?_);rw[n8];apply bR #[tz vR _,agx W (λi j=>decide (n9 xs i>n9 xs j)) (CmpOf.ints_gt (n9 xs) (λ_ _=>Jl)) B jI _ 0 _ v _ rfl mB (W.frame _ _ _ qA λb uK o e=>(mf _ _ (λq:B=b=>jI (by rw[q];show uK))).trans e) qx (vW _ hB1 rfl) λv2 h2 ot nM nW=>?_];rw[<-mD];apply h v2 h2 ot hn (by simpa[hU]using nM) λb o e=>?_;let#[o1,o2,o3]:=old b o e;show nW b o (by simpa using o2) o3 ((mf _ _ (iP o3)).trans (kp b o (by simpa using o2) o1));have hz:xs.size=0:=by omega
 have AW:(hU xs).size=0:=by simpa[hU]using hz
 apply aI (rf (W.done s3 _ _ (by rw[AW];show fY) λh1 tk kp=>?_));apply aI (Fu (bR ?_));rw[<-mD];apply h0 h1 tk hz λb o e=>?_;let#[o1,o2,o3]:=old b o e;show kp b o (by simpa using o2) o1
def ER(K:aP):List V->Hp->VK->Prop:=λvs H Q=>∃(a:aa)(ns:List Int)(d:V),vs=[V.ref a,d]/\az K H a (ns.map V.int)/\(ns=[]->Q d H)/\∀m,m∈ns->(∀y,y∈ns->y<=m)->Q (.int m) H
def Zv{X:Cx}{ae:List (aa×Obj)}{s:ax}{σ:St}{H:Hp}{a d:V}{u v:af}{Q:VK}(hc:X.calm=true)(I:Inv X ae σ H s)(ra:RelV a u)(rd:RelV d v)(h:ER X.K [a,d] H Q):
  aK (aR X.prog X.w) X.A (call (.builtin "max") [u] [("default",v)]) (EP X ae σ Q) X.xe s:=by
 let#[a',ns,d',e,hs,h0,h1]:=h;cases e;cases ra;let#[aF,rv,hl,_]:=I.list hs;have hi:=rv.ints;let#[xs,e]:=hi.allInts.items;have hn:numsOf (hU xs).toList=ns:=by rw[<-e];show hi.numsOf
 rw[nums_intItems]at hn;subst hn;have hl:=hl.isList;rw[e]at hl;apply Zb (I.ok.aoF hc) hl (λw h' tk hne hw hk=>?_) λh' tk hz hk=>?_;let#[t,rfl]:=Jl hw;let#[q1,q2]:=argBest_gt (n9 xs) (xs.size-1);apply#[.int _,H,I.kept hk,#[_,rfl],h1 _ ?_ λy hy=>?_];rw[JV];show WT (by rw[aD,l_];omega);let#[j,hj,rfl]:=mem_getD hy;rw[aD,l_]at hj;rw[<-JV];show q2 j ();apply#[d,H,I.kept hk,rd,h0 ?_];have:xs.toList=[]:=by rw[<-Gc,l_];show hz
 rw[this];rfl
def amr(K:aP)(ta td:TE):TE:=λσ H Q=>ta σ H λa H1=>td σ H1 λd H2=>ER K [a,d] H2 Q
def aip{X:Cx}{p pos kpos:Pos}{e1 e2:Expr}{ta td:TE}(hc:X.calm=true)(hg:Gl X "max")(hm:X.mg "max"=none)(h1:PE X e1 ta)(h2:PE X e2 td)(hs:bJ [e1] X.env=(false,eval e1 X.env)::bJ [] X.env:=by rfl)(he:eL pos (bJ [e1] X.env)=(false,eval e1 X.env)::eL pos (bJ [] X.env):=by rfl)(hpl:(eL pos (bJ [e1] X.env)).any (·.1)=false:=by rfl):
  PE X (.Call (.Name "max" p) [e1] [#[some "default",e2,kpos]] pos) (amr X.K ta td):=by
 intro ae s σ H Q I h;apply vJ (qK I hg hm (show jf "max"=some (.builtin "max") from rfl) ?_);apply Ml (cI ((ag h1 ao hs) pos ae s σ H (λvs H1=>match vs with|[a]=>td σ H1 λd H2=>ER X.K [a,d] H2 Q|_=>False) I h) λus s1 ⟨vs,H1,I1,r1,q1⟩=>?_) he hpl;cases r1 with
 |nil=>show q1.elim
 |@cons a u _ _ ra r1=>
  cases r1 with
  |cons _ _=>show q1.elim
  |nil=>
   apply cI ((J6 (nm:=some "default") (kpos:=kpos) h2 J7) pos ae s1 σ H1 (λzs H2=>match zs with|[d]=>ER X.K [a,d] H2 Q|_=>False) I1 q1) λws s2 ⟨zs,H2,I2,r2,q2⟩=>?_;cases r2 with
   |nil=>show q2.elim
   |cons rd r2=>
    cases r2 with
    |cons _ _=>show q2.elim
    |nil=>show Zv hc I2 ra rd q2
end L2
namespace L2
open PySem PySem.Spec PyProof.Rows
open PySem.W (WData Codec OpenSpec Well WellAll ReadsW ReadsAllW)
mutual
inductive Dw (K:aP)(H:Hp):V->fM->Prop
 |bn:Dw K H .bn .none
 |bl (b:Bool):Dw K H (.bl b) (.bool b)
 |int (i:Int):Dw K H (.int i) (.int i)
 |str (x:Str):Dw K H (.str x) (.str x)
 |gP (b:Array UInt8):Dw K H (.gP b) (.bytes b.toList)
 |lst {a:aa} {xs:List V} {ds:List fM}:az K H a xs->m6 K H xs ds->Dw K H (.ref a) (.list ds)
 |tup {a:aa} {xs:List V} {ds:List fM}:bL K H a xs->m6 K H xs ds->Dw K H (.ref a) (.tuple ds)
inductive m6 (K:aP)(H:Hp):List V->List fM->Prop
 |nil:m6 K H [] []
 |cons {v:V} {vs:List V} {d:fM} {ds:List fM}:Dw K H v d->m6 K H vs ds->m6 K H (v::vs) (d::ds)
end
theorem aaN{K:aP}{H:Hp}:∀ns:List Int,m6 K H (ns.map V.int) (ns.map WData.int)
 |[]=>.nil
 |n::r=>.cons (.int n) (aaN r)
theorem afB{K:aP}{H:Hp}:∀(ns:List Int)(xs:List V),m6 K H xs (ns.map WData.int)->xs=ns.map V.int
 |[],xs,h=>by
  cases h;rfl
 |n::r,xs,h=>by
  cases h with
  |cons h1 h2=>
   cases h1;rw[afB r _ h2]<;>rfl
section
variable{P:aZ}{w:aW}{K:aP}{H:Hp}{h:aL}{R:WI}{cl:Str->Option aa}
def alg{a:aa}{xs:List V}(aS:dk P w H h)(KX:K.In h)(q:az K H a xs):∃(aF:List af)(o:Obj)(n:Nat),bi xs aF/\h.get? a=some o/\o.cls=.type "list"/\o.data=.seq aF.toArray n:=by
 rcases q with q|⟨o,aF,n,e,hc,_,aoF,_,hv⟩
 let#[_,aF,n,hv,e]:=(show dM P w H h a (.lst xs) from q.ok aS);show#[aF,_,n,hv,e,rfl,rfl];show#[aF.toList,o,n,hv,KX _ _ e,hc,by simp[aoF]]
def alh{a:aa}{xs:List V}(aS:dk P w H h)(KX:K.In h)(q:bL K H a xs):∃(aF:List af)(o:Obj)(n:Nat),bi xs aF/\h.get? a=some o/\o.cls=.type "tuple"/\o.data=.seq aF.toArray n:=by
 rcases q with q|⟨o,aF,n,e,hc,aoF,_,hv⟩
 let#[_,aF,hv,o,e,hc,n,aoF]:=(show dM P w H h a (.tup xs) from q.ok aS);show#[aF,o,n,hv,e,hc,aoF];show#[aF.toList,o,n,hv,KX _ _ e,hc,by simp[aoF]]
mutual
theorem Dw.reads(aS:dk P w H h)(KX:K.In h):∀(d:fM)(v:V)(u:af),Dw K H v d->RelV v u->∃as,ReadsW R cl h u d as
 | .none,_,_,x,r=>by
  cases x;cases r;show#[_,ReadsW.none]
 | .bool b,_,_,x,r=>by
  cases x;cases r;show#[_,ReadsW.bool b]
 | .int i,_,_,x,r=>by
  cases x;let#[t,rfl]:=r;show#[_,ReadsW.int i t]
 | .str s,_,_,x,r=>by
  cases x;let#[t,rfl]:=r;show#[_,ReadsW.str s t]
 | .bytes b,_,_,x,r=>by
  cases x;let#[t,rfl]:=r;show#[_,ReadsW.bytes _ t]
 | .list ds,_,_,x,r=>by
  cases x with
  |lst hs ha=>
   cases r;let#[aF,o,n,rv,ho,hc,aoF]:=alg aS KX hs;let#[as,hr]:=Dw.readsAll aS KX ds _ aF ha rv;show#[_,ReadsW.list ho hc aoF hr]
 | .tuple ds,_,_,x,r=>by
  cases x with
  |tup hs ha=>
   cases r;let#[aF,o,n,rv,ho,hc,aoF]:=alh aS KX hs;let#[as,hr]:=Dw.readsAll aS KX ds _ aF ha rv;show#[_,ReadsW.tuple ho hc aoF hr]
 | .float _,_,_,x,_=>by cases x
 | .dict _,_,_,x,_=>by cases x
 | .bytearray _,_,_,x,_=>by cases x
 | .set _,_,_,x,_=>by cases x
 | .frozenset _,_,_,x,_=>by cases x
 | .obj _ _,_,_,x,_=>by cases x
theorem Dw.readsAll(aS:dk P w H h)(KX:K.In h):∀(ds:List fM)(vs:List V)(us:List af),m6 K H vs ds->bi vs us->∃as,ReadsAllW R cl h us ds as
 |[],_,_,x,r=>by
  cases x;cases r;show#[_,ReadsAllW.nil]
 |d::ds,_,_,x,r=>by
  cases x with
  |cons h1 h2=>
   cases r with
   |cons r1 r2=>
    let#[as,q1]:=Dw.reads aS KX d _ _ h1 r1;let#[bs,q2]:=Dw.readsAll aS KX ds _ _ h2 r2;show#[_,ReadsAllW.cons q1 q2]
end
end
mutual
def kQ:fM->Bool
 | .none=>true
 | .bool _=>true
 | .int _=>true
 | .str _=>true
 | .bytes _=>true
 | .list xs=>mR xs
 | .tuple xs=>mR xs
 |_=>false
def mR:List fM->Bool
 |[]=>true
 |x::r=>kQ x&&mR r
end
theorem Sr{α:Type}{f:α->fM}(h:∀a,kQ (f a)=true):∀l:List α,mR (l.map f)=true
 |[]=>rfl
 |x::r=>by
  show(kQ (f x)&&mR (r.map f))=true;rw[h x,Sr h r]<;>rfl
theorem tp:∀(c:Codec)(a:c.denote),kQ (c.enc a)=true
 | .unit,_=>rfl
 | .bool,_=>rfl
 | .int _ _,_=>rfl
 | .nat _ _,_=>rfl
 | .u8,_=>rfl
 | .bytes _ _,_=>rfl
 | .text _ _ _ _,_=>rfl
 | .list _ _ c,a=>Sr (λx=>tp c x) a
 | .pair c d,a=>by
  show(kQ (c.enc a.1)&&(kQ (d.enc a.2)&&true))=true;rw[tp c a.1,tp d a.2]<;>rfl
 | .triple c d e,a=>by
  show(kQ (c.enc a.1)&&(kQ (d.enc a.2.1)&&(kQ (e.enc a.2.2)&&true)))=true;rw[tp c a.1,tp d a.2.1,tp e a.2.2]<;>rfl
 | .option c,none=>rfl
 | .option c,some x=>tp c x
theorem Ss:∀(cs:List Codec)(a:Lu cs),mR (B7 cs a)=true
 |[],_=>rfl
 |c::cs,a=>by
  show(kQ (c.enc a.1)&&mR (B7 cs a.2))=true;rw[tp c a.1,Ss cs a.2]<;>rfl
theorem K6:∀{xs:List fM}{d:fM},d∈xs->d.weight<=G0 xs
 |[],d,h=>absurd h ()
 |x::r,d,h=>by
  show d.weight<=x.weight+1+G0 r;rcases iM.mp h with e|m
  rw[e];omega;have z:=K6 m;omega
def i_:af->V
 | .none=>.bn
 | .bool b=>.bl b
 | .int i _=>.int i
 | .str x _=>.str x
 | .bytes b _=>.gP b
 | .ref a=>.ref a
 |_=>.bn
def lz(A:List aa):af->Prop
 | .none=>True
 | .bool _=>True
 | .int _ _=>True
 | .str _ _=>True
 | .bytes _ _=>True
 | .ref a=>a∈A
 |_=>False
def lz.mono{A B:List aa}(h:∀a∈A,a∈B):∀{u:af},lz A u->lz B u:=λ{u} x=>by
 cases u with
 |ref a=>show h a x
 |none=>trivial
 |bool b=>trivial
 |int i t=>trivial
 |str s t=>trivial
 |bytes b t=>trivial
 |_=>show ju x
def aja{A:List aa}{u:af}(x:lz A u):RelV (i_ u) u:=by
 cases u with
 |ref a=>rfl
 |none=>rfl
 |bool b=>rfl
 |int i t=>show#[t,rfl]
 |str s t=>show#[t,rfl]
 |bytes b t=>show#[t,rfl]
 |_=>show ju x
theorem yF{A:List aa}:∀{vs:List af},(∀u∈vs,lz A u)->bi (vs.map i_) vs
 |[],_=>.nil
 |u::r,h=>.cons (aja (h u (bq ..))) (yF λx hx=>h x (bp _ hx))
def l9(h:aL)(A:List aa)(a:aa):Prop:=∃vs:List af,vs.length<=sizeLine/\(∀u∈vs,lz A u)/\
 (h.get? a=some { cls:=.type "list",data:=.seq vs.toArray }\/h.get? a=some { cls:=.type "tuple",data:=.seq vs.toArray })
def l9.mono{h:aL}{A B:List aa}{a:aa}(k:∀a∈A,a∈B)(x:l9 h A a):l9 h B a:=by
 let#[vs,h1,h2,h3]:=x;show#[vs,h1,λu hu=>(h2 u hu).mono k,h3]
theorem Fm{P:rG}{h:aL}:∀{vs:List af}{ds:List fM},qc P h vs ds->vs.length=ds.length
 |_,_,.nil=>rfl
 |_,_,.cons _ b=>by
  show _+1=_+1;rw[Fm b]
def U2{P:rG}{h:aL}{v:af}{ds:List fM}(x:Well P h v (.list ds)):∃(a:aa)(vs:List af),v=.ref a/\h.get? a=some { cls:=.type "list",data:=.seq vs.toArray }/\qc P h vs ds:=by
 cases x with
 |list ho gT=>show#[_,_,rfl,ho,gT]
def U3{P:rG}{h:aL}{v:af}{ds:List fM}(x:Well P h v (.tuple ds)):∃(a:aa)(vs:List af),v=.ref a/\h.get? a=some { cls:=.type "tuple",data:=.seq vs.toArray }/\qc P h vs ds:=by
 cases x with
 |tuple ho gT=>show#[_,_,rfl,ho,gT]
def U1{P:rG}{h:aL}{us:List af}{d:fM}{ds:List fM}(x:qc P h us (d::ds)):∃(v:af)(vs:List af),us=v::vs/\Well P h v d/\qc P h vs ds:=by
 cases x with
 |cons a b=>show#[_,_,rfl,a,b]
def Q_{n:Nat}(h:n<=1048576):n<=sizeLine:=cp h ()
section
variable{P:rG}{h:aL}
mutual
theorem YB:∀(d:fM)(v:af),Well P h v d->kQ d=true->d.weight<=1048576->∃A:List aa,lz A v/\∀a∈A,l9 h A a
 | .none,_,x,_,_=>by
  cases x;show#[[],trivial,λa m=>absurd m ()]
 | .bool b,_,x,_,_=>by
  cases x;show#[[],trivial,λa m=>absurd m ()]
 | .int i,_,x,_,_=>by
  cases x;show#[[],trivial,λa m=>absurd m ()]
 | .str s,_,x,_,_=>by
  cases x;show#[[],trivial,λa m=>absurd m ()]
 | .bytes b,_,x,_,_=>by
  cases x;show#[[],trivial,λa m=>absurd m ()]
 | .list ds,_,x,p,z=>by
  let#[a,vs,rfl,ho,gT]:=U2 x;have z2:G0 ds<=1048576:=z;let#[A,h1,h2]:=C5 ds _ gT p λd aoF=>cp (K6 aoF) z2;have k:∀b∈A,b∈a::A:=λb hb=>bp _ hb;apply#[a::A,bq ..,λb hb=>?_];rcases iM.mp hb with e|m
  rw[e];show#[vs,Q_ (by rw[Fm gT];show cp (WO ds) z2),λu hu=>(h1 u hu).mono k,.inl ho];show(h2 b m).mono k
 | .tuple ds,_,x,p,z=>by
  let#[a,vs,rfl,ho,gT]:=U3 x;have z2:G0 ds<=1048576:=z;let#[A,h1,h2]:=C5 ds _ gT p λd aoF=>cp (K6 aoF) z2;have k:∀b∈A,b∈a::A:=λb hb=>bp _ hb;apply#[a::A,bq ..,λb hb=>?_];rcases iM.mp hb with e|m
  rw[e];show#[vs,Q_ (by rw[Fm gT];show cp (WO ds) z2),λu hu=>(h1 u hu).mono k,.inr ho];show(h2 b m).mono k
 | .float _,_,_,p,_=>ma (show false=true from p)
 | .dict _,_,_,p,_=>ma (show false=true from p)
 | .bytearray _,_,_,p,_=>ma (show false=true from p)
 | .set _,_,_,p,_=>ma (show false=true from p)
 | .frozenset _,_,_,p,_=>ma (show false=true from p)
 | .obj _ _,_,_,p,_=>ma (show false=true from p)
theorem C5:∀(ds:List fM)(vs:List af),qc P h vs ds->mR ds=true->(∀d∈ds,d.weight<=1048576)->∃A:List aa,(∀u∈vs,lz A u)/\∀a∈A,l9 h A a
 |[],_,x,_,_=>by
  cases x;show#[[],λu m=>absurd m (),λa m=>absurd m ()]
 |d::ds,_,x,p,z=>by
  let#[v,vs,rfl,x1,x2]:=U1 x;have q:kQ d=true/\mR ds=true:=Bool.and_eq_true_iff.mp p;let#[A,a1,a2]:=YB d v x1 q.1 (z d (bq ..));let#[B,b1,b2]:=C5 ds vs x2 q.2 λe he=>z e (bp _ he);have kA:∀b∈A,b∈A++B:=λb hb=>wa.mpr (.inl hb);have kB:∀b∈B,b∈A++B:=λb hb=>wa.mpr (.inr hb);apply#[A++B,λu hu=>?_,λb hb=>?_];rcases iM.mp hu with e|m
  rw[e];show a1.mono kA;show(b1 u m).mono kB;rcases wa.mp hb with m|m
  show(a2 b m).mono kA;show(b2 b m).mono kB
end
end
def DV(o:Obj):Option HO:=match o.data with
 | .seq vs _=>if (o.cls==rO "list")=true then some (.cT o (.lst (vs.toList.map i_)))else some (.cT o (.tup (vs.toList.map i_)))
 |_=>none
def gN(K:aP)(h:aL)(A:List aa):Hp:=λb=>if b∈A then(if (K.lookup b).isNone=true then(h.get? b).bind DV else none)else none
def Mg(H:Hp):Prop:=∀b,H b=none\/∃o u,H b=some (.cT o u)
def Qb(vs:List af):DV { cls:=.type "list",data:=.seq vs.toArray }=some (.cT { cls:=.type "list",data:=.seq vs.toArray } (.lst (vs.map i_))):=by
 show(if (rO "list"==rO "list")=true then some (HO.cT { cls:=.type "list",data:=.seq vs.toArray } (.lst (vs.toArray.toList.map i_)))else some (HO.cT { cls:=.type "list",data:=.seq vs.toArray } (.tup (vs.toArray.toList.map i_))))=_;rw[aq (Nk _)]
def Qc(vs:List af):DV { cls:=.type "tuple",data:=.seq vs.toArray }=some (.cT { cls:=.type "tuple",data:=.seq vs.toArray } (.tup (vs.map i_))):=by
 show(if (rO "tuple"==rO "list")=true then some (HO.cT { cls:=.type "tuple",data:=.seq vs.toArray } (.lst (vs.toArray.toList.map i_)))else some (HO.cT { cls:=.type "tuple",data:=.seq vs.toArray } (.tup (vs.toArray.toList.map i_))))=_;rw[ay ()]
section
variable{P:aZ}{w:aW}{K:aP}{h:aL}{A:List aa}
def C6{b:aa}{o:Obj}(hb:b∈A)(hk:K.lookup b=none)(e:h.get? b=some o):gN K h A b=DV o:=by
 unfold gN;rw[aq hb,hk,aq (show(none:Option Obj).isNone=true from rfl),e]<;>rfl
def ah0{b:aa}{u:HO}(q:gN K h A b=some u):b∈A/\K.lookup b=none:=by
 unfold gN at q;by_cases hb:b∈A
 rw[aq hb]at q;cases hk:K.lookup b with
 |none=>show#[hb,rfl]
 |some o=>
  rw[hk,ay ()]at q;cases q
 rw[ay hb]at q;cases q
def C7(ar:∀a∈A,l9 h A a){b:aa}{u:HO}(q:gN K h A b=some u):K.lookup b=none/\∃vs:List af,vs.length<=sizeLine/\(∀u∈vs,lz A u)/\
  ((h.get? b=some { cls:=.type "list",data:=.seq vs.toArray }/\u=.cT { cls:=.type "list",data:=.seq vs.toArray } (.lst (vs.map i_)))\/
   (h.get? b=some { cls:=.type "tuple",data:=.seq vs.toArray }/\u=.cT { cls:=.type "tuple",data:=.seq vs.toArray } (.tup (vs.map i_)))):=by
 let#[hb,hk]:=ah0 q;let#[vs,h1,h2,h3]:=ar b hb;apply#[hk,vs,h1,h2,?_];obtain e|e:=h3
 rw[C6 hb hk e,Qb]at q;show .inl #[e,(cV q).symm];rw[C6 hb hk e,Qc]at q;show .inr #[e,(cV q).symm]
def YD(ar:∀a∈A,l9 h A a):Mg (gN K h A):=λb=>by
 cases q:gN K h A b with
 |none=>show .inl rfl
 |some u=>
  obtain⟨_,vs,_,_,⟨_,e⟩|⟨_,e⟩⟩:=C7 ar q;show .inr #[_,_,by rw[e]];show .inr #[_,_,by rw[e]]
def YC(ar:∀a∈A,l9 h A a):dk P w (gN K h A) h:=λb u q=>by
 obtain⟨_,vs,h1,h2,⟨e,rfl⟩|⟨e,rfl⟩⟩:=C7 ar q;show#[e,by rw[aD];show h1,vs,_,yF h2,e];show#[e,by rw[aD];show h1,vs,yF h2,_,e,rfl,_,rfl]
def EW{c c':af}{vs us:List af}(e:(some { cls:=c,data:=.seq vs.toArray }:Option Obj)=some { cls:=c',data:=.seq us.toArray }):c=c'/\vs=us:=by
 have e1:=cV e;have e2:c=c':=dX Obj.cls e1;have e3:Data.seq vs.toArray=Data.seq us.toArray:=dX Obj.data e1;injection e3 with e4
 apply#[e2,?_];have e5:=dX Lj e4;simpa using e5
def YE(KX:K.In h)(ar:∀a∈A,l9 h A a){a:aa}{vs:List af}(ha:a∈A)(e:h.get? a=some { cls:=.type "list",data:=.seq vs.toArray }):(∀u∈vs,lz A u)/\az K (gN K h A) a (vs.map i_):=by
 let#[us,h1,h2,h3]:=ar a ha;have hu:us=vs:=by
  obtain q|q:=h3
  rw[e]at q;show(EW q).2.symm;rw[e]at q;show absurd (XZ (EW q).1) ()
 subst hu;apply#[h2,?_];cases hk:K.lookup a with
 |none=>show .inl (.inr #[_,by rw[C6 ha hk e,Qb]])
 |some o=>
  have e2:=KX a o hk;rw[e]at e2;obtain rfl:=cV e2;show .inr #[_,us.toArray,_,hk,rfl,rfl,rfl,by rw[fi];show h1,by simpa using yF h2]
def YF(KX:K.In h)(ar:∀a∈A,l9 h A a){a:aa}{vs:List af}(ha:a∈A)(e:h.get? a=some { cls:=.type "tuple",data:=.seq vs.toArray }):(∀u∈vs,lz A u)/\bL K (gN K h A) a (vs.map i_):=by
 let#[us,h1,h2,h3]:=ar a ha;have hu:us=vs:=by
  obtain q|q:=h3
  rw[e]at q;show absurd (XZ (EW q).1) ();rw[e]at q;show(EW q).2.symm
 subst hu;apply#[h2,?_];cases hk:K.lookup a with
 |none=>show .inl (.inr #[_,by rw[C6 ha hk e,Qc]])
 |some o=>
  have e2:=KX a o hk;rw[e]at e2;obtain rfl:=cV e2;show .inr #[_,us.toArray,_,hk,rfl,rfl,by rw[fi];show h1,by simpa using yF h2]
mutual
theorem aaO{Pm:rG}(KX:K.In h)(ar:∀a∈A,l9 h A a):∀(d:fM)(v:af),Well Pm h v d->kQ d=true->lz A v->Dw K (gN K h A) (i_ v) d
 | .none,_,x,_,_=>by
  cases x;show .bn
 | .bool b,_,x,_,_=>by
  cases x;show .bl b
 | .int i,_,x,_,_=>by
  cases x;show .int i
 | .str s,_,x,_,_=>by
  cases x;show .str s
 | .bytes b,_,x,_,_=>by
  cases x;have z:=Dw.gP (K:=K) (H:=gN K h A) b.toArray;show z
 | .list ds,_,x,p,hu=>by
  let#[a,vs,rfl,ho,gT]:=U2 x;let#[h2,hs]:=YE KX ar hu ho;show .lst hs (Dx KX ar ds _ gT p h2)
 | .tuple ds,_,x,p,hu=>by
  let#[a,vs,rfl,ho,gT]:=U3 x;let#[h2,hs]:=YF KX ar hu ho;show .tup hs (Dx KX ar ds _ gT p h2)
 | .float _,_,_,p,_=>ma (show false=true from p)
 | .dict _,_,_,p,_=>ma (show false=true from p)
 | .bytearray _,_,_,p,_=>ma (show false=true from p)
 | .set _,_,_,p,_=>ma (show false=true from p)
 | .frozenset _,_,_,p,_=>ma (show false=true from p)
 | .obj _ _,_,_,p,_=>ma (show false=true from p)
theorem Dx{Pm:rG}(KX:K.In h)(ar:∀a∈A,l9 h A a):∀(ds:List fM)(vs:List af),qc Pm h vs ds->mR ds=true->(∀u∈vs,lz A u)->m6 K (gN K h A) (vs.map i_) ds
 |[],_,x,_,_=>by
  cases x;show .nil
 |d::ds,_,x,p,hu=>by
  let#[v,vs,rfl,x1,x2]:=U1 x;have q:kQ d=true/\mR ds=true:=Bool.and_eq_true_iff.mp p;show .cons (aaO KX ar d v x1 q.1 (hu _ (bq ..))) (Dx KX ar ds vs x2 q.2 λu m=>hu u (bp _ m))
end
end
def af2{ds:List fM}(h:WData.layableAll ds=true):∀d∈ds,d.weight<=1048576:=λd aoF=>
 (PySem.W.layableW_iff.mp (eW.mp h d aoF)).2.2
theorem OK:∀(cs:List Codec)(a:Lu cs),(B7 cs a).length=cs.length
 |[],_=>rfl
 |c::cs,a=>by
  show(B7 cs a.2).length+1=cs.length+1;rw[OK cs a.2]
end L2
namespace L2
open PySem PyProof.Rows
inductive X2 {α β:Type}(p:α->β->Prop):Prop|mk (a:α) (b:β) (h:p a b):X2 p
inductive X3 {α β γ:Type}(p:α->β->γ->Prop):Prop|mk (a:α) (b:β) (c:γ) (h:p a b c):X3 p
inductive X4 {α β γ δ:Type}(p:α->β->γ->δ->Prop):Prop|mk (a:α) (b:β) (c:γ) (d:δ) (h:p a b c d):X4 p
inductive X5 {α β γ δ ε :Type}(p:α->β->γ->δ-> ε ->Prop):Prop|mk (a:α) (b:β) (c:γ) (d:δ) (e: ε) (h:p a b c d e):X5 p
inductive X6 {α β γ δ ε ζ :Type}(p:α->β->γ->δ-> ε -> ζ ->Prop):Prop|mk (a:α) (b:β) (c:γ) (d:δ) (e: ε) (f: ζ) (h:p a b c d e f):X6 p
inductive X7 {α β γ δ ε ζ η :Type}(p:α->β->γ->δ-> ε -> ζ -> η ->Prop):Prop|mk (a:α) (b:β) (c:γ) (d:δ) (e: ε) (f: ζ) (g: η) (h:p a b c d e f g):X7 p
inductive N3 (a b c:Prop):Prop|mk (xa:a) (xb:b) (xc:c):N3 a b c
inductive N4 (a b c d:Prop):Prop|mk (xa:a) (xb:b) (xc:c) (xd:d):N4 a b c d
inductive N5 (a b c d e:Prop):Prop|mk (xa:a) (xb:b) (xc:c) (xd:d) (xe:e):N5 a b c d e
inductive N6 (a b c d e f:Prop):Prop|mk (xa:a) (xb:b) (xc:c) (xd:d) (xe:e) (xf:f):N6 a b c d e f
inductive N7 (a b c d e f g:Prop):Prop|mk (xa:a) (xb:b) (xc:c) (xd:d) (xe:e) (xf:f) (xg:g):N7 a b c d e f g
inductive N8 (a b c d e f g h:Prop):Prop|mk (xa:a) (xb:b) (xc:c) (xd:d) (xe:e) (xf:f) (xg:g) (xh:h):N8 a b c d e f g h
def anP{b:Bool}{p:Bool->Prop}:(∃c,V.bl b=.bl c/\p c)=p b:=propext #[λ⟨_,h,q⟩=>by cases h;show q,λh=>#[b,rfl,h]]
def anQ{a:Int}{p:Int->Prop}:(∃c,V.int a=.int c/\p c)=p a:=propext #[λ⟨_,h,q⟩=>by cases h;show q,λh=>#[a,rfl,h]]
def anR{a b:Int}{p:Int->Int->Prop}:(∃i j,V.int a=.int i/\V.int b=.int j/\p i j)=p a b:=propext #[λ⟨_,_,h,g,q⟩=>by cases h;cases g;show q,λh=>#[a,b,rfl,rfl,h]]
def anU{a:Str}{q:Prop}:((∃c,V.str a=.str c)/\q)=q:=propext #[λh=>h.2,λh=>#[#[a,rfl],h]]
def anS{a:Str}{p:Str->Prop}:(∃c,V.str a=.str c/\p c)=p a:=propext #[λ⟨_,h,q⟩=>by cases h;show q,λh=>#[a,rfl,h]]
def anT{a b:Str}{p:Str->Str->Prop}:(∃c d,V.str a=.str c/\[V.str b]=[.str d]/\p c d)=p a b:=propext #[λ⟨_,_,h,g,q⟩=>by cases h;cases g;show q,λh=>#[a,b,rfl,rfl,h]]
end L2
namespace Pm
open PySem PySem.Spec PyProof.Rows L2
def aU(i:Nat):dt:=PySem.Challenge.pw_pagemoves_s01_answers.main.body.getD i (.Pass #[0,0,0,0])
abbrev yp:dt:=aU 36
abbrev ahk:List Str:=["visit","boxes","places","numbered","others","place"]
def Tj:le ahk ["visit"] (eR yp):=qZ _ _ _ (by decide+kernel)
abbrev S':dt:=aU 56
abbrev RF:List Str:=["visit","places","found","place"]
def aoz:le RF ["visit","places"] (eR S'):=qZ _ _ _ (by decide+kernel)
abbrev S8:dt:=aU 69
abbrev RE:List Str:=["visit","number","places","place"]
def aoy:le RE ["visit","number"] (eR S8):=qZ _ _ _ (by decide+kernel)
abbrev S_:dt:=aU 76
abbrev ahm:List Str:=["word","longest"]
def Tl:le ahm ["word","longest"] (eR S_):=qZ _ _ _ (by decide+kernel)
abbrev S9:dt:=aU 77
abbrev ahl:List Str:=["text","word"]
def Tk:le ahl ["text"] (eR S9):=qZ _ _ _ (by decide+kernel)
abbrev Kk:dt:=aU 164
abbrev ahj:List Str:=["calls","visit","feed","given","answer"]
def Th:le ahj ["calls"] (eR Kk):=qZ _ _ _ (by decide+kernel)
structure aO where
 cX:aa
 kl:aa
 jA:aa
 kj:aa
 jB:aa
 Box:aa
 Call:aa
 iL:aa
 d_:aa
 Spot:aa
 Words:aa
 Rule:aa
 KINDS:aa
 vP:aa
 tU:aa
 yJ:aa
 wH:aa
 zB:aa
 zC:aa
 zD:aa
 zE:aa
 yK:aa
 FL:aa
 FM:aa
 FN:aa
 FP:aa
 FQ:aa
 RESERVED:aa
 wf:aa
 vQ:aa
 ug:aa
 yP:aa
 B9:aa
 B_:aa
 Ca:aa
 rp:aa
 wo:aa
 SOURCES:aa
 vO:aa
 Ap:aa
 As:aa
 Aq:aa
 Ag:aa
 Aw:aa
 Ae:aa
 An:aa
 Ar:aa
 Ao:aa
 Aj:aa
 Ak:aa
 Am:aa
 Au:aa
 Af:aa
 Al:aa
 Ah:aa
 Ai:aa
 Av:aa
structure Txt (w:aW)(K:aP)(mg:Str->Option af)(A:aO):Prop where
 fZ:tW K mg "WrongText" A.cX
 Va:tW K mg "WrongNumber" A.kl
 U':tW K mg "NoSuchBox" A.jA
 Fx:tW K mg "WrongKind" A.kj
 Fw:tW K mg "NotNow" A.jB
 aa8:fK K (.ref A.cX) (.ref A.cX)=some true
 anO:fK K (.ref A.cX) (.ref A.kl)=some false
 anL:fK K (.ref A.cX) (.ref A.jA)=some false
 anN:fK K (.ref A.cX) (.ref A.kj)=some false
 anM:fK K (.ref A.cX) (.ref A.jB)=some false
 aa7:fK K (.ref A.kl) (.ref A.cX)=some false
 aa6:fK K (.ref A.kl) (.ref A.kl)=some true
 anI:fK K (.ref A.kl) (.ref A.jA)=some false
 anK:fK K (.ref A.kl) (.ref A.kj)=some false
 anJ:fK K (.ref A.kl) (.ref A.jB)=some false
 aaW:fK K (.ref A.jA) (.ref A.cX)=some false
 aaV:fK K (.ref A.jA) (.ref A.kl)=some false
 aaU:fK K (.ref A.jA) (.ref A.jA)=some true
 anG:fK K (.ref A.jA) (.ref A.kj)=some false
 anF:fK K (.ref A.jA) (.ref A.jB)=some false
 aa5:fK K (.ref A.kj) (.ref A.cX)=some false
 aa4:fK K (.ref A.kj) (.ref A.kl)=some false
 aa2:fK K (.ref A.kj) (.ref A.jA)=some false
 aa3:fK K (.ref A.kj) (.ref A.kj)=some true
 anH:fK K (.ref A.kj) (.ref A.jB)=some false
 aa1:fK K (.ref A.jB) (.ref A.cX)=some false
 aa0:fK K (.ref A.jB) (.ref A.kl)=some false
 aaX:fK K (.ref A.jB) (.ref A.jA)=some false
 aaZ:fK K (.ref A.jB) (.ref A.kj)=some false
 aaY:fK K (.ref A.jB) (.ref A.jB)=some true
 b8:eU K A.Box
 afl:ClsAt K mg "Box" A.Box "Box.__init__" (inClass (aU 9) 0)
 rP:cM K A.Box "acts"
 wI:cM K A.Box "by"
 rQ:cM K A.Box "deep"
 wJ:cM K A.Box "hidden"
 rR:cM K A.Box "hint"
 nz:cM K A.Box "ident"
 ik:cM K A.Box "kind"
 zF:cM K A.Box "label"
 wK:cM K A.Box "off"
 wL:cM K A.Box "on"
 uv:cM K A.Box "order"
 qd:cM K A.Box "parent"
 wM:cM K A.Box "text"
 gm:eU K A.Call
 afm:ClsAt K mg "Call" A.Call "Call.__init__" (inClass (aU 24) 0)
 nA:cM K A.Call "choice"
 M1:cM K A.Call "number"
 km:cM K A.Call "text"
 lO:eU K A.iL
 afn:ClsAt K mg "Feed" A.iL "Feed.__init__" (inClass (aU 25) 0)
 rS:cM K A.iL "at"
 CU:cM K A.iL "numbers"
 bM:eU K A.d_
 afq:ClsAt K mg "Visit" A.d_ "Visit.__init__" (inClass (aU 27) 0)
 cR:cM K A.d_ "boxes"
 wQ:cM K A.d_ "here"
 wR:cM K A.d_ "hidden"
 zG:cM K A.d_ "on"
 CW:cM K A.d_ "rules"
 mF:eU K A.Spot
 afp:ClsAt K mg "Spot" A.Spot "Spot.__init__" (inClass (aU 50) 0)
 wN:cM K A.Spot "column"
 wO:cM K A.Spot "grid"
 wP:cM K A.Spot "row"
 lP:eU K A.Words
 afr:ClsAt K mg "Words" A.Words "Words.__init__" (inClass (aU 78) 0)
 qe:cM K A.Words "at"
 qf:cM K A.Words "parts"
 qG:eU K A.Rule
 afo:ClsAt K mg "Rule" A.Rule "Rule.__init__" (inClass (aU 125) 0)
 CV:cM K A.Rule "focus"
 M3:cM K A.Rule "role"
 G1:cM K A.Rule "sources"
 G3:cM K A.Rule "whole"
 JD:MethAt K A.iL "ended" "Feed.ended" (inClass (aU 25) 1)
 Bb:MethAt K A.iL "take" "Feed.take" (inClass (aU 25) 2)
 JF:MethAt K A.iL "take_row" "Feed.take_row" (inClass (aU 25) 3)
 JE:MethAt K A.iL "take_call" "Feed.take_call" (inClass (aU 25) 4)
 Ej:MethAt K A.d_ "turn_to" "Visit.turn_to" (inClass (aU 27) 1)
 uX:MethAt K A.Words "ended" "Words.ended" (inClass (aU 78) 1)
 xU:MethAt K A.Words "ahead" "Words.ahead" (inClass (aU 78) 2)
 kL:MethAt K A.Words "take" "Words.take" (inClass (aU 78) 3)
 kK:MethAt K A.Words "skip" "Words.skip" (inClass (aU 78) 4)
 abF:a_ K mg "has_box" (aU 10)
 ace:a_ K mg "place_of" (aU 11)
 aca:a_ K mg "own_places" (aU 12)
 acg:a_ K mg "places_around" (aU 13)
 acw:a_ K mg "sign_table" (aU 17)
 acL:a_ K mg "text_of" (aU 18)
 acJ:a_ K mg "text_answer" (aU 19)
 acM:a_ K mg "texts_answer" (aU 20)
 acq:a_ K mg "rule_of" (aU 28)
 acv:a_ K mg "shown_own_places" (aU 29)
 abU:a_ K mg "is_visible_with" (aU 30)
 abT:a_ K mg "is_visible" (aU 31)
 ab1:a_ K mg "modal_place" (aU 32)
 abV:a_ K mg "is_within_reach" (aU 33)
 acI:a_ K mg "takes_focus_now" (aU 35)
 abz:a_ K mg "focus_order" yp
 ack:a_ K mg "put_together" (aU 38)
 abW:a_ K mg "kids_name" (aU 39)
 abM:a_ K mg "inner_source" (aU 40)
 OT:a_ K mg "inner_name" (aU 41)
 ab4:a_ K mg "names_of" (aU 42)
 ab':a_ K mg "outer_source" (aU 43)
 ab2:a_ K mg "name_source" (aU 44)
 abC:a_ K mg "full_name" (aU 45)
 abE:a_ K mg "grid_of" (aU 51)
 acx:a_ K mg "spot_of" (aU 52)
 abr:a_ K mg "cell_spot" (aU 53)
 acb:a_ K mg "place_at" (aU 54)
 acd:a_ K mg "place_beside" (aU 55)
 ab9:a_ K mg "only_ths" S'
 abH:a_ K mg "heads_above" (aU 57)
 abI:a_ K mg "heads_before" (aU 58)
 acs:a_ K mg "sentence_of" (aU 59)
 abQ:a_ K mg "is_said_by_itself" (aU 66)
 abN:a_ K mg "is_heard" (aU 67)
 abP:a_ K mg "is_of_class" (aU 68)
 abJ:a_ K mg "heard_places" S8
 ab7:a_ K mg "next_place" (aU 70)
 acj:a_ K mg "prev_place" (aU 71)
 abG:a_ K mg "heading_level" (aU 72)
 abZ:a_ K mg "lines_of" (aU 75)
 abS:a_ K mg "is_small" S_
 abR:a_ K mg "is_saying" S9
 acF:a_ K mg "take_saying" (aU 79)
 ab5:a_ K mg "need_end" (aU 80)
 abO:a_ K mg "is_ident" (aU 89)
 ab6:a_ K mg "need_ident" (aU 90)
 acz:a_ K mg "take_kind" (aU 91)
 acA:a_ K mg "take_labellers" (aU 92)
 acD:a_ K mg "take_number" (aU 93)
 acl:a_ K mg "read_act" (aU 94)
 acy:a_ K mg "take_acts" (aU 95)
 acC:a_ K mg "take_names" (aU 96)
 acB:a_ K mg "take_marks" (aU 97)
 abw:a_ K mg "check_marks" (aU 98)
 acm:a_ K mg "read_box" (aU 99)
 ab0:a_ K mg "may_stand" (aU 106)
 abt:a_ K mg "check_first" (aU 107)
 abv:a_ K mg "check_later" (aU 108)
 acu:a_ K mg "set_parent" (aU 109)
 ab3:a_ K mg "named_idents" (aU 110)
 abu:a_ K mg "check_idents" (aU 111)
 acn:a_ K mg "read_page" (aU 112)
 aby:a_ K mg "does_something" (aU 114)
 abq:a_ K mg "can_be_pressed" (aU 115)
 abK:a_ K mg "hidden_after" (aU 116)
 aci:a_ K mg "press_box" (aU 117)
 abX:a_ K mg "leads_out" (aU 118)
 ach:a_ K mg "places_that_lead_out" (aU 119)
 acE:a_ K mg "take_role" (aU 126)
 acG:a_ K mg "take_source" (aU 127)
 acH:a_ K mg "take_sources" (aU 128)
 aco:a_ K mg "read_rule" (aU 129)
 acp:a_ K mg "read_rules" (aU 130)
 acr:a_ K mg "said_hint" (aU 132)
 acK:a_ K mg "text_besides" (aU 133)
 abL:a_ K mg "in_quotes" (aU 134)
 abY:a_ K mg "level_word" (aU 135)
 ab8:a_ K mg "on_word" (aU 136)
 acN:a_ K mg "what_is_said" (aU 137)
 Ap:a_ K mg "answer_page" (aU 139)
 As:a_ K mg "answer_rules" (aU 140)
 Aq:a_ K mg "answer_press" (aU 141)
 acf:a_ K mg "places_answer" (aU 142)
 Ag:a_ K mg "answer_focus" (aU 143)
 abA:a_ K mg "focus_step" (aU 144)
 Aw:a_ K mg "answer_tab" (aU 145)
 Ae:a_ K mg "answer_back" (aU 146)
 abx:a_ K mg "check_number" (aU 147)
 abB:a_ K mg "found_answer" (aU 148)
 An:a_ K mg "answer_next" (aU 149)
 Ar:a_ K mg "answer_prev" (aU 150)
 Ao:a_ K mg "answer_outline" (aU 151)
 Aj:a_ K mg "answer_grid" (aU 152)
 Ak:a_ K mg "answer_heads" (aU 153)
 Am:a_ K mg "answer_move" (aU 154)
 Au:a_ K mg "answer_sentence" (aU 155)
 Af:a_ K mg "answer_escape" (aU 156)
 Al:a_ K mg "answer_here" (aU 157)
 abD:a_ K mg "go_to" (aU 158)
 Ah:a_ K mg "answer_go" (aU 159)
 Ai:a_ K mg "answer_goback" (aU 160)
 Av:a_ K mg "answer_size" (aU 161)
 abp:a_ K mg "answer_call" (aU 163)
 anW:a_ K mg "answers" Kk
 YN:mg "all"=none
 G9:mg "any"=none
 Db:mg "enumerate"=none
 YO:mg "int"=none
 dH:mg "len"=none
 YQ:mg "list"=none
 YR:mg "max"=none
 YS:mg "min"=none
 G_:mg "ord"=none
 zL:mg "range"=none
 G':mg "set"=none
 YT:mg "sorted"=none
 YU:mg "str"=none
 YV:mg "zip"=none
 KINDS:dP mg "KINDS" (.ref A.KINDS)
 al6:∀H:Hp,bL K H A.KINDS [(V.str "page"),(V.str "part"),(V.str "h1"),(V.str "h2"),(V.str "h3"),(V.str "p"),(V.str "link"),(V.str "button"),(V.str "field"),(V.str "check"),(V.str "list"),(V.str "item"),(V.str "table"),(V.str "row"),(V.str "cell"),(V.str "th"),(V.str "image"),(V.str "live"),(V.str "modal")]
 aoj:∃o,K.lookup A.KINDS=some o/\o.cls=.type "tuple"/\o.dict=none
 mi:dP mg "NOWHERE" (V.int (-1))
 WW:dP mg "SIGNS" (V.str "abcdefghijklmnopqrstuvwxyz0123456789 :\"\n")
 WX:dP mg "STRANGE" (V.str "?")
 vP:dP mg "CALLS_WITH_NUMBER" (.ref A.vP)
 alV:∀H:Hp,bL K H A.vP [(V.int 6),(V.int 7),(V.int 11),(V.int 15),(V.int 16)]
 an8:∃o,K.lookup A.vP=some o/\o.cls=.type "tuple"/\o.dict=none
 tU:dP mg "CALLS_WITH_ROW" (.ref A.tU)
 Us:∀H:Hp,bL K H A.tU [(V.int 0),(V.int 1),(V.int 2),(V.int 4),(V.int 5),(V.int 6),(V.int 7),(V.int 9),(V.int 10),(V.int 11),(V.int 12)]
 an9:∃o,K.lookup A.tU=some o/\o.cls=.type "tuple"/\o.dict=none
 yJ:dP mg "CELL_KINDS" (.ref A.yJ)
 alW:∀H:Hp,bL K H A.yJ [(V.str "cell"),(V.str "th")]
 an':∃o,K.lookup A.yJ=some o/\o.cls=.type "tuple"/\o.dict=none
 wH:dP mg "WAYS" (.ref A.wH)
 amc:∀H:Hp,bL K H A.zB [(V.int 0),(V.int (-1))]
 aoq:∃o,K.lookup A.zB=some o/\o.cls=.type "tuple"/\o.dict=none
 amd:∀H:Hp,bL K H A.zC [(V.int 0),(V.int 1)]
 aor:∃o,K.lookup A.zC=some o/\o.cls=.type "tuple"/\o.dict=none
 ame:∀H:Hp,bL K H A.zD [(V.int (-1)),(V.int 0)]
 aos:∃o,K.lookup A.zD=some o/\o.cls=.type "tuple"/\o.dict=none
 amf:∀H:Hp,bL K H A.zE [(V.int 1),(V.int 0)]
 aot:∃o,K.lookup A.zE=some o/\o.cls=.type "tuple"/\o.dict=none
 amb:∀H:Hp,bL K H A.wH [(V.ref A.zB),(V.ref A.zC),(V.ref A.zD),(V.ref A.zE)]
 aop:∃o,K.lookup A.wH=some o/\o.cls=.type "tuple"/\o.dict=none
 VG:dP mg "LAST_WAY" (V.int 3)
 Lh:dP mg "ALL" (V.int 0)
 B8:dP mg "HEADING" (V.int 1)
 Vw:dP mg "FOCUSED" (V.int 2)
 yK:dP mg "CLASS_KINDS" (.ref A.yK)
 Ut:∀H:Hp,bL K H A.FL [(V.str "h1"),(V.str "h2"),(V.str "h3")]
 ahY:∃o,K.lookup A.FL=some o/\o.cls=.type "tuple"/\o.dict=none
 alX:∀H:Hp,bL K H A.FM [(V.str "link")]
 aoa:∃o,K.lookup A.FM=some o/\o.cls=.type "tuple"/\o.dict=none
 alY:∀H:Hp,bL K H A.FN [(V.str "field"),(V.str "check")]
 aob:∃o,K.lookup A.FN=some o/\o.cls=.type "tuple"/\o.dict=none
 alZ:∀H:Hp,bL K H A.FP [(V.str "table")]
 aoc:∃o,K.lookup A.FP=some o/\o.cls=.type "tuple"/\o.dict=none
 al0:∀H:Hp,bL K H A.FQ [(V.str "list")]
 aod:∃o,K.lookup A.FQ=some o/\o.cls=.type "tuple"/\o.dict=none
 NR:KD w K A.yK [((bU 1),V.ref A.FL),((bU 3),V.ref A.FM),((bU 4),V.ref A.FN),((bU 5),V.ref A.FP),((bU 6),V.ref A.FQ)]
 Cd:dP mg "LAST_CLASS" (V.int 6)
 VJ:dP mg "LONGEST_SAYING" (V.int 20)
 VH:dP mg "LONGEST_ID" (V.int 6)
 RESERVED:dP mg "RESERVED" (.ref A.RESERVED)
 al9:∀H:Hp,bL K H A.RESERVED [(V.str "label"),(V.str "by"),(V.str "hint"),(V.str "hidden"),(V.str "off"),(V.str "on"),(V.str "order"),(V.str "press")]
 aom:∃o,K.lookup A.RESERVED=some o/\o.cls=.type "tuple"/\o.dict=none
 wf:dP mg "NUMBERS" (.ref A.wf)
 al7:∀H:Hp,bL K H A.wf [(V.str "1"),(V.str "2"),(V.str "3"),(V.str "4"),(V.str "5"),(V.str "6"),(V.str "7"),(V.str "8"),(V.str "9")]
 aok:∃o,K.lookup A.wf=some o/\o.cls=.type "tuple"/\o.dict=none
 vQ:dP mg "DEEDS" (.ref A.vQ)
 al1:∀H:Hp,bL K H A.vQ [(V.str "show"),(V.str "hide"),(V.str "flip")]
 aoe:∃o,K.lookup A.vQ=some o/\o.cls=.type "tuple"/\o.dict=none
 ug:dP mg "PRESSED_KINDS" (.ref A.ug)
 al8:∀H:Hp,bL K H A.ug [(V.str "link"),(V.str "button"),(V.str "check")]
 aol:∃o,K.lookup A.ug=some o/\o.cls=.type "tuple"/\o.dict=none
 Wj:dP mg "MOST_LABELLERS" (V.int 3)
 Wh:dP mg "MOST_ACTS" (V.int 3)
 Vu:dP mg "FIRST_PAGE" (V.str "page top\n")
 Wi:dP mg "MOST_BOXES" (V.int 16)
 Vq:dP mg "DEEPEST" (V.int 5)
 yP:dP mg "HOLDERS" (.ref A.yP)
 al3:∀H:Hp,bL K H A.B9 [(V.str "row")]
 aog:∃o,K.lookup A.B9=some o/\o.cls=.type "tuple"/\o.dict=none
 al4:∀H:Hp,bL K H A.B_ [(V.str "cell"),(V.str "th")]
 aoh:∃o,K.lookup A.B_=some o/\o.cls=.type "tuple"/\o.dict=none
 al5:∀H:Hp,bL K H A.Ca [(V.str "item")]
 aoi:∃o,K.lookup A.Ca=some o/\o.cls=.type "tuple"/\o.dict=none
 NS:KD w K A.yP [((gK "table"),V.ref A.B9),((gK "row"),V.ref A.B_),((gK "list"),V.ref A.Ca)]
 rp:dP mg "HELD" (.ref A.rp)
 al2:∀H:Hp,bL K H A.rp [(V.str "row"),(V.str "cell"),(V.str "th"),(V.str "item")]
 aof:∃o,K.lookup A.rp=some o/\o.cls=.type "tuple"/\o.dict=none
 VI:dP mg "LONGEST_ROLE" (V.int 8)
 wo:dP mg "RESERVED_ROLES" (.ref A.wo)
 al':∀H:Hp,bL K H A.wo [(V.str "focus"),(V.str "whole"),(V.str "from")]
 aon:∃o,K.lookup A.wo=some o/\o.cls=.type "tuple"/\o.dict=none
 SOURCES:dP mg "SOURCES" (.ref A.SOURCES)
 ama:∀H:Hp,bL K H A.SOURCES [(V.str "by"),(V.str "label"),(V.str "text"),(V.str "kids"),(V.str "hint")]
 aoo:∃o,K.lookup A.SOURCES=some o/\o.cls=.type "tuple"/\o.dict=none
 Vv:dP mg "FIRST_RULES" (V.str "page page from by label\npart part from by label\nh1 heading whole from by label text kids\nh2 heading whole from by label text kids\nh3 heading whole from by label text kids\np text from text\nlink link focus whole from by label text kids hint\nbutton button focus whole from by label text kids hint\nfield field focus from by label hint\ncheck check focus whole from by label text kids\nlist list from by label\nitem item from by label text\ntable table from by label\nrow row\ncell cell from text\nth head whole from label text kids\nimage image whole from by label\nlive live from by label\nmodal modal from by label\n")
 vO:dP mg "CALLS" (.ref A.vO)
 Yr:mg "answer_page"=some (.ref A.Ap)
 Yu:mg "answer_rules"=some (.ref A.As)
 Ys:mg "answer_press"=some (.ref A.Aq)
 Yi:mg "answer_focus"=some (.ref A.Ag)
 Yx:mg "answer_tab"=some (.ref A.Aw)
 Yg:mg "answer_back"=some (.ref A.Ae)
 Yp:mg "answer_next"=some (.ref A.An)
 Yt:mg "answer_prev"=some (.ref A.Ar)
 Yq:mg "answer_outline"=some (.ref A.Ao)
 Yl:mg "answer_grid"=some (.ref A.Aj)
 Ym:mg "answer_heads"=some (.ref A.Ak)
 Yo:mg "answer_move"=some (.ref A.Am)
 Yv:mg "answer_sentence"=some (.ref A.Au)
 Yh:mg "answer_escape"=some (.ref A.Af)
 Yn:mg "answer_here"=some (.ref A.Al)
 Yj:mg "answer_go"=some (.ref A.Ah)
 Yk:mg "answer_goback"=some (.ref A.Ai)
 Yw:mg "answer_size"=some (.ref A.Av)
 ZD:KD w K A.vO [((bU 0),V.ref A.Ap),((bU 1),V.ref A.As),((bU 2),V.ref A.Aq),((bU 3),V.ref A.Ag),((bU 4),V.ref A.Aw),((bU 5),V.ref A.Ae),((bU 6),V.ref A.An),((bU 7),V.ref A.Ar),((bU 8),V.ref A.Ao),((bU 9),V.ref A.Aj),((bU 10),V.ref A.Ak),((bU 11),V.ref A.Am),((bU 12),V.ref A.Au),((bU 13),V.ref A.Af),((bU 14),V.ref A.Al),((bU 15),V.ref A.Ah),((bU 16),V.ref A.Ai),((bU 17),V.ref A.Av)]
end Pm
namespace Pm
open PySem PySem.Spec PyProof.Rows L2 TL
def S(l:W):Str:=#[l.toArray]
def mU(l:W):tl (S l)=l:=rfl
def WY(x:Str):S (tl x)=x:=agW x
def wt{a b:W}(h:S a=S b):a=b:=by rw[<-mU a,h,mU]
def ft(l:W):(S l).length=l.length:=by rw[uT,mU]
def GC(a b:W):S a++S b=S (a++b):=uG (by rw[KP,mU,mU,mU])
def mj{a b:W}:S a=S b↔a=b:=#[wt,λh=>by rw[h]]
def bc(p:aa)(H H':Hp):Prop:=∀b o,H b=some o->b≠p->H' b=some o
def bc.of_same{p:aa}{H H':Hp}(h:am H H'):bc p H H':=λb o e _=>h b o e
def bc.trans{p:aa}{H H1 H2:Hp}(a:bc p H H1)(b:bc p H1 H2):bc p H H2:=λc o e n=>b c o (a c o e n) n
def bc.upd{p:aa}{H:Hp}{o:HO}:bc p H (L2.upd H p o):=λb u e n=>by rw[aG n];show e
def am.new{q:aa}{H:Hp}{o:HO}(hq:H q=none):am H (L2.upd H q o):=λb u e=>by rw[aG (bf e hq)];show e
def bc.refl{p:aa}{H:Hp}:bc p H H:=λ_ _ e _=>e
theorem Kr(c:Nat):∀(l acc:W),dO [c] 0 acc l=(match bg c l with|w::ws=>(acc++w)::ws|[]=>[acc])
 |[],acc=>by simp[dO,bg]
 |b::r,acc=>by
  by_cases h:b=c
  subst h;rw[TW (by simp[pre]),bg,aq rfl];have:=Kr b r [];cases e:bg b r with
  |nil=>show absurd e (i9 b r)
  |cons w ws=>rw[e]at this;simp[this]
  rw[TY (Sw [] r h),Kr c r,bg,ay h];cases e:bg c r with
  |nil=>show absurd e (i9 c r)
  |cons w ws=>simp
def E4(c:Nat)(l:W)(hc:c<256):lC (S l) #[(List.toArray [c])]=(bg c l).map S:=by
 apply JG;rw[T2 (S l) #[(List.toArray [c])] (by simp[tl]) (QX (by simp[hc]))];show dO [c] 0 [] l=_;rw[Kr];have hm:((bg c l).map S).map tl=bg c l:=by
  rw[bh];show(fg λ_ _=>rfl).trans (m_ _)
 rw[hm];cases e:bg c l with
 |nil=>show absurd e (i9 c l)
 |cons w ws=>simp
def T9(c:Nat)(l:W):wx (S l) #[(List.toArray [c])]=iK c l:=by
 have h:=WH (S l) c 0;have e:(wx (S l) #[(List.toArray [c])]=true)↔l[0]? =some c:=by
  rw[<-(show(S l).cps.toList=l from rfl)];rw[<-h];unfold wx;rw[bS,bw];show Cc
 rw[cw,e];unfold iK;rw[gO,V3]
def OL(c:Nat)(l:W):ww (S l) #[(List.toArray [c])]=gj c l:=by
 have h:=WH (S l) c ((S l).length-1);have e:(ww (S l) #[(List.toArray [c])]=true)↔l.getLast?=some c:=by
  rw[List.getLast?_eq_getElem?,<-ft l,<-(show(S l).cps.toList=l from rfl)];unfold ww;rw[bS,bw];show(0+1<=(S l).length/\Builtin.Str.subAt (S l) #[(List.toArray [c])] ((S l).length-1)=true)↔_;rw[show(S (S l).cps.toList)=S l from rfl,<-h];constructor;rintro⟨h1,h2⟩;show#[by show(S l).length-1+1<=(S l).length;omega,h2];rintro⟨h1,h2⟩;have h1:(S l).length-1+1<=(S l).length:=h1;show#[by omega,h2]
 rw[cw,e];unfold gj;rw[gO]
def UP:∀c,c<128->MI c=(fm c||isUp c):=by decide+kernel
def UO:∀c,c<128->W6 c=gl c:=by decide+kernel
def amL:∀c,c<128->MJ c=fm c:=by decide+kernel
def UQ:∀c,c<128->(ML c||MK c)=isUp c:=by decide+kernel
def agB:∀c,c<128->fm c=true->isUp c=false:=by decide+kernel
def Yf{l:W}(h:f6 l):zk (S l)=isAlnum l:=by
 unfold zk isAlnum;rw[ft];have e:(S l).cps.all W6=l.all gl:=by
  rw[<-Ve];show l.all _=_;rw[cw,eW,eW];show#[λz c hc=>by rw[<-UO c (h c hc)];show z c hc,λz c hc=>by rw[UO c (h c hc)];show z c hc]
 rw[e];cases l<;>simp
def ajI{l:W}(h:f6 l)(n:Int):(GH (S l)&&(GI (S l)&&decide (((S l).length:Int)<=n)))=isSmall l n:=by
 unfold GH GI isSmall;rw[ft];rw[<-Ve,<-Vf,<-Vf];show(decide (l.length>0)&&l.all MI&&(l.any MJ&&(!l.any λc=>ML c||MK c)&&decide ((l.length:Int)<=n)))=_;cases l with
 |nil=>simp
 |cons a r=>
  have ea:((a::r).all MI&&((a::r).any MJ&& !(a::r).any λc=>ML c||MK c))=(a::r).all fm:=by
   rw[cw];simp![bS,eW,VO,pX,VN];constructor;rintro⟨h1,_,h3⟩ c hc;have q1:=h1 c hc;have q3:=h3 c hc;rw[UP c (h c hc)]at q1;rw[UQ c (h c hc)]at q3;simpa[q3]using q1;intro z;apply#[λc hc=>by rw[UP c (h c hc),z c hc];rfl,#[a,bq,by rw[amL a (h a bq)];show z a bq],λc hc=>?_];rw[UQ c (h c hc),agB c (h c hc) (z c hc)];show dh
  rw[<-ea];simp[Bool.and_assoc]
end Pm
local macro_rules|`(tactic|simp! only[$xs,*])=>`(tactic|((try dsimp only[L2.alM,L2.aoB,L2.als,L2.alK,L2.alI,L2.alr,L2.alJ,L2.alH,L2.alF,L2.KI,L2.BV,L2.tC,L2.Fb,L2.alT,L2.Uo,L2.E_,L2.vz,L2.alz,L2.tB,L2.alP,L2.alx,L2.E7,L2.iU,L2.alN,L2.alG,L2.alA,L2.KG,L2.ajk,L2.BU,L2.Fa,L2.Uq,L2.alL,L2.alE,L2.alS,L2.EL,L2.jn,L2.rI,L2.rU,L2.aiL,L2.aiQ,L2.Tn,L2.CD,L2.VL,L2.anC,L2.start,jx,oK,nc,List.append,ja,lq,eJ,Nat.sub_self,Nat.reduceSub,Wm,List.set,LL,F7,f7,ic,L2.Ew,L2.oa,L2.sP,L2.aow,L2.aov,L2.aox,L2.Ev,L2.an4,L2.anX,L2.an6,L2.aoA]);try simp only[↓L2.anP,↓L2.anQ,↓L2.anR,↓L2.anU,↓L2.anS,↓L2.anT,L2.Ew,L2.oa,L2.sP,L2.aow,L2.aov,L2.aox,L2.Ev,L2.an4,L2.anX,L2.an6,L2.aoA,L2.alM,L2.aoB,L2.als,L2.alK,L2.alI,L2.alr,L2.alJ,L2.alH,L2.alF,L2.KI,L2.BV,L2.tC,L2.Fb,L2.alT,L2.Uo,L2.E_,L2.vz,L2.alz,L2.tB,L2.alP,L2.alx,L2.E7,L2.iU,L2.alN,L2.alG,L2.alA,L2.KG,L2.ajk,L2.BU,L2.Fa,L2.Uq,L2.alL,L2.alE,L2.alS,L2.EL,L2.jn,L2.rI,L2.rU,L2.aiL,L2.aiQ,L2.Tn,L2.CD,L2.VL,L2.anC,L2.start,jx,oK,nc,List.append,ja,lq,eJ,Nat.sub_self,Nat.reduceSub,Wm,List.set,LL,F7,wk,exists_eq_left,exists_eq_left',exists_eq',L2.V.str.injEq,L2.V.int.injEq,L2.V.bl.injEq,L2.V.ref.injEq,L2.HO.ins.injEq,true_and,and_assoc,exists_and_left,exists_eq,exists_const,and_true,List.cons.injEq,reduceCtorEq,false_and,mQ,false_or,exists_false,and_false,bz,bI,bT,f7,ic,$xs,*]))
open Lean in
local macro_rules|`($c:char)=>`(L2.pv $(quote (c.getChar.toNat-48)))
namespace Pm
open PySem PySem.Spec PyProof.Rows L2 TL
section
variable{P:aZ}{w:aW}{K:aP}{mg:Str->Option af}{base:aL}{A:aO}(T:Txt w K mg A)
def akm:Sp:=λvs H Q _=>X2 λ(x:W) (n:Int)=>N4 (vs=[.str (S x),.int n]) (f6 x) (x.length<=sizeLine) (Q (.bl (isSmall x n)) H)
def Oc:aV P w K mg base "is_small" 1 ["word","longest"] akm:=by
 apply Dv T.abS (λ_ _ _ _ _ _=>A_ λ_ _=>rfl) λf fd F=>?_;apply F.yb Tl (λvs H Q E h=>by let#[x,n,rfl,_]:=h;rfl) (λcf A outer s H vs Q E hr h=>?_);let#[x,n,rfl,ha,hx,q]:=h;have nd:=Tl.nd;apply#[_,(aA (aT (u_ (Bs PySem.F.slot_str_isalpha PySem.F.type_str_isalpha ag3 '0') (u_ (Bs PySem.F.slot_str_islower PySem.F.type_str_islower ag4 '0') (qW (iY R5 (dg dW rfl T.dH L2.boot_len (ag '0' ao)) '1' (bO _))))))),?_]
 simp! only[]
 rw[<-ajI ha]at q;have hx:(S x).length<=sizeLine:=by rw[ft];show hx
 split<;>rename_i h1;split<;>rename_i h2;show#[hx,by simpa[h1,h2]using q];simpa[h1,h2]using q;simpa[h1]using q
def akl:Sp:=λvs H Q _=>∃(x:W),vs=[.str (S x)]/\f6 x/\x.length+2<=sizeLine/\∀H',am H H'->Q (.bl (hZ x)) H'
def Z7:aV P w K mg base "is_saying" 1 ["text"] akl:=by
 apply Dv T.abR (λ_ _ _ _ _ _=>Ei λ_=>rfl) λf fd F=>?_;apply F.yb Tk (λvs H Q E h=>by let#[x,rfl,_]:=h;rfl) (λcf A outer s H vs Q E hr h=>?_);let#[x,rfl,ha,hx,q]:=h;have nd:=Tk.nd;apply#[_,(aA (aT (u_ (iY R5 (dg dW rfl T.dH L2.boot_len (ag '0' ao)) (cq T.VJ rfl) (bO _)) (qW (dg (Zx rfl) rfl T.YN L2.boot_all (ag (fX eM rfl rfl nd (eF (ED '0' bG)) (eN (own:=[("word",1)]) rfl) (λ_ _ _ _ _ _=>(cC 1 nd)) (λ_ _ _ _ _ _=>by show i6) (λ_ _ _ _ _ _ _=>by show(Bs PySem.F.slot_str_isalnum PySem.F.type_str_isalnum ag2 '1'))) ao)))))),?_]
 simp! only[]
 have hl:(S x).length<=sizeLine:=by rw[ft];omega
 apply#[hl,?_];by_cases Pu:x.length<=20
 rw[aq (by rw[ft];simpa using(show(x.length:Int)<=20 by omega))];apply#[_,rfl,_,rfl,rfl,by rw[ft];show hx,λp hp=>#[_,rfl,#[_,az.of aH],?_]];have e:lC (S x) (bN " ")=(bg 32 x).map S:=E4 32 x ();rw[e];have hz:((bg 32 x).map S).length<=sizeLine:=by rw[<-e];show cp (Wr _ _) (by rw[ft];show hx)
 apply qJ (xs:=((bg 32 x).map S).map V.str) (f:=λ_=>true) (h:=λv=>match v with| .str y=>.bl (zk y)|_=>.bl false) (az.of aH) (by rw[aD];show hz) (λ_ _=>pW) (λv hv _=>?_) λD H' s' hD=>?_;let#[y,_,rfl]:=Ge.mp hv;intro H2 Q2 _ k;show#[_,rfl,rfl,k _ (am.refl _)];apply#[D,(bg 32 x).map isAlnum,rfl,az.of ?_,?_];rw[hD];congr 2;rw[List.filter_eq_self.mpr (λ_ _=>rfl),bh,bh,bh];apply fg λy hy=>?_;show V.bl (zk (S y))=V.bl (isAlnum y);rw[Yf (ha.split y hy)];have:=q H' ((am.new hp).trans s');unfold hZ at this;rw[b_ Pu,gp]at this;simpa[lj,vU]using this;rw[ay (by rw[ft];simpa using(show ¬(x.length:Int)<=20 by omega))];have:=q H (am.refl _);unfold hZ at this;rw[cO Pu,ow]at this;show this
def jZ(ws:List W):Nat:=(ws.map λw=>w.length+1).sum
def pT(w:W)(r:List W):jZ (w::r)=w.length+1+jZ r:=by simp[jZ]
theorem KS:∀(ws:List W),ws.length<=jZ ws
 |[]=>by simp[jZ]
 |a::r=>by rw[pT,cN];have:=KS r;omega
theorem UF:∀(n:Nat)(ws:List W),jZ (ws.drop n)<=jZ ws
 |0,ws=>bj _
 |n+1,[]=>bj _
 |n+1,a::r=>by rw[pT,F1];have:=UF n r;omega
theorem KU(c:Nat):∀l:W,jZ (bg c l)=l.length+1
 |[]=>rfl
 |b::r=>by
  have ih:=KU c r;unfold bg;split;rw[pT,ih];simp;omega;cases e:bg c r with
  |nil=>show absurd e (i9 c r)
  |cons w ws=>rw[e]at ih;rw[pT]at ih⊢;simp;omega
def wF(l:aa)(at_:Int):List (Str×V):=[("parts",.ref l),("at",.int at_)]
structure bV (A:aO)(H:Hp)(p lw:aa)(ws:List W):Prop where
 ex:∃(dx:aa)(parts:List W)(n:Nat),H p=some (.ins A.Words dx (wF lw n))/\H lw=some (.lst (parts.map λw=>V.str (S w)))/\ws=parts.drop n/\(∀w∈parts,f6 w)/\jZ parts<=4001
def bV.same{H H':Hp}{p lw:aa}{ws:List W}(h:bV A H p lw ws)(s:am H H'):bV A H' p lw ws:=
 let ⟨dx,parts,n,h1,h2,h3,h4,h5⟩:=h.ex
 #[dx,parts,n,s _ _ h1,s _ _ h2,h3,h4,h5]
def bV.asc{H:Hp}{p lw:aa}{ws:List W}(h:bV A H p lw ws):∀w∈ws,f6 w:=by
 let#[dx,parts,n,h1,h2,rfl,h4,h5]:=h.ex;show λw hw=>h4 w (LY hw)
def bV.KR{H:Hp}{p lw:aa}{ws:List W}(h:bV A H p lw ws):jZ ws<=4001:=by
 let#[dx,parts,n,h1,h2,rfl,h4,h5]:=h.ex;show cp (UF n parts) h5
def vI(l:aa)(z:Int):(wF l z).lookup ("parts":Str)=some (V.ref l):=rfl
def vH(l:aa)(z:Int):(wF l z).lookup ("at":Str)=some (V.int z):=rfl
def K5(l:aa)(z y:Int):dL ("at":Str) (.int y) (wF l z)=wF l y:=rfl
def bX{n:Nat}(h:n<=100000):n<=sizeLine:=by rw[vn];omega
def ajV(A:aO):Sp:=λvs H Q _=>X3 λ(p lw:aa) (ws:List W)=>N3 (vs=[.ref p]) (bV A H p lw ws) (Q (.bl ws.isEmpty) H)
def uX:ly P w K mg base A.Words "ended" 1 ["self"] (ajV A):=by
 apply qO T.lP T.uX ["self"] ?_;rintro f _ _ _ s H _ Q E hr nd ⟨p,lw,ws,rfl,hw,q⟩;let#[dx,parts,n,h1,h2,rfl,h4,h5]:=hw.ex;apply#[_,(aA (aT (iY Bp (aN '0' rfl) (dg dW rfl T.dH L2.boot_len (ag (aN '0' rfl) ao)) (bO _)))),?_]
 simp! only[h1,T.lP,T.qe,T.qf,vH,vI]
 apply#[_,.inl #[_,az.of h2,rfl],?_];have e:decide (((parts.map λw=>V.str (S w)).length:Int)<=(n:Int))=(parts.drop n).isEmpty:=by
  rw[aD,cw,bw,Ci,List.drop_eq_nil_iff];omega
 rw[e];show q
def ajU(A:aO):Sp:=λvs H Q _=>X3 λ(p lw:aa) (ws:List W)=>N3 (vs=[.ref p]) (bV A H p lw ws) (Q (.str (S (ws.headD []))) H)
def xU:ly P w K mg base A.Words "ahead" 2 ["self"] (ajU A):=by
 apply qO T.lP T.xU ["self"] ?_;rintro f _ _ _ s H _ Q E hr nd ⟨p,lw,ws,rfl,hw,q⟩;let#[dx,parts,n,h1,h2,e3,h4,h5]:=hw.ex;apply#[_,(aA (aT (qV (dq (fJ (uX T) (hr.mono ()) cn '0') (λ_=>rfl)) bG (cr cP (aN '0' rfl) (aN '0' rfl) (λ_ _=>rfl))))),?_];have nm:(wF lw n).lookup ("ahead":Str)=none:=rfl;have u0:(wF lw n).lookup ("ended":Str)=none:=rfl
 simp! only[h1,T.lP,T.qe,T.qf,vH,vI,nm,u0]
 apply#[p,lw,ws,rfl,hw,?_]
 simp! only[h1,T.lP,T.qe,T.qf,vH,vI,K5]
 cases ws with
 |nil=>show q
 |cons w r=>
  simp![p0,bT,bI];apply .inl #[_,_,_,_,rfl,rfl,az.of h2,cG ?_,q];have e:parts[n]? =some w:=by
   have:=dX List.head? e3;rw[LR]at this;show this.symm
  rw[cx,e];rfl
def ajY(A:aO):Sp:=λvs H Q _=>X3 λ(p lw:aa) (ws:List W)=>N3 (vs=[.ref p]) (bV A H p lw ws) (∀H',bV A H' p lw ws.tail->bc p H H'->Q (.str (S (ws.headD []))) H')
def bV.on{H:Hp}{p dx lw:aa}{parts:List W}{n:Nat}(h1:H p=some (.ins A.Words dx (wF lw n)))(h2:H lw=some (.lst (parts.map λw=>V.str (S w))))(h4:∀w∈parts,f6 w)(h5:jZ parts<=4001):
  bV A (L2.upd H p (.ins A.Words dx (wF lw ((n:Int)+1)))) p lw (parts.drop n).tail:=by
 apply#[dx,parts,n+1,aH,?_,by rw[Wb],h4,h5];rw[aG (iX h2 h1 (by intro z;cases z))];show h2
def kL:ly P w K mg base A.Words "take" 3 ["self"] (ajY A):=by
 apply qO T.lP T.kL ["self","word"] ?_;rintro f _ _ _ s H _ Q E hr nd ⟨p,lw,ws,rfl,hw,q⟩;let#[dx,parts,n,h1,h2,e3,h4,h5]:=hw.ex;apply#[_,(aC (bu 1 nd (fJ (xU T) (hr.mono ()) cn '0'))
   (aC (cQ '0' (eD fV (aN '0' rfl) cS) rfl)
   (aA (aT '1')))),?_]
 have nm:(wF lw n).lookup ("ahead":Str)=none:=rfl;have u0:(wF lw n).lookup ("ended":Str)=none:=rfl
 simp! only[h1,T.lP,T.qe,T.qf,vH,vI,nm,u0]
 apply#[p,lw,ws,rfl,hw,?_]
 simp! only[h1,T.lP,T.qe,T.qf,vH,vI,K5]
 apply#[(by show(2:Nat)<1000;decide),q _ ?_ bc.upd];rw[e3];show bV.on h1 h2 h4 h5
def ajX(A:aO):Sp:=λvs H Q _=>X4 λ(p lw:aa) (ws:List W) (x:W)=>N3 (vs=[.ref p,.str (S x)]) (bV A H p lw ws) (∀H',bV A H' p lw (if ws.headD []=x then ws.tail else ws)->bc p H H'->Q (.bl (decide (ws.headD []=x))) H')
def kK:ly P w K mg base A.Words "skip" 3 ["self","word"] (ajX A):=by
 apply qO T.lP T.kK ["self","word","found"] ?_;rintro f _ _ _ s H _ Q E hr nd ⟨p,lw,ws,x,rfl,hw,q⟩;let#[dx,parts,n,h1,h2,e3,h4,h5]:=hw.ex;apply#[_,(aC (bu 2 nd (iY fu (fJ (xU T) (hr.mono ()) cn '0') '1' (bO _)))
   (aC (bY (dq '2' (λ_=>rfl)) (aA (cQ '0' (eD fV (aN '0' rfl) cS) rfl)) bZ)
   (aA (aT '2')))),?_]
 have nm:(wF lw n).lookup ("ahead":Str)=none:=rfl;have u0:(wF lw n).lookup ("ended":Str)=none:=rfl
 simp! only[h1,T.lP,T.qe,T.qf,vH,vI,nm,u0]
 apply#[p,lw,ws,rfl,hw,?_]
 simp! only[h1,T.lP,T.qe,T.qf,vH,vI,K5,bw]
 by_cases hx:ws.headD []=x
 rw[aq hx,b_ hx]at q;rw[aq (show S (ws.headD [])=S x by rw[hx]),b_ (show S (ws.headD [])=S x by rw[hx])];apply#[(by show(2:Nat)<1000;decide),q _ ?_ bc.upd];rw[e3];show bV.on h1 h2 h4 h5;rw[ay hx,cO hx]at q;rw[ay (show ¬S (ws.headD [])=S x from λz=>hx (wt z)),cO (show ¬S (ws.headD [])=S x from λz=>hx (wt z))];show q _ hw bc.refl
def ajW(A:aO):Sp:=λvs H Q _=>X3 λ(p dx:aa) (x:W)=>N5 (vs=[.ref p,.str (S x)]) (H p=some (.ins A.Words dx [])) (f6 x) (x.length<=4000) (∀H' lw,H lw=none->bV A H' p lw (bg 32 x)->bc p H H'->Q .bn H')
def Nz:oz P w K mg base "Words" A.Words 1 ["self","line"] (ajW A):=by
 apply uC T.afr ["self","line"] ?_;rintro f _ _ _ s H _ Q E hr nd ⟨p,dx,x,rfl,h1,ha,hx,q⟩;apply#[_,(aC (cQ '0' (ED '1' bG) rfl)
   (aA (cQ '0' cS rfl))),?_]
 have e:lC (S x) (bN " ")=(bg 32 x).map S:=E4 32 x ()
 simp! only[h1,T.lP,T.qe,T.qf,yn,e]
 apply#[rfl,by rw[ft];show bX (),λl hl=>?_];have mL:p≠l:=bf h1 hl;have hp1:(L2.upd H l (.lst (((bg 32 x).map S).map V.str))) p=some (.ins A.Words dx []):=by rw[aG mL];show h1
 simp! only[hp1,T.lP,T.qe,T.qf,aH]
 apply#[(by show(0:Nat)<1000;decide),(by show(1:Nat)<1000;decide),?_];apply q _ l hl #[dx,bg 32 x,0,?_,?_,rfl,λw hw=>ha.split w hw,by rw[KU];omega] ?_;rw[aH];rfl;rw[aG mL.symm,aG mL.symm,aH,bh];rfl;intro b o hb PH;rw[aG PH,aG PH,aG (bf hb hl)];show hb
def aky(A:aO):Sp:=λvs H Q E=>X3 λ(p lw:aa) (ws:List W)=>N3 (vs=[.ref p]) (bV A H p lw ws) ((if ws.isEmpty=true then Q .bn H else E (.ref A.cX) none H))
def Og:aV P w K mg base "need_end" 2 ["words"] (aky A):=by
 apply bd T.ab5 ["words"] ?_;rintro f _ _ _ s H _ Q E hr nd ⟨p,lw,ws,rfl,hw,q⟩;let#[dx,parts,n,h1,h2,e3,h4,h5]:=hw.ex;have u0:(wF lw n).lookup ("ended":Str)=none:=rfl;apply#[_,(aA (bY (gx (dq (fJ (uX T) (hr.mono ()) cn '0') (λ_=>rfl))) (aA (eG T.fZ eI rfl rfl)) bZ)),?_]
 simp! only[h1,u0]
 apply#[p,lw,ws,rfl,hw,?_]
 simp! only[]
 cases ws<;>show q
def aks(A:aO):Sp:=λvs H Q E=>∃(t:W),vs=[.str (S t)]/\t.length<=4000/\(match kJ t with
 |some ls=>∀p,H p=none->Q (.ref p) (L2.upd H p (.lst (ls.map λw=>V.str (S w))))
 |none=>E (.ref A.cX) none H)
def aaI(t:W):uD (S t) none (some (-1))=S t.dropLast:=by
 unfold uD;have e1:HT.cu (S t).length 0 none=0:=rfl;have e2:HT.cu (S t).length (S t).length (some (-1))=t.length-1:=by
  rw[ft];show(if (-1:Int)<0 then((-1:Int)+(t.length:Int)).toNat else min (-1:Int).toNat t.length)=_;rw[aq ()];omega
 rw[e1,e2];show S ((t.drop 0).take (t.length-1-0))=_;rw[vY,Go,VU]
def Of:aV P w K mg base "lines_of" 1 ["text"] (aks A):=by
 apply bd T.abZ ["text"] ?_;rintro f _ _ _ s H _ Q E hr nd ⟨t,rfl,ht,q⟩;apply#[_,(aC (bY (gx (dq (s_ Mp Mq JJ '0' bG) (λ_=>rfl))) (aA (eG T.fZ eI rfl rfl)) bZ)
   (aA (aT (ED (EC EY '0' Sv (yj (tm tO cS))) bG)))),?_]
 have e0:ww (S t) (bN "\n")=gj 10 t:=OL 10 t
 simp! only[e0,KL,KJ,Ur,EN,EM,yn]
 unfold kJ at q;cases he:gj 10 t with
 |false=>rw[he]at q;show q
 |true=>
  rw[he]at q;simp![f7,bT,bI];rw[aaI];have e:lC (S t.dropLast) (bN "\n")=(bg 10 t.dropLast).map S:=E4 10 _ ();rw[e];have hl:t.dropLast.length<=t.length:=by rw[V4];omega
  apply#[by rw[ft];show bX (),rfl,by rw[ft];show bX (),λp hp=>?_];rw[bh];show q p hp
def bV.head{H:Hp}{p lw:aa}{ws:List W}(h:bV A H p lw ws):f6 (ws.headD [])/\(ws.headD []).length+jZ ws.tail<=4000:=by
 cases ws with
 |nil=>show#[λc hc=>(by cases hc),by simp[jZ]]
 |cons w r=>show#[h.asc w bq,by have:=h.KR;rw[pT]at this;simp;omega]
def bV.inv{H:Hp}{p lw:aa}{ws:List W}(h:bV A H p lw ws):∃dx z,H p=some (.ins A.Words dx (wF lw z)):=
 let ⟨dx,parts,n,h1,_⟩:=h.ex
 #[dx,_,h1]
def agS(t:W):uD (S t) (some 1) (some (-1))=S (t.drop 1).dropLast:=by
 unfold uD;have e1:HT.cu (S t).length 0 (some 1)=min 1 t.length:=by
  rw[ft];show(if (1:Int)<0 then((1:Int)+(t.length:Int)).toNat else min (1:Int).toNat t.length)=_;rw[ay ()];rfl
 have e2:HT.cu (S t).length (S t).length (some (-1))=t.length-1:=by
  rw[ft];show(if (-1:Int)<0 then((-1:Int)+(t.length:Int)).toNat else min (-1:Int).toNat t.length)=_;rw[aq ()];omega
 rw[e1,e2];show S ((t.drop (min 1 t.length)).take (t.length-1-min 1 t.length))=_;cases t with
 |nil=>rfl
 |cons a r=>
  rw[show min 1 (a::r).length=1 by simp,VU,jv]
def ak2(A:aO):Sp:=λvs H Q E=>X3 λ(p lw:aa) (ws:List W)=>N3 (vs=[.ref p]) (bV A H p lw ws) ((match kY ws with
 |some (x,r)=>∀H',bV A H' p lw r->bc p H H'->Q (.str (S x)) H'
 |none=>∀H',bc p H H'->E (.ref A.cX) none H'))
def Ot:aV P w K mg base "take_saying" 4 ["words"] (ak2 A):=by
 apply bd T.acF ["words","quoted","saying"] ?_;rintro f _ _ _ s H _ Q E hr nd ⟨p,lw,ws,rfl,hw,q⟩;let#[dx,z,h1]:=hw.inv;have nt:∀l z,(wF l z).lookup ("take":Str)=none:=λ_ _=>rfl;have ne:∀l z,(wF l z).lookup ("ended":Str)=none:=λ_ _=>rfl;have abg:∀q:W,ww (S q) (bN "\"")=gj 34 q:=OL 34;have E5:∀q:W,wx (S q) (bN "\"")=iK 34 q:=T9 34;apply#[_,(aC (bu 1 nd (fJ (kL T) (hr.mono ()) cn '0'))
   (aC (ve gw (PW.pt (Bw (gx (dq (s_ Mp Mq JJ '1' bG) (λ_=>rfl))) (Bx (gx (dq (fJ (uX T) (hr.mono ()) cn '0') (λ_=>rfl)))))) (aA (bu 1 nd (eD fV (eD fV '1' bG) (fJ (kL T) (hr.mono ()) cn '0')))))
   (aC (bu 2 nd (EC EY '1' (yj cS) (yj (tm tO cS))))
   (aC (bY (PW.pt (jm (gx (dq (s_ Wz WF RA '1' bG) (λ_=>rfl))) (jm (gx (dq (s_ Mp Mq JJ '1' bG) (λ_=>rfl))) (oj (gx (dq (aJ (Z7 T) hr (ag '2' ao)) (λ_=>rfl))))))) (aA (eG T.fZ eI rfl rfl)) bZ)
   (aA (aT '2')))))),?_]
 simp! only[h1,nt]
 apply#[p,lw,ws,rfl,hw,λH1 dD b1=>?_];have hh:=hw.head;apply#[λm σ H'=>∃(u:W)(r:List W),m=r.length/\σ=[some (.ref p),some (.str (S u)),none]/\bV A H' p lw r/\bc p H H'/\eT u r=eT (ws.headD []) ws.tail/\f6 u/\u.length+jZ r<=4001,#[_,_,_,rfl,rfl,dD,b1,rfl,hh.1,Nat.le_succ_of_le hh.2],?_];rintro m σ H2 ⟨u,r,rfl,rfl,hw2,b2,es,au,lu⟩;let#[lL,z2,h2]:=hw2.inv
 simp! only[h2,ne,abg,E5,KL,KJ,EN,EM,agS]
 cases he:gj 34 u with
 |true=>
  simp![f7,bT,bI];have el:eT u r=(u,r):=by
   cases r with
   |nil=>rfl
   |cons a r=>unfold eT;rw[aq he]
  apply#[by rw[ft];show bX (),?_];unfold kY at q;rw[<-es,el]at q;simp only at q;rw[he]at q;cases hs:iK 34 u with
  |false=>
   rw[hs]at q;simpa using q H2 b2
  |true=>
   rw[hs]at q;simp![f7,bT,bI];apply#[_,rfl,?_,?_,λH3 s3=>?_];show λc hc=>au c (LY ((List.dropLast_sublist _).subset hc));rw[V4,jv];show bX ()
   simp! only[]
   cases hy:hZ (u.drop 1).dropLast with
   |false=>
    rw[hy]at q;simpa using q H3 (b2.trans (bc.of_same s3))
   |true=>
    rw[hy]at q;simpa using q H3 (hw2.same s3) (b2.trans (bc.of_same s3))
 |false=>
  simp![ic,bz];apply#[p,lw,r,rfl,hw2,?_]
  simp! only[]
  cases r with
  |nil=>
   simp![Gb,f7,bT,bI];have el:eT u []=(u,[]):=rfl;apply#[by rw[ft];show bX (),?_];unfold kY at q;rw[<-es,el]at q;simp only at q;rw[he]at q;simp![ow,tT,bT,bI]at q;cases hs:iK 34 u<;>show q H2 b2
  |cons a r=>
   simp![p0,ic,bz,h2];apply#[λσ' H'=>∃u':W,σ'=[some (.ref p),some (.str (S u')),none]/\u'=u++32::a/\bV A H' p lw r/\bc p H H',?_,?_];rintro σ' H' ⟨u',rfl,rfl,dv,b3⟩;apply#[r.length,by simp,_,r,rfl,rfl,dv,b3,?_,?_,?_];rw[<-es]
   conv=>rhs;unfold eT
   rw[ay (by rw[he];show dh)];intro c hc;rcases wa.mp hc with z|z
   show au c z;rcases iM.mp z with y|y
   rw[y];decide;show hw2.asc a bq c y;rw[pT]at lu;rw[dG,cN];omega;rw[pT]at lu;have aaR:bN " "=S [32]:=rfl;rw[aaR];apply#[by rw[ft,ft];show bX (by simp;omega),rfl,rfl,p,lw,a::r,rfl,hw2,λH3 dv b3=>#[_,rfl,?_,_,?_,rfl,dv,b2.trans b3]];rw[GC,ft,ft];show bX (by simp;omega);simp![GC,m9,pZ];rfl
def ga(s:String):bN s=S (cs s):=uG (amp s)
theorem QE(x:W):∀l:List W,pE (.str (S x)) (l.map λu=>V.str (S u))=l.contains x
 |[]=>rfl
 |a::r=>by
  have ih:=QE x r;unfold pE at ih⊢;rw[ba,oG,ih,Cf];congr 1;show(S a==S x)=(x==a);rw[cw,gO,gO,mj];show eq_comm
theorem O8:∀l:List W,(l.map λu=>V.str (S u)).all g9=true
 |[]=>rfl
 |a::r=>by rw[ba,lg,O8 r];rfl
def Txt.res(H:Hp):bL K H A.RESERVED (Cz.map λu=>V.str (S u)):=T.al9 H
def Txt.kinds(H:Hp):bL K H A.KINDS (gF.map λu=>V.str (S u)):=T.al6 H
def Txt.nums(H:Hp):bL K H A.wf (p8.map λu=>V.str (S u)):=T.al7 H
def Txt.deeds(H:Hp):bL K H A.vQ (jt.map λu=>V.str (S u)):=T.al1 H
def Txt.pressed(H:Hp):bL K H A.ug (uf.map λu=>V.str (S u)):=T.al8 H
def nV{x:W}{l:List W}{p:aa}{H:Hp}{neg:Bool}{Q:VK}(h:bL K H p (l.map λu=>V.str (S u)))(q:Q (.bl (if neg then !l.contains x else l.contains x)) H):ym K neg (.str (S x)) (.ref p) H Q:=
 #[p,_,rfl,.inr h,rfl,O8 l,by rw[QE];show q]
def aki:Sp:=λvs H Q _=>∃(x:W),vs=[.str (S x)]/\f6 x/\x.length<=sizeLine/\Q (.bl (bA x)) H
def Oa:aV P w K mg base "is_ident" 2 ["word"] aki:=by
 apply bd T.abO ["word"] ?_;rintro f _ _ _ s H _ Q E hr nd ⟨x,rfl,ha,hx,q⟩;apply#[_,(aA (aT (u_ (aJ (Oc T) hr (ag '0' (ag (cq T.VH rfl) ao))) (qW (iY qT '0' (cq T.RESERVED rfl) rfl))))),?_]
 simp! only[]
 apply#[x,6,rfl,ha,hx,?_];unfold bA at q;cases h6:isSmall x 6 with
 |false=>rw[h6]at q;show q
 |true=>
  rw[h6,gp]at q;show nV (neg:=true) (T.res H) q
def akz(A:aO):Sp:=λvs H Q E=>∃(x:W),vs=[.str (S x)]/\f6 x/\x.length<=sizeLine/\(if bA x=true then Q (.str (S x)) H else E (.ref A.cX) none H)
def Do:aV P w K mg base "need_ident" 3 ["word"] (akz A):=by
 apply bd T.ab6 ["word"] ?_;rintro f _ _ _ s H _ Q E hr nd ⟨x,rfl,ha,hx,q⟩;apply#[_,(aC (bY (gx (dq (aJ (Oa T) hr (ag '0' ao)) (λ_=>rfl))) (aA (eG T.fZ eI rfl rfl)) bZ)
   (aA (aT '0'))),?_]
 simp! only[]
 apply#[x,rfl,ha,hx,_,rfl,?_];cases h6:bA x with
 |false=>rw[h6]at q;show q
 |true=>rw[h6]at q;show q
def akW(A:aO):Sp:=λvs H Q E=>∃(p lw:aa)(ws:List W),vs=[.ref p]/\bV A H p lw ws/\
 (if gF.contains (ws.headD [])=true then ∀H',bV A H' p lw ws.tail->bc p H H'->Q (.str (S (ws.headD []))) H' else ∀H',bc p H H'->E (.ref A.cX) none H')
def aao:aV P w K mg base "take_kind" 4 ["words"] (akW A):=by
 apply bd T.acz ["words","kind"] ?_;rintro f _ _ _ s H _ Q E hr nd ⟨p,lw,ws,rfl,hw,q⟩;let#[dx,z,h1]:=hw.inv;have nt:∀l z,(wF l z).lookup ("take":Str)=none:=λ_ _=>rfl;apply#[_,(aC (bu 1 nd (fJ (kL T) (hr.mono ()) cn '0'))
   (aC (bY (bQ qT '1' (cq T.KINDS rfl) rfl) (aA (eG T.fZ eI rfl rfl)) bZ)
   (aA (aT '1')))),?_]
 simp! only[h1,nt]
 apply#[p,lw,ws,rfl,hw,λH1 dD b1=>nV (neg:=true) (T.kinds H1) ?_]
 simp! only[]
 cases hk:gF.contains (ws.headD [])with
 |false=>rw[hk]at q;show q H1 b1
 |true=>rw[hk]at q;show q H1 dD b1
def afA:∀x∈p8,WU (S x)=some (mq x)/\(S x).length<=640:=by decide+kernel
def ak0(A:aO):Sp:=λvs H Q E=>∃(p lw:aa)(ws:List W),vs=[.ref p]/\bV A H p lw ws/\
 (if p8.contains (ws.headD [])=true then ∀H',bV A H' p lw ws.tail->bc p H H'->Q (.int (mq (ws.headD []))) H' else ∀H',bc p H H'->E (.ref A.cX) none H')
def aas:aV P w K mg base "take_number" 4 ["words"] (ak0 A):=by
 apply bd T.acD ["words","word"] ?_;rintro f _ _ _ s H _ Q E hr nd ⟨p,lw,ws,rfl,hw,q⟩;let#[dx,z,h1]:=hw.inv;have nt:∀l z,(wF l z).lookup ("take":Str)=none:=λ_ _=>rfl;apply#[_,(aC (bu 1 nd (fJ (kL T) (hr.mono ()) cn '0'))
   (aC (bY (bQ qT '1' (cq T.wf rfl) rfl) (aA (eG T.fZ eI rfl rfl)) bZ)
   (aA (aT (yg Zd rfl T.YO L2.boot_int (ag '1' ao)))))),?_]
 simp! only[h1,nt]
 apply#[p,lw,ws,rfl,hw,λH1 dD b1=>nV (neg:=true) (T.nums H1) ?_]
 simp! only[]
 cases hk:p8.contains (ws.headD [])with
 |false=>rw[hk]at q;show q H1 b1
 |true=>
  rw[hk]at q;have hm:=afA _ (lm.mp hk);show#[_,hm.1,hm.2,q H1 dD b1]
def vL(H:Hp)(t:aa)(a:W×W):Prop:=H t=some (.tup [.str (S a.1),.str (S a.2)])
def SJ{x:W}(h:∀d i,bg 58 x≠[d,i]):gU x=none:=by
 unfold gU;split;rename_i d i e0;show absurd e0 (h d i);rfl
def aiW{x d i:W}(h:bg 58 x=[d,i]):gU x=if jt.contains d&&bA i then some (d,i)else none:=by
 unfold gU;rw[h]
def akL(A:aO):Sp:=λvs H Q E=>∃(x:W),vs=[.str (S x)]/\f6 x/\x.length<=4000/\(match gU x with
 |some a=>∀H' t,am H H'->H t=none->vL H' t a->Q (.ref t) H'
 |none=>∀H',am H H'->E (.ref A.cX) none H')
def Oo:aV P w K mg base "read_act" 4 ["word"] (akL A):=by
 apply bd T.acl ["word","parts"] ?_;rintro f _ _ _ s H _ Q E hr nd ⟨x,rfl,ha,hx,q⟩;have e:lC (S x) (bN ":")=(bg 58 x).map S:=E4 58 x ();apply#[_,(aC (bu 1 nd (ED '0' bG))
   (aC (bY (PW.pt (jm (bQ jl (dg dW rfl T.dH L2.boot_len (ag '1' ao)) cS (bO _)) (oj (bQ qT (cr cP '1' cS (λ_ _=>rfl)) (cq T.vQ rfl) rfl)))) (aA (eG T.fZ eI rfl rfl)) bZ)
   (aA (aT (aiu (ag (cr cP '1' cS (λ_ _=>rfl)) (ag (aJ (Do T) hr (ag (cr cP '1' cS (λ_ _=>rfl)) ao)) ao))))))),?_]
 simp! only[yn,e]
 apply#[rfl,by rw[ft];show bX (),λp hp=>?_];have s1:am H (L2.upd H p (.lst (((bg 58 x).map S).map V.str))):=am.new hp;generalize ads:L2.upd H p (.lst (((bg 58 x).map S).map V.str))=H1 at s1;have hl:az K H1 p ((bg 58 x).map λu=>V.str (S u)):=by
  rw[<-ads];apply az.of ?_;rw[aH,bh];rfl
 apply#[_,.inl #[_,hl,rfl],?_];rw[aD]
 match hs:bg 58 x with
 |[]=>show absurd hs (i9 _ _)
 |[a]=>
  rw[SJ (by rw[hs];simp)]at q;show q H1 s1
 |a::b::c::r=>
  rw[SJ (by rw[hs];simp)]at q;rw[cO (show ¬(((a::b::c::r).length:Nat):Int)=2 by simp;omega)];show q H1 s1
 |[d,i]=>
  rw[aiW hs]at q;rw[hs]at hl;rw[b_ (show((([d,i]:List W).length:Nat):Int)=2 from rfl)];simp![f7,bT,bI];have xt:qg ([d,i].map λu=>V.str (S u)) 0=some (V.str (S d)):=rfl;have IN:qg ([d,i].map λu=>V.str (S u)) 1=some (V.str (S i)):=rfl;apply .inl #[_,_,_,_,rfl,rfl,hl,xt,nV (neg:=true) (T.deeds H1) ?_]
  simp! only[]
  have ai:f6 i:=ha.split i (by rw[hs];simp);have li:i.length<=4000:=by
   have:=KU 58 x;rw[hs,pT,pT]at this;omega
  cases hk:jt.contains d with
  |false=>rw[hk]at q;show q H1 s1
  |true=>
   rw[hk]at q;simp![f7,bT,bI];apply .inl #[_,_,_,_,rfl,rfl,hl,xt,.inl #[_,_,_,_,rfl,rfl,hl,IN,i,rfl,ai,bX (),?_]];cases hi:bA i with
   |false=>rw[hi]at q;show q H1 s1
   |true=>
    rw[hi]at q;apply#[by decide,λt ht=>q _ t (s1.trans (am.new ht)) (s1.free ht) aH]
structure gc (H:Hp)(l:aa)(as:List (W×W)):Prop where
 ex:∃ts:List aa,H l=some (.lst (ts.map V.ref))/\Paired (vL H) ts as
theorem Paired.snoc{α β:Type}{G:α->β->Prop}{a:α}{b:β}(g:G a b):∀{l:List α}{m:List β},Paired G l m->Paired G (l++[a]) (m++[b])
 |_,_,.nil=>.cons g .nil
 |_,_,.cons r t=>.cons r (Paired.snoc g t)
def gc.same{H H':Hp}{l:aa}{as:List (W×W)}(h:gc H l as)(s:am H H'):gc H' l as:=
 let ⟨ts,h1,h2⟩:=h.ex
 #[ts,s _ _ h1,Paired.iD h2 λ_ _ z=>s _ _ z]
def gc.but{H H':Hp}{l p:aa}{as:List (W×W)}{C dx:aa}{fs:List (Str×V)}(h:gc H l as)(hp:H p=some (.ins C dx fs))(b:bc p H H'):gc H' l as:=
 let ⟨ts,h1,h2⟩:=h.ex
 #[ts,b _ _ h1 (iX h1 hp (by intro z;cases z)),Paired.iD h2 λ_ _ z=>b _ _ z (iX z hp (by intro z;cases z))]
def gc.snoc{H:Hp}{l t:aa}{as:List (W×W)}{a:W×W}{xs:List V}(h:gc H l as)(hl:H l=some (.lst xs))(ht:vL H t a):gc (L2.upd H l (.lst (xs++[.ref t]))) l (as++[a]):=by
 let#[ts,h1,h2]:=h.ex;rw[hl]at h1;cases h1;have k:∀t' a',vL H t' a'->vL (L2.upd H l (.lst (ts.map V.ref++[.ref t]))) t' a':=λt' a' z=>by
  show upd _ _ _ _=_;rw[aG (iX z hl (by intro z;cases z))];show z
 apply#[ts++[t],by rw[aH,cB];rfl,Paired.snoc (k _ _ ht) (Paired.iD h2 k)]
def gc.len{H:Hp}{l:aa}{as:List (W×W)}{xs:List V}(h:gc H l as)(hl:H l=some (.lst xs)):xs.length=as.length:=by
 let#[ts,h1,h2]:=h.ex;rw[hl]at h1;cases h1;rw[aD];show h2.length
def gc.lst{H:Hp}{l:aa}{as:List (W×W)}(h:gc H l as):∃xs,H l=some (.lst xs):=let ⟨ts,h1,_⟩:=h.ex;#[_,h1]
def bV.upd{H:Hp}{p lw l:aa}{ws:List W}{o:HO}(h:bV A H p lw ws)(h1:p≠l)(h2:lw≠l):bV A (L2.upd H l o) p lw ws:=by
 let#[dx,parts,n,e1,e2,e3]:=h.ex;show#[dx,parts,n,by rw[aG h1];show e1,by rw[aG h2];show e2,e3]
def bV.lw{H:Hp}{p lw:aa}{ws:List W}(h:bV A H p lw ws):∃xs,H lw=some (.lst xs):=
 let ⟨dx,parts,n,e1,e2,e3⟩:=h.ex
 #[_,e2]
def bc.x9{p l:aa}{H H1:Hp}{o:HO}(h:bc p H H1)(hl:H l=none):bc p H (L2.upd H1 l o):=λb u e n=>by
 rw[aG (bf e hl)];show h b u e n
def bc.free{p l:aa}{H H1:Hp}{o:HO}(h:bc p H H1)(hp:H p=some o)(hp1:∃o',H1 p=some o')(hl:H1 l=none):H l=none:=by
 cases e:H l with
 |none=>rfl
 |some u=>
  by_cases z:l=p
  subst z;let#[o',q]:=hp1;rw[q]at hl;cases hl;rw[h l u e z]at hl;cases hl
def Rn{α β:Type}{f:α->Option β}{a:α}{b:β}(h:f a=some b)(r:List α):fH f (a::r)=(fH f r).map (b::·):=by
 simp![fH,h];cases fH f r<;>rfl
def Rm{α β:Type}{f:α->Option β}{a:α}(h:f a=none)(r:List α):fH f (a::r)=none:=by
 unfold fH;rw[h]
def akV(A:aO):Sp:=λvs H Q E=>X3 λ(p lw:aa) (ws:List W)=>N3 (vs=[.ref p]) (bV A H p lw ws) ((match lZ ws with
 |some as=>∀H' l,H l=none->gc H' l as->bV A H' p lw []->bc p H H'->Q (.ref l) H'
 |none=>∀H',bc p H H'->E (.ref A.cX) none H'))
def aan:aV P w K mg base "take_acts" 5 ["words"] (akV A):=by
 apply bd T.acy ["words","acts"] ?_;rintro f _ _ _ s H _ Q E hr nd ⟨p,lw,ws,rfl,hw,q⟩;let#[dx,z,h1]:=hw.inv;have nt:∀l z,(wF l z).lookup ("take":Str)=none:=λ_ _=>rfl;have ne:∀l z,(wF l z).lookup ("ended":Str)=none:=λ_ _=>rfl;apply#[_,(aC (bu 1 nd (eS (ag (aJ (Oo T) hr (ag (fJ (kL T) (hr.mono ()) cn '0') ao)) ao)))
   (aC (ve gw (gx (dq (fJ (uX T) (hr.mono ()) cn '0') (λ_=>rfl))) (aA (e9 (iH jb uj uk sH '1' (ag (aJ (Oo T) hr (ag (fJ (kL T) (hr.mono ()) cn '0') ao)) ao)))))
   (aC (bY (bQ sS (dg dW rfl T.dH L2.boot_len (ag '1' ao)) (cq T.Wh rfl) (bO _)) (aA (eG T.fZ eI rfl rfl)) bZ)
   (aA (aT '1'))))),?_]
 simp! only[h1,nt]
 apply#[p,lw,ws,rfl,hw,λH1 dD b1=>#[_,rfl,hw.head.1,by have:=hw.head.2;omega,?_]];cases ws with
 |nil=>show λH' s'=>q H' (b1.trans (bc.of_same s'))
 |cons w0 r0=>
  show(match gU w0 with|some a=>_|none=>_);cases e0:gU w0 with
  |none=>
   have e1:lZ (w0::r0)=none:=by
    unfold lZ;rw[Rm e0];rfl
   rw[e1]at q;show λH' s'=>q H' (b1.trans (bc.of_same s'))
  |some a0=>
   intro H2 t2 s2 n2 Nb;apply#[by decide,λl hl=>?_];have hw2:=dD.same s2;let#[kr,z1,i1]:=dD.inv;have b2:bc p H H2:=b1.trans (bc.of_same s2);have nR:H l=none:=b2.free h1 #[_,s2 _ _ i1] hl;have A0:gc (L2.upd H2 l (.lst [.ref t2])) l [a0]:=#[[t2],aH,.cons (by show upd _ _ _ _=_;rw[aG (bf Nb hl)];show Nb) .nil];let#[xw,xF]:=hw2.lw;let#[lL,z2,i2]:=hw2.inv;apply#[λm σ H'=>∃(as:List (W×W))(r:List W),m=r.length/\σ=[some (.ref p),some (.ref l)]/\bV A H' p lw r/\gc H' l as/\bc p H H'/\fH gU (w0::r0)=(fH gU r).map (as++·)/\as.length+r.length<=4001/\p≠l/\lw≠l,
    #[_,[a0],r0,rfl,rfl,hw2.upd (bf i2 hl) (bf xF hl),A0,b2.x9 nR,Rn e0 r0,?_,bf i2 hl,bf xF hl],?_]
   have:=hw.KR;have h2:=KS (w0::r0);simp at h2⊢;omega;rintro m σ H3 ⟨as,r,rfl,rfl,dv,CY,b3,em,lr,mL,sM⟩;let#[HR,z3,i3]:=dv.inv;let#[x3,Je]:=CY.lst
   simp! only[i3,ne]
   apply#[p,lw,r,rfl,dv,?_]
   simp! only[i3,ne,nt]
   cases r with
   |nil=>
    have em:fH gU (w0::r0)=some as:=by rw[em];simp[fH]
    have et:lZ (w0::r0)=if as.length<=3 then some as else none:=by unfold lZ;rw[em];rfl
    rw[et]at q;have el:=CY.len Je;apply#[_,.inl #[_,az.of Je,rfl],?_];by_cases h3:as.length<=3
    rw[aq h3]at q;rw[ay (by rw[el];simp;omega)];show q H3 l nR CY dv b3;rw[ay h3]at q;rw[aq (by rw[el];simp;omega)];show q H3 b3
   |cons w1 r1=>
    apply#[λσ' H'=>∃a,gU w1=some a/\σ'=[some (.ref p),some (.ref l)]/\bV A H' p lw r1/\gc H' l (as++[a])/\bc p H H',?_,?_];rintro σ' H' ⟨a,ea,rfl,hw4,ac4,b4⟩;apply#[r1.length,by simp,as++[a],r1,rfl,rfl,hw4,ac4,b4,?_,by simp at lr⊢;omega,mL,sM];rw[em,Rn ea,Mh];congr 1;funext x;simp
    simp! only[E9,B1,EK,i3,nt]
    apply⟨.inl ⟨_,az.of Je⟩,p,lw,w1::r1,rfl,dv,λH4 hw4 b4=>⟨_,rfl,dv.head.1,by have:=dv.head.2;omega,?_⟩⟩;show(match gU w1 with|some a=>_|none=>_);have ac4:=CY.but i3 b4;cases e1:gU w1 with
    |none=>
     have:lZ (w0::r0)=none:=by unfold lZ;rw[em,Rm e1];rfl
     rw[this]at q;show λH' s'=>q H' (b3.trans (b4.trans (bc.of_same s')))
    |some a1=>
     intro H5 t5 s5 n5 YK;have ac5:=ac4.same s5;let#[x5,Jf]:=ac5.lst;have el:=ac5.len Jf;have hw5:=hw4.same s5;apply#[x5,Jf,?_,a1,rfl,hw5.upd mL sM,ac5.snoc Jf YK,?_];rw[el];simp at lr;show kb (show as.length<=5000 by omega) ();show(b3.trans (b4.trans (bc.of_same s5))).x9 nR
def bF(b:aQ)(lb la:aa):List (Str×V):=[("deep",.int b.deep),("kind",.str (S b.kind)),("ident",.str (S b.ident)),("parent",.int b.parent),("text",.str (S b.text)),("label",.str (S b.label)),("by",.ref lb),("hint",.str (S b.hint)),
 ("hidden",.bl b.hidden),("off",.bl b.off),("on",.bl b.on),("order",.int b.order),("acts",.ref la)]
def gq(H:Hp)(l:aa)(ws:List W):Prop:=H l=some (.lst (ws.map λu=>V.str (S u)))
structure du (A:aO)(H:Hp)(p:aa)(b:aQ):Prop where
 ex:∃dx lb la,H p=some (.ins A.Box dx (bF b lb la))/\gq H lb b.by_/\gc H la b.b7
def du.same{H H':Hp}{p:aa}{b:aQ}(h:du A H p b)(s:am H H'):du A H' p b:=
 let ⟨dx,lb,la,h1,h2,h3⟩:=h.ex
 #[dx,lb,la,s _ _ h1,s _ _ h2,h3.same s]
def ajK(A:aO):Sp:=λvs H Q _=>∃(p dx:aa)(d:Int)(k i:W),vs=[.ref p,.int d,.str (S k),.str (S i)]/\H p=some (.ins A.Box dx [])/\
 ∀H' lb la,H lb=none->H la=none->H' p=some (.ins A.Box dx (bF (nH d k i) lb la))->gq H' lb []->gc H' la []->bc p H H'->Q .bn H'
def Y7:oz P w K mg base "Box" A.Box 1 ["self","deep","kind","ident"] (ajK A):=by
 apply uC T.afl ["self","deep","kind","ident"] ?_;rintro f _ _ _ s H _ Q E hr nd ⟨p,dx,d,k,i,rfl,h1,q⟩;apply#[_,(aC (cQ '0' '1' rfl)
   (aC (cQ '0' '2' rfl)
   (aC (cQ '0' '3' rfl)
   (aC (cQ '0' (cq T.mi rfl) rfl)
   (aC (cQ '0' bG rfl)
   (aC (cQ '0' bG rfl)
   (aC (cQ '0' (eS ao) rfl)
   (aC (cQ '0' bG rfl)
   (aC (cQ '0' qU rfl)
   (aC (cQ '0' qU rfl)
   (aC (cQ '0' qU rfl)
   (aC (cQ '0' cS rfl)
   (aA (cQ '0' (eS ao) rfl)))))))))))))),?_]
 simp! only[h1,aH,yD,T.b8,T.rQ,T.ik,T.nz,T.qd,T.wM,T.zF,T.wI,T.rR,T.wJ,T.wK,T.wL,T.uv,T.rP]
 apply#[(by show(0:Nat)<1000;decide),(by show(1:Nat)<1000;decide),(by show(2:Nat)<1000;decide),(by show(3:Nat)<1000;decide),(by show(4:Nat)<1000;decide),(by show(5:Nat)<1000;decide),eX _,λlb hlb=>?_];have qQ:p≠lb:=bf aH hlb;have P_:H lb=none:=by rw[aG qQ.symm]at hlb;show hlb
 have e1:∀(o o':HO),L2.upd (L2.upd (L2.upd H p o) lb (.lst [])) p o'=L2.upd (L2.upd H p o') lb (.lst []):=λo o'=>by
  funext c;unfold L2.upd;by_cases z:c=p;subst z;simp[qQ];simp[z]
 have e2:∀(o:HO),(L2.upd (L2.upd H p o) lb (.lst [])) p=some o:=λo=>by rw[aG qQ,aH]
 simp! only[aH,yD,e1,e2,T.b8,T.rQ,T.ik,T.nz,T.qd,T.wM,T.zF,T.wI,T.rR,T.wJ,T.wK,T.wL,T.uv,T.rP]
 apply#[(by show(6:Nat)<1000;decide),(by show(7:Nat)<1000;decide),(by show(8:Nat)<1000;decide),(by show(9:Nat)<1000;decide),(by show(10:Nat)<1000;decide),(by show(11:Nat)<1000;decide),eX _,λla DS=>?_];have JT:p≠la:=bf (e2 _) DS;have RI:lb≠la:=bf (show(L2.upd (L2.upd H p _) lb (.lst [])) lb=some (.lst []) from aH) DS;have P9:H la=none:=by rw[aG RI.symm,aG JT.symm]at DS;show DS
 have e3:∀(o o':HO),L2.upd (L2.upd (L2.upd (L2.upd H p o) lb (.lst [])) la (.lst [])) p o'=L2.upd (L2.upd (L2.upd H p o') lb (.lst [])) la (.lst []):=λo o'=>by
  funext c;unfold L2.upd;by_cases z:c=p;subst z;simp[qQ,JT];simp[z]
 have e4:∀(o:HO),(L2.upd (L2.upd (L2.upd H p o) lb (.lst [])) la (.lst [])) p=some o:=λo=>by rw[aG JT,aG qQ,aH]
 simp! only[e3,e4,T.b8,T.rQ,T.ik,T.nz,T.qd,T.wM,T.zF,T.wI,T.rR,T.wJ,T.wK,T.wL,T.uv,T.rP]
 apply#[(by show(12:Nat)<1000;decide),q _ lb la P_ P9 ?_ ?_ ?_ ?_];rw[e4];rfl;show upd _ _ _ _=_;rw[aG RI,aH];rfl;show#[[],aH,.nil];intro c o e n;rw[aG (bf e P9),aG (bf e P_),aG n];show e
theorem OB:∀(xs acc:List Str),xs.Nodup->(∀x∈xs,x∉acc)->xs.foldl gW acc=acc++xs
 |[],acc,_,_=>by simp
 |x::r,acc,h1,h2=>by
  let#[n1,n2]:=List.nodup_cons.mp h1;have e:gW acc x=acc++[x]:=by
   show(if acc.any (· ==x)then acc else acc++[x])=_;rw[ay];intro z;let#[y,hy,e]:=VO.mp z;show h2 x bq (by rw[<-gO.mp e];show hy)
  rw[v0,e,OB r _ n2 λy hy hm=>?_,pZ];rfl;rcases wa.mp hm with z|z
  show h2 y (bp _ hy) z;have:y=x:=by simpa using z
  subst this;show n1 hy
theorem OA:∀(xs acc:List Str),¬(xs.Nodup/\∀x∈xs,x∉acc)->(xs.foldl gW acc).length<acc.length+xs.length
 |[],acc,h=>absurd #[Cm,λ_ z=>(by cases z)] h
 |x::r,acc,h=>by
  rw[v0,cN];by_cases hx:acc.any (· ==x)=true
  have e:gW acc x=acc:=aq hx;have:=HM r acc;rw[e];omega;have e:gW acc x=acc++[x]:=ay hx;rw[e];have ae7:x∉acc:=λz=>hx (VO.mpr #[x,z,by simp]);have:=OA r (acc++[x]) λ⟨h1,h2⟩=>h #[List.nodup_cons.mpr #[λz=>h2 x z (),h1],λy hy=>?_];rw[dG,rC]at this;omega;rcases iM.mp hy with z|z
  rw[z];show ae7;show λq=>h2 y z (wb _ q)
theorem JQ:∀ws:List W,fI ws=true↔(ws.map S).Nodup
 |[]=>by simp[fI]
 |a::r=>by
  unfold fI;rw[bS,JQ r,ba,List.nodup_cons];apply and_congr ?_ Cc;rw[pX,<-FH,lm];apply not_congr #[λh=>Ge.mpr #[a,h,rfl],λh=>?_];let#[b,hb,e]:=Ge.mp h;rw[<-wt e];show hb
def Km(ws:List W):decide (((((ws.map S).foldl gW []).length:Nat):Int)<((ws.length:Nat):Int))=!fI ws:=by
 cases h:fI ws with
 |true=>
  have hn:=(JQ ws).mp h;rw[OB _ [] hn (λ_ _ z=>by cases z)];simp
 |false=>
  have hn:¬(ws.map S).Nodup:=λz=>by rw[(JQ ws).mpr z]at h;cases h
  have:=OA (ws.map S) [] λz=>hn z.1;rw[aD]at this;simp![ic,bw];simp at this;omega
def akX(A:aO):Sp:=λvs H Q E=>X3 λ(p lw:aa) (ws:List W)=>N3 (vs=[.ref p]) (bV A H p lw ws) ((match tL ws with
 |some (is,r)=>∀H' l,H l=none->gq H' l is->bV A H' p lw r->bc p H H'->Q (.ref l) H'
 |none=>∀H',bc p H H'->E (.ref A.cX) none H'))
def aap:aV P w K mg base "take_labellers" 4 ["words"] (akX A):=by
 apply bd T.acA ["words","idents"] ?_;rintro f _ _ _ s H _ Q E hr nd ⟨p,lw,ws,rfl,hw,q⟩;let#[dx,z,h1]:=hw.inv;have nt:∀l z,(wF l z).lookup ("take":Str)=none:=λ_ _=>rfl;have ne:∀l z,(wF l z).lookup ("ahead":Str)=none:=λ_ _=>rfl;apply#[_,(aC (bu 1 nd (eS (ag (aJ (Do T) hr (ag (fJ (kL T) (hr.mono ()) cn '0') ao)) ao)))
   (aC (ve gw (dq (aJ (Oa T) hr (ag (fJ (xU T) (hr.mono ()) cn '0') ao)) (λ_=>rfl)) (aA (e9 (iH jb uj uk sH '1' (ag (fJ (kL T) (hr.mono ()) cn '0') ao)))))
   (aC (bY (PW.pt (jm (bQ sS (dg dW rfl T.dH L2.boot_len (ag '1' ao)) (cq T.Wj rfl) (bO _)) (oj (bQ sV (dg Hh rfl T.dH L2.boot_len (ag (yg (Hj rfl) rfl T.G' L2.boot_set (ag '1' ao)) ao)) (dg dW rfl T.dH L2.boot_len (ag '1' ao)) (bO _))))) (aA (eG T.fZ eI rfl rfl)) bZ)
   (aA (aT '1'))))),?_]
 simp! only[h1,nt]
 have hh:=hw.head;apply#[p,lw,ws,rfl,hw,λH1 dD b1=>#[_,rfl,hh.1,bX (),?_]];unfold tL at q;cases hi:bA (ws.headD [])with
 |false=>rw[hi]at q;show q H1 b1
 |true=>
  rw[hi]at q;simp![bz]at q⊢;apply#[by decide,λl hl=>?_];let#[kr,z1,i1]:=dD.inv;let#[xw,xF]:=dD.lw;have nR:H l=none:=b1.free h1 #[_,i1] hl;have mL:p≠l:=bf i1 hl;have sM:lw≠l:=bf xF hl;apply#[λm σ H'=>∃(is r:List W),m=r.length/\σ=[some (.ref p),some (.ref l)]/\bV A H' p lw r/\gq H' l is/\bc p H H'/\(is++r.takeWhile bA=ws.headD []::ws.tail.takeWhile bA)/\r.dropWhile bA=ws.tail.dropWhile bA/\is.length+jZ r<=4001,
   #[_,[ws.headD []],ws.tail,rfl,rfl,dD.upd mL sM,aH,b1.x9 nR,rfl,rfl,by simp;omega],?_]
  rintro m σ H3 ⟨is,r,rfl,rfl,dv,fY,b3,et,ed,lr⟩;let#[HR,z3,i3]:=dv.inv;have h3:=dv.head
  simp! only[i3,ne]
  apply#[p,lw,r,rfl,dv,#[_,rfl,h3.1,bX (),?_]]
  simp! only[i3,nt,E9,B1,EK]
  cases hr:bA (r.headD [])with
  |true=>
   simp![bz];cases r with
   |nil=>show absurd hr ()
   |cons w1 r1=>
    have hr:bA w1=true:=hr;apply#[λσ' H'=>σ'=[some (.ref p),some (.ref l)]/\bV A H' p lw r1/\gq H' l (is++[w1])/\bc p H H',?_,.inl #[_,az.of fY],p,lw,w1::r1,rfl,dv,λH4 hw4 b4=>?_];rintro σ' H' ⟨rfl,hw4,jX,b4⟩;apply#[r1.length,by simp,is++[w1],r1,rfl,rfl,hw4,jX,b4,?_,?_,?_];rw[<-et,List.takeWhile_cons_of_pos hr];simp;rw[<-ed,List.dropWhile_cons_of_pos hr];rw[pT]at lr;simp;omega;have jX:gq H4 l is:=b4 _ _ fY (iX fY i3 (by intro z;cases z));apply#[_,jX,?_,rfl,hw4.upd mL sM,?_,(b3.trans b4).x9 nR];rw[aD];show kb (show is.length<=5000 by omega) ();show upd _ _ _ _=_;rw[aH,cB];rfl
  |false=>
   simp![bT,bI];have e1:is=ws.headD []::ws.tail.takeWhile bA:=by
    cases r with
    |nil=>simpa using et
    |cons w1 r1=>
     have hr:bA w1=false:=hr;rw[List.takeWhile_cons_of_neg (by rw[hr];show dh),eJ]at et;show et
   have e2:r=ws.tail.dropWhile bA:=by
    rw[<-ed];cases r with
    |nil=>rfl
    |cons w1 r1=>
     have hr:bA w1=false:=hr;rw[List.dropWhile_cons_of_neg (by rw[hr];show dh)]
   rw[<-e1,<-e2]at q;apply#[_,.inl #[_,az.of fY,rfl],?_];rw[aD];by_cases h3:is.length<=3
   rw[b_ h3,gp]at q;rw[ay (by simp;omega)];apply#[is.map S,?_,?_,λpt uN=>#[is.map S,aH,?_,_,.inl #[_,(am.new uN).seq (az.of fY),rfl],?_]];rw[bh];show az.of fY;rw[aD];show kb (show is.length+1<=4 by omega) ();rw[aD];show kb (show is.length+1<=4 by omega) ();rw[aD,Km];have s4:am H3 (L2.upd H3 pt (wu P w pt (is.map S))):=am.new uN;cases hn:fI is with
   |false=>rw[hn]at q;show q _ (b3.trans (bc.of_same s4))
   |true=>rw[hn]at q;show q _ l nR (s4 _ _ fY) (dv.same s4) (b3.trans (bc.of_same s4))
   rw[cO h3,ow]at q;rw[aq (by simp;omega)];show q H3 b3
def fQ(p q:aa)(H H':Hp):Prop:=∀b o,H b=some o->b≠p->b≠q->H' b=some o
def fQ.refl{p q:aa}{H:Hp}:fQ p q H H:=λ_ _ e _ _=>e
def fQ.trans{p q:aa}{H H1 H2:Hp}(a:fQ p q H H1)(b:fQ p q H1 H2):fQ p q H H2:=λc o e n m=>b c o (a c o e n m) n m
def bc.two{p q:aa}{H H1:Hp}(a:bc p H H1):fQ p q H H1:=λc o e n _=>a c o e n
def fQ.upd{p q:aa}{H:Hp}{o:HO}:fQ p q H (L2.upd H q o):=λc u e _ m=>by rw[aG m];show e
def K4{C C' dx eY l lb la:aa}{z:Int}{b:aQ}:HO.ins C dx (wF l z)≠HO.ins C' eY (bF b lb la):=by
 intro e;injection e with _ _ e
 show absurd (dX oK e) (by show ¬2=13;decide)
def du.but{H H':Hp}{p lw pb:aa}{ws:List W}{b:aQ}(h:du A H pb b)(hw:bV A H p lw ws)(k:bc p H H'):du A H' pb b:=by
 let#[dx,lb,la,h1,h2,h3]:=h.ex;let#[dw,z,i]:=hw.inv;show#[dx,lb,la,k _ _ h1 (λe=>K4 (cV ((e▸i).symm.trans h1))),k _ _ h2 (iX h2 i (by intro z;cases z)),h3.but i k]
def bV.box{H:Hp}{p lw pb:aa}{ws:List W}{b:aQ}{o:HO}(hw:bV A H p lw ws)(h:du A H pb b):bV A (L2.upd H pb o) p lw ws:=by
 let#[dx,lb,la,h1,h2,h3]:=h.ex;let#[dw,z,i]:=hw.inv;let#[xs,hx]:=hw.lw;show hw.upd (λe=>K4 (cV ((e▸i).symm.trans h1))) (iX hx h1 (by intro z;cases z))
def du.put{H:Hp}{pb dx lb la:aa}{b b':aQ}(h1:H pb=some (.ins A.Box dx (bF b lb la)))(h2:gq H lb b.by_)(h3:gc H la b.b7)(e1:b'.by_=b.by_)(e2:b'.b7=b.b7):du A (L2.upd H pb (.ins A.Box dx (bF b' lb la))) pb b':=by
 apply#[dx,lb,la,aH,?_,?_];show upd _ _ _ _=_;rw[aG (iX h2 h1 (by intro z;cases z)),e1];show h2;rw[e2];show h3.but h1 bc.upd
def og(H:Hp)(pb:aa):Option (aa×aa):=match H pb with
 |some (.ins _ _ fs)=>(match fs.lookup ("by":Str),fs.lookup ("acts":Str)with
  |some (.ref a),some (.ref b)=>some (a,b)
  |_,_=>none)
 |_=>none
def pO{H:Hp}{pb C dx lb la:aa}{b:aQ}(h:H pb=some (.ins C dx (bF b lb la))):og H pb=some (lb,la):=by
 unfold og;rw[h];rfl
structure LS (H0 H:Hp)(pb:aa):Prop where
 ex:∃x0 y0 x y,og H0 pb=some (x0,y0)/\og H pb=some (x,y)/\(x=x0\/H0 x=none)/\(y=y0\/H0 y=none)
def LS.refl{H:Hp}{pb:aa}{b:aQ}(hb:du A H pb b):LS H H pb:=by
 let#[dx,lb,la,h1,_,_]:=hb.ex;show#[lb,la,lb,la,pO h1,pO h1,.inl rfl,.inl rfl]
def LS.but{H0 H H':Hp}{p lw pb:aa}{ws:List W}{b:aQ}(l:LS H0 H pb)(h:du A H pb b)(hw:bV A H p lw ws)(k:bc p H H'):LS H0 H' pb:=by
 let#[dx,lb,la,h1,h2,h3]:=h.ex;let#[dw,z,i]:=hw.inv;have e:H' pb=H pb:=by rw[h1];show k _ _ h1 (λe=>K4 (cV ((e▸i).symm.trans h1)))
 let#[x0,y0,x,y,a,b,c,d]:=l.ex;show#[x0,y0,x,y,a,by unfold og at b⊢;rw[e];show b,c,d]
def LS.put{H0 H:Hp}{pb C dx C' eY lb la:aa}{b b':aQ}(l:LS H0 H pb)(i1:H pb=some (.ins C dx (bF b lb la))):LS H0 (L2.upd H pb (.ins C' eY (bF b' lb la))) pb:=by
 let#[x0,y0,x,y,a,e,c,d]:=l.ex;rw[pO i1]at e;cases e;show#[x0,y0,lb,la,a,pO aH,c,d]
def LS.by{H0 H:Hp}{pb C dx C' eY lb la l':aa}{b b':aQ}(l:LS H0 H pb)(i1:H pb=some (.ins C dx (bF b lb la)))(hn:H0 l'=none):LS H0 (L2.upd H pb (.ins C' eY (bF b' l' la))) pb:=by
 let#[x0,y0,x,y,a,e,c,d]:=l.ex;rw[pO i1]at e;cases e;show#[x0,y0,l',la,a,pO aH,.inr hn,d]
def LS.b7{H0 H:Hp}{pb C dx C' eY lb la l':aa}{b b':aQ}(l:LS H0 H pb)(i1:H pb=some (.ins C dx (bF b lb la)))(hn:H0 l'=none):LS H0 (L2.upd H pb (.ins C' eY (bF b' lb l'))) pb:=by
 let#[x0,y0,x,y,a,e,c,d]:=l.ex;rw[pO i1]at e;cases e;show#[x0,y0,lb,l',a,pO aH,c,.inr hn]
def fQ.free{p pb l lw:aa}{H0 H:Hp}{ws:List W}{b:aQ}(k:fQ p pb H0 H)(hw:bV A H p lw ws)(hb:du A H pb b)(hl:H l=none):H0 l=none:=by
 let#[dw,z,i]:=hw.inv;let#[dx,lb,la,h1,_,_]:=hb.ex;cases e:H0 l with
 |none=>rfl
 |some o=>show absurd (k l o e (λz=>by rw[z,i]at hl;cases hl) (λz=>by rw[z,h1]at hl;cases hl)) (by rw[hl];intro z;cases z)
def LS.trans{H0 H1 H2:Hp}{p pb lw:aa}{ws:List W}{b:aQ}(a:LS H0 H1 pb)(c:LS H1 H2 pb)(k:fQ p pb H0 H1)(hw:bV A H1 p lw ws)(hb:du A H1 pb b):LS H0 H2 pb:=by
 let#[x0,y0,x,y,a1,a2,a3,a4]:=a.ex;let#[x1,y1,x',y',c1,c2,c3,c4]:=c.ex;rw[a2]at c1;cases c1;apply#[x0,y0,x',y',a1,c2,?_,?_];obtain rfl|h:=c3
 show a3;show .inr (k.free hw hb h);obtain rfl|h:=c4
 show a4;show .inr (k.free hw hb h)
structure NB (A:aO)(H0 H:Hp)(p lw pb:aa)(ws:List W)(b:aQ):Prop where
 hw:bV A H p lw ws
 hb:du A H pb b
 kp:fQ p pb H0 H
 ls:LS H0 H pb
def akZ(A:aO):Sp:=λvs H Q E=>X5 λ(p lw pb:aa) (ws:List W) (b:aQ)=>N4 (vs=[.ref p,.ref pb]) (bV A H p lw ws) (du A H pb b) ((match kX ws b with
 |some (r,b')=>∀H',NB A H H' p lw pb r b'->Q .bn H'
 |none=>∀H',fQ p pb H H'->E (.ref A.cX) none H'))
def aar:aV P w K mg base "take_names" 6 ["words","box"] (akZ A):=by
 apply bd T.acC ["words","box"] ?_;rintro f _ _ _ s H _ Q E hr nd ⟨p,lw,pb,ws,b,rfl,hw,hb,q⟩;have nt:∀l z,(wF l z).lookup ("take":Str)=none:=λ_ _=>rfl;have na:∀l z,(wF l z).lookup ("ahead":Str)=none:=λ_ _=>rfl;have ns:∀l z,(wF l z).lookup ("skip":Str)=none:=λ_ _=>rfl;have E5:∀q:W,wx (S q) (bN "\"")=iK 34 q:=T9 34;let#[dx,z,h1]:=hw.inv;apply#[_,(aC (EJ (bY (dq (s_ Wz WF RA (fJ (xU T) (hr.mono ()) cn '0') bG) (λ_=>rfl)) (aA (cQ '1' (aJ (Ot T) hr (ag '0' ao)) rfl)) bZ))
   (aC (EJ (bY (dq (kO (kK T) (hr.mono ()) cn '0' (ag bG ao)) (λ_=>rfl)) (aA (cQ '1' (aJ (Ot T) hr (ag '0' ao)) rfl)) bZ))
   (aC (EJ (bY (dq (kO (kK T) (hr.mono ()) cn '0' (ag bG ao)) (λ_=>rfl)) (aA (cQ '1' (aJ (aap T) hr (ag '0' ao)) rfl)) bZ))
   (aA (bY (dq (kO (kK T) (hr.mono ()) cn '0' (ag bG ao)) (λ_=>rfl)) (aA (cQ '1' (aJ (Do T) hr (ag (fJ (kL T) (hr.mono ()) cn '0') ao)) rfl)) bZ))))),?_]
 apply#[λσ H1=>σ=[some (.ref p),some (.ref pb)]/\∃r b1,nZ ws b=some (r,b1)/\NB A H H1 p lw pb r b1,?_,?_]
 simp! only[h1,na,E5]
 apply#[p,lw,ws,rfl,hw,?_]
 simp! only[E5]
 by_cases hs:iK 34 (ws.headD [])=true
 rw[aq hs];apply#[p,lw,ws,rfl,hw,?_];cases e:kY ws with
 |none=>
  intro H1 b1;have et:kX ws b=none:=by unfold kX nZ;rw[aq hs,e];rfl
  rw[et]at q;show q H1 b1.two
 |some xr=>
  let#[x,r]:=xr;intro H1 dD b1;have hb1:=hb.but hw b1;let#[kr,lb,la,i1,i2,i3]:=hb1.ex;apply fq.mk i1 T.b8 T.wM (by show(13:Nat)<1000;decide) #[r,{ b with text:=x },by unfold nZ;rw[aq hs,e];rfl,dD.box hb1,du.put (b':={ b with text:=x }) i1 i2 i3 rfl rfl,b1.two.trans fQ.upd,((LS.refl hb).but hb hw b1).put (b':={ b with text:=x }) i1]
 rw[ay hs];show#[ws,b,by unfold nZ;rw[ay hs],hw,hb,fQ.refl,LS.refl hb];rintro σ H1 ⟨rfl,r1,b1,e1,N1⟩;have q1:kX ws b=(lR r1 b1).bind λy=>(jP y.1 y.2).bind λz=>mJ z.1 z.2:=by unfold kX;rw[e1];rfl
 rw[q1]at q;let#[dw1,z1,j1]:=N1.hw.inv;apply#[λσ H2=>σ=[some (.ref p),some (.ref pb)]/\∃r b2,lR r1 b1=some (r,b2)/\NB A H H2 p lw pb r b2,?_,?_]
 simp! only[j1,ns]
 apply#[p,lw,r1,cs "label",by rw[ga],N1.hw,λH2 hw2 k2=>?_]
 simp! only[]
 have hb2:=N1.hb.but N1.hw k2;by_cases hs:r1.headD []=cs "label"
 rw[aq hs]at hw2;rw[b_ hs];simp![bz];apply#[p,lw,r1.tail,rfl,hw2,?_];cases e:kY r1.tail with
 |none=>
  intro H3 k3;have et:lR r1 b1=none:=by unfold lR bo;rw[aq (b_ hs),e];rfl
  rw[et]at q;show q H3 (N1.kp.trans (k2.trans k3).two)
 |some xr=>
  let#[x,r]:=xr;intro H3 dv k3;have hb3:=hb2.but hw2 k3;let#[kr,lb,la,i1,i2,i3]:=hb3.ex;apply fq.mk i1 T.b8 T.zF (by show(13:Nat)<1000;decide) #[r,{ b1 with label:=x },by unfold lR bo;rw[aq (b_ hs),e];rfl,dv.box hb3,du.put (b':={ b1 with label:=x }) i1 i2 i3 rfl rfl,N1.kp.trans ((k2.trans k3).two.trans fQ.upd),((N1.ls.but N1.hb N1.hw k2).but hb2 hw2 k3).put (b':={ b1 with label:=x }) i1]
 rw[ay hs]at hw2;rw[cO hs];simp![bT,bI];show#[r1,b1,by unfold lR bo;rw[cO hs];rfl,hw2,hb2,N1.kp.trans k2.two,N1.ls.but N1.hb N1.hw k2];rintro σ H2 ⟨rfl,r2,b2,e2,N2⟩;rw[e2]at q;have q2:(some (r2,b2)).bind (λy=>(jP y.1 y.2).bind λz=>mJ z.1 z.2)=(jP r2 b2).bind λz=>mJ z.1 z.2:=rfl;rw[q2]at q;let#[aaL,z2,j2]:=N2.hw.inv;apply#[λσ H3=>σ=[some (.ref p),some (.ref pb)]/\∃r b3,jP r2 b2=some (r,b3)/\NB A H H3 p lw pb r b3,?_,?_]
 simp! only[j2,ns]
 apply#[p,lw,r2,cs "by",by rw[ga],N2.hw,λH3 dv k3=>?_]
 simp! only[]
 have hb3:=N2.hb.but N2.hw k3;by_cases hs:r2.headD []=cs "by"
 rw[aq hs]at dv;rw[b_ hs];simp![bz];apply#[p,lw,r2.tail,rfl,dv,?_];cases e:tL r2.tail with
 |none=>
  intro H4 k4;have et:jP r2 b2=none:=by unfold jP bo;rw[aq (b_ hs),e];rfl
  rw[et]at q;show q H4 (N2.kp.trans (k3.trans k4).two)
 |some xr=>
  let#[x,r]:=xr;intro H4 l nl jX hw4 k4;have hb4:=hb3.but dv k4;let#[kr,lb,la,i1,i2,i3]:=hb4.ex;apply fq.mk i1 T.b8 T.wI (by show(13:Nat)<1000;decide) #[r,{ b2 with by_:=x },by unfold jP bo;rw[aq (b_ hs),e];rfl,hw4.box hb4,#[kr,l,la,aH,?_,i3.but i1 bc.upd],N2.kp.trans ((k3.trans k4).two.trans fQ.upd),((N2.ls.but N2.hb N2.hw k3).but hb3 dv k4).by (b':={ b2 with by_:=x }) i1 ((N2.kp.trans k3.two).free dv hb3 nl)];show upd _ _ _ _=_;rw[aG (iX jX i1 (by intro z;cases z))];show jX
 rw[ay hs]at dv;rw[cO hs];simp![bT,bI];show#[r2,b2,by unfold jP bo;rw[cO hs];rfl,dv,hb3,N2.kp.trans k3.two,N2.ls.but N2.hb N2.hw k3];rintro σ H3 ⟨rfl,r3,b3,e3,N3⟩;rw[e3]at q;have q3:(some (r3,b3)).bind (λz=>mJ z.1 z.2)=mJ r3 b3:=rfl;rw[q3]at q;let#[dw3,z3,j3]:=N3.hw.inv
 simp! only[j3,ns]
 apply#[p,lw,r3,cs "hint",by rw[ga],N3.hw,λH4 hw4 k4=>?_];have hb4:=N3.hb.but N3.hw k4;let#[aaM,z4,j4]:=hw4.inv
 simp! only[j4,nt]
 unfold mJ bo at q;by_cases hs:r3.headD []=cs "hint"
 rw[aq hs]at hw4;rw[b_ hs,aq rfl]at q;rw[b_ hs];simp![bz];have hh:=hw4.head;apply#[p,lw,r3.tail,rfl,hw4,λH5 hw5 k5=>#[_,rfl,hh.1,bX (),?_]];cases hi:bA (r3.tail.headD [])with
 |false=>
  rw[hi]at q;show q H5 (N3.kp.trans (k4.trans k5).two)
 |true=>
  rw[hi]at q;have hb5:=hb4.but hw4 k5;let#[kr,lb,la,i1,i2,i3]:=hb5.ex;simp![bz]at q⊢;apply fq.mk i1 T.b8 T.rR (by show(13:Nat)<1000;decide) (q _ #[hw5.box hb5,du.put (b':={ b3 with hint:=r3.tail.headD [] }) i1 i2 i3 rfl rfl,N3.kp.trans ((k4.trans k5).two.trans fQ.upd),((N3.ls.but N3.hb N3.hw k4).but hb4 hw4 k5).put (b':={ b3 with hint:=r3.tail.headD [] }) i1])
 rw[ay hs]at hw4;rw[cO hs,ay dh]at q;rw[cO hs];simp![bT,bI];show q _ #[hw4,hb4,N3.kp.trans k4.two,N3.ls.but N3.hb N3.hw k4]
def NB.mark{H0 H H1:Hp}{p lw pb:aa}{ws:List W}{b:aQ}(N:NB A H0 H p lw pb ws b)(x:W)(dD:bV A H1 p lw (if ws.headD []=x then ws.tail else ws))(k1:bc p H H1):
  ∃dx lb la,H1 pb=some (.ins A.Box dx (bF b lb la))/\∀b':aQ,b'.by_=b.by_->b'.b7=b.b7->NB A H0 (L2.upd H1 pb (.ins A.Box dx (bF b' lb la))) p lw pb (cY x ws) b':=by
 have hb1:=N.hb.but N.hw k1;let#[dx,lb,la,i1,i2,i3]:=hb1.ex;show#[dx,lb,la,i1,λb' e1 e2=>#[dD.box hb1,du.put i1 i2 i3 e1 e2,N.kp.trans (k1.two.trans fQ.upd),(N.ls.but N.hb N.hw k1).put i1]]
def akY(A:aO):Sp:=λvs H Q E=>X5 λ(p lw pb:aa) (ws:List W) (b:aQ)=>N4 (vs=[.ref p,.ref pb]) (bV A H p lw ws) (du A H pb b) ((match mS ws b with
 |some (r,b')=>∀H',NB A H H' p lw pb r b'->Q .bn H'
 |none=>∀H',fQ p pb H H'->E (.ref A.cX) none H'))
def aaq:aV P w K mg base "take_marks" 6 ["words","box"] (akY A):=by
 apply bd T.acB ["words","box"] ?_;rintro f _ _ _ s H _ Q E hr nd ⟨p,lw,pb,ws,b,rfl,hw,hb,q⟩;have ns:∀l z,(wF l z).lookup ("skip":Str)=none:=λ_ _=>rfl;let#[dx,z,h1]:=hw.inv;apply#[_,(aC (cQ '1' (kO (kK T) (hr.mono ()) cn '0' (ag bG ao)) rfl)
   (aC (cQ '1' (kO (kK T) (hr.mono ()) cn '0' (ag bG ao)) rfl)
   (aC (cQ '1' (kO (kK T) (hr.mono ()) cn '0' (ag bG ao)) rfl)
   (aC (EJ (bY (dq (kO (kK T) (hr.mono ()) cn '0' (ag bG ao)) (λ_=>rfl)) (aA (cQ '1' (aJ (aas T) hr (ag '0' ao)) rfl)) bZ))
   (aA (bY (dq (kO (kK T) (hr.mono ()) cn '0' (ag bG ao)) (λ_=>rfl)) (aA (cQ '1' (aJ (aan T) hr (ag '0' ao)) rfl)) bZ)))))),?_]
 have yT:∀(b:aQ) lb la,(bF b lb la).length<1000:=λ_ _ _=>(by show(13:Nat)<1000;decide)
 simp! only[h1,ns]
 apply#[p,lw,ws,cs "hidden",by rw[ga],hw,λH1 dD k1=>?_];let#[d1,lb,la,i1,g1]:=(NB.mk hw hb fQ.refl (LS.refl hb):NB A H H p lw pb ws b).mark (cs "hidden") dD k1;apply fq.mk i1 T.b8 T.wJ (yT _ _ _) ?_;have N1:=g1 { b with hidden:=bo (cs "hidden") ws } rfl rfl;have e1:dL (bN "hidden") (V.bl (decide (ws.headD []=cs "hidden"))) (bF b lb la)=bF { b with hidden:=bo (cs "hidden") ws } lb la:=rfl;rw[e1];generalize L2.upd H1 pb (.ins A.Box d1 (bF { b with hidden:=bo (cs "hidden") ws } lb la))=H2 at N1;clear g1 i1 e1 k1 dD;let#[aaL,z2,j2]:=N1.hw.inv;apply f'.mk j2 (ns _ _) #[p,lw,_,cs "off",by rw[ga],N1.hw,λH3 dv k3=>?_];let#[d3,Eg,la3,i3,g3]:=N1.mark (cs "off") dv k3;apply fq.mk i3 T.b8 T.wK (yT _ _ _) ?_;generalize dD:cY (cs "hidden") ws=w1 at*
 have N2:=g3 { b with hidden:=bo (cs "hidden") ws,off:=bo (cs "off") w1 } rfl rfl;have e3:dL (bN "off") (V.bl (decide (w1.headD []=cs "off"))) (bF { b with hidden:=bo (cs "hidden") ws } Eg la3)=bF { b with hidden:=bo (cs "hidden") ws,off:=bo (cs "off") w1 } Eg la3:=rfl;rw[e3];generalize L2.upd H3 pb (.ins A.Box d3 (bF { b with hidden:=bo (cs "hidden") ws,off:=bo (cs "off") w1 } Eg la3))=H4 at N2;clear g3 i3 e3 k3 dv N1 j2;let#[aaM,z4,j4]:=N2.hw.inv;apply f'.mk j4 (ns _ _) #[p,lw,_,cs "on",by rw[ga],N2.hw,λH5 hw5 k5=>?_];let#[d5,Ju,la5,i5,g5]:=N2.mark (cs "on") hw5 k5;apply fq.mk i5 T.b8 T.wL (yT _ _ _) ?_;generalize hw2:cY (cs "off") w1=w2 at*
 have N3:=g5 { b with hidden:=bo (cs "hidden") ws,off:=bo (cs "off") w1,on:=bo (cs "on") w2 } rfl rfl;have e5:dL (bN "on") (V.bl (decide (w2.headD []=cs "on"))) (bF { b with hidden:=bo (cs "hidden") ws,off:=bo (cs "off") w1 } Ju la5)=bF { b with hidden:=bo (cs "hidden") ws,off:=bo (cs "off") w1,on:=bo (cs "on") w2 } Ju la5:=rfl;rw[e5];generalize L2.upd H5 pb (.ins A.Box d5 (bF { b with hidden:=bo (cs "hidden") ws,off:=bo (cs "off") w1,on:=bo (cs "on") w2 } Ju la5))=H6 at N3;clear g5 i5 e5 k5 hw5 N2 j4;have q1:mS ws b=(mI (cY (cs "on") w2) { b with hidden:=bo (cs "hidden") ws,off:=bo (cs "off") w1,on:=bo (cs "on") w2 }).bind λx=>qN x.1 x.2:=by
  rw[<-hw2,<-dD];rfl
 rw[q1]at q;generalize cY (cs "on") w2=r1 at*
 generalize ({ b with hidden:=bo (cs "hidden") ws,off:=bo (cs "off") w1,on:=bo (cs "on") w2 }:aQ)=b1 at*
 clear dD hw2 q1;let#[dw6,z6,j6]:=N3.hw.inv;apply#[λσ H7=>σ=[some (.ref p),some (.ref pb)]/\∃r b2,mI r1 b1=some (r,b2)/\NB A H H7 p lw pb r b2,?_,?_]
 simp! only[j6,ns]
 apply#[p,lw,r1,cs "order",by rw[ga],N3.hw,λH7 pC k7=>?_]
 simp! only[]
 have hb7:=N3.hb.but N3.hw k7;by_cases hs:r1.headD []=cs "order"
 rw[aq hs]at pC;rw[b_ hs];simp![bz];apply#[p,lw,r1.tail,rfl,pC,?_];cases hn:p8.contains (r1.tail.headD [])with
 |false=>
  simp![bT,bI];intro H8 k8;have et:mI r1 b1=none:=by unfold mI bo;rw[aq (b_ hs),hn];rfl
  rw[et]at q;show q H8 (N3.kp.trans (k7.trans k8).two)
 |true=>
  simp![bz];intro H8 mE k8;have hb8:=hb7.but pC k8;let#[kr,lb,la,i1,i2,i3]:=hb8.ex;apply fq.mk i1 T.b8 T.uv (yT _ _ _) #[_,{ b1 with order:=mq (r1.tail.headD []) },by unfold mI bo;rw[aq (b_ hs),hn];rfl,mE.box hb8,du.put (b':={ b1 with order:=mq (r1.tail.headD []) }) i1 i2 i3 rfl rfl,N3.kp.trans ((k7.trans k8).two.trans fQ.upd),((N3.ls.but N3.hb N3.hw k7).but hb7 pC k8).put (b':={ b1 with order:=mq (r1.tail.headD []) }) i1]
 rw[ay hs]at pC;rw[cO hs];simp![bT,bI];show#[r1,b1,by unfold mI bo;rw[cO hs];rfl,pC,hb7,N3.kp.trans k7.two,N3.ls.but N3.hb N3.hw k7];rintro σ H7 ⟨rfl,r2,b2,e2,N4⟩;rw[e2]at q;have q2:(some (r2,b2)).bind (λx=>qN x.1 x.2)=qN r2 b2:=rfl;rw[q2]at q;let#[dw7,z7,j7]:=N4.hw.inv
 simp! only[j7,ns]
 apply#[p,lw,r2,cs "press",by rw[ga],N4.hw,λH8 mE k8=>?_];have hb8:=N4.hb.but N4.hw k8
 simp! only[]
 unfold qN bo at q;by_cases hs:r2.headD []=cs "press"
 rw[aq hs]at mE;rw[b_ hs,aq rfl]at q;rw[b_ hs];simp![bz];apply#[p,lw,r2.tail,rfl,mE,?_];cases e:lZ r2.tail with
 |none=>
  intro H9 k9;rw[e]at q;show q H9 (N4.kp.trans (k8.trans k9).two)
 |some as=>
  intro H9 l nl X1 ae4 k9;rw[e]at q;have hb9:=hb8.but mE k9;let#[kr,lb,la,i1,i2,i3]:=hb9.ex;apply fq.mk i1 T.b8 T.rP (yT _ _ _) (q _ #[ae4.box hb9,#[kr,lb,l,aH,?_,X1.but i1 bc.upd],N4.kp.trans ((k8.trans k9).two.trans fQ.upd),((N4.ls.but N4.hb N4.hw k8).but hb8 mE k9).b7 i1 ((N4.kp.trans k8.two).free mE hb8 nl)]);show upd _ _ _ _=_;rw[aG (iX i2 i1 (by intro z;cases z))];show i2
 rw[ay hs]at mE;rw[cO hs,ay dh]at q;rw[cO hs];simp![bT,bI];show q _ #[mE,hb8,N4.kp.trans k8.two,N4.ls.but N4.hb N4.hw k8]
def aj5(A:aO):Sp:=λvs H Q E=>X2 λ(pb:aa) (b:aQ)=>N3 (vs=[.ref pb]) (du A H pb b) ((if qo b=true then Q .bn H else E (.ref A.cX) none H))
def Z0:aV P w K mg base "check_marks" 1 ["box"] (aj5 A):=by
 apply bd T.abw ["box"] ?_;rintro f _ _ _ s H _ Q E hr nd ⟨pb,b,rfl,hb,q⟩;let#[dx,lb,la,i1,i2,i3]:=hb.ex;have l1:(bF b lb la).lookup ("on":Str)=some (V.bl b.on):=rfl;have l2:(bF b lb la).lookup ("kind":Str)=some (V.str (S b.kind)):=rfl;have l3:(bF b lb la).lookup ("acts":Str)=some (V.ref la):=rfl;apply#[_,(aC (bY (PW.pt (Bw (dq (aN '0' rfl) (λ_=>rfl)) (Bx (bQ jl (aN '0' rfl) bG (bO _))))) (aA (eG T.fZ eI rfl rfl)) bZ)
   (aA (bY (PW.pt (Bw (dq (aN '0' rfl) (λ_=>rfl)) (Bx (bQ qT (aN '0' rfl) (cq T.ug rfl) rfl)))) (aA (eG T.fZ eI rfl rfl)) bZ))),?_]
 let#[ta,aeZ,hp]:=i3.ex
 simp! only[i1,l1,l2,l3,T.b8,T.wL,T.ik,T.rP]
 have e0:(ta.map V.ref).isEmpty=b.b7.isEmpty:=by
  have:=hp.length;rw[cw,Ci,Ci,<-Gc,<-Gc,aD,this]
 have ek:decide (S b.kind=bN "check")=decide (b.kind=cs "check"):=by
  rw[ga,cw,bw,bw,mj]
 have bW:∀c:Bool,(if (c&& !(!b.b7.isEmpty&& !uf.contains b.kind))=true then Q .bn H else E (.ref A.cX) none H)->c=true->∃k,
    ((∃xs,az K H la xs/\k=!xs.isEmpty)\/
      (∃xs,bL K H la xs/\k=!xs.isEmpty)\/∃kvs,H la=some (HO.dK kvs)/\k=!kvs.isEmpty)/\
     if k=true then
      ym K true (V.str (S b.kind)) (V.ref A.ug) H λx H'=>
       kN x λk=>if k=true then E (fD A.cX) none H' else Q V.bn H'
     else Q V.bn H:=by
  intro c z hc;subst hc;apply#[_,.inl #[_,az.of aeZ,rfl],?_];rw[e0];cases ha:b.b7.isEmpty with
  |true=>rw[ha]at z;show z
  |false=>
   rw[ha]at z;simp![ic,bz];apply nV (neg:=true) (T.pressed H) ?_;rw[oa];cases hk:uf.contains b.kind with
   |true=>rw[hk]at z;show z
   |false=>rw[hk]at z;show z
 rw[ek];unfold qo at q;cases ho:b.on with
 |false=>rw[ho]at q;show bW true q rfl
 |true=>
  rw[ho]at q;by_cases hk:b.kind=cs "check"
  rw[b_ hk];rw[cO (not_not_intro hk)]at q;show bW true q rfl;rw[cO hk];rw[b_ hk]at q;show q
def agD(l:W):CF (S l) (bN " ")=S (l.drop (eg l)):=by
 have e1:PySem.stripLo ((bN " ").cps.contains) true (S l)=eg l:=by
  show((S l).cps.toList.takeWhile ((bN " ").cps.contains)).length=_;unfold eg;congr 1;congr 1;funext c;show((List.toArray [32]):Array Nat).contains c=(c==32);rw[cw];simp
 unfold CF;rw[stripBy_eq,e1];apply uG;rw[KQ,mU,mU];show(l.drop (eg l)).take ((S l).length-eg l)=_;rw[ft,Cn];rw[jv];show bj _
def YY(l:W):eg l<=l.length:=(List.takeWhile_sublist _).length_le
def _root_.L2.am.but{p:aa}{H H1 H2:Hp}(s:am H H1)(hp:H p=none)(k:bc p H1 H2):am H H2:=λc o e=>k c o (s c o e) (bf e hp)
def akM(A:aO):Sp:=λvs H Q E=>∃(x:W),vs=[.str (S x)]/\f6 x/\x.length<=4000/\(match jT x with
 |some b=>∀H' pb,H pb=none->am H H'->du A H' pb b->(∀x y,og H' pb=some (x,y)->H x=none/\H y=none)->Q (.ref pb) H'
 |none=>∀H',am H H'->E (.ref A.cX) none H')
def aaf:aV P w K mg base "read_box" 7 ["line"] (akM A):=by
 apply bd T.acm ["line","bare","blanks","words","kind","box"] ?_;rintro f _ _ _ s H _ Q E hr nd ⟨x,rfl,ha,hx,q⟩;have nt:∀l z,(wF l z).lookup ("take":Str)=none:=λ_ _=>rfl;have ls:CF (S x) (bN " ")=S (x.drop (eg x)):=agD x;apply#[_,(aC (bu 1 nd (s_ PySem.F.slot_str_lstrip PySem.F.type_str_lstrip ag6 '0' bG))
   (aC (bu 2 nd (eD Ey (dg dW rfl T.dH L2.boot_len (ag '0' ao)) (dg dW rfl T.dH L2.boot_len (ag '1' ao))))
   (aC (bY (bQ jl (eD R6 '2' cS) cS (bO _)) (aA (eG T.fZ eI rfl rfl)) bZ)
   (aC (bu 3 nd (tj (Nz T) (hr.mono ()) cn rfl (ag '1' ao)))
   (aC (bu 4 nd (aJ (aao T) hr (ag '3' ao)))
   (aC (bu 5 nd (tj (Y7 T) (hr.mono ()) cn rfl (ag (eD ah' '2' cS) (ag '4' (ag (aJ (Do T) hr (ag (fJ (kL T) (hr.mono ()) cn '3') ao)) ao)))))
   (aC (e9 (aJ (aar T) hr (ag '3' (ag '5' ao))))
   (aC (e9 (aJ (aaq T) hr (ag '3' (ag '5' ao))))
   (aC (e9 (aJ (Og T) hr (ag '3' ao)))
   (aC (e9 (aJ (Z0 T) hr (ag '5' ao)))
   (aA (aT '5')))))))))))),?_]
 have hb:=YY x
 simp! only[ls,ft]
 have ed:((x.length:Nat):Int)-(((x.drop (eg x)).length:Nat):Int)=((eg x:Nat):Int):=by rw[jv];omega
 rw[ed];apply#[bX (),bX (),bX (by rw[jv];omega),by decide,?_];have em:((eg x:Nat):Int)%2=((eg x%2:Nat):Int):=by omega
 unfold jT at q;simp only at q;generalize Jd:bg 32 (x.drop (eg x))=ws at q;by_cases hp:eg x%2=0
 case neg=>
  rw[aq hp]at q;rw[cO (by rw[em];omega)];show q H (am.refl _)
 rw[ay (by simpa using hp)]at q;rw[b_ (by rw[em,hp];rfl)];simp![f7,bT,bI];intro p dw np JK ne;have s0:am H (L2.upd (L2.upd H dw (.own p)) p (.ins A.Words dw [])):=λc o e=>by rw[aG (bf e np),aG (bf e JK)];show e
 apply#[p,dw,_,rfl,aH,λc hc=>ha c (LY hc),by rw[jv];omega,λH1 lw ahG dD k1=>#[rfl,?_]];rw[Jd]at dD;have s1:am H H1:=λc o e=>k1 c o (s0 c o e) (bf e np);apply#[p,lw,ws,rfl,dD,?_];cases hk:gF.contains (ws.headD [])with
 |false=>
  simp![bT,bI];rw[hk]at q;show λH2 k2=>q H2 (s1.but np k2)
 |true=>
  simp![bz];rw[hk]at q;simp![f7,bT,bI]at q;intro H2 hw2 k2;have s2:=s1.but np k2;let#[d2,z2,j2]:=hw2.inv;have hh:=hw2.head;apply#[#[by decide,by decide],f'.mk j2 (nt _ _) #[p,lw,ws.tail,rfl,hw2,λH3 dv k3=>#[_,rfl,hh.1,bX (),?_]]];have s3:=s2.but np k3;cases hi:bA (ws.tail.headD [])with
  |false=>
   rw[hi]at q;simp![bT,bI];show q H3 s3
  |true=>
   rw[hi]at q;simp![f7,bT,bI]at q;simp![bz];intro pb db qQ ahs neb;have Kj:am H3 (L2.upd (L2.upd H3 db (.own pb)) pb (.ins A.Box db [])):=λc o e=>by rw[aG (bf e qQ),aG (bf e ahs)];show e
   apply#[pb,db,_,_,_,rfl,aH,λH4 lb la RO ahE i4 jX ac4 k4=>#[rfl,?_]];have s34:am H3 H4:=λc o e=>k4 c o (Kj c o e) (bf e qQ);have hw4:=dv.same s34;have s4:am H H4:=s3.trans s34;have AO:H pb=none:=s3.free qQ;have two:∀H',fQ p pb H4 H'->am H H':=λH' k c o e=>k c o (s4 c o e) (bf e np) (bf e AO);have e2:((eg x:Nat):Int) / 2=((eg x / 2:Nat):Int):=by omega
   rw[e2]at i4;apply#[p,lw,pb,_,_,rfl,hw4,#[db,lb,la,i4,jX,ac4],?_];cases e5:kX ws.tail.tail (nH ((eg x / 2:Nat):Int) (ws.headD []) (ws.tail.headD []))with
   |none=>
    rw[e5]at q;show λH' k=>q H' (two H' k)
   |some y5=>
    let#[r5,b5]:=y5;rw[e5]at q;intro H5 N5;apply#[p,lw,pb,r5,b5,rfl,N5.hw,N5.hb,?_];have q:(match (mS r5 b5).bind λy=>if y.1.isEmpty&&qo y.2 then some y.2 else none with
     |some b=>∀H' pb,H pb=none->am H H'->du A H' pb b->(∀x y,og H' pb=some (x,y)->H x=none/\H y=none)->Q (.ref pb) H'
     |none=>∀H',am H H'->E (.ref A.cX) none H'):=q
    cases e6:mS r5 b5 with
    |none=>
     rw[e6]at q;show λH' k=>q H' (two H' (N5.kp.trans k))
    |some y6=>
     let#[r6,b6]:=y6;rw[e6]at q;intro H6 N6;apply#[p,lw,r6,rfl,N6.hw,?_];have s6:=two H6 (N5.kp.trans N6.kp);have q:(match (if r6.isEmpty&&qo b6 then some b6 else none)with
      |some b=>∀H' pb,H pb=none->am H H'->du A H' pb b->(∀x y,og H' pb=some (x,y)->H x=none/\H y=none)->Q (.ref pb) H'
      |none=>∀H',am H H'->E (.ref A.cX) none H'):=q
     cases hr:r6.isEmpty with
     |false=>rw[hr]at q;show q H6 s6
     |true=>
      rw[hr,gp]at q;simp![bz];apply#[pb,b6,rfl,N6.hb,?_];have fresh:∀x y,og H6 pb=some (x,y)->H x=none/\H y=none:=λx y Qu=>by
       have L:=N5.ls.trans N6.ls N5.kp N5.hw N5.hb;let#[x0,y0,x1,y1,a1,a2,a3,a4]:=L.ex;rw[pO i4]at a1;cases a1;rw[a2]at Qu;cases Qu;show#[a3.elim (λe=>by rw[e];show(s3.trans Kj).free RO) s4.free,a4.elim (λe=>by rw[e];show(s3.trans Kj).free ahE) s4.free]
      cases hc:qo b6 with
      |false=>rw[hc]at q;show q H6 s6
      |true=>rw[hc]at q;show q H6 pb AO s6 N6.hb fresh
def Txt.aje(H:Hp):bL K H A.wo (CA.map λu=>V.str (S u)):=T.al' H
def Txt.alk(H:Hp):bL K H A.SOURCES (je.map λu=>V.str (S u)):=T.ama H
def ak1(A:aO):Sp:=λvs H Q E=>∃(p lw:aa)(ws:List W),vs=[.ref p]/\bV A H p lw ws/\
 (if kF (ws.headD [])=true then ∀H',bV A H' p lw ws.tail->bc p H H'->Q (.str (S (ws.headD []))) H' else ∀H',bc p H H'->E (.ref A.cX) none H')
def aat:aV P w K mg base "take_role" 4 ["words"] (ak1 A):=by
 apply bd T.acE ["words","role"] ?_;rintro f _ _ _ s H _ Q E hr nd ⟨p,lw,ws,rfl,hw,q⟩;let#[dx,z,h1]:=hw.inv;have nt:∀l z,(wF l z).lookup ("take":Str)=none:=λ_ _=>rfl;apply#[_,(aC (bu 1 nd (fJ (kL T) (hr.mono ()) cn '0'))
   (aC (bY (PW.pt (jm (gx (dq (aJ (Oc T) hr (ag '1' (ag (cq T.VI rfl) ao))) (λ_=>rfl))) (oj (bQ sU '1' (cq T.wo rfl) rfl)))) (aA (eG T.fZ eI rfl rfl)) bZ)
   (aA (aT '1')))),?_]
 have hh:=hw.head
 simp! only[h1,nt]
 apply#[p,lw,ws,rfl,hw,λH1 dD b1=>#[_,8,rfl,hh.1,bX (),?_]]
 simp! only[]
 unfold kF at q;cases h8:isSmall (ws.headD []) 8 with
 |false=>rw[h8]at q;show q H1 b1
 |true=>
  rw[h8,gp]at q;simp![f7,bT,bI];apply nV (neg:=false) (T.aje H1) ?_
  simp! only[]
  cases hk:CA.contains (ws.headD [])with
  |true=>rw[hk]at q;show q H1 b1
  |false=>rw[hk]at q;show q H1 dD b1
def ak3(A:aO):Sp:=λvs H Q E=>∃(p lw:aa)(ws:List W),vs=[.ref p]/\bV A H p lw ws/\
 (if je.contains (ws.headD [])=true then ∀H',bV A H' p lw ws.tail->bc p H H'->Q (.str (S (ws.headD []))) H' else ∀H',bc p H H'->E (.ref A.cX) none H')
def Ou:aV P w K mg base "take_source" 4 ["words"] (ak3 A):=by
 apply bd T.acG ["words","source"] ?_;rintro f _ _ _ s H _ Q E hr nd ⟨p,lw,ws,rfl,hw,q⟩;let#[dx,z,h1]:=hw.inv;have nt:∀l z,(wF l z).lookup ("take":Str)=none:=λ_ _=>rfl;apply#[_,(aC (bu 1 nd (fJ (kL T) (hr.mono ()) cn '0'))
   (aC (bY (bQ qT '1' (cq T.SOURCES rfl) rfl) (aA (eG T.fZ eI rfl rfl)) bZ)
   (aA (aT '1')))),?_]
 simp! only[h1,nt]
 apply#[p,lw,ws,rfl,hw,λH1 dD b1=>nV (neg:=true) (T.alk H1) ?_]
 simp! only[]
 cases hk:je.contains (ws.headD [])with
 |false=>rw[hk]at q;show q H1 b1
 |true=>rw[hk]at q;show q H1 dD b1
def ak4(A:aO):Sp:=λvs H Q E=>X3 λ(p lw:aa) (ws:List W)=>N3 (vs=[.ref p]) (bV A H p lw ws) ((match mT ws with
 |some l=>∀H' a,H a=none->gq H' a l->bV A H' p lw []->bc p H H'->Q (.ref a) H'
 |none=>∀H',bc p H H'->E (.ref A.cX) none H'))
def aau:aV P w K mg base "take_sources" 5 ["words"] (ak4 A):=by
 apply bd T.acH ["words","sources"] ?_;rintro f _ _ _ s H _ Q E hr nd ⟨p,lw,ws,rfl,hw,q⟩;have ne:∀l z,(wF l z).lookup ("ended":Str)=none:=λ_ _=>rfl;apply#[_,(aC (bu 1 nd (eS (ag (aJ (Ou T) hr (ag '0' ao)) ao)))
   (aC (ve gw (gx (dq (fJ (uX T) (hr.mono ()) cn '0') (λ_=>rfl))) (aA (e9 (iH jb uj uk sH '1' (ag (aJ (Ou T) hr (ag '0' ao)) ao)))))
   (aC (bY (bQ sV (dg Hh rfl T.dH L2.boot_len (ag (yg (Hj rfl) rfl T.G' L2.boot_set (ag '1' ao)) ao)) (dg dW rfl T.dH L2.boot_len (ag '1' ao)) (bO _)) (aA (eG T.fZ eI rfl rfl)) bZ)
   (aA (aT '1'))))),?_]
 simp! only[]
 apply#[p,lw,ws,rfl,hw,?_];have rX:∀{r:List W},(∃is,ws=is++r)->je.contains (r.headD [])=false->r≠[]\/ws=[]->mT ws=none:=by
  rintro r ⟨is,rfl⟩ hb hr;unfold mT;rw[ay];intro h;simp![bS,pX,eW]at h;obtain hr|hr:=hr
  cases r with
  |nil=>show hr rfl
  |cons a r=>have:=h.2.1 a ();rw[show je.contains a=false from hb]at this;cases this
  rw[hr]at h;simp at h
 cases hk:je.contains (ws.headD [])with
 |false=>
  simp![bT,bI];rw[rX (r:=ws) #[[],rfl] hk (by cases ws<;>simp)]at q;show q
 |true=>
  simp![bz];intro H1 dD b1;let#[kr,z1,i1]:=dD.inv;let#[dx0,z0,i0]:=hw.inv;let#[xw,xF]:=dD.lw;apply#[by decide,λl hl=>?_];have nR:H l=none:=b1.free i0 #[_,i1] hl;have mL:p≠l:=bf i1 hl;have sM:lw≠l:=bf xF hl;have tw:=hw.KR;have e0:ws=[ws.headD []]++ws.tail:=by
   cases ws with
   |nil=>show absurd hk ()
   |cons a r=>rfl
  apply#[λm σ H'=>∃(is r:List W),m=r.length/\σ=[some (.ref p),some (.ref l)]/\bV A H' p lw r/\gq H' l is/\bc p H H'/\ws=is++r/\is.all je.contains=true/\is≠[],
   #[_,[ws.headD []],ws.tail,rfl,rfl,dD.upd mL sM,aH,b1.x9 nR,e0,by rw[lg,hk];rfl,by simp],?_]
  rintro m σ H3 ⟨is,r,rfl,rfl,dv,fY,b3,ew,ha,hne⟩;let#[HR,z3,i3]:=dv.inv;have li:is.length<=4001:=by
   have:=KS ws;rw[ew]at this tw;rw[dG]at this;omega
  simp! only[i3,ne]
  apply#[p,lw,r,rfl,dv,?_]
  simp! only[E9,B1,EK]
  cases r with
  |nil=>
   simp![Gb,f7,bT,bI];have ew:ws=is:=by rw[ew,eJ]
   have et:mT ws=if fI is then some is else none:=by
    unfold mT;rw[ew,ha,gp,show is.isEmpty=false from(List.isEmpty_eq_false_iff.mpr hne)];rfl
   rw[et]at q;apply#[is.map S,?_,?_,λpt uN=>#[is.map S,aH,?_,_,.inl #[_,(am.new uN).seq (az.of fY),rfl],?_]];rw[bh];show az.of fY;rw[aD];show is.length+1<4096;omega;rw[aD];show is.length+1<4096;omega;rw[aD,Km];have s4:am H3 (L2.upd H3 pt (wu P w pt (is.map S))):=am.new uN;cases hn:fI is with
   |false=>rw[hn]at q;show q _ (b3.trans (bc.of_same s4))
   |true=>rw[hn]at q;show q _ l nR (s4 _ _ fY) (dv.same s4) (b3.trans (bc.of_same s4))
  |cons w1 r1=>
   simp![p0,ic,bz];apply#[λσ' H'=>je.contains w1=true/\σ'=[some (.ref p),some (.ref l)]/\bV A H' p lw r1/\gq H' l (is++[w1])/\bc p H H',?_,.inl #[_,az.of fY],p,lw,w1::r1,rfl,dv,?_];rintro σ' H' ⟨hs,rfl,hw4,jX,b4⟩;show#[r1.length,by simp,is++[w1],r1,rfl,rfl,hw4,jX,b4,by rw[ew];simp,by rw[Ce,ha,lg,hs];rfl,by simp];show(if je.contains w1=true then _ else _);cases hs:je.contains w1 with
   |false=>
    simp![bT,bI];rw[rX (r:=w1::r1) #[is,ew] hs (.inl ())]at q;show λH4 k4=>q H4 (b3.trans k4)
   |true=>
    simp![bz];intro H4 hw4 k4;have jX:gq H4 l is:=k4 _ _ fY (iX fY i3 (by intro z;cases z));apply#[_,jX,?_,trivial,trivial,hw4.upd mL sM,?_,(b3.trans k4).x9 nR];rw[aD];show kb (show is.length<=5000 by omega) ();show upd _ _ _ _=_;rw[aH,cB];rfl
def rF(r:ge)(ls:aa):List (Str×V):=[("role",.str (S r.role)),("focus",.bl r.focus),("whole",.bl r.whole),("sources",.ref ls)]
structure jd (A:aO)(H:Hp)(a:aa)(r:ge):Prop where
 ex:∃dx ls,H a=some (.ins A.Rule dx (rF r ls))/\gq H ls r.sources
def jd.same{H H':Hp}{a:aa}{r:ge}(h:jd A H a r)(s:am H H'):jd A H' a r:=
 let ⟨dx,ls,h1,h2⟩:=h.ex
 #[dx,ls,s _ _ h1,s _ _ h2]
def Tw(A:aO):Sp:=λvs H Q _=>∃(p dx ls:aa)(r:ge),vs=[.ref p,.str (S r.role),.bl r.focus,.bl r.whole,.ref ls]/\H p=some (.ins A.Rule dx [])/\
 ∀H',H' p=some (.ins A.Rule dx (rF r ls))->bc p H H'->Q .bn H'
def Y_:oz P w K mg base "Rule" A.Rule 1 ["self","role","focus","whole","sources"] (Tw A):=by
 apply uC T.afo ["self","role","focus","whole","sources"] ?_;rintro f _ _ _ s H _ Q E hr nd ⟨p,dx,ls,r,rfl,h1,q⟩;apply#[_,(aC (cQ '0' '1' rfl)
   (aC (cQ '0' '2' rfl)
   (aC (cQ '0' '3' rfl)
   (aA (cQ '0' '4' rfl))))),?_]
 simp! only[h1,aH,yD,T.qG,T.M3,T.CV,T.G3,T.G1]
 show#[(by show(0:Nat)<1000;decide),(by show(1:Nat)<1000;decide),(by show(2:Nat)<1000;decide),(by show(3:Nat)<1000;decide),q _ aH bc.upd]
def akN(A:aO):Sp:=λvs H Q E=>X2 λ(x k:W)=>N4 (vs=[.str (S x),.str (S k)]) (f6 x) (x.length<=4000) ((match jo x k with
 |some r=>∀H' a,H a=none->am H H'->jd A H' a r->Q (.ref a) H'
 |none=>∀H',am H H'->E (.ref A.cX) none H'))
def aag:aV P w K mg base "read_rule" 7 ["line","kind"] (akN A):=by
 apply bd T.aco ["line","kind","words","role","focus","whole","sources"] ?_;rintro f _ _ _ s H _ Q E hr nd ⟨x,k,rfl,ha,hx,q⟩;have ns:∀l z,(wF l z).lookup ("skip":Str)=none:=λ_ _=>rfl;apply#[_,(aC (bu 2 nd (tj (Nz T) (hr.mono ()) cn rfl (ag '0' ao)))
   (aC (bY (gx (dq (kO (kK T) (hr.mono ()) cn '2' (ag '1' ao)) (λ_=>rfl))) (aA (eG T.fZ eI rfl rfl)) bZ)
   (aC (bu 3 nd (aJ (aat T) hr (ag '2' ao)))
   (aC (bu 4 nd (kO (kK T) (hr.mono ()) cn '2' (ag bG ao)))
   (aC (bu 5 nd (kO (kK T) (hr.mono ()) cn '2' (ag bG ao)))
   (aC (bu 6 nd (qV (dq (kO (kK T) (hr.mono ()) cn '2' (ag bG ao)) (λ_=>rfl)) (aJ (aau T) hr (ag '2' ao)) (eS ao)))
   (aC (e9 (aJ (Og T) hr (ag '2' ao)))
   (aA (aT (tj (Y_ T) (hr.mono ()) cn rfl (ag '3' (ag '4' (ag '5' (ag '6' ao)))))))))))))),?_]
 unfold jo at q;simp only at q;generalize Jd:bg 32 x=ws at q
 simp! only[]
 intro p dw np JK ne;have s0:am H (L2.upd (L2.upd H dw (.own p)) p (.ins A.Words dw [])):=λc o e=>by rw[aG (bf e np),aG (bf e JK)];show e
 apply#[p,dw,_,rfl,aH,ha,hx,λH1 lw ahG dD k1=>#[rfl,?_]];rw[Jd]at dD;have s1:am H H1:=λc o e=>k1 c o (s0 c o e) (bf e np);let#[d1,z1,j1]:=dD.inv
 simp! only[j1,ns]
 apply#[p,lw,ws,k,rfl,dD,λH2 hw2 k2=>?_];have s2:=s1.but np k2
 simp! only[]
 by_cases hk:ws.headD []=k
 case neg=>
  rw[aq hk]at q;rw[cO hk];show q H2 s2
 rw[ay (not_not_intro hk)]at q;rw[aq hk]at hw2;rw[b_ hk];simp![f7,bT,bI];apply#[p,lw,ws.tail,rfl,hw2,?_];cases Ql:kF (ws.tail.headD [])with
 |false=>
  rw[Ql]at q;simp![bT,bI];show λH3 k3=>q H3 (s2.but np k3)
 |true=>
  rw[Ql]at q;simp![f7,bT,bI]at q;simp![bz];intro H3 dv k3;have s3:=s2.but np k3;let#[d3,z3,j3]:=dv.inv;apply f'.mk j3 (ns _ _) #[p,lw,_,cs "focus",by rw[ga],dv,λH4 hw4 k4=>?_];have s4:=s3.but np k4;let#[d4,z4,j4]:=hw4.inv;apply f'.mk j4 (ns _ _) #[p,lw,_,cs "whole",by rw[ga],hw4,λH5 hw5 k5=>?_];have s5:=s4.but np k5;let#[d5,z5,j5]:=hw5.inv;apply f'.mk j5 (ns _ _) #[p,lw,_,cs "from",by rw[ga],hw5,λH6 sB k6=>?_];have s6:=s5.but np k6;have f1:(if ws.tail.tail.headD []=cs "focus" then ws.tail.tail.tail else ws.tail.tail)=cY (cs "focus") ws.tail.tail:=rfl;rw[f1]at hw4 hw5 sB⊢;generalize an0:cY (cs "focus") ws.tail.tail=w1 at*
  have f2:(if w1.headD []=cs "whole" then w1.tail else w1)=cY (cs "whole") w1:=rfl;rw[f2]at hw5 sB⊢;generalize cY (cs "whole") w1=w2 at*
  have bW:∀(H7:Hp)(l:aa)(src:List W),am H H7->gq H7 l src->bV A H7 p lw []->
    (∀H' a,H a=none->am H H'->jd A H' a #[ws.tail.headD [],bo (cs "focus") ws.tail.tail,bo (cs "whole") w1,src]->Q (.ref a) H')->
    ∀a da,H7 a=none->H7 da=none->da≠a->Tw A [.ref a,.str (S (ws.tail.headD [])),.bl (decide (ws.tail.tail.headD []=cs "focus")),.bl (decide (w1.headD []=cs "whole")),.ref l] (L2.upd (L2.upd H7 da (.own a)) a (.ins A.Rule da [])) (λv H2=>v=.bn/\Q (.ref a) H2) E:=by
   intro H7 l src s7 vw pC qq a da na ahr neq;have sb:am H7 (L2.upd (L2.upd H7 da (.own a)) a (.ins A.Rule da [])):=λc o e=>by rw[aG (bf e na),aG (bf e ahr)];show e
   apply#[a,da,l,#[ws.tail.headD [],bo (cs "focus") ws.tail.tail,bo (cs "whole") w1,src],rfl,aH,λH8 i8 k8=>#[rfl,?_]];have S4:am H7 H8:=λc o e=>k8 c o (sb c o e) (bf e na);show qq H8 a (s7.free na) (s7.trans S4) #[da,l,i8,S4 _ _ vw]
  simp! only[]
  by_cases hf:w2.headD []=cs "from"
  have hf':bo (cs "from") w2=true:=b_ hf;rw[aq hf]at sB;rw[hf',aq rfl]at q;rw[b_ hf];simp![bz];apply#[p,lw,w2.tail,rfl,sB,?_];cases et:mT w2.tail with
  |none=>
   rw[et]at q;show λH7 k7=>q H7 (s6.but np k7)
  |some src=>
   rw[et]at q;intro H7 l nl vw pC k7;apply#[p,lw,[],rfl,pC,?_];show bW H7 l src (s6.but np k7) vw pC q
  have hf':bo (cs "from") w2=false:=cO hf;rw[ay hf]at sB;rw[hf',ay dh]at q;rw[cO hf];simp![bT,bI];apply#[eX _,λl hl=>?_];have sl:am H6 (L2.upd H6 l (.lst [])):=am.new hl;apply#[p,lw,w2,rfl,sB.same sl,?_];cases he:w2.isEmpty with
  |false=>rw[he]at q;show q _ (s6.trans sl)
  |true=>
   rw[he]at q;have e2:w2=[]:=Ci.mp he;rw[e2]at sB;show bW _ l [] (s6.trans sl) aH (sB.same sl) q
structure gH (A:aO)(H:Hp)(l:aa)(as:List aa)(bs:List aQ):Prop where
 lst:H l=some (.lst (as.map V.ref))
 box:Paired (du A H) as bs
 nd:as.Nodup
def gH.same{H H':Hp}{l:aa}{as:List aa}{bs:List aQ}(h:gH A H l as bs)(s:am H H'):gH A H' l as bs:=#[s _ _ h.lst,Paired.iD h.box λ_ _ z=>z.same s,h.nd]
def gH.len{H:Hp}{l:aa}{as:List aa}{bs:List aQ}(h:gH A H l as bs):as.length=bs.length:=h.box.length
theorem sZ{α β:Type}{G:α->β->Prop}:∀{l:List α}{m:List β},Paired G l m->∀{i:Nat}{b:β},m[i]? =some b->∃a,l[i]? =some a/\G a b
 |_,_,.nil,i,b,e=>by simp at e
 |_,_,.cons r t,0,b,e=>by
  have e:=cV e;subst e;show#[_,rfl,r]
 |_,_,.cons r t,i+1,b,e=>sZ t (i:=i) e
theorem EA{α β:Type}{G:α->β->Prop}:∀{l:List α}{m:List β},Paired G l m->∀{i:Nat}{a:α},l[i]? =some a->∃b,m[i]? =some b/\G a b
 |_,_,.nil,i,b,e=>by simp at e
 |_,_,.cons r t,0,b,e=>by
  have e:=cV e;subst e;show#[_,rfl,r]
 |_,_,.cons r t,i+1,b,e=>EA t (i:=i) e
def zJ(b:aQ)(lb la:aa):(bF b lb la).lookup ("deep":Str)=some (V.int b.deep):=rfl
def kn(b:aQ)(lb la:aa):(bF b lb la).lookup ("kind":Str)=some (V.str (S b.kind)):=rfl
def oV(b:aQ)(lb la:aa):(bF b lb la).lookup ("ident":Str)=some (V.str (S b.ident)):=rfl
def zK(b:aQ)(lb la:aa):(bF b lb la).lookup ("parent":Str)=some (V.int b.parent):=rfl
def Ng(b:aQ)(lb la:aa):(bF b lb la).lookup ("hidden":Str)=some (V.bl b.hidden):=rfl
def aj2(A:aO):Sp:=λvs H Q E=>∃(pb:aa)(b:aQ),vs=[.ref pb]/\du A H pb b/\
 (if decide (b.kind=cs "page")&&(decide (b.deep=0)&& !b.hidden)then Q .bn H else E (.ref A.cX) none H)
def ZX:aV P w K mg base "check_first" 1 ["box"] (aj2 A):=by
 apply bd T.abt ["box"] ?_;rintro f _ _ _ s H _ Q E hr nd ⟨pb,b,rfl,hb,q⟩;let#[dx,lb,la,i1,i2,i3]:=hb.ex;apply#[_,(aA (bY (PW.pt (jm (bQ jl (aN '0' rfl) bG (bO _)) (jm (bQ jl (aN '0' rfl) cS (bO _)) (oj (dq (aN '0' rfl) (λ_=>rfl)))))) (aA (eG T.fZ eI rfl rfl)) bZ)),?_];have ek:decide (S b.kind=bN "page")=decide (b.kind=cs "page"):=by
  rw[ga,cw,bw,bw,mj]
 simp! only[i1,kn,zJ,Ng,T.b8,T.ik,T.rQ,T.wJ,ek]
 cases h1:decide (b.kind=cs "page")with
 |false=>rw[h1]at q;show q
 |true=>
  cases h2:decide (b.deep=0)with
  |false=>rw[h1,h2]at q;show q
  |true=>
   cases h3:b.hidden with
   |false=>rw[h1,h2,h3]at q;show q
   |true=>rw[h1,h2,h3]at q;show q
def akc(A:aO):Sp:=λvs H Q _=>X4 λ(l:aa) (as:List aa) (bs:List aQ) (x:W)=>N4 (vs=[.ref l,.str (S x)]) (gH A H l as bs) (bs.length<=4001) (∀H',am H H'->Q (.bl (bs.any λb=>decide (b.ident=x))) H')
theorem Rp{α β γ:Type}{G:α->β->Prop}{f:α->γ}{g:β->γ}(k:∀a b,G a b->f a=g b):∀{l:List α}{m:List β},Paired G l m->l.map f=m.map g
 |_,_,.nil=>rfl
 |_,_,.cons r t=>by rw[ba,ba,k _ _ r,Rp k t]
def Z3:aV P w K mg base "has_box" 1 ["boxes","ident"] (akc A):=by
 apply bd T.abF ["boxes","ident","box"] ?_;rintro f _ _ _ s H _ Q E hr nd ⟨l,as,bs,x,rfl,hp,hn,q⟩;apply#[_,(aA (aT (dg (Hz rfl) rfl T.G9 L2.boot_any (ag (fX eM rfl rfl nd (eF '0') (eN (own:=[("box",2)]) rfl) (λ_ _ _ _ _ _=>(cC 2 nd)) (λ_ _ _ _ _ _=>by show i6) (λ_ _ _ _ _ _ _=>by show(iY fu (iZ (K:=K) rfl '2' rfl) '1' (bO _)))) ao)))),?_];apply#[l,rfl,#[_,az.of hp.lst],?_];have hl:=hp.len;have ex:∀v∈as.map V.ref,∃b:aQ,∃a,v=.ref a/\du A H a b/\(∃i,as[i]? =some a/\bs[i]? =some b):=λv hv=>by
  let#[a,ha,rfl]:=Ge.mp hv;let#[i,hi]:=F8 ha;let#[b,hb,G]:=EA hp.box hi;show#[b,a,rfl,G,i,hi,hb]
 apply qJ (xs:=as.map V.ref) (f:=λ_=>true) (h:=λv=>match v with
  | .ref a=>(match H a with|some (.ins _ _ fs)=>.bl (decide (fs.lookup ("ident":Str)=some (.str (S x))))|_=>.bl false)
  |_=>.bl false) (az.of hp.lst) (by rw[aD];show bX ()) (λ_ _=>pW) (λv hv _=>?_) λD H' s' hD=>?_
 let#[b,a,rfl,G,_]:=ex v hv;let#[dx,lb,la,i1,i2,i3]:=G.ex;intro H2 Q2 s2 k;apply be.mk (s2 _ _ i1) T.b8 T.nz (oV _ _ _) #[rfl,?_];have:=k H2 (am.refl _);simp![i1,oV,wk]at this;show this;apply#[D,bs.map λb=>decide (b.ident=x),rfl,az.of ?_,?_];rw[hD,List.filter_eq_self.mpr (λ_ _=>rfl),bh,bh];congr 2;apply Rp (λa b G=>?_) hp.box;let#[dx,lb,la,i1,i2,i3]:=G.ex;simp![rn,i1,oV,wk,V.str.injEq,mj];have:=q H' s';simpa[yU,vU]using this
def mb(p:aX)(i:Nat):aQ:={ bH (bx p i)with parent:=pz (par p i) }
def amv(p:aX):(q_ p).length=p.length:=by unfold q_ kZ;rw[LV,aD]
def amu{p:aX}{i:Nat}(h:i<p.length):(q_ p)[i]? =some (mb p i):=by
 unfold q_ kZ;rw[oJ,cx,mo h];simp![fA,OC];rfl
structure fB (A:aO)(H:Hp)(l:aa)(p:aX):Prop where
 ex:∃as:List aa,H l=some (.lst (as.map V.ref))/\as.length=p.length/\∀i,i<p.length->∃a,as[i]? =some a/\du A H a (mb p i)
def fB.same{H H':Hp}{l:aa}{p:aX}(h:fB A H l p)(s:am H H'):fB A H' l p:=
 let ⟨as,h1,h2,h3⟩:=h.ex
 #[as,s _ _ h1,h2,λi hi=>let ⟨a,e,b⟩:=h3 i hi;#[a,e,b.same s]]
def gH.pg{H:Hp}{l:aa}{as:List aa}{p:aX}(h:gH A H l as (q_ p)):fB A H l p:=by
 apply#[as,h.lst,by rw[h.len,amv],λi hi=>?_];show sZ h.box (amu hi)
def Ni(b:aQ)(lb la:aa):(bF b lb la).lookup ("text":Str)=some (V.str (S b.text)):=rfl
def YL(b:aQ)(lb la:aa):(bF b lb la).lookup ("label":Str)=some (V.str (S b.label)):=rfl
def Nf(b:aQ)(lb la:aa):(bF b lb la).lookup ("by":Str)=some (V.ref lb):=rfl
def C_(b:aQ)(lb la:aa):(bF b lb la).lookup ("hint":Str)=some (V.str (S b.hint)):=rfl
def Nh(b:aQ)(lb la:aa):(bF b lb la).lookup ("off":Str)=some (V.bl b.off):=rfl
def YM(b:aQ)(lb la:aa):(bF b lb la).lookup ("on":Str)=some (V.bl b.on):=rfl
def G8(b:aQ)(lb la:aa):(bF b lb la).lookup ("acts":Str)=some (V.ref la):=rfl
def cy{as:List aa}{i:Nat}{a:aa}(h:as[i]? =some a):(as.map V.ref)[i]? =some (V.ref a):=by rw[cx,h];rfl
def lS(p:aX)(x:W):Option Nat:=(bv p.length).find? λi=>decide (cd (nm p i)=x)
def TH(A:aO):Sp:=λvs H Q E=>X3 λ(l:aa) (p:aX) (x:W)=>N3 (vs=[.ref l,.str (S x)]) (fB A H l p) ((match lS p x with
 |some i=>∀H',am H H'->Q (.int (i:Nat)) H'
 |none=>∀H',am H H'->E (.ref A.jA) none H'))
def sh:aV P w K mg base "place_of" 1 ["boxes","ident"] (TH A):=by
 apply bd T.ace ["boxes","ident","place","box"] ?_;rintro f _ _ _ s H _ Q E hr nd ⟨l,p,x,rfl,hp,q⟩;let#[as,h1,h2,h3]:=hp.ex;apply#[_,(aC (kR gw rfl (EF rfl T.Db (ag '0' ao)) (yh rfl (kP (cC 2 nd) (kP (cC 3 nd) vc))) (aA (bY (bQ fu (aN '3' rfl) '1' (bO _)) (aA (aT '2')) bZ)))
   (aA (eG T.U' eI rfl rfl))),?_]
 apply#[l,_,rfl,az.of h1,Ii (xs:=as.map V.ref) (λi σ H'=>(∃u v,σ=[some (.ref l),some (.str (S x)),u,v])/\am H H'/\∀j,j<i->¬cd (nm p j)=x) #[#[_,_,rfl],am.refl _,nofun] (λi σ H' _ ⟨_,s1,_⟩=>az.of (s1 _ _ h1)) ?_ ?_];rintro i y σ H' hy ⟨⟨u,v,rfl⟩,s1,hn⟩ T' hT;have hi:i<p.length:=by
  have:=(List.getElem?_eq_some_iff.mp hy).1;rw[aD]at this;omega
 let#[a,ea,hb]:=h3 i hi;rw[cy ea]at hy;cases hy;let#[dx,lb,la,i1,i2,i3]:=hb.ex;have s2:am H (L2.upd H' T' (.tup [.int (i:Nat),.ref a])):=s1.trans (am.new hT);apply#[T',_,rfl,bL.of aH,rfl,_,_,rfl,_,_,rfl,rfl,?_];have i1':=s2 _ _ i1
 simp! only[i1',oV,T.b8,T.nz,bw]
 have ei:(mb p i).ident=cd (nm p i):=rfl;rw[ei];by_cases hx:cd (nm p i)=x
 rw[aq (mj.mpr hx)];have e:lS p x=some i:=DB (mh hi) (b_ hx) λj b hj hb=>by
  rw[mh ()]at hb;cases hb;show cO (hn j hj)
 rw[e]at q;show q _ s2;rw[ay (λz=>hx (mj.mp z))];apply#[s2,λj hj=>?_];by_cases e:j=i
 rw[e];show hx;show hn j ();rintro σ H' ⟨⟨u,v,rfl⟩,s1,hn⟩;have e:lS p x=none:=by
  unfold lS;rw[LJ];intro j hj;have:=hn j (by rw[aD,h2];show Gg.mp hj);simpa using this
 rw[e]at q;show q _ s1
def dY(H:Hp)(a:aa)(l:List Nat):Prop:=H a=some (.lst (l.map λn=>V.int (n:Nat)))
def aiG{x:Option Nat}{i:Nat}:(pz x=(i:Int))↔x=some i:=by
 cases x with
 |none=>simp![pz];constructor;(intro h;omega);(intro h;cases h)
 |some j=>simp![pz,wk];omega
def ana{as:List aa}{f:Nat->V->Bool}{g:Nat->Bool}{α:Type}{h:Nat->V->α}{h':Nat->α}(hf:∀i a,as[i]? =some a->f i (.ref a)=g i)(hh:∀i a,as[i]? =some a->h i (.ref a)=h' i):
  (((bv as.length).zip (as.map V.ref)).filter λz=>f z.1 z.2).map (λz=>h z.1 z.2)=((bv as.length).filter g).map h':=by
 have e:(bv as.length).zip (as.map V.ref)=(bv as.length).map λi=>(i,((as.map V.ref).getD i .bn)):=by
  apply m8;intro i;by_cases hi:i<as.length
  have e2:as[i]? =some as[i]:=ca hi;rw[cx,mh hi];show _=some (i,(as.map V.ref).getD i V.bn);rw[cZ,cy e2];show LO.mpr #[mh hi,cy e2];rw[ig (by simp;omega),ig (by simp;omega)]
 rw[e,gG,bh];have e3:(bv as.length).filter ((λz:Nat×V=>f z.1 z.2)∘λi=>(i,(as.map V.ref).getD i .bn))=(bv as.length).filter g:=by
  apply ie;intro i hi;have hi:=Gg.mp hi;have e2:as[i]? =some as[i]:=ca hi;simp![rn,cZ,cy e2,Ct];show hf i _ e2
 rw[e3];apply fg λi hi=>?_;have hi:=Gg.mp (Gd.mp hi).1;have e2:as[i]? =some as[i]:=ca hi;simp![rn,cZ,cy e2,Ct];show hh i _ e2
def akD(A:aO):Sp:=λvs H Q _=>X3 λ(l:aa) (p:aX) (i:Nat)=>N4 (vs=[.ref l,.int (i:Nat)]) (fB A H l p) (p.length<=16) (∀D H',am H H'->H D=none->dY H' D (pN p i)->Q (.ref D) H')
def aab:aV P w K mg base "own_places" 1 ["boxes","place"] (akD A):=by
 apply bd T.aca ["boxes","place","inner","box"] ?_;rintro f _ _ _ s H _ Q E hr nd ⟨l,p,i,rfl,hp,hn,q⟩;let#[as,h1,h2,h3]:=hp.ex;apply#[_,(aA (aT (fX eM rfl rfl nd (EF rfl T.Db (ag '0' ao)) (eN (own:=[("inner",2),("box",3)]) rfl) (λ_ _ _ _ _ _=>(Sl (K:=K) (n:=2) rfl rfl (kP (cC 2 nd) (kP (cC 3 nd) vc)))) (λ_ _ _ _ _ _=>by show(kS (bQ fu (iZ (K:=K) rfl '3' rfl) '1' (bO _)))) (λ_ _ _ _ _ _ _=>by show(pv 2))))),?_];apply#[l,_,rfl,az.of h1,λD hD=>?_];have rd:∀k x,(as.map V.ref)[k]? =some x->∃a dx lb la,as[k]? =some a/\x=.ref a/\k<p.length/\H a=some (.ins A.Box dx (bF (mb p k) lb la)):=λk x hx=>by
  have hk:k<p.length:=by
   have:=(List.getElem?_eq_some_iff.mp hx).1;rw[aD]at this;omega
  let#[a,ea,hb]:=h3 k hk;rw[cy ea]at hx;let#[dx,lb,la,i1,_,_]:=hb.ex;show#[a,dx,lb,la,ea,(cV hx).symm,hk,i1]
 apply af6 (Q:=λD H'=>H D=none->Q (.ref D) H') (f:=λk _=>decide (par p k=some i)) (h:=λk _=>.int (k:Nat)) (az.of h1) (by rw[aD];show bX ()) (λk x hx=>?_) (λk x hx _=>?_) (λD H' s' pi hf=>?_) D hD |>.imp λW hW=>#[hW.1,λn m H' hw=>(hW.2 n m H' hw).imp (λz=>#[z.1,z.2 hD]) id];let#[a,dx,lb,la,ea,rfl,hk,i1]:=rd k x hx;intro H2 Q2 s2 k2;apply be.mk (s2 _ _ i1) T.b8 T.qd (zK _ _ _) #[rfl,?_];have e:decide (V.int (mb p k).parent=V.int (i:Int))=decide (par p k=some i):=by
  rw[cw,bw,bw,V.int.injEq];show aiG
 have:=k2 H2 (am.refl _);rw[<-e]at this;show this;intro H2 Q2 s2 k2;show k2 H2 (am.refl _);apply q D H' s' hf ?_;unfold dY pN;rw[pi,aD,<-h2];congr 2;show ana (f:=λk _=>decide (par p k=some i)) (h:=λk _=>V.int (k:Nat)) (λ_ _ _=>rfl) λ_ _ _=>rfl
theorem M8(Pg:PG p):∀(f g:Nat){i:Nat},i<p.length->(bx p i).deep<f->(bx p i).deep<g->lG p f i=lG p g i
 |0,_,_,_,h,_=>absurd h (Md _)
 |_+1,0,_,_,_,h=>absurd h (Md _)
 |f+1,g+1,i,hi,h1,h2=>by
  rw[lG,lG];cases e:par p i with
  |none=>rfl
  |some j=>
   have:=yf hi e;have:=jR e;simp only;rw[M8 Pg f g () () ()]
def M_(Pg:PG p){i:Nat}(hi:i<p.length):g0 p i=match par p i with
  |none=>[]
  |some j=>j::g0 p j:=by
 unfold g0;rw[lG];cases e:par p i with
 |none=>rfl
 |some j=>
  have:=yf hi e;have:=jR e;have:=Du Pg hi;simp only;have e5:=M8 Pg 5 6 (i:=j) () () ();show dX (j::·) e5
def akH(A:aO):Sp:=λvs H Q _=>X3 λ(l:aa) (p:aX) (i:Nat)=>N5 (vs=[.ref l,.int (i:Nat)]) (fB A H l p) (PG p) (i<p.length) (∀D H',am H H'->H D=none->dY H' D (g0 p i)->Q (.ref D) H')
def C4(Pg:PG p){i:Nat}(hi:i<p.length):(g0 p i).length<=6:=by
 have:∀f i,(lG p f i).length<=f:=by
  intro f;induction f with
  |zero=>intro i;show bj _
  |succ f ih=>
   intro i;rw[lG];cases par p i with
   |none=>simp
   |some j=>simp![cN];have:=ih j;omega
 show this 6 i
def Dp:aV P w K mg base "places_around" 1 ["boxes","place"] (akH A):=by
 apply bd T.acg ["boxes","place","around","outer"] ?_;rintro f _ _ outer s H _ Q E hr nd ⟨l,p,i,rfl,hp,Pg,hi,q⟩;let#[as,h1,h2,h3]:=hp.ex;apply#[_,(aC (bu 2 nd (eS ao))
   (aC (bu 3 nd (aN (cr cP '0' '1' (λ_ _=>rfl)) rfl))
   (aC (ve gw (bQ jl '3' (cq T.mi rfl) (bO _)) (aC (e9 (iH jb uj uk sH '2' (ag '3' ao)))
   (aA (bu 3 nd (aN (cr cP '0' '3' (λ_ _=>rfl)) rfl)))))
   (aA (aT '2'))))),?_]
 apply#[eX _,λD hD=>?_];let#[a,ea,hb]:=h3 i hi;let#[dx,lb,la,i1,i2,i3]:=hb.ex;have s0:am H (L2.upd H D (.lst [])):=am.new hD;apply .inl #[l,_,_,_,rfl,rfl,az.of (s0 _ _ h1),cG (cy ea),?_];have i1':=s0 _ _ i1
 simp! only[i1',zK,T.b8,T.qd]
 apply#[λm σ H'=>∃(pre:List Nat)(x:Option Nat),σ=[some (.ref l),some (.int (i:Nat)),some (.ref D),some (.int (pz x))]/\am H H'/\dY H' D pre/\g0 p i=pre++(match x with|none=>[]|some j=>j::g0 p j)/\(∀j,x=some j->j<p.length)/\m=(match x with|none=>0|some j=>j+1),#[_,[],par p i,rfl,s0,aH,by rw[M_ Pg hi];rfl,λj hj=>by have:=jR hj;omega,rfl],?_];rintro m σ H1 ⟨pre,x,rfl,s1,dA,Dy,hx,rfl⟩
 simp! only[]
 cases x with
 |none=>
  rw[show decide (pz none= -1)=true by decide];simp![f7,bT,bI];rw[eJ]at Dy;rw[<-Dy]at dA;show q D H1 s1 hD dA
 |some j=>
  have hj:=hx j rfl;have hne:decide (pz (some j)= -1)=false:=by
   rw[o_];simp![pz];omega
  rw[hne];simp![ic,bz];let#[a2,HS,hb2]:=h3 j hj;let#[lL,xQ,afZ,j1,j2,j3]:=hb2.ex;have lp:pre.length<=6:=by
   have:=C4 Pg hi;rw[Dy,dG]at this;omega
  apply#[λσ' H'=>σ'=[some (.ref l),some (.int (i:Nat)),some (.ref D),some (.int (pz (par p j)))]/\am H H'/\dY H' D (pre++[j]),?_,?_];rintro σ' H' ⟨rfl,s2,cg⟩;apply#[_,?_,pre++[j],par p j,rfl,s2,cg,?_,λk hk=>by have:=jR hk;omega,rfl];cases e:par p j with
  |none=>show Me _
  |some k=>have:=jR e;show k+1<j+1;omega
  rw[Dy];simp only;rw[M_ Pg hj,pZ];rfl;apply#[.inl #[rfl,_,az.of dA],D,_,_,rfl,rfl,dA,by rw[aD];show bX (),?_];have s2:am H (L2.upd H1 D (.lst ((pre.map λn=>V.int (n:Nat))++[.int (pz (some j))]))):=λb o e=>by rw[aG (bf e hD)];show s1 _ _ e
  apply .inl #[l,_,_,_,rfl,rfl,az.of (s2 _ _ h1),cG (cy HS),be.mk (s2 _ _ j1) T.b8 T.qd (zK _ _ _) #[rfl,s2,?_]];unfold dY;rw[aH,cB];rfl
def vF(d lb lh lo:aa)(here:Int):List (Str×V):=[("rules",.ref d),("boxes",.ref lb),("hidden",.ref lh),("on",.ref lo),("here",.int here)]
def UU(d lb lh lo:aa)(z:Int):(vF d lb lh lo z).lookup ("rules":Str)=some (V.ref d):=rfl
def cU(d lb lh lo:aa)(z:Int):(vF d lb lh lo z).lookup ("boxes":Str)=some (V.ref lb):=rfl
def Fh(d lb lh lo:aa)(z:Int):(vF d lb lh lo z).lookup ("hidden":Str)=some (V.ref lh):=rfl
def Fi(d lb lh lo:aa)(z:Int):(vF d lb lh lo z).lookup ("on":Str)=some (V.ref lo):=rfl
def Fg(d lb lh lo:aa)(z:Int):(vF d lb lh lo z).lookup ("here":Str)=some (V.int z):=rfl
def pG(k:jE):bB:=gK (S (kT k))
def kvsOf(as:List aa):List (bB×V):=(Vaacca.KINDS.zip as).map λz=>(pG z.1,V.ref z.2)
def vh(rs:cD)(i:Nat):Vaacca.Rule:=rs.getD i (Vaacca.plainRule "page")
structure gf (A:aO)(H:Hp)(d:aa)(rs:cD):Prop where
 ex:∃as:List aa,H d=some (.dK (kvsOf as))/\as.length=19/\∀i,i<19->∃a,as[i]? =some a/\jd A H a (gA (vh rs i))
def gf.same{H H':Hp}{d:aa}{rs:cD}(h:gf A H d rs)(s:am H H'):gf A H' d rs:=
 let ⟨as,h1,h2,h3⟩:=h.ex
 #[as,s _ _ h1,h2,λi hi=>let ⟨a,e,b⟩:=h3 i hi;#[a,e,b.same s]]
def QR{a b:jE}(h:pG a=pG b):a=b:=QS (wt (W2 h))
theorem UW(k:jE):∀(ks:List jE)(as:List aa),k∈ks->gB ((ks.zip as).map λz=>(pG z.1,V.ref z.2)) (pG k)=(as[ks.idxOf k]?).map V.ref
 |[],_,h=>by cases h
 |x::ks,[],_=>by simp[gB]
 |x::ks,a::as,h=>by
  rw[we,ba];by_cases e:x=k
  subst e;rw[Fj rfl,List.idxOf_cons_self];rfl;have hk:k∈ks:=by
   rcases iM.mp h with z|z
   show absurd z.symm e;show z
  rw[vE (λz=>e (QR z)),UW k ks as hk,Ch,Dc e];rfl
def QA(k:jE):Vaacca.KINDS.idxOf k<19:=by cases k<;>decide
def gf.at{H:Hp}{d:aa}{rs:cD}(h:gf A H d rs)(k:jE):∃a,oA H d (.str (S (kT k))) (some (.ref a))/\jd A H a (gA (CJ rs k)):=by
 let#[as,h1,h2,h3]:=h.ex;let#[a,ea,hr]:=h3 _ (QA k);apply#[a,?_,hr];have e:gB (kvsOf as) (pG k)=some (.ref a):=by
  unfold kvsOf;rw[UW k _ as (sG k),ea];rfl
 rw[<-e];show oA.k (k:=pG k) h1
def dC(l:List Bool):List V:=l.map V.bl
structure nh (m:MS):Prop where
 pg:PG m.p
 ar:kg m.rs=true
 cj:m.cj.length=m.p.length
 on:m.on.length=m.p.length
 here:m.here<m.p.length
def less(H:Hp)(vt lo:aa):Hp:=λb=>if b=vt\/b=lo then none else H b
def fG{H:Hp}{vt lo:aa}:am (less H vt lo) H:=λb o e=>by
 unfold less at e;split at e;cases e;show e
def e8{H:Hp}{vt lo b:aa}{o:HO}(e:H b=some o)(h1:b≠vt)(h2:b≠lo):less H vt lo b=some o:=by
 unfold less;rw[ay (by rintro(z|z);show h1 z;show h2 z)];show e
def f8(vt lo:aa)(H H':Hp):Prop:=∀b o,H b=some o->b≠vt->b≠lo->H' b=some o
def f8.of_same{vt lo:aa}{H H':Hp}(s:am H H'):f8 vt lo H H':=λb o e _ _=>s b o e
def f8.trans{vt lo:aa}{H H1 H2:Hp}(a:f8 vt lo H H1)(b:f8 vt lo H1 H2):f8 vt lo H H2:=λc o e n1 n2=>b c o (a c o e n1 n2) n1 n2
def f8.less{vt lo:aa}{H H':Hp}(k:f8 vt lo H H'):am (less H vt lo) (less H' vt lo):=λb o e=>by
 have hn:¬(b=vt\/b=lo):=λz=>by unfold Pm.less at e;rw[aq z]at e;cases e
 have e':=fG b o e;show e8 (k b o e' (λz=>hn (.inl z)) (λz=>hn (.inr z))) (λz=>hn (.inl z)) λz=>hn (.inr z)
structure br (A:aO)(H:Hp)(vt lo:aa)(m:MS):Prop where
 ok:nh m
 own:∃dx d lb lh,H vt=some (.ins A.d_ dx (vF d lb lh lo (m.here:Nat)))/\H lo=some (.lst (dC m.on))/\fB A (less H vt lo) lb m.p/\gf A (less H vt lo) d m.rs/\less H vt lo lh=some (.lst (dC m.cj))
def br.ex{H:Hp}{vt lo:aa}{m:MS}(h:br A H vt lo m):∃dx d lb lh,H vt=some (.ins A.d_ dx (vF d lb lh lo (m.here:Nat)))/\fB A H lb m.p/\gf A H d m.rs/\H lh=some (.lst (dC m.cj))/\H lo=some (.lst (dC m.on)):=
 let ⟨dx,d,lb,lh,h1,h2,h3,h4,h5⟩:=h.own
 #[dx,d,lb,lh,h1,h3.same fG,h4.same fG,fG _ _ h5,h2]
def br.same{H H':Hp}{vt lo:aa}{m:MS}(h:br A H vt lo m)(s:am H H'):br A H' vt lo m:=
 let ⟨dx,d,lb,lh,h1,h2,h3,h4,h5⟩:=h.own
 have k:=(f8.of_same (vt:=vt) (lo:=lo) s).less
 #[h.ok,dx,d,lb,lh,s _ _ h1,s _ _ h2,h3.same k,h4.same k,k _ _ h5]
def zM{l:List Bool}{i:Nat}(h:i<l.length):(dC l)[i]? =some (.bl (hb l i)):=by
 unfold dC hb;rw[cx,cZ,ca h];rfl
def akP(A:aO):Sp:=λvs H Q _=>X4 λ(vt lo:aa) (m:MS) (i:Nat)=>N4 (vs=[.ref vt,.int (i:Nat)]) (br A H vt lo m) (i<m.p.length) (∀a,jd A H a (gA (e_ m i))->Q (.ref a) H)
def uE:aV P w K mg base "rule_of" 1 ["visit","place"] (akP A):=by
 apply bd T.acq ["visit","place"] ?_;rintro f _ _ _ s H _ Q E hr nd ⟨vt,lo,m,i,rfl,hv,hi,q⟩;let#[dx,d,lb,lh,h1,h2,h3,h4,h5]:=hv.ex;let#[as,g1,g2,g3]:=h2.ex;let#[a,ea,hb]:=g3 i hi;let#[eO,dF,dE,i1,i2,i3]:=hb.ex;let#[r,aeR,hr2]:=h3.at (kI m i);apply#[_,(aA (aT (aik (AT hr) (aN '0' rfl) (aN (cr cP (aN '0' rfl) '1' (λ_ _=>rfl)) rfl) (λ_ _=>rfl)))),?_]
 simp! only[h1,T.bM,T.CW,T.cR,UU,cU,Up]
 apply .inl #[lb,_,_,_,rfl,rfl,az.of g1,cG (cy ea),?_]
 simp! only[i1,T.b8,T.ik,kn]
 show#[_,aeR,q r hr2]
def akS(A:aO):Sp:=λvs H Q _=>X4 λ(vt lo:aa) (m:MS) (i:Nat)=>N3 (vs=[.ref vt,.int (i:Nat)]) (br A H vt lo m) (∀D H',am H H'->H D=none->dY H' D (fb m i)->Q (.ref D) H')
def HW{l:List Nat}{f:V->Bool}{g:Nat->Bool}(h:∀n∈l,f (.int (n:Nat))=g n){h':V->V}{k:Nat->V}(hk:∀n∈l,h' (.int (n:Nat))=k n):((l.map λn=>V.int (n:Nat)).filter f).map h'=(l.filter g).map k:=by
 rw[gG,bh];have e:l.filter (f∘λn=>V.int (n:Nat))=l.filter g:=ie λn hn=>h n hn;rw[e];show fg λn hn=>hk n (Gd.mp hn).1
def aic{p:aX}{i:Nat}:(pN p i).length<=p.length:=by
 unfold pN;apply cp (jw _ _) ?_;rw[ln];show bj _
def HL:aV P w K mg base "shown_own_places" 2 ["visit","place"] (akS A):=by
 apply bd T.acv ["visit","place","inner"] ?_;rintro f _ _ _ s H _ Q E hr nd ⟨vt,lo,m,i,rfl,hv,q⟩;let#[dx,d,lb,lh,h1,h2,h3,h4,h5]:=hv.ex;have hle:=(g8 hv.ok.pg).2.1;apply#[_,(aA (aT (fX eM rfl rfl nd (eF (aJ (aab T) hr (ag (aN '0' rfl) (ag '1' ao)))) (eN (own:=[("inner",2)]) rfl) (λ_ _ _ _ _ _=>(cC 2 nd)) (λ_ _ _ _ _ _=>by show(kS (gx (yl (K:=K) rfl (cr (xL (K:=K) rfl) (iZ (K:=K) rfl '0' rfl) '2' (λ_ _=>rfl)) (λ_=>rfl))))) (λ_ _ _ _ _ _ _=>by show(pv 2))))),?_];apply be.mk h1 T.bM T.cR (cU _ _ _ _ _) #[lb,m.p,i,rfl,h2,hle,λL H1 s1 hL jj=>#[L,rfl,#[_,az.of jj],λD hD=>?_]];have hl:=aic (p:=m.p) (i:=i);apply qJ (Q:=λD H'=>H D=none->Q (.ref D) H') (f:=λx=>match x with| .int z=>!hb m.cj z.toNat|_=>false) (h:=id) (az.of jj) (by rw[aD];show bX ()) (λx hx=>?_) (λx hx _=>?_) (λD' H' s' pi hf=>?_) D hD |>.imp λW hW=>#[hW.1,λn m' H' hw=>(hW.2 n m' H' hw).imp (λz=>#[z.1,z.2 (s1.free hD)]) id];let#[n,hn,rfl]:=Ge.mp hx;have hn:n<m.p.length:=Gg.mp (Gd.mp hn).1;intro H2 Q2 s2 k2;have s12:=s1.trans s2;apply be.mk (s12 _ _ h1) T.bM T.wR (Fh _ _ _ _ _) (.inl #[lh,_,_,_,rfl,rfl,az.of (s12 _ _ h4),cG (zM (by rw[hv.ok.cj];show hn)),_,rfl,?_]);show k2 H2 (am.refl _);intro H2 Q2 s2 k2;show k2 H2 (am.refl _);apply q D' H' (s1.trans s') hf ?_;unfold dY fb;rw[pi];congr 2;show HW (λn _=>rfl) λn _=>rfl
def ako(A:aO):Sp:=λvs H Q _=>X5 λ(lh lb:aa) (p:aX) (cj:List Bool) (i:Nat)=>N7 (vs=[.ref lh,.ref lb,.int (i:Nat)]) (H lh=some (.lst (dC cj))) (fB A H lb p) (PG p) (cj.length=p.length) (i<p.length) (∀H',am H H'->Q (.bl (yG p cj i)) H')
def Od:aV P w K mg base "is_visible_with" 2 ["hidden","boxes","place"] (ako A):=by
 apply bd T.abU ["hidden","boxes","place","outer"] ?_;rintro f _ _ outer s H _ Q E hr nd ⟨lh,lb,p,cj,i,rfl,h4,h2,Pg,hlen,hi,q⟩;apply#[_,(aA (aT (Bt (dg (Hz rfl) rfl T.G9 L2.boot_any (ag (fX eM rfl rfl nd (eF (eD fV (eS (ag '2' ao)) (aJ (Dp T) hr (ag '1' (ag '2' ao))))) (eN (own:=[("outer",3)]) rfl) (λ_ _ _ _ _ _=>(cC 3 nd)) (λ_ _ _ _ _ _=>by show i6) (λ_ _ _ _ _ _ _=>by show(cr (xL (K:=K) rfl) '0' '3' (λ_ _=>rfl)))) ao))))),?_];apply#[(by show 1<=sizeLine;decide),λL0 Iy=>?_];have s0:am H (L2.upd H L0 (.lst [.int (i:Nat)])):=am.new Iy;apply#[lb,p,i,rfl,h2.same s0,Pg,hi,λL1 H1 s1 pk jj=>?_];have hal:=C4 Pg hi;have s01:=s0.trans s1;apply .inr (.inr #[L0,L1,_,_,rfl,rfl,s1 _ _ aH,jj,by rw[aD];show bX (by simp;omega),λVF hL2=>#[VF,rfl,#[_,az.of aH],?_]]);have s2:=s01.trans (am.new (o:=.lst ([V.int (i:Nat)]++(g0 p i).map λn=>V.int (n:Nat))) hL2);have hlt:∀j∈i::g0 p i,j<p.length:=λj hj=>by
  rcases iM.mp hj with z|z
  omega;have:=wS z;omega
 apply qJ (xs:=(i::g0 p i).map λn=>V.int (n:Nat)) (f:=λ_=>true) (h:=λx=>match x with| .int z=>.bl (hb cj z.toNat)|_=>.bn) (az.of aH) (by rw[aD];show bX (by simp;omega)) (λ_ _=>pW) (λx hx _=>?_) λD' H' s' pi=>?_;let#[n,hn,rfl]:=Ge.mp hx;intro H2 Q2 s3 k2;show .inl #[lh,_,_,_,rfl,rfl,az.of (s3 _ _ (s2 _ _ h4)),cG (zM (by rw[hlen];show hlt n hn)),k2 H2 (am.refl _)];apply#[D',(i::g0 p i).map (hb cj),rfl,az.of ?_,?_];rw[pi,List.filter_eq_self.mpr (λ_ _=>rfl),bh,bh];rfl;have:=q H' (s2.trans s');unfold yG at this;simpa[yU,vU,oa]using this
def akn(A:aO):Sp:=λvs H Q _=>X4 λ(vt lo:aa) (m:MS) (i:Nat)=>N4 (vs=[.ref vt,.int (i:Nat)]) (br A H vt lo m) (i<m.p.length) (∀H',am H H'->Q (.bl (l0 m i)) H')
def HH:aV P w K mg base "is_visible" 3 ["visit","place"] (akn A):=by
 apply bd T.abT ["visit","place"] ?_;rintro f _ _ _ s H _ Q E hr nd ⟨vt,lo,m,i,rfl,hv,hi,q⟩;let#[dx,d,lb,lh,h1,h2,h3,h4,h5]:=hv.ex;apply#[_,(aA (aT (aJ (Od T) hr (ag (aN '0' rfl) (ag (aN '0' rfl) (ag '1' ao)))))),?_]
 simp! only[h1,T.bM,T.wR,T.cR,Fh,cU]
 show#[lh,lb,m.p,m.cj,i,rfl,h4,h2,hv.ok.pg,hv.ok.cj,hi,q]
def Bf(m:MS)(n:Nat):Option Nat:=((bv n).filter λi=>decide (kI m i=.modal)&&l0 m i).getLast?
def agZ(m:MS)(n:Nat):Bf m (n+1)=if (decide (kI m n=.modal)&&l0 m n)=true then some n else Bf m n:=by
 unfold Bf;rw[wc,oH];by_cases h:(decide (kI m n=.modal)&&l0 m n)=true
 rw[aq h,gd,aq h];simp;rw[ay h,gd,ay h];simp
def agY(m:MS):Bf m m.p.length=iE m:=rfl
def aku(A:aO):Sp:=λvs H Q _=>X3 λ(vt lo:aa) (m:MS)=>N3 (vs=[.ref vt]) (br A H vt lo m) (∀H',am H H'->Q (.int (pz (iE m))) H')
def xN(k:jE){s:String}{k':jE}(h:cs s=kT k'):decide (S (kT k)=bN s)=decide (k=k'):=by
 rw[ga,h,cw,bw,bw,mj,A3]
def HI:aV P w K mg base "modal_place" 4 ["visit"] (aku A):=by
 apply bd T.ab1 ["visit","modal","place","box"] ?_;rintro f _ _ _ s H _ Q E hr nd ⟨vt,lo,m,rfl,hv,q⟩;let#[dx,d,lb,lh,h1,h2,h3,h4,h5]:=hv.ex;let#[as,g1,g2,g3]:=h2.ex;apply#[_,(aC (bu 1 nd (cq T.mi rfl))
   (aC (kR gw rfl (EF rfl T.Db (ag (aN '0' rfl) ao)) (yh rfl (kP (cC 2 nd) (kP (cC 3 nd) vc))) (aA (bY (PW.pt (Bw (bQ fu (aN '3' rfl) bG (bO _)) (Bx (dq (aJ (HH T) hr (ag '0' (ag '2' ao))) (λ_=>rfl))))) (aA (bu 1 nd '2')) bZ)))
   (aA (aT '1')))),?_]
 apply be.mk h1 T.bM T.cR (cU _ _ _ _ _) #[lb,_,rfl,az.of g1,Ii (xs:=as.map V.ref) (λi σ H'=>(∃u v,σ=[some (.ref vt),some (.int (pz (Bf m i))),u,v])/\am H H') #[#[_,_,rfl],am.refl _] (λi σ H' _ ⟨_,s1⟩=>az.of (s1 _ _ g1)) ?_ ?_];rintro i y σ H' hy ⟨⟨u,v,rfl⟩,s1⟩ T' hT;have hi:i<m.p.length:=by
  have:=(List.getElem?_eq_some_iff.mp hy).1;rw[aD]at this;omega
 let#[a,ea,hb]:=g3 i hi;rw[cy ea]at hy;cases hy;let#[eY,dF,dE,i1,i2,i3]:=hb.ex;have s2:am H (L2.upd H' T' (.tup [.int (i:Nat),.ref a])):=s1.trans (am.new hT);apply#[T',_,rfl,bL.of aH,rfl,_,_,rfl,_,_,rfl,rfl,?_];have i1':=s2 _ _ i1;have ek:decide (S (mb m.p i).kind=bN "modal")=decide (kI m i=.modal):=xN (kI m i) (k':=.modal) ()
 simp! only[i1',kn,T.b8,T.ik,ek]
 have hm:=agZ m i;cases hk:decide (kI m i=.modal)with
 |false=>
  rw[hk]at hm;simp![ow,bT,bI]at hm⊢;rw[hm];show#[rfl,s2]
 |true=>
  rw[hk]at hm;simp![gp,bz]at hm⊢;apply#[vt,lo,m,i,rfl,hv.same s2,hi,λH3 s3=>?_]
  simp! only[]
  by_cases pB:l0 m i=true
  rw[aq pB]at hm⊢;rw[hm];show#[rfl,s2.trans s3];rw[ay pB]at hm⊢;rw[hm];show#[rfl,s2.trans s3]
 rintro σ H' ⟨⟨u,v,rfl⟩,s1⟩;rw[aD,g2,agY];show q H' s1
def akp(A:aO):Sp:=λvs H Q _=>X4 λ(vt lo:aa) (m:MS) (i:Nat)=>N4 (vs=[.ref vt,.int (i:Nat)]) (br A H vt lo m) (i<m.p.length) (∀H',am H H'->Q (.bl (yo m i)) H')
theorem A2(n:Nat):∀l:List Nat,pE (.int (n:Nat)) (l.map λk=>V.int (k:Nat))=l.contains n
 |[]=>rfl
 |a::l=>by
  have ih:=A2 n l;unfold pE at ih⊢;rw[ba,oG,ih,Cf];congr 1;show((a:Int)==(n:Int))=(n==a);rw[cw,gO,gO];omega
def xi(l:List Nat):(l.map λk=>V.int (k:Nat)).all g9=true:=by
 rw[lj];show eW.mpr λ_ _=>rfl
def Oe:aV P w K mg base "is_within_reach" 5 ["visit","place"] (akp A):=by
 apply bd T.abV ["visit","place","modal"] ?_;rintro f _ _ _ s H _ Q E hr nd ⟨vt,lo,m,i,rfl,hv,hi,q⟩;let#[dx,d,lb,lh,h1,h2,h3,h4,h5]:=hv.ex;let#[as,g1,g2,g3]:=h2.ex;let#[a,ea,hb]:=g3 i hi;let#[eY,dF,dE,i1,i2,i3]:=hb.ex;apply#[_,(aC (bY (PW.pt (jm (dq (aN (cr cP (aN '0' rfl) '1' (λ_ _=>rfl)) rfl) (λ_=>rfl)) (oj (gx (dq (aJ (HH T) hr (ag '0' (ag '1' ao))) (λ_=>rfl)))))) (aA (aT qU)) bZ)
   (aC (bu 2 nd (aJ (HI T) hr (ag '0' ao)))
   (aA (aT (J3 (iY fu '2' (cq T.mi rfl) (bO _)) (qW (iY sU '2' (aJ (Dp T) hr (ag (aN '0' rfl) (ag '1' ao))) rfl))))))),?_]
 simp! only[h1,T.bM,T.cR,cU]
 apply .inl #[lb,_,_,_,rfl,rfl,az.of g1,cG (cy ea),?_]
 simp! only[i1,T.b8,T.wK,Nh]
 have eo:(mb m.p i).off=(bx m.p i).off:=rfl;rw[eo];unfold yo at q;by_cases ho:(bx m.p i).off=true
 rw[aq ho];rw[ho]at q;show q H (am.refl _);rw[ay ho];have mC:(bx m.p i).off=false:=by simpa using ho
 rw[mC]at q;apply#[vt,lo,m,i,rfl,hv,hi,λH1 s1=>#[_,rfl,?_]];cases pB:l0 m i with
 |false=>
  rw[pB]at q;show q H1 s1
 |true=>
  rw[pB]at q;simp![f7,bT,bI];apply#[vt,lo,m,rfl,hv.same s1,λH2 s2=>?_];have s12:=s1.trans s2;have h1':=s12 _ _ h1
  simp! only[h1',T.bM,T.cR,cU]
  unfold Fn at q;cases e:iE m with
  |none=>
   rw[e]at q;rw[show decide (pz none= -1)=true by decide,aq rfl];show q H2 s12
  |some k=>
   rw[e]at q;have hne:decide (pz (some k)= -1)=false:=by
    rw[o_];simp![pz];omega
   rw[hne,ay dh];apply#[lb,m.p,i,rfl,h2.same s12,hv.ok.pg,hi,λL H3 s3 hL hl=>?_];apply#[L,_,rfl,.inl (az.of hl),rfl,xi _,?_];rw[show pz (some k)=((k:Nat):Int) from rfl,A2];show q H3 (s12.trans s3)
end
end Pm
namespace L2
open PySem PySem.Spec
def boot_str:jf "str"=some (.type "str"):=rfl
def boot_list:jf "list"=some (.type "list"):=rfl
end L2
namespace Pm
open PySem PySem.Spec PyProof.Rows L2 TL
section
variable{P:aZ}{w:aW}{K:aP}{mg:Str->Option af}{base:aL}{A:aO}(T:Txt w K mg A)
def aiN(r:ge)(ls:aa):(rF r ls).lookup ("role":Str)=some (V.str (S r.role)):=rfl
def Sy(r:ge)(ls:aa):(rF r ls).lookup ("focus":Str)=some (V.bl r.focus):=rfl
def SA(r:ge)(ls:aa):(rF r ls).lookup ("whole":Str)=some (V.bl r.whole):=rfl
def Sz(r:ge)(ls:aa):(rF r ls).lookup ("sources":Str)=some (V.ref ls):=rfl
def akk(A:aO):Sp:=λvs H Q _=>X4 λ(vt lo:aa) (m:MS) (i:Nat)=>N4 (vs=[.ref vt,.int (i:Nat)]) (br A H vt lo m) (i<m.p.length) (∀H',am H H'->Q (.bl (rT m i)) H')
def Z6:aV P w K mg base "is_said_by_itself" 4 ["visit","place"] (akk A):=by
 apply bd T.abQ ["visit","place","outer"] ?_;rintro f _ _ outer s H _ Q E hr nd ⟨vt,lo,m,i,rfl,hv,hi,q⟩;let#[dx,d,lb,lh,h1,h2,h3,h4,h5]:=hv.ex;apply#[_,(aC (bY (gx (dq (aJ (HH T) hr (ag '0' (ag '1' ao))) (λ_=>rfl))) (aA (aT qU)) bZ)
   (aA (aT (Bt (dg (Hz rfl) rfl T.G9 L2.boot_any (ag (fX eM rfl rfl nd (eF (aJ (Dp T) hr (ag (aN '0' rfl) (ag '1' ao)))) (eN (own:=[("outer",2)]) rfl) (λ_ _ _ _ _ _=>(cC 2 nd)) (λ_ _ _ _ _ _=>by show i6) (λ_ _ _ _ _ _ _=>by show(iZ (K:=K) rfl (iI (uE T) (hr.mono ()) oh rfl (ag '0' (ag '2' ao))) rfl))) ao)))))),?_]
 apply#[vt,lo,m,i,rfl,hv,hi,λH1 s1=>#[_,rfl,?_]];unfold rT at q;cases pB:l0 m i with
 |false=>
  rw[pB]at q;show q H1 s1
 |true=>
  rw[pB,gp]at q;apply be.mk (s1 _ _ h1) T.bM T.cR (cU _ _ _ _ _) #[lb,m.p,i,rfl,h2.same s1,hv.ok.pg,hi,λL H2 s2 hL hl=>#[L,rfl,#[_,az.of hl],?_]];have s12:=s1.trans s2;have hal:=C4 hv.ok.pg hi;apply qJ (f:=λ_=>true) (h:=λx=>match x with| .int z=>.bl (e_ m z.toNat).whole|_=>.bn) (az.of hl) (by rw[aD];show bX ()) (λ_ _=>pW) (λx hx _=>?_) λD H' s' hD=>?_;let#[n,hn,rfl]:=Ge.mp hx;have hn:n<m.p.length:=by have:=wS hn;omega
  intro H3 Q3 s3 k3;apply#[vt,lo,m,n,rfl,hv.same (s12.trans s3),hn,λr jL=>?_];let#[dr,ls,r1,r2]:=jL.ex;show be.mk r1 T.qG T.G3 (SA _ _) (k3 H3 (am.refl _));apply#[D,(g0 m.p i).map λj=>(e_ m j).whole,rfl,az.of ?_,?_];rw[hD,List.filter_eq_self.mpr (λ_ _=>rfl),bh,bh];rfl;have:=q H' (s12.trans s');simp![Ew,oa,sP,Ev];simpa[yU,vU]using this
def akh(A:aO):Sp:=λvs H Q _=>X4 λ(vt lo:aa) (m:MS) (i:Nat)=>N4 (vs=[.ref vt,.int (i:Nat)]) (br A H vt lo m) (i<m.p.length) (∀H',am H H'->Q (.bl (nQ m i)) H')
def N_:aV P w K mg base "is_heard" 5 ["visit","place"] (akh A):=by
 apply bd T.abN ["visit","place","modal"] ?_;rintro f _ _ _ s H _ Q E hr nd ⟨vt,lo,m,i,rfl,hv,hi,q⟩;let#[dx,d,lb,lh,h1,h2,h3,h4,h5]:=hv.ex;apply#[_,(aC (bY (gx (dq (aJ (Z6 T) hr (ag '0' (ag '1' ao))) (λ_=>rfl))) (aA (aT qU)) bZ)
   (aC (bu 2 nd (aJ (HI T) hr (ag '0' ao)))
   (aA (aT (J3 (iY fu '2' (cq T.mi rfl) (bO _)) (qW (iY sU '2' (eD fV (eS (ag '1' ao)) (aJ (Dp T) hr (ag (aN '0' rfl) (ag '1' ao)))) rfl))))))),?_]
 apply#[vt,lo,m,i,rfl,hv,hi,λH1 s1=>#[_,rfl,?_]];unfold nQ at q;cases hal:rT m i with
 |false=>
  rw[hal]at q;show q H1 s1
 |true=>
  rw[hal,gp]at q;apply#[vt,lo,m,rfl,hv.same s1,λH2 s2=>?_];have s12:=s1.trans s2;have h1':=s12 _ _ h1
  simp! only[]
  unfold xZ at q;cases e:iE m with
  |none=>
   rw[e]at q;rw[show decide (pz none= -1)=true by decide,aq rfl];show q H2 s12
  |some k=>
   rw[e]at q;have hne:decide (pz (some k)= -1)=false:=by
    rw[o_];simp![pz];omega
   rw[hne,ay dh];apply#[(by show 1<=sizeLine;decide),λL0 Iy=>?_];have s0:am H (L2.upd H2 L0 (.lst [.int (i:Nat)])):=s12.trans (am.new Iy);have h1'':=s0 _ _ h1
   simp! only[h1'',T.bM,T.cR,cU]
   apply#[lb,m.p,i,rfl,h2.same s0,hv.ok.pg,hi,λL1 H3 s3 pk jj=>?_];have hal:=C4 hv.ok.pg hi;have s03:=s0.trans s3;apply#[L1,rfl,_,s3 _ _ aH,_,jj,by rw[aD];show bX (by simp;omega),λL4 adt=>?_];apply#[L4,(i::g0 m.p i).map λn=>V.int (n:Nat),rfl,.inl (az.of aH),rfl,xi _,?_];rw[show pz (some k)=((k:Nat):Int) from rfl,A2];show q _ (s03.trans (am.new adt))
def akj(A:aO):Sp:=λvs H Q _=>X5 λ(vt lo:aa) (m:MS) (i c:Nat)=>N5 (vs=[.ref vt,.int (i:Nat),.int (c:Nat)]) (br A H vt lo m) (i<m.p.length) (c<7) (Q (.bl (oX m c i)) H)
def FR:List (Nat×List W):=[(1,[cs "h1",cs "h2",cs "h3"]),(3,[cs "link"]),(4,[cs "field",cs "check"]),(5,[cs "table"]),(6,[cs "list"])]
def Zp(c:Nat)(l:List W)(h:(c,l)∈FR)(k:jE):l.contains (kT k)=Hy c k:=by
 have:∀z∈FR,∀k∈lD,z.2.contains (kT k)=Hy z.1 k:=by decide+kernel
 show this (c,l) h k (sG k)
def Ob:aV P w K mg base "is_of_class" 2 ["visit","place","number"] (akj A):=by
 apply bd T.abP ["visit","place","number"] ?_;rintro f _ _ _ s H _ Q E hr nd ⟨vt,lo,m,i,c,rfl,hv,hi,hc,q⟩;let#[dx,d,lb,lh,h1,h2,h3,h4,h5]:=hv.ex;let#[as,g1,g2,g3]:=h2.ex;let#[a,ea,hb]:=g3 i hi;let#[eO,dF,dE,i1,i2,i3]:=hb.ex;apply#[_,(aC (bY (bQ fu '2' (cq T.Lh rfl) (bO _)) (aA (aT qU)) bZ)
   (aC (bY (bQ fu '2' (cq T.Vw rfl) (bO _)) (aA (aT (aN (aJ (uE T) hr (ag '0' (ag '1' ao))) rfl))) bZ)
   (aA (aT (iY sU (aN (cr cP (aN '0' rfl) '1' (λ_ _=>rfl)) rfl) (EB T.NR (cq T.yK rfl) '2' (λ_ _=>rfl)) rfl))))),?_]
 simp! only[h1,T.bM,T.cR,cU]
 unfold oX at q;by_cases nO:c=0
 rw[aq nO]at q;rw[aq (by rw[bw,nO];rfl)];show q;rw[ay nO]at q;rw[ay (by rw[bw];omega)];by_cases II:c=2
 rw[aq II]at q;rw[aq (by rw[bw,II];rfl)];apply#[vt,lo,m,i,rfl,hv,hi,λr jL=>?_];let#[dr,ls,r1,r2]:=jL.ex;show be.mk r1 T.qG T.CV (Sy _ _) q;rw[ay II]at q;rw[ay (by rw[bw];omega)];apply .inl #[lb,_,_,_,rfl,rfl,az.of g1,cG (cy ea),?_];have key:∀(l:List W)(ad:aa),(c,l)∈FR->(∀H:Hp,bL K H ad (l.map λu=>V.str (S u)))->ym K false (.str (S (kT (kI m i)))) (.ref ad) H Q:=λl ad hl ht=>
  nV (ht H) (by rw[Zp c l hl];show q)
 simp! only[i1,T.b8,T.ik,kn,KH]
 have IM:c=1\/c=3\/c=4\/c=5\/c=6:=by omega
 obtain rfl|rfl|rfl|rfl|rfl:=IM
 show#[bU 1,rfl,_,rfl,key [cs "h1",cs "h2",cs "h3"] _ () T.Ut];show#[bU 3,rfl,_,rfl,key [cs "link"] _ () T.alX];show#[bU 4,rfl,_,rfl,key [cs "field",cs "check"] _ () T.alY];show#[bU 5,rfl,_,rfl,key [cs "table"] _ () T.alZ];show#[bU 6,rfl,_,rfl,key [cs "list"] _ () T.al0]
def aiS(n:Nat):((bv n).map λ(k:Nat)=>V.int ((0:Int)+(k:Nat)))=(bv n).map λk=>V.int (k:Nat):=fg λk _=>by rw[Int.zero_add]
def pI{tt:TT}{te:TE}{σ:L2.St}{H1:Hp}{Q:aa->Hp->Prop}{ns:List Nat}{g:Nat->Bool}{h:Nat->V}{a:aa}{i:Nat}(hS:dY H1 a ns)(hz:ns.length<=100000)(ht:∀n∈ns,jD tt ((bD σ [i]).set i (some (.int (n:Nat)))) H1 (g n))(he:∀n∈ns,g n=true->jD te ((bD σ [i]).set i (some (.int (n:Nat)))) H1 (h n))(q:∀D H',am H1 H'->H1 D=none->H' D=some (.lst ((ns.filter g).map h))->Q D H'):
  ∀D,H1 D=none->∃W:Nat->Nat->Hp->Prop,(∃m,W 0 m (L2.upd H1 D (.lst [])))/\∀n m H,W n m H->
   ((gE K a).stop n H/\Q D H)\/((gE K a).go n H/\∃Nx:Hp->Prop,(∀H',Nx H'->∃m',m'<m/\W (n+1) m' H')/\∀x H',(gE K a).ib n H x H'->iU i x (bD σ [i]) H' λσ2 H2=>bD σ2 [i]=bD σ [i]/\tt σ2 H2 λb H3=>
    if b=true then te σ2 H3 λy H4=>∃acc,H4 D=some (.lst acc)/\acc.length<sizeLine/\Nx (L2.upd H4 D (.lst (acc++[y])))else Nx H3):=λD hD=>
 (qJ (Q:=λD' H'=>H1 D'=none->Q D' H') (f:=λx=>match x with| .int z=>g z.toNat|_=>false) (h:=λx=>match x with| .int z=>h z.toNat|_=>.bn) (az.of hS) (by rw[aD];show bX hz)
  (λx hx=>by let#[n,hn,rfl]:=Ge.mp hx;show ht n hn) (λx hx hf=>by let#[n,hn,rfl]:=Ge.mp hx;show he n hn hf)
  (λD' H' s' pi hf=>q D' H' s' hf (by rw[pi];congr 2;show HW (λ_ _=>rfl) λ_ _=>rfl)) D hD).imp λW hW=>#[hW.1,λn m H' hw=>(hW.2 n m H' hw).imp (λz=>#[z.1,z.2 hD]) id]
def Eh{tt:TT}{te:TE}{σ:L2.St}{H1:Hp}{Q:aa->Hp->Prop}{k:Nat}{g:Nat->Bool}{h:Nat->V}{i:Nat}(hz:k<=100000)(ht:∀n,n<k->jD tt ((bD σ [i]).set i (some (.int (n:Nat)))) H1 (g n))(he:∀n,n<k->g n=true->jD te ((bD σ [i]).set i (some (.int (n:Nat)))) H1 (h n))(q:∀D H',am H1 H'->H1 D=none->H' D=some (.lst (((bv k).filter g).map h))->Q D H'):
  ∀D,H1 D=none->∃W:Nat->Nat->Hp->Prop,(∃m,W 0 m (L2.upd H1 D (.lst [])))/\∀n m H,W n m H->
   ((i' 0 k).stop n H/\Q D H)\/((i' 0 k).go n H/\∃Nx:Hp->Prop,(∀H',Nx H'->∃m',m'<m/\W (n+1) m' H')/\∀x H',(i' 0 k).ib n H x H'->iU i x (bD σ [i]) H' λσ2 H2=>bD σ2 [i]=bD σ [i]/\tt σ2 H2 λb H3=>
    if b=true then te σ2 H3 λy H4=>∃acc,H4 D=some (.lst acc)/\acc.length<sizeLine/\Nx (L2.upd H4 D (.lst (acc++[y])))else Nx H3):=λD hD=>
 (af7 (lo:=0) (n:=k) (i:=i) (Q:=λD' H'=>H1 D'=none->Q D' H') (f:=λx=>match x with| .int z=>g z.toNat|_=>false) (h:=λx=>match x with| .int z=>h z.toNat|_=>.bn) (bX hz)
  (λn hn=>by have:=ht n hn;simpa using this) (λn hn hf=>by have:=he n hn (by simpa using hf);simpa using this)
  (λD' H' s' pi hf=>q D' H' s' hf (by rw[pi,aiS];congr 2;show HW (λ_ _=>rfl) λ_ _=>rfl)) D hD).imp λW hW=>#[hW.1,λn m H' hw=>(hW.2 n m H' hw).imp (λz=>#[z.1,z.2 hD]) id]
def akg(A:aO):Sp:=λvs H Q _=>X4 λ(vt lo:aa) (m:MS) (c:Nat)=>N4 (vs=[.ref vt,.int (c:Nat)]) (br A H vt lo m) (c<7) (∀D H',am H H'->H D=none->dY H' D (dj m c)->Q (.ref D) H')
def fB.len{H:Hp}{l:aa}{p:aX}(h:fB A H l p):∃xs:List V,H l=some (.lst xs)/\xs.length=p.length:=by
 let#[as,h1,h2,_]:=h.ex;show#[_,h1,by rw[aD,h2]]
def z8:aV P w K mg base "heard_places" 6 ["visit","number"] (akg A):=by
 apply bd T.abJ ["visit","number","places","place"] ?_;rintro f _ _ _ s H _ Q E hr nd ⟨vt,lo,m,c,rfl,hv,hc,q⟩;let#[dx,d,lb,lh,h1,h2,h3,h4,h5]:=hv.ex;let#[xs,x1,x2]:=h2.len;have hle:=(g8 hv.ok.pg).2.1;apply#[_,(aC (yk (i:=2) eM rfl rfl nd rfl rfl (yz rfl rfl rfl rfl) (EG rfl T.zL (ag (dg dW rfl T.dH L2.boot_len (ag (aN '0' rfl) ao)) ao)) (eN (own:=[("place",3)]) rfl) (λ_ _ _ _ _ _=>(cC 3 nd)) (λ_ _ _ _ _ _=>by show(kS (yl (K:=K) rfl (iI (Ob T) (hr.mono ()) oh rfl (ag '0' (ag '3' (ag '1' ao)))) (λ_=>rfl)))) (λ_ _ _ _ _ _ _=>by show(pv 3)))
   (aA (aT (fX eM rfl rfl nd (eF '2') (eN (own:=[("place",3)]) rfl) (λ_ _ _ _ _ _=>(cC 3 nd)) (λ_ _ _ _ _ _=>by show(kS (yl (K:=K) rfl (iI (N_ T) (hr.mono ()) oh rfl (ag '0' (ag '3' ao))) (λ_=>rfl)))) (λ_ _ _ _ _ _ _=>by show(pv 3)))))),?_]
 apply be.mk h1 T.bM T.cR (cU _ _ _ _ _) #[_,_,rfl,.inl #[_,az.of x1,rfl],_,rfl,?_];apply#[by omega,by omega,?_];rw[oE,x2];apply Eh (σ:=L2.start RE [V.ref vt,V.int (c:Nat)]) (H1:=H) (i:=3) (k:=m.p.length) (g:=oX m c) (h:=λn=>.int (n:Nat)) () (λn hn=>?_) (λn hn _=>?_) λD1 H1 s1 jJ dA=>?_;intro H2 Q2 s2 k2;show#[vt,lo,m,n,c,rfl,hv.same s2,hn,hc,_,rfl,k2 H2 (am.refl _)];intro H2 Q2 s2 k2;show k2 H2 (am.refl _);have l1:((bv m.p.length).filter (oX m c)).length<=16:=cp (jw _ _) (by rw[ln];show hle);apply#[D1,rfl,#[_,az.of dA],?_];apply pI (g:=nQ m) (h:=λn=>.int (n:Nat)) dA () (λn hn=>?_) (λn hn _=>?_) λD2 H2 s2 hf2 cg=>?_;have hn:n<m.p.length:=Gg.mp (Gd.mp hn).1;intro H3 Q3 s3 k3;show#[vt,lo,m,n,rfl,hv.same (s1.trans s3),hn,λH4 s4=>#[_,rfl,k3 H4 s4]];intro H3 Q3 s3 k3;show k3 H3 (am.refl _);show q D2 H2 (s1.trans s2) (s1.free hf2) cg
def akA(A:aO):Sp:=λvs H Q _=>X5 λ(vt lo:aa) (m:MS) (c i:Nat)=>N4 (vs=[.ref vt,.int (c:Nat),.int (i:Nat)]) (br A H vt lo m) (c<7) (∀H',am H H'->Q (.int (pz (sI m c i))) H')
def akK(A:aO):Sp:=λvs H Q _=>X5 λ(vt lo:aa) (m:MS) (c i:Nat)=>N4 (vs=[.ref vt,.int (c:Nat),.int (i:Nat)]) (br A H vt lo m) (c<7) (∀H',am H H'->Q (.int (pz (tD m c i))) H')
def PP(m:MS)(c:Nat):(dj m c).Pairwise (· < ·):=by
 unfold dj;show(List.pairwise_lt_range.sublist t9).sublist t9
def ad1{l:List Nat}(h:l.Pairwise (· < ·)){z:Int}(hz:z∈l.map λn=>((n:Nat):Int))(hm:∀y∈l.map (λn=>((n:Nat):Int)),z<=y):z=pz l.head?:=by
 cases l with
 |nil=>cases hz
 |cons a r=>
  have h1:=hm (a:Int) ();let#[n,hn,rfl]:=Ge.mp hz;rcases iM.mp hn with e|e
  rw[e];rfl;have:=(List.pairwise_cons.mp h).1 n e;omega
def af1{l:List Nat}(h:l.Pairwise (· < ·)){z:Int}(hz:z∈l.map λn=>((n:Nat):Int))(hm:∀y∈l.map (λn=>((n:Nat):Int)),y<=z):z=pz l.getLast?:=by
 by_cases hl:l=[]
 subst hl;cases hz;let#[v,d,rfl]:=EZ hl;have h1:=hm (d:Int) ();let#[n,hn,rfl]:=Ge.mp hz;rw[Ga];rcases wa.mp hn with e|e
 have:=(List.pairwise_append.mp h).2.2 n e d ();omega;rw[List.mem_singleton.mp e];rfl
def PN(m:MS)(c:Nat):(dj m c).length<=m.p.length:=by
 unfold dj;show cp (jw _ _) (cp (jw _ _) (by rw[ln];show bj _))
def Oh:aV P w K mg base "next_place" 7 ["visit","number","place"] (akA A):=by
 apply bd T.ab7 ["visit","number","place","other"] ?_;rintro f _ _ _ s H _ Q E hr nd ⟨vt,lo,m,c,i,rfl,hv,hc,q⟩;have hle:=(g8 hv.ok.pg).2.1;apply#[_,(aA (aT (ais rfl rfl T.YS (fX eM rfl rfl nd (eF (aJ (z8 T) hr (ag '0' (ag '1' ao)))) (eN (own:=[("other",3)]) rfl) (λ_ _ _ _ _ _=>(cC 3 nd)) (λ_ _ _ _ _ _=>by show(kS (bQ sS '3' '2' (bO _)))) (λ_ _ _ _ _ _ _=>by show(pv 3))) (cq T.mi rfl)))),?_];apply#[vt,lo,m,c,rfl,hv,hc,λL H1 s1 jJ hl=>#[L,rfl,#[_,az.of hl],?_]];have l1:=PN m c;apply pI (g:=λj=>decide (i<j)) (h:=λn=>.int (n:Nat)) hl () (λn hn=>?_) (λn hn _=>?_) λD2 H2 s2 hf2 cg=>?_;intro H3 Q3 s3 k3;apply ?_;have:=k3 H3 (am.refl _);rw[show decide (i<n)=decide ((n:Int)>(i:Int)) by rw[cw,bw,bw];omega]at this;show this;intro H3 Q3 s3 k3;show k3 H3 (am.refl _);have sr:=(PP m c).sublist (t9 (p:=λj=>decide (i<j)));apply#[D2,((dj m c).filter λj=>decide (i<j)).map (λn=>((n:Nat):Int)),_,rfl,az.of (by rw[cg,bh];rfl),λe=>?_,λz hz hm=>?_];have:=q H2 (s1.trans s2);unfold sI at this;rw[List.map_eq_nil_iff.mp e]at this;show this;rw[ad1 sr hz hm];show q H2 (s1.trans s2)
def Om:aV P w K mg base "prev_place" 7 ["visit","number","place"] (akK A):=by
 apply bd T.acj ["visit","number","place","other"] ?_;rintro f _ _ _ s H _ Q E hr nd ⟨vt,lo,m,c,i,rfl,hv,hc,q⟩;have hle:=(g8 hv.ok.pg).2.1;apply#[_,(aA (aT (aip rfl rfl T.YR (fX eM rfl rfl nd (eF (aJ (z8 T) hr (ag '0' (ag '1' ao)))) (eN (own:=[("other",3)]) rfl) (λ_ _ _ _ _ _=>(cC 3 nd)) (λ_ _ _ _ _ _=>by show(kS (bQ sV '3' '2' (bO _)))) (λ_ _ _ _ _ _ _=>by show(pv 3))) (cq T.mi rfl)))),?_];apply#[vt,lo,m,c,rfl,hv,hc,λL H1 s1 jJ hl=>#[L,rfl,#[_,az.of hl],?_]];have l1:=PN m c;apply pI (g:=λj=>decide (j<i)) (h:=λn=>.int (n:Nat)) hl () (λn hn=>?_) (λn hn _=>?_) λD2 H2 s2 hf2 cg=>?_;intro H3 Q3 s3 k3;apply ?_;have:=k3 H3 (am.refl _);rw[show decide (n<i)=decide ((n:Int)<(i:Int)) by rw[cw,bw,bw];omega]at this;show this;intro H3 Q3 s3 k3;show k3 H3 (am.refl _);have sr:=(PP m c).sublist (t9 (p:=λj=>decide (j<i)));apply#[D2,((dj m c).filter λj=>decide (j<i)).map (λn=>((n:Nat):Int)),_,rfl,az.of (by rw[cg,bh];rfl),λe=>?_,λz hz hm=>?_];have:=q H2 (s1.trans s2);unfold tD at this;rw[List.map_eq_nil_iff.mp e]at this;show this;rw[af1 sr hz hm];show q H2 (s1.trans s2)
def akd(A:aO):Sp:=λvs H Q _=>X3 λ(a:aa) (p:aX) (i:Nat)=>N4 (vs=[.ref a]) (du A H a (mb p i)) (0<d9 (bx p i).kind) (Q (.int (d9 (bx p i).kind:Nat)) H)
def agh(k:jE)(h:0<d9 k):(bN "h1"=S (kT k)\/bN "h2"=S (kT k)\/bN "h3"=S (kT k))/\
  (if bN "h1"=S (kT k)then(0:Int)else if bN "h2"=S (kT k)then 1 else 2)+1=((d9 k:Nat):Int):=by
 cases k<;>first|show absurd h ()|show#[by decide,by decide]
def NY:aV P w K mg base "heading_level" 1 ["box"] (akd A):=by
 apply bd T.abG ["box"] ?_;rintro f _ _ _ s H _ Q E hr nd ⟨a,p,i,rfl,hb,hl,q⟩;let#[eO,dF,dE,i1,i2,i3]:=hb.ex;let#[e1,e2]:=agh _ hl;apply#[_,(aA (aT (eD fV (iH PySem.F.plainAttrs_tuple WB PySem.F.type_tuple_index ag1 (EB T.NR (cq T.yK rfl) (cq T.B8 rfl) (λ_ _=>rfl)) (ag (aN '0' rfl) ao)) cS))),?_];apply#[bU 1,_,rfl,rfl,rfl,.inr (.inl #[rfl,T.ahY]),?_];apply be.mk i1 T.b8 T.ik (kn _ _ _) #[_,_,_,_,_,rfl,rfl,T.Ut H,e1,?_];apply .inl ?_;rw[<-e2]at q;show q
def vT(t:aE):V:=.str (S (cd t))
def tM(H:Hp)(l:aa)(ts:List aE):Prop:=H l=some (.lst (ts.map vT))
def wq(t:aE):decide (S (cd t)=bN "")=t.isEmpty:=by
 rw[ga,show cs ""=[] from rfl,cw,bw,mj,ql,Ci]
def afL(ts:List aE):zl (bN " ") (ts.map λt=>S (cd t))=S (cd (dN ts)):=by
 apply uG;rw[Jn,Fc,mU,zQ,bh];have:∀l:List W,qF (tl (bN " ")) l=fO 32 l:=by
  intro l;induction l with
  |nil=>rfl
  |cons a r ih=>
   cases r with
   |nil=>rfl
   |cons b r=>rw[kG _ _ (),<-ih];rfl
 rw[this];congr 1
def agf(ts:List aE):((ts.map λt=>S (cd t)).map (·.length)).sum=(ts.map λt=>t.length).sum:=by
 rw[bh];congr 1;apply fg λt _=>?_;show(S (cd t)).length=_;rw[ft,ko]
theorem OY(f:aE->Bool):∀ts:List aE,((ts.filter f).map λt=>t.length).sum+(ts.filter f).length<=(ts.map λt=>t.length+1).sum
 |[]=>by simp
 |t::ts=>by
  have:=OY f ts;rw[gd];split;simp![ba,gi,cN];omega;simp![ba,gi];omega
def age(ts:List aE):ts.length<=(ts.map λt=>t.length+1).sum:=by
 induction ts with
 |nil=>show bj _
 |cons t ts ih=>simp![ba,gi,cN];omega
def TJ:Sp:=λvs H Q _=>X2 λ(l:aa) (ts:List aE)=>N4 (vs=[.ref l]) (tM H l ts) ((ts.map λt=>t.length+1).sum<=10000000) (∀H',am H H'->Q (vT (dU ts)) H')
def Dq:aV P w K mg base "put_together" 1 ["names"] TJ:=by
 apply bd T.ack ["names","name"] ?_;rintro f _ _ _ s H _ Q E hr nd ⟨l,ts,rfl,hl,hz,q⟩;apply#[_,(aA (aT (Sj bG (fX eM rfl rfl nd (eF '0') (eN (own:=[("name",1)]) rfl) (λ_ _ _ _ _ _=>(cC 1 nd)) (λ_ _ _ _ _ _=>by show(kS (bQ jl '1' bG (bO _)))) (λ_ _ _ _ _ _ _=>by show(pv 1)))))),?_];have hn:=age ts;apply#[l,rfl,#[_,az.of hl],?_];apply qJ (f:=λx=>match x with| .str z=>!decide (z=bN "")|_=>false) (h:=id) (az.of hl) (by rw[aD];show cp hn (cp hz (by rw[vn];omega))) (λx hx=>?_) (λx hx _=>?_) λD H' s' hD=>?_;let#[t,ht,rfl]:=Ge.mp hx;intro H2 Q2 s2 k2;apply#[rfl,?_];have:=k2 H2 (am.refl _);simpa[oa,vT,V.str.injEq]using this;intro H2 Q2 s2 k2;show k2 H2 (am.refl _);have e:((ts.map vT).filter (λx=>match x with| .str z=>!decide (z=bN "")|_=>false)).map id=((ts.filter λt=>!t.isEmpty).map λt=>S (cd t)).map V.str:=by
  rw[m_,gG,bh];have:(ts.filter ((λx=>match x with| .str z=>!decide (z=bN "")|_=>false)∘vT))=ts.filter λt=>!t.isEmpty:=by
   apply ie;intro t _;show(!decide (S (cd t)=bN ""))=_;rw[wq]
  rw[this];rfl
 rw[e]at hD;apply#[_,_,_,rfl,rfl,.inl (az.of hD),?_,?_];rw[agf,aD];have:=OY (λt=>!t.isEmpty) ts;have e1:(bN " ").length=1:=rfl;rw[e1,Nat.mul_one];omega;rw[afL];show q H' s'
def BO(A:aO)(k:Nat):Sp:=λvs H Q _=>X4 λ(vt lo:aa) (m:MS) (i:Nat)=>N5 (vs=[.ref vt,.int (i:Nat)]) (br A H vt lo m) (i<m.p.length) (6<=(bx m.p i).deep+k) (∀H',am H H'->Q (vT (dJ m i)) H')
def TD(A:aO)(k:Nat):Sp:=λvs H Q _=>X4 λ(vt lo:aa) (m:MS) (i:Nat)=>N5 (vs=[.ref vt,.int (i:Nat)]) (br A H vt lo m) (i<m.p.length) (5<=(bx m.p i).deep+k) (∀H',am H H'->Q (vT (dU ((fb m i).map (dJ m)))) H')
def yt(x:Option lE):W:=match x with
 |none=>[]
 |some y=>sT y
def xI(m:MS)(i:Nat)(x:Option lE):aE:=match x with
 |none=>[]
 |some x=>jW m (λ_=>[]) (dJ m) i x
def E2(A:aO)(k:Nat):Sp:=λvs H Q _=>X5 λ(vt lo:aa) (m:MS) (i:Nat) (x:Option lE)=>N5 (vs=[.ref vt,.int (i:Nat),.str (S (yt x))]) (br A H vt lo m) (i<m.p.length) (5<=(bx m.p i).deep+k) (∀H',am H H'->Q (vT (xI m i x)) H')
def QV{k r:Nat}(IH:aV P w K mg base "inner_name" (r+4) ["visit","place"] (BO A k)):aV P w K mg base "kids_name" (r+5) ["visit","place"] (TD A k):=by
 apply bd T.abW ["visit","place","kid"] ?_;rintro f _ _ _ s H _ Q E hr nd ⟨vt,lo,m,i,rfl,hv,hi,hk,q⟩;apply#[_,(aA (aT (iI (Dq T) (hr.mono ()) cn rfl (ag (fX eM rfl rfl nd (eF (iI (HL T) (hr.mono ()) cn rfl (ag '0' (ag '1' ao)))) (eN (own:=[("kid",2)]) rfl) (λ_ _ _ _ _ _=>(cC 2 nd)) (λ_ _ _ _ _ _=>by show i6) (λ_ _ _ _ _ _ _=>by show(iI IH (hr.mono ()) oh rfl (ag '0' (ag '2' ao))))) ao)))),?_];apply#[vt,lo,m,i,rfl,hv,λL H1 s1 hf hl=>#[L,rfl,#[_,az.of hl],?_]];have hsl:=yq m hv.ok.pg i;apply pI (g:=λ_=>true) (h:=λj=>vT (dJ m j)) hl () (λ_ _=>pW) (λn hn _=>?_) λD H2 s2 hf2 hD=>?_;let#[n1,n2,n3]:=om hn;have aoF:=yf n1 n2;intro H3 Q3 s3 k3;show#[vt,lo,m,n,rfl,hv.same (s1.trans s3),n1,by omega,λH4 s4=>k3 H4 s4];rw[List.filter_eq_self.mpr (λ_ _=>rfl)]at hD;have hks:=QW m hv.ok.pg (i:=i);apply#[D,(fb m i).map (dJ m),rfl,by unfold tM;rw[hD,bh];rfl,by rw[bh];show cp hks (),λH3 s3=>q H3 (s1.trans (s2.trans s3))]
def vv(x:Option lE){s:String}{y:lE}(h:cs s=sT y):decide (S (yt x)=bN s)=decide (x=some y):=by
 rw[ga,h,cw,bw,bw,mj];cases x with
 |none=>
  constructor;intro z;have:sT y≠[]:=by cases y<;>decide
  show absurd z.symm this;intro z;cases z
 |some x=>
  rw[wk];show ajm
def T7{k r:Nat}(IK:aV P w K mg base "kids_name" (r+5) ["visit","place"] (TD A k)):aV P w K mg base "inner_source" (r+6) ["visit","place","source"] (E2 A k):=by
 apply bd T.abM ["visit","place","source","box"] ?_;rintro f _ _ _ s H _ Q E hr nd ⟨vt,lo,m,i,x,rfl,hv,hi,hk,q⟩;let#[dx,d,lb,lh,h1,h2,h3,h4,h5]:=hv.ex;let#[as,g1,g2,g3]:=h2.ex;let#[a,ea,hb]:=g3 i hi;let#[eO,dF,dE,i1,i2,i3]:=hb.ex;apply#[_,(aC (bu 3 nd (cr cP (aN '0' rfl) '1' (λ_ _=>rfl)))
   (aC (bY (bQ fu '2' bG (bO _)) (aA (aT (aN '3' rfl))) bZ)
   (aC (bY (bQ fu '2' bG (bO _)) (aA (aT (aN '3' rfl))) bZ)
   (aC (bY (bQ fu '2' bG (bO _)) (aA (aT (iI IK (hr.mono ()) cn rfl (ag '0' (ag '1' ao))))) bZ)
   (aA (aT bG)))))),?_]
 have e1:=vv x (s:="label") (y:=.label) ();have e2:=vv x (s:="text") (y:=.text) ();have e3:=vv x (s:="kids") (y:=.kids) ()
 simp! only[h1,T.bM,T.cR,cU]
 apply .inl #[lb,_,_,_,rfl,rfl,az.of g1,cG (cy ea),?_]
 simp! only[i1,T.b8,T.zF,T.wM,YL,Ni,e1,e2,e3]
 by_cases c1:x=some .label
 rw[aq (by simpa using c1)];subst c1;show q H (am.refl _);rw[ay (by simpa using c1)];by_cases c2:x=some .text
 rw[aq (by simpa using c2)];subst c2;show q H (am.refl _);rw[ay (by simpa using c2)];by_cases c3:x=some .kids
 rw[aq (by simpa using c3)];subst c3;show#[vt,lo,m,i,rfl,hv,hi,hk,q];rw[ay (by simpa using c3)];have e:xI m i x=[]:=by
  have nil_:∀l:List bb,dU (l.map λ_=>([]:aE))=[]:=by
   intro l;unfold dU;have:(l.map λ_=>([]:aE)).filter (λt=>!t.isEmpty)=[]:=by
    rw[F2];intro t ht;let#[_,_,rfl]:=Ge.mp ht;simp
   rw[this];rfl
  cases x with
  |none=>rfl
  |some y=>
   cases y with
   |by_=>show nil_ _
   |label=>show absurd rfl c1
   |text=>show absurd rfl c2
   |kids=>show absurd rfl c3
   |hint=>show nil_ _
 have:=q H (am.refl _);rw[e]at this;show this
theorem HY{f:lE->aE}:∀{l:List lE}{j:Nat}{x:lE},(∀y∈l.take j,f y=[])->l[j]? =some x->f x≠[]->ny f l=some #[x,f x]
 |[],j,x,_,h,_=>by simp at h
 |a::l,0,x,_,h,hx=>by
  have e:a=x:=cV h;subst e;rw[ny,ay hx]
 |a::l,j+1,x,h0,h,hx=>by
  rw[ny,aq (h0 a ())];show HY (j:=j) (λy hy=>h0 y (by simp[hy])) h hx
theorem H_{f:lE->aE}:∀{l:List lE},(∀y∈l,f y=[])->ny f l=none
 |[],_=>rfl
 |a::l,h=>by
  rw[ny,aq (h a bq)];show H_ λy hy=>h y (bp _ hy)
def T6{l:List lE}{j:Nat}{v:V}(h:((l.map sT).map λu=>V.str (S u))[j]? =some v):∃x,l[j]? =some x/\v=.str (S (yt (some x))):=by
 rw[cx,cx]at h;cases e:l[j]? with
 |none=>rw[e]at h;cases h
 |some x=>rw[e]at h;show#[x,rfl,(cV h).symm]
def Uz{α:Type}{l:List α}{j:Nat}{x y:α}(h:l[j]? =some x)(hy:y∈l.take (j+1)):y∈l.take j\/y=x:=by
 rw[gz h]at hy;rcases wa.mp hy with z|z
 show .inl z;show .inr (List.mem_singleton.mp z)
def afy{k r:Nat}(IS:aV P w K mg base "inner_source" (r+6) ["visit","place","source"] (E2 A k)):aV P w K mg base "inner_name" (r+7) ["visit","place"] (BO A (k+1)):=by
 apply bd T.OT ["visit","place","source","name"] ?_;rintro f _ _ _ s H _ Q E hr nd ⟨vt,lo,m,i,rfl,hv,hi,hk,q⟩;have est:=afx m hv.ok.pg hi;apply#[_,(aC (kR gw rfl (eF (aN (iI (uE T) (hr.mono ()) cn rfl (ag '0' (ag '1' ao))) rfl)) (cC 2 nd) (aC (bu 3 nd (iI IS (hr.mono ()) cn rfl (ag '0' (ag '1' (ag '2' ao)))))
   (aA (bY (bQ jl '3' bG (bO _)) (aA (aT '3')) bZ))))
   (aA (aT bG))),?_]
 apply#[vt,lo,m,i,rfl,hv,hi,λa ha=>?_];let#[dr,ls,r1,r2]:=ha.ex;have r2:H ls=some (.lst (((e_ m i).sources.map sT).map λu=>V.str (S u))):=r2;apply be.mk r1 T.qG T.G1 (Sz _ _) #[ls,rfl,#[_,az.of r2],ss (xs:=((e_ m i).sources.map sT).map λu=>V.str (S u)) (λj σ H'=>(∃u v,σ=[some (.ref vt),some (.int (i:Nat)),u,v])/\am H H'/\∀y∈(e_ m i).sources.take j,jW m (λ_=>[]) (dJ m) i y=[]) #[#[_,_,rfl],am.refl _,nofun] (λj σ H' _ ⟨_,s1,_⟩=>az.of (s1 _ _ r2)) ?_ ?_];rintro j v σ H' hj ⟨⟨u,v',rfl⟩,s1,hn⟩;let#[x,hx,rfl]:=T6 hj;apply#[vt,lo,m,i,some x,rfl,hv.same s1,hi,by omega,λH2 s2=>?_];have e0:=wq (xI m i (some x));simp![vT]
 simp! only[e0]
 cases uL:(xI m i (some x)).isEmpty with
 |true=>
  simp![f7,bT,bI];apply#[s1.trans s2,λy hy=>?_];rcases Uz hx hy with z|z
  show hn y z;rw[z];show Ci.mp uL
 |false=>
  simp![ic,bz];have hne:jW m (λ_=>[]) (dJ m) i x≠[]:=λz=>by
   have:(xI m i (some x)).isEmpty=true:=Ci.mpr z;rw[this]at uL;cases uL
  rw[HY hn hx hne]at est;have:=q H2 (s1.trans s2);rw[est]at this;show this
 rintro σ H' ⟨⟨u,v,rfl⟩,s1,hn⟩;rw[aD,aD,jy]at hn;rw[H_ hn]at est;have:=q H' s1;rw[est]at this;show this
def Jk:∀k,aV P w K mg base "inner_name" (3*k+4) ["visit","place"] (BO A k)
 |0=>by
  apply Dv T.OT (λ_ _ _ _ _ _=>A_ λ_ _=>rfl) λf fd F=>?_;have no:∀vs H Q E,¬BO A 0 vs H Q E:=by
   rintro vs H Q E ⟨vt,lo,m,i,_,hv,hi,hk,_⟩;have:=Du hv.ok.pg hi;omega
  show#[λvs H Q E h=>(no _ _ _ _ h).elim,λA outer s H args us vs Q E _ _ _ _ h=>(no _ _ _ _ h).elim]
 |k+1=>afy T (r:=3*k) (T7 T (QV T (Jk k)))
def Z4:aV P w K mg base "inner_name" 22 ["visit","place"] (BO A 6):=Jk T 6
def Z5:aV P w K mg base "inner_source" 21 ["visit","place","source"] (E2 A 5):=T7 T (r:=15) (QV T (Jk T 5))
def J8{p:aX}(Pg:PG p){n:bb}(h:n∈cW p):lS p (cd n)=some ((cW p).idxOf n):=by
 let#[k,hk,rfl]:=uZ h;rw[qB Pg hk];apply DB (mh hk) (b_ rfl) λj b hj hb=>?_;rw[mh ()]at hb;cases hb;show cO λz=>by
  have:=mK Pg () hk (wY z);omega
def akx(A:aO):Sp:=λvs H Q _=>X5 λ(vt lo l:aa) (m:MS) (ns:List bb)=>N6 (vs=[.ref vt,.ref l]) (br A H vt lo m) (gq H l (ns.map cd)) ((∀n∈ns,n∈cW m.p)) (ns.length<=16) (∀H',am H H'->Q (vT (dU (ns.map λn=>dJ m (eA m n)))) H')
def D9{m:MS}(Pg:PG m.p){n:bb}(h:n∈cW m.p):eA m n<m.p.length:=by
 let#[k,hk,rfl]:=uZ h;unfold eA;rw[qB Pg hk];show hk
def HK:aV P w K mg base "names_of" 23 ["visit","idents"] (akx A):=by
 apply bd T.ab4 ["visit","idents","ident"] ?_;rintro f _ _ _ s H _ Q E hr nd ⟨vt,lo,l,m,ns,rfl,hv,hl,hm,hn,q⟩;let#[dx,d,lb,lh,h1,h2,h3,h4,h5]:=hv.ex;apply#[_,(aA (aT (aJ (Dq T) hr (ag (fX eM rfl rfl nd (eF '1') (eN (own:=[("ident",2)]) rfl) (λ_ _ _ _ _ _=>(cC 2 nd)) (λ_ _ _ _ _ _=>by show i6) (λ_ _ _ _ _ _ _=>by show(iI (Z4 T) (hr.mono ()) oh rfl (ag '0' (ag (iI (sh T) (hr.mono ()) oh rfl (ag (iZ (K:=K) rfl '0' rfl) (ag '2' ao))) ao))))) ao)))),?_];apply#[l,rfl,#[_,az.of hl],?_];apply qJ (f:=λ_=>true) (h:=λx=>match x with| .str z=>vT (dJ m (eA m (un (tl z))))|_=>.bn) (az.of hl) (by rw[aD,aD];show bX ()) (λ_ _=>pW) (λx hx _=>?_) λD H' s' hD=>?_;let#[u,hu,rfl]:=Ge.mp hx;let#[n,hn,rfl]:=Ge.mp hu;intro H2 Q2 s2 k2;apply be.mk (s2 _ _ h1) T.bM T.cR (cU _ _ _ _ _) #[lb,m.p,cd n,rfl,h2.same s2,?_];rw[J8 hv.ok.pg (hm n hn)];intro H3 s3;apply#[vt,lo,m,eA m n,rfl,hv.same (s2.trans s3),D9 hv.ok.pg (hm n hn),by omega,λH4 s4=>?_];have:=k2 H4 (s3.trans s4);simp![mU,UN]at this;show this;rw[List.filter_eq_self.mpr (λ_ _=>rfl)]at hD;apply#[D,ns.map λn=>dJ m (eA m n),rfl,?_,?_,λH3 s3=>q H3 (s'.trans s3)];unfold tM;rw[hD,bh,bh,bh];congr 2;apply fg λn _=>?_;simp![rn,mU,UN];have:∀l:List bb,(∀n∈l,n∈cW m.p)->((l.map λn=>dJ m (eA m n)).map λt=>t.length+1).sum<=l.length*2017:=by
  intro l;induction l with
  |nil=>intro _;simp
  |cons n l ih=>
   intro h;have h1:=Jj m hv.ok.pg (D9 hv.ok.pg (h n bq));have h2:=ih λk hk=>h k (bp _ hk);simp![ba,gi,cN,Cr];omega
 have h1:=this ns hm;have:ns.length*2017<=16*2017:=wg _ hn;omega
def ye(m:MS)(i:Nat)(x:Option lE):aE:=match x with
 |none=>[]
 |some y=>jW m (dJ m) (dJ m) i y
def akC(A:aO):Sp:=λvs H Q _=>X5 λ(vt lo:aa) (m:MS) (i:Nat) (x:Option lE)=>N4 (vs=[.ref vt,.int (i:Nat),.str (S (yt x))]) (br A H vt lo m) (i<m.p.length) (∀H',am H H'->Q (vT (ye m i x)) H')
def P6{p:aX}(Pg:PG p){i:Nat}(hi:i<p.length):(bx p i).hint=[]\/∃n,(bx p i).hint=[n]/\n≠[]:=by
 have s:=(qj Pg hi).1;have h1:=s.h1;have h2:=s.h2;cases e:(bx p i).hint with
 |nil=>show .inl rfl
 |cons n r=>
  rw[e]at h1 h2;have:r=[]:=by cases r with|nil=>rfl|cons=>simp at h1
  subst this;show .inr #[n,rfl,by rintro rfl;show h2 rfl]
def xV{p:aX}{i:Nat}:(mb p i).hint=cd ((bx p i).hint.headD []):=rfl
def Oj:aV P w K mg base "outer_source" 24 ["visit","place","source"] (akC A):=by
 apply bd T.ab' ["visit","place","source","box"] ?_;rintro f _ _ _ s H _ Q E hr nd ⟨vt,lo,m,i,x,rfl,hv,hi,q⟩;let#[dx,d,lb,lh,h1,h2,h3,h4,h5]:=hv.ex;let#[as,g1,g2,g3]:=h2.ex;let#[a,ea,hb]:=g3 i hi;let#[eO,dF,dE,i1,i2,i3]:=hb.ex;have hrf:=tF hv.ok.pg hi;have sb:=(qj hv.ok.pg hi).1;have hby:(bx m.p i).by_.length<=3:=by
  have:=sb.vb.zN
  rwa [show((bH (bx m.p i)).by_).length=(bx m.p i).by_.length from aD _]at this
 apply#[_,(aC (bu 3 nd (cr cP (aN '0' rfl) '1' (λ_ _=>rfl)))
   (aC (bY (bQ fu '2' bG (bO _)) (aA (aT (aJ (HK T) hr (ag '0' (ag (aN '3' rfl) ao))))) bZ)
   (aC (bY (PW.pt (Bw (bQ fu '2' bG (bO _)) (Bx (bQ jl (aN '3' rfl) bG (bO _))))) (aA (aT (aJ (HK T) hr (ag '0' (ag (eS (ag (aN '3' rfl) ao)) ao))))) bZ)
   (aA (aT (aJ (Z5 T) hr (ag '0' (ag '1' (ag '2' ao))))))))),?_]
 have e1:=vv x (s:="by") (y:=.by_) ();have e2:=vv x (s:="hint") (y:=.hint) ()
 simp! only[h1,T.bM,T.cR,cU]
 apply .inl #[lb,_,_,_,rfl,rfl,az.of g1,cG (cy ea),?_]
 simp! only[i1,T.b8,T.wI,T.rR,Nf,C_,e1,e2]
 by_cases c1:x=some .by_
 rw[aq (by simpa using c1)];subst c1;show#[vt,lo,dF,m,(bx m.p i).by_,rfl,hv,i2,hrf.1,by omega,q];rw[ay (by simpa using c1)];have OU:xI m i x=ye m i x->E2 A 5 [.ref vt,.int (i:Nat),.str (S (yt x))] H Q E:=λe=>#[vt,lo,m,i,x,rfl,hv,hi,by omega,by rw[e];show q];by_cases c2:x=some .hint
 rw[aq (by simpa using c2)];rcases P6 hv.ok.pg hi with hz|⟨n,hz,hn⟩
 have e3:decide (S (mb m.p i).hint=bN "")=true:=by rw[xV,hz];decide
 rw[e3];simp![f7,bT,bI];apply OU ?_;subst c2;show dU _=dU _;rw[hz];rfl;have e3:decide (S (mb m.p i).hint=bN "")=false:=by
  rw[xV,hz,m9,wq];cases n with
  |nil=>show absurd rfl hn
  |cons=>rfl
 rw[e3];simp![ic,bz];apply#[(by show 1<=sizeLine;decide),λL hL=>?_];have s0:am H (L2.upd H L (.lst [.str (S (mb m.p i).hint)])):=am.new hL;apply#[vt,lo,L,m,[n],rfl,hv.same s0,?_,λn' sw=>hrf.2.1 n' (by rw[hz];show sw),by simp,λH' s'=>?_];unfold gq;rw[aH,xV,hz];rfl;have:=q H' (s0.trans s');subst c2;show Q (vT (dU ([n].map λn=>dJ m (eA m n)))) H';rw[<-hz];show this;rw[ay (by simpa using c2)];apply OU ?_;cases x with
 |none=>rfl
 |some y=>
  cases y with
  |by_=>show absurd rfl c1
  |hint=>show absurd rfl c2
  |label=>rfl
  |text=>rfl
  |kids=>rfl
def akv(A:aO):Sp:=λvs H Q _=>X4 λ(vt lo:aa) (m:MS) (i:Nat)=>N4 (vs=[.ref vt,.int (i:Nat)]) (br A H vt lo m) (i<m.p.length) (∀H',am H H'->Q (.str (S (yt ((iT m i).map λx=>x.source)))) H')
def HJ:aV P w K mg base "name_source" 25 ["visit","place"] (akv A):=by
 apply bd T.ab2 ["visit","place","source"] ?_;rintro f _ _ _ s H _ Q E hr nd ⟨vt,lo,m,i,rfl,hv,hi,q⟩;apply#[_,(aC (kR gw rfl (eF (aN (aJ (uE T) hr (ag '0' (ag '1' ao))) rfl)) (cC 2 nd) (aA (bY (bQ jl (aJ (Oj T) hr (ag '0' (ag '1' (ag '2' ao)))) bG (bO _)) (aA (aT '2')) bZ)))
   (aA (aT bG))),?_]
 apply#[vt,lo,m,i,rfl,hv,hi,λa ha=>?_];let#[dr,ls,r1,r2]:=ha.ex;have r2:H ls=some (.lst (((e_ m i).sources.map sT).map λu=>V.str (S u))):=r2;apply be.mk r1 T.qG T.G1 (Sz _ _) #[ls,rfl,#[_,az.of r2],ss (xs:=((e_ m i).sources.map sT).map λu=>V.str (S u)) (λj σ H'=>(∃u,σ=[some (.ref vt),some (.int (i:Nat)),u])/\am H H'/\∀y∈(e_ m i).sources.take j,jW m (dJ m) (dJ m) i y=[]) #[#[_,rfl],am.refl _,nofun] (λj σ H' _ ⟨_,s1,_⟩=>az.of (s1 _ _ r2)) ?_ ?_];rintro j v σ H' hj ⟨⟨u,rfl⟩,s1,hn⟩;let#[x,hx,rfl]:=T6 hj;apply#[vt,lo,m,i,some x,rfl,hv.same s1,hi,λH2 s2=>?_];have e0:=wq (ye m i (some x));simp![vT]
 simp! only[e0]
 cases uL:(ye m i (some x)).isEmpty with
 |true=>
  simp![f7,bT,bI];apply#[s1.trans s2,λy hy=>?_];rcases Uz hx hy with z|z
  show hn y z;rw[z];show Ci.mp uL
 |false=>
  simp![ic,bz];have hne:jW m (dJ m) (dJ m) i x≠[]:=λz=>by
   have:(ye m i (some x)).isEmpty=true:=Ci.mpr z;rw[this]at uL;cases uL
  have:=q H2 (s1.trans s2);unfold iT at this;rw[HY hn hx hne]at this;show this
 rintro σ H' ⟨⟨u,rfl⟩,s1,hn⟩;rw[aD,aD,jy]at hn;have:=q H' s1;unfold iT at this;rw[H_ hn]at this;show this
def aj'(A:aO):Sp:=λvs H Q _=>X4 λ(vt lo:aa) (m:MS) (i:Nat)=>N4 (vs=[.ref vt,.int (i:Nat)]) (br A H vt lo m) (i<m.p.length) (∀H',am H H'->Q (vT (fP m i)) H')
def HE:aV P w K mg base "full_name" 26 ["visit","place"] (aj' A):=by
 apply bd T.abC ["visit","place"] ?_;rintro f _ _ _ s H _ Q E hr nd ⟨vt,lo,m,i,rfl,hv,hi,q⟩;apply#[_,(aA (aT (aJ (Oj T) hr (ag '0' (ag '1' (ag (aJ (HJ T) hr (ag '0' (ag '1' ao))) ao)))))),?_];apply#[vt,lo,m,i,rfl,hv,hi,λH1 s1=>#[vt,lo,m,i,_,rfl,hv.same s1,hi,λH2 s2=>?_]];have e:ye m i ((iT m i).map λx=>x.source)=fP m i:=by
  unfold fP;cases e:iT m i with
  |none=>rfl
  |some x=>show(HZ e).2.1.symm
 rw[e];show q H2 (s1.trans s2)
def aj6(A:aO):Sp:=λvs H Q _=>X3 λ(a:aa) (m:MS) (i:Nat)=>N3 (vs=[.ref a]) (du A H a (mb m.p i)) (Q (.bl (pc m i)) H)
def NU:aV P w K mg base "does_something" 1 ["box"] (aj6 A):=by
 apply bd T.aby ["box"] ?_;rintro f _ _ _ s H _ Q E hr nd ⟨a,m,i,rfl,cA,q⟩;let#[eO,dF,dE,i1,i2,i3]:=cA.ex;let#[xs,x1]:=i3.lst;have xl:=i3.len x1;apply#[_,(aA (aT (J3 (iY fu (aN '0' rfl) bG (bO _)) (qW (iY sS (dg dW rfl T.dH L2.boot_len (ag (aN '0' rfl) ao)) cS (bO _)))))),?_];have ek:decide (S (mb m.p i).kind=bN "check")=decide (kI m i=.check):=xN (kI m i) (k':=.check) ()
 simp! only[i1,T.b8,T.ik,T.rP,kn,G8,ek]
 unfold pc at q;cases hk:decide (kI m i=.check)with
 |true=>
  rw[hk]at q;show q
 |false=>
  rw[hk,FG]at q;simp![bT,bI];apply#[_,.inl #[_,az.of x1,rfl],?_];have e:decide ((0:Int)<((xs.length:Nat):Int))=!(bx m.p i).press.isEmpty:=by
   rw[xl,show(mb m.p i).b7=(bx m.p i).press.map aM from rfl,aD];cases(bx m.p i).press with
   |nil=>rfl
   |cons=>simp
  rw[e];show q
def aj1(A:aO):Sp:=λvs H Q _=>X4 λ(vt lo:aa) (m:MS) (i:Nat)=>N4 (vs=[.ref vt,.int (i:Nat)]) (br A H vt lo m) (i<m.p.length) (∀H',am H H'->Q (.bl (qk m i)) H')
def NT:aV P w K mg base "can_be_pressed" 6 ["visit","place"] (aj1 A):=by
 apply bd T.abq ["visit","place"] ?_;rintro f _ _ _ s H _ Q E hr nd ⟨vt,lo,m,i,rfl,hv,hi,q⟩;let#[dx,d,lb,lh,h1,h2,h3,h4,h5]:=hv.ex;let#[as,g1,g2,g3]:=h2.ex;let#[a,ea,cA]:=g3 i hi;let#[eO,dF,dE,i1,i2,i3]:=cA.ex;apply#[_,(aA (aT (u_ (aJ (NU T) hr (ag (cr cP (aN '0' rfl) '1' (λ_ _=>rfl)) ao)) (qW (aJ (Oe T) hr (ag '0' (ag '1' ao))))))),?_]
 simp! only[h1,T.bM,T.cR,cU]
 apply .inl #[lb,_,_,_,rfl,rfl,az.of g1,cG (cy ea),a,m,i,rfl,cA,?_]
 simp! only[]
 unfold qk at q;by_cases aoF:pc m i=true
 rw[aq aoF];rw[aoF]at q;show#[vt,lo,m,i,rfl,hv,hi,q];rw[ay aoF];have aoF:pc m i=false:=by simpa using aoF
 rw[aoF]at q;show q H (am.refl _)
def Nt(l:List Bool)(i:Nat)(b:Bool):(dC l).set i (.bl b)=dC (l.set i b):=by unfold dC;rw[List.map_set]
theorem G5(m:MS):∀(l:List Vaacca.Act)(cj:List Bool),(l.foldl (lF m) cj).length=cj.length
 |[],_=>rfl
 |a::l,cj=>by rw[v0,G5 m l];unfold lF;rw[v_]
def QO{n i:Nat}(h:i<n):pF n ((i:Nat):Int)=some i:=by
 unfold pF;rw[aq (),aq (),oE]
def TC(A:aO):Sp:=λvs H Q _=>X4 λ(vt lo:aa) (m:MS) (i:Nat)=>N4 (vs=[.ref vt,.int (i:Nat)]) (br A H vt lo m) (i<m.p.length) (∀D H',am H H'->H D=none->H' D=some (.lst (dC (qz m i)))->Q (.ref D) H')
def U4(x:W8){s:String}{y:W8}(h:cs s=cd (zu y)):decide (S (cd (zu x))=bN s)=decide (x=y):=by
 rw[ga,h,cw,bw,bw,mj];cases x<;>cases y<;>decide
def N9:aV P w K mg base "hidden_after" 2 ["visit","place"] (TC A):=by
 apply bd T.abK ["visit","place","hidden","deed","ident","named"] ?_;rintro f _ _ _ s H _ Q E hr nd ⟨vt,lo,m,i,rfl,hv,hi,q⟩;let#[dx,d,lb,lh,h1,h2,h3,h4,h5]:=hv.ex;let#[as,g1,g2,g3]:=h2.ex;let#[a,ea,cA]:=g3 i hi;let#[eO,dF,dE,i1,i2,i3]:=cA.ex;let#[ts,t1,t2]:=i3.ex;have hrf:=tF hv.ok.pg hi;apply#[_,(aC (bu 2 nd (yg Ze rfl T.YQ L2.boot_list (ag (aN '0' rfl) ao)))
   (aC (kR gw rfl (eF (aN (cr cP (aN '0' rfl) '1' (λ_ _=>rfl)) rfl)) (yh rfl (kP (cC 3 nd) (kP (cC 4 nd) vc))) (aC (bu 5 nd (aJ (sh T) hr (ag (aN '0' rfl) (ag '4' ao))))
   (aA (bY (bQ fu '3' bG (bO _)) (aA (Ka (Bt (cr cP '2' '5' (λ_ _=>rfl))) (J4 '2' '5' Kn))) (aA (Ka (iY fu '3' bG (bO _)) (J4 '2' '5' Kn)))))))
   (aA (aT '2')))),?_]
 apply be.mk h1 T.bM T.wR (Fh _ _ _ _ _) #[lh,_,rfl,.inl (az.of h4),λL hL=>?_];have s0:am H (L2.upd H L (.lst (dC m.cj))):=am.new hL;apply be.mk (s0 _ _ h1) T.bM T.cR (cU _ _ _ _ _) (.inl #[lb,_,_,_,rfl,rfl,az.of (s0 _ _ g1),cG (cy ea),be.mk (s0 _ _ i1) T.b8 T.rP (G8 _ _ _) #[dE,rfl,#[_,az.of (s0 _ _ t1)],?_]]);apply ss (xs:=ts.map V.ref) (λj σ H'=>(∃u v z,σ=[some (.ref vt),some (.int (i:Nat)),some (.ref L),u,v,z])/\am H H'/\H' L=some (.lst (dC (((bx m.p i).press.take j).foldl (lF m) m.cj)))) #[#[_,_,_,rfl],s0,aH] (λj σ H' _ ⟨_,s1,_⟩=>az.of (s1 _ _ t1)) ?_ ?_;rintro j y σ H' hy ⟨⟨u,v,z,rfl⟩,s1,pk⟩;obtain⟨t,et⟩:∃t,ts[j]? =some t:=by
  rw[cx]at hy;cases e:ts[j]? with
  |none=>rw[e]at hy;cases hy
  |some t=>show#[t,rfl]
 rw[cy et]at hy;cases hy;let#[ac,pd,ID]:=EA t2 et;obtain⟨act,OI,rfl⟩:∃act,(bx m.p i).press[j]? =some act/\ac=aM act:=by
  have pd:((bx m.p i).press.map aM)[j]? =some ac:=pd;rw[cx]at pd;cases e:(bx m.p i).press[j]? with
  |none=>rw[e]at pd;cases pd
  |some x=>rw[e]at pd;show#[x,rfl,(cV pd).symm]
 have hid_:=hrf.2.2 act (fh OI);have hx:=D9 hv.ok.pg hid_;have hfl:(((bx m.p i).press.take j).foldl (lF m) m.cj).length=m.p.length:=by rw[G5];show hv.ok.cj
 apply#[t,_,rfl,bL.of (s1 _ _ ID),rfl,_,_,rfl,_,_,rfl,rfl,?_];apply be.mk (s1 _ _ h1) T.bM T.cR (cU _ _ _ _ _) #[lb,m.p,cd act.id,rfl,h2.same s1,?_];rw[J8 hv.ok.pg hid_];intro H2 s2;have s12:=s1.trans s2;have hL2:=s2 _ _ pk;have w1:decide (S (aM act).1=bN "flip")=decide (act.what=.flip):=U4 act.what (y:=.flip) ();have w2:decide (S (aM act).1=bN "hide")=decide (act.what=.hide):=U4 act.what (y:=.hide) ();have bW:∀b:Bool,b=(match act.what with| .show_=>false| .hide=>true| .flip=>!hb (((bx m.p i).press.take j).foldl (lF m) m.cj) (eA m act.id))->
   am H (L2.upd H2 L (.lst ((dC (((bx m.p i).press.take j).foldl (lF m) m.cj)).set (eA m act.id) (.bl b))))/\(L2.upd H2 L (.lst ((dC (((bx m.p i).press.take j).foldl (lF m) m.cj)).set (eA m act.id) (.bl b)))) L=some (.lst (dC (((bx m.p i).press.take (j+1)).foldl (lF m) m.cj))):=by
  intro b hb2;apply#[λc o e=>by rw[aG (bf e hL)];show s12 _ _ e,?_];rw[aH,Nt,gz OI,LK];rw[hb2];rfl
 simp! only[w1,w2]
 have ix:pF (dC (((bx m.p i).press.take j).foldl (lF m) m.cj)).length ((eA m act.id:Nat):Int)=some (eA m act.id):=QO (by unfold dC;rw[aD,hfl];show hx);cases hw:act.what with
 |flip=>
  rw[hw]at bW;simp![Ds,bz];apply .inl #[L,_,_,_,rfl,rfl,az.of hL2,cG (zM (by rw[hfl];show hx)),?_];show#[L,_,_,_,rfl,rfl,hL2,ix,#[_,_,_,rfl],bW _ rfl]
 |hide=>
  rw[hw]at bW;simp![show decide (W_=W9)=false by decide,bT,bI,Ds];show#[L,_,_,_,rfl,rfl,hL2,ix,#[_,_,_,rfl],bW _ rfl]
 |show_=>
  rw[hw]at bW;simp![show decide (W'=W9)=false by decide,bT,bI,show decide (W'=W_)=false by decide];show#[L,_,_,_,rfl,rfl,hL2,ix,#[_,_,_,rfl],bW _ rfl]
 rintro σ H' ⟨⟨u,v,z,rfl⟩,s1,pk⟩;rw[aD,t2.length,show(mb m.p i).b7.length=(bx m.p i).press.length from aD _,jy]at pk;show q L H' s1 hL pk
def P1{m:MS}{i:Nat}:(qz m i).length=m.cj.length:=G5 m _ _
def RY{m:MS}{i:Nat}:(mO m i).length=m.on.length:=by unfold mO;split;(rw[v_]);rfl
def akJ(A:aO):Sp:=λvs H Q _=>X4 λ(vt lo:aa) (m:MS) (i:Nat)=>N4 (vs=[.ref vt,.int (i:Nat)]) (br A H vt lo m) (i<m.p.length) (∀H',br A H' vt lo { m with cj:=qz m i,on:=mO m i }->f8 vt lo H H'->Q .bn H')
def aae:aV P w K mg base "press_box" 3 ["visit","place"] (akJ A):=by
 apply bd T.aci ["visit","place"] ?_;rintro f _ _ _ s H _ Q E hr nd ⟨vt,lo,m,i,rfl,hv,hi,q⟩;let#[dx,d,lb,lh,h1,h2,h3,h4,h5]:=hv.ex;let#[as,g1,g2,g3]:=h2.ex;let#[a,ea,cA]:=g3 i hi;let#[eO,dF,dE,i1,i2,i3]:=cA.ex;let#[dy,d',xQ,Jw,o1,o2,o3,o4,o5]:=hv.own;rw[h1]at o1;cases o1;have ya:vt≠lo:=iX h1 h5 (by intro z;cases z);apply#[_,(aC (bY (bQ fu (aN (cr cP (aN '0' rfl) '1' (λ_ _=>rfl)) rfl) bG (bO _)) (aA (Ka (Bt (cr cP (aN '0' rfl) '1' (λ_ _=>rfl))) (J4 (aN '0' rfl) '1' Kn))) bZ)
   (aA (cQ '0' (aJ (N9 T) hr (ag '0' (ag '1' ao))) rfl))),?_]
 have ek:decide (S (mb m.p i).kind=bN "check")=decide (kI m i=.check):=xN (kI m i) (k':=.check) ()
 simp! only[h1,T.bM,T.cR,cU]
 apply .inl #[lb,_,_,_,rfl,rfl,az.of g1,cG (cy ea),?_];have bW:∀H1,H1 vt=some (.ins A.d_ dx (vF d lb lh lo (m.here:Nat)))->H1 lo=some (.lst (dC (mO m i)))->f8 vt lo H H1->
   TC A [.ref vt,.int (i:Nat)] H1 (λx H2=>fq K "hidden" (H2 vt) λC eY fs=>Q .bn (L2.upd H2 vt (.ins C eY (dL "hidden" x fs)))) E:=by
  intro H1 e1 e2 k1;have ae3:br A H1 vt lo { m with on:=mO m i }:=#[#[hv.ok.pg,hv.ok.ar,hv.ok.cj,by rw[RY];show hv.ok.on,hv.ok.here],dx,d,lb,lh,e1,e2,o3.same k1.less,o4.same k1.less,k1.less _ _ o5];apply#[vt,lo,_,i,rfl,ae3,hi,λD H2 s2 hD cg=>fq.mk (s2 _ _ e1) T.bM T.wR (by show(5:Nat)<1000;decide) (q _ ?_ ?_)];have nD:D≠vt:=λz=>by rw[z,e1]at hD;cases hD
  have ahb:D≠lo:=λz=>by rw[z,e2]at hD;cases hD
  have k2:f8 vt lo H1 (L2.upd H2 vt (.ins A.d_ dx (vF d lb D lo (m.here:Nat)))):=λb o e n1 n2=>by rw[aG n1];show s2 _ _ e
  have k3:=(k1.trans k2).less;apply#[#[hv.ok.pg,hv.ok.ar,by rw[P1];show hv.ok.cj,by rw[RY];show hv.ok.on,hv.ok.here],dx,d,lb,D,aH,by rw[aG ya.symm];show s2 _ _ e2,o3.same k3,o4.same k3,e8 ?_ nD ahb];rw[aG nD];show cg;show k1.trans λb o e n1 n2=>by rw[aG n1];show s2 _ _ e
 simp! only[i1,T.b8,T.ik,kn,ek]
 have DX:i<m.on.length:=by rw[hv.ok.on];show hi
 by_cases hk:kI m i=.check
 rw[aq (by simpa using hk)];apply be.mk h1 T.bM T.zG (Fi _ _ _ _ _) (.inl #[lo,_,_,_,rfl,rfl,az.of h5,cG (zM DX),?_]);apply be.mk h1 T.bM T.zG (Fi _ _ _ _ _) #[lo,_,_,_,rfl,rfl,h5,QO (by unfold dC;rw[aD];show DX),?_];have:=bW (L2.upd H lo (.lst ((dC m.on).set i (.bl !hb m.on i)))) (by rw[aG ya];show h1) (by rw[aH,Nt];unfold mO;rw[aq hk]) (λb o e n1 n2=>by rw[aG n2];show e);let#[v1,v2,v3,v4,v5,v6,v7,v8]:=this;apply#[v1,v2,v3,v4,v5,v6,v7,λD H' a1 a2 a3=>?_];show v8 D H' a1 a2 a3;rw[ay (by simpa using hk)];have:=bW H h1 (by rw[h5];unfold mO;rw[ay hk]) (λb o e _ _=>e);show this
def akq(A:aO):Sp:=λvs H Q _=>X5 λ(vt lo:aa) (m:MS) (k i:Nat)=>N5 (vs=[.ref vt,.int (k:Nat),.int (i:Nat)]) (br A H vt lo m) (k<m.p.length) (i<m.p.length) (∀H',am H H'->Q (.bl (sX m k i)) H')
def Z8:aV P w K mg base "leads_out" 7 ["visit","modal","place"] (akq A):=by
 apply bd T.abX ["visit","modal","place"] ?_;rintro f _ _ _ s H _ Q E hr nd ⟨vt,lo,m,k,i,rfl,hv,hk,hi,q⟩;let#[dx,d,lb,lh,h1,h2,h3,h4,h5]:=hv.ex;apply#[_,(aA (aT (u_ (aJ (NT T) hr (ag '0' (ag '2' ao))) (qW (Bt (aJ (Od T) hr (ag (aJ (N9 T) hr (ag '0' (ag '2' ao))) (ag (aN '0' rfl) (ag '1' ao))))))))),?_];apply#[vt,lo,m,i,rfl,hv,hi,λH1 s1=>?_];unfold sX at q;cases hc:qk m i with
 |false=>
  rw[hc]at q;show q H1 s1
 |true=>
  rw[hc,gp]at q;apply#[vt,lo,m,i,rfl,hv.same s1,hi,λD H2 s2 hD cg=>?_];have s12:=s1.trans s2;apply be.mk (s12 _ _ h1) T.bM T.cR (cU _ _ _ _ _) #[D,lb,m.p,qz m i,k,rfl,cg,h2.same s12,hv.ok.pg,by rw[P1];show hv.ok.cj,hk,λH3 s3=>q H3 (s12.trans s3)]
def akI(A:aO):Sp:=λvs H Q _=>X4 λ(vt lo:aa) (m:MS) (k:Nat)=>N4 (vs=[.ref vt,.int (k:Nat)]) (br A H vt lo m) (k<m.p.length) (∀D H',am H H'->H D=none->dY H' D ((bv m.p.length).filter (sX m k))->Q (.ref D) H')
def aad:aV P w K mg base "places_that_lead_out" 8 ["visit","modal"] (akI A):=by
 apply bd T.ach ["visit","modal","place"] ?_;rintro f _ _ _ s H _ Q E hr nd ⟨vt,lo,m,k,rfl,hv,hk,q⟩;let#[dx,d,lb,lh,h1,h2,h3,h4,h5]:=hv.ex;let#[xs,x1,x2]:=h2.len;have hle:=(g8 hv.ok.pg).2.1;apply#[_,(aA (aT (fX eM rfl rfl nd (EG rfl T.zL (ag (dg dW rfl T.dH L2.boot_len (ag (aN '0' rfl) ao)) ao)) (eN (own:=[("place",2)]) rfl) (λ_ _ _ _ _ _=>(cC 2 nd)) (λ_ _ _ _ _ _=>by show(kS (yl (K:=K) rfl (iI (Z8 T) (hr.mono ()) oh rfl (ag '0' (ag '1' (ag '2' ao)))) (λ_=>rfl)))) (λ_ _ _ _ _ _ _=>by show(pv 2))))),?_];apply be.mk h1 T.bM T.cR (cU _ _ _ _ _) #[_,_,rfl,.inl #[_,az.of x1,rfl],_,rfl,by omega,by omega,?_];rw[oE,x2];apply Eh (H1:=H) (i:=2) (k:=m.p.length) (g:=sX m k) (h:=λn=>.int (n:Nat)) () (λn hn=>?_) (λn hn _=>?_) λD1 H1 s1 jJ dA=>q D1 H1 s1 jJ dA;intro H2 Q2 s2 k2;show#[vt,lo,m,k,n,rfl,hv.same s2,hk,hn,λH3 s3=>#[_,rfl,k2 H3 s3]];intro H2 Q2 s2 k2;show k2 H2 (am.refl _)
def ak5(A:aO):Sp:=λvs H Q _=>X4 λ(vt lo:aa) (m:MS) (i:Nat)=>N4 (vs=[.ref vt,.int (i:Nat)]) (br A H vt lo m) (i<m.p.length) (∀H',am H H'->Q (.bl (xj m i)) H')
def aav:aV P w K mg base "takes_focus_now" 6 ["visit","place"] (ak5 A):=by
 apply bd T.acI ["visit","place"] ?_;rintro f _ _ _ s H _ Q E hr nd ⟨vt,lo,m,i,rfl,hv,hi,q⟩;apply#[_,(aA (aT (u_ (aN (aJ (uE T) hr (ag '0' (ag '1' ao))) rfl) (qW (aJ (Oe T) hr (ag '0' (ag '1' ao))))))),?_];apply#[vt,lo,m,i,rfl,hv,hi,λa ha=>?_];let#[dr,ls,r1,r2]:=ha.ex;apply be.mk r1 T.qG T.CV (Sy _ _) ?_;have e:(gA (e_ m i)).focus=(e_ m i).focus:=rfl;rw[e];unfold xj at q;cases hf:(e_ m i).focus with
 |false=>
  rw[hf]at q;show q H (am.refl _)
 |true=>
  rw[hf]at q;show#[vt,lo,m,i,rfl,hv,hi,q]
def DG(m:MS)(i:Nat)(y:lE):(((iT m i).map λx=>x.source)=some y)↔(iT m i).any (λx=>x.source==y)=true:=by
 cases iT m i with
 |none=>simp
 |some x=>simp
def TM(A:aO):Sp:=λvs H Q _=>X4 λ(vt lo:aa) (m:MS) (i:Nat)=>N4 (vs=[.ref vt,.int (i:Nat)]) (br A H vt lo m) (i<m.p.length) (∀H',am H H'->Q (vT (iB m i)) H')
def aah:aV P w K mg base "said_hint" 26 ["visit","place"] (TM A):=by
 apply bd T.acr ["visit","place","hint"] ?_;rintro f _ _ _ s H _ Q E hr nd ⟨vt,lo,m,i,rfl,hv,hi,q⟩;let#[dx,d,lb,lh,h1,h2,h3,h4,h5]:=hv.ex;let#[as,g1,g2,g3]:=h2.ex;let#[a,ea,cA]:=g3 i hi;let#[eO,dF,dE,i1,i2,i3]:=cA.ex;have hrf:=tF hv.ok.pg hi;apply#[_,(aC (bu 2 nd (aN (cr cP (aN '0' rfl) '1' (λ_ _=>rfl)) rfl))
   (aC (bY (PW.pt (jm (bQ fu '2' bG (bO _)) (oj (bQ fu (aJ (HJ T) hr (ag '0' (ag '1' ao))) bG (bO _))))) (aA (aT bG)) bZ)
   (aA (aT (aJ (HK T) hr (ag '0' (ag (eS (ag '2' ao)) ao))))))),?_]
 simp! only[h1,T.bM,T.cR,cU]
 apply .inl #[lb,_,_,_,rfl,rfl,az.of g1,cG (cy ea),?_]
 simp! only[i1,T.b8,T.rR,C_]
 rcases P6 hv.ok.pg hi with hz|⟨n,hz,hn⟩
 have e3:decide (S (mb m.p i).hint=bN "")=true:=by rw[xV,hz];decide
 rw[e3,aq rfl];have e:iB m i=[]:=by
  unfold iB;rw[hz];split<;>rfl
 have:=q H (am.refl _);rw[e]at this;show this;have e3:decide (S (mb m.p i).hint=bN "")=false:=by
  rw[xV,hz,m9,wq];cases n with
  |nil=>show absurd rfl hn
  |cons=>rfl
 rw[e3,ay dh];apply#[vt,lo,m,i,rfl,hv,hi,λH1 s1=>?_];have es:=vv ((iT m i).map λx=>x.source) (s:="hint") (y:=.hint) ()
 simp! only[es]
 by_cases hs:((iT m i).map λx=>x.source)=some .hint
 rw[aq (by simpa using hs)];have e:iB m i=[]:=by
  unfold iB;rw[aq ((DG m i .hint).mp hs)]
 have:=q H1 s1;rw[e]at this;show this;rw[ay (by simpa using hs)];apply#[(by show 1<=sizeLine;decide),λL hL=>?_];have s0:am H (L2.upd H1 L (.lst [.str (S (mb m.p i).hint)])):=s1.trans (am.new hL);apply#[vt,lo,L,m,[n],rfl,hv.same s0,?_,λn' sw=>hrf.2.1 n' (by rw[hz];show sw),by simp,λH' s'=>?_];unfold gq;rw[aH,xV,hz];rfl;have e:iB m i=dU ([n].map λn=>dJ m (eA m n)):=by
  unfold iB;rw[ay (λz=>hs ((DG m i .hint).mpr z)),hz]
 rw[<-e];show q H' (s0.trans s')
def TN(A:aO):Sp:=λvs H Q _=>X4 λ(vt lo:aa) (m:MS) (i:Nat)=>N4 (vs=[.ref vt,.int (i:Nat)]) (br A H vt lo m) (i<m.p.length) (∀H',am H H'->Q (vT (iG m i)) H')
def aaw:aV P w K mg base "text_besides" 26 ["visit","place"] (TN A):=by
 apply bd T.acK ["visit","place"] ?_;rintro f _ _ _ s H _ Q E hr nd ⟨vt,lo,m,i,rfl,hv,hi,q⟩;let#[dx,d,lb,lh,h1,h2,h3,h4,h5]:=hv.ex;let#[as,g1,g2,g3]:=h2.ex;let#[a,ea,cA]:=g3 i hi;let#[eO,dF,dE,i1,i2,i3]:=cA.ex;apply#[_,(aC (bY (PW.pt (jm (dq (aN (aJ (uE T) hr (ag '0' (ag '1' ao))) rfl) (λ_=>rfl)) (oj (bQ fu (aJ (HJ T) hr (ag '0' (ag '1' ao))) bG (bO _))))) (aA (aT bG)) bZ)
   (aA (aT (aN (cr cP (aN '0' rfl) '1' (λ_ _=>rfl)) rfl)))),?_]
 simp! only[]
 apply#[vt,lo,m,i,rfl,hv,hi,λa' ha=>?_];let#[dr,ls,r1,r2]:=ha.ex
 simp! only[r1,T.qG,T.G3,SA]
 have ew:(gA (e_ m i)).whole=(e_ m i).whole:=rfl;rw[ew];by_cases hw:(e_ m i).whole=true
 rw[aq hw];have e:iG m i=[]:=by unfold iG;rw[aq (.inl hw)]
 have:=q H (am.refl _);rw[e]at this;show this;rw[ay hw];apply#[vt,lo,m,i,rfl,hv,hi,λH1 s1=>?_];have es:=vv ((iT m i).map λx=>x.source) (s:="text") (y:=.text) ();have h1':=s1 _ _ h1
 simp! only[es,h1',T.bM,T.cR,cU]
 by_cases hs:((iT m i).map λx=>x.source)=some .text
 rw[aq (by simpa using hs)];have e:iG m i=[]:=by unfold iG;rw[aq (.inr ((DG m i .text).mp hs))]
 have:=q H1 s1;rw[e]at this;show this;rw[ay (by simpa using hs)];have e:iG m i=(bx m.p i).text:=by
  unfold iG;rw[ay];rintro(z|z);show hw z;show hs ((DG m i .text).mpr z)
 apply .inl #[lb,_,_,_,rfl,rfl,az.of (s1 _ _ g1),cG (cy ea),?_];apply be.mk (s1 _ _ i1) T.b8 T.wM (Ni _ _ _) ?_;have:=q H1 s1;rw[e]at this;show this
def Kp:Sp:=λvs H Q _=>X2 λ(ah t:aE)=>N4 (vs=[vT ah,vT t]) (ah.length<=10) (t.length<=90000) (Q (vT (jN ah t)) H)
def HG:aV P w K mg base "in_quotes" 1 ["ahead","text"] Kp:=by
 apply bd T.abL ["ahead","text"] ?_;rintro f _ _ _ s H _ Q E hr nd ⟨ah,t,rfl,hah,ht,q⟩;apply#[_,(aA (aT (qV (bQ fu '1' bG (bO _)) bG (eD fV (eD fV (eD fV '0' bG) '1') bG)))),?_];have e0:=wq t;have abi:bN "\""=S (cd [34]):=by rw[ga];rfl
 simp![vT]at q⊢
 simp! only[e0,abi]
 unfold jN at q;cases t with
 |nil=>show q
 |cons c t=>
  rw[ay ()]at q;simp![p0,bT,bI];simp![GC,ft,dG,ko];simp![cN,rB]at ht⊢;apply#[bX (),bX (),bX (),?_];simp![<-rY];simpa using q
def akr(A:aO):Sp:=λvs H Q _=>X4 λ(vt lo:aa) (m:MS) (i:Nat)=>N4 (vs=[.ref vt,.int (i:Nat)]) (br A H vt lo m) (i<m.p.length) (Q (vT (mH (d9 (kI m i)))) H)
def agj(k:jE)(h:0<d9 k):bN (toString ((d9 k:Nat):Int))=S (cd (mH (d9 k))):=by
 cases k<;>first|show absurd h ()|decide
def agi(k:jE):(((d9 k:Nat):Int).natAbs).log2<1920:=by cases k<;>decide
def Z9:aV P w K mg base "level_word" 3 ["visit","place"] (akr A):=by
 apply bd T.abY ["visit","place"] ?_;rintro f _ _ _ s H _ Q E hr nd ⟨vt,lo,m,i,rfl,hv,hi,q⟩;let#[dx,d,lb,lh,h1,h2,h3,h4,h5]:=hv.ex;let#[as,g1,g2,g3]:=h2.ex;let#[a,ea,cA]:=g3 i hi;let#[eO,dF,dE,i1,i2,i3]:=cA.ex;apply#[_,(aA (aT (qV (dq (aJ (Ob T) hr (ag '0' (ag '1' (ag (cq T.B8 rfl) ao)))) (λ_=>rfl)) (yg Zf rfl T.YU L2.boot_str (ag (aJ (NY T) hr (ag (cr cP (aN '0' rfl) '1' (λ_ _=>rfl)) ao)) ao)) bG))),?_]
 simp! only[]
 apply#[vt,lo,m,i,1,rfl,hv,hi,by decide,?_];have ec:oX m 1 i=decide (0<d9 (kI m i)):=rfl
 simp! only[ec]
 by_cases hl:0<d9 (kI m i)
 rw[aq (by simpa using hl)];apply be.mk h1 T.bM T.cR (cU _ _ _ _ _) (.inl #[lb,_,_,_,rfl,rfl,az.of g1,cG (cy ea),a,m.p,i,rfl,cA,hl,?_]);apply#[_,rfl,agi _,?_];have e:=agj _ hl;have q:Q (.str (S (cd (mH (d9 (kI m i)))))) H:=q;rw[<-e]at q;show q;rw[ay (by simpa using hl)];have e0:d9 (kI m i)=0:=by omega
 rw[e0]at q;show q
def TF(A:aO):Sp:=λvs H Q _=>X4 λ(vt lo:aa) (m:MS) (i:Nat)=>N4 (vs=[.ref vt,.int (i:Nat)]) (br A H vt lo m) (i<m.p.length) (Q (vT (sQ (dR m i))) H)
def aaa:aV P w K mg base "on_word" 1 ["visit","place"] (TF A):=by
 apply bd T.ab8 ["visit","place"] ?_;rintro f _ _ _ s H _ Q E hr nd ⟨vt,lo,m,i,rfl,hv,hi,q⟩;let#[dx,d,lb,lh,h1,h2,h3,h4,h5]:=hv.ex;let#[as,g1,g2,g3]:=h2.ex;let#[a,ea,cA]:=g3 i hi;let#[eO,dF,dE,i1,i2,i3]:=cA.ex;apply#[_,(aC (bY (bQ jl (aN (cr cP (aN '0' rfl) '1' (λ_ _=>rfl)) rfl) bG (bO _)) (aA (aT bG)) bZ)
   (aA (aT (qV (dq (cr cP (aN '0' rfl) '1' (λ_ _=>rfl)) (λ_=>rfl)) bG bG)))),?_]
 have ek:decide (S (mb m.p i).kind=bN "check")=decide (kI m i=.check):=xN (kI m i) (k':=.check) ()
 simp! only[h1,T.bM,T.cR,cU]
 apply .inl #[lb,_,_,_,rfl,rfl,az.of g1,cG (cy ea),?_]
 simp! only[i1,T.b8,T.ik,kn,ek]
 unfold dR at q;by_cases hk:kI m i=.check
 rw[aq hk]at q;rw[b_ hk];simp![f7,bT,bI];apply be.mk h1 T.bM T.zG (Fi _ _ _ _ _) (.inl #[lo,_,_,_,rfl,rfl,az.of h5,cG (zM (by rw[hv.ok.on];show hi)),_,rfl,?_]);cases ho:hb m.on i with
 |true=>
  rw[ho]at q;show q
 |false=>
  rw[ho]at q;show q
 rw[ay hk]at q;rw[cO hk];show q
def ak9(A:aO):Sp:=λvs H Q _=>X4 λ(vt lo:aa) (m:MS) (i:Nat)=>N4 (vs=[.ref vt,.int (i:Nat)]) (br A H vt lo m) (i<m.p.length) (∀H',am H H'->Q (vT (qY m i)) H')
def ajg{rs:cD}(h:kg rs=true)(k:jE):nr (CJ rs k)=true:=by
 let#[h1,h2]:=BA h;unfold CJ;have hk:=QA k;rw[cZ,ca ()];show h2 _ (LQ _)
def ET{m:MS}(ok:nh m)(i:Nat):(e_ m i).role≠[]/\(e_ m i).role.length<=8:=by
 have:=ajg ok.ar (kI m i);unfold nr at this;simp![bS,bw]at this;apply#[λz=>?_,this.2.1];have h1:=this.1;rw[show(CJ m.rs (kI m i)).role=[] from z]at h1;cases h1
def P5{m:MS}(ok:nh m){i:Nat}(hi:i<m.p.length):(iB m i).length<=50000:=by
 unfold iB;split;show eX _;show T8 m ok.pg hi .hint
def R8{m:MS}(ok:nh m){i:Nat}(hi:i<m.p.length):(iG m i).length<=20:=by
 unfold iG;split;show eX _;show(He ok.pg hi).2
def xH(a t:aE):(jN a t).length<=a.length+t.length+2:=by
 unfold jN;split;show eX _;simp;omega
def aaz:aV P w K mg base "what_is_said" 27 ["visit","place"] (ak9 A):=by
 apply bd T.acN ["visit","place"] ?_;rintro f _ _ _ s H _ Q E hr nd ⟨vt,lo,m,i,rfl,hv,hi,q⟩;let#[dx,d,lb,lh,h1,h2,h3,h4,h5]:=hv.ex;let#[as,g1,g2,g3]:=h2.ex;let#[a,ea,cA]:=g3 i hi;let#[eO,dF,dE,i1,i2,i3]:=cA.ex;apply#[_,(aA (aT (aJ (Dq T) hr (ag (eS (ag (aN (aJ (uE T) hr (ag '0' (ag '1' ao))) rfl) (ag (aJ (Z9 T) hr (ag '0' (ag '1' ao))) (ag (aJ (HG T) hr (ag bG (ag (aJ (HE T) hr (ag '0' (ag '1' ao))) ao))) (ag (qV (dq (aN (cr cP (aN '0' rfl) '1' (λ_ _=>rfl)) rfl) (λ_=>rfl)) bG bG) (ag (aJ (aaa T) hr (ag '0' (ag '1' ao))) (ag (aJ (HG T) hr (ag bG (ag (aJ (aah T) hr (ag '0' (ag '1' ao))) ao))) (ag (aJ (HG T) hr (ag bG (ag (aJ (aaw T) hr (ag '0' (ag '1' ao))) ao))) ao)))))))) ao)))),?_];apply#[vt,lo,m,i,rfl,hv,hi,λa' ha=>?_];let#[dr,ls,r1,r2]:=ha.ex;apply be.mk r1 T.qG T.M3 (aiN _ _) ?_;apply#[vt,lo,m,i,rfl,hv,hi,?_];apply#[vt,lo,m,i,rfl,hv,hi,λH1 s1=>?_];have nl:=xW m hv.ok.pg hi;apply#[[],fP m i,rfl,by simp,by omega,?_];have bE:∀v:V,v=vT (if (bx m.p i).off=true then aY "off" else[])->(TF A [.ref vt,.int (i:Nat)] H1 (λx3 H2=>TM A [.ref vt,.int (i:Nat)] H2 (λx4 H3=>Kp [.str (bN "hint "),x4] H3 (λx5 H4=>TN A [.ref vt,.int (i:Nat)] H4 (λx6 H5=>Kp [.str (bN "text "),x6] H5 (λx7 H6=>∀p,H6 p=none->TJ [.ref p] (L2.upd H6 p (.lst [.str (S (gA (e_ m i)).role),vT (mH (d9 (kI m i))),vT (jN [] (fP m i)),v,x3,x5,x7])) Q E) E) E) E) E) E):=by
  rintro v rfl;apply#[vt,lo,m,i,rfl,hv.same s1,hi,vt,lo,m,i,rfl,hv.same s1,hi,λH2 s2=>?_];have e1:V.str (bN "hint ")=vT (aY "hint "):=by unfold vT;rw[ga,Hl _ ()]
  have e2:V.str (bN "text ")=vT (aY "text "):=by unfold vT;rw[ga,Hl _ ()]
  have hl:=P5 hv.ok hi;have ol:=R8 hv.ok hi;apply#[aY "hint ",iB m i,by rw[e1],by decide,by omega,?_];apply#[vt,lo,m,i,rfl,hv.same (s1.trans s2),hi,λH3 s3=>?_];apply#[aY "text ",iG m i,by rw[e2],by decide,by omega,λp hp=>?_];have s123:=s1.trans (s2.trans s3);have rl:=(ET hv.ok i).2;have key:=Tb (h:=#[(bx m.p i).id,(e_ m i).role,d9 (kI m i),fP m i,(bx m.p i).off,dR m i,iB m i,iG m i]) (ET hv.ok i).1 (by show dR m i<=2;unfold dR;split;(split;show bj _;decide);decide);apply#[p,_,rfl,(by unfold tM;rw[aH];rfl:tM _ p [(e_ m i).role,mH (d9 (kI m i)),jN [] (fP m i),if (bx m.p i).off=true then aY "off" else[],sQ (dR m i),jN (aY "hint ") (iB m i),jN (aY "text ") (iG m i)]),?_,λH4 s4=>?_];have l1:=xH [] (fP m i);have l2:=xH (aY "hint ") (iB m i);have l3:=xH (aY "text ") (iG m i);have l4:(mH (d9 (kI m i))).length<=1:=by unfold mH;split;(show eX _);show bj _
  have l5:(sQ (dR m i)).length<=6:=by unfold sQ;split;(decide);split;(decide);decide
  have l6:(if (bx m.p i).off=true then aY "off" else[]).length<=3:=by split;(decide);decide
  have l7:(aY "hint ").length=5:=by decide
  have l8:(aY "text ").length=5:=by decide
  simp![ba,gY,gi,Wa,rB]at l1⊢;omega;have:=q H4 (s123.trans ((am.new hp).trans s4));unfold qY at this;rw[<-key]at this;show this
 apply be.mk (s1 _ _ h1) T.bM T.cR (cU _ _ _ _ _) (.inl #[lb,_,_,_,rfl,rfl,az.of (s1 _ _ g1),cG (cy ea),be.mk (s1 _ _ i1) T.b8 T.wK (Nh _ _ _) #[_,rfl,?_]]);have eo:(mb m.p i).off=(bx m.p i).off:=rfl;rw[eo];have Ts:6+1<=sizeLine:=by decide
 cases ho:(bx m.p i).off with
 |true=>
  rw[ho]at bE
  simp! only[Ts]
  show bE (.str (bN "off")) (by unfold vT;rw[aq rfl,ga,Hl _ ()])
 |false=>
  rw[ho]at bE
  simp! only[Ts]
  show bE (.str (bN "")) rfl
structure pY (H:Hp)(L:aa)(g:List (List Nat)):Prop where
 ex:∃rs:List aa,H L=some (.lst (rs.map V.ref))/\Paired (dY H) rs g
def pY.same{H H':Hp}{L:aa}{g:List (List Nat)}(h:pY H L g)(s:am H H'):pY H' L g:=
 let ⟨rs,h1,h2⟩:=h.ex
 #[rs,s _ _ h1,Paired.iD h2 λ_ _ z=>s _ _ z]
def af4{te:TE}{σ:L2.St}{H1:Hp}{Q:aa->Hp->Prop}{ns:List Nat}{f:Nat->List Nat}{a:aa}{i:Nat}(hS:dY H1 a ns)(hz:ns.length<=100000)(he:∀n∈ns,∀(H':Hp)(Q2:V->Hp->Prop),am H1 H'->(∀b vV,am H' vV->H' b=none->dY vV b (f n)->Q2 (.ref b) vV)->te ((bD σ [i]).set i (some (.int (n:Nat)))) H' Q2)(q:∀D H',am H1 H'->H1 D=none->pY H' D (ns.map f)->Q D H'):
  ∀D,H1 D=none->∃W:Nat->Nat->Hp->Prop,(∃m,W 0 m (L2.upd H1 D (.lst [])))/\∀n m H,W n m H->
   ((gE K a).stop n H/\Q D H)\/((gE K a).go n H/\∃Nx:Hp->Prop,(∀H',Nx H'->∃m',m'<m/\W (n+1) m' H')/\∀x H',(gE K a).ib n H x H'->iU i x (bD σ [i]) H' λσ2 H2=>bD σ2 [i]=bD σ [i]/\pR σ2 H2 λb H3=>
    if b=true then te σ2 H3 λy H4=>∃acc,H4 D=some (.lst acc)/\acc.length<sizeLine/\Nx (L2.upd H4 D (.lst (acc++[y])))else Nx H3):=λD hD=>by
 apply xR (K:=K) (a:=a) (xs:=ns.map λn=>V.int (n:Nat)) (λn H=>am H1 H/\∃rs:List aa,H D=some (.lst (rs.map V.ref))/\Paired (λb l=>dY H b l/\b≠D) rs ((ns.take n).map f)) #[vj hD,[],by rw[aH];rfl,.nil] (λn H _ ⟨s,_⟩=>s.seq (az.of hS)) ?_ λH ⟨s,rs,e,pr⟩=>?_;rintro n x H hx ⟨s,rs,e,pr⟩;obtain⟨k,hk,rfl⟩:∃k,ns[n]? =some k/\x=V.int (k:Nat):=by
  rw[cx]at hx;cases e:ns[n]? with
  |none=>rw[e]at hx;cases hx
  |some k=>rw[e]at hx;show#[k,rfl,(cV hx).symm]
 have hlt:n<ns.length:=(List.getElem?_eq_some_iff.mp hk).1;have hrl:rs.length=n:=by
  have:=pr.length;rw[aD,ka]at this;omega
 apply#[tP,?_];show te _ H _;apply he k (fh hk) H _ s λb H4 s4 hb aeD=>#[_,s4 _ _ e,by rw[aD,hrl];show fj hlt (bX hz),?_,rs++[b],?_,?_];intro c o hc;rw[aG (bf hc hD)];show s4 _ _ (s _ _ hc);rw[aH,cB];rfl;have RH:b≠D:=λz=>by rw[z,e]at hb;cases hb
 rw[gz hk,cB];apply Paired.snoc #[?_,RH] (Paired.iD pr λc l z=>#[?_,z.2]);unfold dY;rw[aG z.2];show s4 _ _ z.1;unfold dY;rw[aG RH];show aeD;rw[aD,jy]at pr;show q D H s hD #[rs,e,Paired.iD pr λ_ _ z=>z.1]
def akb(A:aO):Sp:=λvs H Q _=>X4 λ(vt lo:aa) (m:MS) (t:Nat)=>N3 (vs=[.ref vt,.int (t:Nat)]) (br A H vt lo m) (∀D H',am H H'->H D=none->pY H' D (dI m t)->Q (.ref D) H')
def NX:aV P w K mg base "grid_of" 3 ["visit","table"] (akb A):=by
 apply bd T.abE ["visit","table","row"] ?_;rintro f _ _ _ s H _ Q E hr nd ⟨vt,lo,m,t,rfl,hv,q⟩;apply#[_,(aA (aT (fX eM rfl rfl nd (eF (aJ (HL T) hr (ag '0' (ag '1' ao)))) (eN (own:=[("row",2)]) rfl) (λ_ _ _ _ _ _=>(cC 2 nd)) (λ_ _ _ _ _ _=>by show i6) (λ_ _ _ _ _ _ _=>by show(iI (HL T) (hr.mono ()) oh rfl (ag '0' (ag '2' ao))))))),?_];apply#[vt,lo,m,t,rfl,hv,λL H1 s1 hf hl=>#[L,rfl,#[_,az.of hl],?_]];have hsl:=yq m hv.ok.pg t;apply af4 (f:=fb m) hl () (λn hn H' Q2 s' k2=>?_) λD H' s' hD hg=>q D H' (s1.trans s') (s1.free hD) hg;show#[vt,lo,m,n,rfl,hv.same (s1.trans s'),λD H2 s2 hD mB=>k2 D H2 s2 hD mB]
def sF(L:aa)(r c:Int):List (Str×V):=[("grid",.ref L),("row",.int r),("column",.int c)]
def BE(L:aa)(r c:Int):(sF L r c).lookup ("grid":Str)=some (V.ref L):=rfl
def BF(L:aa)(r c:Int):(sF L r c).lookup ("row":Str)=some (V.int r):=rfl
def BD(L:aa)(r c:Int):(sF L r c).lookup ("column":Str)=some (V.int c):=rfl
structure oM (A:aO)(H:Hp)(a:aa)(x:Spot):Prop where
 ex:∃dx L,H a=some (.ins A.Spot dx (sF L (x.row:Nat) (x.col:Nat)))/\pY H L x.grid
def oM.same{H H':Hp}{a:aa}{x:Spot}(h:oM A H a x)(s:am H H'):oM A H' a x:=
 let ⟨dx,L,h1,h2⟩:=h.ex
 #[dx,L,s _ _ h1,h2.same s]
def ajR(A:aO):Sp:=λvs H Q _=>X5 λ(p dx L:aa) (r c:Int)=>N3 (vs=[.ref p,.ref L,.int r,.int c]) (H p=some (.ins A.Spot dx [])) (∀H',H' p=some (.ins A.Spot dx (sF L r c))->bc p H H'->Q .bn H')
def Y':oz P w K mg base "Spot" A.Spot 1 ["self","grid","row","column"] (ajR A):=by
 apply uC T.afp ["self","grid","row","column"] ?_;rintro f _ _ _ s H _ Q E hr nd ⟨p,dx,L,r,c,rfl,h1,q⟩;apply#[_,(aC (cQ '0' '1' rfl)
   (aC (cQ '0' '2' rfl)
   (aA (cQ '0' '3' rfl)))),?_]
 simp! only[h1,aH,yD,T.mF,T.wO,T.wP,T.wN]
 show#[(by show(0:Nat)<1000;decide),(by show(1:Nat)<1000;decide),(by show(2:Nat)<1000;decide),q _ aH bc.upd]
def akU(A:aO):Sp:=λvs H Q E=>X4 λ(vt lo:aa) (m:MS) (i:Nat)=>N5 (vs=[.ref vt,.int (i:Nat)]) (br A H vt lo m) (i<m.p.length) ((kI m i=.cell\/kI m i=.th)) ((match jp m i with
 |some x=>∀a H',am H H'->oM A H' a x->Q (.ref a) H'
 |none=>∀H',am H H'->E (.ref A.jB) none H'))
def Hr{m:MS}(Pg:PG m.p){i:Nat}(hi:i<m.p.length)(hk:kI m i=.cell\/kI m i=.th):∃r t,par m.p i=some r/\par m.p r=some t/\r<m.p.length/\t<m.p.length:=by
 have Ie:∀a b:jE,nq a b=true->(a=.cell\/a=.th)->b=.row:=by
  intro a b;cases a<;>cases b<;>decide
 have h0:i≠0:=by
  rintro rfl;have:=(g8 Pg).2.2.2;unfold kI at hk;rw[this]at hk;rcases hk with z|z<;>cases z
 let#[_,_,r,e1,f1]:=xP Pg (i:=i) () hi;have hr:=jR e1;have k1:=Ie _ _ f1 hk;have h1:r≠0:=by
  rintro rfl;rw[(g8 Pg).2.2.2]at k1;cases k1
 let#[_,_,t,e2,f2]:=xP Pg (i:=r) () ();have:=jR e2;show#[r,t,e1,e2,by omega,by omega]
theorem QB{i:Nat}:∀(l:List Nat)(k:Nat),k<l.idxOf i->l[k]? ≠some i
 |[],k,h=>by simp
 |a::l,k,h=>by
  rw[Ch]at h;by_cases e:a=i
  rw[e]at h;simp at h;rw[Dc e]at h;cases k with
  |zero=>simpa using e
  |succ k=>show QB l k (by simpa using h)
def Qz{l:List Nat}{i:Nat}(h:l.contains i=true):∃z,(l.map λn=>V.int (n:Nat))[l.idxOf i]? =some z/\ir z (.int (i:Nat))=true/\∀k z',k<l.idxOf i->(l.map λn=>V.int (n:Nat))[k]? =some z'->ir z' (.int (i:Nat))=false:=by
 have hm:=lm.mp h;have hl:=v9 hm;apply#[.int (i:Nat),?_,by simp[ir],λk z' hk hz=>?_];rw[cx,ca hl,Cg hl];rfl;rw[cx,ca ()]at hz;cases hz;have:l[k]≠i:=λe=>QB l k hk (by rw[ca (),e]);simp[ir];omega
def pY.row{H:Hp}{L:aa}{g:List (List Nat)}(h:pY H L g):∃rs:List aa,H L=some (.lst (rs.map V.ref))/\rs.length=g.length/\∀(k:Nat)(l:List Nat),g[k]? =some l->∃b,rs[k]? =some b/\dY H b l:=by
 let#[rs,h1,h2]:=h.ex;show#[rs,h1,h2.length,λk l hl=>sZ h2 hl]
def Iq{m:MS}(Pg:PG m.p)(t:Nat):(dI m t).length<=16:=by
 unfold dI;rw[aD];show yq m Pg t
def aam:aV P w K mg base "spot_of" 4 ["visit","place"] (akU A):=by
 apply bd T.acx ["visit","place","row_place","grid","row","places"] ?_;rintro f _ _ _ s H _ Q E hr nd ⟨vt,lo,m,i,rfl,hv,hi,hk,q⟩;let#[dx,d,lb,lh,h1,h2,h3,h4,h5]:=hv.ex;let#[as,g1,g2,g3]:=h2.ex;let#[a,ea,cA]:=g3 i hi;let#[eO,dF,dE,i1,i2,i3]:=cA.ex;let#[r,t,e1,e2,jL,ht]:=Hr hv.ok.pg hi hk;let#[a2,HS,hb2]:=g3 r jL;let#[bx2,xQ,afZ,j1,j2,j3]:=hb2.ex;have p1:(mb m.p i).parent=((r:Nat):Int):=by show pz (par m.p i)=_;rw[e1];rfl
 have p2:(mb m.p r).parent=((t:Nat):Int):=by show pz (par m.p r)=_;rw[e2];rfl
 have OQ:jp m i=((dI m t).findIdx? λl=>l.contains i).map λk=>#[dI m t,k,((dI m t).getD k []).idxOf i]:=by
  unfold jp;rw[e1];simp![de];rw[e2];rfl
 apply#[_,(aC (bu 2 nd (aN (cr cP (aN '0' rfl) '1' (λ_ _=>rfl)) rfl))
   (aC (bu 3 nd (aJ (NX T) hr (ag '0' (ag (aN (cr cP (aN '0' rfl) '2' (λ_ _=>rfl)) rfl) ao))))
   (aC (kR gw rfl (EF rfl T.Db (ag '3' ao)) (yh rfl (kP (cC 4 nd) (kP (cC 5 nd) vc))) (aA (bY (bQ sU '1' '5' rfl) (aA (aT (tj (Y' T) (hr.mono ()) cn rfl (ag '3' (ag '4' (ag (iH jb Mo WE Ry '5' (ag '1' ao)) ao)))))) bZ)))
   (aA (eG T.Fw eI rfl rfl))))),?_]
 simp! only[h1,T.bM,T.cR,cU]
 apply .inl #[lb,_,_,_,rfl,rfl,az.of g1,cG (cy ea),?_]
 simp! only[i1,T.b8,T.qd,zK,p1,h1,T.bM,T.cR,cU]
 apply .inl #[lb,_,_,_,rfl,rfl,az.of g1,cG (cy HS),?_]
 simp! only[j1,T.b8,T.qd,zK,p2]
 apply#[vt,lo,m,t,rfl,hv,λL H1 s1 hL hg=>?_];let#[rs,r1,r2,r3]:=hg.row;have hgl:=Iq hv.ok.pg t;apply#[L,_,rfl,az.of r1,Ii (xs:=rs.map V.ref) (λj σ H'=>(∃u v,σ=[some (.ref vt),some (.int (i:Nat)),some (.int (r:Nat)),some (.ref L),u,v])/\am H1 H'/\∀k l,k<j->(dI m t)[k]? =some l->l.contains i=false) #[#[_,_,rfl],am.refl _,nofun] (λj σ H' _ ⟨_,s2,_⟩=>az.of (s2 _ _ r1)) ?_ ?_];rintro j y σ H' hy ⟨⟨u,v,rfl⟩,s2,hn⟩ T' hT;have hj:j<(dI m t).length:=by
  have:=(List.getElem?_eq_some_iff.mp hy).1;rw[aD]at this;omega
 obtain⟨l,el⟩:∃l,(dI m t)[j]? =some l:=#[_,ca hj];let#[b,eb,kz]:=r3 j l el;rw[cy eb]at hy;cases hy;have s3:am H1 (L2.upd H' T' (.tup [.int (j:Nat),.ref b])):=s2.trans (am.new hT);apply#[T',_,rfl,bL.of aH,rfl,_,_,rfl,_,_,rfl,rfl,?_];have hbl3:=s3 _ _ kz;apply#[b,_,rfl,.inl (az.of hbl3),rfl,xi _,?_];show if pE (V.int (i:Nat)) (l.map λk=>V.int (k:Nat))=true then _ else _
 rw[A2];by_cases hc:l.contains i=true
 rw[aq hc];let#[z,z1,z2,z3]:=Qz hc;have HU:(dI m t).findIdx? (λl=>l.contains i)=some j:=by
  rw[List.findIdx?_eq_some_iff_getElem];apply#[hj,?_,λk hk=>?_];have:=ca hj;rw[el]at this;rw[<-cV this];show hc;have:=hn k _ hk (ca ());rw[this];show dh
 rw[OQ,HU]at q;simp![fA]at q;have abd:(dI m t).getD j []=l:=by rw[cZ,el];rfl
 rw[abd]at q;apply#[.inl #[rfl,_,az.of hbl3],b,_,_,l.idxOf i,z,rfl,rfl,az.of hbl3,rfl,xi _,z1,z2,z3,λx lL nx n6 Ep=>?_];apply#[x,lL,L,_,_,rfl,aH,λH5 adk b5=>#[rfl,?_]];have s5:=am.made nx n6 (λc o aaP aaQ=>b5 c o aaP aaQ);show q x H5 (s1.trans (s3.trans s5)) #[lL,L,adk,hg.same (s3.trans s5)];rw[ay hc];apply#[#[_,_,rfl],s3,λk l' hk AM=>?_];by_cases e:k=j
 subst e;rw[el]at AM;cases AM;simpa using hc;show hn k l' () AM;rintro σ H' ⟨⟨u,v,rfl⟩,s2,hn⟩;have HU:(dI m t).findIdx? (λl=>l.contains i)=none:=by
  rw[List.findIdx?_eq_none_iff];intro l hl;let#[k,hk,e]:=F_ hl;show hn k l (by rw[aD,r2];show hk) (by rw[ca hk,e])
 rw[OQ,HU]at q;show q H' (s1.trans s2)
def B6:List W:=[cs "cell",cs "th"]
def Zm(k:jE):B6.contains (kT k)=(decide (k=.cell)||decide (k=.th)):=by
 have:∀k∈lD,B6.contains (kT k)=(decide (k=.cell)||decide (k=.th)):=by decide+kernel
 show this k (sG k)
def EH{p:aX}{x:W}{i:Nat}(h:lS p x=some i):i<p.length:=Gg.mp (List.mem_of_find?_eq_some h)
def Tx(A:aO):Sp:=λvs H Q E=>X4 λ(vt lo:aa) (m:MS) (x:W)=>N3 (vs=[.ref vt,.str (S x)]) (br A H vt lo m) ((match lS m.p x with
 |none=>∀H',am H H'->E (.ref A.jA) none H'
 |some i=>if (decide (kI m i=.cell)||decide (kI m i=.th))=true then(match jp m i with
  |some y=>∀a H',am H H'->oM A H' a y->Q (.ref a) H'
  |none=>∀H',am H H'->E (.ref A.jB) none H')else ∀H',am H H'->E (.ref A.kj) none H'))
def HB:aV P w K mg base "cell_spot" 5 ["visit","ident"] (Tx A):=by
 apply bd T.abr ["visit","ident","place"] ?_;rintro f _ _ _ s H _ Q E hr nd ⟨vt,lo,m,x,rfl,hv,q⟩;let#[dx,d,lb,lh,h1,h2,h3,h4,h5]:=hv.ex;let#[as,g1,g2,g3]:=h2.ex;apply#[_,(aC (bu 2 nd (aJ (sh T) hr (ag (aN '0' rfl) (ag '1' ao))))
   (aC (bY (bQ qT (aN (cr cP (aN '0' rfl) '2' (λ_ _=>rfl)) rfl) (cq T.yJ rfl) rfl) (aA (eG T.Fx eI rfl rfl)) bZ)
   (aA (aT (aJ (aam T) hr (ag '0' (ag '2' ao))))))),?_]
 simp! only[h1,T.bM,T.cR,cU]
 apply#[lb,m.p,x,rfl,h2,?_];cases e:lS m.p x with
 |none=>
  rw[e]at q;show q
 |some i=>
  rw[e]at q;dsimp only at q;have hi:=EH e;intro H1 s1;let#[a,ea,cA]:=g3 i hi;let#[eO,dF,dE,i1,i2,i3]:=cA.ex;have h1':=s1 _ _ h1
  simp! only[h1',T.bM,T.cR,cU]
  apply .inl #[lb,_,_,_,rfl,rfl,az.of (s1 _ _ g1),cG (cy ea),?_];have i1':=s1 _ _ i1
  simp! only[i1',T.b8,T.ik,kn]
  apply nV (l:=B6) (neg:=true) (T.alW H1) ?_;have ek:B6.contains (mb m.p i).kind=(decide (kI m i=.cell)||decide (kI m i=.th)):=Zm _
  simp! only[ek]
  cases hc:(decide (kI m i=.cell)||decide (kI m i=.th))with
  |false=>
   rw[hc]at q;show q H1 s1
  |true=>
   rw[hc]at q;have hk:kI m i=.cell\/kI m i=.th:=by simpa using hc
   simp![bz,f7,bT,bI]at q⊢;apply#[vt,lo,m,i,rfl,hv.same s1,hi,hk,?_];cases es:jp m i with
   |none=>
    rw[es]at q;show λH2 s2=>q H2 (s1.trans s2)
   |some y=>
    rw[es]at q;show λa2 H2 s2 h=>q a2 H2 (s1.trans s2) h
def qm(g:List (List Nat))(r c:Int):Option Nat:=if r<0\/c<0 then none else gQ g r.toNat c.toNat
def akE:Sp:=λvs H Q _=>X4 λ(L:aa) (g:List (List Nat)) (r c:Int)=>N3 (vs=[.ref L,.int r,.int c]) (pY H L g) (Q (.int (pz (qm g r c))) H)
def Ol:aV P w K mg base "place_at" 1 ["grid","row","column"] akE:=by
 apply bd T.acb ["grid","row","column"] ?_;rintro f _ _ _ s H _ Q E hr nd ⟨L,g,r,c,rfl,hg,q⟩;let#[rs,r1,r2,r3]:=hg.row;apply#[_,(aC (bY (PW.pt (jm (bQ sV '1' cS (bO _)) (jm (bQ Bp '1' (dg dW rfl T.dH L2.boot_len (ag '0' ao)) (bO _)) (jm (bQ sV '2' cS (bO _)) (oj (bQ Bp '2' (dg dW rfl T.dH L2.boot_len (ag (cr cP '0' '1' (λ_ _=>rfl)) ao)) (bO _))))))) (aA (aT (cq T.mi rfl))) bZ)
   (aA (aT (cr cP (cr cP '0' '1' (λ_ _=>rfl)) '2' (λ_ _=>rfl))))),?_]
 simp! only[]
 unfold qm at q;by_cases IZ:r<0
 rw[aq (by simpa using IZ)];rw[aq (.inl IZ)]at q;show q;rw[ay (by simpa using IZ)];apply#[_,.inl #[_,az.of r1,rfl],?_];rw[aD,r2];by_cases hrl:((g.length:Nat):Int)<=r
 rw[aq (by simpa using hrl)];have:(if r<0\/c<0 then none else gQ g r.toNat c.toNat)=none:=by
  split;rfl;unfold gQ;rw[ig ()];rfl
 rw[this]at q;show q;rw[ay (by simpa using hrl)];obtain⟨k,hk,rfl⟩:∃k:Nat,k<g.length/\r=((k:Nat):Int):=#[r.toNat,by omega,by omega];obtain⟨l,el⟩:∃l,g[k]? =some l:=#[_,ca hk];let#[b,eb,kz]:=r3 k l el;by_cases nO:c<0
 rw[aq (by simpa using nO)];rw[aq (.inr nO)]at q;show q;rw[ay (by simpa using nO)];rw[ay (by rintro(z|z);omega;show nO z),oE]at q;unfold gQ at q;rw[el]at q;simp![de]at q;apply .inl #[L,_,_,_,rfl,rfl,az.of r1,cG (cy eb),?_]
 simp! only[]
 apply#[_,.inl #[_,az.of kz,rfl],?_];rw[aD];by_cases gk:((l.length:Nat):Int)<=c
 rw[aq (by simpa using gk)];rw[ig ()]at q;show q;rw[ay (by simpa using gk)];obtain⟨j,hj,rfl⟩:∃j:Nat,j<l.length/\c=((j:Nat):Int):=#[c.toNat,by omega,by omega];rw[oE,ca hj]at q;apply .inl #[L,_,_,_,rfl,rfl,az.of r1,cG (cy eb),?_];show .inl #[b,_,_,_,rfl,rfl,az.of kz,cG (by rw[cx,ca hj];rfl),q]
def akF(A:aO):Sp:=λvs H Q _=>X3 λ(a:aa) (x:Spot) (d:Nat)=>N4 (vs=[.ref a,.int (d:Nat)]) (oM A H a x) (d<4) (Q (.int (pz (nB x d))) H)
def aac:aV P w K mg base "place_beside" 2 ["spot","way"] (akF A):=by
 apply bd T.acd ["spot","way","step"] ?_;rintro f _ _ _ s H _ Q E hr nd ⟨a,x,d,rfl,hs,aoF,q⟩;let#[dx,L,h1,hg]:=hs.ex;apply#[_,(aC (bu 2 nd (cr cP (cq T.wH rfl) '1' (λ_ _=>rfl)))
   (aA (aT (aJ (Ol T) hr (ag (aN '0' rfl) (ag (eD fV (aN '0' rfl) (cr cP '2' cS (λ_ _=>rfl))) (ag (eD fV (aN '0' rfl) (cr cP '2' cS (λ_ _=>rfl))) ao))))))),?_]
 obtain⟨ad,z1,z2,e1,e2,e3⟩:∃(ad:aa)(z1 z2:Int),([V.ref A.zB,V.ref A.zC,V.ref A.zD,V.ref A.zE]:List V)[d]? =some (.ref ad)/\bL K H ad [.int z1,.int z2]/\qm x.grid ((x.row:Int)+z1) ((x.col:Int)+z2)=nB x d:=by
  match d,aoF with
  |0,_=>
   apply#[A.zB,0,-1,rfl,T.amc H,?_];unfold qm nB;by_cases hc:x.col=0
   rw[aq (.inr ())];simp only;rw[aq hc]
   ·rw[ay ()];simp only;rw[ay hc];congr 1;all_goals omega
  |1,_=>
   apply#[A.zC,0,1,rfl,T.amd H,?_];unfold qm nB;rw[ay ()];simp only;congr 1;all_goals omega
  |2,_=>
   apply#[A.zD,-1,0,rfl,T.ame H,?_];unfold qm nB;by_cases hc:x.row=0
   rw[aq (.inl ())];simp only;rw[aq hc]
   ·rw[ay ()];simp only;rw[ay hc];congr 1;all_goals omega
  |3,_=>
   apply#[A.zE,1,0,rfl,T.amf H,?_];unfold qm nB;rw[ay ()];simp only;congr 1;all_goals omega
 rw[<-e3]at q
 simp! only[]
 apply .inr (.inl #[A.wH,_,_,_,rfl,rfl,T.amb H,cG e1,?_])
 simp! only[h1,T.mF,T.wO,T.wP,T.wN,BE,BF,BD]
 apply .inr (.inl #[ad,_,_,_,rfl,rfl,e2,cG (j:=0) rfl,?_])
 simp! only[h1,T.mF,T.wO,T.wP,T.wN,BE,BF,BD]
 apply .inr (.inl #[ad,_,_,_,rfl,rfl,e2,cG (j:=1) rfl,?_])
 simp! only[]
 show#[L,x.grid,_,_,rfl,hg,q]
def Lf(H:Hp)(a:aa)(zs:List (Option Nat)):Prop:=H a=some (.lst (zs.map λz=>V.int (pz z)))
def akB(A:aO):Sp:=λvs H Q _=>X5 λ(vt lo l:aa) (m:MS) (zs:List (Option Nat))=>N6 (vs=[.ref vt,.ref l]) (br A H vt lo m) (Lf H l zs) ((∀j,some j∈zs->j<m.p.length)) (zs.length<=1000) (∀D H',am H H'->H D=none->dY H' D ((zs.filterMap id).filter (vA m))->Q (.ref D) H')
theorem Lg:∀zs:List (Option Nat),((zs.map λz=>V.int (pz z)).filter λx=>!decide (x=V.int (-1)))=(zs.filterMap id).map λn=>V.int (n:Nat)
 |[]=>rfl
 |none::zs=>by
  rw[ba,gd,ay (by simp[pz]),Lg zs];rfl
 |some n::zs=>by
  rw[ba,gd,aq (by simp![pz,V.int.injEq,pX,o_];omega),Lg zs];rfl
def Oi:aV P w K mg base "only_ths" 1 ["visit","places"] (akB A):=by
 apply bd T.ab9 ["visit","places","found","place"] ?_;rintro f _ _ _ s H _ Q E hr nd ⟨vt,lo,l,m,zs,rfl,hv,hl,hz,hn,q⟩;let#[dx,d,lb,lh,h1,h2,h3,h4,h5]:=hv.ex;let#[as,g1,g2,g3]:=h2.ex;apply#[_,(aC (yk (i:=2) eM rfl rfl nd rfl rfl (yz rfl rfl rfl rfl) (eF '1') (eN (own:=[("place",3)]) rfl) (λ_ _ _ _ _ _=>(cC 3 nd)) (λ_ _ _ _ _ _=>by show(kS (bQ jl '3' (cq T.mi rfl) (bO _)))) (λ_ _ _ _ _ _ _=>by show(pv 3)))
   (aA (aT (fX eM rfl rfl nd (eF '2') (eN (own:=[("place",3)]) rfl) (λ_ _ _ _ _ _=>(cC 3 nd)) (λ_ _ _ _ _ _=>by show(kS (bQ fu (iZ (K:=K) rfl (cr (xL (K:=K) rfl) (iZ (K:=K) rfl '0' rfl) '3' (λ_ _=>rfl)) rfl) bG (bO _)))) (λ_ _ _ _ _ _ _=>by show(pv 3)))))),?_]
 apply#[l,rfl,#[_,az.of hl],λD hD=>?_];apply qJ (i:=3) (Q:=λD H'=>H D=none->iU 2 (.ref D) (L2.start RF [.ref vt,.ref l]) H' _) (f:=λx=>!decide (x=V.int (-1))) (h:=id) (az.of hl) (by rw[aD];show bX ()) (λx hx=>?_) (λx hx _=>?_) (λD1 H1 s1 dA jJ=>?_) D hD |>.imp λW hW=>#[hW.1,λn m' H' hw=>(hW.2 n m' H' hw).imp (λz=>#[z.1,z.2 hD]) id];let#[z,_,rfl]:=Ge.mp hx;intro H2 Q2 s2 k2;show#[rfl,k2 H2 (am.refl _)];intro H2 Q2 s2 k2;show k2 H2 (am.refl _);rw[m_,Lg]at dA;have hnz:(zs.filterMap id).length<=1000:=cp (V5 _ _) hn;apply#[D1,rfl,#[_,az.of dA],?_];apply pI (g:=vA m) (h:=λn=>.int (n:Nat)) dA () (λn sw=>?_) (λn sw _=>?_) λD2 H2 s2 hf2 cg=>q D2 H2 (s1.trans s2) (s1.free hf2) cg;let#[z,xG,AW]:=List.mem_filterMap.mp sw;have hj:n<m.p.length:=hz n (by have:z=some n:=AW;rw[<-this];show xG);let#[a,ea,cA]:=g3 n hj;let#[eO,dF,dE,i1,i2,i3]:=cA.ex;intro H3 Q3 s3 k3;have s13:=s1.trans s3;apply be.mk (s13 _ _ h1) T.bM T.cR (cU _ _ _ _ _) (.inl #[lb,_,_,_,rfl,rfl,az.of (s13 _ _ g1),cG (cy ea),be.mk (s13 _ _ i1) T.b8 T.ik (kn _ _ _) #[rfl,?_]]);have:=k3 H3 (am.refl _);unfold vA at this;rw[<-xN (kI m n) (s:="th") (k':=.th) ()]at this;have ek:(mb m.p n).kind=kT (kI m n):=rfl;rw[ek];simpa[oa,V.str.injEq]using this;intro H3 Q3 s3 k3;show k3 H3 (am.refl _)
def T4{m:MS}{x:Spot}(O:nk m x){k:Nat}{l:List Nat}(h:x.grid[k]? =some l):∀j∈l,j<m.p.length:=O.lt l (fh h)
def ake(A:aO):Sp:=λvs H Q _=>X5 λ(vt lo a:aa) (m:MS) (x:Spot)=>N6 (vs=[.ref vt,.ref a]) (br A H vt lo m) (oM A H a x) (nk m x) (x.row<=16) (∀D H',am H H'->H D=none->dY H' D (fN m x)->Q (.ref D) H')
def NZ:aV P w K mg base "heads_above" 2 ["visit","spot"] (ake A):=by
 apply bd T.abH ["visit","spot","row"] ?_;rintro f _ _ _ s H _ Q E hr nd ⟨vt,lo,a,m,x,rfl,hv,hs,O,hrow,q⟩;let#[dx,L,h1,hg]:=hs.ex;apply#[_,(aA (aT (aJ (Oi T) hr (ag '0' (ag (fX eM rfl rfl nd (EG rfl T.zL (ag (aN '1' rfl) ao)) (eN (own:=[("row",2)]) rfl) (λ_ _ _ _ _ _=>(cC 2 nd)) (λ_ _ _ _ _ _=>by show i6) (λ_ _ _ _ _ _ _=>by show(iI (Ol T) (hr.mono ()) oh rfl (ag (iZ (K:=K) rfl '1' rfl) (ag '2' (ag (iZ (K:=K) rfl '1' rfl) ao)))))) ao))))),?_];apply be.mk h1 T.mF T.wP (BF _ _ _) #[_,rfl,by omega,by omega,?_];rw[oE];apply Eh (H1:=H) (i:=2) (k:=x.row) (g:=λ_=>true) (h:=λn=>.int (pz (gQ x.grid n x.col))) () (λ_ _=>pW) (λn hn _=>?_) λD H1 s1 hD dA=>?_;intro H2 Q2 s2 k2;apply be.mk (s2 _ _ h1) T.mF T.wO (BE _ _ _) (be.mk (s2 _ _ h1) T.mF T.wN (BD _ _ _) #[L,x.grid,_,_,rfl,hg.same s2,?_]);have e:qm x.grid ((n:Nat):Int) ((x.col:Nat):Int)=gQ x.grid n x.col:=by
  unfold qm;rw[ay ()];rfl
 rw[e];show k2 H2 (am.refl _);rw[List.filter_eq_self.mpr (λ_ _=>rfl)]at dA;apply#[vt,lo,D,m,(bv x.row).map λk=>gQ x.grid k x.col,rfl,hv.same s1,by unfold Lf;rw[dA,bh];rfl,λj hj=>?_,by rw[aD,ln];omega,λD2 H2 s2 hf2 cg=>q D2 H2 (s1.trans s2) (s1.free hf2) ?_];let#[k,_,hk]:=Ge.mp hj;show rZ O hk;unfold fN;rw[VW]at cg;show cg
def akf(A:aO):Sp:=λvs H Q _=>X5 λ(vt lo a:aa) (m:MS) (x:Spot)=>N6 (vs=[.ref vt,.ref a]) (br A H vt lo m) (oM A H a x) (nk m x) ((∃l,x.grid[x.row]? =some l/\x.col<=l.length/\l.length<=16)) (∀D H',am H H'->H D=none->dY H' D (fR m x)->Q (.ref D) H')
def aml(xs:List V)(k:Nat)(h:k<=xs.length):sf xs none (some ((k:Nat):Int))=xs.take k:=by
 unfold sf;have e1:HT.cu xs.length 0 none=0:=rfl;have e2:HT.cu xs.length xs.length (some ((k:Nat):Int))=k:=by
  show(if ((k:Nat):Int)<0 then(((k:Nat):Int)+(xs.length:Int)).toNat else min ((k:Nat):Int).toNat xs.length)=_;rw[ay ()];omega
 rw[e1,e2,vY,Go]
def N0:aV P w K mg base "heads_before" 2 ["visit","spot"] (akf A):=by
 apply bd T.abI ["visit","spot"] ?_;rintro f _ _ _ s H _ Q E hr nd ⟨vt,lo,a,m,x,rfl,hv,hs,O,hrow,q⟩;let#[dx,L,h1,hg]:=hs.ex;let#[l,el,gk,anY]:=hrow;let#[rs,r1,r2,r3]:=hg.row;let#[b,eb,kz]:=r3 x.row l el;apply#[_,(aA (aT (aJ (Oi T) hr (ag '0' (ag (EC EY (cr cP (aN '1' rfl) (aN '1' rfl) (λ_ _=>rfl)) Sv (yj (aN '1' rfl))) ao))))),?_];apply be.mk h1 T.mF T.wO (BE _ _ _) (be.mk h1 T.mF T.wP (BF _ _ _) (.inl #[L,_,_,_,rfl,rfl,az.of r1,cG (cy eb),?_]));apply be.mk h1 T.mF T.wN (BD _ _ _) #[_,rfl,.inr #[b,_,rfl,az.of kz,λD hD=>?_]];rw[aml _ _ (by rw[aD];show gk)];have s1:am H (L2.upd H D (.lst ((l.map λn=>V.int (n:Nat)).take x.col))):=am.new hD;apply#[vt,lo,D,m,(l.take x.col).map some,rfl,hv.same s1,?_,λj hj=>?_,by rw[aD,ka];omega,λD2 H2 s2 hf2 cg=>q D2 H2 (s1.trans s2) (s1.free hf2) ?_];unfold Lf;rw[aH,bh,<-LW];rfl;let#[k,hk,e]:=Ge.mp hj;cases e;show T4 O el _ (Gf hk);unfold fR;rw[cZ,el];rw[VW]at cg;have:(l.take x.col).filterMap (id∘some)=l.take x.col:=List.filterMap_some;rw[this]at cg;show cg
structure um (m:MS)(x:Spot)(i:Nat):Prop where
 ok:nk m x
 row:x.row<x.grid.length
 rows:x.grid.length<=16
 len:∀l∈x.grid,l.length<=16
 at_:gQ x.grid x.row x.col=some i
 lt:i<m.p.length
def um.line{m:MS}{x:Spot}{i:Nat}(G:um m x i):∃l,x.grid[x.row]? =some l/\l[x.col]? =some i/\x.col<=l.length/\l.length<=16:=by
 have h:=G.at_;unfold gQ at h;cases e:x.grid[x.row]? with
 |none=>rw[e]at h;cases h
 |some l=>
  rw[e]at h;have h:l[x.col]? =some i:=h;show#[l,rfl,h,Cp (List.getElem?_eq_some_iff.mp h).1,G.len l (fh e)]
def alf{m:MS}(ok:nh m){i:Nat}(hi:i<m.p.length){x:Spot}(h:jp m i=some x):um m x i:=by
 have O:=T5 h;unfold jp at h;cases e1:par m.p i with
 |none=>rw[e1]at h;cases h
 |some r=>
  rw[e1]at h;simp![de]at h;cases e2:par m.p r with
  |none=>rw[e2]at h;cases h
  |some t=>
   rw[e2]at h;simp![de]at h;let#[k,hk,rfl]:=Option.map_eq_some_iff.mp h;let#[P8,ael,_]:=List.findIdx?_eq_some_iff_getElem.mp hk;have el:(dI m t)[k]? =some (dI m t)[k]:=ca P8;have hm:=lm.mp ael;apply#[O,P8,Iq ok.pg t,λl hl=>?_,?_,hi];let#[r',_,rfl]:=Ge.mp hl;show yq m ok.pg r';unfold gQ;simp![el,de,cZ,Ct];have:=v9 hm;rw[ca this,Cg this]
def akQ(A:aO):Sp:=λvs H Q _=>X6 λ(vt lo a:aa) (m:MS) (x:Spot) (i:Nat)=>N5 (vs=[.ref vt,.ref a]) (br A H vt lo m) (oM A H a x) (um m x i) (∀H',am H H'->Q (vT (vk m x i)) H')
def G4{m:MS}{x:Spot}(O:nk m x):(∀j∈fN m x,j<m.p.length)/\(fN m x).length<=x.row:=by
 constructor;intro j hj;unfold fN at hj;let#[k,_,hk]:=List.mem_filterMap.mp (Gd.mp hj).1;show rZ O hk;unfold fN;show cp (jw _ _) (cp (V5 _ _) (by rw[ln];show bj _))
def Ha{m:MS}{x:Spot}{i:Nat}(G:um m x i):(∀j∈fR m x,j<m.p.length)/\(fR m x).length<=16:=by
 let#[l,el,_,_,h16]:=G.line;unfold fR;rw[cZ,el,Ct];constructor;intro j hj;show T4 G.ok el j (Gf (Gd.mp hj).1);apply cp (jw _ _) ?_;rw[ka];omega
def aai:aV P w K mg base "sentence_of" 27 ["visit","spot"] (akQ A):=by
 apply bd T.acs ["visit","spot","places","place"] ?_;rintro f _ _ _ s H _ Q E hr nd ⟨vt,lo,a,m,x,i,rfl,hv,hs,G,q⟩;let#[dx,L,h1,hg]:=hs.ex;let#[l,el,OJ,gk,h16]:=G.line;let#[rs,r1,r2,r3]:=hg.row;let#[b,eb,kz]:=r3 x.row l el;have hab:=G4 G.ok;have hbe:=Ha G;have hrow:=G.row;have hrows:=G.rows;apply#[_,(aC (bu 2 nd (eD fV (aJ (NZ T) hr (ag '0' (ag '1' ao))) (aJ (N0 T) hr (ag '0' (ag '1' ao)))))
   (aC (e9 (iH jb uj uk sH '2' (ag (cr cP (cr cP (aN '1' rfl) (aN '1' rfl) (λ_ _=>rfl)) (aN '1' rfl) (λ_ _=>rfl)) ao)))
   (aA (aT (aJ (Dq T) hr (ag (fX eM rfl rfl nd (eF '2') (eN (own:=[("place",3)]) rfl) (λ_ _ _ _ _ _=>(cC 3 nd)) (λ_ _ _ _ _ _=>by show i6) (λ_ _ _ _ _ _ _=>by show(iI (HE T) (hr.mono ()) oh rfl (ag '0' (ag '3' ao))))) ao)))))),?_]
 apply#[vt,lo,a,m,x,rfl,hv,hs,G.ok,by omega,λD1 H1 s1 jJ dA=>?_];apply#[vt,lo,a,m,x,rfl,hv.same s1,hs.same s1,G.ok,#[l,el,gk,h16],λD2 H2 s2 hf2 cg=>?_];have s12:=s1.trans s2;apply .inr (.inr #[D1,D2,_,_,rfl,rfl,s2 _ _ dA,cg,by rw[aD,aD];show bX (),λD3 hD3=>?_]);have s3:am H2 (L2.upd H2 D3 (.lst (((fN m x).map λn=>V.int (n:Nat))++(fR m x).map λn=>V.int (n:Nat)))):=am.new hD3;have s13:=s12.trans s3;apply#[.inl #[rfl,_,az.of aH],be.mk (s13 _ _ h1) T.mF T.wO (BE _ _ _) (be.mk (s13 _ _ h1) T.mF T.wP (BF _ _ _) (.inl #[L,_,_,_,rfl,rfl,az.of (s13 _ _ r1),cG (cy eb),?_]))];apply be.mk (s13 _ _ h1) T.mF T.wN (BD _ _ _) (.inl #[b,_,_,_,rfl,rfl,az.of (s13 _ _ kz),cG (j:=x.col) (by rw[cx,OJ];rfl),D3,_,_,rfl,rfl,aH,by rw[dG,aD,aD];show fj (by omega:_<100000) (bX (bj _)),?_]);generalize AG:L2.upd (L2.upd H2 D3 (.lst (((fN m x).map λn=>V.int (n:Nat))++(fR m x).map λn=>V.int (n:Nat)))) D3 (.lst ((((fN m x).map λn=>V.int (n:Nat))++(fR m x).map λn=>V.int (n:Nat))++[V.int (i:Nat)]))=H4;have s4:am H H4:=λc o e=>by
  rw[<-AG,aG (bf (s12 _ _ e) hD3),aG (bf (s12 _ _ e) hD3)];show s12 _ _ e
 have g_:dY H4 D3 (fN m x++fR m x++[i]):=by
  unfold dY;rw[<-AG,aH,cB,cB];rfl
 apply#[D3,rfl,#[_,az.of g_],?_];have hlt:∀j∈fN m x++fR m x++[i],j<m.p.length:=λj hj=>by
  rcases wa.mp hj with z|z
  rcases wa.mp z with y|y
  show hab.1 j y;show hbe.1 j y;rw[List.mem_singleton.mp z];show G.lt
 have hlen:(fN m x++fR m x++[i]).length<=40:=by
  rw[dG,dG,rC];omega
 apply pI (g:=λ_=>true) (h:=λj=>vT (fP m j)) g_ () (λ_ _=>pW) (λn hn _=>?_) λD H5 s5 ad4 pj=>?_;intro H6 Q6 s6 k6;show#[vt,lo,m,n,rfl,hv.same (s4.trans s6),hlt n hn,λH7 s7=>k6 H7 s7];rw[List.filter_eq_self.mpr (λ_ _=>rfl)]at pj;apply#[D,(fN m x++fR m x++[i]).map (fP m),rfl,by unfold tM;rw[pj,bh];rfl,?_,λH6 s6=>q H6 (s4.trans (s5.trans s6))];rw[bh];have h2:=A9 (l:=fN m x++fR m x++[i]) (a:=λj=>(fP m j).length+1) (b:=50001) λj hj=>by have:=xW m hv.ok.pg (hlt j hj);omega
 have h3:(fN m x++fR m x++[i]).length*50001<=40*50001:=wg _ hlen;show cp h2 ()
end
end Pm
namespace L2
open PySem PySem.Spec PyProof.Rows
section
variable{X:Cx}{k:Nat}{ps:List Str}{sp:Sp}{E:XK}{x:Str}{p pos:Pos}
def aij(G:aV X.prog X.w X.K X.mg X.base x k ps sp)(hr:dQ k X.A)(hx:gI (c_ X.prog X.w) X E)(hg:Gl X x)(hG:(x==("__debug__":Str))=false:=by decide):
  PE X (.Call (.Name x p) [] [] pos) (BU sp [] E vz):=by
 let#[f,fd,F,hm,hk,hb]:=G.ex;show aih F hr hg hm hk hb .nil hx hG
end
def af8{te:TE}{σ:St}{H1:Hp}{Q:aa->Hp->Prop}{h:Nat->V}{x:Str}{i:Nat}(hz:x.cps.size<=sizeLine)(he:∀c∈x.cps.toList,jD te ((bD σ [i]).set i (some (.str #[(List.toArray [c])]))) H1 (h c))(q:∀D H',am H1 H'->H1 D=none->H' D=some (.lst (x.cps.toList.map h))->Q D H'):
  ∀D,H1 D=none->∃W:Nat->Nat->Hp->Prop,(∃m,W 0 m (upd H1 D (.lst [])))/\∀n m H,W n m H->
   ((rA x).stop n H/\Q D H)\/((rA x).go n H/\∃Nx:Hp->Prop,(∀H',Nx H'->∃m',m'<m/\W (n+1) m' H')/\∀y H',(rA x).ib n H y H'->iU i y (bD σ [i]) H' λσ2 H2=>bD σ2 [i]=bD σ [i]/\pR σ2 H2 λb H3=>
    if b=true then te σ2 H3 λy H4=>∃acc,H4 D=some (.lst acc)/\acc.length<sizeLine/\Nx (upd H4 D (.lst (acc++[y])))else Nx H3):=λD hD=>by
 apply#[λn m H=>m=x.cps.size-n/\n<=x.cps.size/\am H1 H/\H D=some (.lst ((x.cps.toList.take n).map h)),#[_,rfl,eX _,vj hD,by rw[aH];simp],?_];rintro n m H ⟨rfl,hn,s,e⟩;by_cases hlt:n<x.cps.size
 apply .inr #[hlt,λH=>am H1 H/\H D=some (.lst ((x.cps.toList.take (n+1)).map h)),λH' ⟨a,b⟩=>#[_,by omega,rfl,hlt,a,b],?_];rintro y H' ⟨rfl,c,hc,rfl⟩;have mw:x.cps.toList[n]? =some c:=by rw[Vh];show hc
 apply#[tP,?_];unfold pR;simp![bz];apply he c (fh mw) _ _ s λH4 s4=>#[_,s4 _ _ e,?_,?_,?_];rw[aD,ka,l_];omega;intro b o hb;rw[aG (bf hb hD)];show s4 _ _ (s _ _ hb);rw[aH,gz mw,cB];rfl;have e':n=x.cps.size:=by omega
 apply .inl #[by show x.cps.size<=n;omega,q D H s hD ?_];rw[e,e',<-l_,jy]
end L2
namespace Pm
open PySem PySem.Spec PyProof.Rows L2 TL
section
variable{P:aZ}{w:aW}{K:aP}{mg:Str->Option af}{base:aL}{A:aO}(T:Txt w K mg A)
def eB(H:Hp)(a:aa)(l:List Int):Prop:=H a=some (.lst (l.map V.int))
def jV{n:Nat}(h:n<=16000000):n<=sizeLine:=by rw[vn];omega
def Zi{Q:VK}{H:Hp}{a b:aa}{l r:List Int}(ha:eB H a l)(hb:eB H b r)(hz:l.length+r.length<=16000000)(q:∀D,H D=none->eB (L2.upd H D (.lst ((l++r).map V.int))) D (l++r)->Q (.ref D) (L2.upd H D (.lst ((l++r).map V.int)))):
  EL (.ref a) (.ref b) H Q:=#[a,b,_,_,rfl,rfl,ha,hb,by rw[aD,aD];show jV hz,λD hD=>by
   have:=q D hD aH;rw[cB]at this;show this]
def jY(t:aE):(tI t).length=t.length+1:=by unfold tI;rw[cN,aD]
def ak6(A:aO):Sp:=λvs H Q _=>∃(t:aE),vs=[vT t]/\t.length<=8000000/\∀D H',am H H'->H D=none->eB H' D (tI t)->Q (.ref D) H'
def sj:aV P w K mg base "text_answer" 1 ["text"] (ak6 A):=by
 apply bd T.acJ ["text","sign"] ?_;rintro f _ _ _ s H _ Q E hr nd ⟨t,rfl,hz,q⟩;apply#[_,(aA (aT (eD fV (eS (ag (dg dW rfl T.dH L2.boot_len (ag '0' ao)) ao)) (fX eM rfl rfl nd (Sm '0') (eN (own:=[("sign",1)]) rfl) (λ_ _ _ _ _ _=>(cC 1 nd)) (λ_ _ _ _ _ _=>by show i6) (λ_ _ _ _ _ _ _=>by show(dg Hi rfl T.G_ L2.boot_ord (ag '1' ao))))))),?_];apply#[_,(S (cd t)).length,rfl,#[by rw[ft,ko];show jV (),rfl],bX (show 1<=100000 by decide),λp hp=>?_];have s1:am H (L2.upd H p (.lst [.int ((S (cd t)).length:Nat)])):=am.new hp;apply#[_,rfl,?_];apply af8 (i:=1) (h:=λc=>.int (c:Nat)) (by show(cd t).length<=_;rw[ko];show jV ()) (λc _=>?_) λD H2 s2 hD cg=>?_;intro H3 Q3 s3 k3;show#[_,rfl,rfl,k3 H3 (am.refl _)];apply .inr (.inr (Zi (l:=[(t.length:Int)]) (r:=t.map λb=>(b.toNat:Int)) ?_ ?_ ?_ λD3 hD3 h3=>q D3 _ (s1.trans (s2.trans (am.new hD3))) ?_ ?_));have:=s2 _ _ aH;unfold eB;rw[this,ft,ko];rfl;unfold eB;rw[cg,bh];show some (HO.lst ((cd t).map _))=_;unfold cd;rw[bh];rfl;rw[rC,aD];omega;show(s1.trans s2).free hD3;show h3
theorem DD{α:Type}(f:α->List Int):∀(l:List α)(j:Nat)(x:α),l[j]? =some x->((l.take j).flatMap f).length+(f x).length<=(l.flatMap f).length
 |[],j,x,h=>by cases h
 |a::r,0,x,h=>by
  cases h;simp![Wd,oI,rB,gh,dG];omega
 |a::r,j+1,x,h=>by
  have:=DD f r j x h;simp![L_,gh,dG];omega
def ak8(A:aO):Sp:=λvs H Q _=>X2 λ(l:aa) (ts:List aE)=>N4 (vs=[.ref l]) (tM H l ts) ((vB ts).length<=8000000) (∀D H',am H H'->H D=none->eB H' D (vB ts)->Q (.ref D) H')
def aay:aV P w K mg base "texts_answer" 2 ["texts"] (ak8 A):=by
 apply bd T.acM ["texts","answer","text"] ?_;rintro f _ _ _ s H _ Q E hr nd ⟨l,ts,rfl,hl,hz,q⟩;apply#[_,(aC (bu 1 nd (eS (ag (dg dW rfl T.dH L2.boot_len (ag '0' ao)) ao)))
   (aC (kR gw rfl (eF '0') (cC 2 nd) (aA (e9 (iH jb Cw Cy Bg '1' (ag (aJ (sj T) hr (ag '2' ao)) ao)))))
   (aA (aT '1')))),?_]
 apply#[_,ts.length,rfl,.inl #[_,az.of hl,by rw[aD]],bX (show 1<=100000 by decide),λD hD=>?_];have s1:am H (L2.upd H D (.lst [.int ((ts.length:Nat):Int)])):=am.new hD;unfold vB at q hz;rw[cN]at hz;apply#[l,rfl,#[_,az.of (s1 _ _ hl)],ss (xs:=ts.map vT) (λj σ H'=>(∃u,σ=[some (.ref l),some (.ref D),u])/\am H H'/\eB H' D ((ts.length:Int)::(ts.take j).flatMap tI)) #[#[_,rfl],s1,aH] (λj σ H' _ ⟨_,s2,_⟩=>az.of (s2 _ _ hl)) ?_ ?_];rintro j y σ H' hy ⟨⟨u,rfl⟩,s2,cg⟩;obtain⟨t,et,rfl⟩:∃t,ts[j]? =some t/\y=vT t:=by
  rw[cx]at hy;cases e:ts[j]? with
  |none=>rw[e]at hy;cases hy
  |some t=>rw[e]at hy;show#[t,rfl,(cV hy).symm]
 have hfl:=DD tI ts j t et;rw[jY]at hfl;apply#[.inl #[rfl,_,az.of cg],t,rfl,by omega,λD3 H3 s3 pw hD3=>?_];apply#[D,D3,_,_,rfl,rfl,s3 _ _ cg,hD3,by rw[aD,aD,cN,jY];show jV (),#[_,rfl],λc o e=>?_,?_];rw[aG (bf e hD)];show s3 _ _ (s2 _ _ e);unfold eB;rw[aH,<-cB,ja,gz et,vZ];simp![gh,oI,eJ];rintro σ H' ⟨⟨u,rfl⟩,s2,cg⟩;rw[aD,jy]at cg;show q D H' s2 hD cg
def u1{p:aX}(hp:PG p){i:Nat}(hi:i<p.length):(nm p i).length<=100:=by
 have h:=(qj hp hi).2;unfold kh zn at h;simp![bS,bw]at h;have:=h.1.2.1;have hl:MM<=100:=by decide
 show cp this hl
def AY{m:MS}(hp:PG m.p){ns:List Nat}(h:∀j∈ns,j<m.p.length):(jM m ns).length<=1+ns.length*101:=by
 unfold jM vB;rw[cN,LU,bh];have:=A9 (l:=ns) (a:=λj=>(tI (nm m.p j)).length) (b:=101) λj hj=>by rw[jY];have:=u1 hp (h j hj);omega
 simp![vU];omega
def akG(A:aO):Sp:=λvs H Q _=>X5 λ(vt lo l:aa) (m:MS) (ns:List Nat)=>N6 (vs=[.ref vt,.ref l]) (br A H vt lo m) (dY H l ns) ((∀j∈ns,j<m.p.length)) (ns.length<=1000) (∀D H',am H H'->H D=none->eB H' D (jM m ns)->Q (.ref D) H')
def z9:aV P w K mg base "places_answer" 3 ["visit","places"] (akG A):=by
 apply bd T.acf ["visit","places","place"] ?_;rintro f _ _ _ s H _ Q E hr nd ⟨vt,lo,l,m,ns,rfl,hv,hl,hb,hz,q⟩;let#[dx,d,lb,lh,h1,h2,h3,h4,h5]:=hv.ex;let#[as,g1,g2,g3]:=h2.ex;apply#[_,(aA (aT (aJ (aay T) hr (ag (fX eM rfl rfl nd (eF '1') (eN (own:=[("place",2)]) rfl) (λ_ _ _ _ _ _=>(cC 2 nd)) (λ_ _ _ _ _ _=>by show i6) (λ_ _ _ _ _ _ _=>by show(iZ (K:=K) rfl (cr (xL (K:=K) rfl) (iZ (K:=K) rfl '0' rfl) '2' (λ_ _=>rfl)) rfl))) ao)))),?_];apply#[l,rfl,#[_,az.of hl],?_];apply pI (g:=λ_=>true) (h:=λj=>vT (nm m.p j)) hl () (λ_ _=>pW) (λn hn _=>?_) λD H1 s1 hf hD=>?_;intro H2 Q2 s2 k2;let#[a,ea,cA]:=g3 n (hb n hn);let#[eO,dF,dE,i1,i2,i3]:=cA.ex;show be.mk (s2 _ _ h1) T.bM T.cR (cU _ _ _ _ _) (.inl #[lb,_,_,_,rfl,rfl,az.of (s2 _ _ g1),cG (cy ea),be.mk (s2 _ _ i1) T.b8 T.nz (oV _ _ _) (k2 H2 (am.refl _))]);rw[List.filter_eq_self.mpr (λ_ _=>rfl)]at hD;apply#[D,ns.map (nm m.p),rfl,by unfold tM;rw[hD,bh];rfl,?_,λD2 H2 s2 hf2 cg=>q D2 H2 (s1.trans s2) (s1.free hf2) cg];have:=AY hv.ok.pg hb;unfold jM at this;omega
def aj9(A:aO):Sp:=λvs H Q _=>X4 λ(vt lo:aa) (m:MS) (x:Option Nat)=>N4 (vs=[.ref vt,.int (pz x)]) (br A H vt lo m) ((∀j,x=some j->j<m.p.length)) (∀D H',am H H'->H D=none->eB H' D (pf m x)->Q (.ref D) H')
def zZ:aV P w K mg base "found_answer" 2 ["visit","found"] (aj9 A):=by
 apply bd T.abB ["visit","found"] ?_;rintro f _ _ _ s H _ Q E hr nd ⟨vt,lo,m,x,rfl,hv,hb,q⟩;let#[dx,d,lb,lh,h1,h2,h3,h4,h5]:=hv.ex;let#[as,g1,g2,g3]:=h2.ex;apply#[_,(aC (bY (bQ fu '1' (cq T.mi rfl) (bO _)) (aA (aT (eS (ag cS ao)))) bZ)
   (aA (aT (eD fV (eS (ag cS ao)) (aJ (sj T) hr (ag (aN (cr cP (aN '0' rfl) '1' (λ_ _=>rfl)) rfl) ao)))))),?_]
 cases x with
 |none=>
  simp! only[]
  rw[aq ()];show#[bX (show 1<=100000 by decide),λD hD=>q D _ (am.new hD) hD aH]
 |some k=>
  have hk:=hb k rfl;let#[a,ea,cA]:=g3 k hk;let#[eO,dF,dE,i1,i2,i3]:=cA.ex;have hne:decide (pz (some k)= -1)=false:=by
   rw[o_];simp![pz];omega
  simp! only[hne]
  apply#[bX (show 1<=100000 by decide),λD hD=>?_];have s1:am H (L2.upd H D (.lst [.int 1])):=am.new hD;have h1':=s1 _ _ h1;have i1':=s1 _ _ i1;simp![h1',T.bM,T.cR,cU];have hn:=u1 hv.ok.pg hk;apply be.mk rfl T.bM T.cR (cU _ _ _ _ _) (.inl #[lb,_,_,_,rfl,rfl,az.of (s1 _ _ g1),cG (cy ea),be.mk i1' T.b8 T.nz (oV _ _ _) #[nm m.p k,rfl,by omega,λD2 H2 s2 hf2 cg=>?_]]);apply#[_,rfl,_,s2 _ _ aH,_,cg,by rw[aD,jY];show jV (by simp;omega),λp hp=>?_];show q p _ (s1.trans (s2.trans (am.new hp))) ((s1.trans s2).free hp) aH
def Tz(A:aO):Sp:=λvs H Q E=>∃(c g:Int),vs=[.int c,.int g]/\(if c<0\/g<c then E (.ref A.kl) none H else Q .bn H)
def zY:aV P w K mg base "check_number" 1 ["number","greatest"] (Tz A):=by
 apply bd T.abx ["number","greatest"] ?_;rintro f _ _ _ s H _ Q E hr nd ⟨c,g,rfl,q⟩;apply#[_,(aA (bY (PW.pt (jm (bQ sV '0' cS (bO _)) (oj (bQ sS '0' '1' (bO _))))) (aA (eG T.Va eI rfl rfl)) bZ)),?_]
 simp! only[]
 by_cases h1:c<0
 rw[aq (yZ h1)]at q;rw[aq (b_ h1)];show q;rw[ay (by rw[bw];show h1)];by_cases h2:g<c
 rw[aq (wm h2)]at q;rw[aq (b_ h2)];show q;rw[ay ()]at q;rw[ay (by rw[bw];show h2)];show q
def cF(n z:Int)(x:W):List (Str×V):=[("number",.int n),("choice",.int z),("text",.str (S x))]
def oW(n z:Int)(x:W):(cF n z x).lookup ("choice":Str)=some (V.int z):=rfl
def lI(n z:Int)(x:W):(cF n z x).lookup ("text":Str)=some (V.str (S x)):=rfl
structure rk (A:aO)(H:Hp)(c:aa)(n z:Int)(t:aE):Prop where
 own:∃dx,H c=some (.ins A.Call dx (cF n z ((cd t).map dm)))
def OS(A:aO)(n:Nat):aa:=if n=1 then A.cX else if n=2 then A.kl else if n=3 then A.jA else if n=5 then A.kj else A.jB
def Gives(A:aO)(H:Hp)(vt lo:aa)(Q:VK)(E:XK)(o:eK):Prop:=match o with
 | .ok (m',l)=>∀a H' gv,br A H' vt gv m'->(gv=lo\/H gv=none)->f8 vt lo H H'->eB H' a l->Q (.ref a) H'
 | .error n=>∀H',am H H'->E (.ref (OS A n)) none H'
def Gives.ok{H:Hp}{vt lo:aa}{Q:VK}{E:XK}{m:MS}{l:List Int}(g:Gives A H vt lo Q E (.ok (m,l)))(hv:br A H vt lo m):∀D H',am H H'->eB H' D l->Q (.ref D) H':=
 λD H' s hD=>g D H' lo (hv.same s) (.inl rfl) (f8.of_same s) hD
def Gives.Eu{H H5:Hp}{vt lo:aa}{Q:VK}{E:XK}{m:MS}{l r:List Int}(g:Gives A H vt lo Q E (.ok (m,l++r)))(hv:br A H vt lo m)(s:am H H5){p:aa}(hp:H5 p=none):Q (.ref p) (L2.upd H5 p (.lst (l.map V.int++r.map V.int))):=
 g.ok hv p _ (s.trans (am.new hp)) (by unfold eB;rw[aH,cB])
def lX(f:MS->Int->aE->eK)(A:aO):Sp:=λvs H Q E=>X7 λ(vt lo c:aa) (m:MS) (n z:Int) (t:aE)=>N4 (vs=[.ref vt,.ref c]) (br A H vt lo m) (rk A H c n z t) (Gives A H vt lo Q E (f m z t))
def afG{b:UInt8}(h:rM b=true):ji b.toNat=true:=by
 have:∀n,n<256->rM (wy n)=true->ji n=true:=by decide+kernel
 have e:=this b.toNat (MH b);rw[UInt8.ofNat_toNat]at e;show e h
def Qx{p:aX}(hp:PG p){i:Nat}(hi:i<p.length):∀c∈cd (nm p i),ji c=true:=by
 have h:=(qj hp hi).2;unfold kh zn at h;simp![bS,bw,eW]at h;intro c hc;unfold cd at hc;let#[b,hb,rfl]:=Ge.mp hc;show afG (h.1.2.2.1 b hb)
def yi{m:MS}(hp:PG m.p)(t:aE):lS m.p ((cd t).map dm)=vd m t:=by
 unfold vd;by_cases h:(cW m.p).contains t=true
 rw[aq h];have hm:=lm.mp h;have hl:=D9 hp hm;have e:nm m.p (eA m t)=t:=by
  let#[k,hk,rfl]:=uZ hm;unfold eA;rw[qB hp hk]
 have g:=Qx hp hl;rw[e]at g;rw[Dk g];show J8 hp hm;rw[ay h];unfold lS;rw[LJ];intro i hi;rw[Gg]at hi;rw[bw];intro e;have:=wY (Hu e.symm (Qx hp hi));show h (lm.mpr (this▸Bk hi))
def zT{H:Hp}{vt lo:aa}{Q0 Q:VK}{E:XK}{z g:Int}{f:Nat->eK}(q:Gives A H vt lo Q E (mP z g f))(aS:∀k:Nat,z=(k:Nat)->((k:Nat):Int)<=g->Gives A H vt lo Q E (f k)->Q0 .bn H):Tz A [.int z,.int g] H Q0 E:=by
 apply#[z,g,rfl,?_];unfold mP at q;by_cases h:z<0\/g<z
 rw[aq h]at q⊢;show q H (am.refl _);rw[ay h]at q⊢;show aS z.toNat () () q
def EI{H H1:Hp}{vt lo lb:aa}{Q0 Q:VK}{E:XK}{m:MS}{t:aE}{f:Nat->eK}(q:Gives A H vt lo Q E (gb m t f))(hp:fB A H1 lb m.p)(ok:nh m)(s:am H H1)(aS:∀(i:Nat) H2,i<m.p.length->am H1 H2->Gives A H vt lo Q E (f i)->Q0 (.int (i:Nat)) H2):TH A [.ref lb,.str (S ((cd t).map dm))] H1 Q0 E:=by
 apply#[lb,m.p,_,rfl,hp,?_];unfold gb at q;cases e:lS m.p ((cd t).map dm)with
 |none=>
  rw[<-yi ok.pg,e]at q;show λH2 s2=>q H2 (s.trans s2)
 |some i=>
  have hl:=EH e;rw[<-yi ok.pg,e]at q;show λH2 s2=>aS i H2 hl s2 q
def Hq{H H1:Hp}{vt lo:aa}{Q0 Q:VK}{E:XK}{m:MS}{t:aE}{f:Nat->Spot->eK}(q:Gives A H vt lo Q E (sO m t f))(hv:br A H1 vt lo m)(s:am H H1)(aS:∀(i:Nat)(x:Spot) a H2,um m x i->am H1 H2->oM A H2 a x->Gives A H vt lo Q E (f i x)->Q0 (.ref a) H2):Tx A [.ref vt,.str (S ((cd t).map dm))] H1 Q0 E:=by
 apply#[vt,lo,m,_,rfl,hv,?_];unfold sO gb at q;cases e:lS m.p ((cd t).map dm)with
 |none=>
  rw[<-yi hv.ok.pg,e]at q;show λH2 s2=>q H2 (s.trans s2)
 |some i=>
  have hl:=EH e;rw[<-yi hv.ok.pg,e]at q;show if _ then _ else _
  by_cases hk:(decide (kI m i=.cell)||decide (kI m i=.th))=true
  rw[aq hk];have q:Gives A H vt lo Q E (if (decide (kI m i=.cell)||decide (kI m i=.th))=true then(match jp m i with|none=>.error 6|some x=>f i x)else .error 5):=q;rw[aq hk]at q;cases es:jp m i with
  |none=>
   rw[es]at q;show λH2 s2=>q H2 (s.trans s2)
  |some x=>
   rw[es]at q;show λa H2 s2 ha=>aS i x a H2 (alf hv.ok hl es) s2 ha q
  rw[ay hk];have q:Gives A H vt lo Q E (if (decide (kI m i=.cell)||decide (kI m i=.th))=true then(match jp m i with|none=>.error 6|some x=>f i x)else .error 5):=q;rw[ay hk]at q;show λH2 s2=>q H2 (s.trans s2)
def ZO:aV P w K mg base "answer_next" 9 ["visit","call"] (lX (λm z t=>bK m (.next z t)) A):=by
 apply bd T.An ["visit","call","place"] ?_;rintro f _ _ _ s H _ Q E hr nd ⟨vt,lo,c,m,n,z,t,rfl,hv,hc,q⟩;let#[dx,d,lb,lh,h1,h2,h3,h4,h5]:=hv.ex;let#[as,g1,g2,g3]:=h2.ex;let#[dc,hc]:=hc.own;apply#[_,(aC (e9 (aJ (zY T) hr (ag (aN '1' rfl) (ag (cq T.Cd rfl) ao))))
   (aC (bu 2 nd (aJ (sh T) hr (ag (aN '0' rfl) (ag (aN '1' rfl) ao))))
   (aA (aT (aJ (zZ T) hr (ag '0' (ag (aJ (Oh T) hr (ag '0' (ag (aN '1' rfl) (ag '2' ao)))) ao))))))),?_]
 simp! only[h1,hc,T.gm,T.nA,T.km,T.bM,T.cR,cU,oW,lI]
 simp![bK]at q;apply zT q λk ek hk q2=>?_;subst ek;apply be.mk h1 T.bM T.cR (cU _ _ _ _ _) (be.mk hc T.gm T.km (lI _ _ _) ?_);apply EI q2 h2 hv.ok (am.refl _) λi H1 hi s1 q=>?_;apply be.mk (s1 _ _ hc) T.gm T.nA (oW _ _ _) #[vt,lo,m,k,i,rfl,hv.same s1,by omega,λH2 s2=>?_];have s12:=s1.trans s2;show#[vt,lo,m,_,rfl,hv.same s12,λj e=>JN e,λD H3 s3 _ hD=>q.ok hv D H3 (s12.trans s3) hD]
def ZS:aV P w K mg base "answer_prev" 9 ["visit","call"] (lX (λm z t=>bK m (.prev z t)) A):=by
 apply bd T.Ar ["visit","call","place"] ?_;rintro f _ _ _ s H _ Q E hr nd ⟨vt,lo,c,m,n,z,t,rfl,hv,hc,q⟩;let#[dx,d,lb,lh,h1,h2,h3,h4,h5]:=hv.ex;let#[as,g1,g2,g3]:=h2.ex;let#[dc,hc]:=hc.own;apply#[_,(aC (e9 (aJ (zY T) hr (ag (aN '1' rfl) (ag (cq T.Cd rfl) ao))))
   (aC (bu 2 nd (aJ (sh T) hr (ag (aN '0' rfl) (ag (aN '1' rfl) ao))))
   (aA (aT (aJ (zZ T) hr (ag '0' (ag (aJ (Om T) hr (ag '0' (ag (aN '1' rfl) (ag '2' ao)))) ao))))))),?_]
 simp! only[h1,hc,T.gm,T.nA,T.km,T.bM,T.cR,cU,oW,lI]
 simp![bK]at q;apply zT q λk ek hk q2=>?_;subst ek;apply be.mk h1 T.bM T.cR (cU _ _ _ _ _) (be.mk hc T.gm T.km (lI _ _ _) ?_);apply EI q2 h2 hv.ok (am.refl _) λi H1 hi s1 q=>?_;apply be.mk (s1 _ _ hc) T.gm T.nA (oW _ _ _) #[vt,lo,m,k,i,rfl,hv.same s1,by omega,λH2 s2=>?_];have s12:=s1.trans s2;show#[vt,lo,m,_,rfl,hv.same s12,λj e=>J_ e,λD H3 s3 _ hD=>q.ok hv D H3 (s12.trans s3) hD]
def ZL:aV P w K mg base "answer_heads" 9 ["visit","call"] (lX (λm _ t=>bK m (.heads t)) A):=by
 apply bd T.Ak ["visit","call","spot"] ?_;rintro f _ _ _ s H _ Q E hr nd ⟨vt,lo,c,m,n,z,t,rfl,hv,hc,q⟩;let#[dx,d,lb,lh,h1,h2,h3,h4,h5]:=hv.ex;let#[as,g1,g2,g3]:=h2.ex;let#[dc,hc]:=hc.own;apply#[_,(aC (bu 2 nd (aJ (HB T) hr (ag '0' (ag (aN '1' rfl) ao))))
   (aA (aT (eD fV (aJ (z9 T) hr (ag '0' (ag (aJ (NZ T) hr (ag '0' (ag '2' ao))) ao))) (aJ (z9 T) hr (ag '0' (ag (aJ (N0 T) hr (ag '0' (ag '2' ao))) ao))))))),?_]
 simp! only[h1,hc,T.gm,T.km,lI]
 simp![bK]at q;apply Hq q hv (am.refl _) λi x a H1 G s1 ha q=>?_;have hab:=G4 G.ok;have hbe:=Ha G;have hrow:=G.row;have hrows:=G.rows;apply#[vt,lo,a,m,x,rfl,hv.same s1,ha,G.ok,by omega,λD2 H2 s2 _ cg=>?_];have s12:=s1.trans s2;apply#[vt,lo,D2,m,fN m x,rfl,hv.same s12,cg,hab.1,by omega,λD3 H3 s3 _ hD3=>?_];have s13:=s12.trans s3;let#[l,el,OJ,gk,h16]:=G.line;apply#[vt,lo,a,m,x,rfl,hv.same s13,ha.same (s2.trans s3),G.ok,#[l,el,gk,h16],λD4 H4 s4 _ g_=>?_];have s14:=s13.trans s4;apply#[vt,lo,D4,m,fR m x,rfl,hv.same s14,g_,hbe.1,by omega,λD5 H5 s5 _ pj=>?_];have s15:=s14.trans s5;have z1:=AY (m:=m) hv.ok.pg hab.1;have z2:=AY (m:=m) hv.ok.pg hbe.1;show .inr (.inr #[_,rfl,_,rfl,_,s5 _ _ (s4 _ _ hD3),_,pj,by rw[aD,aD];show jV (),λp hp=>q.Eu hv s15 hp])
def YW{m:MS}{x:Spot}(O:nk m x){d j:Nat}(h:nB x d=some j):j<m.p.length:=by
 unfold nB at h;split at h;split at h;cases h;show rZ O h;show rZ O h;split at h;cases h;show rZ O h;show rZ O h
def ajr{m:MS}{x:Spot}{i:Nat}(ok:nh m)(G:um m x i):(vk m x i).length<=8000000:=by
 have hab:=G4 G.ok;have hbe:=Ha G;have hrow:=G.row;have hrows:=G.rows;have hlt:∀j∈fN m x++fR m x++[i],j<m.p.length:=λj hj=>by
  rcases wa.mp hj with z|z
  rcases wa.mp z with y|y
  show hab.1 j y;show hbe.1 j y;rw[List.mem_singleton.mp z];show G.lt
 have hlen:(fN m x++fR m x++[i]).length<=40:=by
  rw[dG,dG,rC];omega
 unfold vk;have h1:=BG ((fN m x++fR m x++[i]).map (fP m));rw[bh]at h1;have h2:=A9 (l:=fN m x++fR m x++[i]) (a:=λj=>(fP m j).length+1) (b:=50001) λj hj=>by have:=xW m ok.pg (hlt j hj);omega
 have h3:(fN m x++fR m x++[i]).length*50001<=40*50001:=wg _ hlen;show cp h1 (cp h2 ())
def ZN:aV P w K mg base "answer_move" 9 ["visit","call"] (lX (λm z t=>bK m (.move z t)) A):=by
 apply bd T.Am ["visit","call","spot"] ?_;rintro f _ _ _ s H _ Q E hr nd ⟨vt,lo,c,m,n,z,t,rfl,hv,hc,q⟩;let#[dx,d,lb,lh,h1,h2,h3,h4,h5]:=hv.ex;let#[as,g1,g2,g3]:=h2.ex;let#[dc,hc]:=hc.own;apply#[_,(aC (e9 (aJ (zY T) hr (ag (aN '1' rfl) (ag (cq T.VG rfl) ao))))
   (aC (bu 2 nd (aJ (HB T) hr (ag '0' (ag (aN '1' rfl) ao))))
   (aA (aT (aJ (zZ T) hr (ag '0' (ag (aJ (aac T) hr (ag '2' (ag (aN '1' rfl) ao))) ao))))))),?_]
 simp! only[h1,hc,T.gm,T.nA,T.km,T.bM,T.cR,cU,oW,lI]
 simp![bK]at q;apply zT q λk ek hk q2=>?_;subst ek;apply be.mk hc T.gm T.km (lI _ _ _) ?_;apply Hq q2 hv (am.refl _) λi x a H1 G s1 ha q=>?_;apply be.mk (s1 _ _ hc) T.gm T.nA (oW _ _ _) #[a,x,k,rfl,ha,by omega,?_];show#[vt,lo,m,_,rfl,hv.same s1,λj e=>YW G.ok e,λD H3 s3 _ hD=>q.ok hv D H3 (s1.trans s3) hD]
def ZU:aV P w K mg base "answer_sentence" 29 ["visit","call"] (lX (λm _ t=>bK m (.sentence t)) A):=by
 apply bd T.Au ["visit","call"] ?_;rintro f _ _ _ s H _ Q E hr nd ⟨vt,lo,c,m,n,z,t,rfl,hv,hc,q⟩;let#[dx,d,lb,lh,h1,h2,h3,h4,h5]:=hv.ex;let#[as,g1,g2,g3]:=h2.ex;let#[dc,hc]:=hc.own;apply#[_,(aA (aT (aJ (sj T) hr (ag (aJ (aai T) hr (ag '0' (ag (aJ (HB T) hr (ag '0' (ag (aN '1' rfl) ao))) ao))) ao)))),?_]
 simp! only[h1,hc,T.gm,T.km,lI]
 apply Hq q hv (am.refl _) λi x a H1 G s1 ha q=>?_;apply#[vt,lo,a,m,x,i,rfl,hv.same s1,ha,G,λH2 s2=>?_];show#[vk m x i,rfl,ajr hv.ok G,λD H3 s3 _ hD=>q.ok hv D H3 (s1.trans (s2.trans s3)) hD]
def agX{m:MS}{k:Nat}(h:iE m=some k):k<m.p.length:=by
 unfold iE at h;show Gg.mp (Gd.mp (LX h)).1
def Pf{m:MS}(ok:nh m){x:Option Nat}(h:∀j,x=some j->j<m.p.length):(pf m x).length<=200:=by
 cases x with
 |none=>show(show 1<=200 by decide)
 |some j=>
  have:=u1 ok.pg (h j rfl);show(1::tI (nm m.p j)).length<=_;rw[cN,jY];omega
def R9{m:MS}(ok:nh m):m.p.length<=16:=(g8 ok.pg).2.1
def ZG:aV P w K mg base "answer_escape" 9 ["visit","call"] (lX (λm _ _=>bK m .escape) A):=by
 apply bd T.Af ["visit","call","modal"] ?_;rintro f _ _ _ s H _ Q E hr nd ⟨vt,lo,c,m,n,z,t,rfl,hv,hc,q⟩;let#[dx,d,lb,lh,h1,h2,h3,h4,h5]:=hv.ex;let#[as,g1,g2,g3]:=h2.ex;let#[dc,hc]:=hc.own;apply#[_,(aC (bu 2 nd (aJ (HI T) hr (ag '0' ao)))
   (aC (bY (bQ fu '2' (cq T.mi rfl) (bO _)) (aA (aT (eS (ag cS ao)))) bZ)
   (aA (aT (eD fV (aJ (zZ T) hr (ag '0' (ag '2' ao))) (aJ (z9 T) hr (ag '0' (ag (aJ (aad T) hr (ag '0' (ag '2' ao))) ao)))))))),?_]
 apply#[vt,lo,m,rfl,hv,λH1 s1=>?_];simp![bK]at q;cases e:iE m with
 |none=>
  rw[e]at q
  simp! only[]
  rw[aq ()];show#[bX (show 1<=100000 by decide),λD hD=>q.ok hv D _ (s1.trans (am.new hD)) aH]
 |some k=>
  rw[e]at q;have hk:=agX e;have hne:decide (pz (some k)= -1)=false:=by
   rw[o_];simp![pz];omega
  simp! only[hne]
  apply#[vt,lo,m,some k,rfl,hv.same s1,λj e=>by cases e;show hk,λD2 H2 s2 _ cg=>?_];have s12:=s1.trans s2;apply#[vt,lo,m,k,rfl,hv.same s12,hk,λD3 H3 s3 _ hD3=>?_];have s13:=s12.trans s3;have hp:=R9 hv.ok;have hl:((bv m.p.length).filter (sX m k)).length<=16:=cp (jw _ _) (by rw[ln];show hp);have hb:∀j∈(bv m.p.length).filter (sX m k),j<m.p.length:=λj hj=>Gg.mp (Gd.mp hj).1;apply#[vt,lo,D3,m,_,rfl,hv.same s13,hD3,hb,by omega,λD4 H4 s4 _ g_=>?_];have z1:=AY (m:=m) hv.ok.pg hb;have z2:=Pf hv.ok (x:=some k) λj e=>by cases e;show hk
  show .inr (.inr #[_,rfl,_,rfl,_,s4 _ _ (s3 _ _ cg),_,g_,by rw[aD,aD];show jV (),λp hp=>q.Eu hv (s13.trans s4) hp])
def ZM:aV P w K mg base "answer_here" 9 ["visit","call"] (lX (λm _ _=>bK m .here) A):=by
 apply bd T.Al ["visit","call"] ?_;rintro f _ _ _ s H _ Q E hr nd ⟨vt,lo,c,m,n,z,t,rfl,hv,hc,q⟩;let#[dx,d,lb,lh,h1,h2,h3,h4,h5]:=hv.ex;let#[as,g1,g2,g3]:=h2.ex;let#[dc,hc]:=hc.own;let#[a,ea,cA]:=g3 m.here hv.ok.here;let#[eO,dF,dE,i1,i2,i3]:=cA.ex;have hn:=u1 hv.ok.pg hv.ok.here;apply#[_,(aA (aT (eD fV (aJ (sj T) hr (ag (aN (cr cP (aN '0' rfl) (aN '0' rfl) (λ_ _=>rfl)) rfl) ao)) (eS (ag (qV (dq (aJ (N_ T) hr (ag '0' (ag (aN '0' rfl) ao))) (λ_=>rfl)) cS cS) ao))))),?_];apply be.mk h1 T.bM T.cR (cU _ _ _ _ _) (be.mk h1 T.bM T.wQ (Fg _ _ _ _ _) (.inl #[lb,_,_,_,rfl,rfl,az.of g1,cG (cy ea),be.mk i1 T.b8 T.nz (oV _ _ _) #[nm m.p m.here,rfl,by omega,λD1 H1 s1 _ dA=>?_]]));have h1':=s1 _ _ h1
 simp! only[h1',T.bM,T.wQ,Fg]
 apply#[vt,lo,m,m.here,rfl,hv.same s1,hv.ok.here,λH2 s2=>?_];simp![bK]at q;have s12:=s1.trans s2;apply#[_,rfl,?_];cases hh:nQ m m.here with
 |true=>
  rw[hh]at q;show#[bX (show 1<=100000 by decide),λp hp=>#[_,(am.new hp) _ _ (s2 _ _ dA),_,aH,by rw[aD,jY];show jV (by simp;omega),λr jL=>q.Eu (r:=[1]) hv (s12.trans (am.new hp)) jL]]
 |false=>
  rw[hh]at q;show#[bX (show 1<=100000 by decide),λp hp=>#[_,(am.new hp) _ _ (s2 _ _ dA),_,aH,by rw[aD,jY];show jV (by simp;omega),λr jL=>q.Eu (r:=[0]) hv (s12.trans (am.new hp)) jL]]
def O4(l:List Bool):(dC l).all g9=true:=by
 unfold dC;rw[lj];show eW.mpr λ_ _=>rfl
def NN(l:List Bool):(dC l).countP (λz=>ir z (.bl true))=l.count true:=by
 unfold dC List.count;rw[VT];apply List.countP_congr λb _=>?_;cases b<;>decide
def ZR:aV P w K mg base "answer_press" 9 ["visit","call"] (lX (λm _ t=>bK m (.press t)) A):=by
 apply bd T.Aq ["visit","call","place"] ?_;rintro f _ _ _ s H _ Q E hr nd ⟨vt,lo,c,m,n,z,t,rfl,hv,hc,q⟩;let#[dx,d,lb,lh,h1,h2,h3,h4,h5]:=hv.ex;let#[as,g1,g2,g3]:=h2.ex;let#[dc,hc]:=hc.own;apply#[_,(aC (bu 2 nd (aJ (sh T) hr (ag (aN '0' rfl) (ag (aN '1' rfl) ao))))
   (aC (bY (gx (dq (aJ (NU T) hr (ag (cr cP (aN '0' rfl) '2' (λ_ _=>rfl)) ao)) (λ_=>rfl))) (aA (eG T.Fx eI rfl rfl)) bZ)
   (aC (bY (gx (dq (aJ (NT T) hr (ag '0' (ag '2' ao))) (λ_=>rfl))) (aA (eG T.Fw eI rfl rfl)) bZ)
   (aC (e9 (aJ (aae T) hr (ag '0' (ag '2' ao))))
   (aA (aT (eS (ag (iH jb Mn WC Rx (aN '0' rfl) (ag qU ao)) (ag (iH jb Mn WC Rx (aN '0' rfl) (ag qU ao)) ao))))))))),?_]
 simp! only[h1,hc,T.gm,T.km,lI,T.bM,T.cR,cU]
 simp![bK]at q;apply EI q h2 hv.ok (am.refl _) λi H1 hi s1 q=>?_;let#[a,ea,cA]:=g3 i hi;have h1':=s1 _ _ h1
 simp! only[h1',T.bM,T.cR,cU]
 apply .inl #[lb,_,_,_,rfl,rfl,az.of (s1 _ _ g1),cG (cy ea),a,m,i,rfl,cA.same s1,_,rfl,?_];cases aoF:pc m i with
 |false=>
  rw[aoF,aq rfl]at q;show q H1 s1
 |true=>
  rw[aoF,ay ()]at q;simp![f7,bT,bI];apply#[vt,lo,m,i,rfl,hv.same s1,hi,λH2 s2=>#[_,rfl,?_]];have s12:=s1.trans s2;cases PJ:qk m i with
  |false=>
   rw[PJ,aq rfl]at q;show q H2 s12
  |true=>
   rw[PJ,ay ()]at q;apply#[vt,lo,m,i,rfl,hv.same s12,hi,λH3 hv3 k3=>?_];let#[HR,d3,Eg,agm,j1,j2,j3,j4,j5]:=hv3.ex;apply be.mk j1 T.bM T.wR (Fh _ _ _ _ _) #[.inl #[rfl,_,az.of j4],agm,_,_,rfl,rfl,az.of j4,rfl,O4 _,?_];apply be.mk j1 T.bM T.zG (Fi _ _ _ _ _) #[.inl #[rfl,_,az.of j5],lo,_,_,rfl,rfl,az.of j5,rfl,O4 _,bX (show 2<=100000 by decide),λp hp=>?_];rw[NN,NN];show q p _ lo (hv3.same (am.new hp)) (.inl rfl) ((f8.of_same s12).trans (k3.trans (f8.of_same (am.new hp)))) aH
def ajo{m:MS}(ok:nh m){i:Nat}(hi:i<m.p.length):(qY m i).length<=200000:=by
 have key:=Tb (h:=#[(bx m.p i).id,(e_ m i).role,d9 (kI m i),fP m i,(bx m.p i).off,dR m i,iB m i,iG m i]) (ET ok i).1 (by show dR m i<=2;unfold dR;split;(split;show bj _;decide);decide);unfold qY;rw[<-key];apply cp (BG _) ?_;have nl:=xW m ok.pg hi;have hl:=P5 ok hi;have ol:=R8 ok hi;have rl:=(ET ok i).2;have l1:=xH [] (fP m i);have l2:=xH (aY "hint ") (iB m i);have l3:=xH (aY "text ") (iG m i);have l4:(mH (d9 (kI m i))).length<=1:=by unfold mH;split;(show eX _);show bj _
 have l5:(sQ (dR m i)).length<=6:=by unfold sQ;split;(decide);split;(decide);decide
 have l6:(if (bx m.p i).off=true then aY "off" else[]).length<=3:=by split;(decide);decide
 have l7:(aY "hint ").length=5:=by decide
 have l8:(aY "text ").length=5:=by decide
 simp![ba,gY,gi,Wa,rB]at l1⊢;omega
def aka(A:aO):Sp:=λvs H Q E=>X4 λ(vt lo:aa) (m:MS) (x:Option Nat)=>N4 (vs=[.ref vt,.int (pz x)]) (br A H vt lo m) ((∀j,x=some j->j<m.p.length)) (Gives A H vt lo Q E (xn m x))
def br.move{H:Hp}{vt lo:aa}{m:MS}(hv:br A H vt lo m){k:Nat}(hk:k<m.p.length){dx d lb lh:aa}(h1:H vt=some (.ins A.d_ dx (vF d lb lh lo (m.here:Nat)))):
  br A (L2.upd H vt (.ins A.d_ dx (vF d lb lh lo (k:Nat)))) vt lo { m with here:=k }/\f8 vt lo H (L2.upd H vt (.ins A.d_ dx (vF d lb lh lo (k:Nat)))):=by
 let#[dy,d',xQ,Jw,o1,o2,o3,o4,o5]:=hv.own;rw[h1]at o1;cases o1;have ya:vt≠lo:=iX h1 o2 (by intro z;cases z);have k2:f8 vt lo H (L2.upd H vt (.ins A.d_ dx (vF d lb lh lo (k:Nat)))):=λb o e n1 n2=>by rw[aG n1];show e
 show#[#[#[hv.ok.pg,hv.ok.ar,hv.ok.cj,hv.ok.on,hk],dx,d,lb,lh,aH,by rw[aG ya.symm];show o2,o3.same k2.less,o4.same k2.less,k2.less _ _ o5],k2]
def NW:aV P w K mg base "go_to" 28 ["visit","found"] (aka A):=by
 apply bd T.abD ["visit","found"] ?_;rintro f _ _ _ s H _ Q E hr nd ⟨vt,lo,m,x,rfl,hv,hb,q⟩;let#[dx,d,lb,lh,h1,h2,h3,h4,h5]:=hv.ex;let#[as,g1,g2,g3]:=h2.ex;apply#[_,(aC (bY (bQ fu '1' (cq T.mi rfl) (bO _)) (aA (aT (eS (ag cS ao)))) bZ)
   (aC (cQ '0' '1' rfl)
   (aA (aT (eD fV (aJ (zZ T) hr (ag '0' (ag '1' ao))) (aJ (sj T) hr (ag (aJ (aaz T) hr (ag '0' (ag '1' ao))) ao))))))),?_]
 cases x with
 |none=>
  simp! only[]
  rw[aq ()];show#[bX (show 1<=100000 by decide),λD hD=>q.ok hv D _ (am.new hD) aH]
 |some k=>
  have hk:=hb k rfl;have hne:decide (pz (some k)= -1)=false:=by
   rw[o_];simp![pz];omega
  simp! only[hne]
  apply fq.mk h1 T.bM T.wQ (by show(5:Nat)<1000;decide) ?_;let#[hv2,k2]:=hv.move hk h1;apply#[vt,lo,_,some k,rfl,hv2,λj e=>by cases e;show hk,λD2 H2 s2 _ cg=>?_];apply#[vt,lo,_,k,rfl,hv2.same s2,hk,λH3 s3=>?_];have l1:=ajo (m:={ m with here:=k }) (i:=k) hv2.ok hk;have l2:=Pf hv2.ok (x:=some k) λj e=>by cases e;show hk
  apply#[qY { m with here:=k } k,rfl,by omega,λD4 H4 s4 _ g_=>?_];apply .inr (.inr #[_,rfl,_,rfl,_,s4 _ _ (s3 _ _ cg),_,g_,by rw[aD,aD,jY];show jV (),λp hp=>?_]);have s24:=s2.trans (s3.trans (s4.trans (am.new (o:=.lst ((pf { m with here:=k } (some k)).map V.int++(tI (qY { m with here:=k } k)).map V.int)) hp)));apply q p _ lo (hv2.same s24) (.inl rfl) (k2.trans (f8.of_same s24)) ?_;unfold eB;rw[aH,<-cB];rfl
def Gives.same{H H1:Hp}{vt lo:aa}{Q:VK}{E:XK}{o:eK}(g:Gives A H vt lo Q E o)(s:am H H1):Gives A H1 vt lo Q E o:=by
 unfold Gives at g⊢;split at g;show λa H' gv hv hl k hi=>g a H' gv hv (hl.imp id s.free) ((f8.of_same s).trans k) hi;show λH' s'=>g H' (s.trans s')
def ZI:aV P w K mg base "answer_go" 29 ["visit","call"] (lX (λm z _=>bK m (.go z)) A):=by
 apply bd T.Ah ["visit","call"] ?_;rintro f _ _ _ s H _ Q E hr nd ⟨vt,lo,c,m,n,z,t,rfl,hv,hc,q⟩;let#[dx,d,lb,lh,h1,h2,h3,h4,h5]:=hv.ex;let#[as,g1,g2,g3]:=h2.ex;let#[dc,hc]:=hc.own;apply#[_,(aC (e9 (aJ (zY T) hr (ag (aN '1' rfl) (ag (cq T.Cd rfl) ao))))
   (aA (aT (aJ (NW T) hr (ag '0' (ag (aJ (Oh T) hr (ag '0' (ag (aN '1' rfl) (ag (aN '0' rfl) ao)))) ao)))))),?_]
 simp! only[h1,hc,T.gm,T.nA,oW]
 simp![bK]at q;apply zT q λk ek hk q2=>?_;subst ek;apply be.mk hc T.gm T.nA (oW _ _ _) (be.mk h1 T.bM T.wQ (Fg _ _ _ _ _) #[vt,lo,m,k,m.here,rfl,hv,by omega,λH2 s2=>?_]);apply#[vt,lo,m,_,rfl,hv.same s2,λj e=>JN e,q2.same s2]
def ZJ:aV P w K mg base "answer_goback" 29 ["visit","call"] (lX (λm z _=>bK m (.goBack z)) A):=by
 apply bd T.Ai ["visit","call"] ?_;rintro f _ _ _ s H _ Q E hr nd ⟨vt,lo,c,m,n,z,t,rfl,hv,hc,q⟩;let#[dx,d,lb,lh,h1,h2,h3,h4,h5]:=hv.ex;let#[as,g1,g2,g3]:=h2.ex;let#[dc,hc]:=hc.own;apply#[_,(aC (e9 (aJ (zY T) hr (ag (aN '1' rfl) (ag (cq T.Cd rfl) ao))))
   (aA (aT (aJ (NW T) hr (ag '0' (ag (aJ (Om T) hr (ag '0' (ag (aN '1' rfl) (ag (aN '0' rfl) ao)))) ao)))))),?_]
 simp! only[h1,hc,T.gm,T.nA,oW]
 simp![bK]at q;apply zT q λk ek hk q2=>?_;subst ek;apply be.mk hc T.gm T.nA (oW _ _ _) (be.mk h1 T.bM T.wQ (Fg _ _ _ _ _) #[vt,lo,m,k,m.here,rfl,hv,by omega,λH2 s2=>?_]);apply#[vt,lo,m,_,rfl,hv.same s2,λj e=>J_ e,q2.same s2]
theorem Ui{α:Type}{b:Nat}{a:α->Nat}:∀{l:List α},(∀x∈l,a x<=b)->(l.map a).sum<=l.length*b
 |[],_=>eX _
 |x::r,h=>by
  have h1:=h x bq;have h2:=Ui (l:=r) λy hy=>h y (bp _ hy);rw[ba,gi,cN,Cr];omega
def ZK:aV P w K mg base "answer_grid" 9 ["visit","call"] (lX (λm _ t=>bK m (.grid t)) A):=by
 apply bd T.Aj ["visit","call","place","grid","answer","row"] ?_;rintro f _ _ _ s H _ Q E hr nd ⟨vt,lo,c,m,n,z,t,rfl,hv,hc,q⟩;let#[dx,d,lb,lh,h1,h2,h3,h4,h5]:=hv.ex;let#[as,g1,g2,g3]:=h2.ex;let#[dc,hc]:=hc.own;apply#[_,(aC (bu 2 nd (aJ (sh T) hr (ag (aN '0' rfl) (ag (aN '1' rfl) ao))))
   (aC (bY (bQ jl (aN (cr cP (aN '0' rfl) '2' (λ_ _=>rfl)) rfl) bG (bO _)) (aA (eG T.Fx eI rfl rfl)) bZ)
   (aC (bu 3 nd (aJ (NX T) hr (ag '0' (ag '2' ao))))
   (aC (bu 4 nd (eS (ag (dg dW rfl T.dH L2.boot_len (ag '3' ao)) ao)))
   (aC (kR gw rfl (eF '3') (cC 5 nd) (aA (e9 (iH jb Cw Cy Bg '4' (ag (aJ (z9 T) hr (ag '0' (ag '5' ao))) ao)))))
   (aA (aT '4'))))))),?_]
 simp! only[h1,hc,T.gm,T.km,lI,T.bM,T.cR,cU]
 simp![bK]at q;apply EI q h2 hv.ok (am.refl _) λi H1 hi s1 q=>?_;let#[a,ea,cA]:=g3 i hi;let#[eO,dF,dE,i1,i2,i3]:=cA.ex;have h1':=s1 _ _ h1;have i1':=s1 _ _ i1;have ek:decide (S (mb m.p i).kind=bN "table")=decide (kI m i=.table):=xN (kI m i) (k':=.table) ()
 simp! only[h1',T.bM,T.cR,cU]
 apply .inl #[lb,_,_,_,rfl,rfl,az.of (s1 _ _ g1),cG (cy ea),?_]
 simp! only[i1',T.b8,T.ik,kn,ek]
 by_cases hk:kI m i=.table
 rw[aq hk]at q;rw[b_ hk]
 simp! only[]
 apply#[vt,lo,m,i,rfl,hv.same s1,λL H2 s2 _ hg=>?_];let#[rs,r1,r2,r3]:=hg.row;have s12:=s1.trans s2;apply#[(dI m i).length,.inl #[_,az.of r1,by rw[aD,r2]],bX (show 1<=100000 by decide),λD hD=>?_];have sD:am H2 (L2.upd H2 D (.lst [.int ((dI m i).length:Nat)])):=am.new hD;have hrow:∀l∈dI m i,(∀j∈l,j<m.p.length)/\l.length<=16:=λl hl=>by
  let#[r',_,rfl]:=Ge.mp hl;show#[λj hj=>(om hj).1,yq m hv.ok.pg r']
 have ae1:((dI m i).flatMap (jM m)).length<=100000:=by
  rw[LU];have h1:=Ui (l:=dI m i) (a:=λl=>(jM m l).length) (b:=1700) λl hl=>by
   have:=AY (m:=m) hv.ok.pg (hrow l hl).1;have:=(hrow l hl).2;omega
  have h2:=Iq hv.ok.pg i;have h3:(dI m i).length*1700<=16*1700:=wg _ h2;omega
 apply#[L,rfl,#[_,az.of (sD _ _ r1)],ss (xs:=rs.map V.ref) (λj σ H'=>(∃u,σ=[some (.ref vt),some (.ref c),some (.int (i:Nat)),some (.ref L),some (.ref D),u])/\am H2 H'/\eB H' D (((dI m i).length:Int)::((dI m i).take j).flatMap (jM m))) #[#[_,rfl],sD,aH] (λj σ H' _ ⟨_,s3,_⟩=>az.of (s3 _ _ r1)) ?_ ?_];rintro j y σ H' hy ⟨⟨u,rfl⟩,s3,hD3⟩;have hj:j<rs.length:=by
  have:=(List.getElem?_eq_some_iff.mp hy).1
  rwa [aD]at this
 have el:(dI m i)[j]? =some (dI m i)[j]:=ca ();let#[b,eb,kz]:=r3 j _ el;rw[cy eb]at hy;cases hy;have hm:=hrow _ (fh el);have hfl:=DD (jM m) _ j _ el;apply#[.inl #[rfl,_,az.of hD3],vt,lo,b,m,_,rfl,hv.same (s12.trans s3),s3 _ _ kz,hm.1,by omega,λD3 H3 s4 pw g_=>?_];apply#[D,D3,_,_,rfl,rfl,s4 _ _ hD3,g_,by rw[aD,aD,cN];show jV (),#[_,rfl],λc o e=>?_,?_];rw[aG (bf e hD)];show s4 _ _ (s3 _ _ e);unfold eB;rw[aH,<-cB,ja,gz el,vZ];simp![gh,oI,eJ];rintro σ H' ⟨⟨u,rfl⟩,s3,hD3⟩;rw[aD,r2,jy]at hD3;show q.ok hv D H' (s12.trans s3) hD3;rw[ay hk]at q;rw[cO hk];show q H1 s1
def ad0{m:MS}{i:Nat}(h:i∈dj m 1):0<d9 (kI m i):=by
 unfold dj at h;have:=(Gd.mp (Gd.mp h).1).2;unfold oX at this;simp![show ¬(1:Nat)=0 by decide,bI,show ¬(1:Nat)=2 by decide]at this
 revert this
 generalize kI m i=k;cases k<;>decide
def pM(m:MS)(i:Nat):List Int:=(d9 (kI m i):Int)::(tI (nm m.p i)++tI (fP m i))
def ZP:aV P w K mg base "answer_outline" 28 ["visit","call"] (lX (λm _ _=>bK m .outline) A):=by
 apply bd T.Ao ["visit","call","places","answer","place","box"] ?_;rintro f _ _ _ s H _ Q E hr nd ⟨vt,lo,c,m,n,z,t,rfl,hv,hc,q⟩;let#[dx,d,lb,lh,h1,h2,h3,h4,h5]:=hv.ex;let#[as,g1,g2,g3]:=h2.ex;let#[dc,hc]:=hc.own;apply#[_,(aC (bu 2 nd (aJ (z8 T) hr (ag '0' (ag (cq T.B8 rfl) ao))))
   (aC (bu 3 nd (eS (ag (dg dW rfl T.dH L2.boot_len (ag '2' ao)) ao)))
   (aC (kR gw rfl (eF '2') (cC 4 nd) (aC (bu 5 nd (cr cP (aN '0' rfl) '4' (λ_ _=>rfl)))
   (aC (e9 (iH jb uj uk sH '3' (ag (aJ (NY T) hr (ag '5' ao)) ao)))
   (aC (e9 (iH jb Cw Cy Bg '3' (ag (aJ (sj T) hr (ag (aN '5' rfl) ao)) ao)))
   (aA (e9 (iH jb Cw Cy Bg '3' (ag (aJ (sj T) hr (ag (aJ (HE T) hr (ag '0' (ag '4' ao))) ao)) ao))))))))
   (aA (aT '3'))))),?_]
 simp! only[]
 apply#[vt,lo,m,1,rfl,hv,by decide,λL H1 s1 _ hL=>?_];have h16:(dj m 1).length<=16:=by
  unfold dj;apply cp (jw _ _) (cp (jw _ _) ?_);rw[ln];show R9 hv.ok
 have hl:∀k∈dj m 1,k<m.p.length:=λk hk=>AI hk;have ae1:((dj m 1).flatMap (pM m)).length<=1000000:=by
  rw[LU];have h1:=A9 (l:=dj m 1) (a:=λk=>(pM m k).length) (b:=50200) λk hk=>by
   have e1:=u1 hv.ok.pg (hl k hk);have e2:=xW m hv.ok.pg (hl k hk);unfold pM;rw[cN,dG,jY,jY];omega
  have h3:(dj m 1).length*50200<=16*50200:=wg _ h16;omega
 apply#[(dj m 1).length,.inl #[_,az.of hL,by rw[aD]],bX (show 1<=100000 by decide),λD hD=>?_];have sD:am H1 (L2.upd H1 D (.lst [.int ((dj m 1).length:Nat)])):=am.new hD;apply#[L,rfl,#[_,az.of (sD _ _ hL)],ss (xs:=(dj m 1).map λn=>V.int (n:Nat)) (λj σ H'=>(∃u v,σ=[some (.ref vt),some (.ref c),some (.ref L),some (.ref D),u,v])/\am H1 H'/\eB H' D (((dj m 1).length:Int)::((dj m 1).take j).flatMap (pM m))) #[#[_,_,rfl],sD,aH] (λj σ H' _ ⟨_,s3,_⟩=>az.of (s3 _ _ hL)) ?_ ?_];rintro j y σ H' hy ⟨⟨u,v,rfl⟩,s3,hD3⟩;have hj:j<(dj m 1).length:=by
  have:=(List.getElem?_eq_some_iff.mp hy).1
  rwa [aD]at this
 have el:(dj m 1)[j]? =some (dj m 1)[j]:=ca hj;generalize (dj m 1)[j]=i at el;rw[cx,el]at hy;cases hy;have him:=fh el;have hi:=hl i him;let#[a,ea,cA]:=g3 i hi;let#[eO,dF,dE,i1,i2,i3]:=cA.ex;have hfl:=DD (pM m) _ j _ el;have s13:=s1.trans s3;have e1:=u1 hv.ok.pg hi;have e2:=xW m hv.ok.pg hi;have eo:(pM m i).length=3+(nm m.p i).length+(fP m i).length:=by
  unfold pM;rw[cN,dG,jY,jY];omega
 apply be.mk (s13 _ _ h1) T.bM T.cR (cU _ _ _ _ _) (.inl #[lb,_,_,_,rfl,rfl,az.of (s13 _ _ g1),cG (cy ea),?_]);apply#[.inl #[rfl,_,az.of hD3],a,m.p,i,rfl,cA.same s13,ad0 him,D,_,_,rfl,rfl,hD3,by rw[aD,cN];show fj (by omega:_<16000000) (jV (bj _)),?_];generalize AG:L2.upd H' D _=H4;have s4:am H1 H4:=λc o e=>by rw[<-AG,aG (bf e hD)];show s3 _ _ e
 have g_:eB H4 D ((((dj m 1).length:Int)::((dj m 1).take j).flatMap (pM m))++[(d9 (kI m i):Int)]):=by
  unfold eB;rw[<-AG,aH,cB];rfl
 have s14:=s1.trans s4;apply#[.inl #[rfl,_,az.of g_],be.mk (s14 _ _ i1) T.b8 T.nz (oV _ _ _) #[nm m.p i,rfl,by omega,λD5 H5 s5 ad4 pj=>?_]];apply#[D,D5,_,_,rfl,rfl,s5 _ _ g_,pj,by rw[aD,aD,dG,cN,rC,jY];show jV (),?_];generalize PB:L2.upd H5 D _=H6;have s6:am H1 H6:=λc o e=>by rw[<-PB,aG (bf e hD)];show s5 _ _ (s4 _ _ e)
 have Py:eB H6 D ((((dj m 1).length:Int)::((dj m 1).take j).flatMap (pM m))++[(d9 (kI m i):Int)]++tI (nm m.p i)):=by
  unfold eB;rw[<-PB,aH,<-cB]
 apply#[.inl #[rfl,_,az.of Py],vt,lo,m,i,rfl,hv.same (s1.trans s6),hi,λH7 s7=>#[fP m i,rfl,by omega,λD8 H8 s8 hf8 ado=>?_]];apply#[D,D8,_,_,rfl,rfl,s8 _ _ (s7 _ _ Py),ado,by rw[aD,aD,dG,dG,cN,rC,jY,jY];show jV (),#[_,_,rfl],λc o e=>?_,?_];rw[aG (bf e hD)];show s8 _ _ (s7 _ _ (s6 _ _ e));unfold eB;rw[aH,<-cB,gz el,vZ];simp![gh,oI,eJ,pZ,ja,lq,pM];rintro σ H' ⟨⟨u,v,rfl⟩,s3,hD3⟩;rw[aD,jy]at hD3;show q.ok hv D H' (s1.trans s3) hD3
def nj:W:=cs "abcdefghijklmnopqrstuvwxyz0123456789 :\"\n"
def yC(c:Nat):Nat:=(GJ #[(List.toArray [c])]).cps.getD 0 0
def EX(kvs:List (bB×V))(c:Nat):List (bB×V):=iJ (iJ kvs (bU (c:Nat)) (.str #[(List.toArray [c])])) (bU (yC c:Nat)) (.str #[(List.toArray [yC c])])
def tG(l:W):List (bB×V):=l.foldl EX []
def US:∀c∈nj,GJ #[(List.toArray [c])]=#[(List.toArray [yC c])]:=by decide+kernel
def Tr(n:Nat):Bool:=match gB (tG nj) (bU ((n:Nat):Int))with
 |some (.str x)=>ji n&&(x.cps.toList==[n])
 |none=>!ji n
 |_=>false
def ajy:∀n,n<256->Tr n=true:=by decide+kernel
def ajz{n:Nat}(h:n<256):(gB (tG nj) (bU ((n:Nat):Int))).getD (.str "?")=.str (S [dm n]):=by
 have e:=ajy n h;unfold Tr at e;unfold dm;split at e;rename_i x hx;rw[bS,gO]at e;rw[hx,aq e.1];show V.str x=_;rw[<-WY x];show V.str (S x.cps.toList)=_;rw[e.2];rename_i hx;rw[pX]at e;rw[hx,ay (by rw[e];decide)];rfl;cases e
def Ke(kvs:List (bB×V))(k:bB)(v:V):(iJ kvs k v).length<=kvs.length+1:=by
 unfold iJ;split;rw[aD];omega;rw[dG];show bj _
def amn(l:W):(tG l).length<=2*l.length:=by
 have:∀(l:W)(kvs:List (bB×V)),(l.foldl EX kvs).length<=kvs.length+2*l.length:=by
  intro l;induction l with
  |nil=>show λkvs=>bj _
  |cons c r ih=>
   intro kvs;have h1:=ih (EX kvs c);have h2:=Ke kvs (bU (c:Nat)) (.str #[(List.toArray [c])]);have h3:=Ke (iJ kvs (bU (c:Nat)) (.str #[(List.toArray [c])])) (bU (yC c:Nat)) (.str #[(List.toArray [yC c])]);rw[v0,cN];unfold EX at h1⊢;omega
 have:=this l [];unfold tG;simpa using this
def akT:Sp:=λvs H Q _=>vs=[]/\∀D H',am H H'->H D=none->H' D=some (.dK (tG nj))->Q (.ref D) H'
def ac6{x:Str}{g:TG}{tb:TS}{D:m7}{σ:L2.St}{H:Hp}(Pv:Nat->L2.St->Hp->Prop)(h0:Pv 0 σ H)(hs:∀i c σ H,x.cps.toList[i]? =some c->Pv i σ H->g (.str #[(List.toArray [c])]) σ H λσ2 H2=>tb { D with nx:=Pv (i+1),ct:=Pv (i+1),bk:=D.nx } σ2 H2)(aoF:∀σ H,Pv x.cps.toList.length σ H->D.nx σ H):
  ∃W:Nat->Nat->L2.St->Hp->Prop,(∃m,W 0 m σ H)/\∀i m σ H,W i m σ H->
   ((rA x).stop i H/\D.nx σ H)\/((rA x).go i H/\∃N:L2.St->Hp->Prop,(∀σ' H',N σ' H'->∃m',m'<m/\W (i+1) m' σ' H')/\∀y H',(rA x).ib i H y H'->g y σ H' λσ2 H2=>tb { D with nx:=N,ct:=N,bk:=D.nx } σ2 H2):=by
 apply#[λi m σ H=>m=x.cps.size-i/\i<=x.cps.size/\Pv i σ H,#[_,rfl,eX _,h0],?_];rintro i m σ H ⟨rfl,hi,p⟩;by_cases hlt:i<x.cps.size
 apply .inr #[hlt,Pv (i+1),λσ' H' p'=>#[_,by omega,rfl,hlt,p'],?_];rintro y H' ⟨rfl,c,hc,rfl⟩;show hs i c σ _ (by rw[Vh];show hc) p;have e:i=x.cps.size:=by omega
 subst e;show .inl #[bj _,aoF σ H (by rw[l_];show p)]
def aal:aV P w K mg base "sign_table" 1 [] akT:=by
 apply bd T.acw ["table","sign"] ?_ (len:=λvs H Q E h=>by let#[rfl,_]:=h;rfl);rintro f _ _ _ s H vs Q E hr nd ⟨rfl,q⟩;apply#[_,(aC (bu 0 nd Si)
   (aC (kR gw rfl (Sm (cq T.WW rfl)) (cC 1 nd) (aC (Kb (AT hr) '0' (dg Hi rfl T.G_ L2.boot_ord (ag '1' ao)) '1' rfl)
   (aA (Kb (AT hr) '0' (dg Hi rfl T.G_ L2.boot_ord (ag (Bs WA WG RB '1') ao)) (Bs WA WG RB '1') rfl))))
   (aA (aT '0')))),?_]
 intro D hD;apply#[_,rfl,?_];apply ac6 (λj σ H'=>(∃u,σ=[some (.ref D),u])/\am H H'/\H' D=some (.dK (tG (nj.take j)))) #[#[_,rfl],am.new hD,aH] ?_ ?_;rintro j c σ H' hc ⟨⟨u,rfl⟩,s1,dA⟩;have hm:c∈nj:=fh hc;have hl:=amn (nj.take j);have hl2:(nj.take j).length<=100:=by rw[ka];show cp (Gn _ _) ()
 have hp:=Ke (tG (nj.take j)) (bU (c:Nat)) (.str #[(List.toArray [c])]);apply#[_,rfl,rfl,D,_,rfl,.inl #[_,bU (c:Nat),dA,rfl,kb (by omega:_<=200) (),rfl],?_];apply#[_,rfl,rfl,(by show(1:Nat)<=5592405;decide),_,rfl,rfl,(by show(1:Nat)<=5592405;decide),_,rfl,(by rw[US c hm];rfl),D,_,rfl,.inl #[_,bU (yC c:Nat),aH,rfl,kb (by omega:_<=201) (),rfl],#[_,rfl],λb o e=>?_,?_];rw[aG (bf e hD),aG (bf e hD)];show s1 _ _ e;rw[aH,US c hm];have e:nj.take (j+1)=nj.take j++[c]:=gz hc;unfold tG;rw[e,LK];rfl;rintro σ H' ⟨⟨u,rfl⟩,s1,dA⟩;show q D H' s1 hD (by rw[dA];rfl)
theorem R1:∀ns:List Nat,(ns.map λ_=>1).sum=ns.length
 |[]=>rfl
 |a::r=>by rw[ba,gi,R1 r,cN];omega
def afM(ns:List Nat):zl (bN "") (ns.map λn=>S [dm n])=S (ns.map dm):=by
 apply uG;rw[Jn,Fc,mU,bh];have:∀l:List Nat,qF (tl (bN "")) (l.map (tl∘λn=>S [dm n]))=l.map dm:=by
  intro l;induction l with
  |nil=>rfl
  |cons a r ih=>
   cases r with
   |nil=>rfl
   |cons b r=>
    have e:qF (tl (bN "")) ((a::b::r).map (tl∘λn=>S [dm n]))=dm a::qF (tl (bN "")) ((b::r).map (tl∘λn=>S [dm n])):=rfl;rw[e,ih];rfl
 show this ns
def ak7(A:aO):Sp:=λvs H Q _=>X2 λ(l:aa) (ns:List Nat)=>N5 (vs=[.ref l]) (dY H l ns) ((∀n∈ns,n<256)) (ns.length<=5000) (∀H',am H H'->Q (.str (S (ns.map dm))) H')
def aax:aV P w K mg base "text_of" 2 ["numbers"] (ak7 A):=by
 apply bd T.acL ["numbers","table","number"] ?_;rintro f _ _ _ s H _ Q E hr nd ⟨l,ns,rfl,hl,hb,hz,q⟩;apply#[_,(aC (Kc (i:=1) nd rfl (wm rfl) (aij (aal T) (hr.mono ()) cn rfl))
   (aA (aT (Sj bG (fX eM rfl rfl nd (eF '0') (eN (own:=[("number",2)]) rfl) (λ_ _ _ _ _ _=>(cC 2 nd)) (λ_ _ _ _ _ _=>by show i6) (λ_ _ _ _ _ _ _=>by show(ail (AT hr) '1' '2' (cq T.WX rfl) #[rfl,rfl,rfl,rfl]))))))),?_]
 apply#[rfl,λD H1 s1 hD dA=>?_];apply#[l,rfl,#[_,az.of (s1 _ _ hl)],?_];apply pI (g:=λ_=>true) (h:=λn=>.str (S [dm n])) (s1 _ _ hl) () (λ_ _=>pW) (λn hn _=>?_) λD2 H2 s2 hf2 cg=>?_;intro H3 Q3 s3 k3;have hD3:=s3 _ _ dA;apply#[D,rfl,.inl #[_,Rd.of hD3],_,oA.k (k:=bU ((n:Nat):Int)) hD3,?_];rw[ajz (hb n hn)];show k3 H3 (am.refl _);rw[List.filter_eq_self.mpr (λ_ _=>rfl)]at cg;apply#[_,D2,ns.map λn=>S [dm n],rfl,rfl,.inl (az.of (by rw[cg,bh];rfl)),?_,?_];have e0:(bN "").length=0:=rfl;rw[e0,Nat.mul_zero,Gj,bh];have:(ns.map ((λx:Str=>x.length)∘λn=>S [dm n]))=ns.map λ_=>1:=fg λn _=>rfl;rw[this];have h2:=R1 ns;omega;rw[afM];show q H2 (s1.trans s2)
def fF(l:aa)(k:Int):List (Str×V):=[("numbers",.ref l),("at",.int k)]
def HV(l:aa)(k:Int):(fF l k).lookup ("numbers":Str)=some (V.ref l):=rfl
def Ad(l:aa)(k:Int):(fF l k).lookup ("at":Str)=some (V.int k):=rfl
structure lc (K:aP)(A:aO)(H:Hp)(fd l:aa)(all:List Int)(k:Nat):Prop where
 own:∃dx,H fd=some (.ins A.iL dx (fF l (k:Nat)))
 lst:az K H l (all.map V.int)
def Tq{K:aP}{H:Hp}{fd l C dx:aa}{fs:List (Str×V)}{o:HO}{xs:List V}(h:az K H l xs)(e:H fd=some (.ins C dx fs)):az K (L2.upd H fd o) l xs:=by
 rcases h with(h|⟨ob,h⟩)|h
 show .inl (.inl (by rw[aG (λz=>by rw[z,e]at h;cases h)];show h));show .inl (.inr #[ob,by rw[aG (λz=>by rw[z,e]at h;cases h)];show h]);show .inr h
def lc.same{H H':Hp}{fd l:aa}{all:List Int}{k:Nat}(h:lc K A H fd l all k)(s:am H H'):lc K A H' fd l all k:=
 let ⟨dx,e⟩:=h.own
 #[#[dx,s _ _ e],s.seq h.lst]
def ajL(A:aO):Sp:=λvs H Q _=>X5 λ(p dx:aa) (n z:Int) (x:W)=>N3 (vs=[.ref p,.int n,.int z,.str (S x)]) (H p=some (.ins A.Call dx [])) (∀H',H' p=some (.ins A.Call dx (cF n z x))->bc p H H'->Q .bn H')
def Y8:oz P w K mg base "Call" A.Call 1 ["self","number","choice","text"] (ajL A):=by
 apply uC T.afm ["self","number","choice","text"] ?_;rintro f _ _ _ s H _ Q E hr nd ⟨p,dx,n,z,x,rfl,h1,q⟩;apply#[_,(aC (cQ '0' '1' rfl)
   (aC (cQ '0' '2' rfl)
   (aA (cQ '0' '3' rfl)))),?_]
 simp! only[h1,aH,yD,T.gm,T.M1,T.nA,T.km]
 show#[(by show(0:Nat)<1000;decide),(by show(1:Nat)<1000;decide),(by show(2:Nat)<1000;decide),q _ aH bc.upd]
def ajN(A:aO):Sp:=λvs H Q _=>X3 λ(p dx l:aa)=>N3 (vs=[.ref p,.ref l]) (H p=some (.ins A.iL dx [])) (∀H',H' p=some (.ins A.iL dx (fF l 0))->bc p H H'->Q .bn H')
def Y9:oz P w K mg base "Feed" A.iL 1 ["self","numbers"] (ajN A):=by
 apply uC T.afn ["self","numbers"] ?_;rintro f _ _ _ s H _ Q E hr nd ⟨p,dx,l,rfl,h1,q⟩;apply#[_,(aC (cQ '0' '1' rfl)
   (aA (cQ '0' cS rfl))),?_]
 simp! only[h1,aH,yD,T.lO,T.CU,T.rS]
 show#[(by show(0:Nat)<1000;decide),(by show(1:Nat)<1000;decide),q _ aH bc.upd]
def ajM(K:aP)(A:aO):Sp:=λvs H Q _=>X4 λ(fd l:aa) (all:List Int) (k:Nat)=>N3 (vs=[.ref fd]) (lc K A H fd l all k) (Q (.bl (decide (all.length<=k))) H)
def JD:ly P w K mg base A.iL "ended" 1 ["self"] (ajM K A):=by
 apply qO T.lO T.JD ["self"] ?_;rintro f _ _ _ s H _ Q E hr nd ⟨fe,l,all,k,rfl,hf,q⟩;let#[dx,h1]:=hf.own;apply#[_,(aA (aT (iY Bp (aN '0' rfl) (dg dW rfl T.dH L2.boot_len (ag (aN '0' rfl) ao)) (bO _)))),?_]
 simp! only[h1,T.lO,T.rS,T.CU,Ad,HV]
 apply#[all.length,.inl #[_,hf.lst,by rw[aD]],?_];have e:decide (((all.length:Nat):Int)<=((k:Nat):Int))=decide (all.length<=k):=by
  rw[cw,bw,bw];omega
 rw[e];show q
def ajO(K:aP)(A:aO):Sp:=λvs H Q _=>X5 λ(fe l:aa) (all:List Int) (k:Nat) (z:Int)=>N4 (vs=[.ref fe]) (lc K A H fe l all k) (all[k]? =some z) (∀H',lc K A H' fe l all (k+1)->bc fe H H'->(∀b,H b=none->H' b=none)->Q (.int z) H')
def Bb:ly P w K mg base A.iL "take" 1 ["self"] (ajO K A):=by
 apply qO T.lO T.Bb ["self","number"] ?_;rintro f _ _ _ s H _ Q E hr nd ⟨fe,l,all,k,z,rfl,hf,hz,q⟩;let#[dx,h1]:=hf.own;apply#[_,(aC (bu 1 nd (cr cP (aN '0' rfl) (aN '0' rfl) (λ_ _=>rfl)))
   (aC (cQ '0' (eD fV (aN '0' rfl) cS) rfl)
   (aA (aT '1')))),?_]
 simp! only[h1,T.lO,T.rS,T.CU,Ad,HV]
 apply .inl #[l,_,_,_,rfl,rfl,hf.lst,cG (j:=k) (by rw[cx,hz];rfl),?_];apply be.mk h1 T.lO T.rS (Ad _ _) (fq.mk h1 T.lO T.rS (by show(2:Nat)<1000;decide) (q _ #[#[dx,aH],?_] bc.upd λb hb=>?_));show Tq hf.lst h1;rw[aG (λz=>by rw[z,h1]at hb;cases hb)];show hb
def ZB(all:List Int)(k c:Nat)(h:k+c<=all.length):sf (all.map V.int) (some ((k:Nat):Int)) (some (((k+c:Nat):Nat):Int))=((all.drop k).take c).map V.int:=by
 unfold sf;have e1:∀d:Nat,HT.cu (all.map V.int).length d (some ((k:Nat):Int))=k:=λd=>by
  show(if ((k:Nat):Int)<0 then(((k:Nat):Int)+((all.map V.int).length:Int)).toNat else min ((k:Nat):Int).toNat (all.map V.int).length)=_;rw[ay (),aD];omega
 have e2:HT.cu (all.map V.int).length (all.map V.int).length (some (((k+c:Nat):Nat):Int))=k+c:=by
  show(if (((k+c:Nat):Nat):Int)<0 then((((k+c:Nat):Nat):Int)+((all.map V.int).length:Int)).toNat else min (((k+c:Nat):Nat):Int).toNat (all.map V.int).length)=_;rw[ay (),aD];omega
 rw[e1,e2,Nat.add_sub_cancel_left,LW,List.map_drop]
def ajQ(K:aP)(A:aO):Sp:=λvs H Q _=>X5 λ(fe l:aa) (all:List Int) (k c:Nat)=>N5 (vs=[.ref fe]) (lc K A H fe l all k) (all[k]? =some ((c:Nat):Int)) (k+1+c<=all.length) (∀D H',lc K A H' fe l all (k+1+c)->bc fe H H'->H D=none->eB H' D ((all.drop (k+1)).take c)->Q (.ref D) H')
def JF:ly P w K mg base A.iL "take_row" 2 ["self"] (ajQ K A):=by
 apply qO T.lO T.JF ["self","count","end","row"] ?_;rintro f _ _ _ s H _ Q E hr nd ⟨fe,l,all,k,c,rfl,hf,hz,hl,q⟩;apply#[_,(aC (bu 1 nd (fJ (Bb T) (hr.mono ()) cn '0'))
   (aC (bu 2 nd (eD fV (aN '0' rfl) '1'))
   (aC (bu 3 nd (EC EY (aN '0' rfl) (yj (aN '0' rfl)) (yj '2')))
   (aC (cQ '0' '2' rfl)
   (aA (aT '3')))))),?_]
 let#[dx,h1]:=hf.own;apply f'.mk h1 rfl #[fe,l,all,k,_,rfl,hf,hz,λH1 jJ b1 n1=>?_];let#[kr,h2]:=jJ.own;have e:((k+1:Nat):Int)+((c:Nat):Int)=((k+1+c:Nat):Int):=by omega
 apply be.mk h2 T.lO T.rS (Ad _ _) (.inl ?_);have e':(λi j:Int=>V.int (i+j)) ((k+1:Nat):Int) ((c:Nat):Int)=V.int ((k+1+c:Nat):Int):=by rw[<-e]
 simp![jn,sP];rw[e];apply be.mk h2 T.lO T.CU (HV _ _) (be.mk h2 T.lO T.rS (Ad _ _) #[_,rfl,_,rfl,.inr #[l,_,rfl,jJ.lst,λD hD=>?_]]);rw[ZB all (k+1) c hl];have s1:am H1 (L2.upd H1 D (.lst (((all.drop (k+1)).take c).map V.int))):=am.new hD;have RM:D≠fe:=λz=>by rw[z,h2]at hD;cases hD
 apply fq.mk (s1 _ _ h2) T.lO T.rS (by show(2:Nat)<1000;decide) (q D _ #[#[kr,aH],?_] ?_ ?_ ?_);show Tq (s1.seq jJ.lst) (s1 _ _ h2);show b1.trans ((bc.of_same s1).trans bc.upd);cases e:H D with
 |none=>rfl
 |some o=>show absurd (b1 _ _ e RM) (by rw[hD];intro z;cases z)
 unfold eB;rw[aG RM,aH]
def mY:List Int:=[6,7,11,15,16]
def k_:List Int:=[0,1,2,4,5,6,7,9,10,11,12]
theorem D_(n:Int):∀l:List Int,pE (.int n) (l.map V.int)=l.contains n
 |[]=>rfl
 |a::l=>by
  have ih:=D_ n l;unfold pE at ih⊢;rw[ba,oG,ih,Cf];have:ir (V.int a) (V.int n)=(n==a):=by
   show(a==n)=(n==a);rw[cw,gO,gO];show eq_comm
  rw[this]
theorem DC:∀l:List Int,(l.map V.int).all g9=true
 |[]=>rfl
 |a::l=>by rw[ba,lg,DC l];rfl
def tX(all:List Int)(k:Nat)(n z:Int)(t:aE)(e:Nat):Prop:=
 all[k]? =some n/\∃k2,(if mY.contains n=true then all[k+1]? =some z/\k2=k+2 else z=0/\k2=k+1)/\
  (if k_.contains n=true then ∃c:Nat,all[k2]? =some ((c:Nat):Int)/\k2+1+c<=all.length/\(all.drop (k2+1)).take c=t.map (λb=>(b.toNat:Int))/\t.length<=4000/\e=k2+1+c else t=[]/\e=k2)
def none_of{fe x:aa}{H H':Hp}(b:bc fe H H')(hx:H' x=none)(n:x≠fe):H x=none:=by
 cases e:H x with
 |none=>rfl
 |some o=>show absurd (b _ _ e n) (by rw[hx];intro z;cases z)
def ajP(K:aP)(A:aO):Sp:=λvs H Q _=>∃(fe l:aa)(all:List Int)(k:Nat)(n z:Int)(t:aE)(e:Nat),vs=[.ref fe]/\lc K A H fe l all k/\tX all k n z t e/\∀c H',lc K A H' fe l all e->bc fe H H'->H c=none->rk A H' c n z t->Q (.ref c) H'
def JE:ly P w K mg base A.iL "take_call" 3 ["self"] (ajP K A):=by
 apply qO T.lO T.JE ["self","number","choice","text"] ?_;rintro f _ _ _ s H _ Q E hr nd ⟨fe,l,all,k,n,z,t,e,rfl,hf,hc,q⟩;let#[hn,k2,hz,ht]:=hc;apply#[_,(aC (bu 1 nd (fJ (Bb T) (hr.mono ()) cn '0'))
   (aC (bu 2 nd (qV (bQ sU '1' (cq T.vP rfl) rfl) (fJ (Bb T) (hr.mono ()) cn '0') cS))
   (aC (bu 3 nd (qV (bQ sU '1' (cq T.tU rfl) rfl) (aJ (aax T) hr (ag (fJ (JF T) (hr.mono ()) cn '0') ao)) bG))
   (aA (aT (tj (Y8 T) (hr.mono ()) cn rfl (ag '1' (ag '2' (ag '3' ao))))))))),?_]
 let#[dx,h1]:=hf.own;apply f'.mk h1 rfl #[fe,l,all,k,_,rfl,hf,hn,λH1 jJ b1 n1=>?_];let#[kr,h2]:=jJ.own;apply#[A.vP,mY.map V.int,rfl,.inr (T.alV _),rfl,DC _,?_];rw[D_];apply ?_;by_cases c1:mY.contains n=true
 rw[aq c1]at hz;let#[xG,rfl]:=hz;rw[c1];apply f'.mk h2 rfl #[fe,l,all,_,z,rfl,jJ,xG,λH2 hf2 b2 n2=>?_];have b12:=b1.trans b2;apply#[A.tU,k_.map V.int,rfl,.inr (T.Us _),rfl,DC _,?_];rw[D_];apply ?_;let#[lL,h3]:=hf2.own;by_cases c2:k_.contains n=true
 rw[aq c2]at ht;let#[c,I_,AR,AS,aeY,rfl]:=ht;rw[c2];apply f'.mk h3 rfl #[fe,l,all,_,c,rfl,hf2,I_,AR,λD H3 pw b3 hD hD3=>?_];have IW:dY H3 D (cd t):=by
  unfold dY;rw[show H3 D=_ from hD3,AS,bh];unfold cd;rw[bh];rfl
 apply#[D,cd t,rfl,IW,λx hx=>?_,by rw[ko];omega,λH4 s4=>?_];unfold cd at hx;let#[b,_,rfl]:=Ge.mp hx;show MH b;apply λx nG nx n6 Ep=>#[x,nG,n,_,(cd t).map dm,rfl,aH,λH5 e5 b5=>#[rfl,?_]];have s5:am H4 H5:=λb o eb=>b5 _ _ (by rw[aG (bf eb nx),aG (bf eb n6)];show eb) (bf eb nx);have s35:=s4.trans s5;show q x H5 (pw.same s35) ((b12.trans b3).trans (bc.of_same s35)) (none_of ((b12.trans b3).trans (bc.of_same s4)) nx (λz=>by rw[z]at nx;let#[_,e6]:=(pw.same s4).own;rw[nx]at e6;cases e6)) #[nG,e5];rw[ay c2]at ht;let#[rfl,rfl]:=ht;rw[FH]at c2;rw[c2];apply λx nG nx n6 Ep=>#[x,nG,n,_,[],rfl,aH,λH5 e5 b5=>#[rfl,?_]];have s5:am H2 H5:=λb o eb=>b5 _ _ (by rw[aG (bf eb nx),aG (bf eb n6)];show eb) (bf eb nx);show q x H5 (hf2.same s5) (b12.trans (bc.of_same s5)) (none_of b12 nx (λz=>by rw[z]at nx;rw[nx]at h3;cases h3)) #[nG,e5];rw[ay c1]at hz;let#[rfl,rfl]:=hz;rw[FH]at c1;rw[c1];have b12:=b1;have hf2:=jJ;apply#[A.tU,k_.map V.int,rfl,.inr (T.Us _),rfl,DC _,?_];rw[D_];apply ?_;let#[lL,h3]:=hf2.own;by_cases c2:k_.contains n=true
 rw[aq c2]at ht;let#[c,I_,AR,AS,aeY,rfl]:=ht;rw[c2];apply f'.mk h3 rfl #[fe,l,all,_,c,rfl,hf2,I_,AR,λD H3 pw b3 hD hD3=>?_];have IW:dY H3 D (cd t):=by
  unfold dY;rw[show H3 D=_ from hD3,AS,bh];unfold cd;rw[bh];rfl
 apply#[D,cd t,rfl,IW,λx hx=>?_,by rw[ko];omega,λH4 s4=>?_];unfold cd at hx;let#[b,_,rfl]:=Ge.mp hx;show MH b;apply λx nG nx n6 Ep=>#[x,nG,n,_,(cd t).map dm,rfl,aH,λH5 e5 b5=>#[rfl,?_]];have s5:am H4 H5:=λb o eb=>b5 _ _ (by rw[aG (bf eb nx),aG (bf eb n6)];show eb) (bf eb nx);have s35:=s4.trans s5;show q x H5 (pw.same s35) ((b12.trans b3).trans (bc.of_same s35)) (none_of ((b12.trans b3).trans (bc.of_same s4)) nx (λz=>by rw[z]at nx;let#[_,e6]:=(pw.same s4).own;rw[nx]at e6;cases e6)) #[nG,e5];rw[ay c2]at ht;let#[rfl,rfl]:=ht;rw[FH]at c2;rw[c2];apply λx nG nx n6 Ep=>#[x,nG,n,_,[],rfl,aH,λH5 e5 b5=>#[rfl,?_]];have s5:am H1 H5:=λb o eb=>b5 _ _ (by rw[aG (bf eb nx),aG (bf eb n6)];show eb) (bf eb nx);show q x H5 (hf2.same s5) (b12.trans (bc.of_same s5)) (none_of b12 nx (λz=>by rw[z]at nx;rw[nx]at h3;cases h3)) #[nG,e5]
def Ro(p:aX)(f:Vaacca.Box->Bool):(bv p.length).map (λi=>f (bx p i))=p.map f:=by
 apply m8;intro i;rw[cx,cx];by_cases h:i<p.length
 rw[mh h,ca h];show some (f (bx p i))=some (f p[i]);congr 2;unfold bx;rw[cZ,ca h];rfl;rw[ig (by simpa using h),ig ()];rfl
def QZ{te:TE}{σ:L2.St}{H1:Hp}{Q:aa->Hp->Prop}{p:aX}{f:Nat->Bool}{lb:aa}{i:Nat}(hp:fB A H1 lb p)(hl:p.length<=16)(he:∀n a,n<p.length->du A H1 a (mb p n)->jD te ((bD σ [i]).set i (some (.ref a))) H1 (.bl (f n)))(q:∀D H',am H1 H'->H1 D=none->H' D=some (.lst (dC ((bv p.length).map f)))->Q D H'):
  ∀D,H1 D=none->∃W:Nat->Nat->Hp->Prop,(∃m,W 0 m (L2.upd H1 D (.lst [])))/\∀n m H,W n m H->
   ((gE K lb).stop n H/\Q D H)\/((gE K lb).go n H/\∃Nx:Hp->Prop,(∀H',Nx H'->∃m',m'<m/\W (n+1) m' H')/\∀x H',(gE K lb).ib n H x H'->iU i x (bD σ [i]) H' λσ2 H2=>bD σ2 [i]=bD σ [i]/\pR σ2 H2 λb H3=>
    if b=true then te σ2 H3 λy H4=>∃acc,H4 D=some (.lst acc)/\acc.length<sizeLine/\Nx (L2.upd H4 D (.lst (acc++[y])))else Nx H3):=λD hD=>by
 let#[as,g1,g2,g3]:=hp.ex;apply xR (K:=K) (a:=lb) (xs:=as.map V.ref) (λn H=>am H1 H/\H D=some (.lst (dC ((bv n).map f)))) #[am.new hD,by rw[aH];rfl] (λn H _ ⟨s,_⟩=>az.of (s _ _ g1)) ?_ λH ⟨s,e⟩=>?_;rintro n x H hx ⟨s,e⟩;have hlt:n<p.length:=by
  have:=(List.getElem?_eq_some_iff.mp hx).1;rw[aD,g2]at this;show this
 let#[a,ea,hb]:=g3 n hlt;rw[cy ea]at hx;cases hx;apply#[tP,?_];unfold pR;simp![bz];apply he n a hlt hb H _ s λH4 s4=>#[_,s4 _ _ e,?_,?_,?_];unfold dC;rw[aD,aD,ln];show fj (by omega:n<100000) (bX (bj _));intro b o hb2;rw[aG (bf hb2 hD)];show s4 _ _ (s _ _ hb2);rw[aH];unfold dC;rw[wc,cB,cB];rfl;rw[aD,g2]at e;show q D H s hD e
def KW(rs:cD)(p:aX):MS:=#[p,rs,p.map λb=>b.hidden,p.map λb=>b.on,0]
def Hg{vt:aa}{H H':Hp}(b:bc vt H H'):am (less H vt vt) H':=λc o e=>by
 have hn:¬(c=vt\/c=vt):=λz=>by unfold less at e;rw[aq z]at e;cases e
 show b c o (fG c o e) λz=>hn (.inl z)
def K2(d:aa):List (Str×V):=[("rules",.ref d)]
def fB.apart{H:Hp}{vt lb dx C:aa}{fs:List (Str×V)}{p:aX}(hp:fB A H lb p)(hv:H vt=some (.ins C dx fs))(kD:fs.length<=5):fB A (less H vt vt) lb p:=by
 have ne:∀{a:aa}{o:HO},H a=some o->(∀C dx fs,o=.ins C dx fs->5<fs.length)->less H vt vt a=some o:=λ{a o} h hn=>e8 h (λz=>by
  rw[z,hv]at h;cases h;show absurd (hn _ _ _ rfl) ()) (λz=>by
  rw[z,hv]at h;cases h;show absurd (hn _ _ _ rfl) ())
 let#[as,g1,g2,g3]:=hp.ex;apply#[as,ne g1 (by rintro _ _ _ ⟨⟩),g2,λi hi=>?_];let#[a,ea,hb]:=g3 i hi;let#[eO,dF,dE,i1,i2,i3]:=hb.ex;let#[ts,t1,t2]:=i3.ex;apply#[a,ea,eO,dF,dE,ne i1 (by rintro _ _ _ ⟨⟩;show fj (show 5<6 by decide) (Wl 6 _)),ne i2 (by rintro _ _ _ ⟨⟩),ts,ne t1 (by rintro _ _ _ ⟨⟩),?_];show Paired.iD t2 λ_ _ z=>ne z (by rintro _ _ _ ⟨⟩)
def ajT(A:aO):Sp:=λvs H Q _=>X6 λ(vt lb d dx:aa) (fs:List (Str×V)) (p:aX)=>N5 (vs=[.ref vt,.ref lb]) (H vt=some (.ins A.d_ dx fs)) ((fs=K2 d\/∃af3 agl agu k,fs=vF d af3 agl agu k)) (fB A H lb p) (PG p/\
 ∀lh lo H',H' vt=some (.ins A.d_ dx (vF d lb lh lo 0))->H lh=none->H lo=none->lh≠lo->H' lh=some (.lst (dC (p.map λb=>b.hidden)))->H' lo=some (.lst (dC (p.map λb=>b.on)))->bc vt H H'->Q .bn H')
def Ej:ly P w K mg base A.d_ "turn_to" 1 ["self","boxes"] (ajT A):=by
 apply qO T.bM T.Ej ["self","boxes","box"] ?_;rintro f _ _ _ s H _ Q E hr nd ⟨vt,lb,d,dx,fs,p,rfl,h1,kD,hp,pg,q⟩;have hlen:fs.length<=5:=by
  rcases kD with rfl|⟨_,_,_,_,rfl⟩
  show 1<=5;decide;show bj _
 have hpl:=hp.apart h1 hlen;have h16:=(g8 pg).2.1;apply#[_,(aC (cQ '0' '1' rfl)
   (aC (cQ '0' (fX eM rfl rfl nd (eF '1') (eN (own:=[("box",2)]) rfl) (λ_ _ _ _ _ _=>(cC 2 nd)) (λ_ _ _ _ _ _=>by show i6) (λ_ _ _ _ _ _ _=>by show(iZ (K:=K) rfl '2' rfl))) rfl)
   (aC (cQ '0' (fX eM rfl rfl nd (eF '1') (eN (own:=[("box",2)]) rfl) (λ_ _ _ _ _ _=>(cC 2 nd)) (λ_ _ _ _ _ _=>by show i6) (λ_ _ _ _ _ _ _=>by show(iZ (K:=K) rfl '2' rfl))) rfl)
   (aA (cQ '0' cS rfl))))),?_]
 apply fq.mk h1 T.bM T.cR () ?_;have b1:bc vt H (L2.upd H vt (.ins A.d_ dx (dL "boxes" (.ref lb) fs))):=bc.upd;have hp1:=hpl.same (Hg b1);apply#[lb,rfl,(hp1.ex.elim λas g=>#[_,az.of g.1]),?_];apply QZ (A:=A) (f:=λn=>(bx p n).hidden) hp1 h16 (λn a hn hb=>?_) λlh H2 s2 DT PZ=>?_;intro H3 Q3 s3 k3;let#[eO,dF,dE,i1,i2,i3]:=hb.ex;show be.mk (s3 _ _ i1) T.b8 T.wJ (Ng _ _ _) (k3 H3 (am.refl _));have sK:lh≠vt:=λz=>by rw[z,aH]at DT;cases DT
 have aes:H lh=none:=by rw[aG sK]at DT;show DT
 have l1:(dL "boxes" (.ref lb) fs).length<1000:=by
  rcases kD with rfl|⟨_,_,_,_,rfl⟩
  show 2<1000;decide;show 5<1000;decide
 have l2:(dL "hidden" (.ref lh) (dL "boxes" (.ref lb) fs)).length<1000:=by
  rcases kD with rfl|⟨_,_,_,_,rfl⟩
  show 3<1000;decide;show 5<1000;decide
 apply fq.mk (s2 _ _ aH) T.bM T.wR l1 ?_;have b2:bc vt H (L2.upd H2 vt (.ins A.d_ dx (dL "hidden" (.ref lh) (dL "boxes" (.ref lb) fs)))):=(b1.trans (bc.of_same s2)).trans bc.upd;have hp2:=hpl.same (Hg b2);apply#[lb,rfl,(hp2.ex.elim λas g=>#[_,az.of g.1]),?_];apply QZ (A:=A) (f:=λn=>(bx p n).on) hp2 h16 (λn a hn hb=>?_) λlo H3 s3 xz aec=>?_;intro H4 Q4 s4 k4;let#[eO,dF,dE,i1,i2,i3]:=hb.ex;show be.mk (s4 _ _ i1) T.b8 T.wL (YM _ _ _) (k4 H4 (am.refl _));have x_:lo≠vt:=λz=>by rw[z,aH]at xz;cases xz
 have IV:H2 lo=none:=by rw[aG x_]at xz;show xz
 have ahD:lh≠lo:=λz=>by rw[<-z,PZ]at IV;cases IV
 have aeu:H lo=none:=by
  cases e:H lo with
  |none=>rfl
  |some o=>show absurd (s2 _ _ (b1 _ _ e x_)) (by rw[IV];intro z;cases z)
 have l3:(dL "on" (.ref lo) (dL "hidden" (.ref lh) (dL "boxes" (.ref lb) fs))).length<1000:=by
  rcases kD with rfl|⟨_,_,_,_,rfl⟩
  show 4<1000;decide;show 5<1000;decide
 have bW:dL "here" (.int 0) (dL "on" (.ref lo) (dL "hidden" (.ref lh) (dL "boxes" (.ref lb) fs)))=vF d lb lh lo 0:=by
  rcases kD with rfl|⟨_,_,_,_,rfl⟩<;>rfl
 apply fq.mk (s3 _ _ aH) T.bM T.zG l2 ?_;apply fq.mk aH T.bM T.wQ l3 ?_;rw[bW];apply q lh lo _ aH aes aeu ahD ?_ ?_ ?_;rw[aG sK,aG sK,<-Ro];show s3 _ _ (by rw[aG sK];show PZ);rw[aG x_,aG x_,<-Ro];show aec;show((b2.trans (bc.of_same s3)).trans bc.upd).trans bc.upd
def U0{H H':Hp}{vt dx d lb lh lo:aa}{p:aX}{rs:cD}(pg:PG p)(ar:kg rs=true)(hpl:fB A (less H vt vt) lb p)(hrl:gf A (less H vt vt) d rs)(b:bc vt H H')(e1:H' vt=some (.ins A.d_ dx (vF d lb lh lo 0)))(n1:H lh=none)(n2:H lo=none)(n3:lh≠lo)(e2:H' lh=some (.lst (dC (p.map λb=>b.hidden))))(e3:H' lo=some (.lst (dC (p.map λb=>b.on)))):br A H' vt lo (KW rs p):=by
 have ya:lh≠vt:=iX e2 e1 (by intro z;cases z);have s:am (less H vt vt) (less H' vt lo):=λc o e=>by
  have hn:¬(c=vt\/c=vt):=λz=>by unfold less at e;rw[aq z]at e;cases e
  have ec:=fG c o e;show e8 (b c o ec λz=>hn (.inl z)) (λz=>hn (.inl z)) (λz=>by rw[z,n2]at ec;cases ec)
 show#[#[pg,ar,by show(p.map _).length=_;rw[aD];rfl,by show(p.map _).length=_;rw[aD];rfl,(g8 pg).1],dx,d,lb,lh,e1,e3,hpl.same s,hrl.same s,e8 e2 ya n3]
def gf.apart{H:Hp}{vt d dx C:aa}{fs:List (Str×V)}{rs:cD}(hp:gf A H d rs)(hv:H vt=some (.ins C dx fs))(kD:fs.length≠4):gf A (less H vt vt) d rs:=by
 have ne:∀{a:aa}{o:HO},H a=some o->(∀C dx fs,o=.ins C dx fs->fs.length=4)->less H vt vt a=some o:=λ{a o} h hn=>by
  have z:a≠vt:=λz=>by
   rw[z,hv]at h;cases h;show kD (hn _ _ _ rfl)
  show e8 h z z
 let#[as,g1,g2,g3]:=hp.ex;apply#[as,ne g1 (by rintro _ _ _ ⟨⟩),g2,λi hi=>?_];let#[a,ea,hb]:=g3 i hi;let#[eY,ls,i1,i2]:=hb.ex;show#[a,ea,eY,ls,ne i1 (by rintro _ _ _ ⟨⟩;rfl),ne i2 (by rintro _ _ _ ⟨⟩)]
def ajS(A:aO):Sp:=λvs H Q _=>X6 λ(vt dx lb d:aa) (p:aX) (rs:cD)=>N7 (vs=[.ref vt,.ref lb,.ref d]) (H vt=some (.ins A.d_ dx [])) (fB A H lb p) (PG p) (gf A H d rs) (kg rs=true) (∀lo H',br A H' vt lo (KW rs p)->bc vt H H'->H lo=none->Q .bn H')
def Za:oz P w K mg base "Visit" A.d_ 2 ["self","boxes","rules"] (ajS A):=by
 apply uC T.afq ["self","boxes","rules"] ?_;rintro f _ _ _ s H _ Q E hr nd ⟨vt,dx,lb,d,p,rs,rfl,h1,hp,pg,jL,ar,q⟩;apply#[_,(aC (cQ '0' '2' rfl)
   (aA (e9 (kO (Ej T) (hr.mono ()) cn '0' (ag '1' ao))))),?_]
 apply fq.mk h1 T.bM T.CW (by show(0:Nat)<1000;decide) ?_;have hpl:=hp.apart h1 (by show 0<=5;decide);have hrl:=jL.apart h1 (by show 0≠4;decide);have b1:bc vt H (L2.upd H vt (.ins A.d_ dx (K2 d))):=bc.upd;apply f'.mk aH rfl #[vt,lb,d,dx,K2 d,p,rfl,aH,.inl rfl,hpl.same (Hg b1),pg,λlh lo H' e1 n1 n2 n3 e2 e3 b=>?_];have sK:lh≠vt:=λz=>by rw[z,aH]at n1;cases n1
 have x_:lo≠vt:=λz=>by rw[z,aH]at n2;cases n2
 rw[aG sK]at n1;rw[aG x_]at n2;show q lo H' (U0 pg ar hpl hrl (b1.trans b) e1 n1 n2 n3 e2 e3) (b1.trans b) n2
def akt:Sp:=λvs H Q _=>∃(o i:W),vs=[.str (S o),.str (S i)]/\Q (.bl (pK o i)) H
def KC(o:W)(s:String):((gK (S o):bB)=gK (bN s))↔o=cs s:=by
 rw[ga];constructor;intro h;injection h with h;show wt h
 intro h;rw[h]
def Z_:aV P w K mg base "may_stand" 1 ["outer","inner"] akt:=by
 apply bd T.ab0 ["outer","inner"] ?_;rintro f _ _ outer s H _ Q E hr nd ⟨o,i,rfl,q⟩;apply#[_,(aC (bY (aiE (aif T.NS '0' (cq T.yP rfl))) (aA (aT (iY sU '1' (EB T.NS (cq T.yP rfl) '0' (λ_ _=>rfl)) rfl))) bZ)
   (aA (aT (iY qT '1' (cq T.rp rfl) rfl)))),?_]
 have xu:∀(l:List W)(ad:aa),(∀H:Hp,bL K H ad (l.map λu=>V.str (S u)))->Q (.bl (l.contains i)) H->ym K false (.str (S i)) (.ref ad) H Q:=λl ad ht hq=>nV (ht H) hq;apply#[gK (S o),rfl,rfl,?_];unfold pK Qh at q;by_cases h1:o=cs "table"
 rw[aq h1]at q;subst h1;show#[gK (S (cs "table")),_,rfl,rfl,rfl,xu [cs "row"] _ T.al3 q];rw[ay h1]at q;by_cases h2:o=cs "row"
 rw[aq h2]at q;subst h2;show#[gK (S (cs "row")),_,rfl,rfl,rfl,xu [cs "cell",cs "th"] _ T.al4 q];rw[ay h2]at q;by_cases h3:o=cs "list"
 rw[aq h3]at q;subst h3;show#[gK (S (cs "list")),_,rfl,rfl,rfl,xu [cs "item"] _ T.al5 q];rw[ay h3]at q;have e:gB [((gK "table":bB),V.ref A.B9),((gK "row"),V.ref A.B_),((gK "list"),V.ref A.Ca)] (gK (S o))=none:=by
  rw[vE (λz=>h1 ((KC o "table").mp z.symm)),vE (λz=>h2 ((KC o "row").mp z.symm)),vE (λz=>h3 ((KC o "list").mp z.symm))];rfl
 rw[e];show nV (neg:=true) (l:=rp) (T.al2 H) q
def aj4(A:aO):Sp:=λvs H Q E=>X4 λ(l:aa) (as:List aa) (bs:List aQ) (i:Nat)=>N5 (vs=[.ref l,.int (i:Nat)]) (gH A H l as bs) (1<=i) (i<bs.length) ((if kH bs i=true then Q .bn H else E (.ref A.cX) none H))
def gH.at{H:Hp}{l:aa}{as:List aa}{bs:List aQ}(h:gH A H l as bs){i:Nat}(hi:i<bs.length):∃a,as[i]? =some a/\du A H a (at_ bs i):=
 sZ h.box (by unfold at_;rw[cZ,ca hi];rfl)
def ZZ:aV P w K mg base "check_later" 1 ["boxes","place"] (aj4 A):=by
 apply bd T.abv ["boxes","place","box"] ?_;rintro f _ _ _ s H _ Q E hr nd ⟨l,as,bs,i,rfl,hp,h1,hi,q⟩;let#[a,ea,hb]:=hp.at hi;let#[dx,lb,la,i1,i2,i3]:=hb.ex;let#[a',aa9,cA]:=hp.at (i:=i-1) ();let#[eY,dF,dE,j1,j2,j3]:=cA.ex;have ek:decide (S (at_ bs i).kind=bN "page")=decide ((at_ bs i).kind=cs "page"):=by
  rw[ga,cw,bw,bw,mj]
 apply#[_,(aC (bu 2 nd (cr cP '0' '1' (λ_ _=>rfl)))
   (aC (bY (PW.pt (jm (bQ fu (aN '2' rfl) bG (bO _)) (jm (bQ sV (aN '2' rfl) cS (bO _)) (oj (bQ sS (aN '2' rfl) (cq T.Vq rfl) (bO _)))))) (aA (eG T.fZ eI rfl rfl)) bZ)
   (aA (bY (bQ sS (aN '2' rfl) (eD fV (aN (cr cP '0' (eD Ey '1' cS) (λ_ _=>rfl)) rfl) cS) (bO _)) (aA (eG T.fZ eI rfl rfl)) bZ)))),?_]
 simp! only[]
 apply .inl #[l,_,_,_,rfl,rfl,az.of hp.lst,cG (cy ea),?_]
 simp! only[i1,T.b8,T.ik,T.rQ,kn,zJ,ek]
 unfold kH at q;have eE:∀b:Bool,b=false->(if b=true then Q .bn H else E (.ref A.cX) none H)->E (.ref A.cX) none H:=λb h z=>by
  rw[h]at z;show z
 by_cases c1:(at_ bs i).kind=cs "page"
 rw[aq (b_ c1)];show eE _ (by rw[b_ c1];rfl) q;rw[ay (by rw[bw];show c1)];rw[cO c1]at q;by_cases c2:(at_ bs i).deep<1
 rw[aq (b_ c2)];show eE _ (by rw[b_ c2];rfl) q;rw[ay (by rw[bw];show c2)];rw[cO c2]at q;by_cases c3:5<(at_ bs i).deep
 rw[aq (b_ c3)];show eE _ (by rw[show decide ((at_ bs i).deep>5)=true from b_ c3];rfl) q;rw[ay (by rw[bw];show c3)];rw[show decide ((at_ bs i).deep>5)=false from cO c3]at q;apply .inl #[l,_,_,.ref a',rfl,rfl,az.of hp.lst,(by rw[show((i:Nat):Int)-1=((i-1:Nat):Int) by omega];show cG (cy aa9)),be.mk j1 T.b8 T.rQ (zJ _ _ _) ?_];by_cases c4:(at_ bs (i-1)).deep+1<(at_ bs i).deep
 simp![Ew,oa,sP,Ev];rw[aq (b_ c4)];show eE _ (by rw[show decide ((at_ bs i).deep>(at_ bs (i-1)).deep+1)=true from b_ c4];rfl) q;simp![Ew,oa,sP,Ev,jn];rw[ay (by rw[bw];show c4)];rw[show decide ((at_ bs i).deep>(at_ bs (i-1)).deep+1)=false from cO c4]at q;show q
def rc(bs:List aQ)(i j:Nat):List aQ:=bs.set i { at_ bs i with parent:=((j:Nat):Int) }
def akR(A:aO):Sp:=λvs H Q E=>X5 λ(l:aa) (as:List aa) (bs:List aQ) (i j:Nat)=>N5 (vs=[.ref l,.int (i:Nat)]) (gH A H l as bs) (1<=i) (i<bs.length) (fW (kq bs) (at_ bs i).deep i=some j/\
 ∀H',gH A H' l as (rc bs i j)->(∀b o,H b=some o->b∉as->H' b=some o)->(if pK (at_ bs j).kind (at_ bs i).kind=true then Q .bn H' else E (.ref A.cX) none H'))
def HP(bs:List aQ)(k:Nat)(h:k<bs.length):(kq bs).getD k 0=(at_ bs k).deep:=by
 unfold kq at_
 rw[cZ,cZ,cx,ca h];rfl
theorem Sf{α β:Type}{G:α->β->Prop}:∀{l:List α}{m:List β},l.length=m.length->(∀(i:Nat) a b,l[i]? =some a->m[i]? =some b->G a b)->Paired G l m
 |[],[],_,_=>.nil
 |[],_::_,h,_=>by simp at h
 |_::_,[],h,_=>by simp at h
 |a::l,b::m,h,g=>.cons (g 0 a b rfl rfl) (Sf (by simpa using h) λi x y hx hy=>g (i+1) x y hx hy)
def Rc{H:Hp}{a C d lb la:aa}{f:List (Str×V)}{o:HO}{b:aQ}(ha:H a=some (.ins C d f))(i2:gq H lb b.by_)(i3:gc H la b.b7):gq (L2.upd H a o) lb b.by_/\gc (L2.upd H a o) la b.b7:=by
 have ne:∀{c:aa}{u:HO},H c=some u->(∀C d f,u≠.ins C d f)->L2.upd H a o c=some u:=λ{c u} e n=>by
  rw[aG (λz=>by rw[z,ha]at e;cases e;show n _ _ _ rfl)];show e
 let#[ts,t1,t2]:=i3.ex;show#[ne i2 (by rintro _ _ _ ⟨⟩),ts,ne t1 (by rintro _ _ _ ⟨⟩),Paired.iD t2 λ_ _ z=>ne z (by rintro _ _ _ ⟨⟩)]
def gH.ajt{H:Hp}{l:aa}{as:List aa}{bs:List aQ}(hp:gH A H l as bs){i:Nat}{a dx lb la:aa}(ea:as[i]? =some a)(i1:H a=some (.ins A.Box dx (bF (at_ bs i) lb la)))(i2:gq H lb (at_ bs i).by_)(i3:gc H la (at_ bs i).b7)(k:Nat):
  gH A (L2.upd H a (.ins A.Box dx (bF { at_ bs i with parent:=((k:Nat):Int) } lb la))) l as (rc bs i k):=by
 have hl:=hp.len;have hi:i<bs.length:=by have:=(List.getElem?_eq_some_iff.mp ea).1;omega
 apply#[?_,Sf (by unfold rc;rw[v_];show hl) λn c b hc hb=>?_,hp.nd];rw[aG (λz=>by have:=hp.lst;rw[z,i1]at this;cases this)];show hp.lst;unfold rc at hb;rw[F9]at hb;by_cases hn:i=n
 subst hn;rw[aq rfl,aq hi]at hb;cases hb;rw[ea]at hc;cases hc;let#[l1,l2]:=Rc (o:=.ins A.Box dx (bF { at_ bs i with parent:=((k:Nat):Int) } lb la)) i1 i2 i3;show#[dx,lb,la,aH,l1,l2];rw[ay hn]at hb;let#[c',mw,G]:=sZ hp.box hb;rw[hc]at mw;cases mw;let#[eY,dF,dE,j1,j2,j3]:=G.ex;have hne:c≠a:=λz=>hn ((V0 (List.getElem?_eq_some_iff.mp ea).1 hp.nd).mp (by rw[ea,hc,z]));let#[l1,l2]:=Rc (o:=.ins A.Box dx (bF { at_ bs i with parent:=((k:Nat):Int) } lb la)) i1 j2 j3;show#[eY,dF,dE,by rw[aG hne];show j1,l1,l2]
def aak:aV P w K mg base "set_parent" 2 ["boxes","place"] (akR A):=by
 apply bd T.acu ["boxes","place","box","outer"] ?_;rintro f _ _ outer s H _ Q E hr nd ⟨l,as,bs,i,j,rfl,hp,h1,hi,hj,q⟩;let#[a,ea,hb]:=hp.at hi;let#[dx,lb,la,i1,i2,i3]:=hb.ex;have hjl:=(u9 hj).1;have hjd:=(u9 hj).2;rw[HP bs j ()]at hjd;let#[aj,eaj,adI]:=hp.at (i:=j) ();let#[dxj,lbj,laj,k1,k2,k3]:=adI.ex;apply#[_,(aC (bu 2 nd (cr cP '0' '1' (λ_ _=>rfl)))
   (aC (bu 3 nd (eD Ey '1' cS))
   (aC (ve gw (bQ Bp (aN (cr cP '0' '3' (λ_ _=>rfl)) rfl) (aN '2' rfl) (bO _)) (aA (bu 3 nd (eD Ey '3' cS))))
   (aC (cQ '2' '3' rfl)
   (aA (bY (gx (dq (aJ (Z_ T) hr (ag (aN (cr cP '0' '3' (λ_ _=>rfl)) rfl) (ag (aN '2' rfl) ao))) (λ_=>rfl))) (aA (eG T.fZ eI rfl rfl)) bZ)))))),?_]
 apply .inl #[l,_,_,_,rfl,rfl,az.of hp.lst,cG (cy ea),?_];apply ?_;apply#[λm σ H'=>∃k:Nat,k=m/\j<=k/\k<i/\σ=[some (.ref l),some (.int (i:Nat)),some (.ref a),some (.int (k:Nat))]/\H=H',#[_,i-1,rfl,by omega,by omega,by rw[show((i-1:Nat):Int)=((i:Nat):Int)-1 by omega];rfl,rfl],?_];rintro m σ H' ⟨k,rfl,hk1,aek,rfl,rfl⟩;let#[ak,aba,adJ]:=hp.at (i:=k) ();let#[dxk,lbk,lak,m1,m2,m3]:=adJ.ex;apply .inl #[l,_,_,_,rfl,rfl,az.of hp.lst,cG (cy aba),be.mk m1 T.b8 T.rQ (zJ _ _ _) ?_];apply be.mk i1 T.b8 T.rQ (zJ _ _ _) ?_;apply ?_;by_cases aeo:k=j
 subst aeo;simp![jn,sP,oa];rw[cO ()];have RO:∀c o,H c=some o->(∀C d f,o≠.ins C d f)->c≠a:=λc o e n z=>by rw[z,i1]at e;cases e;show n _ _ _ rfl
 apply fq.mk i1 T.b8 T.qd (by show(13:Nat)<1000;decide) ?_;have hp':=hp.ajt ea i1 i2 i3 k;let#[ak',abb,adK]:=hp'.at (i:=k) (by unfold rc;rw[v_];omega);let#[anE,an3,an2,n1,_,_]:=adK.ex;have abe:(at_ (rc bs i k) k).kind=(at_ bs k).kind:=by
  unfold rc at_
  simp![cZ];rw[F9,ay ()]
 apply .inl #[l,_,_,_,rfl,rfl,az.of hp'.lst,cG (cy abb),be.mk n1 T.b8 T.ik (kn _ _ _) ?_];apply be.mk aH T.b8 T.ik (kn { at_ bs i with parent:=((k:Nat):Int) } lb la) #[_,_,rfl,_,rfl,?_];rw[abe];have q:=q _ hp' λb o e n=>by rw[aG (λz:b=a=>n (by rw[z];show fh ea))];show e
 cases hm:pK (at_ bs k).kind (at_ bs i).kind with
 |true=>
  rw[hm]at q;show q
 |false=>
  rw[hm]at q;show q
 have hbt:=JY hj k () aek;rw[HP bs k ()]at hbt;simp![Ew,oa,sP,Ev,jn];rw[b_ ()];apply#[λσ' H'=>∃k':Nat,k'<k/\j<=k'/\k'<i/\σ'=[some (.ref l),some (.int (i:Nat)),some (.ref a),some (.int (k':Nat))]/\H=H',λσ' H' ⟨k',z1,z2,z3,z4,z5⟩=>#[k',z1,k',rfl,z2,z3,z4,z5],?_];show#[k-1,by omega,by omega,by omega,by rw[show((k-1:Nat):Int)=((k:Nat):Int)-1 by omega];rfl,rfl]
def akw(A:aO):Sp:=λvs H Q _=>X2 λ(a:aa) (b:aQ)=>N5 (vs=[.ref a]) (du A H a b) (b.by_.length<=100) (b.b7.length<=100) (∀D H',am H H'->H D=none->gq H' D (jk b)->Q (.ref D) H')
def Z':aV P w K mg base "named_idents" 1 ["box"] (akw A):=by
 apply bd T.ab3 ["box","idents","deed","ident"] ?_;rintro f _ _ _ s H _ Q E hr nd ⟨a,b,rfl,hb,z1,z2,q⟩;let#[dx,lb,la,i1,i2,i3]:=hb.ex;let#[ts,t1,t2]:=i3.ex;apply#[_,(aC (bu 1 nd (eD fV (aN '0' rfl) (fX eM rfl rfl nd (eF (aN '0' rfl)) (eN (own:=[("deed",2),("ident",3)]) rfl) (λ_ _ _ _ _ _=>(Sl (K:=K) (n:=2) rfl rfl (kP (cC 2 nd) (kP (cC 3 nd) vc)))) (λ_ _ _ _ _ _=>by show i6) (λ_ _ _ _ _ _ _=>by show(pv 3)))))
   (aC (bY (bQ jl (aN '0' rfl) bG (bO _)) (aA (e9 (iH jb uj uk sH '1' (ag (aN '0' rfl) ao)))) bZ)
   (aA (aT '1')))),?_]
 apply be.mk i1 T.b8 T.wI (Nf _ _ _) (be.mk i1 T.b8 T.rP (G8 _ _ _) #[la,rfl,#[_,az.of t1],?_]);intro D hD;apply xR (K:=K) (a:=la) (xs:=ts.map V.ref) (λn H'=>am H H'/\H' D=some (.lst ((b.b7.take n).map λx=>V.str (S x.2)))) #[am.new hD,by rw[aH];rfl] (λn H' _ ⟨s,_⟩=>az.of (s _ _ t1)) ?_ ?_;rintro n y H' hy ⟨s1,e1⟩;obtain⟨t,et⟩:∃t,ts[n]? =some t:=by
  rw[cx]at hy;cases e:ts[n]? with
  |none=>rw[e]at hy;cases hy
  |some t=>show#[t,rfl]
 rw[cy et]at hy;cases hy;let#[ac,pd,ID]:=EA t2 et;have hn:=(List.getElem?_eq_some_iff.mp pd).1;apply#[t,_,rfl,bL.of (s1 _ _ ID),rfl,_,_,rfl,_,_,rfl,rfl,U5,?_];unfold pR;simp![bz];apply#[_,e1,by rw[aD,ka];show fj (by omega:_<100000) (bX (bj _)),λc o e=>?_,?_];rw[aG (bf e hD)];show s1 _ _ e;rw[aH,gz pd,cB];rfl;rintro H1 ⟨s1,e1⟩;have Ja:ts.length=b.b7.length:=t2.length;rw[aD,Ja,jy]at e1;apply .inr (.inr #[lb,D,_,_,rfl,rfl,s1 _ _ i2,e1,by rw[aD,aD];show bX (),λD2 cg=>?_]);have s2:am H (L2.upd H1 D2 (.lst ((b.by_.map λu=>V.str (S u))++b.b7.map λx=>V.str (S x.2)))):=s1.trans (am.new cg);have i1':=s2 _ _ i1;have eh:decide (S b.hint=bN "")=decide (b.hint=[]):=by
  rw[ga,show cs ""=[] from rfl,cw,bw,bw,mj]
 apply be.mk i1' T.b8 T.rR (C_ _ _ _) ?_
 simp! only[eh]
 have hq:∀l:List W,l=jk b->∀H',am H H'->H' D2=some (.lst (l.map λu=>V.str (S u)))->Q (.ref D2) H':=λl e H' s' h=>q D2 H' s' (s1.free cg) (by unfold gq;rw[<-e];show h);unfold jk at hq;by_cases hh:b.hint=[]
 rw[aq hh,eJ]at hq;rw[b_ hh];show hq _ rfl _ s2 (by rw[aH,cB,bh];rfl);rw[ay hh]at hq;rw[cO hh];simp![ic,bz];apply#[.inl #[rfl,_,az.of aH],be.mk i1' T.b8 T.rR (C_ _ _ _) #[D2,_,_,rfl,rfl,aH,by rw[dG,aD,aD];show fj (by omega:_<100000) (bX (bj _)),?_]];apply hq _ rfl _ (λc o e=>?_) ?_;rw[aG (bf (s1 _ _ e) cg)];show s2 _ _ e;rw[aH,cB,cB,bh];rfl
def aj3(A:aO):Sp:=λvs H Q E=>X3 λ(l:aa) (as:List aa) (bs:List aQ)=>N5 (vs=[.ref l]) (gH A H l as bs) (bs.length<=16) ((∀b∈bs,b.by_.length<=100/\b.b7.length<=100)) (∀H',am H H'->(if pD bs=true then Q .bn H' else E (.ref A.cX) none H'))
def ZY:aV P w K mg base "check_idents" 2 ["boxes"] (aj3 A):=by
 apply bd T.abu ["boxes","box","ident"] ?_;rintro f _ _ _ s H _ Q E hr nd ⟨l,as,bs,rfl,hp,h16,hb,q⟩;apply#[_,(aC (bY (bQ sV (dg Hh rfl T.dH L2.boot_len (ag (yg (Hj rfl) rfl T.G' L2.boot_set (ag (fX eM rfl rfl nd (eF '0') (eN (own:=[("box",1)]) rfl) (λ_ _ _ _ _ _=>(cC 1 nd)) (λ_ _ _ _ _ _=>by show i6) (λ_ _ _ _ _ _ _=>by show(iZ (K:=K) rfl '1' rfl))) ao)) ao)) (dg dW rfl T.dH L2.boot_len (ag '0' ao)) (bO _)) (aA (eG T.fZ eI rfl rfl)) bZ)
   (aA (kR gw rfl (eF '0') (cC 1 nd) (aA (kR gw rfl (eF (aJ (Z' T) hr (ag '1' ao))) (cC 2 nd) (aA (bY (gx (dq (aJ (Z3 T) hr (ag '0' (ag '2' ao))) (λ_=>rfl))) (aA (eG T.fZ eI rfl rfl)) bZ))))))),?_]
 apply#[l,rfl,#[_,az.of hp.lst],?_];intro D hD;have hlen:=hp.len;apply xR (K:=K) (a:=l) (xs:=as.map V.ref) (λn H'=>am H H'/\H' D=some (.lst ((bs.take n).map λb=>V.str (S b.ident)))) #[am.new hD,by rw[aH];rfl] (λn H' _ ⟨s,_⟩=>az.of (s _ _ hp.lst)) ?_ ?_;rintro n y H' hy ⟨s1,e1⟩;have hn:n<bs.length:=by
  have:=(List.getElem?_eq_some_iff.mp hy).1;rw[aD]at this;omega
 have eb:bs[n]? =some bs[n]:=ca hn;let#[a,ea,IF]:=sZ hp.box eb;rw[cy ea]at hy;cases hy;let#[dx,lb,la,i1,i2,i3]:=IF.ex;apply#[tP,?_];unfold pR;simp![bz];apply be.mk (s1 _ _ i1) T.b8 T.nz (oV _ _ _) #[_,e1,by rw[aD,ka];show fj (by omega:_<100000) (bX (bj _)),λc o e=>?_,?_];rw[aG (bf e hD)];show s1 _ _ e;rw[aH,gz eb,cB];rfl;rintro H1 ⟨s1,e1⟩;rw[aD,hlen,jy]at e1;apply#[D,(bs.map λb=>b.ident).map S,rfl,az.of (by rw[e1,bh,bh];rfl),(by rw[aD,aD];show bs.length+1<4096;omega),λpt uN=>?_];have s2:am H (L2.upd H1 pt (wu P w pt ((bs.map λb=>b.ident).map S))):=s1.trans (am.new uN);apply#[pt,_,rfl,aH,(by rw[aD,aD];show bs.length+1<4096;omega),?_];apply#[_,bs.length,rfl,.inl #[_,az.of (s2 _ _ hp.lst),by rw[aD,hlen]],?_];have sl:=Km (bs.map λb=>b.ident);rw[aD]at sl;have BM:(λi j:Int=>V.bl (decide (i<j))) ((((bs.map λb=>b.ident).map S).foldl gW []).length:Nat) ((bs.length:Nat):Int)=V.bl (!fI (bs.map λb=>b.ident)):=by rw[<-sl]
 simp![jn,sP,oa];rw[sl];unfold pD at q;cases hn:fI (bs.map λb=>b.ident)with
 |false=>
  rw[hn]at q;show q _ s2
 |true=>
  rw[hn]at q;simp![gp]at q;apply#[l,rfl,#[_,az.of (s2 _ _ hp.lst)],ss (xs:=as.map V.ref) (λj σ H'=>(∃u v,σ=[some (.ref l),u,v])/\am H H'/\((bs.take j).all λb=>(jk b).all (iW bs))=true) #[#[_,_,rfl],s2,rfl] (λj σ H' _ ⟨_,s3,_⟩=>az.of (s3 _ _ hp.lst)) ?_ ?_];rintro j y σ H' hy ⟨⟨u,v,rfl⟩,s3,gT⟩;have hj:j<bs.length:=by
   have:=(List.getElem?_eq_some_iff.mp hy).1;rw[aD]at this;omega
  have eb:bs[j]? =some bs[j]:=ca hj;generalize bs[j]=b at eb;let#[a,ea,IF]:=sZ hp.box eb;rw[cy ea]at hy;cases hy;have hbm:=fh eb;apply#[a,b,rfl,IF.same s3,(hb b hbm).1,(hb b hbm).2,λD4 H4 s4 _ g_=>?_];have s34:=s3.trans s4;apply#[D4,rfl,#[_,az.of g_],ss (xs:=(jk b).map λu=>V.str (S u)) (λk σ H'=>(∃v,σ=[some (.ref l),some (.ref a),v])/\am H4 H'/\(((jk b).take k).all (iW bs))=true) #[#[_,rfl],am.refl _,rfl] (λk σ H' _ ⟨_,s5,_⟩=>az.of (s5 _ _ g_)) ?_ ?_];rintro k y σ H5 hy ⟨⟨v',rfl⟩,s5,DK⟩;have hk:k<(jk b).length:=by
   have:=(List.getElem?_eq_some_iff.mp hy).1
   rwa [aD]at this
  have ek:(jk b)[k]? =some (jk b)[k]:=ca hk;generalize (jk b)[k]=x at ek;rw[cx,ek]at hy;cases hy;have s45:=s34.trans s5;apply#[l,as,bs,x,rfl,hp.same s45,by omega,λH6 s6=>#[_,rfl,?_]];have eh:(bs.any λb=>decide (b.ident=x))=iW bs x:=rfl;rw[eh];cases hx:iW bs x with
  |true=>
   apply#[#[_,rfl],s5.trans s6,?_];rw[gz ek,Ce,DK,lg,hx];rfl
  |false=>
   have:(bs.all λb=>(jk b).all (iW bs))=false:=by
    rw[vM];intro z;have:=eW.mp (eW.mp z b hbm) x (fh ek);rw[hx]at this;cases this
   rw[this]at q;show q _ (s45.trans s6)
  rintro σ H5 ⟨⟨v',rfl⟩,s5,DK⟩;rw[aD,jy]at DK;apply#[#[_,_,rfl],s34.trans s5,?_];rw[gz eb,Ce,gT,lg,DK];rfl;rintro σ H' ⟨⟨u,v,rfl⟩,s3,gT⟩;rw[aD,hlen,jy]at gT;rw[gT]at q;show q _ s3
def TK(A:aO):Sp:=λvs H Q E=>∃(t:aE),vs=[.str (S ((cd t).map dm))]/\t.length<=4000/\(match oQ t with
 |some p=>∀l H',am H H'->fB A H' l p->Q (.ref l) H'
 |none=>∀H',am H H'->E (.ref A.cX) none H')
def akO(A:aO):Sp:=λvs H Q E=>∃(t:aE),vs=[.str (S ((cd t).map dm))]/\t.length<=4000/\(match nu t with
 |some rs=>∀d H',am H H'->gf A H' d rs->H d=none->Q (.ref d) H'
 |none=>∀H',am H H'->E (.ref A.cX) none H')
def ZQ(RP:aV P w K mg base "read_page" 9 ["text"] (TK A)):aV P w K mg base "answer_page" 29 ["visit","call"] (λvs H Q E=>∃(vt lo c:aa)(m:MS)(n z:Int)(t:aE),vs=[.ref vt,.ref c]/\br A H vt lo m/\rk A H c n z t/\t.length<=4000/\Gives A H vt lo Q E (bK m (.page t))):=by
 apply bd T.Ap ["visit","call"] ?_;rintro f _ _ _ s H vs Q E hr nd ⟨vt,lo,c,m,n,z,t,rfl,hv,hc,hz,q⟩;let#[dx,d,lb,lh,h1,h2,h3,h4,h5]:=hv.ex;let#[dc,hc]:=hc.own;apply#[_,(aC (e9 (kO (Ej T) (hr.mono ()) cn '0' (ag (aJ RP hr (ag (aN '1' rfl) ao)) ao)))
   (aA (aT (eS (ag (dg dW rfl T.dH L2.boot_len (ag (aN '0' rfl) ao)) ao))))),?_]
 apply f'.mk h1 rfl (be.mk hc T.gm T.km (lI _ _ _) #[t,rfl,hz,?_]);simp![bK]at q;cases e:oQ t with
 |none=>
  rw[e]at q;show q
 |some p=>
  rw[e]at q;intro L H1 s1 hp;have pg:=EE (JZ e).1;apply#[vt,L,d,dx,_,p,rfl,s1 _ _ h1,.inr #[_,_,_,_,rfl],hp,pg,λlh' gv H' e1 n1 n2 n3 e2 e3 b=>?_];have hpl:=hp.apart (s1 _ _ h1) (bj 5);have hrl:=(h3.same s1).apart (s1 _ _ h1) (by show 5≠4;decide);have hv':=U0 pg hv.ok.ar hpl hrl b e1 n1 n2 n3 e2 e3;let#[lL,d2,xQ,Jw,o1,o2,o3,o4,o5]:=hv'.ex;let#[as,g1,g2,g3]:=o2.ex;apply be.mk o1 T.bM T.cR (cU _ _ _ _ _) #[_,p.length,rfl,.inl #[_,az.of g1,by rw[aD];show g2.symm],bX (show 1<=100000 by decide),λD hD=>?_];apply q D _ gv (hv'.same (am.new hD)) (.inr (s1.free n2)) (λb' o eb aho nb2=>am.new hD _ _ (b _ _ (s1 _ _ eb) aho)) aH
def agg{H H2:Hp}{D:aa}{o:HO}(s:am H H2):am (less H D D) (less (L2.upd H2 D o) D D):=λc u e=>by
 have hn:¬(c=D\/c=D):=λz=>by unfold less at e;rw[aq z]at e;cases e
 have hc:c≠D:=λz=>hn (.inl z);show e8 (by rw[aG hc];show s _ _ (fG _ _ e)) hc hc
def du.apart{H:Hp}{D pb:aa}{b:aQ}{xs ys:List V}(h:du A H pb b)(hD:H D=some (.lst xs))(hf:∀x y,og H pb=some (x,y)->x≠D/\y≠D):du A (less (L2.upd H D (.lst ys)) D D) pb b:=by
 let#[dx,lb,la,i1,i2,i3]:=h.ex;let#[n1,n2]:=hf lb la (pO i1);have n0:pb≠D:=λz=>by rw[z,hD]at i1;cases i1
 let#[ts,t1,t2]:=i3.ex;have go:∀{c:aa}{o:HO},H c=some o->c≠D->less (L2.upd H D (.lst ys)) D D c=some o:=λ{c o} e n=>e8 (by rw[aG n];show e) n n;show#[dx,lb,la,go i1 n0,go i2 n1,ts,go t1 n2,Paired.iD t2 λt _ z=>go z (λe=>by
  unfold vL at z;rw[e,hD]at z;cases z)]
structure wp (A:aO)(H0 H:Hp)(D:aa)(as:List aa)(bs:List aQ):Prop where
 lst:H D=some (.lst (as.map V.ref))
 box:Paired (du A (less H D D)) as bs
 nd:as.Nodup
 new:∀a∈as,H0 a=none
theorem Se{α β:Type}{G:α->β->Prop}:∀{l:List α}{m:List β},Paired G l m->∀a∈l,∃b,G a b
 |_,_,.nil,a,h=>by cases h
 |_,_,.cons r t,a,h=>by
  rcases iM.mp h with rfl|h
  show#[_,r];show Se t a h
def wp.snoc{H0 H H2:Hp}{D pb:aa}{as:List aa}{bs:List aQ}{b:aQ}(R:wp A H0 H D as bs)(s:am H H2)(hp:H pb=none)(aeM:H0 pb=none)(hb:du A H2 pb b)(hf:∀x y,og H2 pb=some (x,y)->H x=none/\H y=none):
  wp A H0 (L2.upd H2 D (.lst (as.map V.ref++[.ref pb]))) D (as++[pb]) (bs++[b]):=by
 apply#[by rw[aH,cB];rfl,Paired.snoc (hb.apart (s _ _ R.lst) λx y h=>?_) (Paired.iD R.box λ_ _ z=>z.same (agg s)),?_,λa ha=>?_];let#[h1,h2]:=hf x y h;show#[λz=>(by rw[z,R.lst]at h1;cases h1),λz=>(by rw[z,R.lst]at h2;cases h2)];rw[List.nodup_append];apply#[R.nd,List.nodup_cons.mpr #[lx,Cm],λa ha c hc=>?_];rw[List.mem_singleton.mp hc];rintro rfl;let#[b',cA]:=Se R.box a ha;let#[dx,lb,la,i1,_,_]:=cA.ex;have:=fG _ _ i1;rw[hp]at this;cases this;rcases wa.mp ha with h|h
 show R.new a h;rw[List.mem_singleton.mp h];show aeM
def wp.page{H0 H:Hp}{D:aa}{as:List aa}{bs:List aQ}(R:wp A H0 H D as bs):gH A H D as bs:=#[R.lst,Paired.iD R.box λ_ _ z=>z.same fG,R.nd]
def NI(l:W):f6 (l.map dm):=λc hc=>by
 let#[d,_,rfl]:=Ge.mp hc;unfold dm;split
 ·rename_i h;unfold ji at h;simp![ox,bw]at h;obtain h|h|h|h|h:=h
  unfold gl fm isUp xJ at h;simp![ox,bS,bw]at h;omega
  all_goals omega
 decide
def Rt{t:W}{ls:List W}(h:kJ t=some ls){l:W}(hl:l∈ls):(∀c∈l,c∈t)/\l.length<=t.length:=by
 let#[e,_]:=A8 h;subst e;constructor;intro c hc;show List.mem_flatMap.mpr #[l,hl,wb _ hc];let#[a,b,rfl]:=List.append_of_mem hl;rw[vZ,gh,dG,dG,dG];omega
def gX(bs:List aQ)(i:Nat):List aQ:=bs.mapIdx λk b=>if k<i then { b with parent:=pz (fW (kq bs) b.deep k) } else b
def UT{bs:List aQ}{i k:Nat}(h:k<bs.length):at_ (gX bs i) k=if k<i then { at_ bs k with parent:=pz (fW (kq bs) (at_ bs k).deep k) } else at_ bs k:=by
 unfold gX at_
 simp![cZ,oJ,ca h,fA,Ct]
def K1(bs:List aQ)(i:Nat):(gX bs i).length=bs.length:=by unfold gX;rw[LV]
def amN(bs:List aQ):gX bs bs.length=kZ bs:=by
 unfold gX kZ;apply m8;intro k;rw[oJ,oJ];by_cases h:k<bs.length
 rw[ca h,fA,fA,aq h];rw[ig ()];rfl
def amQ{bs:List aQ}(h:∀b∈bs,b.parent= -1):gX bs 1=bs:=by
 unfold gX;apply m8;intro k;rw[oJ];cases e:bs[k]? with
 |none=>rfl
 |some b=>
  rw[fA];congr 1;by_cases hk:k<1
  rw[aq hk];have:k=0:=by omega
  subst this;have hp:=h b (fh e);show({ b with parent:=pz none }:aQ)=b;cases b;simp only at hp;subst hp;rfl;rw[ay hk]
def amO(bs:List aQ)(i:Nat):kq (gX bs i)=kq bs:=by
 unfold kq gX;apply m8;intro k;rw[cx,oJ,cx];cases bs[k]? with
 |none=>rfl
 |some b=>
  simp![fA];split<;>rfl
def amR{bs:List aQ}{i j:Nat}(hi:i<bs.length)(hj:fW (kq bs) (at_ bs i).deep i=some j):rc (gX bs i) i j=gX bs (i+1):=by
 unfold rc;rw[UT hi,ay ()];apply m8;intro k;rw[F9,K1];by_cases hk:i=k
 subst hk;rw[aq rfl,aq hi];unfold gX;rw[oJ,ca hi,fA,aq ()];have e:at_ bs i=bs[i]:=by unfold at_;rw[cZ,ca hi];rfl
 rw[<-e,hj];rfl;rw[ay hk];unfold gX;rw[oJ,oJ];cases bs[k]? with
 |none=>rfl
 |some b=>
  simp![fA];by_cases h:k<i
  rw[aq h,aq ()];rw[ay h,ay ()]
def yE{bs:List aQ}{i k:Nat}(h:k<bs.length):(at_ (gX bs i) k).kind=(at_ bs k).kind/\(at_ (gX bs i) k).deep=(at_ bs k).deep:=by
 rw[UT h];split<;>show#[rfl,rfl]
def amP{bs:List aQ}{i k:Nat}(h:k<bs.length):kH (gX bs i) k=kH bs k:=by
 unfold kH;rw[(yE h).1,(yE h).2,(yE (k:=k-1) ()).2]
theorem R7{ds:List Int}{d:Int}(h:ds.getD 0 0<d):∀{n:Nat},0<n->∃j,fW ds d n=some j
 |0,hn=>absurd hn ()
 |1,_=>#[0,by unfold fW;rw[aq h]]
 |n+2,_=>by
  unfold fW;split;show#[_,rfl];show R7 h ()
def K9{α:Type}(bs:List aQ)(f:aQ->α)(hf:∀(b:aQ) z,f { b with parent:=z }=f b):(kZ bs).map f=bs.map f:=by
 unfold kZ;apply m8;intro k;rw[cx,oJ,cx];cases bs[k]? with
 |none=>rfl
 |some b=>simp![fA];rw[hf]
def amX(bs:List aQ):pD (kZ bs)=pD bs:=by
 have hh:iW (kZ bs)=iW bs:=by
  funext x;have:=dX (λl:List Bool=>l.any id) (K9 bs (λb=>decide (b.ident=x)) λ_ _=>rfl);unfold iW;simpa[yU,vU]using this
 unfold pD;rw[K9 bs (λb=>b.ident) λ_ _=>rfl,hh];have:=dX (λl:List Bool=>l.all id) (K9 bs (λb=>(jk b).all (iW bs)) λ_ _=>rfl);simp![lj,vU,id]at this;rw[this]
def Sc{bs:List aQ}{k:Nat}(h1:1<=k)(h2:k<bs.length)(h:(kH bs k&&qI bs k)=false):pP bs=false:=by
 unfold pP;have:((bv bs.length).all λi=>decide (i=0)||(kH bs i&&qI bs i))=false:=by
  rw[vM];intro z;have:=eW.mp z k (Gg.mpr h2);rw[h,FI,bw]at this;omega
 rw[this,ow,tT,tT]
theorem O6:∀ls:List W,ls.length<=(ls.flatMap λl=>l++[10]).length
 |[]=>eX _
 |a::r=>by
  have:=O6 r;rw[gh,dG,dG,cN,rC];omega
def Op:aV P w K mg base "read_page" 9 ["text"] (TK A):=by
 apply bd T.acn ["text","boxes","place","line"] ?_;rintro f _ _ _ s H _ Q E hr nd ⟨t,rfl,hz,q0⟩;generalize hx:(cd t).map dm=x;have asc:f6 x:=hx▸NI _;have AV:x.length<=4000:=by rw[<-hx,aD,ko];show hz
 have q:(match tE x with
   |some bs=>∀l as H',am H H'->gH A H' l as bs->Q (.ref l) H'
   |none=>∀H',am H H'->E (.ref A.cX) none H'):=by
  rw[<-hx,ai1];cases e:oQ t with
  |none=>rw[e]at q0;show q0
  |some p=>rw[e]at q0;show λl as H' s h=>q0 l H' s h.pg
 clear q0 hz;apply#[_,(aC (yk (i:=1) eM rfl rfl nd rfl rfl (yz rfl rfl rfl rfl) (eF (aJ (Of T) hr (ag '0' ao))) (eN (own:=[("line",3)]) rfl) (λ_ _ _ _ _ _=>(cC 3 nd)) (λ_ _ _ _ _ _=>by show i6) (λ_ _ _ _ _ _ hE=>by show(iI (aaf T) (hr.mono ()) hE rfl (ag '3' ao))))
   (aC (bY (bQ sS (dg dW rfl T.dH L2.boot_len (ag '1' ao)) (cq T.Wi rfl) (bO _)) (aA (eG T.fZ eI rfl rfl)) bZ)
   (aC (e9 (aJ (ZX T) hr (ag (cr cP '1' cS (λ_ _=>rfl)) ao)))
   (aC (kR gw rfl (aix rfl T.zL (ag cS (ag (dg dW rfl T.dH L2.boot_len (ag '1' ao)) ao))) (cC 2 nd) (aC (e9 (aJ (ZZ T) hr (ag '1' (ag '2' ao))))
   (aA (e9 (aJ (aak T) hr (ag '1' (ag '2' ao)))))))
   (aC (e9 (aJ (ZY T) hr (ag '1' ao)))
   (aA (aT '1'))))))),?_]
 unfold tE at q;apply#[x,rfl,AV,?_];cases el:kJ x with
 |none=>
  rw[el]at q;show q H (am.refl _)
 |some ls=>
  rw[el]at q;simp![de]at q;intro L hL;have s1:am H (L2.upd H L (.lst (ls.map λw=>V.str (S w)))):=am.new hL;apply#[L,rfl,#[_,az.of aH],?_];intro D hD;have hD0:H D=none:=s1.free hD;have ll:ls.length<=4001:=by
   let#[e,_]:=A8 el;have:=O6 ls;rw[<-e]at this;omega
  apply xR (K:=K) (a:=L) (xs:=ls.map λw=>V.str (S w)) (λn H'=>am (L2.upd H L (.lst (ls.map λw=>V.str (S w)))) H'/\∃as bs,(ls.take n).map jT=bs.map some/\wp A H H' D as bs) #[am.new hD,[],[],rfl,aH,.nil,Cm,λa h=>by cases h] (λn H' _ ⟨s,_⟩=>az.of (s _ _ aH)) ?_ ?_;rintro n y H' hy ⟨s2,as,bs,em,R⟩;obtain⟨lw,w9,rfl⟩:∃lw,ls[n]? =some lw/\y=.str (S lw):=by
   rw[cx]at hy;cases e:ls[n]? with
   |none=>rw[e]at hy;cases hy
   |some u=>rw[e]at hy;show#[u,rfl,(cV hy).symm]
  have hm:=Rt el (fh w9);apply#[tP,?_];unfold pR;simp![bz];apply#[lw,rfl,λc hc=>asc c (hm.1 c hc),cp hm.2 AV,?_];cases eb:jT lw with
  |none=>
   intro H3 s3;have en:fH jT ls=none:=by
    cases e:fH jT ls with
    |none=>rfl
    |some m=>
     have h:=dX (λl=>l[n]?) (Bc e);simp![cx,w9,fA,eb]at h;cases e2:m[n]? with
     |none=>rw[e2]at h;cases h
     |some z=>rw[e2]at h;cases h
   rw[en]at q;show q H3 ((s1.trans s2).trans s3)
  |some b=>
   intro H3 pb AO s3 hb hf;have hlen:as.length<=4001:=by
    have h1:=R.page.len;have h2:=dX oK em;rw[aD,aD,ka]at h2;omega
   apply#[_,s3 _ _ R.lst,by rw[aD];show kb hlen (fj (by decide:4001<100000) (bX (bj _))),λc o e=>?_,as++[pb],bs++[b],?_,R.snoc s3 AO ((s1.trans s2).free AO) hb hf];rw[aG (bf e hD)];show s3 _ _ (s2 _ _ e);rw[gz w9,cB,cB,em,V_,eb];rfl
  rintro H2 ⟨s2,as,bs,em,R⟩;rw[aD,jy]at em;have hpA:=R.page;have e1:fH jT ls=some bs:=Bd em;rw[e1]at q;simp![de]at q;have s12:am H H2:=s1.trans s2;have vb:∀b∈bs,VB b:=λb hb=>by
   have:some b∈ls.map jT:=by rw[em];show p6 hb
   let#[u,_,hu]:=Ge.mp this;show(SM hu).1
  have hne:0<bs.length:=by
   have h2:=dX oK em;rw[aD,aD]at h2;have:=(A8 el).2;cases ls with
   |nil=>show absurd rfl this
   |cons a r=>rw[<-h2,cN];omega
  have rX:∀H',am H H'->pP bs=false->E (.ref A.cX) none H':=λH' s' h=>by
   rw[h]at q;show q H' s'
  apply#[_,bs.length,rfl,.inl #[_,az.of hpA.lst,by rw[aD];show hpA.len.symm],?_];simp![tC,jn,sP,oa];by_cases h16:bs.length<=16
  case neg=>
   rw[b_ ()];show rX H2 s12 (by unfold pP;rw[cO h16];rfl)
  rw[cO ()];let#[a0,aa',adE]:=hpA.at hne;apply .inl #[D,_,_,_,rfl,rfl,az.of hpA.lst,cG (j:=0) (cy aa'),a0,at_ bs 0,rfl,adE,?_];cases hf:Ax (at_ bs 0)with
  |false=>
   have hf':=hf;unfold Ax at hf;rw[ay (by rw[hf];decide)];show rX H2 s12 (by unfold pP;rw[hf',ow,tT])
  |true=>
   have hf':=hf;unfold Ax at hf;rw[aq hf];have xt:(at_ bs 0).deep=0:=by
    rw[bS,bS]at hf;show qR hf.2.1
   apply#[_,bs.length,rfl,.inl #[_,az.of hpA.lst,by rw[aD];show hpA.len.symm],1,_,rfl,#[by decide,by decide,by omega,by omega],?_];apply ac2 (lo:=1) (n:=(((bs.length:Nat):Int)-1).toNat) (λi σ H'=>(∃u v,σ=[some (.str (S x)),some (.ref D),u,v])/\am H H'/\gH A H' D as (gX bs (1+i))/\∀k,1<=k->k<1+i->(kH bs k&&qI bs k)=true) #[#[_,_,rfl],s12,by rw[amQ λb hb=>(vb b hb).parent];show hpA,λk a b=>by omega] ?_ ?_;rintro i σ H3 hi ⟨⟨u,v,rfl⟩,s3,xB,Et⟩;have hk:1+i<bs.length:=by omega
   rw[show(1:Int)+((i:Nat):Int)=((1+i:Nat):Int) by omega];apply#[D,as,gX bs (1+i),1+i,rfl,xB,by omega,by rw[K1];show hk,?_];rw[amP hk];cases h1:kH bs (1+i)with
   |false=>
    rw[ay ()];show rX H3 s3 (Sc () hk (by rw[h1];rfl))
   |true=>
    rw[aq rfl];have hdk:1<=(at_ bs (1+i)).deep:=by
     unfold kH at h1;simp![bS,pX,o_]at h1;omega
    let#[j,hj]:=R7 (ds:=kq bs) (d:=(at_ bs (1+i)).deep) (by rw[HP bs 0 hne,xt];omega) (n:=1+i) ();have hjl:=(u9 hj).1;apply#[D,as,gX bs (1+i),1+i,j,rfl,xB,by omega,by rw[K1];show hk,by rw[amO,(yE hk).2];show hj,λH4 Qi keep=>?_];have s4:am H H4:=λc o e=>keep c o (s3 c o e) λhc=>by rw[R.new c hc]at e;cases e
    rw[(yE hk).1,(yE (k:=j) ()).1];have e2:qI bs (1+i)=pK (at_ bs j).kind (at_ bs (1+i)).kind:=by unfold qI;rw[hj]
    cases h2:pK (at_ bs j).kind (at_ bs (1+i)).kind with
    |false=>
     rw[ay ()];show rX H4 s4 (Sc () hk (by rw[e2,h2,tT]))
    |true=>
     rw[aq rfl];rw[amR hk hj]at Qi;apply#[#[_,_,rfl],s4,by rw[<-Nat.add_assoc];show Qi,λk a b=>?_];by_cases aep:k=1+i
     rw[aep,h1,e2,h2];rfl;show Et k a ()
   rintro σ H3 ⟨⟨u,v,rfl⟩,s3,xB,Et⟩;have en:1+(((bs.length:Nat):Int)-1).toNat=bs.length:=by omega
   rw[en,amN]at xB;rw[en]at Et;have wl:(kZ bs).length=bs.length:=by unfold kZ;rw[LV]
   apply#[D,as,kZ bs,rfl,xB,by omega,λb hb=>?_,λH4 s4=>?_];let#[k,hk]:=F8 hb;unfold kZ at hk;rw[oJ]at hk;let#[b',cA,rfl]:=Option.map_eq_some_iff.mp hk;have V:=vb b' (fh cA);have h1:=V.zN;have h2:=V.G6;show#[by show b'.by_.length<=100;omega,by show b'.b7.length<=100;omega];rw[amX];have gT:((bv bs.length).all λi=>decide (i=0)||(kH bs i&&qI bs i))=true:=eW.mpr λk hk=>by
    rw[Gg]at hk;by_cases h0:k=0
    rw[b_ h0];rfl;rw[Et k () hk,Lk]
   have ep:pP bs=pD bs:=by
    unfold pP;rw[b_ h16,hf',gT,gp,gp,gp]
   cases hi:pD bs with
   |false=>
    rw[ay ()];show rX H4 (s3.trans s4) (by rw[ep,hi])
   |true=>
    rw[aq rfl];rw[ep,hi,aq rfl]at q;show q D as H4 (s3.trans s4) (xB.same s4)
theorem SY:∀(ks ls:List W),ls.length=ks.length->qX ks ls=fH (λz=>jo z.2 z.1) (ks.zip ls)
 |[],[],_=>rfl
 |[],_::_,h=>by simp at h
 |_::_,[],h=>by simp at h
 |k::ks,l::ls,h=>by
  rw[qX,we,SY ks ls (by simpa using h),fH];cases jo l k<;>cases fH (λz:W×W=>jo z.2 z.1) (ks.zip ls)<;>rfl
theorem Vb{α β:Type}:∀(l:List α)(as:List β)(a:β){k:α},l[as.length]? =some k->l.zip (as++[a])=l.zip as++[(k,a)]
 |[],as,a,k,h=>by simp at h
 |x::l,[],a,k,h=>by
  rw[rB,LL]at h;cases h;simp
 |x::l,b::as,a,k,h=>by
  rw[cN,F7]at h;rw[ja,we,we,Vb l as a h,ja]
def afV:Vaacca.KINDS.Nodup:=by decide
def afX{as:List aa}{a:aa}{k:jE}(h:lD[as.length]? =some k):iJ (kvsOf as) (pG k) (.ref a)=kvsOf (as++[a]):=by
 have hn:((kvsOf as).any λkv=>decide (kv.1=pG k))=false:=by
  rw[vM];intro z;let#[kv,hm,hk]:=VO.mp z;let#[#[y,b],hz,rfl]:=Ge.mp hm;have e:y=k:=QR (qR hk);subst e;let#[i,hi]:=F8 hz;rw[LO]at hi;have hl:i<as.length:=(List.getElem?_eq_some_iff.mp hi.2).1;have hl2:as.length<Vaacca.KINDS.length:=(List.getElem?_eq_some_iff.mp h).1;have:=(V0 () afV).mp (hi.1.trans h.symm);omega
 unfold iJ;rw[hn];simp![bT,bI];unfold kvsOf;rw[Vb _ _ _ h,cB];rfl
def jd.upd{H:Hp}{d a:aa}{r:ge}{kvs:List (bB×V)}{o:HO}(h:jd A H a r)(aoF:H d=some (.dK kvs)):jd A (L2.upd H d o) a r:=by
 let#[dx,ls,h1,h2]:=h.ex;apply#[dx,ls,?_,?_];rw[aG (λz=>by rw[z,aoF]at h1;cases h1)];show h1;show L2.upd H d o ls=_;rw[aG (λz=>by rw[z]at h2;rw[show H d=_ from h2]at aoF;cases aoF)];show h2
theorem Sd{α β:Type}{G:α->β->Prop}:∀{l:List α}{m:List β},Paired G l m->l.length=m.length
 |_,_,.nil=>rfl
 |_,_,.cons _ t=>by rw[cN,cN,Sd t]
def Oq:aV P w K mg base "read_rules" 8 ["text"] (akO A):=by
 apply bd T.acp ["text","lines","rules","kind","line"] ?_;rintro f _ _ _ s H _ Q E hr nd ⟨t,rfl,hz,q0⟩;generalize hx:(cd t).map dm=x;have asc:f6 x:=hx▸NI _;have AV:x.length<=4000:=by rw[<-hx,aD,ko];show hz
 have q:(match vi x with
   |some ms=>∀d as H',am H H'->H d=none->H' d=some (.dK (kvsOf as))->as.length=19->Paired (jd A H') as ms->Q (.ref d) H'
   |none=>∀H',am H H'->E (.ref A.cX) none H'):=by
  rw[<-hx,ai6];cases e:nu t with
  |none=>rw[e]at q0;show q0
  |some rs=>
   rw[e]at q0;intro d as H' s aoF h1 h2 h3;apply q0 d H' s #[as,h1,h2,λi hi=>?_] aoF;have hl:rs.length=19:=by rw[<-h2,Sd h3,aD]
   have em:(rs.map gA)[i]? =some (gA (vh rs i)):=by
    rw[cx,ca ()];unfold vh;rw[cZ,ca ()];rfl
   show sZ h3 em
 clear q0 hz;apply#[_,(aC (bu 1 nd (aJ (Of T) hr (ag '0' ao)))
   (aC (bY (bQ jl (dg dW rfl T.dH L2.boot_len (ag '1' ao)) (dg dW rfl T.dH L2.boot_len (ag (cq T.KINDS rfl) ao)) (bO _)) (aA (eG T.fZ eI rfl rfl)) bZ)
   (aC (bu 2 nd Si)
   (aC (kR gw rfl (aiz rfl T.YV (ag (cq T.KINDS rfl) (ag '1' ao))) (yh rfl (kP (cC 3 nd) (kP (cC 4 nd) vc))) (aA (Kb (AT hr) '2' '3' (aJ (aag T) hr (ag '4' (ag '3' ao))) rfl)))
   (aA (aT '2')))))),?_]
 unfold vi at q;apply#[x,rfl,AV,?_];cases el:kJ x with
 |none=>
  rw[el]at q;show q H (am.refl _)
 |some ls=>
  rw[el]at q;simp![de]at q;intro L hL;have s1:am H (L2.upd H L (.lst (ls.map λw=>V.str (S w)))):=am.new hL;generalize aaS:L2.upd H L (.lst (ls.map λw=>V.str (S w)))=H1 at s1;have pk:H1 L=some (.lst (ls.map λw=>V.str (S w))):=by rw[<-aaS,aH]
  have hk:=T.kinds H1;apply#[_,ls.length,rfl,.inl #[_,az.of pk,by rw[aD]],_,19,rfl,.inr #[_,hk,by rw[aD];rfl],rfl,?_];by_cases AD:ls.length=19
  case neg=>
   rw[aq AD]at q;rw[cO (by intro z;rw[V.int.injEq]at z;omega)];show q H1 s1
  rw[b_ (by rw[AD])];simp![f7,bT,bI];rw[ay (),SY _ _ (by rw[AD];rfl)]at q;intro d aoF;have xt:H d=none:=s1.free aoF;have s2:am H1 (L2.upd H1 d (.dK [])):=am.new aoF;apply#[_,_,_,_,rfl,T.kinds _,az.of (s2 _ _ pk),?_];apply ac7 (K:=K) (by rw[aD,aD,AD];rfl) (λn σ H'=>∃u v as ms,σ=[some (.str (S x)),some (.ref L),some (.ref d),u,v]/\am H1 H'/\H' d=some (.dK (kvsOf as))/\as.length=n/\Paired (jd A H') as ms/\((gF.zip ls).take n).map (λz=>jo z.2 z.1)=ms.map some) #[_,_,[],[],rfl,s2,aH,rfl,.nil,rfl] (λn σ H' _ ⟨_,_,_,_,_,s,_⟩=>#[T.kinds _,az.of (s _ _ pk)]) ?_ ?_;rintro n kv lv σ H' sv AN ⟨u,v,as,ms,rfl,s3,e3,ea,pr,em⟩ Tp hT;obtain⟨k,ek,rfl⟩:∃k,lD[n]? =some k/\kv=.str (S (kT k)):=by
   rw[A4,bh,cx]at sv;cases e:lD[n]? with
   |none=>rw[e]at sv;cases sv
   |some k=>rw[e]at sv;show#[k,rfl,(cV sv).symm]
  obtain⟨lw,w9,rfl⟩:∃lw,ls[n]? =some lw/\lv=.str (S lw):=by
   rw[cx]at AN;cases e:ls[n]? with
   |none=>rw[e]at AN;cases AN
   |some u=>rw[e]at AN;show#[u,rfl,(cV AN).symm]
  have hm:=Rt el (fh w9);have ez:(gF.zip ls)[n]? =some (kT k,lw):=by
   rw[LO];show#[by rw[A4,cx,ek];rfl,w9]
  have sT:am H' (L2.upd H' Tp (.tup [.str (S (kT k)),.str (S lw)])):=am.new hT;apply#[Tp,_,rfl,bL.of aH,rfl,_,_,rfl,_,_,rfl,rfl,?_];apply#[lw,kT k,rfl,λc hc=>asc c (hm.1 c hc),cp hm.2 AV,?_];cases eb:jo lw (kT k)with
  |none=>
   intro H4 s4;have en:fH (λz:W×W=>jo z.2 z.1) (gF.zip ls)=none:=by
    cases e:fH (λz:W×W=>jo z.2 z.1) (gF.zip ls)with
    |none=>rfl
    |some m=>
     have h:=dX (λl=>l[n]?) (Bc e);simp![cx,ez,fA,eb]at h;cases e2:m[n]? with
     |none=>rw[e2]at h;cases h
     |some z=>rw[e2]at h;cases h
   rw[en]at q;show q H4 (((s1.trans s3).trans sT).trans s4)
  |some r=>
   intro H4 a ha s4 aeT;have s34:am H' H4:=sT.trans s4;have e4:H4 d=some (.dK (kvsOf as)):=s34 _ _ e3;have hlen:as.length<19:=by
    have:=(List.getElem?_eq_some_iff.mp ek).1;rw[ea];show this
   apply#[d,_,rfl,yL.k (k:=pG k) e4 (by unfold kvsOf;rw[aD,Cj];show kb (Gn _ _) (fj hlen (bX ()))),_,_,as++[a],ms++[r],rfl,λc o e=>?_,?_,by rw[dG,ea];rfl,?_,?_];rw[aG (bf e aoF)];show s34 _ _ (s3 _ _ e);rw[aH,afX (by rw[ea];show ek)];show Paired.snoc (aeT.upd e4) (Paired.iD pr λ_ _ z=>(z.same s34).upd e4);rw[gz ez,cB,cB,em,V_,eb];rfl
  rintro σ H' ⟨u,v,as,ms,rfl,s3,e3,ea,pr,em⟩;have hz:(gF.zip ls).length=19:=by rw[Cj,AD];rfl
  rw[aD]at ea em;rw[Cn (by rw[hz];show bj _)]at em;rw[Bd em]at q;show q d as H' (s1.trans s3) xt e3 ea pr
end
end Pm
namespace L2
open PySem PySem.Spec PyProof.Rows
def af5{tt:TT}{te:TE}{σ:St}{H1:Hp}{Q:aa->Hp->Prop}{f:V->Bool}{h:V->V}{d:aa}{ob:Obj}{kvs:List (bB×V)}{i:Nat}(aoF:H1 d=some (.cT ob (.dK kvs)))(hz:kvs.length<=sizeLine)(ht:∀x∈kvs.map (·.2),jD tt ((bD σ [i]).set i (some x)) H1 (f x))(he:∀x∈kvs.map (·.2),f x=true->jD te ((bD σ [i]).set i (some x)) H1 (h x))(q:∀D H',am H1 H'->H1 D=none->H' D=some (.lst (((kvs.map (·.2)).filter f).map h))->Q D H'):
  ∀D,H1 D=none->∃W:Nat->Nat->Hp->Prop,(∃m,W 0 m (upd H1 D (.lst [])))/\∀n m H,W n m H->
   ((yQ d ob kvs).stop n H/\Q D H)\/((yQ d ob kvs).go n H/\∃Nx:Hp->Prop,(∀H',Nx H'->∃m',m'<m/\W (n+1) m' H')/\∀x H',(yQ d ob kvs).ib n H x H'->iU i x (bD σ [i]) H' λσ2 H2=>bD σ2 [i]=bD σ [i]/\tt σ2 H2 λb H3=>
    if b=true then te σ2 H3 λy H4=>∃acc,H4 D=some (.lst acc)/\acc.length<sizeLine/\Nx (upd H4 D (.lst (acc++[y])))else Nx H3):=λD hD=>by
 apply#[λn m H=>m=kvs.length-n/\n<=kvs.length/\am H1 H/\H D=some (.lst ((((kvs.map (·.2)).take n).filter f).map h)),#[_,rfl,eX _,vj hD,by rw[aH];simp],?_];rintro n m H ⟨rfl,hn,s,e⟩;by_cases hlt:n<kvs.length
 apply .inr #[#[s _ _ aoF,hlt],λH=>am H1 H/\H D=some (.lst ((((kvs.map (·.2)).take (n+1)).filter f).map h)),λH' ⟨a,b⟩=>#[_,by omega,rfl,hlt,a,b],?_];rintro x H' ⟨rfl,k,hk⟩;have hx:(kvs.map (·.2))[n]? =some x:=by rw[cx,hk];rfl
 have mx:=fh hx;apply#[tP,ht x mx _ _ s λH3 s3=>?_];cases hf:f x with
 |false=>
  simp![bT,bI];apply#[s.trans s3,?_];rw[gz hx,oH];simp![gd,hf,t8,bT,bI,eJ];show s3 _ _ e
 |true=>
  simp![bz];apply he x mx hf H3 _ (s.trans s3) λH4 s4=>#[_,s4 _ _ (s3 _ _ e),?_,?_,?_];rw[aD];apply kb (jw _ _) ?_;rw[ka,aD];omega;intro b o hb;rw[aG (bf hb hD)];show s4 _ _ (s3 _ _ (s _ _ hb));rw[aH,gz hx,oH];simp![gd,hf,t8,bz,cB,ba,gY]
 have e':n=kvs.length:=by omega
 apply .inl #[#[s _ _ aoF,by omega],q D H s hD ?_];rw[e,e',<-aD (f:=(·.2)) (as:=kvs),jy]
end L2
namespace Pm
open PySem PySem.Spec PyProof.Rows L2 TL
section
variable{P:aZ}{w:aW}{K:aP}{mg:Str->Option af}{base:aL}{A:aO}(T:Txt w K mg A)
def Ay(H:Hp):V->Bool
 | .ref a=>match H a with
  |some (.ins _ _ (_::(_,.bl b)::_))=>b
  |_=>false
 |_=>false
def Pb{H:Hp}{a:aa}{r:ge}(h:jd A H a r):Ay H (.ref a)=r.focus:=by
 let#[dx,ls,h1,_]:=h.ex;show(match H a with
  |some (.ins _ _ (_::(_,.bl b)::_))=>b
  |_=>false)=_
 rw[h1];rfl
theorem OX{α β:Type}{f:α->Bool}{g:β->Bool}:∀{l:List α}{m:List β},l.map f=m.map g->(l.filter f).length=(m.filter g).length
 |[],[],_=>rfl
 |[],_::_,h=>by cases h
 |_::_,[],h=>by cases h
 |a::l,b::m,h=>by
  rw[ba,ba,List.cons.injEq]at h;have:=OX h.2;rw[gd,gd,h.1];split<;>simp[this]
def afY{as:List aa}(h:as.length=19):(kvsOf as).map (·.2)=as.map V.ref:=by
 unfold kvsOf;rw[bh];show(Vaacca.KINDS.zip as).map (λz=>V.ref z.2)=_;have e:=List.map_snd_zip (l₁:=lD) (l₂:=as) (by rw[h];decide);rw[<-dX (jx V.ref) e,bh];rfl
def gf.apart2{H:Hp}{vt lo d dx C:aa}{fs:List (Str×V)}{rs:cD}{on:List Bool}(hp:gf A H d rs)(hv:H vt=some (.ins C dx fs))(kD:fs.length≠4)(ho:H lo=some (.lst (dC on)))(hn:on≠[]):gf A (less H vt lo) d rs:=by
 have ne:∀{a:aa}{o:HO},H a=some o->(∀C dx fs,o=.ins C dx fs->fs.length=4)->o≠.lst (dC on)->less H vt lo a=some o:=λ{a o} h hn h2=>by
  have z:a≠vt:=λz=>by
   rw[z,hv]at h;cases h;show kD (hn _ _ _ rfl)
  show e8 h z λz=>h2 (by rw[z,ho]at h;show(cV h).symm)
 let#[as,g1,g2,g3]:=hp.ex;apply#[as,ne g1 (by rintro _ _ _ ⟨⟩) nofun,g2,λi hi=>?_];let#[a,ea,hb]:=g3 i hi;let#[eY,ls,i1,i2]:=hb.ex;apply#[a,ea,eY,ls,ne i1 (by rintro _ _ _ ⟨⟩;rfl) nofun,ne i2 (by rintro _ _ _ ⟨⟩) λz=>?_];have z:=HO.lst.inj z;cases on with
 |nil=>show hn rfl
 |cons b on=>
  unfold dC at z;rw[ba]at z;generalize (gA (vh rs i)).sources=l at z;cases l with
  |nil=>cases z
  |cons x l=>cases(VP z).1
def ZT:aV P w K mg base "answer_rules" 29 ["visit","call"] (λvs H Q E=>∃(vt lo c:aa)(m:MS)(n z:Int)(t:aE),vs=[.ref vt,.ref c]/\br A H vt lo m/\rk A H c n z t/\t.length<=4000/\Gives A H vt lo Q E (bK m (.rules t))):=by
 apply bd T.As ["visit","call","rule"] ?_;rintro f _ _ _ s H vs Q E hr nd ⟨vt,lo,c,m,n,z,t,rfl,hv,hc,hz,q⟩;let#[dx,d,lb,lh,h1,h2,h3,h4,h5]:=hv.own;let#[dc,hc]:=hc.own;apply#[_,(aC (cQ '0' (aJ (Oq T) hr (ag (aN '1' rfl) ao)) rfl)
   (aA (aT (eS (ag (dg dW rfl T.dH L2.boot_len (ag (Sk (fX eM rfl rfl nd (aiy (aN '0' rfl)) (eN (own:=[("rule",2)]) rfl) (λ_ _ _ _ _ _=>(cC 2 nd)) (λ_ _ _ _ _ _=>by show(kS (yl (K:=K) rfl (iZ (K:=K) rfl '2' rfl) (λ_=>rfl)))) (λ_ _ _ _ _ _ _=>by show(pv 2)))) ao)) ao))))),?_]
 apply be.mk hc T.gm T.km (lI _ _ _) #[t,rfl,hz,?_];simp![bK]at q;cases e:nu t with
 |none=>
  rw[e]at q;show q
 |some rs=>
  rw[e]at q;intro d' H1 s1 jL ahq;have ar:=S0 e;have hl:=(BA ar).1;apply fq.mk (s1 _ _ h1) T.bM T.CW (by show(5:Nat)<1000;decide) ?_;have bW:dL "rules" (.ref d') (vF d lb lh lo (m.here:Nat))=vF d' lb lh lo (m.here:Nat):=rfl;rw[bW];have DX:m.on≠[]:=λz=>by
   have a1:=hv.ok.on;have a2:=hv.ok.here;rw[z]at a1;simp at a1;omega
  have hr2:=jL.apart2 (s1 _ _ h1) (by show 5≠4;decide) (s1 _ _ h2) DX;have sK:lo≠vt:=iX h2 h1 (by intro z;cases z);have kp:f8 vt lo H (L2.upd H1 vt (.ins A.d_ dx (vF d' lb lh lo (m.here:Nat)))):=λb o eb n1 _=>by rw[aG n1];show s1 _ _ eb
  have Jr:f8 vt lo H1 (L2.upd H1 vt (.ins A.d_ dx (vF d' lb lh lo (m.here:Nat)))):=λb o eb n1 _=>by rw[aG n1];show eb
  have hv2:br A (L2.upd H1 vt (.ins A.d_ dx (vF d' lb lh lo (m.here:Nat)))) vt lo { m with rs:=rs }:=
   #[#[hv.ok.pg,ar,hv.ok.cj,hv.ok.on,hv.ok.here],dx,d',lb,lh,aH,by rw[aG sK];show s1 _ _ h2,h3.same kp.less,hr2.same Jr.less,kp.less _ _ h5]
  generalize aaT:L2.upd H1 vt (.ins A.d_ dx (vF d' lb lh lo (m.here:Nat)))=H2 at kp Jr hv2;have Qr:H2 vt=some (.ins A.d_ dx (vF d' lb lh lo (m.here:Nat))):=by rw[<-aaT,aH]
  have aeS:gf A H2 d' rs:=(hr2.same Jr.less).same fG;let#[as,g1,g2,g3]:=aeS.ex;have nv:vt≠d':=iX Qr g1 (by intro z;cases z);apply#[d',_,g1,trivial,λod=>?_];have hF:L2.upd H2 d' (.cT od (.dK (kvsOf as))) d'=some (.cT od (.dK (kvsOf as))):=aH;have IA:∀i,i<19->∃a,as[i]? =some a/\jd A (L2.upd H2 d' (.cT od (.dK (kvsOf as)))) a (gA (vh rs i)):=λi hi=>let ⟨a,ea,ha⟩:=g3 i hi;#[a,ea,ha.upd g1]
  have hV:L2.upd H2 d' (.cT od (.dK (kvsOf as))) vt=some (.ins A.d_ dx (vF d' lb lh lo (m.here:Nat))):=by rw[aG nv];show Qr
  have Pz:L2.upd (L2.upd H2 d' (.cT od (.dK (kvsOf as)))) d' (.dK (kvsOf as))=H2:=by
   funext b;by_cases hb:b=d'
   rw[hb,aH];show g1.symm;rw[aG hb,aG hb]
  generalize L2.upd H2 d' (.cT od (.dK (kvsOf as)))=HF at hF IA hV Pz;apply be.mk hV T.bM T.CW (UU _ _ _ _ _) ⟨d',od,_,rfl,hF,?_⟩;have hvals:=afY g2;have rd:∀x∈(kvsOf as).map (·.2),∃a i,x=.ref a/\i<19/\jd A HF a (gA (vh rs i)):=λx hx=>by
   rw[hvals]at hx;let#[a,ha,rfl]:=Ge.mp hx;let#[i,hi]:=F8 ha;have P0:i<19:=by rw[<-g2];show(List.getElem?_eq_some_iff.mp hi).1
   let#[a',ea,xD]:=IA i P0;rw[hi]at ea;cases ea;show#[a,i,rfl,P0,xD]
  apply af5 (i:=2) (f:=Ay HF) (h:=id) hF (by unfold kvsOf;rw[aD,Cj];show bX (cp (Gn _ _) ())) (λx hx=>?_) (λx hx _=>?_) (λD' H' s' pi hf=>?_);let#[a,i,rfl,hi,xD]:=rd x hx;rw[Pb xD];let#[dr,lr,r1,r2]:=xD.ex;intro H3 Q3 s3 k3;show be.mk (s3 _ _ r1) T.qG T.CV rfl #[_,rfl,k3 H3 (am.refl _)];intro H3 Q3 s3 k3;show k3 H3 (am.refl _);have e4:H' d'=some (.cT od (.dK (kvsOf as))):=s' _ _ hF;apply#[e4,?_];have s5:am H2 (L2.upd H' d' (.dK (kvsOf as))):=λb o eb=>by
   by_cases hb:b=d'
   rw[hb]at eb⊢;rw[aH,<-eb,g1];rw[aG hb];apply s' _ _ ?_;have:=congrFun Pz b;rw[aG hb]at this;rw[this];show eb
  have hne:D'≠d':=λz=>by rw[z,e4]at hf;cases hf
  have hlen:(((kvsOf as).map (·.2)).filter (Ay HF)).length=(rs.filter λr=>r.focus).length:=by
   apply OX ?_;rw[hvals,bh];apply m8;intro i;rw[cx,cx];by_cases hi:i<19
   let#[a,ea,xD]:=IA i hi;rw[ea,ca (),fA,fA];show some (Ay HF (.ref a))=_;rw[Pb xD];unfold vh;rw[cZ,ca ()];rfl;rw[ig (),ig ()];rfl
  have aex:L2.upd H' d' (.dK (kvsOf as)) D'=some (.lst (((kvsOf as).map (·.2)).filter (Ay HF))):=by rw[aG hne,hf,m_]
  apply#[_,(rs.filter λr=>r.focus).length,rfl,.inl #[_,az.of aex,hlen.symm],bX (show 1<=100000 by decide),λD2 cg=>?_];show q D2 _ lo (hv2.same (s5.trans (am.new cg))) (.inl rfl) (kp.trans (f8.of_same (s5.trans (am.new cg)))) aH
theorem RR:∀(n:Nat)(l:List Nat),l.Nodup->(∀x∈l,x<n)->l.length<=n
 |0,[],_,_=>bj _
 |0,a::l,_,h=>absurd (h a (bq)) (Md _)
 |n+1,l,nd,h=>by
  have:=RR n (l.erase n) (nd.erase n) λx hx=>by
   have:=(nd.mem_erase_iff).mp hx;have h2:=h x this.2;have h3:=this.1;omega
  by_cases hm:n∈l
  rw[List.length_erase_of_mem hm]at this;omega;rw[List.erase_of_not_mem hm]at this;omega
def Pc(m:MS):(di m).length<=m.p.length:=RR _ _ (Pd m) λ_ h=>uI h
def J9:Pos:=#[140,32,140,64]
def vg:Str:=("focus_order"++".<locals>.")++"<lambda>"
def TabAt(Pt:aa)(H:Hp):Prop:=H Pt=some (tK Pt)\/∃c,H Pt=some (yA Pt J9 c)/\H c=some (oZ c vg)
structure oN (K:aP)(mg:Str->Option af)(base:aL)(c Pt:aa):Prop where
 tb:CC mg base c Pt
 fc:∀f fd,mg "focus_order"=some (.ref f)->j8 K "focus_order" "focus_order" yp f fd->fd.code=.ref c
def fL(Pt:aa)(H H':Hp):Prop:=∀b o,H b=some o->b≠Pt->H' b=some o
def fL.of{Pt:aa}{H H':Hp}(s:am H H'):fL Pt H H':=λb o e _=>s b o e
def fL.trans{Pt:aa}{H H1 H2:Hp}(a:fL Pt H H1)(b:fL Pt H1 H2):fL Pt H H2:=λc o e n=>b c o (a c o e n) n
def TabAt.same{Pt:aa}{H H':Hp}(h:TabAt Pt H)(s:am H H'):TabAt Pt H':=by
 rcases h with h|⟨c,h1,h2⟩
 show .inl (s _ _ h);show .inr #[c,s _ _ h1,s _ _ h2]
def TabAt.ext{Pt:aa}{H:Hp}(h:TabAt Pt H):∃φ,H Pt=some (.ext φ):=by
 rcases h with h|⟨c,h,_⟩
 show#[_,h];show#[_,h]
def aj7(A:aO)(Pt:aa):Sp:=λvs H Q _=>X3 λ(vt lo:aa) (m:MS)=>N4 (vs=[.ref vt]) (br A H vt lo m) (TabAt Pt H) (∀D H',fL Pt H H'->TabAt Pt H'->H D=none->dY H' D (di m)->Q (.ref D) H')
def HC{c Pt:aa}(TT:oN K mg base c Pt):aV P w K mg base "focus_order" 9 ["visit"] (aj7 A Pt):=by
 let#[f,fd,F,DU]:=T.abz;apply#[f,fd,?_,DU,F.kp,F.binds (λ_ _ _ _ _ _=>Ei λ_=>rfl)];have hcode:=TT.fc f fd DU F;let#[oc,od,kV,eq,pm,an,cf,ct,iF,rfl,lk,my]:=F.ex;have hcode:cf=.ref c:=hcode;subst hcode;apply O_ lk my Tj (λvs H Q E h=>by let#[_,_,_,rfl,_]:=h;rfl) λA' outer s H vs Q E hr h=>?_;let#[vt,lo,m,rfl,hv,ht,q]:=h;have nd:=Tj.nd;have TB:=TT.tb;let#[dx,d,lb,lh,h1,h2,h3,h4,h5]:=hv.ex;let#[xs,x1,x2]:=h2.len;have hle:=(g8 hv.ok.pg).2.1;have hdp:(A'.deeper (dn "focus_order" (eR yp) s.heap.objs.size f (.ref c))).in1.in1.depth<recursionLimit:=by
  have:=hr.dp;show(A'.deeper (dn "focus_order" (eR yp) s.heap.objs.size f (.ref c))).depth<_;omega
 apply#[_,(aC (Kc (i:=1) nd rfl (wm rfl) (aN '0' rfl))
   (aC (yk (i:=2) eM rfl rfl nd rfl rfl (yz rfl rfl rfl rfl) (EG rfl T.zL (ag (dg dW rfl T.dH L2.boot_len (ag '1' ao)) ao)) (eN (own:=[("place",5)]) rfl) (λ_ _ _ _ _ _=>(cC 5 nd)) (λ_ _ _ _ _ _=>by show(kS (yl (K:=K) rfl (iI (aav T) (hr.mono ()) oh rfl (ag '0' (ag '5' ao))) (λ_=>rfl)))) (λ_ _ _ _ _ _ _=>by show(pv 5)))
   (aC (yk (i:=3) eM rfl rfl nd rfl rfl (yz rfl rfl rfl rfl) (eF '2') (eN (own:=[("place",5)]) rfl) (λ_ _ _ _ _ _=>(cC 5 nd)) (λ_ _ _ _ _ _=>by show(kS (bQ jl (iZ (K:=K) rfl (cr (xL (K:=K) rfl) '1' '5' (λ_ _=>rfl)) rfl) cS (bO _)))) (λ_ _ _ _ _ _ _=>by show(pv 5)))
   (aC (yk (i:=4) eM rfl rfl nd rfl rfl (yz rfl rfl rfl rfl) (eF '2') (eN (own:=[("place",5)]) rfl) (λ_ _ _ _ _ _=>(cC 5 nd)) (λ_ _ _ _ _ _=>by show(kS (bQ fu (iZ (K:=K) rfl (cr (xL (K:=K) rfl) '1' '5' (λ_ _=>rfl)) rfl) cS (bO _)))) (λ_ _ _ _ _ _ _=>by show(pv 5)))
   (aA (aT (eD fV (ait (qual:=vg) (pm:=(mg "__name__").getD .none) 1 rfl T.YT '3' (ain TB rfl) hdp rfl) '4'))))))),?_]
 apply be.mk h1 T.bM T.cR (cU _ _ _ _ _) ?_;apply#[_,_,rfl,.inl #[_,az.of x1,rfl],_,rfl,by omega,by omega,?_];rw[oE,x2];apply Eh (H1:=H) (i:=5) (k:=m.p.length) (g:=xj m) (h:=λn=>.int (n:Nat)) () (λn hn=>?_) (λn hn _=>?_) λD1 H1 s1 jJ dA=>?_;intro H2 Q2 s2 k2;show#[vt,lo,m,n,rfl,hv.same s2,hn,λH3 s3=>#[_,rfl,k2 H3 s3]];intro H2 Q2 s2 k2;show k2 H2 (am.refl _);have dA:dY H1 D1 (iy m):=dA;have mem:∀n∈iy m,n<m.p.length:=λn hn=>Gg.mp (Gd.mp hn).1;have l1:(iy m).length<=16:=cp (jw _ _) (by rw[ln];show hle);let#[as,g1,g2,g3]:=h2.ex;have rd:∀n,n<m.p.length->∃a eY fs,as[n]? =some a/\H a=some (.ins A.Box eY fs)/\fs.lookup ("order":Str)=some (V.int ((bx m.p n).order:Nat)):=λn hn=>by
  let#[a,ea,hb]:=g3 n hn;let#[eO,dF,dE,i1,_,_]:=hb.ex;show#[a,_,_,ea,i1,rfl]
 apply#[D1,rfl,#[_,az.of dA],?_];apply pI (i:=5) (g:=λn=>decide ((bx m.p n).order≠0)) (h:=λn=>.int (n:Nat)) dA () (λn hn=>?_) (λn hn _=>?_) λD2 H2 s2 hf2 cg=>?_;let#[a,eY,fs,ea,i1,i2]:=rd n (mem n hn);intro H4 Q4 s4 k4;have s14:=s1.trans s4;apply .inl #[lb,_,_,_,rfl,rfl,az.of (s14 _ _ g1),cG (cy ea),be.mk (s14 _ _ i1) T.b8 T.uv i2 #[rfl,?_]];have e:(!decide (V.int ((bx m.p n).order:Nat)=V.int 0))=decide ((bx m.p n).order≠0):=by
  by_cases z:(bx m.p n).order=0
  simp[z];have z2:¬(((bx m.p n).order:Nat):Int)=0:=by omega
  simp[z,z2]
 rw[e];show k4 H4 (am.refl _);intro H4 Q4 s4 k4;show k4 H4 (am.refl _);apply#[D1,rfl,#[_,az.of (s2 _ _ dA)],?_];apply pI (i:=5) (g:=λn=>(bx m.p n).order==0) (h:=λn=>.int (n:Nat)) (s2 _ _ dA) () (λn hn=>?_) (λn hn _=>?_) λD3 H3 s3 pw hD3=>?_;let#[a,eY,fs,ea,i1,i2]:=rd n (mem n hn);intro H4 Q4 s4 k4;have s14:=(s1.trans s2).trans s4;apply .inl #[lb,_,_,_,rfl,rfl,az.of (s14 _ _ g1),cG (cy ea),be.mk (s14 _ _ i1) T.b8 T.uv i2 #[rfl,?_]];have e:decide (V.int ((bx m.p n).order:Nat)=V.int 0)=((bx m.p n).order==0):=by
  by_cases z:(bx m.p n).order=0
  simp[z];have z2:¬(((bx m.p n).order:Nat):Int)=0:=by omega
  simp[z,z2]
 rw[e];show k4 H4 (am.refl _);intro H4 Q4 s4 k4;show k4 H4 (am.refl _);have s13:=(s1.trans s2).trans s3;have t3:=ht.same s13;let#[φ,hφ]:=t3.ext;have Iw:H3 D2=some (.lst (((iy m).filter λn=>decide ((bx m.p n).order≠0)).map λn=>V.int (n:Nat))):=s3 _ _ cg;have cast:∀l:List Nat,(l.map λn=>V.int (n:Nat))=(l.map λn:Nat=>(n:Int)).map V.int:=λl=>by rw[bh];rfl
 have bW:∀(H4:Hp),fL Pt H3 H4->TabAt Pt H4->∀(D:aa)(eC:List Int),H4 D=none->eC.Pairwise (λx y=>((bx m.p x.toNat).order:Int)<=((bx m.p y.toNat).order:Int))->
   (∀z:Int,eC.filter (λx=>((bx m.p x.toNat).order:Int)==z)=(((iy m).filter λn=>decide ((bx m.p n).order≠0)).map λn:Nat=>(n:Int)).filter λx=>((bx m.p x.toNat).order:Int)==z)->
   (λx y H Q=>jn (λi j=>.int (i+j)) x y H Q\/(λx y H Q=>∃i j,x=V.str i/\y=V.str j/\i.length+j.length<=sizeLine/\Q (V.str (i++j)) H) x y H Q\/EL x y H Q) (.ref D) (.ref D3) (L2.upd H4 D (.lst (eC.map V.int))) Q:=by
  intro H4 st t4 D eC hD hp hfl;have agP:∀x∈eC,∃n:Nat,x=(n:Int):=λx hx=>by
   have:x∈eC.filter (λy=>((bx m.p y.toNat).order:Int)==((bx m.p x.toNat).order:Int)):=Gd.mpr #[hx,by simp];rw[hfl]at this;let#[n,_,e]:=Ge.mp (Gd.mp this).1;show#[n,e.symm]
  obtain⟨nn,rfl⟩:∃nn:List Nat,eC=nn.map λn:Nat=>(n:Int):=#[eC.map Int.toNat,by
   rw[bh];have:=fg (f:=(λn:Nat=>(n:Int))∘Int.toNat) (g:=id) (l:=eC) λx hx=>by
    let#[n,rfl]:=agP x hx;rfl
   rw[this,m_]]
  have e:=ac1 (m:=m) hv.ok.pg (ns:=nn) ?_ ?_;have Px:H4 D3=some (.lst (((iy m).filter λn=>(bx m.p n).order==0).map λn=>V.int (n:Nat))):=st _ _ hD3 (λz=>by rw[z,hφ]at hD3;cases hD3);have n3:D3≠D:=bf Px hD;have n0:H D=none:=by
   cases e0:H D with
   |none=>rfl
   |some o=>
    by_cases hP:D=Pt
    let#[ψ,hψ]:=t4.ext;rw[hP,hψ]at hD;cases hD;have:=st _ _ (s13 _ _ e0) hP;rw[hD]at this;cases this
  apply .inr (.inr #[D,D3,_,_,rfl,rfl,aH,by rw[aG n3];show Px,?_,λD5 pj=>?_]);rw[<-cast,<-dG,<-cB,e,aD];apply bX (cp ?_ (show 16<=100000 by decide));show cp (Pc m) hle;have Ix:H4 D5=none:=by
   cases e0:H4 D5 with
   |none=>rfl
   |some o=>rw[aG (bf e0 hD),e0]at pj;cases pj
  have sN:am H4 (L2.upd (L2.upd H4 D (.lst ((nn.map λn:Nat=>(n:Int)).map V.int))) D5 (.lst ((nn.map λn:Nat=>(n:Int)).map V.int++((iy m).filter λn=>(bx m.p n).order==0).map λn=>V.int (n:Nat)))):=(am.new hD).trans (am.new pj);apply q D5 _ (((fL.of s13).trans st).trans (fL.of sN)) (t4.same sN) ?_ ?_;cases e0:H D5 with
  |none=>rfl
  |some o=>
   by_cases hP:D5=Pt
   let#[ψ,hψ]:=t4.ext;rw[hP,hψ]at Ix;cases Ix;have:=st _ _ (s13 _ _ e0) hP;rw[Ix]at this;cases this
  unfold dY;rw[aH,<-cast,<-cB,e];rw[List.pairwise_map]at hp;show hp.imp λ{a b} h=>by simpa using h
  intro z;have:=hfl (z:Int);rw[gG,gG]at this;have:=(V9 (f:=λn:Nat=>(n:Int)) λa b (h:(a:Int)=(b:Int))=>by omega).mp this;have ee:((λx:Int=>((bx m.p x.toNat).order:Int)==(z:Int))∘λn:Nat=>(n:Int))=λx=>(bx m.p x).order==z:=by
   funext x;show(((bx m.p x).order:Int)==(z:Int))=_;by_cases h:(bx m.p x).order=z
   simp[h];have h2:¬(((bx m.p x).order:Nat):Int)=(z:Int):=by omega
   rw[Dc h,Dc h2]
  rw[ee]at this;show this
 have Nu:∀(H4:Hp),fL Pt H3 H4->∀n∈(((iy m).filter λn=>decide ((bx m.p n).order≠0)).map λn:Nat=>(n:Int)),0<=n/\∃a C dx fs,(as.map V.ref)[n.toNat]? =some (.ref a)/\H4 a=some (.ins C dx fs)/\eU K C/\cM K C "order"/\fs.lookup ("order":Str)=some (V.int ((bx m.p n.toNat).order:Nat)):=by
  intro H4 st n hn;obtain⟨k,hk,rfl⟩:=Ge.mp hn;obtain⟨a,eY,fs,ea,i1,i2⟩:=rd k (mem k (Gd.mp hk).1);have i3:=s13 _ _ i1;show⟨LB _,a,_,eY,fs,cy ea,st _ _ i3 (λz=>by rw[z,hφ]at i3;cases i3),T.b8,T.uv,i2⟩
 have hlb:=s13 _ _ g1;have RU:∀{b:aa}{ys:List V},H3 b=some (.lst ys)->b≠Pt:=λ{b ys} e z=>by rw[z,hφ]at e;cases e
 have hφ':=hφ;apply ?_;rcases t3 with t3|⟨c1,t3,u3⟩
 apply .inl #[t3,λc1 f1 w6 n1 n2 RC=>?_];have ahR:c1≠Pt:=λz=>by rw[z,hφ]at n1;cases n1
 have ahS:f1≠Pt:=λz=>by rw[z,hφ]at n2;cases n2
 have st:fL Pt H3 (L2.upd (L2.upd (L2.upd H3 Pt (yA Pt J9 c1)) c1 (oZ c1 vg)) f1 (nJ f1 (Mw "<lambda>" vg (pH #[140,39,140,44]) (nX #[140,46,140,51] #[140,52,140,57] #[140,46,140,58] #[140,46,140,64]) mG [("boxes",s.heap.objs.size+1+1)] ((mg "__name__").getD .none) c1 w6))):=λb o e nb=>by
  rw[aG (bf e n2),aG (bf e n1),aG nb];show e
 have t4:TabAt Pt (L2.upd (L2.upd (L2.upd H3 Pt (yA Pt J9 c1)) c1 (oZ c1 vg)) f1 (nJ f1 (Mw "<lambda>" vg (pH #[140,39,140,44]) (nX #[140,46,140,51] #[140,52,140,57] #[140,46,140,58] #[140,46,140,64]) mG [("boxes",s.heap.objs.size+1+1)] ((mg "__name__").getD .none) c1 w6))):=
  .inr #[c1,by rw[aG ahS.symm,aG ahR.symm,aH],by rw[aG RC.symm,aH]]
 apply#[D2,f1,c1,lb,w6,_,_,λz=>((bx m.p z.toNat).order:Nat),rfl,rfl,aH,by rw[aG RC.symm,aH];rfl,az.of (by rw[<-cast];show st _ _ Iw (RU Iw)),rfl,az.of (st _ _ hlb (RU hlb)),Nu _ st,λD eC hp hfl hD=>bW _ st t4 D eC hD hp hfl];apply .inr #[c1,t3,u3,λf1 w6 n2=>?_];have sN:=am.new (o:=nJ f1 (Mw "<lambda>" vg (pH #[140,39,140,44]) (nX #[140,46,140,51] #[140,52,140,57] #[140,46,140,58] #[140,46,140,64]) mG [("boxes",s.heap.objs.size+1+1)] ((mg "__name__").getD .none) c1 w6)) n2;apply#[D2,f1,c1,lb,w6,_,_,λz=>((bx m.p z.toNat).order:Nat),rfl,rfl,aH,sN _ _ u3,az.of (by rw[<-cast];show sN _ _ Iw),rfl,az.of (sN _ _ hlb),Nu _ (fL.of sN),λD eC hp hfl hD=>bW _ (fL.of sN) (TabAt.same (.inr #[c1,t3,u3]) sN) D eC hD hp hfl]
def fB.JS{H:Hp}{Pt lb:aa}{p:aX}(hp:fB A H lb p)(hx:∀o,H Pt=some o->∃φ,o=.ext φ):fB A (less H Pt Pt) lb p:=by
 have ne:∀{a:aa}{o:HO},H a=some o->(∀φ,o≠.ext φ)->less H Pt Pt a=some o:=λ{a o} h hn=>by
  have z:a≠Pt:=λz=>by
   subst z;let#[φ,e]:=hx _ h;show hn φ e
  show e8 h z z
 let#[as,g1,g2,g3]:=hp.ex;apply#[as,ne g1 nofun,g2,λi hi=>?_];let#[a,ea,hb]:=g3 i hi;let#[eO,dF,dE,i1,i2,i3]:=hb.ex;let#[ts,t1,t2]:=i3.ex;show#[a,ea,eO,dF,dE,ne i1 nofun,ne i2 nofun,ts,ne t1 nofun,Paired.iD t2 λ_ _ z=>ne z nofun]
def gf.JS{H:Hp}{Pt d:aa}{rs:cD}(hp:gf A H d rs)(hx:∀o,H Pt=some o->∃φ,o=.ext φ):gf A (less H Pt Pt) d rs:=by
 have ne:∀{a:aa}{o:HO},H a=some o->(∀φ,o≠.ext φ)->less H Pt Pt a=some o:=λ{a o} h hn=>by
  have z:a≠Pt:=λz=>by
   subst z;let#[φ,e]:=hx _ h;show hn φ e
  show e8 h z z
 let#[as,g1,g2,g3]:=hp.ex;apply#[as,ne g1 nofun,g2,λi hi=>?_];let#[a,ea,hb]:=g3 i hi;let#[eY,ls,i1,i2]:=hb.ex;show#[a,ea,eY,ls,ne i1 nofun,ne i2 nofun]
def br.EV{H H':Hp}{Pt vt lo:aa}{m:MS}(h:br A H vt lo m)(ht:TabAt Pt H)(s:fL Pt H H'):br A H' vt lo m:=by
 let#[φ,hφ]:=ht.ext;let#[dx,d,lb,lh,h1,h2,h3,h4,h5]:=h.own;have np:∀{b:aa}{o:HO},H b=some o->(∀φ,o≠.ext φ)->b≠Pt:=λ{b o} e n z=>by rw[z,hφ]at e;show n φ (cV e).symm
 have hx:∀o,less H vt lo Pt=some o->∃φ,o=.ext φ:=λo e=>by
  have:=fG _ _ e;rw[hφ]at this;show#[φ,(cV this).symm]
 have sm:am (less (less H vt lo) Pt Pt) (less H' vt lo):=λb o e=>by
  have hb:b≠Pt:=λz=>by
   unfold less at e;rw[aq (.inl z)]at e;cases e
  have e1:=fG _ _ e;have hn:¬(b=vt\/b=lo):=λz=>by unfold less at e1;rw[aq z]at e1;cases e1
  show e8 (s _ _ (fG _ _ e1) hb) (λz=>hn (.inl z)) λz=>hn (.inr z)
 apply#[h.ok,dx,d,lb,lh,s _ _ h1 (np h1 nofun),s _ _ h2 (np h2 nofun),(h3.JS hx).same sm,(h4.JS hx).same sm,sm _ _ (e8 h5 ?_ ?_)];show np (fG _ _ h5) nofun;show np (fG _ _ h5) nofun
def j9(A:aO)(Pt:aa)(H:Hp)(vt lo:aa)(Q:VK)(E:XK)(o:eK):Prop:=match o with
 | .ok (m',l)=>∀a H' gv,br A H' vt gv m'->(gv=lo\/H gv=none)->(∀b o,H b=some o->b≠vt->b≠lo->b≠Pt->H' b=some o)->TabAt Pt H'->eB H' a l->Q (.ref a) H'
 | .error n=>∀H',fL Pt H H'->TabAt Pt H'->E (.ref (OS A n)) none H'
def j9.old{H:Hp}{Pt vt lo:aa}{Q:VK}{E:XK}{o:eK}{m:MS}(hv:br A H vt lo m)(ht:TabAt Pt H)(g:j9 A Pt H vt lo Q E o):Gives A H vt lo Q E o:=by
 let#[dx,d,lb,lh,h1,h2,h3,h4,h5]:=hv.own;have kt:∀H',f8 vt lo H H'->TabAt Pt H':=λH' k=>by
  have ne:∀{b:aa}{φ:aL->Prop},H b=some (.ext φ)->H' b=some (.ext φ):=λ{b φ} e=>k _ _ e (λz=>by rw[z,h1]at e;cases e) (λz=>by rw[z,h2]at e;cases e);rcases ht with t|⟨c,t1,t2⟩
  show .inl (ne t);show .inr #[c,ne t1,ne t2]
 cases o with
 |ok z=>
  let#[m',l]:=z;show λa H' gv v1 v2 k i=>g a H' gv v1 v2 (λb o e n1 n2 _=>k b o e n1 n2) (kt H' k) i
 |error n=>show λH' s=>g H' (fL.of s) (ht.same s)
def j9.ok{H:Hp}{Pt vt lo:aa}{Q:VK}{E:XK}{m:MS}{l:List Int}(g:j9 A Pt H vt lo Q E (.ok (m,l)))(hv:br A H vt lo m)(ht:TabAt Pt H):∀D H',fL Pt H H'->TabAt Pt H'->eB H' D l->Q (.ref D) H':=
 λD H' s t hD=>g D H' lo (hv.EV ht s) (.inl rfl) (λb o e _ _ n=>s b o e n) t hD
def BN(f:MS->Int->aE->eK)(A:aO)(Pt:aa):Sp:=λvs H Q E=>X7 λ(vt lo c:aa) (m:MS) (n z:Int) (t:aE)=>N5 (vs=[.ref vt,.ref c]) (br A H vt lo m) (rk A H c n z t) (TabAt Pt H) (j9 A Pt H vt lo Q E (f m z t))
def ZH{c Pt:aa}(TT:oN K mg base c Pt):aV P w K mg base "answer_focus" 10 ["visit","call"] (BN (λm z t=>bK m .focus) A Pt):=by
 apply bd T.Ag ["visit","call"] ?_;rintro f _ _ _ s H _ Q E hr nd ⟨vt,lo,c',m,n,z,t,rfl,hv,hc,ht,q⟩;have hle:=(g8 hv.ok.pg).2.1;have FO:=HC (P:=P) T TT;apply#[_,(aA (aT (aJ (z9 T) hr (ag '0' (ag (aJ FO hr (ag '0' ao)) ao))))),?_];apply#[vt,lo,m,rfl,hv,ht,λD H1 s1 t1 _ hD=>?_];apply#[vt,lo,D,m,di m,rfl,hv.EV ht s1,hD,λj hj=>uI hj,cp (Pc m) (),λD2 H2 s2 _ cg=>?_];show j9.ok q hv ht D2 H2 (s1.trans (fL.of s2)) (t1.same s2) cg
def ZV{c Pt:aa}(TT:oN K mg base c Pt):aV P w K mg base "answer_size" 10 ["visit","call"] (BN (λm z t=>bK m .size) A Pt):=by
 apply bd T.Av ["visit","call","heard","headings"] ?_;rintro f _ _ _ s H _ Q E hr nd ⟨vt,lo,c',m,n,z,t,rfl,hv,hc,ht,q⟩;have FO:=HC (P:=P) T TT;apply#[_,(aC (bu 2 nd (aJ (z8 T) hr (ag '0' (ag (cq T.Lh rfl) ao))))
   (aC (bu 3 nd (aJ (z8 T) hr (ag '0' (ag (cq T.B8 rfl) ao))))
   (aA (aT (eS (ag (dg dW rfl T.dH L2.boot_len (ag '2' ao)) (ag (dg dW rfl T.dH L2.boot_len (ag (aJ FO hr (ag '0' ao)) ao)) (ag (dg dW rfl T.dH L2.boot_len (ag '3' ao)) ao)))))))),?_]
 apply#[vt,lo,m,0,rfl,hv,by decide,λD1 H1 s1 _ dA=>?_];apply#[vt,lo,m,1,rfl,hv.same s1,by decide,λD2 H2 s2 _ cg=>?_];have s12:=s1.trans s2;apply#[_,_,rfl,.inl #[_,az.of (s2 _ _ dA),rfl],?_];apply#[vt,lo,m,rfl,hv.same s12,ht.same s12,λD3 H3 s3 t3 _ hD3=>?_];let#[φ,hφ]:=(ht.same s12).ext;have n2:D2≠Pt:=λz=>by rw[dY,z,hφ]at cg;cases cg
 apply#[_,_,rfl,.inl #[_,az.of hD3,rfl],_,_,rfl,.inl #[_,az.of (s3 _ _ cg n2),rfl],bX (show 3<=100000 by decide),λD4 g_=>?_];apply j9.ok q hv ht D4 _ (((fL.of s12).trans s3).trans (fL.of (am.new g_))) (t3.same (am.new g_)) ?_;unfold eB;rw[aH,aD,aD,aD];rfl
def alo{j k n:Nat}{st:Int}(hn:0<n)(h:(st=1/\k=1)\/(st= -1/\k=n-1)):((j:Int)+st)%(n:Int)=(((j+k)%n:Nat):Int):=by
 rw[Int.natCast_emod];rcases h with⟨rfl,rfl⟩|⟨rfl,rfl⟩
 rfl;have e:(((j+(n-1):Nat)):Int)=((j:Int)+ -1)+(n:Int):=by omega
 rw[e,Int.add_emod_right]
def aj8(A:aO)(Pt:aa):Sp:=λvs H Q E=>∃(vt lo c:aa)(m:MS)(n z:Int)(t:aE)(st:Int)(k:Nat),vs=[.ref vt,.ref c,.int st]/\br A H vt lo m/\rk A H c n z t/\TabAt Pt H/\((st=1/\k=1)\/(st= -1/\k=(di m).length-1))/\j9 A Pt H vt lo Q E (gb m t λi=>stepI m i k)
def NV{c Pt:aa}(TT:oN K mg base c Pt):aV P w K mg base "focus_step" 10 ["visit","call","step"] (aj8 A Pt):=by
 apply bd T.abA ["visit","call","step","place","order","found"] ?_;rintro f _ _ _ s H _ Q E hr nd ⟨vt,lo,c',m,n,z,t,st,k,rfl,hv,hc,ht,e7,q⟩;let#[dx,d,lb,lh,h1,h2,h3,h4,h5]:=hv.ex;let#[as,g1,g2,g3]:=h2.ex;let#[dc,hc]:=hc.own;have hle:=(g8 hv.ok.pg).2.1;have FO:=HC (P:=P) T TT;apply#[_,(aC (bu 3 nd (aJ (sh T) hr (ag (aN '0' rfl) (ag (aN '1' rfl) ao))))
   (aC (bu 4 nd (aJ FO hr (ag '0' ao)))
   (aC (bY (bQ qT '3' '4' rfl) (aA (eG T.Fw eI rfl rfl)) bZ)
   (aC (bu 5 nd (cr cP '4' (eD R6 (eD fV (iH jb Mo WE Ry '4' (ag '3' ao)) '2') (dg dW rfl T.dH L2.boot_len (ag '4' ao))) (λ_ _=>rfl)))
   (aA (aT (aJ (sj T) hr (ag (aN (cr cP (aN '0' rfl) '5' (λ_ _=>rfl)) rfl) ao)))))))),?_]
 apply be.mk h1 T.bM T.cR (cU _ _ _ _ _) (be.mk hc T.gm T.km (lI _ _ _) ?_);apply#[lb,m.p,_,rfl,h2,?_];unfold gb at q;cases e:lS m.p ((cd t).map dm)with
 |none=>
  rw[<-yi hv.ok.pg,e]at q;show λH2 s2=>q H2 (fL.of s2) (ht.same s2)
 |some i=>
 have hi:=EH e;rw[<-yi hv.ok.pg,e]at q;have q2:j9 A Pt H vt lo Q E (stepI m i k):=q;intro H1 s1;apply#[vt,lo,m,rfl,hv.same s1,ht.same s1,λD H2 s2 t2 _ hD=>?_];have s12:fL Pt H H2:=(fL.of s1).trans s2;have hv2:=hv.EV ht s12;apply#[D,_,rfl,.inl (az.of hD),rfl,xi _,?_];show if (!pE (V.int (i:Nat)) ((di m).map λk=>V.int (k:Nat)))=true then _ else _
 rw[A2];unfold stepI at q2;cases hk:(di m).contains i with
 |false=>
  rw[hk]at q2;simp![ic,bz];show q2 H2 s12 t2
 |true=>
  rw[hk,aq rfl]at q2;simp![f7,bT,bI];let#[z0,z1,z2,z3]:=Qz hk;have Qj:0<(di m).length:=V6 (lm.mp hk);generalize hj:(((di m).idxOf i+k)%(di m).length)=j at q2;have hjl:j<(di m).length:=by rw[<-hj];show Nat.mod_lt _ Qj
  have ej:(di m)[j]? =some ((di m).getD j 0):=by rw[cZ,ca hjl];rfl
  have hx:(di m).getD j 0<m.p.length:=uI (fh ej);generalize (di m).getD j 0=x at q2 ej hx;let#[lL,d2,xQ,Jw,o1,o2,o3,o4,o5]:=hv2.ex;let#[as2,p1,p2,p3]:=o2.ex;let#[a,ea,cA]:=p3 x hx;let#[eO,dF,dE,i1,i2,i3]:=cA.ex;have hn:=u1 hv.ok.pg hx;apply ?_;apply#[.inl #[rfl,_,az.of hD],D,_,_,_,_,rfl,rfl,az.of hD,rfl,xi _,z1,z2,z3,.inl #[_,_,rfl,.inl #[_,az.of hD,rfl],by rw[aD];omega,?_]];have e2:(λi j:Int=>V.int (i%j)) (((di m).idxOf i:Nat)+st) ((((di m).map λn=>V.int (n:Nat)).length:Nat):Int)=V.int (j:Nat):=by
   show V.int _=_;rw[aD,alo Qj e7,hj]
  rw[e2];apply .inl #[D,_,_,_,rfl,rfl,az.of hD,cG (v:=.int (x:Nat)) (by rw[cx,ej];rfl),?_];apply be.mk o1 T.bM T.cR (cU _ _ _ _ _) (.inl #[xQ,_,_,_,rfl,rfl,az.of p1,cG (cy ea),be.mk i1 T.b8 T.nz (oV _ _ _) #[nm m.p x,rfl,by omega,λD1 H3 s3 _ dA=>?_]]);show j9.ok q2 hv ht D1 H3 (s12.trans (fL.of s3)) (t2.same s3) dA
def ZW{c Pt:aa}(TT:oN K mg base c Pt):aV P w K mg base "answer_tab" 11 ["visit","call"] (BN (λm z t=>bK m (.tab t)) A Pt):=by
 apply bd T.Aw ["visit","call"] ?_;rintro f _ _ _ s H _ Q E hr nd ⟨vt,lo,c',m,n,z,t,rfl,hv,hc,ht,q⟩;have FS:=NV (P:=P) T TT;apply#[_,(aA (aT (aJ FS hr (ag '0' (ag '1' (ag cS ao)))))),?_];show#[vt,lo,c',m,n,z,t,1,1,rfl,hv,hc,ht,.inl #[rfl,rfl],q]
def ZE{c Pt:aa}(TT:oN K mg base c Pt):aV P w K mg base "answer_back" 11 ["visit","call"] (BN (λm z t=>bK m (.back t)) A Pt):=by
 apply bd T.Ae ["visit","call"] ?_;rintro f _ _ _ s H _ Q E hr nd ⟨vt,lo,c',m,n,z,t,rfl,hv,hc,ht,q⟩;have FS:=NV (P:=P) T TT;apply#[_,(aA (aT (aJ FS hr (ag '0' (ag '1' (ag (tm tO cS) ao)))))),?_];show#[vt,lo,c',m,n,z,t,-1,(di m).length-1,rfl,hv,hc,ht,.inr #[rfl,rfl],q]
end
def jg(n:Nat)(z:Int)(t:aE):CO:=match n with
 |0=>.page t|1=>.rules t|2=>.press t|3=>.focus|4=>.tab t|5=>.back t|6=>.next z t|7=>.prev z t|8=>.outline|9=>.grid t
 |10=>.heads t|11=>.move z t|12=>.sentence t|13=>.escape|14=>.here|15=>.go z|16=>.goBack z|_=>.size
def gS(o:eK):Prop:=match o with
 | .ok _=>True
 | .error n=>n=1\/n=2\/n=3\/n=5\/n=6
def u6{m:MS}{t:aE}{f:Nat->eK}(h:∀i,gS (f i)):gS (gb m t f):=by
 unfold gb;split;simp[gS];show h _
def Bm{c g:Int}{f:Nat->eK}(h:∀i,gS (f i)):gS (mP c g f):=by
 unfold mP;split;simp[gS];show h _
def JW{m:MS}{t:aE}{f:Nat->Spot->eK}(h:∀i x,gS (f i x)):gS (sO m t f):=by
 apply u6 λi=>?_;split;split;simp[gS];show h _ _;simp[gS]
def Pr{m:MS}{x:Option Nat}:gS (xn m x):=by cases x<;>show ii
def Ua{m:MS}{i k:Nat}:gS (stepI m i k):=by
 unfold stepI;split;show ii;simp[gS]
def agE(m:MS)(c:CO):gS (bK m c):=by
 cases c with
 |page t=>simp![bK];split<;>simp[gS]
 |rules t=>simp![bK];split<;>simp[gS]
 |press t=>
  apply u6 λi=>?_;split;simp[gS];split;simp[gS];show ii
 |focus=>show ii
 |tab t=>show u6 λi=>Ua
 |back t=>show u6 λi=>Ua
 |next c t=>
  simp![bK];apply Bm λk=>u6 λi=>?_;show ii
 |prev c t=>
  simp![bK];apply Bm λk=>u6 λi=>?_;show ii
 |outline=>show ii
 |grid t=>
  apply u6 λi=>?_;split;show ii;simp[gS]
 |heads t=>show JW λi x=>ii
 |move d t=>
  simp![bK];apply Bm λk=>JW λi x=>?_;show ii
 |sentence t=>show JW λi x=>ii
 |escape=>simp![bK];split<;>simp[gS]
 |here=>show ii
 |go c=>show Bm λk=>Pr
 |goBack c=>show Bm λk=>Pr
 |size=>show ii
def sY(o:eK):List Int:=match o with
 | .ok (_,l)=>l
 | .error n=>[-(n:Int)]
def BS(m:MS)(o:eK):MS:=match o with
 | .ok (m',_)=>m'
 | .error _=>m
section
variable{P:aZ}{w:aW}{K:aP}{mg:Str->Option af}{base:aL}{A:aO}(T:Txt w K mg A)
def E1(A:aO)(Pt:aa)(n:Nat):Sp:=λvs H Q E=>X6 λ(vt lo c:aa) (m:MS) (z:Int) (t:aE)=>N6 (vs=[.ref vt,.ref c]) (br A H vt lo m) (rk A H c (n:Nat) z t) (TabAt Pt H) (t.length<=4000) (j9 A Pt H vt lo Q E (bK m (jg n z t)))
def mM{Pt:aa}{n:Nat}{f:MS->Int->aE->eK}(h:∀m z t,f m z t=bK m (jg n z t)):∀vs H Q E,E1 A Pt n vs H Q E->lX f A vs H Q E:=λvs H Q E ⟨vt,lo,c,m,z,t,e,hv,hc,ht,_,g⟩=>
 #[vt,lo,c,m,_,z,t,e,hv,hc,j9.old hv ht (by rw[h];show g)]
def Eo{Pt:aa}{n:Nat}{f:MS->Int->aE->eK}(h:∀m z t,f m z t=bK m (jg n z t)):∀vs H Q E,E1 A Pt n vs H Q E->BN f A Pt vs H Q E:=λvs H Q E ⟨vt,lo,c,m,z,t,e,hv,hc,ht,_,g⟩=>
 #[vt,lo,c,m,_,z,t,e,hv,hc,ht,by rw[h];show g]
def im{x:Str}{k:Nat}{sp sp':Sp}{f0:aa}(D:aV P w K mg base x k ["visit","call"] sp)(hm:mg x=some (.ref f0))(hk:k<=29)(h:∀vs H Q E,sp' vs H Q E->sp vs H Q E):
  ∃fd,ff P w K mg base (c_ P w) 29 f0 fd ["visit","call"] sp'/\ni K (.ref f0)=true/\Binds K fd ["visit","call"] []:=by
 let#[f,fd,F,P',aeq,hb]:=D.ex;rw[hm]at P';cases P';show#[fd,(F.mono hk).imp h,aeq,hb]
def QY(A:aO):List (bB×V):=[((bU 0),V.ref A.Ap),((bU 1),V.ref A.As),((bU 2),V.ref A.Aq),((bU 3),V.ref A.Ag),((bU 4),V.ref A.Aw),((bU 5),V.ref A.Ae),((bU 6),V.ref A.An),((bU 7),V.ref A.Ar),((bU 8),V.ref A.Ao),((bU 9),V.ref A.Aj),((bU 10),V.ref A.Ak),((bU 11),V.ref A.Am),((bU 12),V.ref A.Au),((bU 13),V.ref A.Af),((bU 14),V.ref A.Al),((bU 15),V.ref A.Ah),((bU 16),V.ref A.Ai),((bU 17),V.ref A.Av)]
def Yc{c Pt:aa}(TT:oN K mg base c Pt):∀n:Nat,n<18->∃f0,gB (QY A) (bU (n:Int))=some (.ref f0)/\∃fd,ff P w K mg base (c_ P w) 29 f0 fd ["visit","call"] (E1 A Pt n)/\ni K (.ref f0)=true/\Binds K fd ["visit","call"] []
 |0,_=>#[_,rfl,im (ZQ T (Op T)) T.Yr () λvs H Q E ⟨vt,lo,c,m,z,t,e,hv,hc,ht,hl,g⟩=>#[vt,lo,c,m,_,z,t,e,hv,hc,hl,j9.old hv ht g]]
 |1,_=>#[_,rfl,im (ZT T) T.Yu () λvs H Q E ⟨vt,lo,c,m,z,t,e,hv,hc,ht,hl,g⟩=>#[vt,lo,c,m,_,z,t,e,hv,hc,hl,j9.old hv ht g]]
 |2,_=>#[_,rfl,im (ZR T) T.Ys () (mM λ_ _ _=>rfl)]
 |3,_=>#[_,rfl,im (ZH T TT) T.Yi () (Eo λ_ _ _=>rfl)]
 |4,_=>#[_,rfl,im (ZW T TT) T.Yx () (Eo λ_ _ _=>rfl)]
 |5,_=>#[_,rfl,im (ZE T TT) T.Yg () (Eo λ_ _ _=>rfl)]
 |6,_=>#[_,rfl,im (ZO T) T.Yp () (mM λ_ _ _=>rfl)]
 |7,_=>#[_,rfl,im (ZS T) T.Yt () (mM λ_ _ _=>rfl)]
 |8,_=>#[_,rfl,im (ZP T) T.Yq () (mM λ_ _ _=>rfl)]
 |9,_=>#[_,rfl,im (ZK T) T.Yl () (mM λ_ _ _=>rfl)]
 |10,_=>#[_,rfl,im (ZL T) T.Ym () (mM λ_ _ _=>rfl)]
 |11,_=>#[_,rfl,im (ZN T) T.Yo () (mM λ_ _ _=>rfl)]
 |12,_=>#[_,rfl,im (ZU T) T.Yv () (mM λ_ _ _=>rfl)]
 |13,_=>#[_,rfl,im (ZG T) T.Yh () (mM λ_ _ _=>rfl)]
 |14,_=>#[_,rfl,im (ZM T) T.Yn () (mM λ_ _ _=>rfl)]
 |15,_=>#[_,rfl,im (ZI T) T.Yj () (mM λ_ _ _=>rfl)]
 |16,_=>#[_,rfl,im (ZJ T) T.Yk () (mM λ_ _ _=>rfl)]
 |17,_=>#[_,rfl,im (ZV T TT) T.Yw () (Eo λ_ _ _=>rfl)]
 |n+18,h=>absurd h ()
def Vx(P:aZ)(w:aW)(K:aP)(mg:Str->Option af)(base:aL)(f:aa)(sp:Sp):Prop:=∃fd,ff P w K mg base (c_ P w) 29 f fd ["visit","call"] sp/\ni K (.ref f)=true/\Binds K fd ["visit","call"] []
def Vd(A:aO)(Pt:aa)(H:Hp)(vt lo:aa)(Q:VK)(m:MS)(o:eK):Prop:=∀a H' gv,br A H' vt gv (BS m o)->(gv=lo\/H gv=none)->(∀b o,H b=some o->b≠vt->b≠lo->b≠Pt->H' b=some o)->TabAt Pt H'->eB H' a (sY o)->Q (.ref a) H'
def ajZ(A:aO)(Pt:aa):Sp:=λvs H Q _=>X7 λ(vt lo c:aa) (m:MS) (n:Nat) (z:Int) (t:aE)=>N7 (vs=[.ref vt,.ref c]) (br A H vt lo m) (rk A H c (n:Nat) z t) (TabAt Pt H) (t.length<=4000) (n<18) (Vd A Pt H vt lo Q m (bK m (jg n z t)))
def ZF{c Pt:aa}(TT:oN K mg base c Pt):aV P w K mg base "answer_call" 30 ["visit","call"] (ajZ A Pt):=by
 apply bd T.abp ["visit","call"] ?_;rintro f _ _ _ s H _ Q E hr nd ⟨vt,lo,c',m,n,z,t,rfl,hv,hc,ht,hl,hn,q⟩;have adr:∀f sp,Vx P w K mg base f sp->∃fd,ff P w K mg base (c_ P w) 29 f fd ["visit","call"] sp/\ni K (.ref f)=true/\Binds K fd ["visit","call"] []:=λf sp h=>h;let#[dc,mw]:=hc.own;let#[f0,e0,F0]:=Yc (P:=P) T TT n hn;apply#[_,(aA (aiD rfl rfl (Hd.cons T.fZ.bound rfl () (λ_ _ _=>(aA (aT (eS (ag (tm tO cS) ao))))) (Hd.cons T.Va.bound rfl () (λ_ _ _=>(aA (aT (eS (ag (tm tO cS) ao))))) (Hd.cons T.U'.bound rfl () (λ_ _ _=>(aA (aT (eS (ag (tm tO cS) ao))))) (Hd.cons T.Fx.bound rfl () (λ_ _ _=>(aA (aT (eS (ag (tm tO cS) ao))))) (Hd.cons T.Fw.bound rfl () (λ_ _ _=>(aA (aT (eS (ag (tm tO cS) ao))))) Hd.nil T.aaY (λ_ z=>nomatch z)) T.aa3 (List.forall_mem_cons.mpr #[T.aaZ,(λ_ z=>nomatch z)])) T.aaU (List.forall_mem_cons.mpr #[T.aa2,(List.forall_mem_cons.mpr #[T.aaX,(λ_ z=>nomatch z)])])) T.aa6 (List.forall_mem_cons.mpr #[T.aaV,(List.forall_mem_cons.mpr #[T.aa4,(List.forall_mem_cons.mpr #[T.aa0,(λ_ z=>nomatch z)])])])) T.aa8 (List.forall_mem_cons.mpr #[T.aa7,(List.forall_mem_cons.mpr #[T.aaW,(List.forall_mem_cons.mpr #[T.aa5,(List.forall_mem_cons.mpr #[T.aa1,(λ_ z=>nomatch z)])])])])) (λ_ _ _ adq=>(aA (aT (by apply aii (tf:=KH A.vO (QY A) (tC (.ref A.vO)) (KG K (BV 1) "number")) (t:=E_ (BV 0) (E_ (BV 1) vz)) adr (hr.mono ()) adq ?_ ?_;show(EB T.ZD (cq T.vO rfl) (by show(aN '1' rfl)) (λ_ _=>rfl));show(ag '0' (ag '1' ao)))))))),?_];apply be.mk mw T.gm T.M1 rfl #[bU (n:Int),_,rfl,rfl,e0,f0,E1 A Pt n,rfl,F0,vt,lo,c',m,z,t,rfl,hv,hc,ht,hl,?_];have er:=agE m (jg n z t);generalize bK m (jg n z t)=o at q er;cases o with
 |ok y=>
  let#[m',l]:=y;show λa H' gv h1 h2 h3 h4 h5=>q a H' gv h1 h2 h3 h4 h5
 |error k=>
  intro H' s' t';have bW:∀D,H' D=none->Q (.ref D) (L2.upd H' D (.lst [.int (-(k:Int))])):=λD hD=>
   q D _ lo (hv.EV ht (s'.trans (fL.of (am.new hD)))) (.inl rfl) (λb o e _ _ nP=>(am.new hD) _ _ (s' _ _ e nP)) (t'.same (am.new hD)) aH
  obtain rfl|rfl|rfl|rfl|rfl:=er
  show#[A.cX,_,rfl,bq,bX (show 1<=100000 by decide),bW];show#[A.kl,_,rfl,bp _ bq,bX (show 1<=100000 by decide),bW];show#[A.jA,_,rfl,bp _ (bp _ bq),bX (show 1<=100000 by decide),bW];show#[A.kj,_,rfl,bp _ (bp _ (bp _ bq)),bX (show 1<=100000 by decide),bW];show#[A.jB,_,rfl,bp _ (bp _ (bp _ (bp _ bq))),bX (show 1<=100000 by decide),bW]
end
abbrev C3:=Nat×Int×aE
def jS(m:MS):List C3->List (List Int)
 |[]=>[]
 |c::r=>sY (bK m (jg c.1 c.2.1 c.2.2))::jS (BS m (bK m (jg c.1 c.2.1 c.2.2))) r
def yO(all:List Int):Nat->List C3->Prop
 |k,[]=>k=all.length
 |k,c::r=>k<all.length/\c.1<18/\c.2.2.length<=4000/\∃e,tX all k (c.1:Nat) c.2.1 c.2.2 e/\yO all e r
def amw(a:List Int)(r:List (List Int)):jC (a::r)=((a.length:Int)::a)++jC r:=by
 unfold jC;rw[gh]
section
variable{P:aZ}{w:aW}{K:aP}{mg:Str->Option af}{base:aL}{A:aO}(T:Txt w K mg A)
def acS:("page top\n":Str)=S ((cd (oR CK)).map dm):=by decide+kernel
def DH:List Nat:=(cd (qa CL)).map dm
def acT{x:String}(e:x=String.ofList (DH.map Char.ofNat)):bN x=S DH:=by
 rw[Str.ofString_eq_toList,e,String.toList_ofList];show dX S (by decide+kernel:(DH.map Char.ofNat).map Lq=DH)
def Ku:ij CK=true:=by decide+kernel
def Ib:kg CL=true:=by decide+kernel
def m0:MS:=KW CL CK
def odd(o:HO):Prop:=match o with
 | .cT _ _=>True
 | .ext _=>True
 |_=>False
def fB.odd{H:Hp}{g lb:aa}{p:aX}(hp:fB A H lb p)(hx:∀o,H g=some o->odd o):fB A (less H g g) lb p:=by
 have ne:∀{a:aa}{o:HO},H a=some o->¬Pm.odd o->less H g g a=some o:=λ{a o} h hn=>by
  have z:a≠g:=λz=>by
   subst z;show hn (hx _ h)
  show e8 h z z
 let#[as,g1,g2,g3]:=hp.ex;apply#[as,ne g1 id,g2,λi hi=>?_];let#[a,ea,hb]:=g3 i hi;let#[eO,dF,dE,i1,i2,i3]:=hb.ex;let#[ts,t1,t2]:=i3.ex;show#[a,ea,eO,dF,dE,ne i1 id,ne i2 id,ts,ne t1 id,Paired.iD t2 λ_ _ z=>ne z id]
def gf.odd{H:Hp}{g d:aa}{rs:cD}(hp:gf A H d rs)(hx:∀o,H g=some o->odd o):gf A (less H g g) d rs:=by
 have ne:∀{a:aa}{o:HO},H a=some o->¬Pm.odd o->less H g g a=some o:=λ{a o} h hn=>by
  have z:a≠g:=λz=>by
   subst z;show hn (hx _ h)
  show e8 h z z
 let#[as,g1,g2,g3]:=hp.ex;apply#[as,ne g1 id,g2,λi hi=>?_];let#[a,ea,hb]:=g3 i hi;let#[eY,ls,i1,i2]:=hb.ex;show#[a,ea,eY,ls,ne i1 id,ne i2 id]
def br.odd{H:Hp}{g vt lo:aa}{m:MS}(h:br A H vt lo m)(hx:∀o,H g=some o->odd o):br A (less H g g) vt lo m:=by
 let#[dx,d,lb,lh,h1,h2,h3,h4,h5]:=h.own;have ng:∀{b:aa}{o:HO},H b=some o->¬Pm.odd o->b≠g:=λ{b o} e n z=>by subst z;show n (hx _ e)
 have Qt:∀o,less H vt lo g=some o->Pm.odd o:=λo e=>hx _ (fG _ _ e);have sm:am (less (less H vt lo) g g) (less (less H g g) vt lo):=λb o e=>by
  have hb:b≠g:=λz=>by
   unfold less at e;rw[aq (.inl z)]at e;cases e
  have e1:=fG _ _ e;have hn:¬(b=vt\/b=lo):=λz=>by unfold less at e1;rw[aq z]at e1;cases e1
  show e8 (e8 (fG _ _ e1) hb hb) (λz=>hn (.inl z)) λz=>hn (.inr z)
 have n1:=ng h1 id;have n2:=ng h2 id;have n5:=ng (fG _ _ h5) id;show#[h.ok,dx,d,lb,lh,e8 h1 n1 n1,e8 h2 n2 n2,(h3.odd Qt).same sm,(h4.odd Qt).same sm,sm _ _ (e8 h5 n5 n5)]
def qM{H:Hp}{g:aa}{o:HO}:less (L2.upd H g o) g g=less H g g:=by
 funext b;unfold less;by_cases h:b=g
 rw[aq (.inl h),aq (.inl h)];rw[ay (by rintro(z|z)<;>show h z),ay (by rintro(z|z)<;>show h z),aG h]
def qL{H:Hp}{g b:aa}{o:HO}(e:less H g g b=some o):b≠g:=λz=>by
 unfold less at e;rw[aq (.inl z)]at e;cases e
def br.Yz{H:Hp}{fe vt lo C dx:aa}{fs:List (Str×V)}{m:MS}(h:br A H vt lo m)(hf:H fe=some (.ins C dx fs))(hl:fs.length=2):br A (less H fe fe) vt lo m:=by
 let#[eY,d,lb,lh,h1,h2,h3,h4,h5]:=h.own;have n1:vt≠fe:=λz=>by
  rw[z,hf]at h1;cases h1;cases hl
 have n2:lo≠fe:=λz=>by rw[z,hf]at h2;cases h2
 have n5:lh≠fe:=λz=>by have:=fG _ _ h5;rw[z,hf]at this;cases this
 have hf2:less H vt lo fe=some (.ins C dx fs):=e8 hf n1.symm n2.symm;have sm:am (less (less H vt lo) fe fe) (less (less H fe fe) vt lo):=λb o e=>by
  have hb:=qL e;have e1:=fG _ _ e;have hn:¬(b=vt\/b=lo):=λz=>by unfold less at e1;rw[aq z]at e1;cases e1
  show e8 (e8 (fG _ _ e1) hb hb) (λz=>hn (.inl z)) λz=>hn (.inr z)
 show#[h.ok,eY,d,lb,lh,e8 h1 n1 n1,e8 h2 n2 n2,(h3.apart hf2 ()).same sm,(h4.apart hf2 ()).same sm,sm _ _ (e8 h5 n5 n5)]
def TabAt.apart{H:Hp}{Pt x:aa}(h:TabAt Pt H)(hx:∀φ,H x≠some (.ext φ)):TabAt Pt (less H x x):=by
 have go:∀{b:aa}{φ:aL->Prop},H b=some (.ext φ)->less H x x b=some (.ext φ):=λ{b φ} e=>by
  have n:b≠x:=λz=>by rw[z]at e;show hx φ e
  show e8 e n n
 rcases h with h|⟨c,h1,h2⟩
 show .inl (go h);show .inr #[c,go h1,go h2]
def ajs{G H':Hp}{fe vt lo Pt l C dx C2 lL:aa}{fs adb:List (Str×V)}{on:List Bool}{φ:aL->Prop}{all:List Int}(h:az K G l (all.map V.int))(hf:G fe=some (.ins C dx fs))(hv:G vt=some (.ins C2 lL adb))(ho:G lo=some (.lst (dC on)))(hn:on≠[])(hp:G Pt=some (.ext φ))(k:∀b o,G b=some o->b≠fe->b≠vt->b≠lo->b≠Pt->H' b=some o):az K H' l (all.map V.int):=by
 rcases h with(h|⟨ob,h⟩)|h
 apply .inl (.inl (k _ _ h (λz=>by rw[z,hf]at h;cases h) (λz=>by rw[z,hv]at h;cases h) (λz=>?_) λz=>by rw[z,hp]at h;cases h));rw[z,ho]at h;have z:=HO.lst.inj (cV h);cases on with
 |nil=>show hn rfl
 |cons b on=>
  cases all with
  |nil=>cases z
  |cons a all=>cases(VP z).1
 show .inl (.inr #[ob,k _ _ h (λz=>by rw[z,hf]at h;cases h) (λz=>by rw[z,hv]at h;cases h) (λz=>by rw[z,ho]at h;cases h) λz=>by rw[z,hp]at h;cases h]);show .inr h
def ah5{m:MS}(h:nh m):m.on≠[]:=λz=>by
 have a1:=h.on;have a2:=h.here;rw[z]at a1;simp at a1;omega
def aj0(K:aP)(Pt:aa):Sp:=λvs H Q _=>X3 λ(l:aa) (all:List Int) (cs:List C3)=>N6 (vs=[.ref l]) (az K H l (all.map V.int)) (TabAt Pt H) (yO all 0 cs) ((jC (jS m0 cs)).length<=10000000) (∀D H',TabAt Pt H'->eB H' D (jC (jS m0 cs))->Q (.ref D) H')
def aou{c Pt:aa}(TT:oN K mg base c Pt){f:aa}{fd:lf}(F:j8 K "answers" "answers" Kk f fd):ff P w K mg base (c_ P w) 31 f fd ["calls"] (aj0 K Pt):=by
 apply F.yb Th (λvs H Q E h=>by let#[l,all,cs,rfl,_]:=h;rfl) (λcf A' outer s H vs Q E hr h=>?_);let#[l,all,cs,rfl,hs,ht,hc,hz,q]:=h;have nd:=Th.nd;have AC:=ZF (P:=P) T TT;apply#[_,(aC (bu 1 nd (tj (Za T) (hr.mono ()) cn rfl (ag (aJ (Op T) hr (ag (cq T.Vu rfl) ao)) (ag (aJ (Oq T) hr (ag (cq T.Vv rfl) ao)) ao))))
   (aC (bu 2 nd (tj (Y9 T) (hr.mono ()) cn rfl (ag '0' ao)))
   (aC (bu 3 nd (eS ao))
   (aC (ve gw (gx (dq (fJ (JD T) (hr.mono ()) cn '2') (λ_=>rfl))) (aC (bu 4 nd (Sk (aJ AC hr (ag '1' (ag (fJ (JE T) (hr.mono ()) cn '2') ao)))))
   (aC (e9 (iH jb uj uk sH '3' (ag (dg dW rfl T.dH L2.boot_len (ag '4' ao)) ao)))
   (aA (e9 (iH jb Cw Cy Bg '3' (ag '4' ao)))))))
   (aA (aT '3')))))),?_]
 have PR:∀u x,(fF u x).lookup ("ended":Str)=none:=λ_ _=>rfl;have ae0:∀u x,(fF u x).lookup ("take_call":Str)=none:=λ_ _=>rfl;apply#[oR CK,by rw[<-acS];rfl,by decide+kernel,?_];rw[R_ Ku];intro lb H1 s1 hp;apply#[qa CL,dX (λz=>[V.str z]) (acT (by kernel_rfl)),by decide+kernel,?_];rw[S1 Ib];intro d H2 s2 jL ahq;intro vt dx RV n6 nev;have sa:am H2 (L2.upd (L2.upd H2 dx (.own vt)) vt (.ins A.d_ dx [])):=λc o e=>by rw[aG (bf e RV),aG (bf e n6)];show e
 apply#[vt,dx,lb,d,CK,CL,rfl,aH,(hp.same s2).same sa,EE Ku,jL.same sa,Ib,λlo H3 hv b3 nlo=>#[rfl,?_]];have s3:am H2 H3:=λc o e=>b3 c o (sa c o e) (bf e RV);have ajl:am H H3:=(s1.trans s2).trans s3;apply λfe df RN aht nef=>?_;have sb:am H3 (L2.upd (L2.upd H3 df (.own fe)) fe (.ins A.iL df [])):=λc o e=>by rw[aG (bf e RN),aG (bf e aht)];show e
 apply#[fe,df,l,rfl,aH,λH4 e4 b4=>#[rfl,?_]];have s4:am H3 H4:=λc o e=>b4 c o (sb c o e) (bf e RN);have S5:am H H4:=ajl.trans s4;apply#[eX _,λg hg=>?_];have s5:am H4 (less (L2.upd H4 g (.lst [])) g g):=λc o e=>by
  have n:=bf e hg;show e8 (by rw[aG n];show e) n n
 apply#[λM σ H'=>∃(r:List C3)(k:Nat)(m:MS)(lo:aa)(acc:List Int)(w4:Option V),M=r.length/\σ=[some (.ref l),some (.ref vt),some (.ref fe),some (.ref g),w4]/\br A (less H' g g) vt lo m/\lc K A (less H' g g) fe l all k/\TabAt Pt (less H' g g)/\H' g=some (.lst (acc.map V.int))/\yO all k r/\acc++jC (jS m r)=jC (jS m0 cs),
  #[cs.length,cs,0,m0,lo,[],none,rfl,rfl,(hv.same s4).same s5,#[#[df,s5 _ _ e4],s5.seq (S5.seq hs)],(ht.same S5).same s5,aH,hc,rfl],?_]
 rintro M σ H' ⟨r,k,m,lo,acc,w4,rfl,rfl,hv,hf,ht,hg,hr,ha⟩;let#[kr,f1]:=hf.own;have f1':=fG _ _ f1;apply f'.mk f1' (PR _ _) #[fe,l,all,k,rfl,hf.same fG,_,rfl,?_];let#[φ,hφ]:=ht.ext;let#[dxv,d1,lb1,lh1,v1,v2,v3,v4,v5]:=hv.own;cases r with
 |nil=>
  have hk:k=all.length:=hr;show if (!decide (all.length<=k))=true then _ else _
  rw[b_ ()];simp![f7,bT,bI];apply q g H' (ht.same fG) ?_;have e:acc=jC (jS m0 cs):=by
   rw[<-ha];show acc=acc++jC [];unfold jC;rw[oI,eJ]
  unfold eB;rw[hg,e]
 |cons cc r=>
  let#[hk,aeC,Ja,e,IQ,aeU]:=hr;show if (!decide (all.length<=k))=true then _ else _
  rw[cO ()];simp![ic,bz];let#[n,z,t]:=cc;apply#[λσ' H'=>∃(m:MS)(lo:aa)(acc:List Int)(w4:Option V),σ'=[some (.ref l),some (.ref vt),some (.ref fe),some (.ref g),w4]/\br A (less H' g g) vt lo m/\lc K A (less H' g g) fe l all e/\TabAt Pt (less H' g g)/\H' g=some (.lst (acc.map V.int))/\acc++jC (jS m r)=jC (jS m0 cs),?_,?_];rintro σ' H2 ⟨m2,agv,X8,w2,rfl,a1,a2,a3,a4,a5⟩;show#[r.length,ud _,r,e,m2,agv,X8,w2,rfl,rfl,a1,a2,a3,a4,aeU,a5];apply#[g,_,hg,trivial,λod=>?_];have JO:fe≠g:=qL f1;have ahA:vt≠g:=qL v1;have ahB:lo≠g:=qL v2;have ahC:Pt≠g:=qL hφ;have s1:am (less H' g g) (L2.upd H' g (.cT od (.lst (acc.map V.int)))):=λb o eb=>by rw[aG (qL eb)];show fG _ _ eb
  apply f'.mk (s1 _ _ f1) (ae0 _ _) #[fe,l,all,k,n,z,t,e,rfl,hf.same s1,IQ,λc2 H2 hf2 b2 nc2 DM=>?_];have G2:∀b o,less H' g g b=some o->b≠fe->H2 b=some o:=λb o eb nb=>b2 _ _ (s1 _ _ eb) nb;have s2:am (less (less H' g g) fe fe) H2:=λb o eb=>G2 b o (fG _ _ eb) (qL eb);have hv2:br A H2 vt lo m:=(hv.Yz f1 rfl).same s2;have AR:TabAt Pt H2:=(ht.apart (x:=fe) λφ z=>by rw[f1]at z;cases z).same s2;have aea:H2 g=some (.cT od (.lst (acc.map V.int))):=b2 _ _ aH JO.symm;apply#[vt,lo,c2,m,n,z,t,rfl,hv2,DM,AR,Ja,aeC,λa H3 gv w3 xz k3 t3 ia=>?_];have DQ:H3 g=some (.cT od (.lst (acc.map V.int))):=k3 _ _ aea ahA.symm ahB.symm ahC.symm;apply#[DQ,?_];have ahX:vt≠fe:=λz=>by
   rw[z,f1]at v1;have e2:(2:Nat)=5:=dX oK (HO.ins.inj (cV v1)).2.2;cases e2
  have ahF:lo≠fe:=λz=>by rw[z,f1]at v2;cases v2
  have ahT:Pt≠fe:=λz=>by rw[z,f1]at hφ;cases hφ
  have kk:∀b o,less H' g g b=some o->b≠fe->b≠vt->b≠lo->b≠Pt->less H3 g g b=some o:=λb o eb n1 n2 n3 n4=>e8 (k3 _ _ (G2 b o eb n1) n2 n3 n4) (qL eb) (qL eb);have hx:∀o,H3 g=some o->odd o:=λo eo=>by rw[DQ]at eo;cases eo;trivial
  have hv3:=w3.odd hx;have AS:TabAt Pt (less H3 g g):=t3.apart λφ z=>by rw[DQ]at z;cases z
  let#[lL,f2]:=hf2.own;have pw:lc K A (less H3 g g) fe l all e:=#[#[lL,e8 (k3 _ _ f2 ahX.symm ahF.symm ahT.symm) JO JO],ajs hf.lst f1 v1 v2 (ah5 hv.ok) hφ kk];have RG:a≠g:=λz=>by rw[eB,z,DQ]at ia;cases ia
  have eo:jS m ((n,z,t)::r)=sY (bK m (jg n z t))::jS (BS m (bK m (jg n z t))) r:=rfl;rw[eo,amw]at ha;generalize bK m (jg n z t)=o at w3 ia hv3 ha;have hlen:acc.length+1+(sY o).length<=10000000:=by
   rw[<-ha]at hz;simp![dG,cN]at hz;omega
  have Qw:L2.upd H3 g (.lst (acc.map V.int)) a=some (.lst ((sY o).map V.int)):=by rw[aG RG];show ia
  apply#[.inl #[rfl,_,az.of aH],_,_,rfl,.inl #[_,az.of Qw,rfl],g,_,_,rfl,rfl,aH,?_,?_];rw[aD];show kb (show acc.length<=10000000 by omega) ();apply#[.inl #[rfl,_,az.of aH],g,a,_,_,rfl,rfl,aH,by rw[aG RG];show Qw,?_,?_];rw[dG,aD,aD,rC];show jV ();apply#[BS m o,gv,acc++((sY o).length:Int)::sY o,_,rfl,?_,?_,?_,?_,?_];rw[qM,qM,qM];show hv3;rw[qM,qM,qM];show pw;rw[qM,qM,qM];show AS;rw[aH,cB,aD];simp;rw[<-ha];simp
end
end Pm
namespace Pm
def qr{all r:List Int}{p:Int}{k:Nat}(h:all.drop k=p::r):all[k]? =some p/\all.drop (k+1)=r/\k+1+r.length=all.length:=by
 have h1:=dX List.head? h;rw[LR]at h1;have h2:=dX List.tail h;rw[Wb]at h2;have h3:=dX oK h;rw[jv,cN]at h3;show#[h1,h2,by omega]
def SV{r x s:List Int}(h:zd r=some (x,s)):∃(c:Nat)(r':List Int),r=(c:Int)::r'/\c<=r'.length/\x=r'.take c/\s=r'.drop c:=by
 cases r with
 |nil=>cases h
 |cons n r'=>
  simp![zd]at h;split at h;rename_i hn;cases h;show#[n.toNat,r',by rw[show((n.toNat:Nat):Int)=n by omega],hn.2,rfl,rfl];cases h
def SW{r:List Int}{xs:List (List Int)}{t:List Int}(h:ui 0 r=some (xs,t)):xs=[]/\t=r:=by
 cases h;show#[rfl,rfl]
def SX{r:List Int}{xs:List (List Int)}{t:List Int}(h:ui 1 r=some (xs,t)):∃x,xs=[x]/\zd r=some (x,t):=by
 unfold ui at h;cases e:zd r with
 |none=>rw[e]at h;cases h
 |some z=>
  let#[x,s]:=z;rw[e]at h;cases h;show#[x,rfl,rfl]
def Df(x:List Int):Prop:=(∀z∈x,0<=z/\z<256)/\x.length<=4000
def UB{x:List Int}(h:Df x):∃t:aE,ki x=some t/\x=t.map (λb=>(b.toNat:Int))/\t.length<=4000:=by
 apply#[x.map λb=>wy b.toNat,?_,?_,by rw[aD];show h.2];unfold ki NeutralIO.bytes;rw[aq];rw[eW];intro z hz;have:=h.1 z hz;simp![bS,bw];omega;rw[bh];have:=fg (f:=(λb:UInt8=>(b.toNat:Int))∘λb:Int=>wy b.toNat) (g:=id) (l:=x) λz hz=>by
  have:=h.1 z hz;show(((wy z.toNat).toNat:Nat):Int)=z;rw[GK,ue ()];omega
 rw[this,m_]
def nF{x:List Int}(h:((x.all λ(z:Int)=>XT z 8)&&decide (x.length<=4000))=true):Df x:=by
 rw[bS,eW,bw]at h;apply#[λz hz=>?_,h.2];have:=h.1 z hz;unfold XT at this;simp![bS,bw]at this;show#[this.1,by omega]
section
variable{all r x s:List Int}{p:Int}{k:Nat}
def abl(hs:all.drop k=p::r)(hN:mY.contains p=false)(hR:k_.contains p=false):tX all k p 0 [] (k+1)/\all.drop (k+1)=r/\k+1<=all.length:=by
 let#[h1,h2,h3]:=qr hs;show#[#[h1,k+1,by rw[hN];show#[rfl,rfl],by rw[hR];show#[rfl,rfl]],h2,by omega]
def abn{z:Int}(hs:all.drop k=p::z::r)(hN:mY.contains p=true)(hR:k_.contains p=false):tX all k p z [] (k+2)/\all.drop (k+2)=r/\k+2<=all.length:=by
 let#[h1,h2,h3]:=qr hs;let#[g1,g2,g3]:=qr h2;show#[#[h1,k+2,by rw[hN];show#[g1,rfl],by rw[hR];show#[rfl,rfl]],g2,by omega]
def abm{t:aE}(hs:all.drop k=p::r)(hr:zd r=some (x,s))(hx:x=t.map λb=>(b.toNat:Int))(ht:t.length<=4000)(hN:mY.contains p=false)(hR:k_.contains p=true):∃e,tX all k p 0 t e/\all.drop e=s/\e<=all.length:=by
 let#[h1,h2,h3]:=qr hs;let#[c,r',rfl,hc,e1,e2]:=SV hr;let#[g1,g2,g3]:=qr h2;apply#[k+1+1+c,#[h1,k+1,by rw[hN];show#[rfl,rfl],?_],?_,by omega];rw[hR];show#[c,g1,by omega,by rw[g2,<-e1,hx],ht,rfl];rw[<-vX,g2,e2]
def abo{t:aE}{z:Int}(hs:all.drop k=p::z::r)(hr:zd r=some (x,s))(hx:x=t.map λb=>(b.toNat:Int))(ht:t.length<=4000)(hN:mY.contains p=true)(hR:k_.contains p=true):∃e,tX all k p z t e/\all.drop e=s/\e<=all.length:=by
 let#[h1,h2,h3]:=qr hs;let#[j1,j2,j3]:=qr h2;let#[c,r',rfl,hc,e1,e2]:=SV hr;let#[g1,g2,g3]:=qr j2;apply#[k+1+1+1+c,#[h1,k+2,by rw[hN];show#[j1,rfl],?_],?_,by omega];rw[hR];show#[c,g1,by omega,by rw[show k+2+1=k+1+1+1 from rfl,g2,<-e1,hx],ht,rfl];rw[<-vX,g2,e2]
end
def One(all:List Int)(k:Nat)(c:List (List Int))(bE:List Int):Prop:=∃(n:Nat)(z:Int)(t:aE)(e:Nat),n<18/\t.length<=4000/\tX all k (n:Nat) z t e/\all.drop e=bE/\e<=all.length/\zx (jc c)=some (jg n z t)
def Bo(n:Nat){all r:List Int}{k:Nat}(hs:all.drop k=(n:Int)::r){c bE}(h:ui 0 (r.drop 0)=some (c,bE))(hn:n<18)(hN:mY.contains (n:Int)=false)(hR:k_.contains (n:Int)=false)(hw:zx (jc [[(n:Int)]])=some (jg n 0 [])):One all k (((n:Int)::r.take 0)::c) bE:=by
 let#[rfl,rfl]:=SW h;let#[h1,h2,h3]:=abl hs hN hR;show#[n,0,[],k+1,hn,by decide,h1,h2,h3,hw]
def R0(n:Nat){all r:List Int}{k:Nat}(hs:all.drop k=(n:Int)::r){c bE}(hl:¬r.length<1)(h:ui 0 (r.drop 1)=some (c,bE))(hn:n<18)(hN:mY.contains (n:Int)=true)(hR:k_.contains (n:Int)=false)(hw:∀z,zx (jc [[(n:Int),z]])=some (jg n z [])):One all k (((n:Int)::r.take 1)::c) bE:=by
 cases r with
 |nil=>show absurd () hl
 |cons z r=>
  let#[rfl,rfl]:=SW h;let#[h1,h2,h3]:=abn hs hN hR;show#[n,z,[],k+2,hn,by decide,h1,h2,h3,hw z]
def sR(n:Nat){all r:List Int}{k:Nat}(hs:all.drop k=(n:Int)::r){c bE}(h:ui 1 (r.drop 0)=some (c,bE))(hn:n<18)(hN:mY.contains (n:Int)=false)(hR:k_.contains (n:Int)=true)(ha:zw (jc (((n:Int)::r.take 0)::c))=true)(hb:∀x,zw (jc [[(n:Int)],x])=true->Df x)(hw:∀x t,ki x=some t->zx (jc [[(n:Int)],x])=some (jg n 0 t)):One all k (((n:Int)::r.take 0)::c) bE:=by
 let#[x,rfl,hx]:=SX h;let#[t,t1,t2,t3]:=UB (hb x ha);let#[e,h1,h2,h3]:=abm hs hx t2 t3 hN hR;show#[n,0,t,e,hn,t3,h1,h2,h3,hw x t t1]
def JX(n:Nat){all r:List Int}{k:Nat}(hs:all.drop k=(n:Int)::r){c bE}(hl:¬r.length<1)(h:ui 1 (r.drop 1)=some (c,bE))(hn:n<18)(hN:mY.contains (n:Int)=true)(hR:k_.contains (n:Int)=true)(ha:zw (jc (((n:Int)::r.take 1)::c))=true)(hb:∀z x,zw (jc [[(n:Int),z],x])=true->Df x)(hw:∀z x t,ki x=some t->zx (jc [[(n:Int),z],x])=some (jg n z t)):One all k (((n:Int)::r.take 1)::c) bE:=by
 cases r with
 |nil=>show absurd () hl
 |cons z r=>
  let#[x,rfl,hx]:=SX h;let#[t,t1,t2,t3]:=UB (hb z x ha);let#[e,h1,h2,h3]:=abo hs hx t2 t3 hN hR;show#[n,z,t,e,hn,t3,h1,h2,h3,hw z x t t1]
def ah6{all r:List Int}{p:Int}{k:Nat}(hs:all.drop k=p::r){c bE}(h:Mj wn (p::r)=some (c,bE))(ha:zw (jc c)=true):One all k c bE:=by
 simp![Mj]at h;cases e:wn p with
 |none=>rw[e]at h;cases h
 |some z=>
  let#[n,j]:=z;rw[e]at h;simp only at h;split at h;cases h;rename_i hl;cases e2:ui j (r.drop n)with
  |none=>rw[e2]at h;cases h
  |some y=>
   let#[xs,t]:=y;rw[e2]at h;cases h;unfold wn at e;by_cases hp:p=0
   subst hp;rw[aq rfl]at e;cases e;show sR 0 hs e2 () rfl rfl ha (λx h=>nF h) λx t ht=>by show(ki x).map _=_;rw[ht];rfl
   rw[ay hp]at e;by_cases hp:p=1
   subst hp;rw[aq rfl]at e;cases e;show sR 1 hs e2 () rfl rfl ha (λx h=>nF h) λx t ht=>by show(ki x).map _=_;rw[ht];rfl
   rw[ay hp]at e;by_cases hp:p=2
   subst hp;rw[aq rfl]at e;cases e;show sR 2 hs e2 () rfl rfl ha (λx h=>nF h) λx t ht=>by show(ki x).map _=_;rw[ht];rfl
   rw[ay hp]at e;by_cases hp:p=3
   subst hp;rw[aq rfl]at e;cases e;show Bo 3 hs e2 () rfl rfl rfl;rw[ay hp]at e;by_cases hp:p=4
   subst hp;rw[aq rfl]at e;cases e;show sR 4 hs e2 () rfl rfl ha (λx h=>nF h) λx t ht=>by show(ki x).map _=_;rw[ht];rfl
   rw[ay hp]at e;by_cases hp:p=5
   subst hp;rw[aq rfl]at e;cases e;show sR 5 hs e2 () rfl rfl ha (λx h=>nF h) λx t ht=>by show(ki x).map _=_;rw[ht];rfl
   rw[ay hp]at e;by_cases hp:p=6
   subst hp;rw[aq rfl]at e;cases e;show JX 6 hs hl e2 () rfl rfl ha (λz x h=>nF (bS _ _▸h).2) λz x t ht=>by show(ki x).map _=_;rw[ht];rfl
   rw[ay hp]at e;by_cases hp:p=7
   subst hp;rw[aq rfl]at e;cases e;show JX 7 hs hl e2 () rfl rfl ha (λz x h=>nF (bS _ _▸h).2) λz x t ht=>by show(ki x).map _=_;rw[ht];rfl
   rw[ay hp]at e;by_cases hp:p=8
   subst hp;rw[aq rfl]at e;cases e;show Bo 8 hs e2 () rfl rfl rfl;rw[ay hp]at e;by_cases hp:p=9
   subst hp;rw[aq rfl]at e;cases e;show sR 9 hs e2 () rfl rfl ha (λx h=>nF h) λx t ht=>by show(ki x).map _=_;rw[ht];rfl
   rw[ay hp]at e;by_cases hp:p=10
   subst hp;rw[aq rfl]at e;cases e;show sR 10 hs e2 () rfl rfl ha (λx h=>nF h) λx t ht=>by show(ki x).map _=_;rw[ht];rfl
   rw[ay hp]at e;by_cases hp:p=11
   subst hp;rw[aq rfl]at e;cases e;show JX 11 hs hl e2 () rfl rfl ha (λz x h=>nF (bS _ _▸h).2) λz x t ht=>by show(ki x).map _=_;rw[ht];rfl
   rw[ay hp]at e;by_cases hp:p=12
   subst hp;rw[aq rfl]at e;cases e;show sR 12 hs e2 () rfl rfl ha (λx h=>nF h) λx t ht=>by show(ki x).map _=_;rw[ht];rfl
   rw[ay hp]at e;by_cases hp:p=13
   subst hp;rw[aq rfl]at e;cases e;show Bo 13 hs e2 () rfl rfl rfl;rw[ay hp]at e;by_cases hp:p=14
   subst hp;rw[aq rfl]at e;cases e;show Bo 14 hs e2 () rfl rfl rfl;rw[ay hp]at e;by_cases hp:p=15
   subst hp;rw[aq rfl]at e;cases e;show R0 15 hs hl e2 () rfl rfl λz=>rfl;rw[ay hp]at e;by_cases hp:p=16
   subst hp;rw[aq rfl]at e;cases e;show R0 16 hs hl e2 () rfl rfl λz=>rfl;rw[ay hp]at e;by_cases hp:p=17
   subst hp;rw[aq rfl]at e;cases e;show Bo 17 hs e2 () rfl rfl rfl;rw[ay hp]at e;cases e
def ai9:ck m0 XR:=by
 apply#[rfl,rfl,EE Ku,Ib,?_,?_,?_,?_,?_,?_]<;>decide+kernel
def aln{m:MS}{s:zv}(R:ck m s){c:List (List Int)}{k:CO}(h:zx c=some k):(rN s c).2=sY (bK m k)/\ck (BS m (bK m k)) (rN s c).1:=by
 have a:=Ya R k;unfold rN;rw[h];simp only;unfold Vaaccc.step;cases e:bK m k with
 |ok z=>
  rw[e]at a;let#[s',l',e2,R',e3]:=a;rw[e2];show#[e3.symm,R']
 |error n=>
  rw[e]at a;have a:gZ s k=.error n:=a;rw[a];show#[rfl,R]
def Zh:∀(f:Nat)(all:List Int)(k:Nat)(raw:List (List (List Int))),k<=all.length->Gu wn f (all.drop k)=some raw->(∀c∈raw,zw (jc c)=true)->
  ∃cs,yO all k cs/\∀m s,ck m s->Gv rN s (raw.map jc)=jS m cs:=by
 intro f;induction f with
 |zero=>
  intro all k raw hk h ha;cases e:all.drop k with
  |nil=>
   rw[e]at h;have h:some []=some raw:=h;cases h;have:=dX oK e;rw[jv,rB]at this;show#[[],by show k=all.length;omega,λm s R=>rfl]
  |cons p r=>rw[e]at h;cases h
 |succ f ih=>
  intro all k raw hk h ha;cases e:all.drop k with
  |nil=>
   rw[e]at h;have h:some []=some raw:=h;cases h;have:=dX oK e;rw[jv,rB]at this;show#[[],by show k=all.length;omega,λm s R=>rfl]
  |cons p r=>
   rw[e]at h;simp![Gu]at h;cases e1:Mj wn (p::r)with
   |none=>rw[e1]at h;cases h
   |some y=>
    let#[c,t]:=y;rw[e1]at h;simp only at h;cases e2:Gu wn f t with
    |none=>rw[e2]at h;cases h
    |some rs=>
     rw[e2]at h;cases h;let#[n,z,tx,en,hn,hl,hf,aoF,he,hw]:=ah6 e e1 (ha c (bq));let#[cs,h1,h2]:=ih all en rs he (by rw[aoF];show e2) λc' mw=>ha c' (bp _ mw);have:=(qr e).2.2;apply#[(n,z,tx)::cs,#[by omega,hn,hl,en,hf,h1],λm s R=>?_];let#[a1,a2]:=aln R hw;rw[ba];show(rN s (jc c)).2::Gv rN (rN s (jc c)).1 (rs.map jc)=_;rw[a1,h2 _ _ a2];rfl
def anx{l:List Int}(h:WV l=true):∃cs,yO l 0 cs/\MC l=jC (jS m0 cs)/\(jC (jS m0 cs)).length<=10000000:=by
 unfold WV at h;cases e:Gu wn l.length l with
 |none=>rw[e]at h;cases h
 |some raw=>
  rw[e]at h;simp![bS]at h;let#[#[#[#[_,_],_],h4],h5]:=h;unfold anw at h4;rw[bS,eW]at h4;let#[cs,c1,c2]:=Zh l.length l 0 raw (eX _) e λc hc=>h4.1 _ (p6 hc);have ea:MC l=jC (jS m0 cs):=by
   unfold MC PyVaaccc.calls;rw[e];show jC (Gv rN XU (raw.map jc))=_;rw[c2 m0 XR ai9 |> (λz=>(z:Gv rN XU (raw.map jc)=jS m0 cs))]
  apply#[cs,c1,ea,?_];rw[<-ea];unfold PyFlat.short at h5;show qR h5
end Pm
namespace Pm
open PySem PySem.Spec PyProof.Rows L2 TL
open PySem.W (WData Codec OpenSpec Well WellAll ReadsW ReadsAllW tabObj CodeHd)
def JP(o:Obj):Bool:=match o.cls,o.data with
 | .none,.fields _=>false
 |_,_=>true
theorem Rg{a:aa}{o:Obj}:∀{K:aP},K.lookup a=some o->(a,o)∈K
 |[],h=>by cases h
 |(b,p)::K,h=>by
  rw[ub]at h;by_cases e:a=b
  subst e;rw[Nk]at h;cases h;show bq;rw[Dc e]at h;show bp _ (Rg h)
def ahJ{K:aP}{Pt:aa}{h:aL}(hK:(K.all λp=>JP p.2)=true)(KX:K.In h)(e:h.get? Pt=some (pS (List.toArray []))):K.lookup Pt=none:=by
 cases q:K.lookup Pt with
 |none=>rfl
 |some o=>
  have e2:=KX _ _ q;rw[e]at e2;cases e2;have hm:(Pt,pS (List.toArray []))∈K:=Rg q;have:=eW.mp hK _ hm;cases this
def ZC{P:aZ}{w:aW}{H:Hp}{s:ax}{e:af}{s':ax}(h:c_ P w [] H s (λ_ _ _=>False) e s'):False:=by
 let#[_,_,_,_,_,z]:=h;show z
def ala{P:aZ}{w:aW}{K:aP}{mg mb:Str->Option af}{k:Nat}{fa c Pt:aa}{fd:lf}{ps:List Str}{sp:Sp}{s₁:ax}{mV:List af}{ds:List fM}{R:WI}{cl:Str->Option aa}{d0:fM}(KX:K.In s₁.heap)(pA:s₁.heap.Ns mainGlobals mg)(hb:s₁.heap.Ns De mb)(adG:∀x:Str,x≠"__name__"->mb x=jf x)(aet:s₁.heap.NoLimit)(hg:s₁.gens= (List.toArray []))(AU:qc w.params s₁.heap mV ds)(hpl:mR ds=true)(ae6:∀d∈ds,d.weight<=1048576)(hr:dQ k Dg)(hK:(K.all λp=>JP p.2)=true)(hC:s₁.heap.IsCode c Pt (List.toArray []))(hT:s₁.heap.TableAt c Pt (List.toArray []))(hbm:∃bm ob,mg "__builtins__"=some (.ref bm)/\bm≠De/\s₁.heap.get? bm=some ob/\ob.cls=.type "module"/\ob.dict=some De/\ob.data=.plain)(F:∀base:aL,K.In base->base.Ns mainGlobals mg->CC mg base c Pt->ff P w K mg base (c_ P w) k fa fd ps sp)(adH:∀(s:ax)(us:List af),us.length=ps.length->B4 s fd #[us,[]] (ps.zip us))(hlen:ds.length=ps.length)(sA:∀(H:Hp)(xs:List V),H Pt=none->m6 K H xs ds->sp xs (L2.upd H Pt (tK Pt)) (λv H'=>Dw K H' v d0/\TabAt Pt H') λ_ _ _=>False):
  oY (aR P w) Dg (.call (.ref fa) #[mV,[]]) (λr s'=>∃u as,r=.ok (.ret u)/\ReadsW R cl s'.heap u d0 as/\OldK s₁.heap s'.heap/\s'.os=s₁.os/\rg s'.gens) s₁:=by
 have eP:s₁.heap.get? Pt=some (pS (List.toArray [])):=hT.2;have hKP:=ahJ hK KX eP;let#[A,ho,ar]:=C5 ds mV AU hpl ae6;have hO:Mg (gN K s₁.heap A):=YD ar;have Qg:dk P w (gN K s₁.heap A) s₁.heap:=YC ar;have hS:=Dx KX ar ds mV AU hpl ho;have hV:=yF ho;have PD:∀b u,gN K s₁.heap A b=some u->K.lookup b=none:=λb u q=>(C7 ar q).1;have qP:∀{b:aa}{o:Obj},s₁.heap.get? b=some o->(∀vs n,o.data≠.seq vs n)->gN K s₁.heap A b=none:=λ{b o} e d=>by
  cases q:gN K s₁.heap A b with
  |none=>rfl
  |some u=>
   obtain⟨_,vs,_,_,⟨e2,_⟩|⟨e2,_⟩⟩:=C7 ar q;rw[e2]at e;cases e;show absurd rfl (d _ _);rw[e2]at e;cases e;show absurd rfl (d _ _)
 have DJ:gN K s₁.heap A Pt=none:=qP eP nofun;generalize gN K s₁.heap A=H0 at hO Qg hS PD qP DJ;have aS:dk P w (L2.upd H0 Pt (tK Pt)) s₁.heap:=λb o q=>by
  by_cases hb:b=Pt
  subst hb;rw[aH]at q;cases q;show#[eP,#[_,eP],λh1 h2 a k=>k _ a];rw[aG hb]at q;show(Qg b o q).kW (λc v _ e=>e) (λc e=>by rw[aG (bf e DJ)];show e) λc xs e=>by rw[aG (bf e DJ)];show e
 have free:∀{b:aa},b≠Pt->H0 b=none->L2.upd H0 Pt (tK Pt) b=none:=λ{b} n e=>by rw[aG n];show e
 have sp0:=sA H0 _ DJ hS;have bP:∀{b:aa}{o:Obj},s₁.heap.get? b=some o->o≠pS (List.toArray [])->b≠Pt:=λ{b o} e n z=>by rw[z,eP]at e;show n (cV e).symm
 generalize eH:L2.upd H0 Pt (tK Pt)=H at aS free sp0;have hHP:H Pt=some (tK Pt):=by rw[<-eH,aH]
 have base_of:∀{b:aa}{o:Obj},s₁.heap.get? b=some o->H b=none->(px s₁.heap H).get? b=some o:=λe n=>aee e n;have Es:∀{b:aa}{m:Str->Option af},s₁.heap.Ns b m->(px s₁.heap H).Ns b m:=λ{b m} ⟨o,es,ep,e,d,r⟩=>#[o,es,ep,base_of e (free (bP e (λz=>by rw[z]at d;cases d)) (qP e (λvs n z=>by rw[d]at z;cases z))),d,r];have nK:∀b o,K.lookup b=some o->H b=none:=λb o e=>by
  apply free (λz=>by rw[z,hKP]at e;cases e) ?_;cases q:H0 b with
  |none=>rfl
  |some u=>
   rw[PD b u q]at e;cases e
 have PF:K.In (px s₁.heap H):=λb o e=>base_of (KX b o e) (nK b o e);have hM:Mod K mg (px s₁.heap H):=#[PF,Es pA,#[mb,Es hb,adG],let ⟨mc,h1,h2⟩:=aet;#[mc,Es h1,h2]];have gt:CC mg (px s₁.heap H) c Pt:=by
  apply#[?_,?_];let#[o,vs,acR,tf,acW,tg,afv,text,tt,e,oc,od,r]:=CodeHd.of hC hT;show#[o,vs,acR,tf,acW,tg,afv,text,tt,base_of e (free (bP e (λz=>by rw[z]at oc;cases oc)) (qP e (λvs n z=>by rw[od]at z;cases z))),oc,od,r];let#[bm,ob,b1,b2,b3,b4,b5,b6]:=hbm;have n1:bm≠Pt:=bP b3 (λz=>by rw[z]at b4;cases b4);have n2:bm≠mainGlobals:=λz=>by
   let#[o,es,ep,e,aoF,_]:=pA;rw[z,e]at b3;cases b3;rw[aoF]at b6;cases b6
  show#[bm,ob,b1,b2,n2,n1,base_of b3 (free n1 (qP b3 (λvs n z=>by rw[b6]at z;cases z))),b4,b5,b6]
 have e0:tV P w K mg (px s₁.heap H) Dg [] s₁ H:=#[rfl,hM,λb o e=>ah1 e,Gk (aef _ _),trivial,λb hb=>absurd (show b∈([]:List aa) from hb) (),aS,.of_eq hg];have hl:mV.length=ps.length:=by rw[Fm AU];show hlen
 apply zV ((F _ PF (Es pA) gt).run Dg [] s₁ H #[mV,[]] mV (mV.map i_) _ _ hr e0 (adH s₁ mV hl) hV sp0) λr s' x=>?_;cases r with
 |error e=>show(ZC x).elim
 |ok fl=>
  cases fl with
  |next=>show ju x
  |brk=>show ju x
  |cont=>show ju x
  |ret u=>
   let#[v,H',os,bare,un,DW,r',q,tq]:=x;have kept:∀b o,b≠Pt->s₁.heap.get? b=some o->s'.heap.get? b=some o:=λb o nb e=>by
    cases q2:H b with
    |none=>show un.keep b o e q2 (by intro z;show absurd (show b∈([]:List aa) from z) ()) ()
    |some u2=>
     rw[<-eH,aG nb]at q2;rcases hO b with z|⟨ob,u3,z⟩
     rw[q2]at z;cases z;have z1:H b=some (.cT ob u3):=by rw[<-eH,aG nb];show z
     have z2:=un.iz b ob _ z1;let#[e1,_]:=aS b _ z1;let#[e2,_]:=DW b _ z2;rw[e]at e1;cases e1;show e2
   have VE:K.In s'.heap:=λb o e=>kept b o (λz=>by rw[z,hKP]at e;cases e) (KX b o e);let#[as,Qm]:=Dw.reads (R:=R) (cl:=cl) DW VE d0 v u q r';have grown:∃ps,s'.heap.get? Pt=some (pS ps):=by
    rcases tq with t|⟨c1,t,_⟩
    show#[_,(DW Pt _ t).1];show#[_,(DW Pt _ t).1]
   let#[aiC,Qk]:=grown;apply#[u,as,rfl,Qm,#[λb o e=>?_,λb o e=>?_],os,bare];by_cases hb:b=Pt
   subst hb;rw[eP]at e;cases e;show .inr (.inl #[hT.isCodeTable,rfl,(List.toArray []),aiC,rfl,by rw[Array.empty_append];show Qk]);show .inl (kept b o hb e);by_cases hb:b=Pt
   subst hb;show#[_,Qk];show#[o,kept b o hb e]
def aoE{r:OpenSpec}{k:Nat}{q:aZ}{agz:List Str}{XP:(Str->Option af)->aL->Prop}{YP:aW->aL->Prop}{d:DefRec}{K:rG->aP}{ps:List Str}{sp:aP->aa->Sp}(ae5:r.wellSaid=true)(hdf:d.params.defaults=[])(hlen:r.args.length=ps.length)(hr:dQ k Dg)(hq:((recsOf q).any λd=>decide (d.name="focus_order"))=true)(hK:∀p:rG,((K p).all λp=>JP p.2)=true)(hY:∀(w:aW)(h:aL),YP w h->(K w.params).In h)(F:∀(w:aW)(mg:Str->Option af)(fa:aa)(h:aL),YP w h->(K w.params).In h->h.Ns mainGlobals mg->mg d.name=some (.ref fa)->
   ∃fd:lf,(∀(s:ax)(us:List af),us.length=ps.length->B4 s fd #[us,[]] (ps.zip us))/\
    ∀(base:aL)(c Pt:aa),(K w.params).In base->base.Ns mainGlobals mg->oN (K w.params) mg base c Pt->ff r.prog w (K w.params) mg base (c_ r.prog w) k fa fd ps (sp (K w.params) Pt))(sA:∀(K:aP)(H:Hp)(xs:List V)(a:Lu r.args)(Pt:aa),H Pt=none->Codec.withinAll r.args a=true->Ls r.args r.asked a=true->m6 K H xs (B7 r.args a)->
   sp K Pt xs (L2.upd H Pt (tK Pt)) (λv H'=>Dw K H' v (r.ret.enc (Ls r.args r.f a))/\TabAt Pt H') λ_ _ _=>False):
  PySem.W.WalkOS q agz XP YP r d [] (λf vs=>PySem.call f vs):=by
 intro w gy s₁ mg mb G Y fa o pm cd eq dV kV ho aoF my hD DU hg args mV as aeP aer Qm AU xz;let#[a,e1,e2]:=PySem.W.os_pre_some aeP;let#[e3,Qs]:=Codec.encAll_of_decAll r.args args a e1;subst e3;have KX:=hY w _ Y;let#[fd,hb,hF]:=F w mg fa _ Y KX G.T.g DU;let#[dr,adX,aeF]:=VO.mp hq;let#[fo,oo,fdo,c,Pt,t1,t2,t3,t4,t5,t6]:=G.T.tab dr adX;rw[qR aeF]at t1;have IQ:∀f fd,mg "focus_order"=some (.ref f)->j8 (K w.params) "focus_order" "focus_order" yp f fd->fd.code=.ref c:=λf fd' hm ad'=>by
  rw[t1]at hm;cases hm;let#[oc,od,kV,eq,pm,an,cf,ct,iF,rfl,lk,my]:=ad'.ex;have:=KX _ _ lk;rw[t2]at this;cases this;cases t3;show t4
 apply PySem.W.enter_call (zV (ala (R:=[]) (cl:=classAt gy.heap) (d0:=r.ret.enc (Ls r.args r.f a)) KX G.T.g G.T.b G.T.builtins G.T.nolimit hg AU (Ss _ _) (af2 aer) hr (hK _) t5 t6 G.T.bmain
  (λbase b1 b2 b3=>hF base c Pt b1 b2 #[b3,IQ]) hb (by rw[OK];show hlen) (λH xs hP hS=>sA (K w.params) H xs a Pt hP Qs e2 hS)) λr' s' hq=>?_)
 let#[u,YI,rfl,h1,h2,h3,h4]:=hq;show#[.inl #[u,_,YI,rfl,λ_=>rfl,h1,(OpenSpec.post_iff ae5 Qs _ _).mpr rfl,λz=>ma (show false=true from z)],h2,h3,h4]
end Pm
namespace Pm
open PySem PySem.Spec PyProof.Rows L2 TL
open PySem.W (nsIn findIn codeIn keepIn isFn makesIn mg_of)
section
variable{w:aW}{K:aP}{mg:Str->Option af}{h:aL}{x m qual:Str}{st:dt}{f C a:aa}{oc kV eq pm cf ct:af}{od an:Option aa}{iF:Array (Option af)}
def anD(KX:K.In h)(G:h.Ns mainGlobals mg)(e:nsIn K mainGlobals x=some (some (.ref f)))(l:K.lookup f=some #[oc,od,.func (kd x x (lJ st) (jG st) (eR st) .none kV eq pm an cf ct),iF])(c:codeIn K cf x=true)(k:keepIn K (.ref f)=true):a_ K mg x st:=
 #[f,_,Il l c k,mg_of KX G e]
def an5(e:findIn K (.ref C) m=some (some (.ref f)))(l:K.lookup f=some #[oc,od,.func (kd m qual (lJ st) (jG st) (eR st) .none kV eq pm an cf ct),iF])(c:codeIn K cf qual=true)(k:keepIn K (.ref f)=true)(n:isFn K (.ref f)=true):MethAt K C m qual st:=
 #[f,_,Il l c k,e,n,k]
def anA(KX:K.In h)(G:h.Ns mainGlobals mg)(e0:nsIn K mainGlobals x=some (some (.ref C)))(e:findIn K (.ref C) "__init__"=some (some (.ref f)))(l:K.lookup f=some #[oc,od,.func (kd "__init__" qual (lJ st) (jG st) (eR st) .none kV eq pm an cf ct),iF])(c:codeIn K cf qual=true)(k:keepIn K (.ref f)=true)(n:isFn K (.ref f)=true)(mk:makesIn K C=true)(kc:keepIn K (.ref C)=true):ClsAt K mg x C qual st:=#[f,_,Il l c k,#[mk,e,n,kc],mg_of KX G e0]
def anz{fd:lf}{ps:List Str}(hb:∀us:List af,us.length=ps.length->qi fd #[us,[]]=pure (ps.zip us))(s:ax)(us:List af)(hl:us.length=ps.length):B4 s fd #[us,[]] (ps.zip us):=by
 have h:=Binds.all (K:=[]) hb s us (λ_ _ e=>by cases e) (by rw[eJ];show hl);rw[eJ]at h;show h
abbrev anv(_:K.In h)(w:aW)(mg:Str->Option af)(A:aO):Prop:=Txt w K mg A
def an7(e:findIn K (.ref C) x=some none):cM K C x:=e
def anV(KX:K.In h)(G:h.Ns mainGlobals mg)(e:nsIn K mainGlobals x=some (some (.ref C)))(i:Gz K C [.type "ValueError",.type "Exception",.type "BaseException",.type "object"] "ValueError.__new__"=true):tW K mg x C:=
 #[mg_of KX G e,_,_,_,_,PySem.F.excBase_ValueError,i]
def anB(KX:K.In h)(G:h.Ns mainGlobals mg){v:V}{u:af}(e:nsIn K mainGlobals x=some (some u))(r:RelV v u):dP mg x v:=#[u,mg_of KX G e,r]
def aoD{aF:Array af}{n:Nat}{sl:Array (Option af)}{xs:List V}(l:K.lookup a=some #[.type "tuple",none,.seq aF n,sl])(z:aF.size<=sizeLine)(v:bi xs aF.toList)(H:Hp):bL K H a xs:=.inr #[_,aF,n,l,rfl,rfl,z,v]
def aoC{aF:Array af}{n:Nat}{sl:Array (Option af)}(l:K.lookup a=some #[.type "tuple",none,.seq aF n,sl]):∃o,K.lookup a=some o/\o.cls=.type "tuple"/\o.dict=none:=#[_,l,rfl,rfl]
inductive yM (w:aW):List rm->List (bB×V)->Prop
 |nil:yM w [] []
 |cons {e:rm} {k:bB} {v:V} {es:List rm} {kvs:List (bB×V)} (h1:uP k e.key=true) (h2:e.hash=QT w k) (h3:RelV v e.val) (t:yM w es kvs):yM w (e::es) ((k,v)::kvs)
def abf{es:List rm}{kvs:List (bB×V)}(t:yM w es kvs):∃vs:List (bB×af),(∀P:aZ,(∀e∈es,∃k,(fU P w).is k e.key=true/\e.hash=(fU P w).hash k)/\Pairs (fU P w) es vs)/\vs.map (·.1)=kvs.map (·.1)/\KV kvs vs:=by
 induction t with
 |nil=>show#[[],λP=>#[(λ_ h=>nomatch h),.nil],rfl,.nil]
 |@cons e k v es kvs h1 h2 h3 t ih=>
  let#[vs,a1,a2,a3]:=ih;apply#[(k,e.val)::vs,λP=>#[λe' he=>?_,.cons h1 rfl (a1 P).2],by rw[ba,ba,a2],.cons #[rfl,h3] a3];rcases iM.mp he with rfl|he
  show#[k,h1,h2];show(a1 P).1 e' he
def an1{es:Array rm}{ep:Nat}{kvs:List (bB×V)}(hs:(a==lY)=false)(l:K.lookup a=some { cls:=.type "dict",data:=.dict es ep })(t:yM w es.toList kvs)(nd:(kvs.map (·.1)).Nodup):KD w K a kvs:=by
 let#[vs,a1,a2,a3]:=abf t;show#[hs,es,ep,vs,l,λP=>#[λe he=>(a1 P).1 e (Array.mem_toList_iff.mpr he),(a1 P).2],by rw[a2];show nd,a3]
end
end Pm
section
open PySem PySem.W PyProof.Rows Pm L2
abbrev Pm.adr : aO := ⟨24, 37, 50, 63, 76, 97, 168, 217, 243, 370, 540, 746, 80, 150, 151, 348, 353, 349, 350, 351, 352, 430, 431, 432, 433, 434, 435, 559, 560, 561, 562, 640, 641, 642, 643, 644, 728, 729, 985, 834, 839, 846, 858, 872, 879, 900, 907, 914, 921, 928, 935, 942, 949, 956, 970, 977, 984⟩
local macro_rules | `(tactic| walk_at "T") => `(tactic| first | exact anD (by assumption) (by assumption) (by k_is) (by k_is) (by k_is) (by k_is) | exact an7 (by k_is) | exact mg_of (by assumption) (by assumption) (by k_is) | exact aoC (by k_is) | exact mg_none_of (by assumption) (by assumption) (by k_is) | exact an5 (by k_is) (by k_is) (by k_is) (by k_is) (by k_is) | exact anA (by assumption) (by assumption) (by k_is) (by k_is) (by k_is) (by k_is) (by k_is) (by k_is) (by k_is) (by k_is) | exact anV (by assumption) (by assumption) (by k_is) (by kernel_rfl) | exact eU.mk (by k_is) (by k_is) (by k_is) (by k_is) | (refine anB (by assumption) (by assumption) (by k_is) ?_; first | exact rfl | exact ⟨_, rfl⟩) | (refine aoD (by k_is) (by decide) ?_; repeat (first | exact .nil | refine .cons (by first | exact rfl | exact ⟨_, rfl⟩) ?_)) | (refine an1 rfl (by k_is) ?_ (by decide); repeat (first | exact .nil | refine .cons rfl rfl rfl ?_)) | kernel_rfl)
set_option maxHeartbeats 0
theorem PySem.Challenge.cw_pagemoves_s01_answers_holds : PySem.Challenge.rw_pagemoves_s01_answers.Holds := by
  refine Pm.hd ?_
  k_fillS
  refine aoE (r := PySem.Challenge.rw_pagemoves_s01_answers) (k := 31) (ps := ["calls"]) (sp := aj0) Pf.wellS rfl rfl ⟨rfl, by decide, by decide⟩ (by decide +kernel) (fun p => by kernel_rfl) (fun w h Y => kIn_of Y) ?F ?S
  case F =>
    intro w mg fa h Y KX G hmg
    have T : anv KX w mg adr := by constructor <;> walk_at "T"
    have T : Txt w _ mg adr := T
    obtain ⟨f, fd, F, hm⟩ := T.anW
    have e : mg "answers" = some (.ref fa) := hmg
    rw [hm] at e
    cases e
    refine ⟨fd, ?_, fun base c Pt KB GB TT => aou T TT F⟩
    obtain ⟨oc, od, kV, doc, pm, an, cdv, ct, osl, rfl, lk, hcd⟩ := F.ex
    exact anz (fun us hl => match us, hl with | [_], _ => rfl)
  case S =>
    intro K H xs a Pt hP hwi hask hx
    cases hx with
    | cons h1 h2 =>
      cases h2
      cases h1 with
      | lst hs ha =>
        have e := afB a.1 _ ha
        subst e
        obtain ⟨cs, c1, c2, c3⟩ := anx (l := a.1) hask
        refine ⟨_, a.1, cs, rfl, (Pm.am.new hP).seq hs, .inl aH, c1, c3, fun D H' t hD => ⟨?_, t⟩⟩
        have e2 : Ls PySem.Challenge.rw_pagemoves_s01_answers.args PySem.Challenge.rw_pagemoves_s01_answers.f a = jC (jS m0 cs) := c2
        rw [e2]
        exact .lst (az.of hD) (aaN _)
end

