import PyProof.Rows.All
import Wide.All
import OpenK.AllK
import Wide.FinOn
import PyProof.EqAt
import PyProof.EqKinds
import PyProof.TupleCall
import KE.BitLaws
import Open.SpecLaws
import KE.OsHead
import KE.OsGo
import PyProof.Rows.SetFrom
import PyProof.Rows.SortWalk
import PyProof.ListRange
import PySem.Challenge.RW_wordhold_s01_answers
set_option Elab.async false
set_option linter.all false
set_option maxRecDepth 100000
set_option maxHeartbeats 4000000
theorem Wh.said:PySem.Challenge.rw_wordhold_s01_answers.wellSaid=true:=by decide +kernel
structure PySem.W.Fast:Prop where(tw11752625940828118290 tw7868996677938540930 tw11607671034913752319 tw12895637892788160717 tw9246001422074431190 tw8453256189300083110 tw12433943528894788485 tw2643338054847430232 tw248967183756915741 tw10105956679556644498 tw15039615644720109638 tw5280593294187395804 tw18135041982049918578 tw2932866930468890598 tw14646837068166815791 tw6178461182664680927 tw14639059467622833244 tw13070093473582695119 tw13536584947370433345 tw9432253349529723724 tw12221061608541280990 tw1240742664325786063 tw13161638676843082454 tw11377107134833312484 tw17786139629398536002 tw888731902394639377 tw9199925069763371503 tw11670446537936770374 tw4815671439580200764 tw9368235781281189700 tw14886820003665581870 tw10563619505735728610 tw13584617945212130358 tw8869796936796673711 tw13211399295313997189 tw341670916132620474 tw14915921633624780 tw3497099625222762360 tw3043600960998987677 tw10060814140711947483 tw1664811617532879601 tw14753089488752604816 tw17474153882982687480 tw1692295803702452830 tw11977821966031275142 tw10120165864945260133 tw9176190107010104686 tw12525247944962385694 tw8360401189640241982 tw3993032197424662724 tw6918058090406520825 tw12090961168326821357 tw1811563639188367799 tw17716645676489777818 tw14003958067755901654 tw7763028248611320236 tw15175850902184210147 tw3183731252504639250 tw13939288832110166496 tw2065984312727682438 tw13569963734638097867 tw13794063321644022216 tw7370277911452370422 tw8977324565439010360 tw8564144299489360561 tw11496884190521385277 tw8048470444331134204 tw6199621327382955759 tw5235898889385089173 tw14634441572605137891 tw3880549029813544380 tw12305357468486629448 tw5637291770040599888 tw17124064976688913021 tw4904400172132999647 tw3209282850455026534 tw11953008715502996297 tw654355691922169907 tw8705097480862302245 tw10003212002162968627 tw9753203248025241140 tw3390950644466832097 tw13731660279083661274 tw351553101388519101 tw17795926311274251613 tw3018743140884330846 tw4036687526312749359 tw7831363394491830463 tw1866903614865754878 tw9415019641375219194 tw193702774428817231 tw8615049675265014144 tw15124404105215375455 tw4947113429010092968 tw3341769819008114708 tw782332206125783785 tw11280163905176046428 tw13789068943884014868 tw12684043541502385429 tw17720844260938962379 tw5496237426213673155 tw12231658813830887233 tw16652618022336099637 tw7988442144787071290 tw10784204554088302455 tw13559148739577602424 tw6425029805690543851 tw5680089498010004737 tw17941226562186920110 tw14795835343916876373 tw576152561549135300 tw3071441212703304525 tw6524436471572477504 tw17399027673563794822 tw11924907566929863779 tw1066771669773243219 tw14464565089124142284 tw18147947860194641971 tw1274211401621393672 tw3619809121924527697 tw9384841906753154125 tw8782546464281830368 tw11735936336156888898 tw17017673553878589142 tw6973793611758092366 tw1693202174892041151 tw17885703734460094762 tw17150668780534097381 tw5678963259228384139 tw1294466804236105058 tw11207603425611963357 tw4470618785128128717 tw5155865123282066388 tw12158537084941304235 tw8369469724409158650 tw4412192235188686528 tw17059243905517407913 tw11738215692961370937 tw11874235929386075621 tw912101492256825281 tw16932355476236927030 tw9000611282967510265 tw14785538084237089149 tw3521054271979714785 tw6393759653687009315 tw11630133805528436009 tw1560019574629667515 tw3671031706802726795 tw11492022282614267390 tw5036134945315940200 tw1393464972697859668 tw16187031194018307420 tw17480225033911476185 tw506534922314422728 tw13626462546919472887 tw18211595013299375840 tw4384004208017908323 tw5254466338321009793 tw9814682639615828850 tw9011994772232070639 tw9849042107435893683 tw8196475396846002356 tw11338565014336078883 tw7899299095568231358 tw18309810023175804425 tw12935411080589343403 tw18159260565743992966 tw11656151620141777286 tw11573931056565446019 tw13051587985187066826 tw1033120923239849425 tw18171727760288828377 tw11627628774508500396 tw5632033912584348105 tw4633953244663762870 tw6143195569235396217 tw4182765519707151405 tw666823114154152510 tw17654402510296753571 tw7394457997355510528 tw16821045258894771618 tw9615504551809551467 tw18251721274608171191 tw7638717041079364685 tw8482974558991206659 tw16715017539306392000 tw13739936070462877976 tw5497135277891590355 tw306376091319321421 tw1180745034701820484 tw8199265440834144774 tw7545938649241604409 tw11978771252818316176 tw3544364902414780372 tw3541979787287761218 tw18445461629659577540 tw2458733389377782960 tw9094337937080330765 tw15576176251093026563 tw14874259207448132760 tw1992834516114280043 tw14978043866281899530 tw13704157836095546165 tw4986793567488744328 tw13039937122493369784 tw4056992517084305832 tw8884840830152238075 tw9640206544457515019 tw12552522089706911306 tw10205843912673755694 tw5745509927212132227 tw17198419312585423875 tw18158143542677381936 tw11196395049128404169 tw14317531628778781990 tw12571041506143062716 tw2240504516353964982 tw18206219178313393475 tw3844545977372804582 tw1465048101728935199 tw16058630628538952887 tw3808631177267519051 tw8066904578660607793 tw9280965007409937883 tw1988805352950380006 tw1232893863773122838 tw8144443106659339172 tw14810652142686027304 tw17527430552751076160 tw9857566518134346447 tw12322121859134411548 tw16482453422972139829 tw1080785992251272984 tw17134161019572124513 tw12480424322728970836 tw10504929599605729246 tw3196904529055584155 tw15705454249558184002 tw671535331208996171 tw13901820010207402367 tw10957160196113264365 tw16003148970716151337 tw12062677830611181075 tw5491757296207330797 tw12659041648044020948 tw848668379724078474 tw364443080415143880 tw9330150125946546573 tw16622783096053657093 tw4007942685368805120 tw15919673758535514671 tw9108720791958948768 tw7832228726123894455 tw11534213185178218520 tw5546673430621377922 tw9429929893093290180 tw12846401779287469684 tw10557329692673915840 tw2054143053052224168 tw15417769092352665454 tw773969836290572135 tw15298174458589511516 tw10662435711782928384 tw5123887648006008306 tw6385523616249780111 tw1459959893322703142 tw1276256878650692801 tw16468930845733280531 tw16961537910783093197 tw15714846739836572245 tw4013787207544906955 tw6221038375091249966 tw1478444507993128093 tw18338894228135353062 tw1093923238918879225 tw648584893226500604 tw11703363548762300703 tw12364946938241602093 tw10469915516468056504 tw5684374935546278246 tw10021784208217722514 tw4776794133927418407 tw16033600507669828450 tw18260195736496936642 tw14482531899009821222 tw5653820026450837252 tw10586718842312503434 tw15252353491386634445 tw2946692884136555380 tw7983923462752660290 tw13727795370777315568 tw12807281121811965674 tw2793874483803528621 tw12362028240772084087 tw13434975539520848530 tw13727966950970236913 tw3935989220401329757 tw14525161817519990868 tw7470790479446850252 tw9194288084118096281 tw5812505086374614193 tw11192450846283406249 tw16368388169463868573 tw8192662397005352360 tw7034453546172569238 tw6262053708862380103 tw12962890193118823835 tw17793126655469208132 tw11467326738448924242 tw13944602130973935499 tw5560395049097167117 tw4383458017590908664 tw18307918836304123708 tw7095882884088126857 tw6520589241703794260 tw13307434385955385862 tw5042328231138244998 tw6261512294484671943 tw18185235395636573931 tw6087487898126688549 tw7612526852971437829 tw12316190672758626363 tw17673113365952509558 tw7855439740804561098 tw3587899906233689865 tw12041003056695219350 tw6366275255589129112 tw9738138604888633096 tw7938960445430502987 tw1332357331697128311 tw8564054208904896772 tw12940024186076025482 tw11335612206400433575 tw16534007087377474539 tw7082275366946383788 tw13169089252326478731 tw241653553283666396 tw5975200709951318632 tw13507130758436743306 tw3105751966522409238 tw5768493850582923512 tw1240610789694188233 tw7061010052063472449 tw13727894993780596355 tw2475850345784816948 tw6949803953883670413 tw2174801904954898703 tw4360262166860430367 tw13935906978612165671 tw3860000198536469608 tw10184195591092936820 tw15605085342199703506 tw11128910722994060418 tw16345984868793164925 tw4030759010963847635 tw4341648992383780547 tw16528428306224588832 tw12481662921229177093 tw680936113655066019 tw16630147506315282508 tw7923326461315742601 tw3449685708544606913 tw207718131536365939 tw6733896794842437576 tw11108599441787797170 tw10425796050227896613 tw12579688751661996036 tw12125172506613063308 tw341886500429119165 tw17895569999906663739 tw15633604557493431458 tw14228288351860230496 tw384244556065126722 tw14748485468413245786 tw16675859104881904593 tw2301740686055103804 tw18243369913990783826 tw7479231191975132115 tw10359171377612546656 tw1234113911377007563 tw17468215975380974501 tw2311218460077565834 tw16220552553505441673 tw6402460338535338664 tw15215587881028058175 tw61339472741693702 tw7145912034294316552 tw7681172427903001786 tw2095182483893821919 tw6317844169274510498 tw8198880292308107647 tw12392741965708173340 tw5935578082629117386 tw6596585133909518072 tw6134189632387881980 tw15973319549919402195 tw13371995955891591842 tw1438392819737684786 tw2035506458633641084 tw18173280029729826363 tw4947175449588212449 tw4157767780924989143 tw5228610895039413082 tw16720091132375573356 tw283635982847163487 tw6020656435565491731 tw979648303764711910 tw7008231554141851281 tw16493866274092428498 tw1214727752067825789 tw180643425095472778 tw1589483185070362680 tw86283970873698438 tw17916237913065153175 tw9934744615724982707 tw10633558752121433967 tw2411719698791669166 tw13403168672080056834 tw4682546865613566745 tw6256577339625548833 tw7964175770613634329 tw11114594771515888762 tw183397831217692658 tw2230685056065507382 tw18414762492465767869 tw9840207260639300043 tw12734464093363215824 tw13889761068109725425 tw15236898045847888271 tw9391994070750683102:True)
local macro_rules|`(tactic|o_law)=>`(tactic|skip)
local macro_rules|`(tactic|k_head)=>`(tactic|k_headS)
local macro_rules|`(tactic|w_witness2)=>`(tactic|exact ⟨[.list [.int 0]],by decide +kernel,by decide +kernel⟩)
set_option maxHeartbeats 0 in
open_top Wh.hd for PySem.Challenge.rw_wordhold_s01_answers
local macro_rules|`(tactic|omega)=>`(tactic|lia)
local macro_rules|`(tactic|cases $h:ident)=>`(tactic|first|subst $h|(have z:=Option.some.inj $h;clear $h;subst z)|(exfalso;exact Option.noConfusion $h)|(exfalso;exact Bool.noConfusion $h))
set_option compiler.extract_closed false
theorem zyy{a b G:Prop}(k:a→b→G)(h:a∧b):G:=k h.1 h.2
theorem zxx{α:Sort u}{p:α→Prop}{G:Prop}(k:∀ x,p x→G)(h:∃ x,p x):G:=h.elim k
local macro_rules|`(tactic|obtain ⟨$[$ps],*⟩ := $e)=>if ps.size<3 then Lean.Macro.throwUnsupported else do let t←ps.pop.foldlM (fun t p=>`(tactic|$t<;>((first|refine zxx ?_|refine zyy ?_);rintro ($p:rcasesPatLo)))) (←`(tactic|(refine Classical.byContradiction fun n=>?_;refine (?_:_→False) $e;try clear $e)));`(tactic|$t<;>rintro ($(ps.back!):rcasesPatLo)<;>(refine n ?_;clear n))
noncomputable section
def bp:= @List.mem_cons
def bx:= @Nat.le_refl
def bD:= @List.length_map
def bO:= @Option.map_eq_some_iff
def cU:= @List.getElem?_map
def cZ:= @List.mem_cons_of_mem
def d8:= @Nat.zero_le
def dq:= @Option.bind_eq_some_iff
def dD:= @PySem.Heap.lt_size
def dR:= @List.length_append
def c6:= @List.getElem?_eq_getElem
def cv:= @List.mem_append
def cz:= @List.map_cons
def cy:= @List.getD_eq_getElem?_getD
def cF:= @List.mem_cons_self
def cR:= @List.length_cons
def dm:= @List.getElem?_eq_some_iff
def dz:= @Option.bind_some
def dF:= @PySem.Heap.get?_push_of_some
def dE:= @List.size_toArray
def dW:= @List.append_assoc
def eI:= @Nat.ne_of_lt
def eG:= @PySem.Heap.get?_push_size
def eY:= @Nat.le_trans
def fj:= @Bool.false_ne_true
def fh:= @List.nodup_cons
def fg:= @List.mem_map
def fD:= @List.length_singleton
def i6:= @Bool.and_eq_true
def iD:= @Nat.lt_of_lt_of_le
def iN:= @List.mem_of_getElem?
def je:= @List.all_eq_true
def jd:= @List.mem_singleton
def jw:= @List.getElem?_eq_none
def jv:= @List.length_eq_zero_iff
def jZ:= @Array.getElem?_eq_getElem
def kO:= @Nat.lt_succ_self
def kM:= @List.getElem?_append_left
def kL:= @Option.map_some
def lS:= @List.getElem?_of_mem
def nP:= @Nat.lt_irrefl
def nO:= @List.mem_append_right
def nM:= @PySem.Heap.size_push
def nL:= @List.length_take
def nJ:= @List.getElem?_append_right
def nI:= @Bool.false_eq_true
def oG:= @Array.length_toList
def oF:= @Int.toNat_natCast
def qw:= @List.append_nil
def qv:= @List.not_mem_nil
def rn:= @List.mem_filter
def rm:= @PySem.Heap.get?_update_self
def rl:= @List.length_set
def rk:= @List.nil_append
def rj:= @List.take_length
def ux:= @List.mem_append_left
def uw:= @List.length_drop
def uv:= @List.foldl_cons
def uu:= @List.map_nil
def ur:= @List.cons_append
def uq:= @Array.getElem?_eq_some_iff
def uo:= @List.length_reverse
def wJ:= @Nat.le_of_lt
def wI:= @List.filterMap_cons
def wH:= @Option.isSome_iff_exists
def wG:= @List.any_cons
def wF:= @List.replicate_succ
def wD:= @List.lookup_cons
def wC:= @List.length_filter_le
def wB:= @List.length_range
def wA:= @List.getElem?_range
def wz:= @List.getElem?_zip_eq_some
def wy:= @Nat.add_assoc
def wx:= @List.getLast?_eq_getElem?
def wt:= @Nat.not_lt
def wq:= @List.flatMap_cons
def zy:= @List.mem_range
def zx:= @List.getElem?_set_ne
def zw:= @Array.getElem?_toList
def zu:= @List.find?_cons
def zt:= @List.length_nil
def zr:= @List.filter_cons
def zq:= @List.length_pos_iff
def zo:= @Nat.lt_of_not_le
def zm:= @Nat.not_le
def zk:= @List.drop_eq_getElem_cons
def zj:= @List.map_map
def zi:= @List.map_congr_left
def zh:= @List.foldl_append
def zf:= @List.getD_cons_zero
def ze:= @Option.getD_some
def zd:= @Nat.sub_self
def zb:= @List.dropLast_concat_getLast
def BY:= @Bool.eq_iff_iff
def BX:= @Nat.le_succ
def BW:= @List.flatten_cons
def BV:= @Nat.le_add_right
def BU:= @List.getElem_mem
def BS:= @List.filter_append
def BR:= @List.getD_cons_succ
def wO:= @List.mem_or_eq_of_mem_set
def wN:= @List.map_append
def wM:= @Nat.and_comm
def wL:= @List.getLast?_eq_some_getLast
def wK:= @List.reverse_cons
def Ay:= @List.getElem?_set_self
def Ax:= @List.getElem?_replicate
def Aw:= @PySem.Heap.get?_update_other
def Av:= @List.all_cons
def Au:= @Nat.le_of_succ_le
def As:= @Nat.lt_succ_of_lt
def Ar:= @List.getElem?_cons_zero
def Aq:= @List.getElem?_cons_succ
def Ap:= @Nat.lt_of_le_of_lt
def Ao:= @Option.bind_none
def An:= @Bool.not_eq_false
def Am:= @List.drop_drop
def Al:= @List.mem_replicate
def Ak:= @List.ext_getElem?
def Aj:= @List.nodup_append
def Ai:= @List.any_eq_true
def Ah:= @List.length_zip
def Ag:= @List.take_of_length_le
def Af:= @Nat.and_assoc
def DH:= @Int.natCast_nonneg
def DG:= @List.length_dropLast
def DF:= @List.range_succ_eq_map
def DE:= @Array.getElem?_eq_none
def DD:= @Bool.and_eq_true_iff
def DC:= @List.getElem?_drop
def DB:= @List.getLastD_eq_getLast?
def DA:= @List.pairwise_cons
def Dz:= @Bool.and_eq_false_iff
def ag:= @if_neg
def ai:= @if_pos
def aB:= @PySem.wpAny_bind
def aM:= @PySem.wpAny_pure
def aI:= @absurd
abbrev bg:=PySem.W.Frag
open Kp212 renaming program->aK,step->aX,House->aU,cell->bb,say->cj,MASK->bQ,keeps->bK,ofProgram->bB,PEOPLE->cg,Ans->eZ,Version->c7,full->fq,CELLS->dS,maySee->d9,empty->eB,maskOf->dJ,Cell->iP,setterOf->dM,PROGRAMS->eJ,within->gu,allKeep->gv,TOKENS->iw,note->oK,theirs->mK,goodWord->jQ,PARAMS->mL,Program->oN
open Kp212Neutral renaming nats->gq,few->kP,step->lT,bounds->k8,pairs->lU,wide->oH,wordOf->mI,begins->qI,asked1->qJ,chunksBy->mJ,natural->uy,callOf->wQ
open PySem.W renaming fnOf->fm,findIn->eT,emptyDict->dt,instObj->fE,keepIn->gr,nsIn->lV,codeIn->ka,mg_of->lW,plainGet->jP,hasDictIn->jl,methodObj->lC,lookIn->qK,plainOver->lB,takerIn->oI,makesIn->oJ,callWith_K0->nQ,cellsFrom_some->kb,length_le_weightAllW->i7
open PyKp212 renaming shape->eA,whole->tF,answers_asked->iO,answers->oM
namespace L2
open PySem PySem.Spec PyProof.Rows
abbrev Key:=Sum Int Str
def sF:Key->Value->Bool
 |.inl k,v=>Value.isInt k v
 |.inr x,v=>Value.isStrOf x v
def Ow(w:World):Key->Int
 |.inl k=>hashInt k
 |.inr x=>hashStr w x
def dB:∀{k:Key}{v:Value},sF k v=true->(∃i t,k=Sum.inl i/\v=Value.int i t)\/(∃x t,k=Sum.inr x/\v=Value.str x t)
 |.inl i,v,h=>by
  obtain⟨t,e⟩:=Value.isInt_shape (k:=i) (v:=v) h;exact .inl ⟨i,t,rfl,e⟩
 |.inr x,v,h=>by
  obtain⟨t,e⟩:=Value.isStrOf_shape (x:=x) (v:=v) h;exact .inr ⟨x,t,rfl,e⟩
def Hh(i:Int)(t:Tok):sF (.inl i) (.int i t)=true:=by simp[sF,Value.isInt]
def Hg(x:Str)(t:Tok):sF (.inr x) (.str x t)=true:=by simp[sF,Value.isStrOf]
def Ml(a b:Int):decide ((Sum.inl a:Key)=Sum.inl b)=(a==b):=by
 by_cases e:a=b
 ·subst e;simp
 ·have h:¬(Sum.inl a:Key)=Sum.inl b:=λq=>e (Sum.inl.inj q)
  rw[decide_eq_false h];exact(beq_eq_false_iff_ne.mpr e).symm
def Mh(a b:Str):decide ((Sum.inr a:Key)=Sum.inr b)=decide (a=b):=by
 by_cases e:a=b
 ·subst e;simp
 ·have h:¬(Sum.inr a:Key)=Sum.inr b:=λq=>e (Sum.inr.inj q)
  rw[decide_eq_false h,decide_eq_false e]
def Mj(a:Int)(b:Str):decide ((Sum.inl a:Key)=Sum.inr b)=false:=decide_eq_false (λq=>nomatch q)
def Mi(a:Str)(b:Int):decide ((Sum.inr a:Key)=Sum.inl b)=false:=decide_eq_false (λq=>nomatch q)
def eu(prog:Program)(w:World):PySem.KeyKind prog w Key where
 is:=sF
 hash:=Ow w
 inj:=λv a b ha hb=>by
  rcases dB ha with⟨i,t,rfl,rfl⟩ | ⟨x,t,rfl,rfl⟩
  ·rcases dB hb with⟨j,u,rfl,e⟩ | ⟨y,u,rfl,e⟩
   ·injection e with e1 _;rw[e1]
   ·exact nomatch e
  ·rcases dB hb with⟨j,u,rfl,e⟩ | ⟨y,u,rfl,e⟩
   ·exact nomatch e
   ·injection e with e1 _;rw[e1]
 byValue:=λk v h=>by
  rcases dB h with⟨i,t,rfl,rfl⟩ | ⟨x,t,rfl,rfl⟩ <;>rfl
 pyHash:=λhv h=>by
  rcases dB hv with⟨i,t,rfl,rfl⟩ | ⟨x,t,rfl,rfl⟩
  ·exact wpAny_pyHash_int h
  ·exact wpAny_pyHash_str h
 eqBool:=λhu hv h=>by
  rcases dB hu with⟨i,t,rfl,rfl⟩ | ⟨x,t,rfl,rfl⟩
  ·rcases dB hv with⟨j,u,rfl,rfl⟩ | ⟨y,u,rfl,rfl⟩
   ·rw[Ml] at h;exact wpAny_eqBool_int h
   ·rw[Mj] at h;exact SeqAt.EqAt.int_str i t y u _ _ _ _ h
  ·rcases dB hv with⟨j,u,rfl,rfl⟩ | ⟨y,u,rfl,rfl⟩
   ·rw[Mi] at h;exact SeqAt.EqAt.str_int x t j u _ _ _ _ h
   ·rw[Mh] at h;exact wpAny_eqBool_str h
 «strs» :=λk x t v h=>by
  rcases dB h with⟨i,u,rfl,e⟩ | ⟨y,u,rfl,e⟩
  ·exact nomatch e
  ·injection e with e1 _
   subst e1;cases v<;>rfl
def CK(prog:Program)(w:World)(i:Int)(t:Tok):(eu prog w).is (.inl i) (.int i t)=true:=Hh i t
def CJ(prog:Program)(w:World)(x:Str)(t:Tok):(eu prog w).is (.inr x) (.str x t)=true:=Hg x t
inductive V where
 |ez |bl (b:Bool) |int (i:Int) |str (x:Str) |Dx (b:Array UInt8) |O8 (b:UInt64) |ref (a:Addr) |ty (n:String)
 deriving DecidableEq
def RelV:V->Value->Prop
 |.ez,u=>u=Value.none
 |.bl b,u=>u=Value.bool b
 |.int i,u=> ∃t,u=Value.int i t
 |.str x,u=> ∃t,u=Value.str x t
 |.Dx b,u=> ∃t,u=Value.bytes b t
 |.O8 b,u=> ∃t,u=Value.float b t
 |.ref a,u=>u=Value.ref a
 |.ty n,u=>u=Value.type n
abbrev Vals:List V->List Value->Prop:=Paired RelV
theorem Vals.length(r:Vals xs us):xs.length=us.length:=Paired.length r
theorem Vals.get:∀{xs:List V}{us:List Value}{i:Nat}{x:V},Vals xs us->xs[i]? =some x->∃u,us[i]? =some u/\RelV x u
 |_,_,_,_,.nil,e=>by simp at e
 |_,_,0,_,.cons r _,e=>by simp at e;subst e;exact⟨_,rfl,r⟩
 |_,_,i+1,x,.cons _ t,e=>by
  obtain⟨u,h1,h2⟩:=Vals.get (i:=i) (x:=x) t (by simpa using e);exact⟨u,by simpa using h1,h2⟩
theorem Vals.set(r:RelV x u):∀{xs:List V}{us:List Value}(i:Nat),Vals xs us->Vals (xs.set i x) (us.set i u)
 |_,_,_,.nil=>.nil
 |_,_,0,.cons _ t=>.cons r t
 |_,_,i+1,.cons q t=>.cons q (Vals.set r i t)
theorem Vals.append:∀{xs ys:List V}{us ws:List Value},Vals xs us->Vals ys ws->Vals (xs++ys) (us++ws)
 |_,_,_,_,.nil,s=>s
 |_,_,_,_,.cons r t,s=>.cons r (Vals.append t s)
theorem Vals.take:∀{xs:List V}{us:List Value}(n:Nat),Vals xs us->Vals (xs.take n) (us.take n)
 |_,_,0,_=>.nil
 |_,_,_+1,.nil=>.nil
 |_,_,n+1,.cons r t=>.cons r (Vals.take n t)
theorem Vals.drop:∀{xs:List V}{us:List Value}(n:Nat),Vals xs us->Vals (xs.drop n) (us.drop n)
 |_,_,0,r=>r
 |_,_,_+1,.nil=>.nil
 |_,_,n+1,.cons _ t=>Vals.drop n t
def qu:Option V->Option Value->Prop
 |some v,some u=>RelV v u
 |none,none=>True
 |_,_=>False
def KV{κ:Type}:List (κ×V)->List (κ×Value)->Prop:=Paired λ(p:κ×V)(q:κ×Value)=>p.1=q.1/\RelV p.2 q.2
noncomputable def kV:Key->V
 |.inl i=>.int i
 |.inr x=>.str x
inductive HO where
 |lst (xs:List V)
 |tup (xs:List V)
 |dK (kvs:List (Key×V)) |dT (kvs:List (List Key×V))
 |set (S:Int->Bool) (n:Nat)
 |ins (C dx:Addr) (fs:List (Str×V))
 |own (x:Addr)
 |xd (fs:List (Str×V))
 |met (f x:Addr)
 |LQ (lo hi:Int)
 |kZ (o:Obj) (u:HO)
 |LJ (ps:Array Value)
 |ext (φ:Heap->Prop)
abbrev Hp:=Addr->Option HO
def upd(H:Hp)(a:Addr)(o:HO):Hp:=λb=>if b=a then some o else H b
def ah:upd H a o a=some o:=by unfold upd;rw[ai rfl]
def aw(h:b≠a):upd H a o b=H b:=by unfold upd;rw[ag h]
def bS:upd (upd H a o) a u=upd H a u:=by
 funext b;unfold upd;split<;>rfl
def gc{H:Hp}{a b:Addr}{o u:HO}(h:H a=some o)(h':H b=some u)(d:o≠u):a≠b:=by
 intro e;subst e;rw[h] at h';exact d (Option.some.inj h')
def aJ{H:Hp}{a b:Addr}{o:HO}(h:H a=some o)(h':H b=none):a≠b:=by
 intro e;subst e;rw[h] at h';cases h'
section
variable (P:Program) (w:World)
def eP(H:Hp)(h:Heap)(a:Addr):HO->Prop
 |.lst xs=>xs.length<=sizeLine/\∃(its:List Value)(n:Nat),Vals xs its/\h.get? a=some { cls:=.type "list",data:=.seq its.toArray n }
 |.tup xs=>xs.length<=sizeLine/\∃its:List Value,Vals xs its/\IsTup h a its.toArray
 |.dK kvs=>kvs.length<=sizeLine/\(a==sysModules)=false/\∃vs,KV kvs vs/\h.DictOf (eu P w) a vs
 |.dT kvs=>kvs.length<=sizeLine/\(a==sysModules)=false/\∃xs:List (List Key×Addr×Value),
   Paired (λ(p:List Key×V)(q:List Key×Addr×Value)=>p.1=q.1/\H q.2.1=some (.tup (p.1.map kV))/\RelV p.2 q.2.2) kvs xs/\
   ∃o es ep,h.get? a=some o/\o.ExactDict/\o.data=.dict es ep/\es.toList=xs.map (entryOfKey (tupleKind (eu P w)))/\(xs.map (·.1)).Nodup
 |.set S n=>h.SetOf (intKind P w) a S n
 |.ins C dx fs=>H dx=some (.own a)/\fs.length<=1000/\dx≠a/\h.get? a=some (fE C dx)/\
   ∃mA,h.Ns1 dx mA/\(∀f,qu (fs.lookup f) (mA f))/\PySem.Within mA (fs.map (·.1))
 |.own _=> ∃o,h.get? a=some o
 |.xd fs=> ∃mA,h.Ns1 a mA/\∀f,qu (fs.lookup f) (mA f)
 |.LQ lo hi=> ∃t u v,h.get? a=some { cls:=.type "range",data:=.fields #[.int lo t,.int hi u,.int 1 v] }
 |.kZ o u=>h.get? a=some o/\eP H h a u
 |.LJ ps=>h.get? a=some { cls:=.none,data:=.fields ps }
 |.met f x=>h.get? a=some (lC (.ref f) (.ref x))
 |.ext φ=>φ h/\(∃o,h.get? a=some o)/\∀h1 h2:Heap,φ h1->(∀o,h1.get? a=some o->h2.get? a=some o)->φ h2
def i5(H:Hp)(h:Heap):Prop:= ∀a o,H a=some o->eP P w H h a o
end
section
variable {P:Program} {w:World} {H H':Hp} {h h':Heap} {a:Addr} {o:HO}
theorem eP.lt(x:eP P w H h a o):a<h.objs.size:=by
 cases o with
 |lst xs=>obtain⟨_,_,_,_,e⟩:=x;exact dD e
 |tup xs=>obtain⟨_,_,_,p⟩:=x;exact p.lt
 |dK kvs=>obtain⟨_,_,_,_,o,_,_,e,_⟩:=x;exact dD e
 |dT kvs=>obtain⟨_,_,_,_,o,_,_,e,_⟩:=x;exact dD e
 |set S n=>obtain⟨o,_,_,_,e,_⟩:=x;exact dD e
 |ins C dx fs=>obtain⟨_,_,_,e,_⟩:=x;exact dD e
 |own y=>obtain⟨_,e⟩:=x;exact dD e
 |xd fs=>obtain⟨_,⟨_,_,_,e,_⟩,_⟩:=x;exact dD e
 |LQ lo hi=>obtain⟨_,_,_,e⟩:=x;exact dD e
 |kZ ob u=>obtain⟨e,_⟩:=x;exact dD e
 |LJ ps=>exact dD (show h.get? a=some _ from x)
 |met f y=>exact dD (show h.get? a=some _ from x)
 |ext φ=>obtain⟨_,⟨_,e⟩,_⟩:=x;exact dD e
theorem Paired.Me:∀{l₁:List α}{l₂:List β},Paired F l₁ l₂->(∀a b,F a b->G a b)->Paired G l₁ l₂
 |_,_,.nil,_=>.nil
 |_,_,.cons r t,f=>.cons (f _ _ r) (Paired.Me t f)
def eP.rA(x:eP P w H h a o)(k:∀b u,(b=a\/H b=some (.own a))->h.get? b=some u->h'.get? b=some u)
  (ho:∀b,H b=some (.own a)->H' b=some (.own a)) (ht:∀b xs,H b=some (.tup xs)->H' b=some (.tup xs)):eP P w H' h' a o:=by
 induction o with
 |lst xs=>obtain⟨z,its,n,r,e⟩:=x;exact⟨z,its,n,r,k _ _ (.inl rfl) e⟩
 |tup xs=>obtain⟨z,its,r,ob,e,c⟩:=x;exact⟨z,its,r,ob,k _ _ (.inl rfl) e,c⟩
 |dK kvs=>obtain⟨z,y,vs,r,ob,es,ep,e,c⟩:=x;exact⟨z,y,vs,r,ob,es,ep,k _ _ (.inl rfl) e,c⟩
 |dT kvs=>
  obtain⟨z,y,xs,r,ob,es,ep,e,c⟩:=x;exact⟨z,y,xs,Paired.Me r λp q z=>⟨z.1,ht _ _ z.2.1,z.2.2⟩,ob,es,ep,k _ _ (.inl rfl) e,c⟩
 |set S n=>obtain⟨ob,es,ep,t,e,c⟩:=x;exact⟨ob,es,ep,t,k _ _ (.inl rfl) e,c⟩
 |ins C dx fs=>
  obtain⟨d,z,ne,e,mA,⟨od,es,ep,e2,c⟩,r⟩:=x;exact⟨ho _ d,z,ne,k _ _ (.inl rfl) e,mA,⟨od,es,ep,k _ _ (.inr d) e2,c⟩,r⟩
 |own y=>obtain⟨ob,e⟩:=x;exact⟨ob,k _ _ (.inl rfl) e⟩
 |xd fs=>obtain⟨mA,⟨od,es,ep,e,c⟩,r⟩:=x;exact⟨mA,⟨od,es,ep,k _ _ (.inl rfl) e,c⟩,r⟩
 |LQ lo hi=>obtain⟨t,u,v,e⟩:=x;exact⟨t,u,v,k _ _ (.inl rfl) e⟩
 |kZ ob u ih=>obtain⟨e,q⟩:=x;exact⟨k _ _ (.inl rfl) e,ih q⟩
 |LJ ps=>
  have e:h.get? a=some { cls:=.none,data:=.fields ps }:=x;show h'.get? a=some { cls:=.none,data:=.fields ps };exact k a _ (.inl rfl) e
 |met f y=>
  have e:h.get? a=some (lC (.ref f) (.ref y)):=x;show h'.get? a=some (lC (.ref f) (.ref y));exact k a _ (.inl rfl) e
 |ext φ=>obtain⟨p,⟨o,e⟩,st⟩:=x;exact⟨st _ _ p λo q=>k _ _ (.inl rfl) q,⟨o,k _ _ (.inl rfl) e⟩,st⟩
theorem i5.lt(x:i5 P w H h)(e:H a=some o):a<h.objs.size:=(x a o e).lt
def i5.fresh(x:i5 P w H h)(e:h.objs.size<=a):H a=none:=by
 cases q:H a with
 |none=>rfl
 |some u=>exact aI (iD (x.lt q) e) (nP _)
def i5.kept(x:i5 P w H h)(k:∀b u,h.get? b=some u->h'.get? b=some u):i5 P w H h':=λa o e=>
 (x a o e).rA (λb u _ q=>k b u q) (λ_ q=>q) λ_ _ q=>q
def i5.laid(x:i5 P w H h)(k:∀b u,h.get? b=some u->h'.get? b=some u)(hp:h.objs.size<=a)(new:eP P w (upd H a o) h' a o):i5 P w (upd H a o) h':=λb u e=>by
 have hn:=x.fresh hp;by_cases hb:b=a
 ·subst hb;rw[ah] at e;cases e;exact new
 ·rw[aw hb] at e;exact(x b u e).rA (λc v _ q=>k c v q) (λc q=>by rw[aw (aJ q hn)];exact q) λc xs q=>by rw[aw (aJ q hn)];exact q
end
def Rd(H:Hp)(a:Addr)(u:HO):Prop:=H a=some u\/∃o,H a=some (.kZ o u)
def Rd.ok(r:Rd H a u)(x:i5 P w H h):eP P w H h a u:=by
 rcases r with r | ⟨o,r⟩
 ·exact x a u r
 ·obtain⟨_,q⟩:=x a _ r;exact q
def LG:Option HO->Prop
 |some (.lst _)=>True
 |some (.dK _)=>True
 |some (.dT _)=>True
 |some (.set _ _)=>True
 |some (.ins _ _ _)=>True
 |some (.ext _)=>True
 |_=>False
section
variable {P:Program} {w:World} {H:Hp} {h h':Heap} {x e:Addr} {o':HO}
def i5.write(ok:i5 P w H h)(mu:LG (H x))(he:e=x\/H e=some (.own x))(k:∀b u,b≠e->h.get? b=some u->h'.get? b=some u)(heo:∃u,h'.get? e=some u)
  (new:eP P w (upd H x o') h' x o'):i5 P w (upd H x o') h':=λb u q=>by
 have nown:∀c y,H c=some (.own y)->c≠x:=λc y r z=>by subst z;rw[r] at mu;exact mu
 have ntup:∀c xs,H c=some (.tup xs)->c≠x:=λc xs r z=>by subst z;rw[r] at mu;exact mu
 by_cases hb:b=x
 ·subst hb;rw[ah] at q;cases q;exact new
 ·rw[aw hb] at q;by_cases hbe:b=e
  ·have q':H b=some (.own x):=by
    rcases he with z |z
    ·exact aI (hbe.trans z) hb
    ·rw[hbe];exact z
   rw[q] at q';cases q';obtain⟨v,hv⟩:=heo;exact⟨v,by rw[hbe];exact hv⟩
  ·refine(ok b u q).rA (λc v hc r=>k c v ?_ r) (λc r=>by rw[aw (nown c b r)];exact r) λc xs r=>by rw[aw (ntup c xs r)];exact r
   rcases hc with rfl |hc
   ·exact hbe
   ·rintro rfl
    rcases he with z |z
    ·exact nown c b hc z
    ·rw[hc] at z;cases z;exact hb rfl
end
structure Un(fs ex:List Addr)(H H':Hp)(h h':Heap):Prop where
 keep:∀b o,h.get? b=some o->H b=none->b∉fs->b∉ex->h'.get? b=some o
 slot:∀b o,h.get? b=some o->H b=none->b∈fs->b∉ex->∃sl,h'.get? b=some { o with slots:=sl }
 free:∀b o,h.get? b=some o->H b=none->b∉ex->H' b=none
 there:∀b o,h.get? b=some o->b∉ex->∃o',h'.get? b=some o'
 AA:∀b xs,H b=some (.tup xs)->H' b=some (.tup xs)
 yf:∀b o u,H b=some (.kZ o u)->H' b=some (.kZ o u)
 AD:∀b ps,H b=some (.LJ ps)->∃more,H' b=some (.LJ (ps++more))
section
variable {fs fs' ex ex':List Addr} {H H1 H2:Hp} {h h1 h2 h':Heap} {a x e:Addr} {o:HO}
def Un.any(u:Un fs ex H H1 h h1)(q:h.get? b=some ob)(n:H b=none)(hx:b∉ex):∃sl,h1.get? b=some { ob with slots:=sl }:=by
 by_cases hb:b∈fs
 ·exact u.slot b ob q n hb hx
 ·exact⟨ob.slots,u.keep b ob q n hb hx⟩
def Un.kept(k:∀b u,h.get? b=some u->h'.get? b=some u):Un fs ex H H h h':=
 ⟨λb ob q _ _ _=>k b ob q,λb ob q _ _ _=>⟨ob.slots,k b ob q⟩,λ_ _ _ n _=>n,λb ob q _=>⟨ob,k b ob q⟩,λ_ _ q=>q,λ_ _ _ q=>q,λ_ ps q=>⟨#[],by rw[q];simp⟩⟩
def Un.refl:Un fs ex H H h h:=Un.kept λ_ _ q=>q
def Un.laid(k:∀b u,h.get? b=some u->h'.get? b=some u)(hp:h.objs.size<=a)(hn:H a=none):Un fs ex H (upd H a o) h h' where
 keep:=λb u q _ _ _=>k b u q
 slot:=λb u q _ _ _=>⟨u.slots,k b u q⟩
 free:=λb u q n _=>by rw[aw (eI (iD (dD q) hp))];exact n
 there:=λb u q _=>⟨u,k b u q⟩
 AA:=λb xs q=>by rw[aw (aJ q hn)];exact q
 yf:=λb u xs q=>by rw[aw (aJ q hn)];exact q
 AD:=λb ps q=>⟨#[],by rw[aw (aJ q hn),q];simp⟩
def Un.write(mu:LG (H x))(he:e=x\/H e=some (.own x))(k:∀b u,b≠e->h.get? b=some u->h'.get? b=some u)(heo:∃u,h'.get? e=some u):Un fs ex H (upd H x o) h h':=by
 have hx:∀b,H b=none->b≠x:=λb n z=>by subst z;rw[n] at mu;exact mu
 have hb:∀b,H b=none->b≠e:=λb n z=>by
  subst z
  rcases he with r |r
  ·exact hx b n r
  ·rw[n] at r;cases r
 have hm:∀b u,H b=some u->¬LG (some u)->b≠x:=λb u q nm z=>by subst z;rw[q] at mu;exact nm mu
 refine⟨λb u q n _ _=>k b u (hb b n) q,λb u q n _ _=>⟨u.slots,k b u (hb b n) q⟩,λb u q n _=>by rw[aw (hx b n)];exact n,λb u q _=>?_,
  λb xs q=>by rw[aw (hm b _ q λz=>z)];exact q,λb u xs q=>by rw[aw (hm b _ q λz=>z)];exact q,λb ps q=>⟨#[],by rw[aw (hm b _ q λz=>z),q];simp⟩⟩
 by_cases hbe:b=e
 ·subst hbe;exact heo
 ·exact⟨u,k b u hbe q⟩
end
def NY(h:Heap)(H:Hp):List Addr:=(List.range h.objs.size).filter λa=>(H a).isSome
def Bl(h:Heap)(H:Hp):Heap:=PySem.W.hideAll h (NY h H)
def Ho(h:Heap)(H:Hp):(Bl h H).objs.size=h.objs.size:=PySem.W.hideAll_size _ _
def Jr(e:h.get? b=some o)(n:H b=none):(Bl h H).get? b=some o:=
 PySem.W.hideAll_get _ e λhm=>by
  have q:(H b).isSome=true:=(rn.mp hm).2;rw[n] at q;simp at q
def KH(e:(Bl h H).get? b=some o):h.get? b=some o/\H b=none:=by
 have e':h.get? b=some o:=PySem.W.of_hideAll (NY h H) e;refine⟨e', ?_⟩;cases q:H b with
 |none=>rfl
 |some x=>
  have hm:b∈NY h H:=rn.mpr ⟨zy.mpr (dD e'),by simp[q]⟩;have z:(Bl h H).get? b=none:=PySem.W.hideAll_none (NY h H) hm;rw[z] at e;cases e
structure Mod(K:bg)(mg:Str->Option Value)(base:Heap):Prop where
 O6:K.In base
 glob:base.Ns mainGlobals mg
 blt:∃mb,base.Ns builtinsNs mb/\∀x:Str,x≠ "__name__" ->mb x=bootBuiltins x
 nolimit:base.NoLimit
structure Cx where
 prog:Program
 w:World
 K:bg
 mg:Str->Option Value
 base:Heap
 A:Around
 N:List Str
 zN:Shared
 MM:Hp
 env:Env
 outer:List Env
 stack:List Env
 ex:List Addr
 fn:Str->Bool
 calm:Bool
 pn:List (Addr×Obj)
 xe:Value->Shared->Prop
def JC(l:List Env):List Addr:=l.filterMap (·.frame)
abbrev Cx.fs(X:Cx):List Addr:=JC X.outer
def MU(sc:Scope)(x:Str):Prop:=sc.names.lookup x=some .local\/sc.names.lookup x=some .cell\/sc.names.lookup x=some .free
def Loc(sc:Scope)(x:Str):Prop:=sc.names.lookup x=some .local\/sc.names.lookup x=some .cell
def Look(env:Env)(h:Heap)(m:Str->Option Value)(x:Str)(u:Value):Prop:=
 (env.kindOf x=some .local/\m x=some u)\/((env.kindOf x=some .cell\/env.kindOf x=some .free)/\∃c,env.cells.lookup x=some c/\h.IsCell c (some u))
structure Cx.Ok(X:Cx):Prop where
 mod:Mod X.K X.mg X.base
 kind:X.env.scope.kind=.function
 glob:X.env.globals=mainGlobals
 blt:X.env.builtins=builtinsNs
 above:X.zN.heap.objs.size<=X.env.locals
 inj:∀x y c,X.env.cells.lookup x=some c->X.env.cells.lookup y=some c->x=y
 has:∀x,(X.env.kindOf x=some .cell\/X.env.kindOf x=some .free)->∃c,X.env.cells.lookup x=some c
 NJ:∀x c,X.fn x=true->X.env.cells.lookup x=some c->X.zN.heap.objs.size<=c
 hd:X.calm=true->X.A.handled=none
 frames:X.A.frames=some X.stack
 O2:X.stack=X.outer\/(X.stack=X.env :: X.outer/\X.env.frame=some X.env.locals)
 O9:∀b∈X.ex,b≠X.env.locals/\∀x c,X.env.cells.lookup x=some c->c≠b
 bs:∀b o,X.base.get? b=some o->X.zN.heap.get? b=some o/\X.MM b=none
 Lb:X.base.objs.size<=X.zN.heap.objs.size
 J5:∀b o,X.base.get? b=some o->b∉X.ex
 JF:∀b∈X.ex,b∉X.fs
 vQ:X.zN.heap.FunFrames X.base X.outer
 My:∀b∈X.fs,X.MM b=none
structure Inv(X:Cx)(pins:List (Addr×Obj))(σ:List (Option V))(H:Hp)(s:Shared):Prop where
 ok:X.Ok
 os:s.os=X.zN.os
 bare:AllBare s.gens
 base:Un X.fs X.ex X.MM H X.zN.heap s.heap
 loc:∃m,s.heap.Ns X.env.locals m/\∀(i:Nat)(x:Str)(v:V),X.N[i]? =some x->σ[i]? =some (some v)->MU X.env.scope x->∃u,RelV v u/\Look X.env s.heap m x u
 cell:∀x c,X.env.cells.lookup x=some c->∃v,s.heap.IsCell c v
 free:H X.env.locals=none
 l4:∀x c,X.env.cells.lookup x=some c->H c=none
 pin:∀p∈X.pn++pins,s.heap.get? p.1=some p.2/\H p.1=none/\p.1≠X.env.locals/\p.1∉X.fs/\∀v,p.2.data≠ .cell v
 bP:i5 X.prog X.w H s.heap
 len:σ.length=X.N.length
section
variable {X:Cx} {pins:List (Addr×Obj)} {σ:List (Option V)} {H H':Hp} {s:Shared} {h':Heap}
def Cx.Ok.Oq(ok:X.Ok)(e:X.base.get? b=some o):b∉X.fs:=λhb=>by
 have:=(ok.vQ.mem hb).1;rw[e] at this;cases this
theorem Inv.bs(I:Inv X pins σ H s):∀b o,X.base.get? b=some o->s.heap.get? b=some o/\H b=none:=λb o e=>
 ⟨I.base.keep b o (I.ok.bs b o e).1 (I.ok.bs b o e).2 (I.ok.Oq e) (I.ok.J5 b o e),I.base.free b o (I.ok.bs b o e).1 (I.ok.bs b o e).2 (I.ok.J5 b o e)⟩
def Inv.bk(I:Inv X pins σ H s):∀b o,X.base.get? b=some o->s.heap.get? b=some o:=λb o e=>(I.bs b o e).1
theorem Inv.mod(I:Inv X pins σ H s):Mod X.K X.mg X.base:=I.ok.mod
def Inv.Hj(I:Inv X pins σ H s):X.K.In s.heap:=I.ok.mod.O6.keeps I.bk
theorem Inv.lt(I:Inv X pins σ H s):X.env.locals<s.heap.objs.size:=let ⟨_,hn,_⟩:=I.loc;hn.lt
def Inv.sz(I:Inv X pins σ H s):X.zN.heap.objs.size<=s.heap.objs.size:=eY I.ok.above (wJ I.lt)
def Inv.Oo(I:Inv X pins σ H s)(h:s.heap.objs.size<=a):a∉X.fs:=λhb=>by
 obtain⟨_,o,ho,_⟩:=I.ok.vQ.mem hb;exact aI (iD (dD ho) (eY I.sz h)) (nP _)
def Inv.MG(I:Inv X pins σ H s):∀x c,X.env.cells.lookup x=some c->c≠X.env.locals:=λx c e z=>by
 obtain⟨v,o,ho,hd⟩:=I.cell x c e;obtain⟨m,⟨o',es,ep,ho',hd',_⟩,_⟩:=I.loc;rw[z,ho'] at ho;cases ho;rw[hd'] at hd;cases hd
theorem Inv.vQ(I:Inv X pins σ H s):s.heap.FunFrames X.base X.outer:=by
 have all:∀(l:List Env),(∀b∈JC l,b∈X.fs)->X.zN.heap.FunFrames X.base l->s.heap.FunFrames X.base l:=by
  intro l
  induction l with
  |nil=>intro _ _;trivial
  |cons env r ih=>
   intro hs hl;obtain⟨hk,⟨L,o,hf,hn,ho,hd⟩,hr⟩:=hl;have hL:L∈X.fs:=hs L (by unfold JC;rw[wI,hf];exact cF);obtain⟨sl,e⟩:=I.base.slot L o ho (I.ok.My L hL) hL λz=>I.ok.JF L z hL
   exact⟨hk,⟨L,_,hf,hn,e,hd⟩,ih (λb hb=>hs b (by unfold JC;rw[wI,hf];exact cZ _ hb)) hr⟩
 exact all X.outer (λ_ hb=>hb) I.ok.vQ
theorem Inv.stack(I:Inv X pins σ H s):s.heap.FunFrames X.base X.stack:=by
 rcases I.ok.O2 with e | ⟨e,hf⟩
 ·rw[e];exact I.vQ
 ·rw[e];obtain⟨m,hn,_⟩:=I.loc;refine .cons (by rw[I.ok.kind];decide) hf hn ?_ I.vQ;exact Heap.get?_none_of_le (eY I.ok.Lb I.ok.above)
def Inv.DS(I:Inv X pins σ H s):∀b∈JC X.stack,b∈X.env.locals :: X.fs:=λb hb=>by
 rcases I.ok.O2 with e | ⟨e,hf⟩
 ·rw[e] at hb;exact cZ _ hb
 ·rw[e] at hb;unfold JC at hb;rw[wI,hf] at hb;exact hb
def Inv.Fg(I:Inv X pins σ H s):∀b∈JC X.stack,H b=none:=λb hb=>by
 rcases bp.mp (I.DS b hb) with e |hb
 ·rw[e];exact I.free
 ·obtain⟨_,o,ho,_⟩:=I.ok.vQ.mem hb;exact I.base.free b o ho (I.ok.My b hb) λz=>I.ok.JF b z hb
def Inv.step{g':Array GenState}{t':Nat}{d':Drawn}{ch:List Addr}(I:Inv X pins σ H s)
  (hch:∀b∈ch,(b∈X.ex\/X.zN.heap.objs.size<=b)/\b≠X.env.locals/\(∀x c,X.env.cells.lookup x=some c->c≠b)/\∀p∈X.pn++pins,p.1≠b)
  (keep:∀b o,b≠X.env.locals->b∉X.fs->b∉ch->s.heap.get? b=some o->H b=none->h'.get? b=some o)
  (slot:∀b o,b≠X.env.locals->b∈X.fs->b∉ch->s.heap.get? b=some o->H b=none->∃sl,h'.get? b=some { o with slots:=sl }) (free:∀b o,b∉ch->s.heap.get? b=some o->H b=none->H' b=none)
  (there:∀b o,b∉ch->s.heap.get? b=some o->∃o',h'.get? b=some o')
  (AA:∀b xs,H b=some (.tup xs)->H' b=some (.tup xs)) (yf:∀b o u,H b=some (.kZ o u)->H' b=some (.kZ o u)) (AD:∀b ps,H b=some (.LJ ps)->∃more,H' b=some (.LJ (ps++more)))
  (ns:∀m,s.heap.Ns X.env.locals m->h'.Ns X.env.locals m) (bP:i5 X.prog X.w H' h') (hg:AllBare g'):
  Inv X pins σ H' { s with heap:=h',gens:=g',drawn:=d',toks:=t' }:=by
 have neL:∀b o,X.zN.heap.get? b=some o->b≠X.env.locals:=λb o e=>eI (iD (dD e) I.ok.above)
 have neC:∀b o,X.zN.heap.get? b=some o->b∉X.ex->b∉ch:=λb o e hx hb=>by
  rcases(hch b hb).1 with z |z
  ·exact hx z
  ·exact aI (iD (dD e) z) (nP _)
 have cellK:∀x c,X.env.cells.lookup x=some c->∀v,s.heap.IsCell c v->h'.IsCell c v:=λx c e v ⟨o,ho,hd⟩ =>by
  have nch:c∉ch:=λz=>(hch c z).2.2.1 x c e rfl
  by_cases hc:c∈X.fs
  ·obtain⟨sl,q⟩:=slot c o (I.MG x c e) hc nch ho (I.l4 x c e);exact⟨_,q,hd⟩
  ·exact⟨o,keep c o (I.MG x c e) hc nch ho (I.l4 x c e),hd⟩
 refine⟨I.ok,I.os,hg,⟨λb o e n hb hx=>?_,λb o e n hb hx=>?_,λb o e n hx=>?_,λb o e hx=>?_,λb xs e=>AA b xs (I.base.AA b xs e),λb o xs e=>yf b o xs (I.base.yf b o xs e),λb ps e=>?_⟩, ?_,λx c e=>?_, ?_,λx c e=>?_,λp hp=>?_,bP,I.len⟩
 ·exact keep b o (neL b o e) hb (neC b o e hx) (I.base.keep b o e n hb hx) (I.base.free b o e n hx)
 ·obtain⟨sl,e1⟩:=I.base.slot b o e n hb hx;obtain⟨sl',e2⟩:=slot b _ (neL b o e) hb (neC b o e hx) e1 (I.base.free b o e n hx);exact⟨sl',e2⟩
 ·obtain⟨o',e1⟩:=I.base.there b o e hx;exact free b o' (neC b o e hx) e1 (I.base.free b o e n hx)
 ·obtain⟨o',e1⟩:=I.base.there b o e hx;exact there b o' (neC b o e hx) e1
 ·obtain⟨m1,e1⟩:=I.base.AD b ps e;obtain⟨m2,e2⟩:=AD b _ e1;exact⟨m1++m2,by rw[e2,Array.append_assoc]⟩
 ·obtain⟨m,hn,hl⟩:=I.loc;refine⟨m,ns m hn,λi x v e1 e2 e3=>?_⟩;obtain⟨u,r,l⟩:=hl i x v e1 e2 e3;refine⟨u,r, ?_⟩
  rcases l with l | ⟨k,c,e,z⟩
  ·exact .inl l
  ·exact .inr ⟨k,c,e,cellK x c e _ z⟩
 ·obtain⟨v,z⟩:=I.cell x c e;exact⟨v,cellK x c e v z⟩
 ·obtain⟨m,⟨o,_,_,ho,_⟩,_⟩:=I.loc;exact free _ o (λz=>(hch _ z).2.1 rfl) ho I.free
 ·obtain⟨v,o,ho,hd⟩:=I.cell x c e;exact free c o (λz=>(hch c z).2.2.1 x c e rfl) ho (I.l4 x c e)
 ·obtain⟨e,n,ne,nf,d⟩:=I.pin p hp;have nch:p.1∉ch:=λz=>(hch p.1 z).2.2.2 p hp rfl
  exact⟨keep p.1 p.2 ne nf nch e n,free p.1 p.2 nch e n,ne,nf,d⟩
def Inv.un(I:Inv X pins σ H s)(u:Un X.fs [] H H' s.heap h')(bP:i5 X.prog X.w H' h'):Inv X pins σ H' { s with heap:=h',toks:=t' }:=by
 obtain⟨m,⟨o,es,ep,ho,r⟩,_⟩:=id I.loc;obtain⟨sl,hL⟩:=u.any ho I.free (by simp);exact I.step (g':=s.gens) (d':=s.drawn) (ch:=[]) (λ_ z=>nomatch z) (λb o _ hb _ e n=>u.keep b o e n hb (by simp)) (λb o _ hb _ e n=>u.slot b o e n hb (by simp)) (λb o _ e n=>u.free b o e n (by simp)) (λb o _ e=>u.there b o e (by simp)) u.AA u.yf u.AD (λm' hm=>by
  obtain⟨o',es',ep',ho',r'⟩:=hm;rw[ho] at ho';cases ho';exact⟨_,es',ep',hL,r'⟩) bP I.bare
def Inv.call(I:Inv X pins σ H s)(u:Un (JC X.stack) ch H H' s.heap h')(bP:i5 X.prog X.w H' h')(hg:AllBare g')
  (hch:∀b∈ch,(b∈X.ex\/X.zN.heap.objs.size<=b)/\b≠X.env.locals/\(∀x c,X.env.cells.lookup x=some c->c≠b)/\∀p∈X.pn++pins,p.1≠b):
  Inv X pins σ H' { s with heap:=h',gens:=g',drawn:=d',toks:=t' }:=by
 obtain⟨m,⟨o,es,ep,ho,r⟩,_⟩:=id I.loc;obtain⟨sl,hL⟩:=u.any ho I.free λz=>(hch _ z).2.1 rfl
 exact I.step (ch:=ch) hch (λb o hL hb hc e n=>u.keep b o e n (λz=>(bp.mp (I.DS b z)).elim hL hb) hc) (λb o _ _ hc e n=>u.any e n hc) (λb o hc e n=>u.free b o e n hc) (λb o hc e=>u.there b o e hc) u.AA u.yf u.AD (λm' hm=>by
  obtain⟨o',es',ep',ho',r'⟩:=hm;rw[ho] at ho';cases ho';exact⟨_,es',ep',hL,r'⟩) bP hg
def Inv.turned(I:Inv X pins σ H s)(k:∀b o,b≠it->s.heap.get? b=some o->h'.get? b=some o)(hn:H it=none)(hL:it≠X.env.locals)
  (h1:it∈X.ex\/X.zN.heap.objs.size<=it) (h2:∀x c,X.env.cells.lookup x=some c->c≠it) (h3:∀p∈X.pn++pins,p.1≠it):Inv X pins σ H { s with heap:=h',toks:=t' }:=by
 have nit:∀b u,H b=some u->b≠it:=λb u e z=>by rw[z,hn] at e;cases e
 refine I.step (g':=s.gens) (d':=s.drawn) (ch:=[it]) (λb hb=>?_) (λb o _ _ hc e _=>k b o (λz=>hc (by simp[z])) e) (λb o _ _ hc e _=>⟨o.slots,k b o (λz=>hc (by simp[z])) e⟩) (λ_ _ _ _ n=>n)
  (λb o hc e=>⟨o,k b o (λz=>hc (by simp[z])) e⟩) (λ_ _ e=>e) (λ_ _ _ e=>e) (λb ps e=>⟨#[],by rw[e];simp⟩) (λm hm=>?_) (λb u e=>?_) I.bare
 ·have e:b=it:=by simpa using hb
  subst e;exact⟨h1,hL,h2,h3⟩
 ·obtain⟨o,es,ep,ho,r⟩:=hm;exact⟨o,es,ep,k _ o (Ne.symm hL) ho,r⟩
 ·refine(I.bP b u e).rA (λc v hc q=>k c v ?_ q) (λ_ q=>q) λ_ _ q=>q
  rcases hc with z |z
  ·rw[z];exact nit b u e
  ·exact nit c _ z
def Inv.tok(I:Inv X pins σ H s)(t:Nat):Inv X pins σ H { s with toks:=t }:=I.un (h':=s.heap) (t':=t) Un.refl I.bP
theorem Inv.kept(I:Inv X pins σ H s)(k:∀b u,s.heap.get? b=some u->h'.get? b=some u):Inv X pins σ H { s with heap:=h',toks:=t' }:=I.un (Un.kept k) (I.bP.kept k)
theorem Inv.laid(I:Inv X pins σ H s)(k:∀b u,s.heap.get? b=some u->h'.get? b=some u)(hp:s.heap.objs.size<=a)(new:eP X.prog X.w (upd H a o) h' a o):
  Inv X pins σ (upd H a o) { s with heap:=h',toks:=t' }:=I.un (Un.laid k hp (I.bP.fresh hp)) (I.bP.laid k hp new)
theorem Inv.write(I:Inv X pins σ H s)(mu:LG (H x))(he:e=x\/H e=some (.own x))(k:∀b u,b≠e->s.heap.get? b=some u->h'.get? b=some u)(heo:∃u,h'.get? e=some u)
  (new:eP X.prog X.w (upd H x o) h' x o):Inv X pins σ (upd H x o) { s with heap:=h',toks:=t' }:=I.un (Un.write mu he k heo) (I.bP.write mu he k heo new)
def Inv.weak(I:Inv X pins σ H s)(hl:σ'.length=σ.length)(w:∀(i:Nat) v,σ'[i]? =some (some v)->σ[i]? =some (some v)):Inv X pins σ' H s:=
 ⟨I.ok,I.os,I.bare,I.base,let ⟨m,hn,hl'⟩:=I.loc;⟨m,hn,λi x v e1 e2 e3=>hl' i x v e1 (w i v e2) e3⟩,I.cell,I.free,I.l4,I.pin,I.bP,hl.trans I.len⟩
def Inv.Fv(I:Inv X pins σ H s)(h:∀p∈pins',s.heap.get? p.1=some p.2/\H p.1=none/\p.1≠X.env.locals/\p.1∉X.fs/\∀v,p.2.data≠ .cell v):Inv X pins' σ H s:=
 ⟨I.ok,I.os,I.bare,I.base,I.loc,I.cell,I.free,I.l4,λp hp=>(cv.mp hp).elim (λz=>I.pin p (ux _ z)) (h p),I.bP,I.len⟩
def xN{N:List Str}(hN:N.Nodup){i j:Nat}{x:Str}(a:N[i]? =some x)(b:N[j]? =some x):i=j:=by
 obtain⟨h1,e1⟩:=dm.mp a;obtain⟨h2,e2⟩:=dm.mp b;exact(List.getElem_inj hN).mp (e1.trans e2.symm)
def zJ(I:Inv X pins σ H s)(hN:X.N.Nodup)(hi:X.N[i]? =some x)(hx:Loc X.env.scope x)(r:RelV v u)
  (h:∀s',Inv X pins (σ.set i (some v)) H s'->(∃a,Heap.SameBut a s.heap s'.heap/\(a=X.env.locals\/X.env.cells.lookup x=some a))->Q () s') (hf:X.fn x=true\/X.env.scope.names.lookup x=some .local:=by first |exact .inl rfl |exact .inr rfl |assumption):wpAny M A (storeName X.env x u) Q E s:=by
 obtain⟨m,hn,hl⟩:=id I.loc;have hcls:(X.env.scope.kind== .class||(X.env.scope.kind== .module&&X.env.locals != X.env.globals))=false:=by rw[I.ok.kind];rfl
 have hiσ:i<σ.length:=by rw[I.len];exact(dm.mp hi).1
 have MG:=I.MG;have tracked:∀{a:Addr}{h':Heap},(∃o,s.heap.get? a=some o/\H a=none)->Heap.SameBut a s.heap h'->i5 X.prog X.w H h':=λ{a h'} ha hs b ob e=>by
  obtain⟨_,_,hfree⟩:=ha;refine(I.bP b ob e).rA (λc w' hc q=>(hs.2 c ?_).trans q) (λ_ q=>q) λ_ _ q=>q
  rintro rfl
  rcases hc with rfl |hc
  ·rw[hfree] at e;cases e
  ·rw[hfree] at hc;cases hc
 rcases hx with hk |hk
 ·refine wpAny_storeName_local hk hn (λh' hn' hs=>?_) hcls;obtain⟨oL,_,_,hoL,_⟩:=id hn;refine h _ ⟨I.ok,I.os,I.bare,⟨λb o e n hb hx=>?_,λb o e n hb hx=>?_,I.base.free,λb o e hx=>?_,I.base.AA,I.base.yf,I.base.AD⟩,⟨_,hn',λj y v' e1 e2 e3=>?_⟩,λy c e=>?_,I.free,I.l4,λp hp=>?_,tracked ⟨oL,hoL,I.free⟩ hs,by simpa using I.len⟩ ⟨_,hs,.inl rfl⟩
  ·exact(hs.2 b (eI (iD (dD e) I.ok.above))).trans (I.base.keep b o e n hb hx)
  ·obtain⟨sl,e1⟩:=I.base.slot b o e n hb hx;exact⟨sl,(hs.2 b (eI (iD (dD e) I.ok.above))).trans e1⟩
  ·obtain⟨o',e1⟩:=I.base.there b o e hx;exact⟨o',(hs.2 b (eI (iD (dD e) I.ok.above))).trans e1⟩
  ·by_cases hj:j=i
   ·subst hj;rw[hi] at e1;cases e1;rw[Ay hiσ] at e2;cases e2;exact⟨u,r,.inl ⟨hk,by simp⟩⟩
   ·rw[zx (Ne.symm hj)] at e2;obtain⟨u',r',q⟩:=hl j y v' e1 e2 e3;refine⟨u',r', ?_⟩
    rcases q with⟨k,e⟩ | ⟨k,c,e,z⟩
    ·refine .inl ⟨k, ?_⟩;have:y≠x:=λe=>hj (xN hN e1 (e ▸ hi))
     simp[this,e]
    ·exact .inr ⟨k,c,e,z.sameBut hs (MG y c e)⟩
  ·obtain⟨w',z⟩:=I.cell y c e;exact⟨w',z.sameBut hs (MG y c e)⟩
  ·obtain⟨e,n,ne,nf,d⟩:=I.pin p hp;exact⟨(hs.2 p.1 ne).trans e,n,ne,nf,d⟩
 ·have hfn:X.fn x=true:=by
   rcases hf with z |z
   ·exact z
   ·rw[z] at hk;cases hk
  obtain⟨c,hc⟩:=I.ok.has x (.inl hk);obtain⟨w',z⟩:=I.cell x c hc;refine wpAny_storeName_cell I.ok.kind hk hc z (λh' hc' hs=>?_);obtain⟨oc,hoc,hocd⟩:=id z;refine h { s with heap:=h' } ⟨I.ok,I.os,I.bare,⟨λb o e n hb hx=>?_,λb o e n hb hx=>?_,I.base.free,λb o e hx=>?_,I.base.AA,I.base.yf,I.base.AD⟩,⟨m,hn.sameBut hs (Ne.symm (MG x c hc)),λj y v' e1 e2 e3=>?_⟩,λy c' e=>?_,I.free,I.l4,λp hp=>?_,tracked ⟨oc,hoc,I.l4 x c hc⟩ hs,by simpa using I.len⟩ ⟨c,hs,.inr hc⟩
  ·exact(hs.2 b (eI (iD (dD e) (I.ok.NJ x c hfn hc)))).trans (I.base.keep b o e n hb hx)
  ·obtain⟨sl,e1⟩:=I.base.slot b o e n hb hx;exact⟨sl,(hs.2 b (eI (iD (dD e) (I.ok.NJ x c hfn hc)))).trans e1⟩
  ·obtain⟨o',e1⟩:=I.base.there b o e hx;exact⟨o',(hs.2 b (eI (iD (dD e) (I.ok.NJ x c hfn hc)))).trans e1⟩
  ·by_cases hj:j=i
   ·subst hj;rw[hi] at e1;cases e1;rw[Ay hiσ] at e2;cases e2;exact⟨u,r,.inr ⟨.inl hk,c,hc,hc'⟩⟩
   ·rw[zx (Ne.symm hj)] at e2;obtain⟨u',r',q⟩:=hl j y v' e1 e2 e3;refine⟨u',r', ?_⟩
    rcases q with q | ⟨k,c',e,z'⟩
    ·exact .inl q
    ·refine .inr ⟨k,c',e,z'.sameBut hs ?_⟩;rintro rfl;exact hj (xN hN e1 (I.ok.inj _ _ _ e hc ▸ hi))
  ·by_cases hcc:c'=c
   ·subst hcc;exact⟨_,hc'⟩
   ·obtain⟨w2,z2⟩:=I.cell y c' e;exact⟨w2,z2.sameBut hs hcc⟩
  ·obtain⟨e,n,ne,nf,d⟩:=I.pin p hp;refine⟨(hs.2 p.1 ?_).trans e,n,ne,nf,d⟩;intro q;rw[q,hoc] at e;have q':oc=p.2:=Option.some.inj e;exact d w' (by rw[<- q'];exact hocd)
def wY(I:Inv X pins σ H s)(hN:X.N.Nodup)(hi:X.N[i]? =some x)(hx:Loc X.env.scope x)(r:RelV v u)
  (h:∀s',Inv X pins (σ.set i (some v)) H s'->Q () s') (hf:X.fn x=true\/X.env.scope.names.lookup x=some .local:=by first |exact .inl rfl |exact .inr rfl |assumption):wpAny M A (storeName X.env x u) Q E s:=
 zJ I hN hi hx r (λs' I' _=>h s' I') hf
def Inv.NI(I:Inv X pins σ H s)(ho:s'.os=s.os)(u:Un (JC X.stack) ch H H' s.heap s'.heap)(bP:i5 X.prog X.w H' s'.heap)(hg:AllBare s'.gens)
  (hch:∀b∈ch,(b∈X.ex\/X.zN.heap.objs.size<=b)/\b≠X.env.locals/\(∀x c,X.env.cells.lookup x=some c->c≠b)/\∀p∈X.pn++pins,p.1≠b):Inv X pins σ H' s':=by
 obtain⟨h',g',d',t',o'⟩:=s';have e:o'=s.os:=ho;subst e;exact I.call (g':=g') (t':=t') (d':=d') u bP hg hch
end
abbrev XK:=Value->Option Addr->Hp->Prop
abbrev St:=List (Option V)
abbrev VK:=V->Hp->Prop
abbrev TE:=St->Hp->VK->Prop
abbrev TT:=St->Hp->(Bool->Hp->Prop)->Prop
abbrev TA:=St->Hp->(List V->Hp->Prop)->Prop
structure Ends where
 nx:St->Hp->Prop
 rt:VK
 bk:St->Hp->Prop:=λ_ _=>False
 ct:St->Hp->Prop:=λ_ _=>False
abbrev TS:=Ends->St->Hp->Prop
def EP(X:Cx)(pins:List (Addr×Obj))(σ:St)(Q:VK)(u:Value)(s':Shared):Prop:= ∃v H',Inv X pins σ H' s'/\RelV v u/\Q v H'
def TP(X:Cx)(pins:List (Addr×Obj))(σ:St)(Q:Bool->Hp->Prop)(b:Bool)(s':Shared):Prop:= ∃H',Inv X pins σ H' s'/\Q b H'
def AP(X:Cx)(pins:List (Addr×Obj))(σ:St)(Q:List V->Hp->Prop)(us:List Value)(s':Shared):Prop:= ∃vs H',Inv X pins σ H' s'/\Vals vs us/\Q vs H'
def SP(X:Cx)(pins:List (Addr×Obj))(D:Ends)(f:Flow)(s':Shared):Prop:=
 match f with
 |.next=> ∃σ' H',Inv X pins σ' H' s'/\D.nx σ' H'
 |.brk=> ∃σ' H',Inv X pins σ' H' s'/\D.bk σ' H'
 |.cont=> ∃σ' H',Inv X pins σ' H' s'/\D.ct σ' H'
 |.ret u=> ∃v σ' H',Inv X pins σ' H' s'/\RelV v u/\D.rt v H'
def PE(X:Cx)(e:Expr)(t:TE):Prop:=
 ∀(pins:List (Addr×Obj))(s:Shared)(σ:St)(H:Hp)(Q:VK),Inv X pins σ H s->t σ H Q->wpAny (model X.prog X.w) X.A (eval e X.env) (EP X pins σ Q) X.xe s
def PT(X:Cx)(e:Expr)(t:TT):Prop:=
 ∀(pins:List (Addr×Obj))(s:Shared)(σ:St)(H:Hp)(Q:Bool->Hp->Prop),Inv X pins σ H s->t σ H Q->wpAny (model X.prog X.w) X.A (isTrue e X.env (eval e X.env)) (TP X pins σ Q) X.xe s
def PW(X:Cx)(e:Expr)(t:TT):Prop:=
 ∀(whole:Sem Value)(pins:List (Addr×Obj))(s:Shared)(σ:St)(H:Hp)(Q:Bool->Hp->Prop),Inv X pins σ H s->t σ H Q->wpAny (model X.prog X.w) X.A (isTrue e X.env whole) (TP X pins σ Q) X.xe s
def PW.pt(h:PW X e t):PT X e t:=h _
def PA(X:Cx)(es:List Expr)(t:TA):Prop:=
 ∀(pos:Pos)(pins:List (Addr×Obj))(s:Shared)(σ:St)(H:Hp)(Q:List V->Hp->Prop),Inv X pins σ H s->t σ H Q->wpAny (model X.prog X.w) X.A (spliced (backTo pos (starEach es X.env))) (AP X pins σ Q) X.xe s
def PS(X:Cx)(st:Stmt)(t:TS):Prop:=
 ∀(pins:List (Addr×Obj))(s:Shared)(σ:St)(H:Hp)(D:Ends),Inv X pins σ H s->t D σ H->wpAny (model X.prog X.w) X.A (exec st X.env) (SP X pins D) X.xe s
def Gh(X:Cx)(st:List Stmt)(t:TS):Prop:=
 ∀(pins:List (Addr×Obj))(s:Shared)(σ:St)(H:Hp)(D:Ends),Inv X pins σ H s->t D σ H->wpAny (model X.prog X.w) X.A (execs st X.env) (SP X pins D) X.xe s
def f6(h:wpAny M A t Q E s)(hQ:∀a s,Q a s->Q' a s):wpAny M A t Q' E s:=wpAny_mono h hQ λ_ _ x=>x
section
variable {X:Cx}
def bA(i:Nat):TE:=λσ H Q=> ∃v,σ[i]? =some (some v)/\Q v H
def tC(v:V):TE:=λ_ H Q=>Q v H
def M7(hN:X.N[i]? =some x)(hv:MU X.env.scope x)(hd:(x==("__debug__" :Str))=false:=by decide)(hcd:(x==("__classdict__" :Str))=false:=by decide):PE X (.Name x pos) (bA i):=by
 intro pins s σ H Q I h;obtain⟨v,e,h⟩:=h;obtain⟨m,hn,hl⟩:=I.loc;obtain⟨u,r,l⟩:=hl i x v hN e hv;have fin:EP X pins σ Q u s:=⟨v,H,I,r,h⟩
 rcases l with⟨hk,hm⟩ | ⟨hk,c,hc,hcell⟩
 ·exact wpAny_Name (wpAny_loadName_local I.ok.kind hk hn hm fin) hd
 ·rcases hk with hk |hk
  ·exact wpAny_Name (wpAny_loadName_cell I.ok.kind hk hc hcell fin) hd
  ·exact wpAny_Name (wpAny_loadName_free I.ok.kind hk hc hcell fin hcd) hd
def aA{i j pos}:PE X (.Constant (.int i) j pos) (tC (.int i)):=λ_ _ _ H _ I h=>wpAny_Constant_int ⟨.int i,H,I.tok _,⟨_,rfl⟩,h⟩
def uJ{b j pos}:PE X (.Constant (.bool b) j pos) (tC (.bl b)):=λ_ _ _ H _ I h=>Constant_bool ⟨.bl b,H,I,rfl,h⟩
def fV{j pos}:PE X (.Constant .none j pos) (tC .ez):=λ_ _ _ H _ I h=>Constant_none ⟨.ez,H,I,rfl,h⟩
def Gl(X:Cx)(x:Str):Prop:=X.env.kindOf x=some .globalImplicit
def sE(I:Inv X pins σ H s)(hg:Gl X x)(hm:X.mg x=some u)(h:Q u s)
  (hd:(x==("__debug__" :Str))=false:=by decide):wpAny (model X.prog X.w) X.A (eval (.Name x pos) X.env) Q E s:=
 Calls.Name_function_global I.ok.kind hg (Calls.loadGlobal_global (by rw[I.ok.glob];exact I.mod.glob.keeps I.bk) hm h) hd
def tX(I:Inv X pins σ H s)(hg:Gl X x)(hm:X.mg x=none)(hv:bootBuiltins x=some u)(h:Q u s)
  (hn:x≠ "__name__" :=by decide) (hd:(x==("__debug__" :Str))=false:=by decide):wpAny (model X.prog X.w) X.A (eval (.Name x pos) X.env) Q E s:=by
 obtain⟨mb,h1,h2⟩:=I.mod.blt;exact Calls.Name_function_global I.ok.kind hg (Calls.loadGlobal_builtin (by rw[I.ok.glob];exact I.mod.glob.keeps I.bk) hm (by rw[I.ok.blt];exact h1.keeps I.bk) ((h2 x hn).trans hv) h) hd
def B2(hg:Gl X x)(hm:X.mg x=some u)(r:RelV v u)(hd:(x==("__debug__" :Str))=false:=by decide):PE X (.Name x pos) (tC v):=
 λ_ _ _ H _ I h=>sE I hg hm ⟨v,H,I,r,h⟩ hd
variable {a b:Expr} {ta tb:TE} {pos:Pos}
def PC(X:Cx)(op:CmpOp)(a b:Expr)(t:TE):Prop:=
 ∀(pins:List (Addr×Obj))(s:Shared)(σ:St)(H:Hp)(Q:VK),Inv X pins σ H s->t σ H Q->
  wpAny (model X.prog X.w) X.A (eval a X.env) (λv s₁=>wpAny (model X.prog X.w) X.A (eval b X.env) (λu s₂=>wpAny (model X.prog X.w) X.A (compareOp op v u) (EP X pins σ Q) X.xe s₂) X.xe s₁) X.xe s
def tB(t:TE):TT:=λσ H Q=>t σ H λx H1=> ∃c,x=.bl c/\Q c H1
def lI(h:PC X op a b t)(h1:behindInMarks op b=false:=by first |exact Nl _ (by decide) (by decide) |rfl):PT X (.Compare a [op] [b] pos) (tB t):=by
 intro pins s σ H Q I hw;refine wpAny_isTrue_Compare1 (f6 (h pins s σ H _ I hw) λv s1 h1=>f6 h1 λu s2 h2=>f6 h2 λc s3 ⟨x,H1,I1,r1,q1⟩ =>?_) h1;obtain⟨d,rfl,q⟩:=q1;cases r1;exact wpAny_truthy_bool ⟨H1,I1,q⟩
def fU(h:PE X e t)(he:∀whole,isTrue e X.env whole=(do let v <- whole;standAt e.pos;holding [v] (truthy v)):=by intro _;rfl):PT X e (tB t):=by
 intro pins s σ H Q I hw;refine isTrue_plain (f6 (h pins s σ H _ I hw) λv s1 ⟨x,H1,I1,r1,q1⟩ =>?_) (he _);obtain⟨d,rfl,q⟩:=q1;cases r1;exact wpAny_truthy_bool ⟨H1,I1,q⟩
variable {tA tB':TT} {rest:List Expr}
def N0(t u:TT):TT:=λσ H Q=>t σ H λc H1=>if c=true then u σ H1 Q else Q false H1
def O1(t u:TT):TT:=λσ H Q=>t σ H λc H1=>if c=true then Q true H1 else u σ H1 Q
def LK(t:TT):TT:=λσ H Q=>t σ H λc H1=>Q (!c) H1
def AW(ha:PT X a tA):PW X (.BoolOp .And [a] pos) tA:=by
 intro wh pins s σ H Q I h;refine isTrue_and (f6 (ha pins s σ H Q I h) λc s1 e=>?_);cases c with
 |true=>exact isTrue_and_nil e
 |false=>exact e
def fT(ha:PT X a tA):PW X (.BoolOp .Or [a] pos) tA:=by
 intro wh pins s σ H Q I h;refine isTrue_or (f6 (ha pins s σ H Q I h) λc s1 e=>?_);cases c with
 |false=>exact isTrue_or_nil e
 |true=>exact e
def Ea(ha:PT X a tA)(hb:PW X (.BoolOp .And (b :: rest) pos) tB'):PW X (.BoolOp .And (a :: b :: rest) pos) (N0 tA tB'):=by
 intro wh pins s σ H Q I h;refine isTrue_and (f6 (ha pins s σ H _ I h) λc s1 ⟨H1,I1,q1⟩ =>?_);cases c with
 |true=>exact hb wh pins s1 σ H1 Q I1 q1
 |false=>exact⟨H1,I1,q1⟩
def iE(ha:PT X a tA)(hb:PW X (.BoolOp .Or (b :: rest) pos) tB'):PW X (.BoolOp .Or (a :: b :: rest) pos) (O1 tA tB'):=by
 intro wh pins s σ H Q I h;refine isTrue_or (f6 (ha pins s σ H _ I h) λc s1 ⟨H1,I1,q1⟩ =>?_);cases c with
 |true=>exact⟨H1,I1,q1⟩
 |false=>exact hb wh pins s1 σ H1 Q I1 q1
def jh(ha:PT X a tA):PT X (.UnaryOp .Not a pos) (LK tA):=by
 intro pins s σ H Q I h;exact isTrue_not (ha pins s σ H (λc H1=>Q (!c) H1) I h)
def Ln(ta tb:TE):TE:=λσ H Q=>ta σ H λx H1=> ∃c,x=.bl c/\if c=true then tb σ H1 Q else Q (.bl false) H1
def B1{op}(h:PE X a t):PE X (.BoolOp op [a] pos) t:=λpins s σ H Q I hw=>BoolOp_one (h pins s σ H Q I hw)
def B4(ha:PE X a ta)(hb:PE X (.BoolOp .And (b :: rest) pos) tb):PE X (.BoolOp .And (a :: b :: rest) pos) (Ln ta tb):=by
 intro pins s σ H Q I h;refine BoolOp_and (f6 (ha pins s σ H _ I h) λv s1 ⟨x,H1,I1,r1,q1⟩ =>?_);obtain⟨c,rfl,q1⟩:=q1;cases r1;refine wpAny_truthy_bool ?_;cases c with
 |true=>exact hb pins s1 σ H1 Q I1 q1
 |false=>exact⟨.bl false,H1,I1,rfl,q1⟩
def OM(t:TT)(ta tb:TE):TE:=λσ H Q=>t σ H λc H1=>if c=true then ta σ H1 Q else tb σ H1 Q
def xu(hc:PT X c tA)(ha:PE X a ta)(hb:PE X b tb):PE X (.IfExp c a b pos) (OM tA ta tb):=by
 intro pins s σ H Q I h;refine wpAny_IfExp (f6 (hc pins s σ H _ I h) λd s1 ⟨H1,I1,q1⟩ =>?_);cases d with
 |true=>exact ha pins s1 σ H1 Q I1 q1
 |false=>exact hb pins s1 σ H1 Q I1 q1
end
def cG(K:bg)(H:Hp)(a:Addr)(xs:List V):Prop:=
 Rd H a (.lst xs)\/
  ∃(o:Obj)(its:Array Value)(n:Nat),K.lookup a=some o/\o.cls=.type "list" /\o.dict=none/\o.data=.seq its n/\its.size<=sizeLine/\Vals xs its.toList
def uh(K:bg)(H:Hp)(a:Addr)(xs:List V):Prop:=
 Rd H a (.tup xs)\/
  ∃(o:Obj)(its:Array Value)(n:Nat),K.lookup a=some o/\o.cls=.type "tuple" /\o.data=.seq its n/\its.size<=sizeLine/\Vals xs its.toList
noncomputable def OE:Value->Option V
 |.none=>some .ez
 |.bool b=>some (.bl b)
 |.int i _=>some (.int i)
 |.str x _=>some (.str x)
 |.bytes b _=>some (.Dx b)
 |.float b _=>some (.O8 b)
 |.ref a=>some (.ref a)
 |.type n=>some (.ty n)
 |_=>none
def RelV.abs(r:RelV x u):OE u=some x:=by
 cases x with
 |ez=>cases r;rfl
 |bl _=>cases r;rfl
 |int _=>obtain⟨t,rfl⟩:=r;rfl
 |str _=>obtain⟨t,rfl⟩:=r;rfl
 |Dx _=>obtain⟨t,rfl⟩:=r;rfl
 |O8 _=>obtain⟨t,rfl⟩:=r;rfl
 |ref _=>cases r;rfl
 |ty _=>cases r;rfl
theorem RelV.inj(r:RelV x u)(q:RelV y u):x=y:=Option.some.inj (r.abs.symm.trans q.abs)
theorem Vals.inj:∀{xs ys:List V}{us:List Value},Vals xs us->Vals ys us->xs=ys
 |_,_,_,.nil,.nil=>rfl
 |_,_,_,.cons r t,.cons r' t'=>by rw[r.inj r',Vals.inj t t']
section
variable {X:Cx} {pins:List (Addr×Obj)} {σ:St} {H:Hp} {s:Shared} {a:Addr} {xs ys:List V}
def cG.of{K:bg}(h:H a=some (.lst xs)):cG K H a xs:=.inl (.inl h)
def uh.of{K:bg}(h:H a=some (.tup xs)):uh K H a xs:=.inl (.inl h)
def Inv.list(I:Inv X pins σ H s)(h:cG X.K H a xs):∃its:List Value,Vals xs its/\PlainL s.heap a its.toArray/\xs.length<=sizeLine:=by
 rcases h with h | ⟨o,its,n,hk,hc,hd,hs,hz,r⟩
 ·obtain⟨z,its,n,r,e⟩:=h.ok I.bP;exact⟨its,r,⟨_,n,e,rfl,rfl,rfl⟩,z⟩
 ·refine⟨its.toList,r,⟨o,n,I.Hj a o hk,hc,hd,by simpa using hs⟩, ?_⟩;have e:=r.length;simp only[oG] at e;omega
def Inv.tuple(I:Inv X pins σ H s)(h:uh X.K H a xs):∃its:List Value,Vals xs its/\IsTup s.heap a its.toArray/\xs.length<=sizeLine:=by
 rcases h with h | ⟨o,its,n,hk,hc,hs,hz,r⟩
 ·obtain⟨z,its,r,p⟩:=h.ok I.bP;exact⟨its,r,p,z⟩
 ·refine⟨its.toList,r,⟨o,I.Hj a o hk,hc,n,by simpa using hs⟩, ?_⟩;have e:=r.length;simp only[oG] at e;omega
def Inv.sC(I:Inv X pins σ H s)(h:cG X.K H a xs)(h':cG X.K H a ys):xs=ys:=by
 obtain⟨its,r,⟨o,n,e,_,_,d⟩,_⟩:=I.list h;obtain⟨its',r',⟨o',n',e',_,_,d'⟩,_⟩:=I.list h';rw[e] at e';cases e';rw[d] at d';injection d' with d1 _
 have:its=its':=by simpa using congrArg Array.toList d1
 subst this;exact r.inj r'
end
abbrev Cx.yH(X:Cx)(E:Value->Shared->Prop):Cx:= { X with xe:=E }
abbrev Cx.Nk(X:Cx):Cx:=X.yH λ_ _=>False
theorem Cx.Ok.yH{X:Cx}(ok:X.Ok)(E:Value->Shared->Prop):(X.yH E).Ok:=
 ⟨ok.mod,ok.kind,ok.glob,ok.blt,ok.above,ok.inj,ok.has,ok.NJ,ok.hd,ok.frames,ok.O2,ok.O9,ok.bs,ok.Lb,ok.J5,ok.JF,ok.vQ,ok.My⟩
def Cx.Ok.oQ{X:Cx}{E:Value->Shared->Prop}(ok:(X.yH E).Ok):X.Ok:=
 ⟨ok.mod,ok.kind,ok.glob,ok.blt,ok.above,ok.inj,ok.has,ok.NJ,ok.hd,ok.frames,ok.O2,ok.O9,ok.bs,ok.Lb,ok.J5,ok.JF,ok.vQ,ok.My⟩
section
variable {X:Cx} {pins:List (Addr×Obj)} {σ:St} {H:Hp} {s:Shared} {E:Value->Shared->Prop}
theorem Inv.yH(I:Inv X pins σ H s)(E:Value->Shared->Prop):Inv (X.yH E) pins σ H s:=⟨I.ok.yH E,I.os,I.bare,I.base,I.loc,I.cell,I.free,I.l4,I.pin,I.bP,I.len⟩
theorem Inv.oQ(I:Inv (X.yH E) pins σ H s):Inv X pins σ H s:=⟨I.ok.oQ,I.os,I.bare,I.base,I.loc,I.cell,I.free,I.l4,I.pin,I.bP,I.len⟩
theorem SP.oQ(h:SP (X.yH E) pins D f s'):SP X pins D f s':=by
 cases f with
 |next=>obtain⟨σ',H',I,q⟩:=h;exact⟨σ',H',I.oQ,q⟩
 |brk=>obtain⟨σ',H',I,q⟩:=h;exact⟨σ',H',I.oQ,q⟩
 |cont=>obtain⟨σ',H',I,q⟩:=h;exact⟨σ',H',I.oQ,q⟩
 |ret u=>obtain⟨v,σ',H',I,r,q⟩:=h;exact⟨v,σ',H',I.oQ,r,q⟩
theorem Gh.Nk{st:List Stmt}{t:TS}(h:Gh X.Nk st t):Gh X st t:=λpins s σ H D I hw=>
 wpAny_mono (h pins s σ H D (I.yH _) hw) (λ_ _ q=>q.oQ) λ_ _ z=>False.elim z
end
section
variable {X:Cx} {st:Stmt} {rest:List Stmt} {t u:TS} {e:Expr} {te:TE} {pos:Pos}
def rz:TS:=λD σ H=>D.nx σ H
def oR(t u:TS):TS:=λD σ H=>t { D with nx:=u D } σ H
def aE:Gh X [] rz:=λ_ _ σ H _ I h=>wpAny_execs_nil ⟨σ,H,I,h⟩
def af(h1:PS X st t)(h2:Gh X rest u):Gh X (st :: rest) (oR t u):=by
 intro pins s σ H D I h;refine wpAny_execs_cons (f6 (h1 pins s σ H { D with nx:=u D } I h) λf s1 q=>?_);cases f with
 |next=>
  obtain⟨σ',H',I',q⟩:=q;exact h2 pins s1 σ' H' D I' q
 |ret v=>exact q
 |brk=>exact q
 |cont=>exact q
def aj(h1:PS X st t):Gh X [st] t:=by
 intro pins s σ H D I h;refine wpAny_execs_cons (f6 (h1 pins s σ H D I h) λf s1 q=>?_);cases f with
 |next=>exact wpAny_execs_nil q
 |ret v=>exact q
 |brk=>exact q
 |cont=>exact q
def Inv.quiet(I:Inv X pins σ H s):interactive X.env=false:=by simp[interactive,I.ok.kind]
def zH(te:TE):TS:=λD σ H=>te σ H λ_ H1=>D.nx σ H1
def cu(he:PE X e te)(hs:swapsWith e none pos.line X.env=pure false:=by rfl):PS X (.Expr e pos) (zH te):=by
 intro pins s σ H D I h;exact wpAny_Expr_any (f6 (he pins s σ H _ I h) λv s1 ⟨x,H1,I1,r1,q1⟩ =>⟨σ,H1,I1,q1⟩) I.quiet hs
def DQ(te:TE):TS:=λD σ H=>te σ H D.rt
def az(he:PE X e te):PS X (.Return (some e) pos) (DQ te):=by
 intro pins s σ H D I h;exact wpAny_Return_some (f6 (he pins s σ H _ I h) λv s1 ⟨x,H1,I1,r1,q1⟩ =>⟨x,σ,H1,I1,r1,q1⟩)
def yI(c:TT)(t u:TS):TS:=λD σ H=>c σ H λb H1=>if b=true then t D σ H1 else u D σ H1
def aQ(hc:PT X c tc)(ha:Gh X a t)(hb:Gh X b u):PS X (.If c a b pos) (yI tc t u):=by
 intro pins s σ H D I h;refine wpAny_If (f6 (hc pins s σ H _ I h) λd s1 ⟨H1,I1,q1⟩ =>?_);cases d with
 |true=>exact ha pins s1 σ H1 D I1 q1
 |false=>exact hb pins s1 σ H1 D I1 q1
end
abbrev TG:=V->St->Hp->(St->Hp->Prop)->Prop
abbrev NP:=List V->St->Hp->(St->Hp->Prop)->Prop
def PG(X:Cx)(target:Expr)(t:TG):Prop:=
 ∀(pins:List (Addr×Obj))(s:Shared)(σ:St)(H:Hp)(v:V)(u:Value)(Q:St->Hp->Prop),Inv X pins σ H s->RelV v u->t v σ H Q->
  wpAny (model X.prog X.w) X.A (assign target X.env u) (λ_ s'=> ∃σ' H',Inv X pins σ' H' s'/\Q σ' H') X.xe s
def Oc(X:Cx)(ts:List Expr)(t:NP):Prop:=
 ∀(pins:List (Addr×Obj))(s:Shared)(σ:St)(H:Hp)(vs:List V)(us:List Value)(Q:St->Hp->Prop),Inv X pins σ H s->Vals vs us->t vs σ H Q->
  wpAny (model X.prog X.w) X.A (assignInOrder ((assignEach ts X.env).map (·.2)) us) (λ_ s'=> ∃σ' H',Inv X pins σ' H' s'/\Q σ' H') X.xe s
abbrev NO:=V->V->V->Hp->(Hp->Prop)->Prop
def NR(X:Cx)(t:NO):Prop:=
 ∀(pins:List (Addr×Obj))(s:Shared)(σ:St)(H:Hp)(o i v:V)(ov iv u:Value)(Q:Hp->Prop),Inv X pins σ H s->RelV o ov->RelV i iv->RelV v u->t o i v H Q->
  wpAny (model X.prog X.w) X.A (setItem ov iv u) (λ_ s'=> ∃H',Inv X pins σ H' s'/\Q H') X.xe s
abbrev OG:=V->V->Hp->VK->Prop
def OT(X:Cx)(op:Operator)(t:OG):Prop:=
 ∀(pins:List (Addr×Obj))(s:Shared)(σ:St)(H:Hp)(x y:V)(v u:Value)(Q:VK),Inv X pins σ H s->RelV x v->RelV y u->t x y H Q->
  wpAny (model X.prog X.w) X.A (inplaceOp op v u) (EP X pins σ Q) X.xe s
section
variable {X:Cx} {pos:Pos}
def gi(i:Nat):TG:=λv σ H Q=>Q (σ.set i (some v)) H
def Kt(hN:X.N.Nodup)(hi:X.N[i]? =some x)(hx:Loc X.env.scope x)(hf:X.fn x=true\/X.env.scope.names.lookup x=some .local:=by first |exact .inl rfl |exact .inr rfl |assumption):PG X (.Name x pos) (gi i):=by
 intro pins s σ H v u Q I r h;exact wpAny_assign_Name (wY I hN hi hx r (λs' I'=>⟨_,H,I',h⟩) hf)
def JA:NP:=λvs σ H Q=>vs=[]/\Q σ H
def sN(t:TG)(u:NP):NP:=λvs σ H Q=> ∃v r,vs=v :: r/\t v σ H λσ' H'=>u r σ' H' Q
def rR:Oc X [] JA:=by
 intro pins s σ H vs us Q I r h;obtain⟨e,h⟩:=h;subst e;cases r;exact assignInOrder_nil ⟨σ,H,I,h⟩
def i9(h1:PG X e t)(h2:Oc X es u)
  (hs:(assignEach (e :: es) X.env).map (·.2)=assign e X.env :: (assignEach es X.env).map (·.2):=by rfl):Oc X (e :: es) (sN t u):=by
 intro pins s σ H vs us Q I r h;obtain⟨v,vr,e1,h⟩:=h;subst e1;cases r with
 |cons r rr=>
  rw[hs];refine assignInOrder_cons (f6 (h1 pins s σ H _ _ _ I r h) λ_ s1 ⟨σ1,H1,I1,q1⟩ =>?_);exact h2 pins s1 σ1 H1 _ _ Q I1 rr q1
def EF(K:bg)(n:Nat)(t:NP):TG:=λv σ H Q=> ∃a xs,v=.ref a/\uh K H a xs/\xs.length=n/\t xs σ H Q
def xt(hc:X.calm=true)(h:Oc X es t)
  (hn:(assignEach es X.env).length=n:=by rfl) (hst:(assignEach es X.env).findIdx? (·.1)=none:=by rfl):PG X (.Tuple es k pos) (EF X.K n t):=by
 intro pins s σ H v u Q I r hw;obtain⟨a,xs,e1,hq,hl,hw⟩:=hw;subst e1;cases r;obtain⟨its,rv,ht,hz⟩:=I.tuple hq;refine assign_Tuple_tuple (I.ok.hd hc) ht (by simp[hn,<- hl,rv.length]) hst λh' hx=>?_
 have I1:Inv X pins σ H { s with heap:=h' }:=I.kept (t':=s.toks) λb o e=>hx b o (eI (dD e)) e
 exact h pins _ σ H xs _ Q I1 (by simpa using rv) hw
def Ox(to ti:TE)(t:NO):TG:=λv σ H Q=>to σ H λo H1=>ti σ H1 λi H2=>t o i v H2 λH3=>Q σ H3
def B0(ho:PE X o to)(hi:PE X i ti)(hs:NR X t)
  (ha:∀v,assign (.Subscript o i pos) X.env v=(do
   let ov <- holding [v] (eval o X.env);let iv <- holding [v,ov] (eval i X.env)
   standAt pos
   holding [v,ov,iv] (setItem ov iv v)
   release [v,ov,iv] []):=by intro _;rfl):PG X (.Subscript o i pos) (Ox to ti t):=by
 intro pins s σ H v u Q I r h;rw[ha];refine aB (wpAny_holding (f6 (ho pins s σ H _ I h) λov s1 ⟨x,H1,I1,r1,q1⟩ =>?_));refine aB (wpAny_holding (f6 (hi pins s1 σ H1 _ I1 q1) λiv s2 ⟨y,H2,I2,r2,q2⟩ =>?_));refine aB (wpAny_standAt (aB (wpAny_holding (f6 (hs pins s2 σ H2 x y v ov iv u _ I2 r1 r2 r q2) λ_ s3 ⟨H3,I3,q3⟩ =>?_))));exact wpAny_release ⟨σ,H3,I3,q3⟩
def DR(te:TE)(g:TG):TS:=λD σ H=>te σ H λx H1=>g x σ H1 D.nx
def AY(he:PE X e te)(hg:PG X tg g)(hs:swapsWithSole [tg] e pos.line X.env=pure false:=by rfl)(hw:swappedStores [tg] e X.env=pure none:=by rfl)
  (h1:(assignEach [tg] X.env).map (·.2)=[assign tg X.env]:=by rfl):PS X (.Assign [tg] e pos) (DR te g):=by
 intro pins s σ H D I h;refine wpAny_Assign_stores (f6 (he pins s σ H _ I h) λv s1 ⟨x,H1,I1,r1,q1⟩ =>?_) hs hw;rw[h1];exact f6 (hg pins s1 σ H1 x v _ I1 r1 q1) λ_ s2 q=>q
def LZ(hN:X.N.Nodup)(hi:X.N[i]? =some x)(hx:Loc X.env.scope x)(he:PE X e te)(hs:swapsWith e (some (.Name x pos')) pos.line X.env=pure false:=by rfl)(hf:X.fn x=true\/X.env.scope.names.lookup x=some .local:=by first |exact .inl rfl |exact .inr rfl |assumption):
  PS X (.Assign [.Name x pos'] e pos) (DR te (gi i)):=by
 intro pins s σ H D I h;refine wpAny_Assign_Name (f6 (he pins s σ H _ I h) λv s1 ⟨y,H1,I1,r1,q1⟩ =>?_) hs;exact wY I1 hN hi hx r1 (λs2 I2=>⟨_,H1,I2,q1⟩) hf
def MZ(i:Nat)(te:TE)(ti:OG):TS:=λD σ H=> ∃x,σ[i]? =some (some x)/\te σ H λy H1=>ti x y H1 λz H2=>D.nx (σ.set i (some z)) H2
def Ec(hN:X.N.Nodup)(hi:X.N[i]? =some x)(hx:Loc X.env.scope x)(he:PE X e te)(ho:OT X op ti)(hf:X.fn x=true\/X.env.scope.names.lookup x=some .local:=by first |exact .inl rfl |exact .inr rfl |assumption):
  PS X (.AugAssign (.Name x pos') op e pos) (MZ i te ti):=by
 intro pins s σ H D I h;obtain⟨v,e1,h⟩:=h;obtain⟨m,hn,hl⟩:=I.loc;have vis:MU X.env.scope x:=by rcases hx with k |k;exact .inl k;exact .inr (.inl k)
 obtain⟨u,r,l⟩:=hl i x v hi e1 vis;refine wpAny_AugAssign_Name ?_;have go:wpAny (model X.prog X.w) X.A (eval e X.env) (λw s₂=>wpAny (model X.prog X.w) X.A (inplaceOp op u w) (λr s₃=>wpAny (model X.prog X.w) X.A (storeName X.env x r) (λ_=>SP X pins D .next) X.xe s₃) X.xe s₂) X.xe s:=by
  refine f6 (he pins s σ H _ I h) λw s1 ⟨y,H1,I1,r1,q1⟩ =>?_
  refine f6 (ho pins s1 σ H1 v y u w _ I1 r r1 q1) λz s2 ⟨zv,H2,I2,r2,q2⟩ =>?_
  exact wY I2 hN hi hx r2 (λs3 I3=>⟨_,H2,I3,q2⟩) hf
 rcases l with⟨hk,hm⟩ | ⟨hk,c,hc,hcell⟩
 ·exact wpAny_loadName_local I.ok.kind hk hn hm go
 ·rcases hk with hk |hk
  ·exact wpAny_loadName_cell I.ok.kind hk hc hcell go
  ·rcases hx with k |k
   ·have:X.env.scope.names.lookup x=some .free:=hk;rw[k] at this;cases this
   ·have:X.env.scope.names.lookup x=some .free:=hk;rw[k] at this;cases this
def OO(f:Int->Int->Int):OG:=λx y H Q=> ∃i j,x=.int i/\y=.int j/\Q (.int (f i j)) H
def Ew:OT X .Add (OO λi j=>i+j):=by
 intro pins s σ H x y v u Q I r1 r2 h;obtain⟨i,j,e1,e2,q⟩:=h;subst e1;subst e2;obtain⟨t,rfl⟩:=r1;obtain⟨t',rfl⟩:=r2;exact iadd_int ⟨.int _,H,I.tok _,⟨_,rfl⟩,q⟩
end
section
variable {X:Cx} {pos:Pos}
def Ic(c:TT)(tb:TS):TS:=λD σ H=> ∃W:Nat->St->Hp->Prop,(∃m,W m σ H)/\∀m σ H,W m σ H->
 c σ H λb H1=>if b=true then ∃N:St->Hp->Prop,(∀σ' H',N σ' H'->∃m',m'<m/\W m' σ' H')/\tb { D with nx:=N,ct:=N,bk:=D.nx } σ H1 else D.nx σ H1
def oX(hp:PassesOwn (model X.prog X.w) X.A X.env X.xe)(hc:PT X c tc)(hb:Gh X body tb):PS X (.While c body [] pos) (Ic tc tb):=by
 intro pins s σ H D I h;obtain⟨W,⟨m0,w0⟩,turn⟩:=h;refine wpAny_While (codeAny_whileLoop (λn s'=> ∃σ' H',Inv X pins σ' H' s'/\W n σ' H') ?_ m0 ⟨σ,H,I,w0⟩);rintro n s1 ⟨σ1,H1,I1,w1⟩;refine wpAny_passesOwn hp (f6 (hc pins s1 σ1 H1 _ I1 (turn n σ1 H1 w1)) λb s2 ⟨H2,I2,q2⟩ =>?_);cases b with
 |true=>
  obtain⟨N,hN,q2⟩:=q2;rw[ai rfl];refine wpAny_passesOwn hp (f6 (hb pins s2 σ1 H2 _ I2 q2) λf s3 q3=>?_);cases f with
  |next=>
   obtain⟨σ3,H3,I3,n3⟩:=q3;obtain⟨m',hm,w3⟩:=hN σ3 H3 n3;exact⟨m',hm,σ3,H3,I3,w3⟩
  |cont=>
   obtain⟨σ3,H3,I3,n3⟩:=q3;obtain⟨m',hm,w3⟩:=hN σ3 H3 n3;exact⟨m',hm,σ3,H3,I3,w3⟩
  |brk=>exact q3
  |ret v=>exact q3
 |false=>
  rw[ag fj];exact wpAny_execs_nil ⟨σ1,H2,I2,q2⟩
end
structure It where
 go:Nat->Hp->Prop
 LH:Nat->Hp->V->Hp->Prop
 stop:Nat->Hp->Prop
def vS(X:Cx)(pins:List (Addr×Obj))(H:Hp)(b:Addr):Prop:=
 H b=none/\b≠X.env.locals/\b∉X.fs/\(b∈X.ex\/X.zN.heap.objs.size<=b)/\(∀x c,X.env.cells.lookup x=some c->c≠b)/\∀p∈X.pn++pins,p.1≠b
def Inv.Hu(I:Inv X pins σ H s)(hb:s.heap.objs.size<=b)(hn:H' b=none):vS X pins H' b:=by
 refine⟨hn,Nat.ne_of_gt (iD I.lt hb),I.Oo hb,.inr (eY I.sz hb),λx c e z=>?_,λp hp z=>?_⟩
 ·obtain⟨v,q⟩:=I.cell x c e;exact aI (iD q.lt (by rw[z];exact hb)) (nP _)
 ·exact aI (iD (dD (I.pin p hp).1) (by rw[z];exact hb)) (nP _)
structure Turn(P:Program)(w:World)(K:bg)(tg:Expr)(J:It)(fp:List Addr)(it:Addr)(tn:Nat->Heap->Prop):Prop where
 mem:it∈fp
 obj:∀i h,tn i h->∀b∈fp,∃o,h.get? b=some o/\∀v,o.data≠ .cell v
 keep:∀i h h',tn i h->(∀b∈fp,∀o,h.get? b=some o->h'.get? b=some o)->tn i h'
 item:∀(X:Cx),X.prog=P->X.w=w->X.K=K->X.calm=true->∀(i:Nat)(pins:List (Addr×Obj))(s:Shared)(σ:St)(H:Hp)(E:Value->Shared->Prop),Inv X pins σ H s->(∀b∈fp,vS X pins H b)->tn i s.heap->J.go i H->
  wpAny (model P w) X.A (pyNext (.ref it)) (λr s1=> ∃u,r=some u/\
   wpAny (model P w) X.A (letOwnedTupleGo tg (.ref it) u) (λ_ s2=> ∃x H',Inv X pins σ H' s2/\RelV x u/\J.LH i H x H'/\tn (i+1) s2.heap/\∀b∈fp,H' b=none) E s1) E s
 done:∀(X:Cx),X.prog=P->X.w=w->X.K=K->X.calm=true->∀(i:Nat)(pins:List (Addr×Obj))(s:Shared)(σ:St)(H:Hp)(E:Value->Shared->Prop),Inv X pins σ H s->(∀b∈fp,vS X pins H b)->tn i s.heap->J.stop i H->
  wpAny (model P w) X.A (pyNext (.ref it)) (λr s1=>r=none/\Inv X pins σ H s1) E s
 self:∀(A:Around)(i:Nat)(s:Shared)(Q:Value->Shared->Prop)(E:Value->Shared->Prop),tn i s.heap->Q (.ref it) s->wpAny (model P w) A (pyIter (.ref it)) Q E s
abbrev TI:=St->Hp->(It->Hp->Prop)->Prop
def OI(X:Cx)(pins:List (Addr×Obj))(σ:St)(tg:Expr)(R:It->Hp->Prop)(itv:Value)(s2:Shared):Prop:=
 ∃(it:Addr)(fp:List Addr)(tn:Nat->Heap->Prop)(J:It)(H':Hp),itv=.ref it/\Inv X pins σ H' s2/\Turn X.prog X.w X.K tg J fp it tn/\tn 0 s2.heap/\(∀b∈fp,vS X pins H' b)/\R J H'
def PI(X:Cx)(tg iter:Expr)(wi:TI):Prop:=
 ∀(pins:List (Addr×Obj))(s:Shared)(σ:St)(H:Hp)(R:It->Hp->Prop),Inv X pins σ H s->wi σ H R->
  wpAny (model X.prog X.w) X.A (eval iter X.env) (λv s1=>wpAny (model X.prog X.w) X.A (pyIter v) (OI X pins σ tg R) X.xe s1) X.xe s
def D1(ho:s.heap.get? it=some o)(hc:o.cls=.type n)(hd:o.data=.fields vs)
  (hn: ["enumerate","zip","dict_itemiterator","dict_reverseitemiterator","odict_iterator","itertools.zip_longest","itertools.pairwise"].contains n=false) (hQ:Q () s):wpAny M A (letOwnedTupleGo tg (.ref it) u) Q E s:=by
 unfold letOwnedTupleGo;cases tg<;>first
  |exact aM hQ
  |(cases u<;>first
    |exact aM hQ
    |(refine aB (wpAny_load ho ?_)
      rw[hc,hd];show wpAny M A (if (["enumerate","zip","dict_itemiterator","dict_reverseitemiterator","odict_iterator","itertools.zip_longest","itertools.pairwise"].contains n&&vs[0]? ==some (rawInt _))=true then _ else _) Q E s;rw[ag (by intro h;rw[hn,Bool.false_and] at h;cases h)];exact aM hQ))
def Gi(K:bg)(a:Addr):It:=
 ⟨λi H=> ∃xs x,cG K H a xs/\xs[i]? =some x,λi H x H'=>H'=H/\∀xs,cG K H a xs->xs[i]? =some x,λi H=> ∃xs,cG K H a xs/\xs.length<=i⟩
def OK(lo:Int)(n:Nat):It:=⟨λi _=>i<n,λi H x H'=>H'=H/\x=.int (lo+i),λi _=>n<=i⟩
def Gv{P:Program}{w:World}{K:bg}{tg:Expr}(a it:Addr):Turn P w K tg (Gi K a) [it] it (λi h=>h.IsListIter it a i) where
 mem:=by simp
 obj:=λi h st b hb=>by
  have e:b=it:=by simpa using hb
  subst e;obtain⟨o,e,c,d⟩:=st;exact⟨o,e,λv z=>by rw[d] at z;cases z⟩
 keep:=λi h h' st k=>st.at λo e=>k it (by simp) o e
 item:=by
  intro X hP hw hK hc i pins s σ H E I hf st hg;subst hP hw hK;obtain⟨xs,x,hq,hx⟩:=hg;obtain⟨its,rv,p,hz⟩:=I.list hq;obtain⟨u,hu,ru⟩:=rv.get hx;obtain⟨f0,f1,f2,f3,f4,f5⟩:=hf it (by simp);refine wpAny_pyNext_list_item st p.isList (x:=u) (by simpa using hu) λh' st' sb=>?_
  have I1:Inv X pins σ H { s with heap:=h' }:=I.turned (t':=s.toks) (λb o hb e=>(sb.2 b hb).trans e) f0 f1 f3 f4 f5;obtain⟨o,e,c,d⟩:=id st';exact⟨u,rfl,D1 (s:= { s with heap:=h' }) e c d (by decide) ⟨x,H,I1,ru,⟨rfl,λys hy=>by rw[I.sC hy hq];exact hx⟩,st',λb hb=>(hf b hb).1⟩⟩
 done:=by
  intro X hP hw hK hc i pins s σ H E I hf st hg;subst hP hw hK;obtain⟨xs,hq,hx⟩:=hg;obtain⟨its,rv,p,hz⟩:=I.list hq;obtain⟨f0,f1,f2,f3,f4,f5⟩:=hf it (by simp);have hl:=rv.length;exact wpAny_pyNext_list_end (I.ok.hd hc) st p.isList (by simp;omega) λh' eb=>⟨rfl,I.turned (t':=s.toks) (λb o hb e=>eb b o hb e) f0 f1 f3 f4 f5⟩
 self:=λ_ _ _ _ _ st h=>wpAny_pyIter_listiter st h
def DN{P:Program}{w:World}{K:bg}{tg:Expr}(it:Addr)(lo:Int)(n:Nat):Turn P w K tg (OK lo n) [it] it (λi h=>IsRangeIter h it (lo+(i:Nat) * 1) ((n:Int) - (i:Nat)) 1) where
 mem:=by simp
 obj:=λi h st b hb=>by
  have e:b=it:=by simpa using hb
  subst e;exact⟨_,st,λv z=>by
   have z':Data.fields _=Data.cell v:=z;cases z'⟩
 keep:=λi h h' st k=>k it (by simp) _ st
 item:=by
  intro X hP hw hK hc i pins s σ H E I hf st hg;subst hP hw hK;obtain⟨f0,f1,f2,f3,f4,f5⟩:=hf it (by simp);have W:=Walks.range (prog:=X.prog) (w:=X.w) (I.ok.hd hc) it lo 1 n;refine W.item i s _ _ hg st λv h' tk hv st' kk=>?_
  obtain⟨t,rfl⟩:=hv;have I1:Inv X pins σ H { s with heap:=h',toks:=tk }:=I.turned (λb o hb e=>kk b o (by simpa using hb) e) f0 f1 f3 f4 f5;refine⟨_,rfl,D1 (s:= { s with heap:=h',toks:=tk }) (n:= "range_iterator") st' rfl rfl (by decide) ⟨.int (lo+i),H,I1,⟨t, ?_⟩,⟨rfl,rfl⟩,st',λb hb=>(hf b hb).1⟩⟩;rw[Int.mul_one]
 done:=by
  intro X hP hw hK hc i pins s σ H E I hf st hg;subst hP hw hK;obtain⟨f0,f1,f2,f3,f4,f5⟩:=hf it (by simp);exact wpAny_pyNext_range_end (I.ok.hd hc) st (by have:n<=i:=hg;omega) λh' eb=>⟨rfl,I.turned (t':=s.toks) (λb o hb e=>eb b o hb e) f0 f1 f3 f4 f5⟩
 self:=λ_ _ _ _ _ st h=>wpAny_pyIter_rangeiter st h
section
variable {X:Cx} {tg:Expr}
def A0(K:bg)(tl:TE):TI:=λσ H R=>tl σ H λx H1=> ∃a,x=.ref a/\(∃xs,cG K H1 a xs)/\R (Gi K a) H1
def g9{l:Expr}{tl:TE}(hl:PE X l tl):PI X tg l (A0 X.K tl):=by
 intro pins s σ H R I h;refine f6 (hl pins s σ H _ I h) λv s1 ⟨x,H1,I1,r1,q1⟩ =>?_
 obtain⟨a,e,⟨xs,hq⟩,q⟩:=q1;subst e;cases r1;obtain⟨its,rv,p,hz⟩:=I1.list hq;refine wpAny_pyIter_list p.isList ?_;refine⟨s1.heap.objs.size,[s1.heap.objs.size],_,_,H1,rfl,I1.kept (t':=s1.toks) λb o e=>dF _ e,Gv a _,⟨_,eG _ rfl,rfl,rfl⟩,λb hb=>?_,q⟩;have e:b=s1.heap.objs.size:=by simpa using hb
 subst e;exact I1.Hu (bx _) (I1.bP.fresh (bx _))
def II{pins:List (Addr×Obj)}{σ:St}{H:Hp}{s:Shared}{R:It->Hp->Prop}{E:Value->Shared->Prop}{lo hi:Int}{t u v:Tok}{tk:Nat}(I:Inv X pins σ H s)(h1: -(2 ^ 62)<=lo)(h2:lo<2 ^ 62)(h3: -(2 ^ 62)<=hi)(h4:hi<2 ^ 62)
  (q:R (OK lo (hi - lo).toNat) H):wpAny (model X.prog X.w) X.A (pyIter (.ref s.heap.objs.size)) (OI X pins σ tg R) E { s with heap:=s.heap.push { cls:=.type "range",data:=.fields #[.int lo t,.int hi u,.int 1 v] },toks:=tk }:=by
 refine wpAny_pyIter_range (IsRange.new ..) (small_one h1 h2 h3 h4) ?_;have I1:Inv X pins σ H { s with heap:=s.heap.push { cls:=.type "range",data:=.fields #[.int lo t,.int hi u,.int 1 v] },toks:=tk }:=I.kept λb o e=>dF _ e
 refine⟨(s.heap.push { cls:=.type "range",data:=.fields #[.int lo t,.int hi u,.int 1 v] }).objs.size,[(s.heap.push { cls:=.type "range",data:=.fields #[.int lo t,.int hi u,.int 1 v] }).objs.size],_,_,H,rfl,
  I1.kept (t':=tk) λb o e=>dF _ e,DN _ lo (hi - lo).toNat, ?_,λb hb=>?_,q⟩
 ·have e1:lo+((0:Nat):Int) * 1=lo:=by simp
  have e2:(((hi - lo).toNat:Nat):Int) - ((0:Nat):Int)=Builtin.Range.rangeSize lo hi 1:=by rw[rangeSize_one];split<;>omega
  show IsRangeIter _ _ (lo+((0:Nat):Int) * 1) ((((hi - lo).toNat:Nat):Int) - ((0:Nat):Int)) 1;rw[e1,e2];exact eG _ rfl
 ·have e:b=(s.heap.push { cls:=.type "range",data:=.fields #[.int lo t,.int hi u,.int 1 v] }).objs.size:=by simpa using hb
  subst e;exact I1.Hu (bx _) (I1.bP.fresh (bx _))
def Lw(ta:TA):TI:=λσ H R=>ta σ H λvs H1=> ∃j:Int,vs=[.int j]/\ -(2 ^ 62)<=j/\j<2 ^ 62/\R (OK 0 j.toNat) H1
def GL{a:Expr}{ta:TA}{p pos:Pos}(hg:Gl X "range")(hm:X.mg "range" =none)(ha:PA X [a] ta)(hs:starEach [a] X.env=[(false,eval a X.env)]:=by rfl):PI X tg (.Call (.Name "range" p) [a] [] pos) (Lw ta):=by
 intro pins s σ H R I h;refine Call_ (tX I hg hm boot_range (PyProof.Rows.callWith_type1 (f6 (ha pos pins s σ H _ I h) λus s1 ⟨vs,H1,I1,r1,q1⟩ =>?_) hs rfl));obtain⟨j,e,q1,q2,q⟩:=q1;subst e;cases r1 with
 |cons r rr=>
  cases rr;obtain⟨t,rfl⟩:=r;exact call_range_1 (II I1 (by omega) (by omega) q1 q2 (by simpa using q))
def Gz(wi:TI)(g:TG)(tb:TS):TS:=λD σ H=>wi σ H λJ H1=> ∃W:Nat->Nat->St->Hp->Prop,(∃m,W 0 m σ H1)/\∀i m σ H,W i m σ H->
 (J.stop i H/\D.nx σ H)\/(J.go i H/\∃N:St->Hp->Prop,(∀σ' H',N σ' H'->∃m',m'<m/\W (i+1) m' σ' H')/\∀x H',J.LH i H x H'->g x σ H' λσ2 H2=>tb { D with nx:=N,ct:=N,bk:=D.nx } σ2 H2)
def xr(fp:List Addr)(h:Heap):List (Addr×Obj):=fp.filterMap λb=>(h.get? b).map λo=>(b,o)
def qY(hb:b∈fp)(e:h.get? b=some o):(b,o)∈xr fp h:=List.mem_filterMap.mpr ⟨b,hb,by rw[e];rfl⟩
def GR(hp:p∈xr fp h):p.1∈fp/\h.get? p.1=some p.2:=by
 obtain⟨b,hb,e⟩:=List.mem_filterMap.mp hp;cases q:h.get? b with
 |none=>rw[q] at e;cases e
 |some o=>
  rw[q] at e;have e':(b,o)=p:=Option.some.inj e;subst e';exact⟨hb,q⟩
def Inv.pinned(I:Inv X pins σ H s)(hf:∀b∈fp,vS X pins H b)(ho:∀b∈fp,∃o,s.heap.get? b=some o/\∀v,o.data≠ .cell v):Inv X (pins++xr fp s.heap) σ H s:=
 I.Fv λp hp=>(cv.mp hp).elim (λz=>I.pin p (nO _ z)) λz=>by
  obtain⟨hb,e⟩:=GR z;obtain⟨f0,f1,f2,_⟩:=hf p.1 hb;obtain⟨o,e',d⟩:=ho p.1 hb;rw[e] at e';cases e';exact⟨e,f0,f1,f2,d⟩
def Inv.rq(I:Inv X (pins++pl) σ H s):Inv X pins σ H s:=I.Fv λp hp=>I.pin p (nO _ (ux _ hp))
def oY(hp:PassesOwn (model X.prog X.w) X.A X.env X.xe)(hc:X.calm=true)(hi:PI X tg iter wi)(hg:PG X tg g)(hb:Gh X body tb)
  (hs:∀x,foldedSetIterable iter X.env x=pure x:=by intro _;rfl):PS X (.For tg iter body [] pos) (Gz wi g tb):=by
 intro pins s σ H D I h;refine wpAny_For (f6 (hi pins s σ H _ I h) λv s1 h1=>f6 h1 λitv s2 h2=>?_) hs;obtain⟨it,fp,tn,J,H2,e,I2,T,st2,f2,W,⟨m0,w0⟩,turn⟩:=h2;subst e;have stat:∀{H':Hp},(∀b∈fp,H' b=none)->∀b∈fp,vS X pins H' b:=λhn b hb=>⟨hn b hb,(f2 b hb).2⟩
 refine codeAny_forLoop_any (λn s'=> ∃i σ' H',Inv X pins σ' H' s'/\tn i s'.heap/\(∀b∈fp,H' b=none)/\W i n σ' H') ?_ m0 ⟨0,σ,H2,I2,st2,λb hb=>(f2 b hb).1,w0⟩;rintro n s3 ⟨i,σ3,H3,I3,st3,fr3,w3⟩
 rcases turn i n σ3 H3 w3 with⟨stop,qn⟩ | ⟨go,N,hN,step⟩
 ·refine wpAny_passesOwn hp (f6 (T.done X rfl rfl rfl hc i pins s3 σ3 H3 X.xe I3 (stat fr3) st3 stop) λr s4 ⟨hr,I4⟩ =>?_);subst hr;exact wpAny_execs_nil ⟨σ3,H3,I4,qn⟩
 ·refine wpAny_passesOwn hp (f6 (T.item X rfl rfl rfl hc i pins s3 σ3 H3 X.xe I3 (stat fr3) st3 go) λr s4 ⟨u,hr,h4⟩ =>?_);subst hr;refine wpAny_passesOwn hp (f6 h4 λ_ s5 ⟨x,H5,I5,r5,y5,st5,fr5⟩ =>?_);have I5':=I5.pinned (stat fr5) (T.obj _ _ st5);refine wpAny_passesOwn hp (f6 (hg _ s5 σ3 H5 x u _ I5' r5 (step x H5 y5)) λ_ s6 ⟨σ6,H6,I6,q6⟩ =>?_);refine wpAny_passesOwn hp (f6 (hb _ s6 σ6 H6 _ I6 q6) λf s7 q7=>?_);have again:∀{σ7:St}{H7:Hp},Inv X (pins++xr fp s5.heap) σ7 H7 s7->N σ7 H7->∃m,m<n/\∃i σ' H',Inv X pins σ' H' s7/\tn i s7.heap/\(∀b∈fp,H' b=none)/\W i m σ' H':=λ{σ7 H7} I7 n7=>by
   obtain⟨m',hm,w7⟩:=hN σ7 H7 n7;refine⟨m',hm,i+1,σ7,H7,I7.rq,T.keep _ _ _ st5 λb hb o e=>(I7.pin (b,o) (nO _ (nO _ (qY hb e)))).1,λb hb=>?_,w7⟩;obtain⟨o,e,d⟩:=T.obj _ _ st5 b hb;exact(I7.pin (b,o) (nO _ (nO _ (qY hb e)))).2.1
  cases f with
  |next=>obtain⟨σ7,H7,I7,n7⟩:=q7;exact again I7 n7
  |cont=>obtain⟨σ7,H7,I7,n7⟩:=q7;exact again I7 n7
  |brk=>obtain⟨σ7,H7,I7,q7⟩:=q7;exact⟨σ7,H7,I7.rq,q7⟩
  |ret v=>obtain⟨x7,σ7,H7,I7,r7,q7⟩:=q7;exact⟨x7,σ7,H7,I7.rq,r7,q7⟩
end
def D6{K:bg}{a:Addr}{xs:List V}{g:TG}{tb:TS}{D:Ends}{σ:St}{H:Hp}(Pv:Nat->St->Hp->Prop)(h0:Pv 0 σ H)(hl:∀i σ H,i<=xs.length->Pv i σ H->cG K H a xs)
  (hs:∀i x σ H,xs[i]? =some x->Pv i σ H->g x σ H λσ2 H2=>tb { D with nx:=Pv (i+1),ct:=Pv (i+1),bk:=D.nx } σ2 H2) (hd:∀σ H,Pv xs.length σ H->D.nx σ H):
  ∃W:Nat->Nat->St->Hp->Prop,(∃m,W 0 m σ H)/\∀i m σ H,W i m σ H->
   ((Gi K a).stop i H/\D.nx σ H)\/((Gi K a).go i H/\∃N:St->Hp->Prop,(∀σ' H',N σ' H'->∃m',m'<m/\W (i+1) m' σ' H')/\∀x H',(Gi K a).LH i H x H'->g x σ H' λσ2 H2=>tb { D with nx:=N,ct:=N,bk:=D.nx } σ2 H2):=by
 refine⟨λi m σ H=>m=xs.length - i/\i<=xs.length/\Pv i σ H,⟨xs.length,by simp,d8 _,h0⟩, ?_⟩;rintro i m σ H ⟨rfl,hi,p⟩;have q:=hl i σ H hi p;by_cases hlt:i<xs.length
 ·refine .inr ⟨⟨xs,xs[i],q,by simp[hlt]⟩,Pv (i+1),λσ' H' p'=>⟨xs.length - (i+1),by omega,rfl,hlt,p'⟩,λx H' y=>?_⟩;obtain⟨e,y⟩:=y;subst e;exact hs i x σ _ (y xs q) p
 ·have e:i=xs.length:=by omega
  subst e;exact .inl ⟨⟨xs,q,bx _⟩,hd σ H p⟩
abbrev R2:=V->V->Hp->VK->Prop
def tE(X:Cx)(f:Value->Value->Sem Value)(r:R2):Prop:=
 ∀(pins:List (Addr×Obj))(s:Shared)(σ:St)(H:Hp)(x y:V)(v u:Value)(Q:VK),Inv X pins σ H s->RelV x v->RelV y u->r x y H Q->
  wpAny (model X.prog X.w) X.A (f v u) (EP X pins σ Q) X.xe s
def OF(X:Cx)(f:Value->Sem Value)(r:V->Hp->VK->Prop):Prop:=
 ∀(pins:List (Addr×Obj))(s:Shared)(σ:St)(H:Hp)(x:V)(v:Value)(Q:VK),Inv X pins σ H s->RelV x v->r x H Q->
  wpAny (model X.prog X.w) X.A (f v) (EP X pins σ Q) X.xe s
def lA(X:Cx)(f:Value)(r:List V->Hp->VK->Prop):Prop:=
 ∀(pins:List (Addr×Obj))(s:Shared)(σ:St)(H:Hp)(xs:List V)(us:List Value)(Q:VK),Inv X pins σ H s->Vals xs us->r xs H Q->
  wpAny (model X.prog X.w) X.A (call f us) (EP X pins σ Q) X.xe s
def jR(r:R2)(ta tb:TE):TE:=λσ H Q=>ta σ H λx H1=>tb σ H1 λy H2=>r x y H2 Q
def O0(r:V->Hp->VK->Prop)(ta:TE):TE:=λσ H Q=>ta σ H λx H1=>r x H1 Q
def rI(C:Int->Int->Prop)(g:Int->Int->V):R2:=λx y H Q=> ∃i j,x=.int i/\y=.int j/\C i j/\Q (g i j) H
def uG(g:Int->Int->V):R2:=λx y H Q=> ∃i j,x=.int i/\y=.int j/\Q (g i j) H
def rU(g:Int->V):V->Hp->VK->Prop:=λx H Q=> ∃i,x=.int i/\Q (g i) H
section
variable {X:Cx} {a b c:Expr} {ta tb tc:TE} {pos:Pos}
def MI(ha:PE X a ta)(hb:PE X b tb){pins:List (Addr×Obj)}{s:Shared}{σ:St}{H:Hp}{R:V->V->Hp->Prop}(I:Inv X pins σ H s)
  (h:ta σ H λx H1=>tb σ H1 λy H2=>R x y H2) {Q:Value->Shared->Prop} {f:Value->Value->Sem Value}
  (hf:∀v u s2 x y H2,Inv X pins σ H2 s2->RelV x v->RelV y u->R x y H2->wpAny (model X.prog X.w) X.A (f v u) Q X.xe s2):
  wpAny (model X.prog X.w) X.A (eval a X.env) (λv s₁=>wpAny (model X.prog X.w) X.A (eval b X.env) (λu s₂=>wpAny (model X.prog X.w) X.A (f v u) Q X.xe s₂) X.xe s₁) X.xe s:=by
 refine f6 (ha pins s σ H _ I h) λv s1 ⟨x,H1,I1,r1,q1⟩ =>?_
 refine f6 (hb pins s1 σ H1 _ I1 q1) λu s2 ⟨y,H2,I2,r2,q2⟩ =>?_
 exact hf v u s2 x y H2 I2 r1 r2 q2
def bH(ho:tE X (binaryOp op) r)(ha:PE X a ta)(hb:PE X b tb):PE X (.BinOp a op b pos) (jR r ta tb):=by
 intro pins s σ H Q I h;exact wpAny_BinOp (MI ha hb I h λv u s2 x y H2 I2 rx ry q=>ho pins s2 σ H2 x y v u Q I2 rx ry q)
def qy(ho:OF X (unaryOp op) r)(ha:PE X a ta):PE X (.UnaryOp op a pos) (O0 r ta):=by
 intro pins s σ H Q I h;exact UnaryOp_ (f6 (ha pins s σ H _ I h) λv s1 ⟨x,H1,I1,r1,q1⟩ =>ho pins s1 σ H1 x v Q I1 r1 q1)
def O4{f:Value->Value->Sem Value}{C:Int->Int->Prop}{g:Int->Int->Int}
  (rule:∀(i j:Int)(t u:Tok)(s:Shared)(Q:Value->Shared->Prop)(E:Value->Shared->Prop),C i j->Q (.int (g i j) s.toks) { s with toks:=s.toks+1 } ->wpAny (model X.prog X.w) X.A (f (.int i t) (.int j u)) Q E s):
  tE X f (rI C λi j=>.int (g i j)):=by
 intro pins s σ H x y v u Q I rx ry h;obtain⟨i,j,rfl,rfl,hc,q⟩:=h;obtain⟨t,rfl⟩:=rx;obtain⟨t',rfl⟩:=ry;exact rule i j t t' s _ _ hc ⟨.int (g i j),H,I.tok _,⟨_,rfl⟩,q⟩
def Kz{f:Value->Value->Sem Value}{g:Int->Int->Int}
  (rule:∀(i j:Int)(t u:Tok)(s:Shared)(Q:Value->Shared->Prop)(E:Value->Shared->Prop),Q (.int (g i j) s.toks) { s with toks:=s.toks+1 } ->wpAny (model X.prog X.w) X.A (f (.int i t) (.int j u)) Q E s):
  tE X f (uG λi j=>.int (g i j)):=by
 intro pins s σ H x y v u Q I rx ry h;obtain⟨i,j,rfl,rfl,q⟩:=h;obtain⟨t,rfl⟩:=rx;obtain⟨t',rfl⟩:=ry;exact rule i j t t' s _ _ ⟨.int (g i j),H,I.tok _,⟨_,rfl⟩,q⟩
def KA{f:Value->Value->Sem Value}{g:Int->Int->Bool}
  (rule:∀(i j:Int)(t u:Tok)(s:Shared)(Q:Value->Shared->Prop)(E:Value->Shared->Prop),Q (.bool (g i j)) s->wpAny (model X.prog X.w) X.A (f (.int i t) (.int j u)) Q E s):
  tE X f (uG λi j=>.bl (g i j)):=by
 intro pins s σ H x y v u Q I rx ry h;obtain⟨i,j,rfl,rfl,q⟩:=h;obtain⟨t,rfl⟩:=rx;obtain⟨t',rfl⟩:=ry;exact rule i j t t' s _ _ ⟨.bl (g i j),H,I,rfl,q⟩
def MP(i j:Int):Prop:=0<=j/\j<=1000000/\i.natAbs<2 ^ 64
def K9(i j:Int):Prop:=(-(2 ^ 64)<i/\i<2 ^ 64)\/(-(2 ^ 64)<j/\j<2 ^ 64)
def K9.ok(h:K9 i j):IntMulOk i j:=by
 rcases h with⟨h1,h2⟩ | ⟨h1,h2⟩
 ·exact .of_left (intBits_le_64 h1 h2)
 ·exact .of_right (intBits_le_64 h1 h2)
def DM(k:Nat):(0:Int)<=2 ^ k:=by
 rw[two_pow_cast];exact DH _
def dZ:tE X (binaryOp .Add) (uG λi j=>.int (i+j)):=Kz λ_ _ _ _ _ _ _ q=>add_int q
def qT:tE X (binaryOp .Sub) (uG λi j=>.int (i - j)):=Kz λ_ _ _ _ _ _ _ q=>sub_int q
def Eg:tE X (binaryOp .Mult) (rI K9 λi j=>.int (i * j)):=O4 λ_ _ _ _ _ _ _ hc q=>mul_int q hc.ok
def Ma:tE X (binaryOp .LShift) (rI MP λi j=>.int (i * 2 ^ j.toNat)):=O4 λ_ _ _ _ _ _ _ hc q=>lshift_int_small hc.1 hc.2.1 hc.2.2 q
def B5:tE X (binaryOp .RShift) (rI (λ_ j=>0<=j) λi j=>.int (i / 2 ^ j.toNat)):=O4 λi j _ _ _ _ _ hc q=>
 rshift_int hc (by rw[Int.fdiv_eq_ediv_of_nonneg i (DM _)];exact q)
def xA:tE X (binaryOp .BitAnd) (uG λi j=>.int (Builtin.bitAnd i j)):=Kz λ_ _ _ _ _ _ _ q=>and_int q
def Cy:tE X (binaryOp .BitOr) (uG λi j=>.int (Builtin.bitOr i j)):=Kz λ_ _ _ _ _ _ _ q=>or_int q
def P1{f:Value->Sem Value}{g:Int->Int}
  (rule:∀(i:Int)(t:Tok)(s:Shared)(Q:Value->Shared->Prop)(E:Value->Shared->Prop),Q (.int (g i) s.toks) { s with toks:=s.toks+1 } ->wpAny (model X.prog X.w) X.A (f (.int i t)) Q E s):
  OF X f (rU λi=>.int (g i)):=by
 intro pins s σ H x v Q I rx h;obtain⟨i,rfl,q⟩:=h;obtain⟨t,rfl⟩:=rx;exact rule i t s _ _ ⟨.int (g i),H,I.tok _,⟨_,rfl⟩,q⟩
def lF:OF X (unaryOp .USub) (rU λi=>.int (-i)):=P1 λ_ _ _ _ _ q=>neg_int q
end
def N5:V->V->Bool
 |.ez,.ez=>true |.ez,.int _=>true |.int _,.ez=>true |.ez,.bl _=>true |.bl _,.ez=>true |.ez,.str _=>true |.str _,.ez=>true
 |.int _,.int _=>true |.bl _,.bl _=>true |.str _,.str _=>true |.Dx _,.Dx _=>true
 |.int _,.str _=>true |.str _,.int _=>true |.bl _,.str _=>true |.str _,.bl _=>true
 |_,_=>false
def LW:R2:=λx y H Q=>N5 x y=true/\Q (.bl (decide (x=y))) H
def O3:R2:=λx y H Q=>N5 x y=true/\Q (.bl (!decide (x=y))) H
def G9:decide (V.int i=V.int j)=(i==j):=by
 rw[BY];simp
def JT:decide (V.bl i=V.bl j)=(i==j):=by
 rw[BY];simp
def G6:decide (V.str i=V.str j)=(i==j):=by
 rw[BY];simp
def Ga:decide (V.Dx i=V.Dx j)=(i.toList==j.toList):=by
 rw[BY];cases i;cases j;simp
section
variable {X:Cx} {a b c:Expr} {ta tb tc:TE} {pos:Pos}
def cx(I:Inv X pins σ H s)(q:Q (.bl k) H)(e:k=k'):EP X pins σ Q (.bool k') s:=by
 subst e;exact⟨.bl k,H,I,rfl,q⟩
def bq:tE X (compareOp .Eq) LW:=by
 intro pins s σ H x y v u Q I rx ry h;obtain⟨hs,q⟩:=h;cases x with
 |ez=>
  cases rx;cases y with
  |ez=>cases ry;exact PySem.EqNone.eq_none_none (cx I q (by simp))
  |bl j=>cases ry;exact PySem.EqNone.eq_none_bool (cx I q (by simp))
  |int j=>obtain⟨t',rfl⟩:=ry;exact PySem.EqNone.eq_none_int (cx I q (by simp))
  |str j=>obtain⟨t',rfl⟩:=ry;exact PySem.EqNone.eq_none_str (cx I q (by simp))
  |_=>exact aI (show false=true from hs) fj
 |bl i=>
  cases rx;cases y with
  |ez=>cases ry;exact PySem.EqNone.eq_bool_none (cx I q (by simp))
  |bl j=>cases ry;exact eq_bool (cx I q JT)
  |str j=>obtain⟨t',rfl⟩:=ry;exact PySem.EqMixed.eq_bool_str (cx I q (by simp))
  |_=>exact aI (show false=true from hs) fj
 |int i=>
  obtain⟨t,rfl⟩:=rx;cases y with
  |ez=>cases ry;exact PySem.EqNone.eq_int_none (cx I q (by simp))
  |int j=>obtain⟨t',rfl⟩:=ry;exact eq_int (cx I q G9)
  |str j=>obtain⟨t',rfl⟩:=ry;exact PySem.EqMixed.eq_int_str (cx I q (by simp))
  |_=>exact aI (show false=true from hs) fj
 |str i=>
  obtain⟨t,rfl⟩:=rx;cases y with
  |ez=>cases ry;exact PySem.EqNone.eq_str_none (cx I q (by simp))
  |bl j=>cases ry;exact PySem.EqMixed.eq_str_bool (cx I q (by simp))
  |int j=>obtain⟨t',rfl⟩:=ry;exact PySem.EqMixed.eq_str_int (cx I q (by simp))
  |str j=>obtain⟨t',rfl⟩:=ry;exact eq_str (cx I q G6)
  |_=>exact aI (show false=true from hs) fj
 |Dx i=>
  obtain⟨t,rfl⟩:=rx;cases y with
  |Dx j=>obtain⟨t',rfl⟩:=ry;exact PySem.W.eq_bytes (cx I q Ga)
  |_=>exact aI (show false=true from hs) fj
 |_=>cases y<;>exact aI (show false=true from hs) fj
def me:tE X (compareOp .NotEq) O3:=by
 intro pins s σ H x y v u Q I rx ry h;obtain⟨hs,q⟩:=h;cases x with
 |ez=>
  cases rx;cases y with
  |ez=>cases ry;exact PySem.EqNone.ne_none_none (cx I q (by simp))
  |bl j=>cases ry;exact PySem.EqNone.ne_none_bool (cx I q (by simp))
  |int j=>obtain⟨t',rfl⟩:=ry;exact PySem.EqNone.ne_none_int (cx I q (by simp))
  |str j=>obtain⟨t',rfl⟩:=ry;exact PySem.EqNone.ne_none_str (cx I q (by simp))
  |_=>exact aI (show false=true from hs) fj
 |bl i=>
  cases rx;cases y with
  |ez=>cases ry;exact PySem.EqNone.ne_bool_none (cx I q (by simp))
  |bl j=>cases ry;exact ne_bool (cx I q (congrArg not JT))
  |str j=>obtain⟨t',rfl⟩:=ry;exact PySem.EqMixed.ne_bool_str (cx I q (by simp))
  |_=>exact aI (show false=true from hs) fj
 |int i=>
  obtain⟨t,rfl⟩:=rx;cases y with
  |ez=>cases ry;exact PySem.EqNone.ne_int_none (cx I q (by simp))
  |int j=>obtain⟨t',rfl⟩:=ry;exact ne_int (cx I q (congrArg not G9))
  |str j=>obtain⟨t',rfl⟩:=ry;exact PySem.EqMixed.ne_int_str (cx I q (by simp))
  |_=>exact aI (show false=true from hs) fj
 |str i=>
  obtain⟨t,rfl⟩:=rx;cases y with
  |ez=>cases ry;exact PySem.EqNone.ne_str_none (cx I q (by simp))
  |bl j=>cases ry;exact PySem.EqMixed.ne_str_bool (cx I q (by simp))
  |int j=>obtain⟨t',rfl⟩:=ry;exact PySem.EqMixed.ne_str_int (cx I q (by simp))
  |str j=>obtain⟨t',rfl⟩:=ry;exact ne_str (cx I q (congrArg not G6))
  |_=>exact aI (show false=true from hs) fj
 |Dx i=>
  obtain⟨t,rfl⟩:=rx;cases y with
  |Dx j=>obtain⟨t',rfl⟩:=ry;exact PySem.W.ne_bytes (cx I q (congrArg not Ga))
  |_=>exact aI (show false=true from hs) fj
 |_=>cases y<;>exact aI (show false=true from hs) fj
def qz:tE X (compareOp .Lt) (uG λi j=>.bl (decide (i<j))):=KA λ_ _ _ _ _ _ _ q=>lt_int q
def rV:tE X (compareOp .LtE) (uG λi j=>.bl (decide (i<=j))):=KA λ_ _ _ _ _ _ _ q=>le_int q
def kj:tE X (compareOp .Gt) (uG λi j=>.bl (decide (j<i))):=KA λ_ _ _ _ _ _ _ q=>gt_int q
def iF:tE X (compareOp .GtE) (uG λi j=>.bl (decide (j<=i))):=KA λ_ _ _ _ _ _ _ q=>ge_int q
def qU:tE X (compareOp .Is) (λx y H Q=>y=.ez/\Q (.bl (decide (x=.ez))) H):=by
 intro pins s σ H x y v u Q I rx ry h;obtain⟨rfl,q⟩:=h;cases ry;refine is_none_gen (cx I q ?_);cases x<;>first
  |(cases rx;rfl)
  |(obtain⟨t,rfl⟩:=rx;rfl)
def J4(b:Expr)(h:op≠ .In:=by decide)(h2:op≠ .NotIn:=by decide):behindInMarks op b=false:=by
 have e1:(op==CmpOp.In)=false:=by cases op<;>first |rfl |exact aI rfl h
 have e2:(op==CmpOp.NotIn)=false:=by cases op<;>first |rfl |exact aI rfl h2
 cases b<;>simp[behindInMarks,e1,e2]
def Kw(ho:tE X (compareOp op) r)(ha:PE X a ta)(hb:PE X b tb)(hm:behindInMarks op b=false):PE X (.Compare a [op] [b] pos) (jR r ta tb):=by
 intro pins s σ H Q I h;exact wpAny_Compare1 (MI ha hb I h λv u s2 x y H2 I2 rx ry q=>ho pins s2 σ H2 x y v u Q I2 rx ry q) hm
def qx(t:TE):TT:=λσ H Q=>t σ H λx H'=> ∃k,x=.bl k/\Q k H'
def Ft(ho:tE X (compareOp op) r)(ha:PE X a ta)(hb:PE X b tb)(hm:behindInMarks op b=false):PT X (.Compare a [op] [b] pos) (qx (jR r ta tb)):=by
 intro pins s σ H Q I h;refine wpAny_isTrue_Compare1 (f6 (ha pins s σ H _ I h) λv s1 ⟨x,H1,I1,r1,q1⟩ =>f6 (hb pins s1 σ H1 _ I1 q1) λu s2 ⟨y,H2,I2,r2,q2⟩ =>
  f6 (ho pins s2 σ H2 x y v u _ I2 r1 r2 q2) λc s3 ⟨z,H3,I3,r3,k,e,q3⟩ =>?_) hm
 subst e;cases r3;exact wpAny_truthy_bool ⟨H3,I3,q3⟩
def Il(r r':R2)(ta tb tc:TE):TE:=λσ H Q=>ta σ H λx H1=>tb σ H1 λy H2=>r x y H2 λz H3=> ∃k,z=.bl k/\
 (if k=true then tc σ H3 λw' H4=>r' y w' H4 Q else Q (.bl false) H3)
def IW(ho:tE X (compareOp op) r)(ho':tE X (compareOp op') r')(ha:PE X a ta)(hb:PE X b tb)(hc:PE X c tc)
  (hm:lastMarks [op,op'] [b,c]=false:=by with_unfolding_all rfl):PE X (.Compare a [op,op'] [b,c] pos) (Il r r' ta tb tc):=by
 intro pins s σ H Q I h;refine Compare_chain (f6 (ha pins s σ H _ I h) λv s1 ⟨x,H1,I1,r1,q1⟩ =>chain_link (f6 (hb pins s1 σ H1 _ I1 q1) λu s2 ⟨y,H2,I2,r2,q2⟩ =>
  f6 (ho pins s2 σ H2 x y v u _ I2 r1 r2 q2) λd s3 ⟨z,H3,I3,r3,k,e,q3⟩ =>?_)) hm
 subst e;cases r3;refine wpAny_truthy_bool ?_;cases k with
 |false=>exact ite_ff ⟨.bl false,H3,I3,rfl,q3⟩
 |true=>exact ite_tt (chain_last (f6 (hc pins s3 σ H3 _ I3 q3) λw' s4 ⟨z',H4,I4,r4,q4⟩ =>ho' pins s4 σ H4 y z' u w' Q I4 r2 r4 q4))
def Bi:(sizeLine:Nat)<2 ^ 63:=by rw[sizeLine_eq];decide
def vals1(r:Vals [x] us):∃u,us=[u]/\RelV x u:=by
 cases r with
 |cons r1 r2=>cases r2;exact⟨_,rfl,r1⟩
def vals2(r:Vals [x,y] us):∃u w',us=[u,w']/\RelV x u/\RelV y w':=by
 cases r with
 |cons r1 r2=>
  cases r2 with
  |cons r3 r4=>cases r4;exact⟨_,_,rfl,r1,r3⟩
def iI(hc:X.calm=true):lA X (.builtin "max") (λxs H Q=> ∃i j,xs=[.int i,.int j]/\Q (.int (if j > i then j else i)) H):=by
 intro pins s σ H xs us Q I r h;obtain⟨i,j,rfl,q⟩:=h;obtain⟨u,w',rfl,⟨t,rfl⟩,⟨t',rfl⟩⟩:=vals2 r;refine max_two_ints (I.ok.hd hc) λh' tk k=>⟨_,H,I.kept k, ?_,q⟩
 by_cases hj:j > i
 ·rw[ai hj,ai hj];exact⟨_,rfl⟩
 ·rw[ag hj,ag hj];exact⟨_,rfl⟩
def qh(hc:X.calm=true):lA X (.builtin "min") (λxs H Q=> ∃i j,xs=[.int i,.int j]/\Q (.int (if j<i then j else i)) H):=by
 intro pins s σ H xs us Q I r h;obtain⟨i,j,rfl,q⟩:=h;obtain⟨u,w',rfl,⟨t,rfl⟩,⟨t',rfl⟩⟩:=vals2 r;refine min_two_ints (I.ok.hd hc) λh' tk k=>⟨_,H,I.kept k, ?_,q⟩
 by_cases hj:j<i
 ·rw[ai hj,ai hj];exact⟨_,rfl⟩
 ·rw[ag hj,ag hj];exact⟨_,rfl⟩
end
structure HN(h:Heap)(x dx C:Addr)(mA:Str->Option Value):Prop where
 obj:h.get? x=some (fE C dx)
 ns:h.Ns1 dx mA
 ne:dx≠x
def He{h:Heap}{dx:Addr}{mA:Str->Option Value}(n:h.Ns1 dx mA):∃od,h.get? dx=some od/\∀name,qK name od=some (mA name):=by
 obtain⟨o,es,ep,ho,hd,hk,_,hm⟩:=n;refine⟨o,ho,λname=>?_⟩;have e:=hm name;unfold nsFind findBy at e;rw[<- Array.find?_toList] at e;unfold qK;rw[hd];dsimp only;split
 ·rename_i y q;rw[q] at e;exact congrArg some e
 ·rename_i q;rw[q] at e;have a:es.toList.any (·.refKey)=false:=by
   rw[List.any_eq_false];intro y hy;obtain⟨z,t,hkey⟩:=hk y (Array.mem_toList_iff.mp hy);simp[DictEntry.refKey,hkey]
  have a':¬es.toList.any (·.refKey)=true:=by rw[a];exact fj
  rw[ag a'];exact congrArg some e
def HN.look(I:HN h x dx C mA):∃od,PySem.W.InstAt h x (fE C dx) C (some od)/\∀name,qK name od=some (mA name):=
 let ⟨od,ho,hl⟩:=He I.ns
 ⟨od,⟨I.obj,rfl,rfl,ho⟩,hl⟩
section
variable {prog:Program} {w:World} {A:Around} {E:Value->Shared->Prop} {s:Shared} {K:bg} {x dx C f:Addr} {mA:Str->Option Value} {name:Str} {v:Value}
def get_map(X:K.In s.heap)(I:HN s.heap x dx C mA)(hg:jP K C name=true)(hh:jl K C=true)
  (ha:eT K (.ref C) name=some none) (hv:mA name=some v) (hv':PySem.W.handedIn v=true) (h:Q v { s with toks:=s.toks+1 }):
  wpAny (model prog w) A (getAttr (.ref x) name expr) Q E s:=by
 obtain⟨od,J,hl⟩:=I.look;exact PySem.W.get_value X J (PySem.W.plainGet_of hg).1 (PySem.W.findObj_own hh ha rfl (by rw[hl,hv])) hv' h
def Kl(X:K.In s.heap)(I:HN s.heap x dx C mA)
  (hs:eT K (.ref C) "__setattr__" =some (some (.builtin "object.__setattr__"))) (hp:lB K C=true) (ht:oI K C name=some none) (hh:jl K C=true)
  (hw:PySem.Within mA ns) (hsz:ns.length<=sizeLine)
  (h:∀h',HN h' x dx C (λy=>if y=name then some v else mA y)->Heap.SameBut dx s.heap h'->Q () { s with heap:=h',toks:=s.toks+2 }):
  wpAny (model prog w) A (setAttr (.ref x) name v) Q E s:=by
 obtain⟨od,J,hl⟩:=I.look;refine PySem.W.set_plain X J hs (PySem.W.osa_open (s:= { s with toks:=s.toks+1 }) (r:=none) X J hp ht λb=>?_);obtain⟨cd,hc,hd'⟩:=PySem.W.any_some hh;have hx:s.heap.get? x=some ⟨.ref C,some dx,.plain,#[]⟩:=I.obj;refine aB (aM (aB (aB (wpAny_loadPart hx (aB (PySem.W.Looks.here (s:= { s with toks:=s.toks+1 }) (PySem.W.looks_clsIn X hc) ?_))))));rw[hd'];refine aM (a:=some dx) (aB (aM (aB ?_)));refine wpAny_nsSet1 (s:= { s with toks:=s.toks+1 }) I.ns λh' hn2 hs2=>?_
 obtain⟨oD,esD,epD,hoD,hdD,hcD⟩:=hn2.count (PySem.Within.cons name v hw);refine aB (wpAny_lookBehind hoD (by rw[hdD];exact pastItsLine_dict (eY hcD (by rw[cR];omega))) ?_);exact aM (h _ ⟨(hs2.2 _ (Ne.symm I.ne)).trans I.obj,hn2,I.ne⟩ hs2)
def Jf(X:K.In s.heap)(hm:oJ K C=true)
  (hi:eT K (.ref C) "__init__" =some (some (.ref f))) (hf:PySem.W.typeIn K (.ref f)=some (.type "function"))
  (h:codeAny (model prog w) (A.under (.builtin "type.__call__" ⟨.ref C :: vs,kw⟩)) (.call (.ref f) ⟨.ref (s.heap.objs.size+1) :: vs,kw⟩) (PySem.W.InitBack (s.heap.objs.size+1) R)
   { s with heap:=(s.heap.push dt).push (fE C s.heap.objs.size) }):
  codeAny (model prog w) A (.call (.ref C) ⟨vs,kw⟩) R s:=by
 obtain⟨hh,g,d,t,os⟩:=s;exact PySem.W.make_core (PySem.W.makes_of X hm) (PySem.W.looks_findIn X hi) (λself=>PySem.W.bind_fn X self hf) (.inl rfl) h
end
noncomputable def bI (f:Str) (v:V):List (Str×V)->List (Str×V)
 | []=>[(f,v)]
 |(g,x) :: r=>if g=f then (g,v) :: r else (g,x) :: bI f v r
theorem fG(f g:Str)(v:V):∀fs:List (Str×V),(bI f v fs).lookup g=if g=f then some v else fs.lookup g
 | []=>by
  show List.lookup g [(f,v)]=_;by_cases h:g=f
  ·have hb:(g==f)=true:=beq_iff_eq.mpr h;simp only[List.lookup,hb,ai h]
  ·have hb:(g==f)=false:=beq_eq_false_iff_ne.mpr h;simp only[List.lookup,hb,ag h]
 |(k,x) :: r=>by
  have ih:=fG f g v r;rw[show bI f v ((k,x) :: r)=(if k=f then (k,v) :: r else (k,x) :: bI f v r) from rfl];by_cases hk:k=f
  ·rw[ai hk];by_cases h:g=k
   ·have hb:(g==k)=true:=beq_iff_eq.mpr h;simp only[List.lookup,hb,ai (h.trans hk)]
   ·have hb:(g==k)=false:=beq_eq_false_iff_ne.mpr h;simp only[List.lookup,hb,ag (λe:g=f=>h (e.trans hk.symm))]
  ·rw[ag hk];by_cases h:g=k
   ·have hb:(g==k)=true:=beq_iff_eq.mpr h;simp only[List.lookup,hb,ag (λe:g=f=>hk (h.symm.trans e))]
   ·have hb:(g==k)=false:=beq_eq_false_iff_ne.mpr h;simp only[List.lookup,hb];exact ih
theorem tY(f:Str)(v:V):∀fs:List (Str×V),f∈(bI f v fs).map (·.1)/\∀g,g∈fs.map (·.1)->g∈(bI f v fs).map (·.1)
 | []=>⟨by simp[bI],λg h=>by simp at h⟩
 |(k,x) :: r=>by
  obtain⟨i1,i2⟩:=tY f v r;rw[show bI f v ((k,x) :: r)=(if k=f then (k,v) :: r else (k,x) :: bI f v r) from rfl];by_cases hk:k=f
  ·rw[ai hk];subst hk;exact⟨by simp,λg h=>by simpa using h⟩
  ·rw[ag hk];refine⟨?_,λg h=>?_⟩
   ·rw[cz];exact cZ _ i1
   ·rw[cz] at h⊢
    rcases bp.mp h with e |e
    ·exact bp.mpr (.inl e)
    ·exact cZ _ (i2 g e)
theorem uX(f:Str)(v:V):∀fs:List (Str×V),(bI f v fs).length<=fs.length+1
 | []=>by simp[bI]
 |(k,x) :: r=>by
  have ih:=uX f v r;rw[show bI f v ((k,x) :: r)=(if k=f then (k,v) :: r else (k,x) :: bI f v r) from rfl];by_cases hk:k=f
  ·rw[ai hk,cR,cR];omega
  ·rw[ag hk,cR,cR];omega
def qu.some_of(r:qu (some v) o):∃u,o=some u/\RelV v u:=by
 cases o with
 |none=>exact(show False from r).elim
 |some u=>exact⟨u,rfl,r⟩
def Hq(r:RelV v u):PySem.W.handedIn u=true:=by
 cases v with
 |ez=>cases (show u=Value.none from r);rfl
 |bl b=>cases (show u=Value.bool b from r);rfl
 |int i=>obtain⟨t,e⟩:=(show ∃t,u=Value.int i t from r);cases e;rfl
 |str x=>obtain⟨t,e⟩:=(show ∃t,u=Value.str x t from r);cases e;rfl
 |Dx b=>obtain⟨t,e⟩:=(show ∃t,u=Value.bytes b t from r);cases e;rfl
 |O8 b=>obtain⟨t,e⟩:=(show ∃t,u=Value.float b t from r);cases e;rfl
 |ref a=>cases (show u=Value.ref a from r);rfl
 |ty n=>cases (show u=Value.type n from r);rfl
section
variable {P:Program} {w:World} {H H':Hp} {h h':Heap} {a C dx:Addr} {fs fs':List (Str×V)}
def FN(bP:i5 P w H h)(e:H a=some (.ins C dx fs)):∃mA,HN h a dx C mA/\(∀f,qu (fs.lookup f) (mA f))/\PySem.Within mA (fs.map (·.1))/\fs.length<=1000/\H dx=some (.own a):=by
 obtain⟨d,z,ne,ob,mA,n,r,q⟩:=(show eP P w H h a (.ins C dx fs) from bP a _ e);exact⟨mA,⟨ob,n,ne⟩,r,q,z,d⟩
end
structure vW(K:bg)(C:Addr):Prop where
 pg:jP K C Str.empty=true
 hd:jl K C=true
 po:lB K C=true
 sa:eT K (.ref C) "__setattr__" =some (some (.builtin "object.__setattr__"))
def vW.get{K:bg}{C:Addr}(c:vW K C)(f:Str):jP K C f=true:=c.pg
def bf(K:bg)(C:Addr)(f:Str):Prop:=eT K (.ref C) f=some none
def bf.MW{K:bg}{C:Addr}{f:Str}(n:bf K C f):oI K C f=some none:=by
 unfold oI;rw[show eT K (.ref C) f=some none from n];rfl
section
variable {X:Cx} {pins:List (Addr×Obj)} {σ:St} {H:Hp} {s:Shared} {a C dx:Addr} {fs:List (Str×V)} {f:Str} {v:V} {A:Around} {E:Value->Shared->Prop}
def Ez(I:Inv X pins σ H s)(e:H a=some (.ins C dx fs))(c:vW X.K C)(n:bf X.K C f)(l:fs.lookup f=some v)
  (h:∀u s',Inv X pins σ H s'->RelV v u->Q u s'):wpAny (model X.prog X.w) A (getAttr (.ref a) f b) Q E s:=by
 obtain⟨mA,O,r,_,_,_⟩:=FN I.bP e;obtain⟨u,hu,ru⟩:=qu.some_of (v:=v) (o:=mA f) (by rw[<- l];exact r f);exact get_map I.Hj O (c.get f) c.hd n hu (Hq ru) (h u _ (I.tok _) ru)
def E1(I:Inv X pins σ H s)(e:H a=some (.ins C dx fs))(c:vW X.K C)(n:bf X.K C f)(hl:fs.length<1000)(ry:RelV y u)
  (h:∀s',Inv X pins σ (upd H a (.ins C dx (bI f y fs))) s'->Q () s'):wpAny (model X.prog X.w) A (setAttr (.ref a) f u) Q E s:=by
 obtain⟨mA,O,r,wi,_,ho⟩:=FN I.bP e;have hz:(fs.map (·.1)).length<=sizeLine:=by rw[bD,sizeLine_eq];omega
 refine Kl I.Hj O c.sa c.po n.MW c.hd wi hz λh' O' sb=>h _ ?_
 have hd:∃o,h'.get? dx=some o:=let ⟨o,_,_,e',_⟩:=O'.ns;⟨o,e'⟩;refine I.write (x:=a) (e:=dx) (by rw[e];exact True.intro) (.inr ho) (λb q hb z=>(sb.2 b hb).trans z) hd ?_;refine⟨by rw[aw O.ne];exact ho, ?_,O.ne,O'.obj,_,O'.ns,λg=>?_,λg hg=>?_⟩
 ·have:=uX f y fs;omega
 ·show qu ((bI f y fs).lookup g) (if g=f then some u else mA g);rw[fG];by_cases q:g=f
  ·rw[ai q,ai q];exact ry
  ·rw[ag q,ag q];exact r g
 ·by_cases q:g=f
  ·rw[q];exact(tY f y fs).1
  ·refine(tY f y fs).2 g (wi g λz=>hg ?_);show(if g=f then some u else mA g)=none;rw[ag q];exact z
def Inv.made(I:Inv X pins σ H s):Inv X pins σ (upd (upd H s.heap.objs.size (.own (s.heap.objs.size+1))) (s.heap.objs.size+1) (.ins C s.heap.objs.size []))
  { s with heap:=(s.heap.push dt).push (fE C s.heap.objs.size) }:=by
 have e1:(s.heap.push dt).get? s.heap.objs.size=some dt:=eG s.heap rfl;have e2:((s.heap.push dt).push (fE C s.heap.objs.size)).get? (s.heap.objs.size+1)=some (fE C s.heap.objs.size):=by
  have:=eG (s.heap.push dt) (o:=fE C s.heap.objs.size) rfl;rwa[nM] at this
 have e3:(s.heap.push dt).Ns s.heap.objs.size (λ_=>none):=⟨dt,#[],_,e1,rfl,(λe he=>aI he (by simp)),λ_=>rfl⟩;have I1:=I.laid (a:=s.heap.objs.size) (o:=.own (s.heap.objs.size+1)) (h':=s.heap.push dt) (t':=s.toks) (λb u q=>dF _ q) (bx _) ⟨_,e1⟩;refine I1.laid (a:=s.heap.objs.size+1) (o:=.ins C s.heap.objs.size []) (t':=s.toks) (λb u q=>dF _ q) (Nat.le_of_eq (nM _ _)) ?_;have ne:s.heap.objs.size≠s.heap.objs.size+1:=eI (kO _);refine⟨by rw[aw ne,ah],d8 _,ne,e2,λ_=>none,(Heap.Ns1.of_empty e3).at λo q=>dF _ q,λ_=>True.intro,λy hy=>aI rfl hy⟩
def Ld(hb:attributeBase e f env (eval e env)=eval e env)
  (h:wpAny (model prog w) A (eval e env) (λo s₁=>wpAny (model prog w) A (getAttr o f true) Q E s₁) E s):wpAny (model prog w) A (eval (.Attribute e f pos) env) Q E s:=
 Attribute_any_ h (by rw[arm_eval_Attribute,hb])
end
def da(K:bg)(ta:TE)(f:Str):TE:=λσ H Q=>ta σ H λx H1=> ∃a C dx fs v,x=.ref a/\H1 a=some (.ins C dx fs)/\vW K C/\bf K C f/\fs.lookup f=some v/\Q v H1
def E4(K:bg)(ta tv:TE)(f:Str):TS:=λD σ H=>tv σ H λy H1=>ta σ H1 λx H2=> ∃a C dx fs,x=.ref a/\H2 a=some (.ins C dx fs)/\vW K C/\bf K C f/\fs.length<1000/\
 D.nx σ (upd H2 a (.ins C dx (bI f y fs)))
section
variable {X:Cx} {o e value:Expr} {f:Str} {pos pos' tpos:Pos} {ta tv:TE}
def M8(he:PE X e ta)(hb:attributeBase e f X.env (eval e X.env)=eval e X.env):PE X (.Attribute e f pos) (da X.K ta f):=by
 intro pins s σ H Q I h;refine Ld hb (f6 (he pins s σ H _ I h) λu s1 ⟨x,H1,I1,rx,a,C,dx,fs,v,ex,ea,c,n,l,q⟩ =>?_);subst ex;obtain rfl:u=Value.ref a:=rx;exact Ez I1 ea c n l λu' s2 I2 ru=>⟨v,H1,I2,ru,q⟩
def M6(ha:PE X o ta)(hv:PE X value tv)(hs:swapsWith value (some (.Attribute o f pos')) pos.line X.env=pure false):PS X (.Assign [.Attribute o f pos'] value pos) (E4 X.K ta tv f):=by
 intro pins s σ H D I h;refine plainObj_wpAny_Assign_Attribute (f6 (hv pins s σ H _ I h) λu s1 ⟨y,H1,I1,ry,q⟩ =>f6 (ha pins s1 σ H1 _ I1 q) λov s2 ⟨x,H2,I2,rx,a,C,dx,fs,ex,ea,c,n,l,q2⟩ =>?_) hs;subst ex;obtain rfl:ov=Value.ref a:=rx;exact E1 I2 ea c n l ry λs3 I3=>⟨σ,_,I3,q2⟩
end
structure iC(k:Nat)(A:Around):Prop where
 hd:A.handled=none
 dp:A.depth+3 * k+5<recursionLimit
 un:A.units+16 * k+200<cLine
def iC.mono(r:iC k A)(h:j<=k):iC j A:=⟨r.hd,by have:=r.dp;omega,by have:=r.un;omega⟩
theorem iC.deeper(r:iC (k+1) A)(env:Env):iC k (A.deeper env):=
 ⟨r.hd,by have:=r.dp;show A.depth+1+3 * k+5<_;omega,by have:=r.un;show A.units+3+16 * k+200<_;omega⟩
def Et{A:Around}{C:Addr}{us:List Value}{kw:List (Str×Value)}:(A.under (.builtin "type.__call__" ⟨.ref C :: us,kw⟩)).depth=A.depth+1:=by
 first |rfl |simp[Around.under,Code.weight,Code.isCreation,Code.isGuard,Code.isCaller,Code.frames,Code.isFrame,guardIds]
def Es{A:Around}{C:Addr}{us:List Value}{kw:List (Str×Value)}:(A.under (.builtin "type.__call__" ⟨.ref C :: us,kw⟩)).units=A.units+1:=by
 first |rfl |simp[Around.under,Code.cUnits,Code.frames,Code.isFrame]
def iC.make(r:iC (k+1) A)(C:Addr)(us:List Value)(kw:List (Str×Value)):iC k (A.under (.builtin "type.__call__" ⟨.ref C :: us,kw⟩)):=
 ⟨r.hd,by have:=r.dp;rw[Et];omega,by have:=r.un;rw[Es];omega⟩
theorem iC.depth(r:iC k A):A.depth<recursionLimit:=by have:=r.dp;omega
theorem iC.units(r:iC k A):A.units+64<cLine:=by have:=r.un;omega
def jC:TA:=λ_ H Q=>Q [] H
def fZ(ta:TE)(tr:TA):TA:=λσ H Q=>ta σ H λx H1=>tr σ H1 λxs H2=>Q (x :: xs) H2
section
variable {X:Cx} {e:Expr} {es:List Expr} {te:TE} {t:TA} {pos:Pos}
def ax:PA X [] jC:=λ_ _ _ _ H Q I h=>Calls.spliced_nil ⟨[],H,I,.nil,h⟩
def ab(ha:PE X e te)(hr:PA X es t)(hs:starEach (e :: es) X.env=(false,eval e X.env) :: starEach es X.env:=by rfl):PA X (e :: es) (fZ te t):=by
 intro pos pins s σ H Q I h;rw[hs];show wpAny _ _ (spliced ((false,eval e X.env) :: backTo pos (starEach es X.env))) _ _ s;refine Calls.spliced_cons (f6 (ha pins s σ H _ I h) λu s1 ⟨x,H1,I1,r1,q1⟩ =>?_);exact f6 (hr pos pins s1 σ H1 _ I1 q1) λus s2 ⟨xs,H2,I2,r2,q2⟩ =>⟨x :: xs,H2,I2,.cons r1 r2,q2⟩
def Kd(t:TA):TE:=λσ H Q=>t σ H λxs H1=>xs.length<=sizeLine/\∀p,H1 p=none->Q (.ref p) (upd H1 p (.tup xs))
def C6(t:TA):TE:=λσ H Q=>t σ H λxs H1=>xs.length<=sizeLine/\∀p,H1 p=none->Q (.ref p) (upd H1 p (.lst xs))
def gZ{x1}(h:PA X es t):PE X (.Tuple es x1 pos) (Kd t):=by
 intro pins s σ H Q I hq;refine wpAny_Tuple_spliced (f6 (h pos pins s σ H _ I hq) λus s1 ⟨xs,H1,I1,r,z,q⟩ =>⟨by rw[<- r.length];exact z, ?_⟩);have hf:H1 s1.heap.objs.size=none:=I1.bP.fresh (bx _);refine⟨.ref s1.heap.objs.size,upd H1 s1.heap.objs.size (.tup xs),I1.laid (t':=s1.toks) (λb u e=>dF _ e) (bx _) ?_,rfl,q _ hf⟩;exact⟨z,us,r,⟨_,eG _ rfl,rfl,_,rfl⟩⟩
def b9(h:PA X es t):PE X (.List es pos) (C6 t):=by
 intro pins s σ H Q I hq;refine wpAny_List_spliced (f6 (h pos pins s σ H _ I hq) λus s1 ⟨xs,H1,I1,r,z,q⟩ =>⟨by rw[<- r.length];exact z, ?_⟩);have hf:H1 s1.heap.objs.size=none:=I1.bP.fresh (bx _);refine⟨.ref s1.heap.objs.size,upd H1 s1.heap.objs.size (.lst xs),I1.laid (t':=s1.toks) (λb u e=>dF _ e) (bx _) ?_,rfl,q _ hf⟩;exact⟨z,us,0,r,eG _ rfl⟩
end
abbrev Sp:=List V->Hp->VK->XK->Prop
abbrev K8:=List Env->Hp->Shared->XK->Value->Shared->Prop
structure Fb(P:Program)(w:World)(K:bg)(mg:Str->Option Value)(base:Heap)(A:Around)(outer:List Env)(s:Shared)(H:Hp):Prop where
 frames:A.frames=some outer
 mod:Mod K mg base
 bs:∀b o,base.get? b=some o->s.heap.get? b=some o/\H b=none
 Lb:base.objs.size<=s.heap.objs.size
 vQ:s.heap.FunFrames base outer
 My:∀b∈JC outer,H b=none
 bP:i5 P w H s.heap
 bare:AllBare s.gens
def CE(outer:List Env)(P:Program)(w:World)(H:Hp)(s:Shared)(Q:VK)(u:Value)(s':Shared):Prop:=
 ∃v H',s'.os=s.os/\AllBare s'.gens/\Un (JC outer) [] H H' s.heap s'.heap/\i5 P w H' s'.heap/\RelV v u/\Q v H'
def CR(CX:K8)(outer:List Env)(P:Program)(w:World)(H:Hp)(s:Shared)(Q:VK)(E:XK)(r:Result)(s':Shared):Prop:=
 match r with
 |.ok (.ret u)=>CE outer P w H s Q u s'
 |.ok _=>False
 |.error e=>CX outer H s E e s'
structure nA(P:Program)(w:World)(K:bg)(mg:Str->Option Value)(base:Heap)(CX:K8)(k:Nat)(f:Addr)(fd:FuncData)(ps:List Str)(sp:Sp):Prop where
 len:∀vs H Q E,sp vs H Q E->vs.length=ps.length
 run:∀(A:Around)(outer:List Env)(s:Shared)(H:Hp)(args:Args)(us:List Value)(vs:List V)(Q:VK)(E:XK),iC k A->Fb P w K mg base A outer s H->BindsTo s fd args (ps.zip us)->Vals vs us->sp vs H Q E->
  codeAny (model P w) A (.call (.ref f) args) (CR CX outer P w H s Q E) s
def Fb.make{P:Program}{w:World}{K:bg}{mg:Str->Option Value}{base:Heap}{A:Around}{outer:List Env}{s:Shared}{H:Hp}(e:Fb P w K mg base A outer s H)(C:Addr)(us:List Value)(kw:List (Str×Value)):
  Fb P w K mg base (A.under (.builtin "type.__call__" ⟨.ref C :: us,kw⟩)) outer s H:=⟨by first |exact e.frames |(simpa[Around.under,Code.envs,Code.isFrame,pushEnvs] using e.frames),e.mod,e.bs,e.Lb,e.vQ,e.My,e.bP,e.bare⟩
section
variable {X:Cx} {pins:List (Addr×Obj)} {σ:St} {H:Hp} {s s':Shared}
def Inv.NB(I:Inv X pins σ H s):Fb X.prog X.w X.K X.mg X.base X.A X.stack s H:=
 ⟨I.ok.frames,I.ok.mod,I.bs,eY I.ok.Lb I.sz,I.stack,I.Fg,I.bP,I.bare⟩
def Inv.after(I:Inv X pins σ H s)(h:CE X.stack X.prog X.w H s Q u s'):EP X pins σ Q u s':=by
 obtain⟨v,H',os,bare,un,bP,r,q⟩:=h;obtain⟨hh,g,d,t,os'⟩:=s';obtain rfl:os'=s.os:=os;exact⟨v,H',I.call (h':=hh) (g':=g) (d':=d) (t':=t) (ch:=[]) un bP bare (λb z=>aI z (by simp)),r,q⟩
end
def oS(sp:Sp)(dvs:List V)(E:XK)(t:TA):TE:=λσ H Q=>t σ H λvs H1=>sp (vs++dvs) H1 Q E
def lZ(C:Addr)(sp:Sp)(dvs:List V)(E:XK)(t:TA):TE:=λσ H Q=>t σ H λvs H1=> ∀x dx,H1 x=none->H1 dx=none->dx≠x->
 sp (.ref x :: (vs++dvs)) (upd (upd H1 dx (.own x)) x (.ins C dx [])) (λv H2=>v=.ez/\Q (.ref x) H2) E
def Binds(K:bg)(fd:FuncData)(ps:List Str)(ds:List Value):Prop:=
 ∀(s:Shared)(us:List Value),K.In s.heap->(us++ds).length=ps.length->BindsTo s fd ⟨us,[]⟩ (ps.zip (us++ds))
def Binds.all{K:bg}{fd:FuncData}{ps:List Str}(h:∀us:List Value,us.length=ps.length->bindArgs fd ⟨us,[]⟩ =pure (ps.zip us)):Binds K fd ps []:=λs us _ hl=>by
 rw[qw] at hl⊢;exact .of_eq (h us hl)
def Passes(CX:K8)(X:Cx)(E:XK):Prop:= ∀(pins:List (Addr×Obj))(σ:St)(H:Hp)(s:Shared)(e:Value)(s':Shared),Inv X pins σ H s->CX X.stack H s E e s'->X.xe e s'
section
variable {X:Cx} {CX:K8} {k:Nat} {f C:Addr} {fd:FuncData} {ps:List Str} {sp:Sp} {dvs:List V} {ds:List Value} {E:XK} {x m:Str} {p pos apos:Pos} {e o:Expr} {es:List Expr} {ta:TE} {t:TA}
def IC(F:nA X.prog X.w X.K X.mg X.base CX k f fd ps sp)(hr:iC k X.A)(hb:Binds X.K fd ps ds)(hd:Vals dvs ds)(hx:Passes CX X E)
  (I:Inv X pins σ H s) (r:Vals vs us) (h:sp (vs++dvs) H Q E):wpAny (model X.prog X.w) X.A (call (.ref f) us) (EP X pins σ Q) X.xe s:=by
 have r2:Vals (vs++dvs) (us++ds):=r.append hd;have hl:(us++ds).length=ps.length:=by rw[<- r2.length];exact F.len _ _ _ _ h
 refine wpAny_call (codeAny_mono (F.run X.A X.stack s H ⟨us,[]⟩ (us++ds) (vs++dvs) Q E hr I.NB (hb s us I.Hj hl) r2 h) λr s' hq=>?_);cases r with
 |error e=>exact hx pins σ H s e s' I hq
 |ok fl=>
  cases fl with
  |ret u=>exact I.after hq
  |next=>exact False.elim hq
  |brk=>exact False.elim hq
  |cont=>exact False.elim hq
def Kx(F:nA X.prog X.w X.K X.mg X.base CX k f fd ps sp)(hr:iC k X.A)(hg:Gl X x)(hm:X.mg x=some (.ref f))(hk:gr X.K (.ref f)=true)(hb:Binds X.K fd ps ds)(hd:Vals dvs ds)(hx:Passes CX X E)
  (ha:PA X (e :: es) t) (hdb:(x==("__debug__" :Str))=false:=by decide) (he:starEach (e :: es) X.env=(false,eval e X.env) :: starEach es X.env:=by rfl) (hpl:(backTo pos (starEach es X.env)).any (·.1)=false:=by rfl):
  PE X (.Call (.Name x p) (e :: es) [] pos) (oS sp dvs E t):=by
 intro pins s σ H Q I h;refine wpAny_Call_Name_kw (sE I hg hm ?_ hdb);refine PySem.W.callWith_K (h₀:=X.base) I.ok.mod.O6 hk (f6 (ha pos pins s σ H _ I h) λus s1 ⟨vs,H1,I1,r,q⟩ =>⟨I1.Hj, ?_⟩) he hpl;exact IC F hr hb hd hx I1 r q
def IX(F:nA X.prog X.w X.K X.mg X.base CX k f fd ps sp)(hr:iC k X.A)(hg:Gl X x)(hm:X.mg x=some (.ref f))(hk:gr X.K (.ref f)=true)(hb:Binds X.K fd ps ds)(hd:Vals dvs ds)(hx:Passes CX X E)
  (hdb:(x==("__debug__" :Str))=false:=by decide):PE X (.Call (.Name x p) [] [] pos) (oS sp dvs E jC):=by
 intro pins s σ H Q I h;refine wpAny_Call_Name_kw (sE I hg hm ?_ hdb);exact nQ I.Hj hk (IC (us:=[]) F hr hb hd hx I .nil h)
structure Mk(K:bg)(C f:Addr):Prop where
 makes:oJ K C=true
 init:eT K (.ref C) "__init__" =some (some (.ref f))
 fn:PySem.W.isFn K (.ref f)=true
 kp:gr K (.ref C)=true
def Co(M:Mk X.K C f)(F:nA X.prog X.w X.K X.mg X.base CX k f fd ps sp)(hr:iC (k+1) X.A)(hb:Binds X.K fd ps ds)(hd:Vals dvs ds)
  (hx:Passes CX X E) (I:Inv X pins σ H s) (r:Vals vs us)
  (h:∀x dx,H x=none->H dx=none->dx≠x->sp (.ref x :: (vs++dvs)) (upd (upd H dx (.own x)) x (.ins C dx [])) (λv H2=>v=.ez/\Q (.ref x) H2) E):
  wpAny (model X.prog X.w) X.A (call (.ref C) us) (EP X pins σ Q) X.xe s:=by
 have hq:=h (s.heap.objs.size+1) s.heap.objs.size (I.bP.fresh (BX _)) (I.bP.fresh (bx _)) (eI (kO _));have I2:=Inv.made (C:=C) I;have r2:Vals (V.ref (s.heap.objs.size+1) :: (vs++dvs)) (Value.ref (s.heap.objs.size+1) :: (us++ds)):=.cons rfl (r.append hd);have hl:(Value.ref (s.heap.objs.size+1) :: us++ds).length=ps.length:=by
  have e:=r2.length;rw[F.len _ _ _ _ hq] at e;exact e.symm
 refine wpAny_call (Jf (f:=f) I.Hj M.makes M.init (beq_iff_eq.mp M.fn) (codeAny_mono (F.run _ X.stack _ _ ⟨Value.ref (s.heap.objs.size+1) :: us,[]⟩ (Value.ref (s.heap.objs.size+1) :: (us++ds)) _ _ E (hr.make C us [])
  (I2.NB.make C us []) (hb _ (Value.ref (s.heap.objs.size+1) :: us) I2.Hj hl) r2 hq) λr s' hq'=>?_))
 cases r with
 |error e=>exact hx pins σ _ _ e s' I2 hq'
 |ok fl=>
  cases fl with
  |ret u=>
   obtain⟨v,H',I3,rv,ev,q3⟩:=I2.after hq';subst ev;exact⟨rv,⟨V.ref (s.heap.objs.size+1),H',I3,rfl,q3⟩⟩
  |next=>exact False.elim hq'
  |brk=>exact False.elim hq'
  |cont=>exact False.elim hq'
def Kv(M:Mk X.K C f)(F:nA X.prog X.w X.K X.mg X.base CX k f fd ps sp)(hr:iC (k+1) X.A)(hg:Gl X x)(hm:X.mg x=some (.ref C))(hb:Binds X.K fd ps ds)(hd:Vals dvs ds)(hx:Passes CX X E)
  (ha:PA X (e :: es) t) (hdb:(x==("__debug__" :Str))=false:=by decide) (he:starEach (e :: es) X.env=(false,eval e X.env) :: starEach es X.env:=by rfl) (hpl:(backTo pos (starEach es X.env)).any (·.1)=false:=by rfl):
  PE X (.Call (.Name x p) (e :: es) [] pos) (lZ C sp dvs E t):=by
 intro pins s σ H Q I h;refine wpAny_Call_Name_kw (sE I hg hm ?_ hdb);refine PySem.W.callWith_K (h₀:=X.base) I.ok.mod.O6 M.kp (f6 (ha pos pins s σ H _ I h) λus s1 ⟨vs,H1,I1,r,q⟩ =>⟨I1.Hj, ?_⟩) he hpl;exact Co M F hr hb hd hx I1 r q
def IS(M:Mk X.K C f)(F:nA X.prog X.w X.K X.mg X.base CX k f fd ps sp)(hr:iC (k+1) X.A)(hg:Gl X x)(hm:X.mg x=some (.ref C))(hb:Binds X.K fd ps ds)(hd:Vals dvs ds)(hx:Passes CX X E)
  (hdb:(x==("__debug__" :Str))=false:=by decide):PE X (.Call (.Name x p) [] [] pos) (lZ C sp dvs E jC):=by
 intro pins s σ H Q I h;refine wpAny_Call_Name_kw (sE I hg hm ?_ hdb);exact nQ I.Hj M.kp (Co (us:=[]) M F hr hb hd hx I .nil h)
end
structure nz(N P:List Str)(sc:Scope):Prop where
 kind:sc.kind=.function
 co:sc.isCoroutine=false
 gen:sc.isGenerator=false
 nd:N.Nodup
 pre:N.take P.length=P
 par:∀x∈P,sc.names.lookup x=some .local\/sc.names.lookup x=some .cell
 Md:∀y∈sc.names,y.2≠ .free
theorem Aa{kindOf:Str->Option NameKind}{x:Str}:∀{binds:List (Str×Value)}{m:Str->Option Value},(∀v,(x,v)∉binds)->bindL kindOf binds m x=m x
 | [],_,_=>rfl
 |(n,v) :: r,m,h=>by
  unfold bindL;rw[Aa λw hw=>h w (cZ _ hw)];split
  ·have:x≠n:=by rintro rfl;exact h v cF
   simp[this]
  ·rfl
theorem Ac{kindOf:Str->Option NameKind}{x:Str}:∀{binds:List (Str×Value)}{m:Str->Option Value},(∀v,(x,v)∉binds)->bindC kindOf binds m x=m x
 | [],_,_=>rfl
 |(n,v) :: r,m,h=>by
  unfold bindC;rw[Ac λw hw=>h w (cZ _ hw)];split
  ·rfl
  ·have:x≠n:=by rintro rfl;exact h v cF
   simp[this]
theorem Ab{kindOf:Str->Option NameKind}{x:Str}{v:Value}:∀{P:List Str}{vs:List Value}{i:Nat}{m:Str->Option Value},P.Nodup->P[i]? =some x->vs[i]? =some v->kindOf x=some .local->
  bindL kindOf (P.zip vs) m x=some v
 | [],_,_,_,_,h,_,_=>by simp at h
 |_ :: _,[],_,_,_,_,h,_=>by simp at h
 |p :: P,w :: vs,0,m,nd,h1,h2,hk=>by
  simp at h1 h2;subst h1;subst h2;show bindL kindOf ((p,w) :: P.zip vs) m p=_;unfold bindL;rw[Aa λv hv=>(fh.mp nd).1 (List.of_mem_zip hv).1,ai hk];simp
 |p :: P,w :: vs,i+1,m,nd,h1,h2,hk=>by
  show bindL kindOf ((p,w) :: P.zip vs) m x=_;unfold bindL;exact Ab (i:=i) (fh.mp nd).2 (by simpa using h1) (by simpa using h2) hk
theorem Ad{kindOf:Str->Option NameKind}{x:Str}{v:Value}:∀{P:List Str}{vs:List Value}{i:Nat}{m:Str->Option Value},P.Nodup->P[i]? =some x->vs[i]? =some v->kindOf x≠some .local->
  bindC kindOf (P.zip vs) m x=some v
 | [],_,_,_,_,h,_,_=>by simp at h
 |_ :: _,[],_,_,_,_,h,_=>by simp at h
 |p :: P,w :: vs,0,m,nd,h1,h2,hk=>by
  simp at h1 h2;subst h1;subst h2;show bindC kindOf ((p,w) :: P.zip vs) m p=_;unfold bindC;rw[Ac λv hv=>(fh.mp nd).1 (List.of_mem_zip hv).1,ag hk];simp
 |p :: P,w :: vs,i+1,m,nd,h1,h2,hk=>by
  show bindC kindOf ((p,w) :: P.zip vs) m x=_;unfold bindC;exact Ad (i:=i) (fh.mp nd).2 (by simpa using h1) (by simpa using h2) hk
def start(N:List Str)(vs:List V):St:=vs.map some++List.replicate (N.length - vs.length) none
def ET(CX:K8)(P:Program)(w:World)(K:bg)(mg:Str->Option Value)(base:Heap)(N:List Str)(qual:Str)(scope:Scope)(f:Addr)(cd:Value)(A:Around)(outer:List Env)(s:Shared)(H:Hp)(E:XK):Cx where
 prog:=P
 w:=w
 K:=K
 mg:=mg
 base:=base
 A:=A.deeper (envOfC qual scope s.heap.objs.size f cd)
 N:=N
 zN:=s
 MM:=H
 env:=envOfC qual scope s.heap.objs.size f cd
 outer:=outer
 stack:=envOfC qual scope s.heap.objs.size f cd :: outer
 ex:=[]
 calm:=true
 fn:=λ_=>true
 pn:=[]
 xe:=λe s'=>wpAny (model P w) (A.deeper (envOfC qual scope s.heap.objs.size f cd)) (leaving (envOfC qual scope s.heap.objs.size f cd) e) (λ_ s''=>CX outer H s E e s'') (λe' s''=>CX outer H s E e' s'') s'
def Dh{sc:Scope}{n:Nat}{x:Str}(h:sc.names.lookup x=some .cell):∃c,(cellsFrom n sc.names []).lookup x=some c:=by
 have q:=kb sc.names n [] (.inl h);exact wH.mp q
def Hl{CX:K8}{P:Program}{w:World}{K:bg}{mg:Str->Option Value}{base:Heap}{N ps:List Str}{qual:Str}{scope:Scope}{f:Addr}{cd:Value}{A:Around}{outer:List Env}{s s1:Shared}{H:Hp}{E:XK}{us:List Value}{vs:List V}
  (S:nz N ps scope) (hd:A.handled=none) (e0:Fb P w K mg base A outer s H) (hl:vs.length=ps.length) (r:Vals vs us)
  (x:InCallC s s.heap.objs.size (bindL (envOfC qual scope s.heap.objs.size f cd).kindOf (ps.zip us) λ_=>none) (cellsFrom (s.heap.objs.size+1) scope.names []) (bindC (envOfC qual scope s.heap.objs.size f cd).kindOf (ps.zip us) λ_=>none) s1):
  Inv (ET CX P w K mg base N qual scope f cd A outer s H E) [] (start N vs) H s1:=by
 have hpl:ps.length<=N.length:=by have:=congrArg List.length S.pre;rw[nL] at this;omega
 obtain⟨h1,tk,rfl,hk⟩:=x.done;have noA:∀b:Addr,b∉(ET CX P w K mg base N qual scope f cd A outer s H E).ex:=λb z=>aI (show b∈([]:List Addr) from z) (by simp)
 refine⟨⟨e0.mod,S.kind,rfl,rfl,bx _,λy z c h1 h2=>?_,λy hy=>?_,λy c _ h=>?_,λ_=>hd,Around.frames_deeper e0.frames,.inr ⟨rfl,rfl⟩,λb z=>aI z (noA b),e0.bs,e0.Lb,λb _ _=>noA b,λb z=>aI z (noA b),e0.vQ,e0.My⟩,
  rfl,e0.bare,Un.kept hk,⟨_,x.toInCall.ns,λi y v h1 h2 h3=>?_⟩,λy c h=>⟨_,x.cell y c h⟩,e0.bP.fresh (bx _),λy c h=>?_,λp hp=>aI (show p∈([]:List (Addr×Obj)) from hp) (by simp),e0.bP.kept hk, ?_⟩
 ·exact name_of_addr x.apart (PySem.mem_of_lookup h1) (PySem.mem_of_lookup h2)
 ·have hy:scope.names.lookup y=some .cell\/scope.names.lookup y=some .free:=hy
  rcases hy with hy |hy
  ·exact Dh hy
  ·exact aI rfl (S.Md _ (PySem.mem_of_lookup hy))
 ·exact wJ (x.above y c (PySem.mem_of_lookup h))
 ·have hi:i<vs.length:=by
   unfold start at h2;by_cases hi:i<vs.length
   ·exact hi
   ·rw[nJ (by simpa using hi)] at h2;rw[Ax] at h2;split at h2<;>cases h2
  have ha:vs[i]? =some v:=by
   unfold start at h2;rw[kM (by simpa using hi),cU] at h2;cases e:vs[i]? with
   |none=>rw[e] at h2;cases h2
   |some a=>rw[e] at h2;cases h2;rfl
  obtain⟨u,hu,rv⟩:=r.get ha;have hp:ps[i]? =some y:=by
   rw[<- S.pre,List.getElem?_take_of_lt (by omega)];exact h1
  have ndP:ps.Nodup:=by rw[<- S.pre];exact S.nd.sublist (List.take_sublist _ _)
  refine⟨u,rv, ?_⟩
  rcases S.par y (iN hp) with k |k
  ·exact .inl ⟨k,Ab ndP hp hu k⟩
  ·obtain⟨c,e⟩:=Dh (n:=s.heap.objs.size+1) k;refine .inr ⟨.inl k,c,e, ?_⟩;have q:=x.cell y c e;rw[Ad ndP hp hu (by show scope.names.lookup y≠_;rw[k];decide)] at q;exact q
 ·exact e0.bP.fresh (wJ (x.above y c (PySem.mem_of_lookup h)))
 ·unfold start;show _=N.length;rw[dR,bD,List.length_replicate];omega
def Ny{CX:K8}{P:Program}{w:World}{K:bg}{mg:Str->Option Value}{base:Heap}{k:Nat}{f:Addr}{name qual:Str}{params:Arguments}{body:List Stmt}{scope:Scope}{dV kV doc pm cdv ct oc:Value}{an od:Option Addr}
  {osl:Array (Option Value)} {N ps:List Str} {sp:Sp} (lk:K.lookup f=some ⟨oc,od,.func (fm name qual params body scope dV kV doc pm an cdv ct),osl⟩) (hcd:ka K cdv qual=true) (S:nz N ps scope)
  (len:∀vs H Q E,sp vs H Q E->vs.length=ps.length)
  (hbody:∀(A:Around)(outer:List Env)(s:Shared)(H:Hp)(vs:List V)(Q:VK)(E:XK),iC k (A.deeper (envOfC qual scope s.heap.objs.size f cdv))->sp vs H Q E->
   ∃t,Gh (ET CX P w K mg base N qual scope f cdv A outer s H E) body t/\t { nx:=λ_ H'=>Q .ez H',rt:=Q } (start N vs) H):
  nA P w K mg base CX (k+1) f (fm name qual params body scope dV kV doc pm an cdv ct) ps sp:=by
 refine⟨len,λA outer s H args us vs Q E hr e0 hb r hsp=>?_⟩;have hl:=len _ _ _ _ hsp;have KX:K.In s.heap:=e0.mod.O6.keeps λb o e=>(e0.bs b o e).1
 have lim:s.heap.NoLimit:=e0.mod.nolimit.keeps λb o e=>(e0.bs b o e).1
 have hkind:∀y∈ps.zip us,scope.names.lookup y.1=some .local\/(scope.names.lookup y.1=some .cell/\((cellsFrom (s.heap.objs.size+1) scope.names []).lookup y.1).isSome=true):=λ⟨n,v⟩ hy=>by
  rcases S.par n (List.of_mem_zip hy).1 with q |q
  ·exact .inl q
  ·exact .inr ⟨q,kb _ _ _ (.inl q)⟩
 refine codeAny_call_function hr.depth (KX _ _ lk) rfl S.co S.gen rfl (PySem.W.codeRec_of KX hcd) (hb _ _ _ _ ?_);refine wpAny_newFunctionEnv_cells S.kind hkind λenv he s1 x=>?_
 subst he;refine⟨lim.keeps x.toInCall.keep,codeAny_func ?_⟩;obtain⟨t,ht,hq⟩:=hbody A outer s H vs Q E (hr.deeper _) hsp;have I:Inv (ET CX P w K mg base N qual scope f cdv A outer s H E) [] (start N vs) H s1:=Hl S hr.hd e0 hl r x;refine wpAny_mono (ht [] s1 (start N vs) H _ I hq) (λfl s' hs=>?_) λe s' hs=>hs
 have fin:∀{σ':St}{H':Hp}{v:V}{u:Value},Inv (ET CX P w K mg base N qual scope f cdv A outer s H E) [] σ' H' s'->RelV v u->Q v H'->CE outer P w H s Q u s':=
  λ{σ' H' v u} J rv q=>⟨v,H',J.os,J.bare,J.base,J.bP,rv,q⟩
 cases fl with
 |ret u=>
  obtain⟨v,σ',H',J,rv,q⟩:=hs;exact fin J rv q
 |next=>
  obtain⟨σ',H',J,q⟩:=hs;exact fin (v:=V.ez) (u:=Value.none) J rfl q
 |brk=>
  obtain⟨_,_,_,q⟩:=hs;exact False.elim q
 |cont=>
  obtain⟨_,_,_,q⟩:=hs;exact False.elim q
section
variable {X:Cx} {x:Str} {p pos:Pos} {e:Expr} {es:List Expr} {t:TA} {id T:String} {r:List V->Hp->VK->Prop}
def Ke(r:List V->Hp->VK->Prop)(t:TA):TE:=λσ H Q=>t σ H λvs H1=>r vs H1 Q
def cC(hc:lA X (.builtin id) r)(hg:Gl X x)(hm:X.mg x=none)(hv:bootBuiltins x=some (.builtin id))(ha:PA X (e :: es) t)(hn:x≠ "__name__" :=by decide)(hdb:(x==("__debug__" :Str))=false:=by decide)
  (he:starEach (e :: es) X.env=(false,eval e X.env) :: starEach es X.env:=by rfl) (hpl:(backTo pos (starEach es X.env)).any (·.1)=false:=by rfl):PE X (.Call (.Name x p) (e :: es) [] pos) (Ke r t):=by
 intro pins s σ H Q I h;refine wpAny_Call_Name_kw (tX I hg hm hv ?_ hn hdb);exact PyProof.Rows.callWith_builtin1 (f6 (ha pos pins s σ H _ I h) λus s1 ⟨vs,H1,I1,r1,q1⟩ =>hc pins s1 σ H1 vs us Q I1 r1 q1) he hpl
def md(hc:lA X (.type T) r)(hg:Gl X x)(hm:X.mg x=none)(hv:bootBuiltins x=some (.type T))(ha:PA X (e :: es) t)(hn:x≠ "__name__" :=by decide)(hdb:(x==("__debug__" :Str))=false:=by decide)
  (he:starEach (e :: es) X.env=(false,eval e X.env) :: starEach es X.env:=by rfl) (hpl:(backTo pos (starEach es X.env)).any (·.1)=false:=by rfl):PE X (.Call (.Name x p) (e :: es) [] pos) (Ke r t):=by
 intro pins s σ H Q I h;refine wpAny_Call_Name_kw (tX I hg hm hv ?_ hn hdb);exact PyProof.Rows.callWith_type1 (f6 (ha pos pins s σ H _ I h) λus s1 ⟨vs,H1,I1,r1,q1⟩ =>hc pins s1 σ H1 vs us Q I1 r1 q1) he hpl
end
end L2
namespace HT
open PySem PyProof.Rows
section
variable {prog:Program} {w:World} {A:Around} {E:Value->Shared->Prop} {s:Shared}
def Dv(n d:Nat):Option Int->Nat
 |none=>d
 |some v=>if v<0 then (v+(n:Int)).toNat else min v.toNat n
def Fj(n d k:Nat):Dv n d (some (k:Int))=min k n:=by
 show(if (k:Int)<0 then ((k:Int)+(n:Int)).toNat else min (k:Int).toNat n)=min k n;rw[ag (by omega),oF]
end
end HT
namespace L2
open PySem PySem.Spec PyProof.Rows
abbrev TO:=St->Hp->(Option Int->Hp->Prop)->Prop
def PO(X:Cx)(e:Option Expr)(t:TO):Prop:=
 ∀(pins:List (Addr×Obj))(s:Shared)(σ:St)(H:Hp)(Q:Option Int->Hp->Prop),Inv X pins σ H s->t σ H Q->
  wpAny (model X.prog X.w) X.A (evalPart e X.env) (λu s'=> ∃o H',Inv X pins σ H' s'/\IsPart u o/\Q o H') X.xe s
def Ie(t:TE):TO:=λσ H Q=>t σ H λx H1=> ∃i,x=.int i/\Q (some i) H1
section
variable {X:Cx} {e:Expr} {te:TE} {lo hi:Option Expr} {tl th:TO} {pos p2:Pos}
def w8(h:PE X e te):PO X (some e) (Ie te):=by
 intro pins s σ H Q I hw;rw[evalPart_some];refine f6 (h pins s σ H _ I hw) λu s1 ⟨x,H1,I1,r1,q1⟩ =>?_
 obtain⟨i,rfl,q⟩:=q1;obtain⟨t,rfl⟩:=r1;exact⟨some i,H1,I1,.int i t,q⟩
def OR(X:Cx)(r:V->Option Int->Option Int->Hp->VK->Prop):Prop:=
 ∀(pins:List (Addr×Obj))(s:Shared)(σ:St)(H:Hp)(x:V)(v vl vu:Value)(lo hi:Option Int)(sl:Addr)(Q:VK),Inv X pins σ H s->RelV x v->s.heap.IsSliceOf sl vl vu .none->IsPart vl lo->IsPart vu hi->r x lo hi H Q->
  ∃T id,typeLookup (.type T) "__getitem__" =pure (some (.builtin id))/\s.TypeIs v T/\wpAny (model X.prog X.w) X.A (getItem v (.ref sl)) (EP X pins σ Q) X.xe s
def OL(r:V->Option Int->Option Int->Hp->VK->Prop)(te:TE)(tl th:TO):TE:=λσ H Q=>te σ H λx H1=>tl σ H1 λl H2=>th σ H2 λu H3=>r x l u H3 Q
def Cv(hr:OR X r)(he:PE X e te)(hl:PO X lo tl)(hu:PO X hi th):PE X (.Subscript e (.Slice lo hi none p2) pos) (OL r te tl th):=by
 intro pins s σ H Q I h;refine Subscript_ (f6 (he pins s σ H _ I h) λv s1 ⟨x,H1,I1,r1,q1⟩ =>?_);refine wpAny_Slice (f6 (hl pins s1 σ H1 _ I1 q1) λvl s2 ⟨l,H2,I2,pl,q2⟩ =>f6 (hu pins s2 σ H2 _ I2 q2) λvu s3 ⟨u,H3,I3,pu,q3⟩ =>?_);rw[evalPart_none];refine aM ?_;have I4:Inv X pins σ H3 { s3 with heap:=s3.heap.push { cls:=.type "slice",data:=.fields #[vl,vu,.none] } }:=I3.kept (t':=s3.toks) λb ob q=>dF _ q
 obtain⟨T,id,hT,ht,hg⟩:=hr pins { s3 with heap:=s3.heap.push { cls:=.type "slice",data:=.fields #[vl,vu,.none] } } σ H3 x v vl vu l u s3.heap.objs.size Q I4 r1 (Heap.IsSliceOf.new ..) pl pu q3;show wpAny (model X.prog X.w) X.A (subscriptTail e (.Slice lo hi none p2) v (.ref s3.heap.objs.size)) (EP X pins σ Q) X.xe { s3 with heap:=s3.heap.push { cls:=.type "slice",data:=.fields #[vl,vu,.none] } };exact tail_any (ops:=[.ref s3.heap.objs.size,v]) ht hT hg (by with_unfolding_all rfl)
def HB(xs:List V)(lo hi:Option Int):List V:=(xs.drop (HT.Dv xs.length 0 lo)).take (HT.Dv xs.length xs.length hi - HT.Dv xs.length 0 lo)
def Dg(xs:List V)(lo hi:Option Int):(HB xs lo hi).length<=xs.length:=by
 unfold HB;rw[nL,uw];omega
end
noncomputable def Hk (n:Nat) (i:Int):Option Nat:=if 0<=i then (if i<n then some i.toNat else none) else if -(n:Int)<=i then some (i+n).toNat else none
def Dq{α:Type}(xs:List α)(i:Int):Option α:=(Hk xs.length i).bind λj=>xs[j]?
def FJ(h:Hk n i=some j):seqIndex? i n=some j/\j<n/\ -(n:Int)<=i/\i<n:=by
 unfold Hk at h;by_cases h0:0<=i
 ·rw[ai h0] at h;by_cases h1:i<n
  ·rw[ai h1] at h;have e:i.toNat=j:=Option.some.inj h;exact⟨by rw[seqIndex_of h0 h1,e],by omega,by omega,h1⟩
  ·rw[ag h1] at h;cases h
 ·rw[ag h0] at h;by_cases h1: -(n:Int)<=i
  ·rw[ai h1] at h;have e:(i+n).toNat=j:=Option.some.inj h;exact⟨by rw[seqIndex_neg (by omega) h1,e],by omega,h1,by omega⟩
  ·rw[ag h1] at h;cases h
def Ge(h:Dq xs i=some v):∃j,seqIndex? i xs.length=some j/\xs[j]? =some v/\j<xs.length/\ -(xs.length:Int)<=i/\i<xs.length:=by
 unfold Dq at h;cases e:Hk xs.length i with
 |none=>rw[e] at h;cases h
 |some j=>
  rw[e] at h;obtain⟨h1,h2,h3,h4⟩:=FJ e;exact⟨j,h1,h,h2,h3,h4⟩
def bG{α:Type}{xs:List α}{j:Nat}{v:α}(h:xs[j]? =some v):Dq xs (j:Int)=some v:=by
 have hj:j<xs.length:=(dm.mp h).1;have e:Hk xs.length (j:Int)=some j:=by
  unfold Hk;rw[ai (by omega),ai (by omega)];simp
 unfold Dq;rw[e];exact h
def mB(xs:List α)(v:α):Dq (xs++[v]) (-1)=some v:=by
 have hl:(xs++[v]).length=xs.length+1:=by simp
 have e:Hk (xs++[v]).length (-1)=some xs.length:=by
  unfold Hk;rw[hl,ag (by decide),ai (by omega)];congr 1;omega
 unfold Dq;rw[e];show(xs++[v])[xs.length]? =some v;simp
def BM(b:Expr):Prop:= ∀o i,subscripted b false o i=operate [o,i] (getItem o i)
def OJ(X:Cx)(r:R2):Prop:=
 ∀(value slice:Expr)(pins:List (Addr×Obj))(s:Shared)(σ:St)(H:Hp)(x y:V)(v u:Value)(Q:VK),Inv X pins σ H s->RelV x v->RelV y u->r x y H Q->
  subscripted slice false v u=operate [v,u] (getItem v u)->wpAny (model X.prog X.w) X.A (subscriptTail value slice v u) (EP X pins σ Q) X.xe s
def OU(X:Cx)(id:String)(r:V->List V->Hp->VK->Prop):Prop:=
 ∀(pins:List (Addr×Obj))(s:Shared)(σ:St)(H:Hp)(x:V)(xs:List V)(v:Value)(us:List Value)(Q:VK),Inv X pins σ H s->RelV x v->Vals xs us->r x xs H Q->
  wpAny (model X.prog X.w) X.A (call (.builtin id) (v :: us)) (EP X pins σ Q) X.xe s
section
variable {X:Cx} {a b:Expr} {ta tb:TE} {pos:Pos}
def kS(hr:OJ X r)(ha:PE X a ta)(hb:PE X b tb)(hs:BM b):PE X (.Subscript a b pos) (jR r ta tb):=by
 intro pins s σ H Q I h;exact Subscript_ (MI ha hb I h λv u s2 x y H2 I2 rx ry q=>hr a b pins s2 σ H2 x y v u Q I2 rx ry q (hs _ _))
def gY(K:bg):R2:=λx y H Q=> ∃p xs i v,x=.ref p/\y=.int i/\cG K H p xs/\Dq xs i=some v/\Q v H
def qS(K:bg):R2:=λx y H Q=> ∃p xs i v,x=.ref p/\y=.int i/\uh K H p xs/\Dq xs i=some v/\Q v H
def mX:OJ X (gY X.K):=by
 intro value slice pins s σ H x y v u Q I rx ry h hs;obtain⟨p,xs,i,z,rfl,rfl,hq,he,q⟩:=h;cases rx;obtain⟨t,rfl⟩:=ry;obtain⟨its,r,pl,hz⟩:=I.list hq;obtain⟨j,h1,h2,h3,h4,h5⟩:=Ge he;obtain⟨w,ew,rw'⟩:=r.get h2;have hl:=r.length;have hn:=Bi;have fin:EP X pins σ Q w s:=⟨z,H,I,rw',q⟩;by_cases h0:0<=i
 ·have hj:i.toNat=j:=by
   rw[seqIndex_of h0 h5] at h1;exact Option.some.inj h1
  exact item_listR pl.isList h0 (by omega) (by rw[hj];simpa using ew) fin hs
 ·have hj:(i+(its.toArray.size:Int)).toNat=j:=by
   rw[seqIndex_neg (by omega) h4] at h1;rw[dE,<- hl];exact Option.some.inj h1
  exact subscriptTail_builtinR (x:=w) pl.isList.typeIs slot_list_getitem.lookup
   (wpAny_getItem_list_neg (Q:=λr s'=>r=w/\EP X pins σ Q r s') pl.isList (by omega) (by rw[dE]<;>omega) (by omega) (by rw[hj];simpa using ew) ⟨rfl,fin⟩) hs
def r6:OJ X (qS X.K):=by
 intro value slice pins s σ H x y v u Q I rx ry h hs;obtain⟨p,xs,i,z,rfl,rfl,hq,he,q⟩:=h;cases rx;obtain⟨t,rfl⟩:=ry;obtain⟨its,r,pl,hz⟩:=I.tuple hq;obtain⟨j,h1,h2,h3,h4,h5⟩:=Ge he;obtain⟨w,ew,rw'⟩:=r.get h2;have hl:=r.length;have hn:=Bi;have fin:EP X pins σ Q w s:=⟨z,H,I,rw',q⟩;exact subscriptTail_builtinR (x:=w) pl.typeIs slot_tuple_getitem.lookup
  (getItem_tuple (j:=j) (Q:=λr s'=>r=w/\EP X pins σ Q r s') pl (by omega) (by omega) (by rw[dE,<- hl];exact h1) (by simpa using ew) ⟨rfl,fin⟩) hs
def Er(its:List Value)(n j:Nat)(u:Value):Obj.mapSeq (·.setIfInBounds j u) { cls:=.type "list",data:=.seq its.toArray n }= { cls:=.type "list",data:=.seq (its.set j u).toArray n }:=by
 simp[Obj.mapSeq]
theorem Inv.lst(I:Inv X pins σ H s)(h:H p=some (.lst xs)):
  ∃(its:List Value)(n:Nat),Vals xs its/\s.heap.get? p=some { cls:=.type "list",data:=.seq its.toArray n } /\xs.length<=sizeLine:=by
 obtain⟨z,its,n,r,e⟩:=I.bP p _ h;exact⟨its,n,r,e,z⟩
def Inv.Mf{pins:List (Addr×Obj)}{σ:St}{H:Hp}{s:Shared}{p:Addr}{xs ys:List V}{its its':List Value}{n n':Nat}{f:Obj->Obj}(I:Inv X pins σ H s)(h:H p=some (.lst xs))
  (ho:s.heap.get? p=some { cls:=.type "list",data:=.seq its.toArray n }) (hf:f { cls:=.type "list",data:=.seq its.toArray n }= { cls:=.type "list",data:=.seq its'.toArray n' }) (r:Vals ys its') (hz:ys.length<=sizeLine) (t:Nat):
  Inv X pins σ (upd H p (.lst ys)) { s with heap:=s.heap.update p f,toks:=t }:=by
 have e:(s.heap.update p f).get? p=some { cls:=.type "list",data:=.seq its'.toArray n' }:=by
  rw[rm f ho (by rw[hf]<;>rfl),hf]
 refine I.write (x:=p) (e:=p) (by rw[h];trivial) (.inl rfl) (λb u hb q=>(Aw _ _ (Ne.symm hb)).trans q) ⟨_,e⟩ ?_;exact⟨hz,its',n',r,e⟩
def Nf:V->V->V->Hp->(Hp->Prop)->Prop:=λo i v H Q=> ∃p xs k j,o=.ref p/\i=.int k/\H p=some (.lst xs)/\Hk xs.length k=some j/\Q (upd H p (.lst (xs.set j v)))
def set_list:NR X Nf:=by
 intro pins s σ H o i v ov iv u Q I ro ri rv h;obtain⟨p,xs,k,j,rfl,rfl,hp,hj,q⟩:=h;cases ro;obtain⟨t,rfl⟩:=ri;obtain⟨its,n,r,ho,hz⟩:=I.lst hp;obtain⟨h1,h2,h3,h4⟩:=FJ hj;have hl:=r.length;have hn:=Bi;have I':Inv X pins σ (upd H p (.lst (xs.set j v))) { s with heap:=s.heap.update p (Obj.mapSeq (·.setIfInBounds j u)) }:=
  I.Mf hp ho (Er its n j u) (r.set rv j) (by rw[rl];exact hz) s.toks
 by_cases h0:0<=k
 ·have hk:k.toNat=j:=by
   rw[seqIndex_of h0 h4] at h1;exact Option.some.inj h1
  exact PySem.W.ki_setAt ho h0 (by omega) (by rw[dE,<- hl];exact h4) (by rw[hk];exact⟨_,I',q⟩)
 ·have hk:(k+(its.toArray.size:Int)).toNat=j:=by
   rw[seqIndex_neg (by omega) h3] at h1;rw[dE,<- hl];exact Option.some.inj h1
  exact PySem.W.ki_setBack ho (by omega) (by rw[dE,<- hl];exact h3) (by omega) (by rw[hk];exact⟨_,I',q⟩)
def AQ(lo hi:Option Int)(n:Nat):(sliceBounds lo hi none n).1=((HT.Dv n 0 lo:Nat):Int)/\(sliceBounds lo hi none n).2.1=((HT.Dv n n hi:Nat):Int)/\(sliceBounds lo hi none n).2.2=1:=by
 refine⟨?_, ?_,rfl⟩
 ·cases lo with
  |none=>simp[sliceBounds,HT.Dv]
  |some i=>
   simp only[sliceBounds,HT.Dv,Option.getD_none,show(1:Int) > 0 by decide,if_true];by_cases h:i<0
   ·simp only[h,if_true]<;>omega
   ·simp only[h,if_false]<;>omega
 ·cases hi with
  |none=>simp[sliceBounds,HT.Dv]
  |some i=>
   simp only[sliceBounds,HT.Dv,Option.getD_none,show(1:Int) > 0 by decide,if_true];by_cases h:i<0
   ·simp only[h,if_true]<;>omega
   ·simp only[h,if_false]<;>omega
def yO(its:List Value)(lo hi:Option Int):slicePick its.toArray lo hi none=((its.drop (HT.Dv its.length 0 lo)).take (HT.Dv its.length its.length hi - HT.Dv its.length 0 lo)).toArray:=by
 obtain⟨h1,h2,h3⟩:=AQ lo hi its.toArray.size;unfold slicePick;rw[h1,h2,h3];simp only[sliceRange_one,pick_run,dE]<;>rfl
def Nc(K:bg):V->Option Int->Option Int->Hp->VK->Prop:=λx lo hi H Q=> ∃a xs,x=.ref a/\cG K H a xs/\∀p,H p=none->Q (.ref p) (upd H p (.lst (HB xs lo hi)))
def Fi:OR X (Nc X.K):=by
 intro pins s σ H x v vl vu lo hi sl Q I rx hs pl pu h;obtain⟨a,xs,rfl,hx,q⟩:=h;cases rx;obtain⟨its,r,ht,hz⟩:=I.list hx;have hlen:=r.length;refine⟨"list",_,slot_list_getitem.lookup,ht.isList.typeIs, ?_⟩;refine wpAny_getItem_list_slice ht.isList hs pl pu .none (by simp) ?_ (by rw[dE]<;>omega);rw[yO,<- hlen];refine⟨.ref s.heap.objs.size,_,I.laid (t':=s.toks) (o:=.lst (HB xs lo hi)) (λb ob q=>dF _ q) (bx _) ?_,rfl,q _ (I.bP.fresh (bx _))⟩;exact⟨eY (Dg xs lo hi) hz,_,0,(r.drop (HT.Dv xs.length 0 lo)).take (HT.Dv xs.length xs.length hi - HT.Dv xs.length 0 lo),eG _ rfl⟩
def sO:V->Bool
 |.ez=>true
 |.bl _=>true
 |.int _=>true
 |.str _=>true
 |_=>false
noncomputable def Ka:V->V->Bool
 |.ez,.ez=>true
 |.bl a,.bl b=>a==b
 |.bl a,.int b=>(if a then 1 else 0)==b
 |.int a,.bl b=>a==(if b then 1 else 0)
 |.int a,.int b=>a==b
 |.str a,.str b=>a==b
 |_,_=>false
def MB(ry:RelV y u)(rx:RelV x v)(fy:sO y=true)(fx:sO x=true):SeqAt.EqAt A s u v (Ka y x):=by
 cases y with
 |ez=>
  cases ry;cases x with
  |ez=>cases rx;exact SeqAt.EqAt.same _
  |bl b=>cases rx;exact SeqAt.EqAt.none_bool b
  |int b=>obtain⟨t,rfl⟩:=rx;exact SeqAt.EqAt.none_int b t
  |str b=>obtain⟨t,rfl⟩:=rx;exact SeqAt.EqAt.none_str b t
  |_=>exact aI (show false=true from fx) fj
 |bl a=>
  cases ry;cases x with
  |ez=>cases rx;exact SeqAt.EqAt.bool_none a
  |bl b=>cases rx;exact SeqAt.EqAt.bool_bool a b
  |int b=>obtain⟨t,rfl⟩:=rx;exact SeqAt.EqAt.bool_int a b t
  |str b=>obtain⟨t,rfl⟩:=rx;exact SeqAt.EqAt.bool_str a b t
  |_=>exact aI (show false=true from fx) fj
 |int a=>
  obtain⟨t',rfl⟩:=ry;cases x with
  |ez=>cases rx;exact SeqAt.EqAt.int_none a t'
  |bl b=>cases rx;exact SeqAt.EqAt.int_bool a t' b
  |int b=>obtain⟨t,rfl⟩:=rx;exact SeqAt.EqAt.int_int a t' b t
  |str b=>obtain⟨t,rfl⟩:=rx;exact SeqAt.EqAt.int_str a t' b t
  |_=>exact aI (show false=true from fx) fj
 |str a=>
  obtain⟨t',rfl⟩:=ry;cases x with
  |ez=>cases rx;exact SeqAt.EqAt.str_none a t'
  |bl b=>cases rx;exact SeqAt.EqAt.str_bool a t' b
  |int b=>obtain⟨t,rfl⟩:=rx;exact SeqAt.EqAt.str_int a t' b t
  |str b=>obtain⟨t,rfl⟩:=rx;exact SeqAt.EqAt.str_str a t' b t
  |_=>exact aI (show false=true from fx) fj
 |_=>exact aI (show false=true from fy) fj
noncomputable def L6 (x:V) (u:Value):Bool:=match u with
 |.none=>Ka .ez x
 |.bool b=>Ka (.bl b) x
 |.int i _=>Ka (.int i) x
 |.str z _=>Ka (.str z) x
 |_=>false
def JI(r:RelV y u)(f:sO y=true):L6 x u=Ka y x:=by
 cases y with
 |ez=>cases r;rfl
 |bl b=>cases r;rfl
 |int i=>obtain⟨t,rfl⟩:=r;rfl
 |str z=>obtain⟨t,rfl⟩:=r;rfl
 |_=>exact aI (show false=true from f) fj
theorem BJ:∀{xs:List V}{us:List Value},Vals xs us->xs.all sO=true->us.any (L6 x)=xs.any λy=>Ka y x
 |_,_,.nil,_=>rfl
 |y :: xs,u :: us,.cons r t,f=>by
  rw[Av,i6] at f;rw[wG,wG,JI r f.1,BJ t f.2]
theorem xP(rx:RelV x v)(fx:sO x=true):∀{xs:List V}{us:List Value},Vals xs us->xs.all sO=true->∀u∈us,SeqAt.EqAt A s u v (L6 x u)
 |_,_,.nil,_=>λu hu=>by cases hu
 |y :: xs,u :: us,.cons r t,f=>λu' hu=>by
  rw[Av,i6] at f
  rcases bp.mp hu with rfl |hu
  ·rw[JI r f.1];exact MB r rx f.1 fx
  ·exact xP rx fx t f.2 u' hu
def O7(x:V)(xs:List V):Bool:=xs.any λy=>Ka y x
def ON(K:bg)(neg:Bool):R2:=λx y H Q=> ∃p xs,y=.ref p/\(cG K H p xs\/uh K H p xs)/\sO x=true/\xs.all sO=true/\Q (.bl (if neg then !O7 x xs else O7 x xs)) H
def GN:tE X (compareOp .In) (ON X.K false):=by
 intro pins s σ H x y v u Q I rx ry h;obtain⟨p,xs,rfl,hq,fx,fs,q⟩:=h;cases ry
 rcases hq with hq |hq
 ·obtain⟨its,r,pl,hz⟩:=I.list hq;refine SeqAt.in_listAt (L6 x) pl.isList (λw hw=>xP rx fx r fs w (by simpa using hw)) ⟨.bl _,H,I,rfl, ?_⟩;rw[show its.toArray.any (L6 x)=its.any (L6 x) by simp,BJ r fs];exact q
 ·obtain⟨its,r,pl,hz⟩:=I.tuple hq;refine SeqAt.in_tupleAt (L6 x) pl (λw hw=>xP rx fx r fs w (by simpa using hw)) ⟨.bl _,H,I,rfl, ?_⟩;rw[show its.toArray.any (L6 x)=its.any (L6 x) by simp,BJ r fs];exact q
def BE:lA X (.builtin "len") (λxs H Q=> ∃p ys,xs=[.ref p]/\(cG X.K H p ys\/uh X.K H p ys)/\Q (.int ys.length) H):=by
 intro pins s σ H xs us Q I r h;obtain⟨p,ys,rfl,hq,q⟩:=h;obtain⟨u,rfl,rx⟩:=vals1 r;cases rx;have hn:=Bi
 rcases hq with hq |hq
 ·obtain⟨its,r',pl,hz⟩:=I.list hq;have hlen:=r'.length;exact Calls.call_len_list pl.isList (by simp only[dE]<;>omega) ⟨.int ys.length,H,I.tok _,⟨s.toks+1,by rw[dE,hlen]⟩,q⟩
 ·obtain⟨its,r',pl,hz⟩:=I.tuple hq;have hlen:=r'.length;exact len_tuple pl (by simp only[dE]<;>omega) ⟨.int ys.length,H,I.tok _,⟨s.toks+1,by rw[dE,hlen]⟩,q⟩
def sV:lA X (.type "list") (λxs H Q=> ∃p ys,xs=[.ref p]/\(cG X.K H p ys\/uh X.K H p ys)/\∀l,H l=none->Q (.ref l) (upd H l (.lst ys))):=by
 intro pins s σ H xs us Q I r h;obtain⟨p,ys,rfl,hq,q⟩:=h;obtain⟨u,rfl,rx⟩:=vals1 r;cases rx;have fin:∀(its:List Value),Vals ys its->ys.length<=sizeLine->∀(h':Heap)(c':Nat),(∀b o',s.heap.get? b=some o'->h'.get? b=some o')->
   h'.get? s.heap.objs.size=some { cls:=.type "list",dict:=none,data:=.seq its.toArray c',slots:= #[] } ->EP X pins σ Q (.ref s.heap.objs.size) { s with heap:=h' }:=λits r' hz h' c' kp e=>
  ⟨.ref s.heap.objs.size,_,I.laid (t':=s.toks) kp (bx _) (show eP X.prog X.w _ h' _ (.lst ys) from⟨hz,its,c',r',e⟩),rfl,q _ (I.bP.fresh (bx _))⟩
 rcases hq with hq |hq
 ·obtain⟨its,r',pl,hz⟩:=I.list hq;have hlen:=r'.length;obtain⟨o,ho,hc,n,hd⟩:=pl.isList;exact call_list_seq p (.inl rfl) ho hc hd (λh' c' kp e=>fin its r' hz h' c' kp e) (by simp only[dE]<;>omega)
 ·obtain⟨its,r',pl,hz⟩:=I.tuple hq;have hlen:=r'.length;obtain⟨o,ho,hc,n,hd⟩:=pl;exact call_list_seq p (.inr rfl) ho hc hd (λh' c' kp e=>fin its r' hz h' c' kp e) (by simp only[dE]<;>omega)
def Of(K:bg)(T:String)(x:V)(H:Hp):Prop:=match x with
 |.str _=>T= "str"
 |.int _=>T= "int"
 |.ref p=>(T= "list" /\∃xs,cG K H p xs)\/(T= "tuple" /\∃o,K.lookup p=some o/\o.cls=.type "tuple" /\o.dict=none)\/
   (T= "dict" /\((∃kvs,H p=some (.dK kvs))\/∃kvs,H p=some (.dT kvs)))\/(T= "set" /\∃S n,H p=some (.set S n))
 |_=>False
def Ia(I:Inv X pins σ H s)(r:RelV x v)(ty:Of X.K T x H):
  s.TypeIs v T/\∀a,v=.ref a->∃ob,s.heap.get? a=some ob/\ob.dict=none:=by
 cases x with
 |str z=>
  obtain⟨t,rfl⟩:=r;cases (show T= "str" from ty);exact⟨typeIs_str s z t,λ_ e=>nomatch e⟩
 |int i=>
  obtain⟨t,rfl⟩:=r;cases (show T= "int" from ty);exact⟨typeIs_int s i t,λ_ e=>nomatch e⟩
 |ref p=>
  cases r
  rcases ty with⟨rfl,xs,hq⟩ | ⟨rfl,o,hk,hc,hd⟩ | ⟨rfl,hk⟩ | ⟨rfl,S,n,hk⟩
  ·obtain⟨its,_,pl,_⟩:=I.list hq;refine⟨pl.isList.typeIs,λa e=>?_⟩;cases e;obtain⟨o,n,e,c,hd,_⟩:=pl;exact⟨o,e,hd⟩
  ·refine⟨⟨o,I.Hj p o hk,hc⟩,λa e=>?_⟩;cases e;exact⟨o,I.Hj _ o hk,hd⟩
  ·have z:∃o,s.heap.get? p=some o/\o.ExactDict:=by
    rcases hk with⟨kvs,hk⟩ | ⟨kvs,hk⟩
    ·obtain⟨_,_,_,_,o,_,_,e,ex,_⟩:=I.bP p _ hk;exact⟨o,e,ex⟩
    ·obtain⟨_,_,_,_,o,_,_,e,ex,_⟩:=I.bP p _ hk;exact⟨o,e,ex⟩
   obtain⟨o,e,ex⟩:=z;refine⟨⟨o,e,ex.1⟩,λa e2=>?_⟩;cases e2;exact⟨o,e,ex.2.1⟩
  ·obtain⟨o,_,_,_,e,ex,_⟩:=I.bP p _ hk;refine⟨⟨o,e,ex.1⟩,λa e2=>?_⟩;cases e2;exact⟨o,e,ex.2.1⟩
 |_=>exact False.elim ty
def MY(K:bg)(T:String)(r:V->List V->Hp->VK->Prop)(to:TE):TE:=λσ H Q=>to σ H λx H1=>Of K T x H1/\r x [] H1 Q
def Lm(K:bg)(T:String)(r:V->List V->Hp->VK->Prop)(to:TE)(t:TA):TE:=λσ H Q=>to σ H λx H1=>Of K T x H1/\t σ H1 λxs H2=>r x xs H2 Q
variable {o e:Expr} {es:List Expr} {to:TE} {t:TA} {name:Str} {apos cpos:Pos} {T id:String} {r:V->List V->Hp->VK->Prop}
def B3(pa:PlainAttrs T)(slot:Slot T name id)(hty:typeOf (.builtin id)=pure (.type "method_descriptor"))(hm:OU X id r)(ho:PE X o to)
  (hbase:attributeBase o name X.env (eval o X.env)=eval o X.env:=by rfl) (hline:(apos.endLine==cpos.line)=true:=by rfl):PE X (.Call (.Attribute o name apos) [] [] cpos) (MY X.K T r to):=by
 intro pins s σ H Q I h;refine wpAny_Call_method0_late hbase hline (f6 (ho pins s σ H _ I h) λv s1 ⟨x,H1,I1,r1,ty,q1⟩ =>?_);obtain⟨h1,h2⟩:=Ia I1 r1 ty;exact⟨T,id,pa,slot,hty,h1,h2,Calls.callWith_builtin rfl (PySem.evalArgs_none (hm pins s1 σ H1 x [] v [] Q I1 r1 .nil q1))⟩
def Fx(pa:PlainAttrs T)(slot:Slot T name id)(hty:typeOf (.builtin id)=pure (.type "method_descriptor"))(hm:OU X id r)(ho:PE X o to)(ha:PA X (e :: es) t)
  (hbase:attributeBase o name X.env (eval o X.env)=eval o X.env:=by rfl)
  (hfew:((backTo cpos (starEach (e :: es) X.env)).all (λx=>!x.1)&&(backToKw cpos (keywordEach [] X.env)).all (λx=>x.1.isSome)
   &&decide ((e :: es).length+([]:List Keyword).length+(if ([]:List Keyword).isEmpty then 0 else 1)<30))=true:=by rfl)
  (hline:(apos.endLine==cpos.line)=true:=by rfl) (hs:starEach (e :: es) X.env=(false,eval e X.env) :: starEach es X.env:=by rfl) (hplain:(backTo cpos (starEach es X.env)).any (·.1)=false:=by rfl):
  PE X (.Call (.Attribute o name apos) (e :: es) [] cpos) (Lm X.K T r to t):=by
 intro pins s σ H Q I h;refine wpAny_Call_method_late hbase hfew hline rfl (f6 (ho pins s σ H _ I h) λv s1 ⟨x,H1,I1,r1,ty,q1⟩ =>?_);obtain⟨h1,h2⟩:=Ia I1 r1 ty;refine⟨T,id,pa,slot,hty,h1,h2, ?_⟩;have hA:=ha cpos pins s1 σ H1 _ I1 q1;rw[hs] at hA⊢;refine Calls.callWith_builtin (by show(false||(backTo cpos (starEach es X.env)).any (·.1))=false;rw[hplain]<;>rfl) (Calls.evalArgs_plain ?_);exact f6 hA λus s2 ⟨vs,H2,I2,r2,q2⟩ =>hm pins s2 σ H2 x vs v us Q I2 r1 r2 q2
end
def Od(X:Cx)(id:String)(r:V->List V->Hp->VK->Prop):Prop:=
 ∀(pins:List (Addr×Obj))(s:Shared)(σ:St)(H:Hp)(x:V)(xs:List V)(v:Value)(us:List Value)(Q:VK),Inv X pins σ H s->RelV x v->Vals xs us->r x xs H Q->
  wpAny (model X.prog X.w) X.A (call (.builtin id) (v :: us)) (EP X pins σ Q) X.xe s
def Vals.one:∀{x:V}{us:List Value},Vals [x] us->∃u,us=[u]/\RelV x u
 |_,_,.cons r .nil=>⟨_,rfl,r⟩
def Vals.zero:∀{us:List Value},Vals [] us->us=[]
 |_,.nil=>rfl
theorem Vals.dropLast(h:Vals xs us):Vals xs.dropLast us.dropLast:=by
 induction h with
 |nil=>exact .nil
 |cons r t ih=>
  cases t with
  |nil=>exact .nil
  |cons q t'=>exact .cons r ih
theorem Vals.rep(h:Vals xs us):∀k:Nat,Vals (List.replicate k xs).flatten (List.replicate k us).flatten
 |0=>.nil
 |k+1=>by
  rw[wF,wF,BW,BW];exact Vals.append h (Vals.rep h k)
def EJ(l:List α):l.eraseIdx (l.length - 1)=l.dropLast:=by
 induction l with
 |nil=>rfl
 |cons a r ih=>
  cases r with
  |nil=>rfl
  |cons b r=>
   have e:(a :: b :: r).length - 1=((b :: r).length - 1)+1:=by
    have h1:(a :: b :: r).length=r.length+2:=rfl;have h2:(b :: r).length=r.length+1:=rfl;omega
   rw[e,List.eraseIdx_cons_succ,ih]
   all_goals rfl
theorem foldl_rep(its:List Value):∀(k:Nat)(acc:List Value),
  List.foldl (λx1 x2=>x1++x2) acc.toArray (List.replicate k its.toArray)=(acc++(List.replicate k its).flatten).toArray
 |0,acc=>by simp
 |k+1,acc=>by
  have e:acc.toArray++its.toArray=(acc++its).toArray:=by simp
  have e2:(acc++its)++(List.replicate k its).flatten=acc++(List.replicate (k+1) its).flatten:=by
   rw[wF,BW,dW]
  rw[<- e2,<- foldl_rep its k (acc++its),<- e,wF,uv]
section
variable {X:Cx} {pins:List (Addr×Obj)} {σ:St} {H:Hp} {s:Shared} {l b:Addr} {xs ys zs:List V}
def Inv.KN{its its':List Value}{n:Nat}{f:Array Value->Array Value}{t':Nat}(I:Inv X pins σ H s)(hH:H l=some (.lst xs))
  (e:s.heap.get? l=some { cls:=.type "list",data:=.seq its.toArray n }) (hf:f its.toArray=its'.toArray) (hv:Vals ys its') (hz:ys.length<=sizeLine):
  Inv X pins σ (upd H l (.lst ys)) { s with heap:=s.heap.update l (Obj.mapSeq f),toks:=t' }:=by
 have q:=PySem.IsL.update e f;rw[hf] at q;refine I.write (x:=l) (e:=l) (by rw[hH];exact trivial) (.inl rfl) (λb' u hb hu=>(Aw s.heap (Obj.mapSeq f) (Ne.symm hb)).trans hu) ⟨_,q⟩ ?_;exact⟨hz,its',_,hv,q⟩
def Inv.Np(I:Inv X pins σ H s)(hv:Vals ys its)(hz:ys.length<=sizeLine):
  Inv X pins σ (upd H s.heap.objs.size (.lst ys)) { s with heap:=s.heap.push { cls:=.type "list",data:=.seq its.toArray },toks:=t' }:=
 I.laid (λ_ _ q=>dF _ q) (bx _) ⟨hz,its,0,hv,eG _ rfl⟩
theorem Inv.fresh(I:Inv X pins σ H s):H s.heap.objs.size=none:=I.bP.fresh (bx _)
def Inv.CM(I:Inv X pins σ H s)(hH:H l=some (.lst xs)):xs.length<=sizeLine/\∃(its:List Value)(n:Nat),Vals xs its/\xs.length=its.length/\s.heap.get? l=some { cls:=.type "list",data:=.seq its.toArray n }:=by
 obtain⟨z,its,n,r,e⟩:=I.bP l _ hH;exact⟨z,its,n,r,r.length,e⟩
def xM(h:n<=sizeLine):Builtin.List.listTooLong n=false:=by
 unfold Builtin.List.listTooLong;exact decide_eq_false (by omega)
end
section
variable {X:Cx}
def jS:V->List V->Hp->VK->Prop:=λx vs H Q=> ∃l xs y,x=.ref l/\vs=[y]/\H l=some (.lst xs)/\xs.length<sizeLine/\Q .ez (upd H l (.lst (xs++[y])))
def GV:Od X "list.append" jS:=by
 intro pins s σ H x vs v us Q I rx rv h;obtain⟨l,xs,y,rfl,rfl,hH,hz,q⟩:=h;cases rx;obtain⟨u,rfl,ru⟩:=rv.one;obtain⟨z,its,n,r,hl,e⟩:=I.CM hH;refine call_meets F.slot_list_append ⟨_,e,rfl⟩ F.entry_list_append (F.args_list_append_2 _ _) (PySem.list_append l its.toArray n u (by rw[dE];omega)) ⟨e, ?_⟩;refine⟨.ez,_,I.KN (its':=its++[u]) hH e (by simp) (r.append (.cons ru .nil)) ?_,rfl,q⟩;rw[dR,fD];omega
def Kq:V->List V->Hp->VK->Prop:=λx vs H Q=> ∃l b xs zs,x=.ref l/\vs=[.ref b]/\H l=some (.lst xs)/\H b=some (.lst zs)/\xs.length+zs.length<=sizeLine/\Q .ez (upd H l (.lst (xs++zs)))
def zU:Od X "list.extend" Kq:=by
 intro pins s σ H x vs v us Q I rx rv h;obtain⟨l,b,xs,zs,rfl,rfl,hH,hB,hz,q⟩:=h;cases rx;obtain⟨u,rfl,ru⟩:=rv.one;cases ru;obtain⟨z,its,n,r,hl,e⟩:=I.CM hH;obtain⟨z2,its2,n2,r2,hl2,e2⟩:=I.CM hB;have hsz:its.toArray.size+its2.toArray.size<=sizeLine:=by rw[dE,dE];omega
 have hlong:¬(!its.toArray.isEmpty&&Builtin.List.listTooLong (its.toArray.size+its2.toArray.size))=true:=by
  rw[xM hsz,Bool.and_false];exact fj
 refine call_meets F.slot_list_extend ⟨_,e,rfl⟩ F.entry_list_extend (F.args_list_extend_2 _ _)
  (AutoSeq1.list_extend_list_list_0 l its.toArray n b its2.toArray n2 hlong (by rw[dE];omega) (by omega)) ⟨e,e2, ?_⟩
 refine⟨.ez,_,I.KN (its':=its++its2) hH e (by simp) (r.append r2) ?_,rfl,q⟩;rw[dR];omega
def Ng:V->List V->Hp->VK->Prop:=λx vs H Q=> ∃l xs y,x=.ref l/\vs=[]/\H l=some (.lst xs)/\xs[xs.length - 1]? =some y/\Q y (upd H l (.lst xs.dropLast))
def Bh:Od X "list.pop" Ng:=by
 intro pins s σ H x vs v us Q I rx rv h;obtain⟨l,xs,y,rfl,rfl,hH,hy,q⟩:=h;cases rx;have hus:=rv.zero;subst hus;obtain⟨z,its,n,r,hl,e⟩:=I.CM hH;obtain⟨u,hu,ru⟩:=r.get hy;have hy':its.toArray[its.toArray.size - 1]? =some u:=by
  show its.toArray[its.length - 1]? =some u;rw[<- zw,<- hl];exact hu
 refine call_meets F.slot_list_pop ⟨_,e,rfl⟩ F.entry_list_pop (F.args_list_pop_1 _) (MeetsSeq.list_pop_last l its.toArray n u hy' (by rw[dE];omega)) ⟨e, ?_⟩;refine⟨y,_,I.KN (its':=its.dropLast) hH e ?_ r.dropLast ?_,ru,q⟩
 ·show its.toArray.eraseIdxIfInBounds (its.toArray.size - 1)=its.dropLast.toArray;rw[dE,List.eraseIdxIfInBounds_toArray,EJ]
 ·rw[DG];omega
def Nh:R2:=λx y H Q=> ∃l b xs zs,x=.ref l/\y=.ref b/\H l=some (.lst xs)/\H b=some (.lst zs)/\xs.length+zs.length<=sizeLine/\∀p,H p=none->Q (.ref p) (upd H p (.lst (xs++zs)))
def xy:tE X (binaryOp .Add) Nh:=by
 intro pins s σ H x y v u Q I rx ry h;obtain⟨l,b,xs,zs,rfl,rfl,hH,hB,hz,q⟩:=h;cases rx;cases ry;obtain⟨z,its,n,r,hl,e⟩:=I.CM hH;obtain⟨z2,its2,n2,r2,hl2,e2⟩:=I.CM hB;refine PySem.P.add_list e e2 ?_ (by rw[dE,dE];omega);have ea:its.toArray++its2.toArray=(its++its2).toArray:=by simp
 rw[ea];exact⟨.ref _,_,I.Np (t':=s.toks) (r.append r2) (by rw[dR];omega),rfl,q _ I.fresh⟩
def Oi:R2:=λx y H Q=> ∃l k xs,x=.ref l/\y=.int k/\H l=some (.lst xs)/\ -(2 ^ 63)<=k/\k<2 ^ 63/\xs.length * k.toNat<=sizeLine/\
 ∀p,H p=none->Q (.ref p) (upd H p (.lst (List.replicate k.toNat xs).flatten))
def len_rep(xs:List α)(k:Nat):(List.replicate k xs).flatten.length=k * xs.length:=by
 induction k with
 |zero=>simp
 |succ k ih=>rw[wF,BW,dR,ih,Nat.succ_mul,Nat.add_comm]
def Mb:tE X (binaryOp .Mult) Oi:=by
 intro pins s σ H x y v u Q I rx ry h;obtain⟨l,k,xs,rfl,rfl,hH,h1,h2,hz,q⟩:=h;cases rx;obtain⟨t,rfl⟩:=ry;obtain⟨z,its,n,r,hl,e⟩:=I.CM hH;have hlen:its.toArray.size * k.toNat<=sizeLine:=by rw[dE,<- hl];exact hz
 have hcap:¬its.toArray.size * k.toNat > (2 ^ 63 - 1) / 8:=by
  have:(sizeLine:Nat)<=(2 ^ 63 - 1) / 8:=by decide
  omega
 have hfit:¬(!Builtin.List.listFitsIndex k)=true:=by
  rw[fitsIndex_both h1 h2];exact fj
 have hlong:¬Builtin.List.listTooLong (its.toArray.size * k.toNat)=true:=by
  rw[xM hlen];exact fj
 have hnew:List.foldl (λx1 x2=>x1++x2) #[] (List.replicate (if its.toArray.isEmpty=true then 0 else k.toNat) its.toArray)=(List.replicate k.toNat its).flatten.toArray:=by
  have f0:∀m:Nat,List.foldl (λx1 x2=>x1++x2) #[] (List.replicate m its.toArray)=(List.replicate m its).flatten.toArray:=λm=>by
   have:=foldl_rep its m [];rw[rk] at this;exact this
  rw[f0];cases its with
  |nil=>simp
  |cons a r'=>rw[ag (by simp)]
 refine wpAny_binaryOp_repeat_ref (T:= "list") (U:= "int") (by decide) ⟨_,e,rfl⟩ (λs'=>typeIs_int s' k t) noFill_list_mul F.fills_int_mul F.slot_int_rmul repeat_list F.slot_int_index.lookup
  (call_meets F.slot_int_rmul (typeIs_int s k t) F.entry_int_rmul (F.args_int_rmul_2 _ _) (int___rmul___int_list k t l its.toArray n)
   ⟨e,rfl,⟨_,e,rfl⟩,call_meets F.slot_list_mul ⟨_,e,rfl⟩ F.entry_list_mul (F.args_list_mul_2 _ _) (AutoListH.list___mul___list_int_3 l its.toArray n k t hfit hcap hlong) ⟨e, ?_⟩⟩)
 rw[hnew];exact⟨.ref _,_,I.Np (t':=s.toks) (r.rep k.toNat) (by rw[len_rep,Nat.mul_comm];exact hz),rfl,q _ I.fresh⟩
end
theorem Vals.ints:∀{ns:List Int}{us:List Value},Vals (ns.map V.int) us->IntsAre us ns
 | [],us,h=>by
  rw[uu] at h;cases h;exact IntsAre.nil
 |n :: ns,us,h=>by
  rw[cz] at h;cases h with
  |cons r t=>
   obtain⟨k,rfl⟩:=r;exact IntsAre.cons n k (Vals.ints t)
theorem mM:∀{us:List Value}{ns:List Int},IntsAre us ns->Vals (ns.map V.int) us
 |_,_,.nil=>by rw[uu];exact Paired.nil
 |_,_,.cons n t h=>by rw[cz];exact Paired.cons (show RelV (V.int n) (Value.int n t) from⟨t,rfl⟩) (mM h)
theorem Vals.Oz:∀{bs:List Bool}{us:List Value},Vals (bs.map V.bl) us->us=bs.map Value.bool
 | [],us,h=>by
  rw[uu] at h;cases h;rfl
 |b :: bs,us,h=>by
  rw[cz] at h;cases h with
  |cons r t=>
   cases r;rw[Vals.Oz t,cz]
def Vals.IH(r:Vals [V.ref a] us):us=[Value.ref a]:=by
 cases r with
 |cons r t=>
  cases t;cases r;rfl
section
variable {X:Cx}
def Fh(h:n<64):n<=sizeLine:=by rw[sizeLine_eq];omega
end
def CT(hl:s.heap.IsList l items)
  (h:∀s₂:Shared,s₂= { s with heap:=s.heap.push { cls:=.type "list_iterator",data:=.fields #[.ref l,.int 0 0] } } ->
   (s₂.heap.IsListIter s.heap.objs.size l 0/\s₂.heap.IsList l items)->l≠s.heap.objs.size->Q (.ref s.heap.objs.size) s₂):wpAny (model prog w) A (pyIter (.ref l)) Q E s:=by
 have hlt:l<s.heap.objs.size:=by obtain⟨_,e,_⟩:=hl;exact dD e
 exact wpAny_pyIter_list hl (h _ rfl ⟨⟨_,eG _ rfl,rfl,rfl⟩,hl.push _⟩ (eI hlt))
def uz{prog:Program}{w:World}{A:Around}{bs:List Bool}{its:List Value}(e:its=bs.map Value.bool):
  TruthOf prog w A (λi v=>its.toArray[i]? =some v) (λi=>bs.getD i false):=λi v s Q E hv hq=>by
 have hv':its[i]? =some v:=by simpa using hv
 rw[e,cU] at hv';obtain⟨b,hb,rfl⟩:=bO.mp hv';have hg:bs.getD i false=b:=by rw[cy,hb]<;>rfl
 have hq':Q (bs.getD i false) s:=hq;rw[hg] at hq';exact wpAny_truthy_bool hq'
theorem any_range:∀bs:List Bool,(List.range bs.length).any (λi=>bs.getD i false)=bs.any id
 | []=>rfl
 |b :: bs=>by
  rw[cR,DF,wG,List.any_map,wG,<- any_range bs]
  all_goals rfl
theorem all_range:∀bs:List Bool,(List.range bs.length).all (λi=>bs.getD i false)=bs.all id
 | []=>rfl
 |b :: bs=>by
  rw[cR,DF,Av,List.all_map,Av,<- all_range bs]
  all_goals rfl
section
variable {X:Cx}
def Oj(K:bg):List V->Hp->VK->Prop:=λvs H Q=> ∃(a:Addr)(bs:List Bool),vs=[V.ref a]/\cG K H a (bs.map V.bl)/\Q (.bl (bs.any id)) H
def Ol(K:bg):List V->Hp->VK->Prop:=λvs H Q=> ∃(a:Addr)(bs:List Bool),vs=[V.ref a]/\cG K H a (bs.map V.bl)/\Q (.bl (bs.all id)) H
def MF(hc:X.calm=true):lA X (.builtin "any") (Oj X.K):=by
 intro pins s σ H vs us Q I r h;obtain⟨a,bs,rfl,hs,q⟩:=h;obtain⟨its,rv,hl,_⟩:=I.list hs;rw[Vals.IH r];have hb:=rv.Oz;refine call_any_walk (CT hl.isList λs₂ e2 st hne=>?_);subst e2;refine⟨_,_,_,_,_,_,_,rfl,Walks.list (A:=X.A.in1) (I.ok.hd hc) _ a hne its.toArray,st,uz hb,λh' tk hk=>?_⟩;refine⟨.bl _,H,I.kept λb o eo=>hk b o (λhmem=>?_) (dF _ eo), ?_,q⟩
 ·rcases bp.mp hmem with e1 |hmem
  ·exact aI (e1 ▸ dD eo) (nP _)
  ·cases hmem
 ·show Value.bool _=Value.bool _;rw[<- any_range,hb,dE,bD]
def EU(hc:X.calm=true):lA X (.builtin "all") (Ol X.K):=by
 intro pins s σ H vs us Q I r h;obtain⟨a,bs,rfl,hs,q⟩:=h;obtain⟨its,rv,hl,_⟩:=I.list hs;rw[Vals.IH r];have hb:=rv.Oz;refine call_all_walk (CT hl.isList λs₂ e2 st hne=>?_);subst e2;refine⟨_,_,_,_,_,_,_,rfl,Walks.list (A:=X.A.in1) (I.ok.hd hc) _ a hne its.toArray,st,uz hb,λh' tk hk=>?_⟩;refine⟨.bl _,H,I.kept λb o eo=>hk b o (λhmem=>?_) (dF _ eo), ?_,q⟩
 ·rcases bp.mp hmem with e1 |hmem
  ·exact aI (e1 ▸ dD eo) (nP _)
  ·cases hmem
 ·show Value.bool _=Value.bool _;rw[<- all_range,hb,dE,bD]
end
abbrev eX(h:Heap)(c:Addr)(v:Option Value):Prop:=h.IsCell c v
def Oh(scope sc:Scope):Scope:=
 { scope with names:=scope.names.map λ(n,k)=>if (k== .free&&sc.kind== .function&&sc.names.lookup n==some .cell) then (n,.cell) else (n,k) }
noncomputable def dv (cells:List (Str×Addr)):List (Str×NameKind)->List (Str×Addr)->List (Str×Addr)
 | [],acc=>acc
 |(n,k) :: r,acc=>if k== .free then dv cells r ((n,(cells.lookup n).getD 0) :: acc) else dv cells r acc
theorem sS(env:Env)(f:Str×NameKind->List (Str×Addr)->Sem (ForInStep (List (Str×Addr))))
  (hf:∀n k c,f (n,k) c=if k== .free then (do let a <- cellOf env n;pure (.yield ((n,a) :: c))) else pure (.yield c)):
  ∀(names:List (Str×NameKind))(acc:List (Str×Addr)),(∀y∈names,y.2=.free->∃c,env.cells.lookup y.1=some c)->forIn names acc f=pure (dv env.cells names acc)
 | [],acc,_=>by rw[List.forIn_nil];rfl
 |(n,k) :: r,acc,h=>by
  rw[List.forIn_cons,hf];have ih:=λacc=>sS env f hf r acc λy hy=>h y (cZ _ hy)
  unfold dv;by_cases hk:(k==NameKind.free)=true
  ·rw[ai hk,ai hk];obtain⟨c,hc⟩:=h (n,k) cF (by simpa using hk);have e:cellOf env n=pure c:=by unfold cellOf;rw[hc]
   rw[e];have e2:(env.cells.lookup n).getD 0=c:=by rw[hc];rfl
   rw[e2];exact ih _
  ·rw[ag hk,ag hk];exact ih _
def EX(h:∀y∈scope.names,y.2=.free->∃c,env.cells.lookup y.1=some c):closureFor scope env=pure (dv env.cells scope.names []):=by
 simp only[closureFor];rw[sS env _ (λn k c=>rfl) scope.names [] h];rfl
theorem mem_lookup:∀{l:List (Str×α)}{n:Str}{c:α},(n,c)∈l->∃c',l.lookup n=some c'
 |(k,v) :: r,n,c,h=>by
  rw[wD];cases hb:n==k with
  |true=>exact⟨_,rfl⟩
  |false=>
   rcases bp.mp h with e |h
   ·cases e;simp at hb
   ·exact mem_lookup h
theorem l9:∀{names:List (Str×NameKind)}{acc:List (Str×Addr)}{n:Str}{c:Addr},(n,c)∈dv cells names acc->(n,c)∈acc\/((n,.free)∈names/\c=(cells.lookup n).getD 0)
 | [],_,_,_,h=>.inl h
 |(m,k) :: r,acc,n,c,h=>by
  unfold dv at h;split at h
  ·rename_i hk;have hk:k=.free:=by simpa using hk
   rcases l9 h with h | ⟨h1,h2⟩
   ·rcases bp.mp h with e |h
    ·cases e;exact .inr ⟨hk ▸ cF,rfl⟩
    ·exact .inl h
   ·exact .inr ⟨cZ _ h1,h2⟩
  ·rcases l9 h with h | ⟨h1,h2⟩
   ·exact .inl h
   ·exact .inr ⟨cZ _ h1,h2⟩
theorem pJ:∀{names:List (Str×NameKind)}{acc:List (Str×Addr)}{p:Str×Addr},p∈acc->p∈dv cells names acc
 | [],_,_,h=>h
 |(m,k) :: r,acc,p,h=>by
  unfold dv;split
  ·exact pJ (cZ _ h)
  ·exact pJ h
theorem pI:∀{names:List (Str×NameKind)}{acc:List (Str×Addr)}{n:Str},(n,.free)∈names->(n,(cells.lookup n).getD 0)∈dv cells names acc
 |(m,k) :: r,acc,n,h=>by
  unfold dv
  rcases bp.mp h with e |h
  ·cases e;exact pJ cF
  ·split
   ·exact pI h
   ·exact pI h
theorem mz:∀{names:List (Str×NameKind)}{h:Heap}{acc:List (Str×Addr)}{x:Str}{c:Addr},(x,c)∈cellsFrom h.objs.size names acc->
  (x,c)∈acc\/((x,.cell)∈names/\h.objs.size<=c/\eX (pushCells h names) c none)
 | [],_,_,_,_,h=>.inl h
 |(n,k) :: r,h,acc,x,c,hm=>by
  unfold cellsFrom at hm;unfold pushCells;split at hm
  ·rename_i hk;rw[ai hk];have hk:k=.cell:=by simpa using hk
   rw[<- nM h { cls:=.type "cell",data:=.cell none }] at hm
   rcases mz hm with hm | ⟨h1,h2,h3⟩
   ·rcases bp.mp hm with e |hm
    ·cases e;exact .inr ⟨hk ▸ cF,bx _,_,pushCells_keeps r _ _ _ (eG _ rfl),rfl⟩
    ·exact .inl hm
   ·rw[nM] at h2;exact .inr ⟨cZ _ h1,Au h2,h3⟩
  ·rename_i hk;rw[ag hk]
   rcases mz hm with hm | ⟨h1,h2,h3⟩
   ·exact .inl hm
   ·exact .inr ⟨cZ _ h1,h2,h3⟩
theorem qg:∀{names:List (Str×NameKind)}{n:Nat}{acc:List (Str×Addr)}{p:Str×Addr},p∈acc->p∈cellsFrom n names acc
 | [],_,_,_,h=>h
 |(m,k) :: r,n,acc,p,h=>by
  unfold cellsFrom;split
  ·exact qg (cZ _ h)
  ·exact qg h
theorem ud:∀{names:List (Str×NameKind)}{n:Nat}{acc:List (Str×Addr)}{x:Str},(x,.cell)∈names->∃c,(x,c)∈cellsFrom n names acc
 |(m,k) :: r,n,acc,x,h=>by
  unfold cellsFrom
  rcases bp.mp h with e |h
  ·cases e;exact⟨n,qg cF⟩
  ·split
   ·exact ud h
   ·exact ud h
theorem uc:∀{names:List (Str×NameKind)}{h:Heap}{acc:List (Str×Addr)}{x y:Str}{c:Addr},(∀p∈acc,p.2<h.objs.size)->(∀x y c,(x,c)∈acc->(y,c)∈acc->x=y)->
  (x,c)∈cellsFrom h.objs.size names acc->(y,c)∈cellsFrom h.objs.size names acc->x=y
 | [],_,_,_,_,_,_,hi,h1,h2=>hi _ _ _ h1 h2
 |(n,k) :: r,h,acc,x,y,c,hl,hi,h1,h2=>by
  unfold cellsFrom at h1 h2;split at h1
  ·rename_i hk;rw[ai hk] at h2;rw[<- nM h { cls:=.type "cell",data:=.cell none }] at h1 h2;refine uc (h:=h.push _) (λp hp=>?_) (λx y c a b=>?_) h1 h2
   ·rw[nM]
    rcases bp.mp hp with rfl |hp
    ·exact kO _
    ·exact As (hl p hp)
   ·rcases bp.mp a with e |a<;>rcases bp.mp b with e' |b
    ·cases e;cases e';rfl
    ·cases e;exact aI (hl _ b) (nP _)
    ·cases e';exact aI (hl _ a) (nP _)
    ·exact hi _ _ _ a b
  ·rename_i hk;rw[ag hk] at h2;exact uc hl hi h1 h2
def CH{M:Model}{A:Around}{E:Value->Shared->Prop}{s:Shared}{scope:Scope}{globals:Addr}{closure:List (Str×Addr)}{qual:Str}{func:Option Addr}{code:Value}{around:Env}{builtins:Addr}{Q:Env->Shared->Prop}
  (h:Q (newEnv scope s.heap.objs.size globals (cellsFrom (s.heap.objs.size+1) scope.names closure) qual func code (some around) builtins)
   { s with heap:=pushCells (s.heap.push { cls:=.type "dict",data:=.dict #[] }) scope.names }):
  wpAny M A (newFunctionEnv scope globals closure [] qual func code (some around) builtins) Q E s:=by
 simp only[newFunctionEnv,Option.isSome_some,if_true];refine aB (wpAny_alloc ?_);refine aB (wpAny_layCells _ (λn k c=>rfl) scope.names closure _ _ ?_);rw[show({ s with heap:=s.heap.push { cls:=.type "dict",data:=.dict #[] } }:Shared).heap.objs.size=s.heap.objs.size+1 from nM ..];rw[List.forIn_nil];exact aB (aM (aM h))
theorem pw{sc:Scope}:∀{names:List (Str×NameKind)}{x:Str}{k:NameKind},
  (names.map λ(n,k)=>if (k==NameKind.free&&sc.kind== .function&&sc.names.lookup n==some .cell) then (n,NameKind.cell) else (n,k)).lookup x=some k->
  ∃k',names.lookup x=some k'/\(k=k'\/(k'=.free/\k=.cell))
 | [],_,_,h=>by simp at h
 |(n,k₀) :: r,x,k,h=>by
  have ih:= @pw sc r x k;have h':List.lookup x ((if (k₀==NameKind.free&&sc.kind== .function&&sc.names.lookup n==some .cell)=true then (n,NameKind.cell) else (n,k₀)) :: (r.map _))=some k:=h;cases hx:x==n with
  |true=>
   simp only[wD,hx];by_cases hc:(k₀==NameKind.free&&sc.kind== .function&&sc.names.lookup n==some .cell)=true
   ·rw[ai hc] at h';simp only[wD,hx] at h';cases h';simp only[i6,beq_iff_eq] at hc;exact⟨k₀,rfl,.inr ⟨hc.1.1,rfl⟩⟩
   ·rw[ag hc] at h';simp only[wD,hx] at h';cases h';exact⟨_,rfl,.inl rfl⟩
  |false=>
   simp only[wD,hx];by_cases hc:(k₀==NameKind.free&&sc.kind== .function&&sc.names.lookup n==some .cell)=true
   ·rw[ai hc] at h';simp only[wD,hx] at h';exact ih h'
   ·rw[ag hc] at h';simp only[wD,hx] at h';exact ih h'
structure Ae(N:List Str)(sc scope:Scope)(own:List (Str×Nat)):Prop where
 kind:scope.kind=.function
 uniq:∀y∈scope.names,scope.names.lookup y.1=some y.2
 ix:∀p∈own,N[p.2]? =some p.1
 free:∀y∈scope.names,y.2=.free->sc.names.lookup y.1=some .cell\/sc.names.lookup y.1=some .free
 own:∀y∈scope.names,y.2=.local\/y.2=.cell->y.1∈own.map (·.1)\/y.1∉N
def wipe(σ:St):List Nat->St
 | []=>σ
 |v :: vs=>(wipe σ vs).set v none
theorem oO(σ:St):∀vs:List Nat,(wipe σ vs).length=σ.length
 | []=>rfl
 |v :: vs=>by unfold wipe;rw[rl,oO σ vs]
theorem tG:∀{vs:List Nat},(wipe σ vs)[i]? =some (some x)->σ[i]? =some (some x)/\i∉vs
 | [],h=>⟨h,by simp⟩
 |v :: vs,h=>by
  unfold wipe at h;by_cases hi:v=i
  ·subst hi;by_cases hv:v<(wipe σ vs).length
   ·rw[Ay hv] at h;cases h
   ·rw[jw (by simpa using hv)] at h;cases h
  ·rw[zx hi] at h;obtain⟨h1,h2⟩:=tG h;exact⟨h1,by simp only[bp,not_or];exact⟨λe=>hi e.symm,h2⟩⟩
abbrev Cx.BH(X:Cx)(s:Shared)(H:Hp)(scope:Scope)(cenv:Env)(fp:List Addr):Cx:= { X with zN:=s,MM:=H,env:=cenv,outer:=X.stack,ex:=fp,fn:=λx=>scope.names.lookup x==some .cell,pn:=[],xe:=λ_ _=>False }
section
variable {X:Cx} {pins:List (Addr×Obj)} {σ:St} {H:Hp} {s:Shared}
def Dl{scope:Scope}{own:List (Str×Nat)}{fp:List Addr}(I:Inv X pins σ H s)(ok:Ae X.N X.env.scope scope own)(hN:X.N.Nodup)(hfp:∀b∈fp,vS X pins H b/\b<s.heap.objs.size):
  Inv (X.BH s H scope (compEnvC scope (cellsFrom (s.heap.objs.size+1) scope.names (dv X.env.cells scope.names [])) s.heap.objs.size X.env) fp) [] (wipe σ (own.map (·.2))) H { s with heap:=pushCells (s.heap.push { cls:=.type "dict",data:=.dict #[] }) scope.names }:=by
 have hfree:∀y∈scope.names,y.2=.free->∃c,X.env.cells.lookup y.1=some c:=λy hy e=>by
  rcases ok.free y hy e with k |k
  ·exact I.ok.has _ (.inl k)
  ·exact I.ok.has _ (.inr k)
 generalize hcenv:compEnvC scope (cellsFrom (s.heap.objs.size+1) scope.names (dv X.env.cells scope.names [])) s.heap.objs.size X.env=cenv;have kp:∀b o,s.heap.get? b=some o->(pushCells (s.heap.push { cls:=.type "dict",data:=.dict #[] }) scope.names).get? b=some o:=λb o e=>pushCells_keeps _ _ _ _ (dF _ e)
 have hL:cenv.locals=s.heap.objs.size:=by rw[<- hcenv];rfl
 have hcl:cenv.cells=cellsFrom (s.heap.objs.size+1) scope.names (dv X.env.cells scope.names []):=by rw[<- hcenv];rfl
 have hsc:cenv.scope=Oh scope X.env.scope:=by rw[<- hcenv];rfl
 rw[<- nM s.heap { cls:=.type "dict",data:=.dict #[] }] at hcl;have cm:∀{y c},(y,c)∈dv X.env.cells scope.names []->X.env.cells.lookup y=some c/\c<s.heap.objs.size:=λ{y c} hm=>by
  rcases l9 hm with hm | ⟨h1,rfl⟩
  ·cases hm
  ·obtain⟨c,hc⟩:=hfree _ h1 rfl;rw[hc];obtain⟨w,z⟩:=I.cell _ _ hc;exact⟨rfl,z.lt⟩
 have mem:∀{y c},cenv.cells.lookup y=some c->(X.env.cells.lookup y=some c/\c<s.heap.objs.size)\/(s.heap.objs.size+1<=c/\eX (pushCells (s.heap.push { cls:=.type "dict",data:=.dict #[] }) scope.names) c none):=λ{y c} e=>by
  rw[hcl] at e
  rcases mz (PySem.mem_of_lookup e) with hm | ⟨_,h2,h3⟩
  ·exact .inl (cm hm)
  ·rw[nM] at h2;exact .inr ⟨h2,h3⟩
 have look:∀{y},scope.names.lookup y=some .free->∃c,cenv.cells.lookup y=some c/\X.env.cells.lookup y=some c:=λ{y} hl=>by
  have hy:(y,NameKind.free)∈scope.names:=PySem.mem_of_lookup hl;obtain⟨c',e'⟩:=mem_lookup (qg (names:=scope.names) (n:=(s.heap.push { cls:=.type "dict",data:=.dict #[] }).objs.size) (pI (cells:=X.env.cells) (acc:=[]) hy));rw[<- hcl] at e';refine⟨c',e', ?_⟩;rw[hcl] at e'
  rcases mz (PySem.mem_of_lookup e') with hm | ⟨h1,_,_⟩
  ·exact(cm hm).1
  ·have:=ok.uniq _ h1;rw[hl] at this;cases this
 have okB:(X.BH s H scope cenv fp).Ok:=by
  refine⟨I.ok.mod,by show cenv.scope.kind=_;rw[hsc];exact ok.kind,by show cenv.globals=_;rw[<- hcenv];exact I.ok.glob,by show cenv.builtins=_;rw[<- hcenv];exact I.ok.blt,by show s.heap.objs.size<=cenv.locals;rw[hL];exact bx _,
   λy z c e1 e2=>?_,λy hy=>?_,λy c z e=>?_,I.ok.hd,I.ok.frames,.inl rfl,λb hb=>⟨?_,λy c e z=>?_⟩,I.bs,eY I.ok.Lb I.sz,λb o e hb=>?_,λb hb z=>?_,I.stack,I.Fg⟩
  ·have e1:cenv.cells.lookup y=some c:=e1;have e2:cenv.cells.lookup z=some c:=e2;rw[hcl] at e1 e2;refine uc (λp hp=>?_) (λy z c a b=>I.ok.inj y z c (cm a).1 (cm b).1) (PySem.mem_of_lookup e1) (PySem.mem_of_lookup e2);rw[nM];exact As (cm (y:=p.1) (c:=p.2) hp).2
  ·show ∃c,cenv.cells.lookup y=some c;have key:∀k,cenv.kindOf y=some k->(k=.cell\/k=.free)->∃c,cenv.cells.lookup y=some c:=λk hk hk'=>by
    unfold Env.kindOf at hk;rw[hsc] at hk;obtain⟨k',e,r⟩:=pw hk;have:k'=.cell\/k'=.free:=by
     rcases r with rfl | ⟨rfl,_⟩
     ·exact hk'
     ·exact .inr rfl
    rcases this with rfl |rfl
    ·obtain⟨c,hm⟩:=ud (n:=(s.heap.push { cls:=.type "dict",data:=.dict #[] }).objs.size) (acc:=dv X.env.cells scope.names []) (PySem.mem_of_lookup e);obtain⟨c',e'⟩:=mem_lookup hm;exact⟨c',by rw[hcl];exact e'⟩
    ·obtain⟨c,h1,_⟩:=look e;exact⟨c,h1⟩
   rcases hy with hy |hy
   ·exact key _ hy (.inl rfl)
   ·exact key _ hy (.inr rfl)
  ·have z:(scope.names.lookup y==some NameKind.cell)=true:=z;have z:scope.names.lookup y=some .cell:=by simpa using z
   have e:cenv.cells.lookup y=some c:=e;rw[hcl] at e
   rcases mz (PySem.mem_of_lookup e) with hm | ⟨_,h2,_⟩
   ·rcases l9 hm with hm | ⟨h1,_⟩
    ·cases hm
    ·have q:=ok.uniq _ h1;rw[z] at q;cases q
   ·rw[nM] at h2;exact Au h2
  ·show b≠cenv.locals;rw[hL];exact eI (hfp b hb).2
  ·have e:cenv.cells.lookup y=some c:=e
   rcases mem e with⟨h1,_⟩ | ⟨h1,_⟩
   ·exact(hfp b hb).1.2.2.2.2.1 y c h1 z
   ·have h2:s.heap.objs.size+1<=b:=by rw[<- z];exact h1
    exact aI (iD (hfp b hb).2 (Au h2)) (nP _)
  ·rcases(hfp b hb).1.2.2.2.1 with z |z
   ·exact I.ok.J5 b o e z
   ·exact aI (iD (dD e) (eY I.ok.Lb z)) (nP _)
  ·rcases bp.mp (I.DS b z) with z |z
   ·exact(hfp b hb).1.2.1 z
   ·exact(hfp b hb).1.2.2.1 z
 refine⟨okB,rfl,I.bare,Un.kept kp,⟨λ_=>none, ?_,λi y av e1 e2 e3=>?_⟩,λy c e=>?_, ?_,λy c e=>?_,λp hp=>?_,I.bP.kept kp,by rw[oO];exact I.len⟩
 ·show Heap.Ns _ cenv.locals _;rw[hL];exact Heap.Ns.keeps (Heap.Ns.new ..) λb o e=>pushCells_keeps _ _ _ _ e
 ·obtain⟨e2,hne⟩:=tG e2;have hfr:scope.names.lookup y=some .free/\(cenv.kindOf y=some .cell\/cenv.kindOf y=some .free):=by
   have key:∀k,cenv.scope.names.lookup y=some k->k=.local\/k=.cell\/k=.free->scope.names.lookup y=some .free/\(cenv.kindOf y=some .cell\/cenv.kindOf y=some .free):=λk hk hk'=>by
    have hk0:=hk;rw[hsc] at hk;obtain⟨k',e,r⟩:=pw hk;have no:¬(k'=.local\/k'=.cell):=λhh=>by
     rcases ok.own _ (PySem.mem_of_lookup e) hh with e' |e'
     ·obtain⟨p,hp,hpy⟩:=fg.mp e';have e3:=ok.ix p hp;have:p.1=y:=hpy;rw[this] at e3;exact hne (fg.mpr ⟨p,hp,xN hN e3 e1⟩)
     ·exact e' (iN e1)
    rcases r with rfl | ⟨rfl,rfl⟩
    ·rcases hk' with rfl |rfl |rfl
     ·exact aI (.inl rfl) no
     ·exact aI (.inr rfl) no
     ·exact⟨e,.inr hk0⟩
    ·exact⟨e,.inl hk0⟩
   have e3:MU cenv.scope y:=e3
   rcases e3 with e3 |e3 |e3
   ·exact key _ e3 (.inl rfl)
   ·exact key _ e3 (.inr (.inl rfl))
   ·exact key _ e3 (.inr (.inr rfl))
  obtain⟨m,hn,hl⟩:=I.loc;have hvis:MU X.env.scope y:=(ok.free _ (PySem.mem_of_lookup hfr.1) rfl).elim (λk=>.inr (.inl k)) (λk=>.inr (.inr k));obtain⟨w,r,q⟩:=hl i y av e1 e2 hvis;refine⟨w,r,.inr ⟨hfr.2, ?_⟩⟩;obtain⟨c,h1,h2⟩:=look hfr.1
  rcases q with⟨k,_⟩ | ⟨_,c',e',z⟩
  ·have k:X.env.scope.names.lookup y=some .local:=k
   rcases ok.free _ (PySem.mem_of_lookup hfr.1) rfl with k' |k'<;>rw[show X.env.scope.names.lookup y=_ from k'] at k<;>cases k
  ·rw[h2] at e';cases e';exact⟨c,h1,z.keeps kp⟩
 ·have e:cenv.cells.lookup y=some c:=e
  rcases mem e with⟨h1,_⟩ | ⟨_,z⟩
  ·obtain⟨w,z⟩:=I.cell y c h1;exact⟨w,z.keeps kp⟩
  ·exact⟨_,z⟩
 ·show H cenv.locals=none;rw[hL];exact I.bP.fresh (bx _)
 ·have e:cenv.cells.lookup y=some c:=e
  rcases mem e with⟨h1,_⟩ | ⟨h1,_⟩
  ·exact I.l4 y c h1
  ·exact I.bP.fresh (Au h1)
 ·exact aI (show p∈([]:List (Addr×Obj))++[] from hp) (by simp)
def MK(I:Inv X pins σ H s)(hD:H D=some (.lst xs))(hz:xs.length<sizeLine)(r:RelV y v)
  (h:∀s',Inv X pins σ (upd H D (.lst (xs++[y]))) s'->Q .none s'):wpAny (model X.prog X.w) X.A (call (.builtin "list.append") [.ref D,v]) Q E s:=by
 obtain⟨hz',its,n,ri,e⟩:=I.bP D _ hD;have hl:=ri.length;refine append_at (hsz:=by rw[dE];omega) e λh' sb ho'=>?_
 refine h { s with heap:=h' } (I.write (t':=s.toks) (by rw[hD];trivial) (.inl rfl) (λb u hb q=>(sb.2 b hb).trans q) ⟨_,ho'⟩ ⟨by rw[dR];exact hz,its++[v],n+1,ri.append (.cons r .nil), ?_⟩);rw[ho'];simp
def NQ(X:Cx)(ifs:List Expr)(t:TT):Prop:=
 ∀(pins:List (Addr×Obj))(s:Shared)(σ:St)(H:Hp)(Q:Bool->Hp->Prop),Inv X pins σ H s->t σ H Q->
  wpAny (model X.prog X.w) X.A (forIn ifs true λc r=>if r=true then do let ok <- isTrue c X.env (eval c X.env);pure (ForInStep.yield ok) else pure (ForInStep.yield r)) (TP X pins σ Q) X.xe s
def vw:TT:=λ_ H Q=>Q true H
def ip:NQ X [] vw:=λ_ _ _ H _ I h=>wpAny_tests_nil ⟨H,I,h⟩
def Fs(h:PT X c t):NQ X [c] t:=λpins s σ H Q I hw=>wpAny_tests_one (h pins s σ H Q I hw)
end
def Gy(h:wpAny M A t Q (λ_ _=>False) s)(hQ:∀a s,Q a s->Q' a s):wpAny M A t Q' E s:=wpAny_mono h hQ λ_ _ z=>False.elim z
def BC(I:Nat->Shared->Prop)
  (turn:∀n s,I n s->wpAny (model prog w) A (pyNext it) (λr s₁=>match r with
   |none=>R (.ok .next) s₁
   |some v=>wpAny (model prog w) A (letOwnedTupleGo target it v) (λ_ s₁'=>wpAny (model prog w) A (assign target env v) (λ_ s₂=>
     wpAny (model prog w) A (forIn ifs true λc r=>if r=true then do let ok <- isTrue c env (eval c env);pure (ForInStep.yield ok) else pure (ForInStep.yield r)) (λok s₃=>
      if ok=true then wpAny (model prog w) A (eval elt env) (λx s₄=>
       wpAny (model prog w) A (call (.builtin "list.append") [acc,x]) (λ_ s₅=> ∃m,m<n/\I m s₅) (notedBy (model prog w) A env λe s'=>R (.error e) s') s₄) (notedBy (model prog w) A env λe s'=>R (.error e) s') s₃
      else ∃m,m<n/\I m s₃) (notedBy (model prog w) A env λe s'=>R (.error e) s') s₂) (notedBy (model prog w) A env λe s'=>R (.error e) s') s₁') (notedBy (model prog w) A env λe s'=>R (.error e) s') s₁) (notedBy (model prog w) A env λe s'=>R (.error e) s') s)
  (n:Nat) (h:I n s):
  codeAny (model prog w) A (.compLoop (.ListComp elt [⟨target,iter,ifs,0⟩] scope pos) 0 it acc env) R s:=by
 refine codeAny_loop rfl I (λn s hI=>?_) n h;show wpAny _ A ((compTurn (.ListComp elt [⟨target,iter,ifs,0⟩] scope pos) 0 it acc env).onRaise (λx=>do noteFrame x env;theTreesLotGoes x)) _ _ s;refine wpAny_noted ?_;rw[compTurn_list];refine aB (wpAny_standAt (aB (wpAny_mono (turn n s hI) (λr s₁ h₁=>?_) λ_ _ h'=>h')));cases r with
 |none=>exact aM h₁
 |some v=>
  refine aB (wpAny_mono h₁ (λ_ s₁' h₁'=>?_) λ_ _ h'=>h');refine aB (wpAny_mono h₁' (λ_ s₂ h₂=>aB (wpAny_mono h₂ (λok s₃ h₃=>?_) λ_ _ h'=>h')) λ_ _ h'=>h');cases ok with
  |false=>exact aM ⟨rfl,h₃⟩
  |true=>
   exact aB (aB (wpAny_mono h₃ (λx s₄ h₄=>aB (wpAny_mono h₄ (λ_ s₅ h₅=>aM (aM ⟨rfl,h₅⟩)) λ_ _ h'=>h')) λ_ _ h'=>h'))
section
variable {X:Cx}
def Ig(wi:TI)(g:TG)(tt:TT)(te:TE)(vs:List Nat):TE:=λσ H Q=>wi σ H λJ H1=> ∀D,H1 D=none->∃W:Nat->Nat->Hp->Prop,(∃m,W 0 m (upd H1 D (.lst [])))/\∀i m H,W i m H->
 (J.stop i H/\Q (.ref D) H)\/(J.go i H/\∃Nx:Hp->Prop,(∀H',Nx H'->∃m',m'<m/\W (i+1) m' H')/\∀x H',J.LH i H x H'->g x (wipe σ vs) H' λσ2 H2=>wipe σ2 vs=wipe σ vs/\tt σ2 H2 λb H3=>
  if b=true then te σ2 H3 λy H4=> ∃acc,H4 D=some (.lst acc)/\acc.length<sizeLine/\Nx (upd H4 D (.lst (acc++[y]))) else Nx H3)
def FH{pins:List (Addr×Obj)}{s:Shared}{σ:St}{H:Hp}{Q:VK}{elt tg iter:Expr}{ifs:List Expr}{scope:Scope}{own:List (Str×Nat)}{pos pos':Pos}{wi:TI}{g:TG}{tt:TT}{te:TE}{use:Option (Value->Sem Unit)}{Qf:Value->Shared->Prop}
  (hc:X.calm=true) (hN:X.N.Nodup) (I:Inv X pins σ H s) (hi:PI X tg iter wi) (ok:Ae X.N X.env.scope scope own)
  (hg:∀(s:Shared)(H:Hp)(C:Addr)(cl:List (Str×Addr))(fp:List Addr),PG (X.BH s H scope (compEnvC scope cl C X.env) fp) tg g) (ht:∀(s:Shared)(H:Hp)(C:Addr)(cl:List (Str×Addr))(fp:List Addr),NQ (X.BH s H scope (compEnvC scope cl C X.env) fp) ifs tt)
  (he:∀(s:Shared)(H:Hp)(C:Addr)(cl:List (Str×Addr))(fp:List Addr),PE (X.BH s H scope (compEnvC scope cl C X.env) fp) elt te) (hs:∀x,foldedSetIterable iter X.env x=pure x)
  (h:Ig wi g tt te (own.map (·.2)) σ H Q)
  (hRR:∀D C s' m H',Inv X pins σ H' s'->Q (.ref D) H'->s'.heap.Ns C m->vS X pins H' C->compPost (model X.prog X.w) X.A X.xe use Qf (.ref D) C (.ok .next) s'):
  wpAny (model X.prog X.w) X.A (comprehension (.ListComp elt [⟨tg,iter,ifs,0⟩] scope pos) scope X.env pos' (newList []) false (eval iter X.env) use) Qf X.xe s:=by
 have hfree:∀y∈scope.names,y.2=.free->∃c,X.env.cells.lookup y.1=some c:=λy hy e=>by
  rcases ok.free y hy e with k |k
  ·exact I.ok.has _ (.inl k)
  ·exact I.ok.has _ (.inr k)
 refine wpAny_comprehension_free (use:=use) rfl hs (EX hfree) ok.kind (λy hy e=>by rw[ok.uniq y hy,e])
  (f6 (hi pins s σ H _ I h) λxv s1 hx=>f6 hx λitv s2 h2=>?_)
 obtain⟨it,fp,tn,J,H2,e,I2,T,st2,f2,q⟩:=h2;subst e;refine wpAny_newObj_type (CH ?_) (by show 0<=sizeLine;decide);generalize hD:s2.heap.objs.size=D;have hDn:H2 D=none:=I2.bP.fresh (Nat.le_of_eq hD);obtain⟨W,⟨m0,w0⟩,turn⟩:=q D hDn;generalize hs3:({ s2 with heap:=s2.heap.push { cls:=.type "list",data:=.seq ([]:List Value).toArray } }:Shared)=s3;have I3:Inv X pins σ (upd H2 D (.lst [])) s3:=by
  rw[<- hs3];refine I2.laid (t':=s2.toks) (λb o e=>dF _ e) (Nat.le_of_eq hD) ⟨d8 _,[],0,.nil, ?_⟩;rw[<- hD];exact eG _ rfl
 have h3:s3.heap=s2.heap.push { cls:=.type "list",data:=.seq ([]:List Value).toArray }:=by rw[<- hs3]
 have sz:∀b∈fp,b<s2.heap.objs.size:=λb hb=>by
  obtain⟨o,e,_⟩:=T.obj _ _ st2 b hb;exact dD e
 have f3:∀b∈fp,vS X pins (upd H2 D (.lst [])) b/\b<s3.heap.objs.size:=λb hb=>by
  have hlt:=sz b hb;refine⟨⟨?_,(f2 b hb).2⟩,by rw[h3,nM];exact As hlt⟩;rw[aw (by rw[<- hD];exact eI hlt)];exact(f2 b hb).1
 have st3:tn 0 s3.heap:=T.keep _ _ _ st2 λb _ o e=>by rw[h3];exact dF _ e
 have I4:=Dl I3 ok hN f3;have pg:=hg s3 (upd H2 D (.lst [])) s3.heap.objs.size (cellsFrom (s3.heap.objs.size+1) scope.names (dv X.env.cells scope.names [])) fp;have pt:=ht s3 (upd H2 D (.lst [])) s3.heap.objs.size (cellsFrom (s3.heap.objs.size+1) scope.names (dv X.env.cells scope.names [])) fp;have pe:=he s3 (upd H2 D (.lst [])) s3.heap.objs.size (cellsFrom (s3.heap.objs.size+1) scope.names (dv X.env.cells scope.names [])) fp;show codeAny _ _ (.compStart (.ListComp elt [⟨tg,iter,ifs,0⟩] scope pos) 0 (.ref it) (.ref D) (compEnvC scope (cellsFrom (s3.heap.objs.size+1) scope.names (dv X.env.cells scope.names [])) s3.heap.objs.size X.env)) (compPost (model X.prog X.w) X.A X.xe use Qf (.ref D) s3.heap.objs.size) { s3 with heap:=pushCells (s3.heap.push { cls:=.type "dict",data:=.dict #[] }) scope.names };have nfp:∀b∈fp,(upd H2 D (.lst [])) b=none:=λb hb=>(f3 b hb).1.1
 generalize hce:compEnvC scope (cellsFrom (s3.heap.objs.size+1) scope.names (dv X.env.cells scope.names [])) s3.heap.objs.size X.env=ce at I4 pg pt pe⊢;have cL:ce.locals=s3.heap.objs.size:=by subst hce;rfl
 generalize hH3:upd H2 D (.lst [])=H3 at I3 I4 pg pt pe w0 nfp f3;generalize hs4:({ s3 with heap:=pushCells (s3.heap.push { cls:=.type "dict",data:=.dict #[] }) scope.names }:Shared)=s4 at I4⊢;have st4:tn 0 s4.heap:=T.keep _ _ _ st3 λb _ o e=>by rw[<- hs4];exact pushCells_keeps _ _ _ _ (dF _ e)
 have stat:∀{σ':St}{H':Hp}{s':Shared},Inv (X.BH s3 H3 scope ce fp) [] σ' H' s'->(∀b∈fp,H' b=none)->∀b∈fp,vS (X.BH s3 H3 scope ce fp) [] H' b:=λ{σ' H' s'} I' hn b hb=>
  ⟨hn b hb,(I'.ok.O9 b hb).1,I'.ok.JF b hb,.inl hb,λx c e=>(I'.ok.O9 b hb).2 x c e,λp hp=>aI (show p∈([]:List (Addr×Obj))++[] from hp) (by simp)⟩
 have loop:codeAny (model X.prog X.w) X.A (.compLoop (.ListComp elt [⟨tg,iter,ifs,0⟩] scope pos) 0 (.ref it) (.ref D) ce) (compPost (model X.prog X.w) X.A X.xe use Qf (.ref D) s3.heap.objs.size) s4:=by
  refine BC (λn s'=> ∃i H',Inv (X.BH s3 H3 scope ce fp) [] (wipe σ (own.map (·.2))) H' s'/\tn i s'.heap/\(∀b∈fp,H' b=none)/\W i n H') ?_ m0 ⟨0,H3,I4,st4,nfp,w0⟩;rintro n s5 ⟨i,H5,I5,st5,n5,w5⟩
  rcases turn i n H5 w5 with⟨stop,qq⟩ | ⟨go,Nx,hNx,step⟩
  ·have td:=T.done (X.BH s3 H3 scope ce fp) rfl rfl rfl hc i [] s5 _ H5 (λ_ _=>False) I5 (stat I5 n5) st5 stop;refine Gy td λr s6 ⟨hr,I6⟩ =>?_
   subst hr;have I7:Inv X pins σ H5 s6:=I3.NI (ch:=fp) I6.os I6.base I6.bP I6.bare λb hb=>⟨(f3 b hb).1.2.2.2.1,(f3 b hb).1.2.1,(f3 b hb).1.2.2.2.2.1,(f3 b hb).1.2.2.2.2.2⟩
   have nC:H5 s3.heap.objs.size=none:=by
    have z:H5 ce.locals=none:=I6.free;rw[cL] at z;exact z
   obtain⟨m,hn,_⟩:=I6.loc;have hn:s6.heap.Ns ce.locals m:=hn;rw[cL] at hn;exact hRR D s3.heap.objs.size s6 m H5 I7 qq hn (I3.Hu (bx _) nC)
  ·have ti:=T.item (X.BH s3 H3 scope ce fp) rfl rfl rfl hc i [] s5 _ H5 (λ_ _=>False) I5 (stat I5 n5) st5 go;refine Gy ti λr s6 ⟨u,hr,h6⟩ =>?_
   subst hr;refine Gy h6 λ_ s7 ⟨x,H7,I7,r7,y7,st7,n7⟩ =>?_
   have I7':=I7.pinned (stat I7 n7) (T.obj _ _ st7);refine Gy (pg _ s7 _ H7 x u _ I7' r7 (step x H7 y7)) λ_ s8 ⟨σ8,H8,I8,hw8,q8⟩ =>?_
   refine Gy (pt _ s8 σ8 H8 _ I8 q8) λb s9 ⟨H9,I9,q9⟩ =>?_
   have fin:∀{s':Shared}{H':Hp},Inv (X.BH s3 H3 scope ce fp) ([]++xr fp s7.heap) σ8 H' s'->Nx H'->∃m,m<n/\∃i H',Inv (X.BH s3 H3 scope ce fp) [] (wipe σ (own.map (·.2))) H' s'/\tn i s'.heap/\(∀b∈fp,H' b=none)/\W i m H':=λ{s' H'} I' nx=>by
    obtain⟨m',hm,w'⟩:=hNx H' nx;have pin':∀b∈fp,∀o,s7.heap.get? b=some o->s'.heap.get? b=some o/\H' b=none:=λb hb o e=>
     let z:=I'.pin (b,o) (nO _ (nO _ (qY hb e)))
     ⟨z.1,z.2.1⟩
    have hl:(wipe σ (own.map (·.2))).length=σ8.length:=by rw[<- hw8,oO]
    refine⟨m',hm,i+1,H',(I'.rq (pins:=[])).weak hl (λj v e=>?_),T.keep _ _ _ st7 λb hb o e=>(pin' b hb o e).1,λb hb=>?_,w'⟩
    ·rw[<- hw8] at e;exact(tG e).1
    ·obtain⟨o,e,_⟩:=T.obj _ _ st7 b hb;exact(pin' b hb o e).2
   cases b with
   |false=>
    simp only[nI,if_false] at q9⊢;exact fin I9 q9
   |true=>
    simp only[if_true] at q9⊢;refine Gy (pe _ s9 σ8 H9 _ I9 q9) λz s10 ⟨yv,H10,I10,r10,acc,hD10,hz10,nx⟩ =>?_
    exact MK (X:=X.BH s3 H3 scope ce fp) I10 hD10 hz10 r10 λs11 I11=>fin I11 nx
 exact codeAny_compStart_list loop (T.self X.A 0 _ _ _ st4 loop)
def p5(hc:X.calm=true)(hN:X.N.Nodup)(hi:PI X tg iter wi)(ok:Ae X.N X.env.scope scope own)
  (hg:∀(s:Shared)(H:Hp)(C:Addr)(cl:List (Str×Addr))(fp:List Addr),PG (X.BH s H scope (compEnvC scope cl C X.env) fp) tg g) (ht:∀(s:Shared)(H:Hp)(C:Addr)(cl:List (Str×Addr))(fp:List Addr),NQ (X.BH s H scope (compEnvC scope cl C X.env) fp) ifs tt)
  (he:∀(s:Shared)(H:Hp)(C:Addr)(cl:List (Str×Addr))(fp:List Addr),PE (X.BH s H scope (compEnvC scope cl C X.env) fp) elt te) (hs:∀x,foldedSetIterable iter X.env x=pure x:=by intro _;rfl):
  PE X (.ListComp elt [⟨tg,iter,ifs,0⟩] scope pos) (Ig wi g tt te (own.map (·.2))):=by
 intro pins s σ H Q I h;rw[eval_ListComp];refine FH hc hN I hi ok hg ht he hs h λD C s' m H' I' q hn f=>⟨m,hn,λh'' sb=>?_⟩
 obtain⟨f0,f1,f2,f3,f4,f5⟩:=f;exact⟨.ref D,H',I'.turned (t':=s'.toks) (λb o hb e=>(sb.2 b hb).trans e) f0 f1 f3 f4 f5,rfl,q⟩
def xq(hc:X.calm=true)(hN:X.N.Nodup)(hy:X.N[i]? =some y)(hyl:X.env.scope.names.lookup y=some .local)
  (hsw:swapsWith (.ListComp elt [⟨tg,iter,ifs,0⟩] scope pos) (some (.Name y py)) spos.line X.env=pure true) (hi:PI X tg iter wi) (ok:Ae X.N X.env.scope scope own)
  (hg:∀(s:Shared)(H:Hp)(C:Addr)(cl:List (Str×Addr))(fp:List Addr),PG (X.BH s H scope (compEnvC scope cl C X.env) fp) tg g) (ht:∀(s:Shared)(H:Hp)(C:Addr)(cl:List (Str×Addr))(fp:List Addr),NQ (X.BH s H scope (compEnvC scope cl C X.env) fp) ifs tt)
  (he:∀(s:Shared)(H:Hp)(C:Addr)(cl:List (Str×Addr))(fp:List Addr),PE (X.BH s H scope (compEnvC scope cl C X.env) fp) elt te) (hs:∀x,foldedSetIterable iter X.env x=pure x:=by intro _;rfl):
  PS X (.Assign [.Name y py] (.ListComp elt [⟨tg,iter,ifs,0⟩] scope pos) spos) (DR (Ig wi g tt te (own.map (·.2))) (gi i)):=by
 intro pins s σ H D I h;rw[exec_Assign_Name_used _ _ _ _ hsw];refine aB (wpAny_standAt (aB ?_));show wpAny _ X.A (do let _ <- comprehension (.ListComp elt [⟨tg,iter,ifs,0⟩] scope pos) scope X.env (firstIterPos [⟨tg,iter,ifs,0⟩] pos) (newList []) false (eval iter X.env) (some (assign (.Name y py) X.env))) _ _ s;have h:Ig wi g tt te (own.map (·.2)) σ H (λx H1=>gi i x σ H1 D.nx):=h;refine aB (f6 (FH (Qf:=λ_ s'=>SP X pins D .next s') hc hN I hi ok hg ht he hs h λL C s' m H' I' q hn f=>?_) λ_ s' hq=>aM (aM hq));show wpAny _ _ (assign (.Name y py) X.env (.ref L)) _ _ _;refine wpAny_assign_Name (zJ (v:=V.ref L) I' hN hy (.inl hyl) rfl (λs2 I2 ⟨a,sb,ha⟩ =>?_) (.inr hyl));obtain⟨f0,f1,f2,f3,f4,f5⟩:=f;have haC:C≠a:=by
  rcases ha with z |z
  ·rw[z];exact f1
  ·exact λe=>f4 y a z e.symm
 refine⟨m,hn.sameBut sb haC,λh3 sb3=>?_⟩;exact⟨_,H',I2.turned (t':=s2.toks) (λb o hb e=>(sb3.2 b hb).trans e) f0 f1 f3 f4 f5,q⟩
def AG(hk:env.scope.kind=.function)(hy:env.scope.names.lookup y=some .local)(hl:(py.line==pos.line)=true)
  (ha:(scope.names.any λ(n,k)=>n==y&&(k== .local||k== .cell))=false):swapsWith (.ListComp elt gs scope pos) (some (.Name y py)) l env=pure true:=by
 have ky:env.kindOf y=some .local:=hy;have hb:env.blockKind=.function:=by unfold Env.blockKind;rw[hk];rfl
 unfold swapsWith;simp only[hb,ky,ha,Expr.pos,hl];rfl
end
def FG{K:bg}{a:Addr}{xs:List V}{g:TG}{tt:TT}{te:TE}{vs:List Nat}{σ:St}{H1:Hp}{D:Addr}{Qd:Hp->Prop}(Pv:Nat->Hp->Prop)(h0:Pv 0 (upd H1 D (.lst [])))(hl:∀i H,i<=xs.length->Pv i H->cG K H a xs)
  (hs:∀i x H,xs[i]? =some x->Pv i H->g x (wipe σ vs) H λσ2 H2=>wipe σ2 vs=wipe σ vs/\tt σ2 H2 λb H3=>
   if b=true then te σ2 H3 λy H4=> ∃acc,H4 D=some (.lst acc)/\acc.length<sizeLine/\Pv (i+1) (upd H4 D (.lst (acc++[y]))) else Pv (i+1) H3) (hd:∀H,Pv xs.length H->Qd H):
  ∃W:Nat->Nat->Hp->Prop,(∃m,W 0 m (upd H1 D (.lst [])))/\∀i m H,W i m H->
   ((Gi K a).stop i H/\Qd H)\/((Gi K a).go i H/\∃Nx:Hp->Prop,(∀H',Nx H'->∃m',m'<m/\W (i+1) m' H')/\∀x H',(Gi K a).LH i H x H'->g x (wipe σ vs) H' λσ2 H2=>wipe σ2 vs=wipe σ vs/\tt σ2 H2 λb H3=>
    if b=true then te σ2 H3 λy H4=> ∃acc,H4 D=some (.lst acc)/\acc.length<sizeLine/\Nx (upd H4 D (.lst (acc++[y]))) else Nx H3):=by
 refine⟨λi m H=>m=xs.length - i/\i<=xs.length/\Pv i H,⟨xs.length,by simp,d8 _,h0⟩, ?_⟩;rintro i m H ⟨rfl,hi,p⟩;have q:=hl i H hi p;by_cases hlt:i<xs.length
 ·refine .inr ⟨⟨xs,xs[i],q,by simp[hlt]⟩,Pv (i+1),λH' p'=>⟨xs.length - (i+1),by omega,rfl,hlt,p'⟩,λx H' y=>?_⟩;obtain⟨e,y⟩:=y;subst e;exact hs i x _ (y xs q) p
 ·have e:i=xs.length:=by omega
  subst e;exact .inl ⟨⟨xs,q,bx _⟩,hd H p⟩
def MH(N:List Str)(sc scope:Scope)(own:List (Str×Nat)):Bool:=
 (match scope.kind with |.function=>true |_=>false)&&(scope.names.all λy=>decide (scope.names.lookup y.1=some y.2))&&(own.all λp=>decide (N[p.2]? =some p.1))&&
  (scope.names.all λy=>match y.2 with
   |.free=>(match sc.names.lookup y.1 with |some .cell=>true |some .free=>true |_=>false)
   |.local=>decide (y.1∈own.map (·.1))||decide (y.1∉N)
   |.cell=>decide (y.1∈own.map (·.1))||decide (y.1∉N)
   |_=>true)
def JX(h:MH N sc scope own=true):Ae N sc scope own:=by
 unfold MH at h;simp only[i6,je,decide_eq_true_eq] at h;obtain⟨⟨⟨h1,h2⟩,h3⟩,h4⟩:=h;refine⟨?_,h2,h3,λy hy e=>?_,λy hy e=>?_⟩
 ·split at h1
  ·assumption
  ·cases h1
 ·have q:=h4 y hy;simp only[e] at q;split at q<;>first |exact .inl (by assumption) |exact .inr (by assumption) |cases q
 ·have q:=h4 y hy
  rcases e with e |e<;>(simp only[e,Bool.or_eq_true,decide_eq_true_eq] at q;exact q)
section
variable {κ:Type} [DecidableEq κ]
def gA(kvs:List (κ×V))(k:κ):Option V:=(kvs.find? λkv=>decide (kv.1=k)).map (·.2)
def putK(kvs:List (κ×V))(k:κ)(v:V):List (κ×V):=
 if (kvs.any λkv=>decide (kv.1=k))=true then kvs.map (λkv=>if kv.1=k then (kv.1,v) else kv) else kvs++[(k,v)]
def my(kvs:List (κ×V))(k:κ):List (κ×V):=kvs.filter λkv=>decide (kv.1≠k)
def fM{p:κ×V}{r:List (κ×V)}{k:κ}(e:p.1=k):gA (p :: r) k=some p.2:=by simp[gA,zu,e]
def fN{p:κ×V}{r:List (κ×V)}{k:κ}(e:¬p.1=k):gA (p :: r) k=gA r k:=by simp[gA,zu,e]
theorem oP(k:κ):∀kvs:List (κ×V),(kvs.any λkv=>decide (kv.1=k))=(gA kvs k).isSome
 | []=>rfl
 |p :: r=>by
  rw[wG];by_cases e:p.1=k
  ·simp only[fM e,decide_eq_true e,Bool.true_or,Option.isSome_some]
  ·rw[fN e,decide_eq_false e,Bool.false_or];exact oP k r
theorem C2(k j:κ)(y:V):∀kvs:List (κ×V),gA (kvs.map λkv=>if kv.1=k then (kv.1,y) else kv) j=(gA kvs j).map λx=>if j=k then y else x
 | []=>rfl
 |p :: r=>by
  have ih:=C2 k j y r;rw[cz];by_cases h:p.1=k
  ·rw[ai h];by_cases e:p.1=j
   ·rw[fM (p:=(p.1,y)) e,fM e,kL,ai (e.symm.trans h)]
   ·rw[fN (p:=(p.1,y)) e,fN e,ih]
  ·rw[ag h];by_cases e:p.1=j
   ·rw[fM (p:=p) e,fM e,kL,ag (λz=>h (e.trans z))]
   ·rw[fN (p:=p) e,fN e,ih]
theorem zD(k j:κ)(y:V):∀kvs:List (κ×V),gA kvs k=none->gA (kvs++[(k,y)]) j=if j=k then some y else gA kvs j
 | [],_=>by
  by_cases e:k=j
  ·rw[ai e.symm];exact fM (p:=(k,y)) e
  ·rw[ag (λz=>e z.symm)];exact fN (p:=(k,y)) e
 |p :: r,hn=>by
  rw[ur];have hk:¬p.1=k:=λz=>by rw[fM z] at hn;cases hn
  rw[fN hk] at hn;have ih:=zD k j y r hn;by_cases e:p.1=j
  ·rw[fM e,fM e,ag (λz=>hk (e.trans z))]
  ·rw[fN e,fN e,ih]
def C1(kvs:List (κ×V))(k j:κ)(y:V):gA (putK kvs k y) j=if j=k then some y else gA kvs j:=by
 unfold putK;by_cases a:(kvs.any λkv=>decide (kv.1=k))=true
 ·rw[ai a,C2];rw[oP] at a;by_cases e:j=k
  ·obtain⟨x,hx⟩:=wH.mp a;rw[ai e,e,hx,kL,ai rfl]
  ·rw[ag e];cases gA kvs j with
   |none=>rfl
   |some x=>rw[kL,ag e]
 ·rw[ag a];refine zD k j y kvs ?_;rw[oP] at a;cases q:gA kvs k with
  |none=>rfl
  |some x=>rw[q] at a;exact(a rfl).elim
def uW(kvs:List (κ×V))(k:κ)(v:V):(putK kvs k v).length<=kvs.length+1:=by
 unfold putK;split
 ·rw[bD];omega
 ·rw[dR,cR,zt];omega
def Ct{kvs:List (κ×V)}{k:κ}(v:V)(h:gA kvs k=none):putK kvs k v=kvs++[(k,v)]:=by
 unfold putK;rw[oP,h];exact ag (by decide)
def qu.mr(r:qu o u):o.isSome=u.isSome:=by
 cases o with
 |none=>cases u with
  |none=>rfl
  |some _=>exact(show False from r).elim
 |some _=>cases u with
  |none=>exact(show False from r).elim
  |some _=>rfl
theorem qu.getD(r:qu o u)(rd:RelV d d'):RelV (o.getD d) (u.getD d'):=by
 cases o with
 |none=>cases u with
  |none=>exact rd
  |some _=>exact(show False from r).elim
 |some _=>cases u with
  |none=>exact(show False from r).elim
  |some _=>exact r
def KV.val(r:KV kvs vs)(k:κ):qu (gA kvs k) (valueAt vs k):=by
 unfold KV at r
 induction r with
 |nil=>exact True.intro
 | @cons p q ps qs h t ih=>
  obtain⟨h1,h2⟩:=h;by_cases e:p.1=k
  ·have e':q.1=k:=h1.symm.trans e;have b:valueAt (q :: qs) k=some q.2:=by simp[valueAt,zu,e']
   rw[fM e,b];exact h2
  ·have e':¬q.1=k:=λz=>e (h1.trans z)
   have b:valueAt (q :: qs) k=valueAt qs k:=by simp[valueAt,zu,e']
   rw[fN e,b];exact ih
theorem KV.any(r:KV kvs vs)(k:κ):(kvs.any λkv=>decide (kv.1=k))=vs.any λkv=>decide (kv.1=k):=by
 unfold KV at r
 induction r with
 |nil=>rfl
 |cons h t ih=>rw[wG,wG,ih,h.1]
def KV.LR(r:KV kvs vs)(k:κ)(ry:RelV y u):
  KV (kvs.map λkv=>if kv.1=k then (kv.1,y) else kv) (vs.map λkv=>if kv.1=k then (kv.1,u) else kv):=by
 unfold KV at r⊢
 induction r with
 |nil=>exact .nil
 | @cons p q ps qs h t ih=>
  rw[cz,cz];refine .cons ?_ ih;obtain⟨h1,h2⟩:=h;by_cases e:p.1=k
  ·rw[ai e,ai (h1.symm.trans e)];exact⟨h1,ry⟩
  ·rw[ag e,ag (λz=>e (h1.trans z))];exact⟨h1,h2⟩
def KV.put(r:KV kvs vs)(k:κ)(ry:RelV y u):KV (putK kvs k y) (stored vs k u):=by
 unfold putK stored;rw[r.any k];by_cases e:(vs.any λkv=>decide (kv.1=k))=true
 ·rw[ai e,ai e];exact r.LR k ry
 ·rw[ag e,ag e];exact Paired.snoc r ⟨rfl,ry⟩
def KV.drop(r:KV kvs vs)(k:κ):KV (my kvs k) (without vs k):=by
 unfold KV at r⊢;unfold my without
 induction r with
 |nil=>exact .nil
 | @cons p q ps qs h t ih=>
  obtain⟨h1,h2⟩:=h;rw[zr,zr];by_cases e:p.1=k
  ·have a:¬decide (p.1≠k)=true:=by simp[e]
   have b:¬decide (q.1≠k)=true:=by simp[h1.symm.trans e]
   rw[ag a,ag b];exact ih
  ·have e':¬q.1=k:=λz=>e (h1.trans z)
   have a:decide (p.1≠k)=true:=by simp[e]
   have b:decide (q.1≠k)=true:=by simp[e']
   rw[ai a,ai b];exact .cons ⟨h1,h2⟩ ih
theorem KV.length(r:KV kvs vs):kvs.length=vs.length:=Paired.length r
def JQ(kvs:List (κ×V))(k:κ):(my kvs k).length<=kvs.length:=wC _ _
end
def xX(r:RelV (kV k) u):(eu P w).is k u=true:=by
 cases k with
 |inl i=>obtain⟨t,e⟩:=(show ∃t,u=Value.int i t from r);subst e;exact CK P w i t
 |inr x=>obtain⟨t,e⟩:=(show ∃t,u=Value.str x t from r);subst e;exact CJ P w x t
theorem zZ:∀{ks:List Key}{us:List Value},Vals (ks.map kV) us->ItemsAre (eu P w) ks us
 | [],_,r=>by rw[uu] at r;cases r;exact .nil
 |k :: ks,_,r=>by
  rw[cz] at r;cases r with
  |cons h t=>exact .cons (xX h) (zZ t)
abbrev KT(H:Hp):List (List Key×V)->List (List Key×Addr×Value)->Prop:=Paired λp q=>p.1=q.1/\H q.2.1=some (.tup (p.1.map kV))/\RelV p.2 q.2.2
def KT.val(r:KT H kvs xs)(k:List Key):qu (gA kvs k) ((atKey xs k).map (·.2)):=by
 induction r with
 |nil=>exact True.intro
 | @cons p q ps qs h t ih=>
  obtain⟨h1,_,h2⟩:=h;by_cases e:p.1=k
  ·have e':q.1=k:=h1.symm.trans e;have b:atKey (q :: qs) k=some q.2:=by simp[atKey,zu,e']
   rw[fM e,b];exact h2
  ·have e':¬q.1=k:=λz=>e (h1.trans z)
   have b:atKey (q :: qs) k=atKey qs k:=by simp[atKey,zu,e']
   rw[fN e,b];exact ih
def KT.LR(r:KT H kvs xs)(k:List Key)(ry:RelV y u):
  KT H (kvs.map λkv=>if kv.1=k then (kv.1,y) else kv) (xs.map (putAt k u)):=by
 induction r with
 |nil=>exact .nil
 | @cons p q ps qs h t ih=>
  rw[cz,cz];refine .cons ?_ ih;obtain⟨h1,h2,h3⟩:=h;unfold putAt;by_cases e:p.1=k
  ·rw[ai e,ai (h1.symm.trans e)];exact⟨h1,h2,ry⟩
  ·rw[ag e,ag (λz=>e (h1.trans z))];exact⟨h1,h2,h3⟩
def KT.put(r:KT H kvs xs)(k:List Key)(hb:H b=some (.tup (k.map kV)))(ry:RelV y u):
  KT H (putK kvs k y) (storedH xs k b u):=by
 have e:(kvs.any λkv=>decide (kv.1=k))=(atKey xs k).isSome:=by
  rw[oP,(r.val k).mr,Option.isSome_map]
 unfold putK storedH;rw[e];by_cases q:(atKey xs k).isSome=true
 ·rw[ai q,ai q];exact r.LR k ry
 ·rw[ag q,ag q];exact Paired.snoc r ⟨rfl,hb,ry⟩
def KT.keeps(r:KT H kvs xs)(ht:∀b ys,H b=some (.tup ys)->H' b=some (.tup ys)):KT H' kvs xs:=
 Paired.Me r λ_ _ z=>⟨z.1,ht _ _ z.2.1,z.2.2⟩
section
variable {P:Program} {w:World} {H:Hp} {h:Heap} {a:Addr}
def Lp(ok:i5 P w H h)(e:Rd H a u):eP P w H h a u:=e.ok ok
def vb(ok:i5 P w H h)(e:Rd H a (.dK kvs)):kvs.length<=sizeLine/\(a==sysModules)=false/\∃vs,KV kvs vs/\h.DictOf (eu P w) a vs:=
 show eP P w H h a (.dK kvs) from Lp ok e
def LB(ok:i5 P w H h)(e:H a=some (.dK kvs)):kvs.length<=sizeLine/\(a==sysModules)=false/\∃vs,KV kvs vs/\h.DictOf (eu P w) a vs:=vb ok (.inl e)
def tZ(ok:i5 P w H h)(e:H a=some (.tup (ks.map kV))):(tupleKind (eu P w)).is h ks a:=by
 obtain⟨_,its,r,o,h1,h2,n,h3⟩:=(show eP P w H h a (.tup (ks.map kV)) from ok a _ e);exact⟨o,its.toArray,n,h1,h2,h3,by simpa using zZ r⟩
def yp(ok:i5 P w H h)(e:Rd H a (.dT kvs)):kvs.length<=sizeLine/\(a==sysModules)=false/\
  ∃xs,KT H kvs xs/\h.DictOfH (tupleKind (eu P w)) a xs:=by
 obtain⟨z,y,xs,r,o,es,ep,h1,h2,h3,h4,h5⟩:=(show eP P w H h a (.dT kvs) from Lp ok e);refine⟨z,y,xs,r,o,es,ep,h1,h2,h3,h4,λx hx=>?_,h5⟩;have all:∀{l:List (List Key×V)}{m:List (List Key×Addr×Value)},KT H l m->∀x∈m,(tupleKind (eu P w)).is h x.1 x.2.1:=by
  intro l m q
  induction q with
  |nil=>intro x hx;exact nomatch hx
  | @cons p q ps qs hq t ih=>
   intro x hx
   rcases bp.mp hx with e |hx
   ·subst e;exact tZ ok (by rw[<- hq.1];exact hq.2.1)
   ·exact ih x hx
 exact all r x hx
def NF(ok:i5 P w H h)(e:H a=some (.dT kvs)):kvs.length<=sizeLine/\(a==sysModules)=false/\
  ∃xs,KT H kvs xs/\h.DictOfH (tupleKind (eu P w)) a xs:=yp ok (.inl e)
end
def ja(H:Hp)(a:Addr)(y:V)(r:Option V):Prop:=
 (∃kvs k,Rd H a (.dK kvs)/\y=kV k/\r=gA kvs k)\/∃kvs k b,Rd H a (.dT kvs)/\y=.ref b/\H b=some (.tup (k.map kV))/\r=gA kvs k
def BP(H:Hp)(a:Addr)(y v:V)(H':Hp):Prop:=
 (∃kvs k,H a=some (.dK kvs)/\y=kV k/\kvs.length<sizeLine/\H'=upd H a (.dK (putK kvs k v)))\/
 ∃kvs k b,H a=some (.dT kvs)/\y=.ref b/\H b=some (.tup (k.map kV))/\kvs.length<sizeLine/\H'=upd H a (.dT (putK kvs k v))
theorem ja.k{H:Hp}{a:Addr}{kvs:List (Key×V)}{k:Key}(e:H a=some (.dK kvs)):ja H a (kV k) (gA kvs k):=.inl ⟨kvs,k,.inl e,rfl,rfl⟩
theorem BP.k{H:Hp}{a:Addr}{kvs:List (Key×V)}{k:Key}{v:V}(e:H a=some (.dK kvs))(hl:kvs.length<sizeLine):BP H a (kV k) v (upd H a (.dK (putK kvs k v))):=.inl ⟨kvs,k,e,rfl,hl,rfl⟩
section
variable {X:Cx} {pins:List (Addr×Obj)} {σ:St} {H:Hp} {s:Shared} {a:Addr} {y v:V} {u r:Value} {o:Option V} {A:Around} {E:Value->Shared->Prop}
def Inv.big(I:Inv X pins σ H s):sysModules<s.heap.objs.size:=by
 have h:mainGlobals<s.heap.objs.size:=(I.mod.glob.keeps I.bk).lt;exact Nat.lt_trans (by decide) h
def HA(hu:A.units+1<cLine)(I:Inv X pins σ H s)(g:ja H a y (some v))(ry:RelV y u)(h:∀w' s',Inv X pins σ H s'->RelV v w'->Q w' s'):
  wpAny (model X.prog X.w) A (getItem (.ref a) u) Q E s:=by
 rcases g with⟨kvs,k,e,ey,l⟩ | ⟨kvs,k,b,e,ey,eb,l⟩
 ·subst ey;obtain⟨z,hd,vs,rel,dd⟩:=vb I.bP e;obtain⟨w',hw,rw'⟩:=qu.some_of (v:=v) (o:=valueAt vs k) (by rw[l];exact rel.val k);exact wpAny_getItem_of (xX ry) dd.mapOf hw (h w' _ (I.tok _) rw')
 ·subst ey;cases (show u=Value.ref b from ry);obtain⟨z,hd,xs,rel,dd⟩:=yp I.bP e;obtain⟨w',hw,rw'⟩:=qu.some_of (v:=v) (o:=(atKey xs k).map (·.2)) (by rw[l];exact rel.val k);obtain⟨p,hp,hp2⟩:=bO.mp hw;refine wpAny_getItem_heap (tupleKind_room_in1 hu) (tZ I.bP eb) dd hp ?_;rw[hp2];exact h w' _ (I.tok _) rw'
def Oy(hu:A.units+1<cLine)(I:Inv X pins σ H s)(g:ja H a y o)(ry:RelV y u)(h:∀s',Inv X pins σ H s'->Q (.bool o.isSome) s'):
  wpAny (model X.prog X.w) A (compareOp .In u (.ref a)) Q E s:=by
 rcases g with⟨kvs,k,e,ey,l⟩ | ⟨kvs,k,b,e,ey,eb,l⟩
 ·subst ey;obtain⟨z,hd,vs,rel,dd⟩:=vb I.bP e;refine wpAny_in_of (xX ry) hd dd.mapOf ?_;rw[<- (rel.val k).mr,<- l];exact h _ (I.tok _)
 ·subst ey;cases (show u=Value.ref b from ry);obtain⟨z,hd,xs,rel,dd⟩:=yp I.bP e;refine wpAny_in_heap (tupleKind_room_in1 hu) (tZ I.bP eb) hd dd ?_;have q:=(rel.val k).mr;rw[Option.isSome_map] at q;rw[<- q,<- l];exact h _ (I.tok _)
def L8(hu:A.units+1<cLine)(I:Inv X pins σ H s)(g:ja H a y o)(ry:RelV y u)(h:∀s',Inv X pins σ H s'->Q (.bool (!o.isSome)) s'):
  wpAny (model X.prog X.w) A (compareOp .NotIn u (.ref a)) Q E s:=by
 rcases g with⟨kvs,k,e,ey,l⟩ | ⟨kvs,k,b,e,ey,eb,l⟩
 ·subst ey;obtain⟨z,hd,vs,rel,dd⟩:=vb I.bP e;refine wpAny_notIn_of (xX ry) hd dd.mapOf ?_;rw[<- (rel.val k).mr,<- l];exact h _ (I.tok _)
 ·subst ey;cases (show u=Value.ref b from ry);obtain⟨z,hd,xs,rel,dd⟩:=yp I.bP e;refine wpAny_notIn_heap (tupleKind_room_in1 hu) (tZ I.bP eb) hd dd ?_;have q:=(rel.val k).mr;rw[Option.isSome_map] at q;rw[<- q,<- l];exact h _ (I.tok _)
def BA(I:Inv X pins σ H s)(mu:LG (H a))(hs:Heap.SameBut a s.heap h')(he:∃q,h'.get? a=some q)(new:eP X.prog X.w (upd H a ob) h' a ob):
  Inv X pins σ (upd H a ob) { s with heap:=h',toks:=t' }:=
 I.write (x:=a) (e:=a) mu (.inl rfl) (λb q hb z=>(hs.2 b hb).trans z) he new
def JR(z:kvs.length<=sizeLine)(hd:(a==sysModules)=false)(rel:KV kvs vs)(dd:h'.DictOf (eu P w) a vs):
  eP P w H' h' a (.dK kvs):=⟨z,hd,vs,rel,dd⟩
def Hz(hu:A.units+1<cLine)(I:Inv X pins σ H s)(g:BP H a y v H')(ry:RelV y u)(rv:RelV v r)(h:∀s',Inv X pins σ H' s'->Q () s'):
  wpAny (model X.prog X.w) A (setItem (.ref a) u r) Q E s:=by
 rcases g with⟨kvs,k,e,ey,l,eH⟩ | ⟨kvs,k,b,e,ey,eb,l,eH⟩
 ·subst ey eH;obtain⟨z,hd,vs,rel,dd⟩:=LB I.bP e;have hz:vs.length<=sizeLine:=by rw[<- rel.length];exact z
  have hl:(putK kvs k v).length<=sizeLine:=by have:=uW kvs k v;omega
  refine wpAny_setItem_pairs (hsz:=hz) (xX ry) dd λh' dd' hs=>h _ ?_
  have he:∃q,h'.get? a=some q:=let ⟨q,_,_,hq,_⟩:=dd';⟨q,hq⟩;exact BA I (by rw[e];exact True.intro) hs he (JR hl hd (rel.put k rv) dd')
 ·subst ey eH;cases (show u=Value.ref b from ry);obtain⟨z,hd,xs,rel,dd⟩:=NF I.bP e;have hz:xs.length<=sizeLine:=by rw[<- Paired.length rel];exact z
  have hl:(putK kvs k v).length<=sizeLine:=by have:=uW kvs k v;omega
  refine wpAny_setItem_heap (hsz:=hz) (tupleKind_room_in1 hu) (tZ I.bP eb) dd λh' dd' hs=>h _ ?_
  obtain⟨q,es,ep,hq,h2,h3,h4,_,h5⟩:=dd';refine BA I (by rw[e];exact True.intro) hs ⟨q,hq⟩ ⟨hl,hd,_,(rel.put k eb rv).keeps λc ys ec=>?_,q,es,ep,hq,h2,h3,h4,h5⟩;rw[aw (gc ec e (λz=>nomatch z))];exact ec
end
section
variable {X:Cx} {pins:List (Addr×Obj)} {σ:St} {H:Hp} {s:Shared} {a:Addr} {kvs:List (Key×V)} {k:Key} {u:Value} {A:Around} {E:Value->Shared->Prop}
def NG(I:Inv X pins σ H s)(e:H a=some (.dK kvs))(ry:RelV (kV k) u)(l:gA kvs k=some v)(hm:more=[]\/∃x,more=[x])
  (h:∀w' s',Inv X pins σ (upd H a (.dK (my kvs k))) s'->RelV v w'->Q w' s'):wpAny (model X.prog X.w) A (call (.builtin "dict.pop") (.ref a :: u :: more)) Q E s:=by
 obtain⟨z,hd,vs,rel,dd⟩:=LB I.bP e;obtain⟨w',hw,rw'⟩:=qu.some_of (v:=v) (o:=valueAt vs k) (by rw[<- l];exact rel.val k);have hp:(keyPart u).isSome=true:=by
  cases k with
  |inl i=>obtain⟨t,q⟩:=(show ∃t,u=Value.int i t from ry);subst q;rfl
  |inr x=>obtain⟨t,q⟩:=(show ∃t,u=Value.str x t from ry);subst q;rfl
 have ha:argsOk "dict.pop" ⟨.ref a :: u :: more,[]⟩:=by
  rcases hm with q | ⟨x,q⟩
  ·subst q;exact PySem.F.args_dict_pop_2 _ _
  ·subst q;exact PySem.F.args_dict_pop_3 _ _ _
 refine call_meetsIn PySem.F.slot_dict_pop dd.typeIs PySem.F.entry_dict_pop ha (meets_dict_pop_there (eu X.prog X.w) a (xX ry) more hm hp)
  ⟨vs,w',dd,by rw[<- rel.length];exact z,hw,λh' dd' hs=>h w' _ ?_ rw'⟩
 have he:∃q,h'.get? a=some q:=let ⟨q,_,_,hq,_⟩:=dd';⟨q,hq⟩;exact BA I (by rw[e];exact True.intro) hs he (JR (eY (JQ kvs k) z) hd (rel.drop k) dd')
def NH(I:Inv X pins σ H s)(e:Rd H a (.dK kvs))(h:∀t s',Inv X pins σ H s'->Q (.int kvs.length t) s'):wpAny (model X.prog X.w) A (call (.builtin "len") [.ref a]) Q E s:=by
 obtain⟨z,hd,vs,rel,dd⟩:=vb I.bP e;refine call_len_dict hd dd (by rw[<- rel.length];rw[sizeLine_eq] at z;omega) ?_;rw[<- rel.length];exact h _ _ (I.tok _)
end
def NS(i:Expr):Prop:= ∀ov iv,subscripted i false ov iv=operate [ov,iv] (getItem ov iv)
def Kf{prog:Program}{w:World}{A:Around}{E:Value->Shared->Prop}{s:Shared}{env:Env}{value slice:Expr}{pos:Pos}{T id:String}{Q:Value->Shared->Prop}
  (hl:typeLookup (.type T) "__getitem__" =pure (some (.builtin id))) (hs:NS slice)
  (h:wpAny (model prog w) A (eval value env) (λo s₁=>wpAny (model prog w) A (eval slice env) (λi s₂=>s₂.TypeIs o T/\wpAny (model prog w) A (getItem o i) Q E s₂) E s₁) E s):
  wpAny (model prog w) A (eval (.Subscript value slice pos) env) Q E s:=by
 refine Subscript_ (wpAny_mono h (λo s₁ h₁=>wpAny_mono h₁ (λi s₂ h₂=>?_) λ_ _ x=>x) λ_ _ x=>x);obtain⟨hT,h₂⟩:=h₂;unfold subscriptTail;refine aB ?_;rw[getitemInPython_of_ne hT.not_modules];refine aB (wpAny_specialOf hT hl ?_);have fin:wpAny (model prog w) A (subscripted slice false o i) (λr s₃=>wpAny (model prog w) A (letTemporaryGo value o r >>= λ_=>pure r) Q E s₃) E s₂:=by
  rw[hs o i];exact wpAny_operating (wpAny_mono h₂ (λr s₃ h₃=>aB (wpAny_letTemporaryGo (aM h₃))) λ_ _ x=>x)
 first
  |exact aM (aB fin)
  |exact aB (aM (aB fin))
  |exact aB fin
def Df(I:Inv X pins σ H s)(g:ja H a y o):s.TypeIs (.ref a) "dict" :=by
 rcases g with⟨kvs,k,e,_,_⟩ | ⟨kvs,k,b,e,_,_,_⟩
 ·obtain⟨_,_,vs,_,dd⟩:=vb I.bP e;exact dd.typeIs
 ·obtain⟨_,_,xs,_,dd⟩:=yp I.bP e;exact dd.typeIs
def Ik(td ty:TE):TE:=λσ H Q=>td σ H λx H1=>ty σ H1 λy H2=> ∃a v,x=.ref a/\ja H2 a y (some v)/\Q v H2
def MX(ty td:TE):TE:=λσ H Q=>ty σ H λy H1=>td σ H1 λx H2=> ∃a o,x=.ref a/\ja H2 a y o/\Q (.bl o.isSome) H2
def AF(ty td:TE):TE:=λσ H Q=>ty σ H λy H1=>td σ H1 λx H2=> ∃a o,x=.ref a/\ja H2 a y o/\Q (.bl (!o.isSome)) H2
def IA(td ty tv:TE):TS:=λD σ H=>tv σ H λv H1=>td σ H1 λx H2=>ty σ H2 λy H3=> ∃a H4,x=.ref a/\BP H3 a y v H4/\D.nx σ H4
section
variable {X:Cx} {o i e value:Expr} {pos pos' tpos:Pos} {td ty tv:TE}
def iT(hu:X.A.units+1<cLine)(ho:PE X o td)(hi:PE X i ty)(hs:NS i):PE X (.Subscript o i pos) (Ik td ty):=by
 intro pins s σ H Q I h;refine Kf PySem.F.slot_dict_getitem.lookup hs (f6 (ho pins s σ H _ I h) λu s1 ⟨x,H1,I1,rx,q1⟩ =>f6 (hi pins s1 σ H1 _ I1 q1) λiv s2 ⟨y,H2,I2,ry,a,v,ex,g,q2⟩ =>?_);subst ex;obtain rfl:u=Value.ref a:=rx;exact⟨Df I2 g,HA hu I2 g ry λw' s3 I3 rw'=>⟨v,H2,I3,rw',q2⟩⟩
def M9(hu:X.A.units+1<cLine)(hi:PE X i ty)(ho:PE X o td):PC X .In i o (MX ty td):=by
 intro pins s σ H Q I h;refine f6 (hi pins s σ H _ I h) λiv s1 ⟨y,H1,I1,ry,q1⟩ =>f6 (ho pins s1 σ H1 _ I1 q1) λu s2 ⟨x,H2,I2,rx,a,ov,ex,g,q2⟩ =>?_
 subst ex;obtain rfl:u=Value.ref a:=rx;exact Oy hu I2 g ry λs3 I3=>⟨.bl ov.isSome,H2,I3,rfl,q2⟩
def gO(hu:X.A.units+1<cLine)(hi:PE X i ty)(ho:PE X o td):PC X .NotIn i o (AF ty td):=by
 intro pins s σ H Q I h;refine f6 (hi pins s σ H _ I h) λiv s1 ⟨y,H1,I1,ry,q1⟩ =>f6 (ho pins s1 σ H1 _ I1 q1) λu s2 ⟨x,H2,I2,rx,a,ov,ex,g,q2⟩ =>?_
 subst ex;obtain rfl:u=Value.ref a:=rx;exact L8 hu I2 g ry λs3 I3=>⟨.bl (!ov.isSome),H2,I3,rfl,q2⟩
def AX(hu:X.A.units+1<cLine)(ho:PE X o td)(hi:PE X i ty)(hv:PE X value tv)(hs:swapsWith value (some (.Subscript o i pos')) pos.line X.env=pure false):
  PS X (.Assign [.Subscript o i pos'] value pos) (IA td ty tv):=by
 intro pins s σ H D I h;refine wpAny_Assign_Subscript (f6 (hv pins s σ H _ I h) λr s1 ⟨v,H1,I1,rv,q1⟩ =>f6 (ho pins s1 σ H1 _ I1 q1) λu s2 ⟨x,H2,I2,rx,q2⟩ =>f6 (hi pins s2 σ H2 _ I2 q2) λiv s3 ⟨y,H3,I3,ry,a,H4,ex,g,q3⟩ =>?_) hs;subst ex;obtain rfl:u=Value.ref a:=rx;exact Hz hu I3 g ry rv λs4 I4=>⟨σ,H4,I4,q3⟩
end
def JS(h:Heap)(hb:sysModules<h.objs.size):eP P w H (h.push { cls:=.type "dict",data:=.dict #[] }) h.objs.size (.dK []):=
 ⟨d8 _,beq_eq_false_iff_ne.mpr (Ne.symm (eI hb)),[],.nil,Heap.DictOf.new h⟩
def Ii:TE:=λ_ H Q=> ∀p,H p=none->Q (.ref p) (upd H p (.dK []))
section
variable {X:Cx} {pos:Pos}
def xw:PE X (.Dict [] [] pos) Ii:=λpins s σ H Q I h=>
 wpAny_Dict_empty ⟨.ref s.heap.objs.size,_,I.laid (a:=s.heap.objs.size) (o:=.dK []) (t':=s.toks) (λ_ _ q=>dF _ q) (bx _) (JS s.heap I.big),rfl,h _ (I.bP.fresh (bx _))⟩
end
structure M1(X:Cx)(o:Expr)(m:Str)(apos:Pos)(e:Expr)(cpos:Pos):Prop where
 base:attributeBase o m X.env (eval o X.env)=eval o X.env
 few:((backTo cpos (starEach [e] X.env)).all (λx=>!x.1)&&(backToKw cpos (keywordEach [] X.env)).all (λx=>x.1.isSome)
  &&decide (([e]:List Expr).length+([]:List Keyword).length+(if ([]:List Keyword).isEmpty then 0 else 1)<30))=true
 line:(apos.endLine==cpos.line)=true
 trees:backTo cpos (starEach [e] X.env)=[(false,eval e X.env)]
def Oe(H:Hp)(a:Addr):Prop:=(∃kvs,Rd H a (.dK kvs))\/∃kvs,Rd H a (.dT kvs)
def Jn(I:Inv X pins σ H s)(d:Oe H a):
  s.TypeIs (.ref a) "dict" /\(∀b,Value.ref a=.ref b->∃ob,s.heap.get? b=some ob/\ob.dict=none)/\(a==sysModules)=false:=by
 rcases d with⟨kvs,e⟩ | ⟨kvs,e⟩
 ·obtain⟨_,hd,vs,_,dd⟩:=vb I.bP e;refine⟨dd.typeIs,λb q=>?_,hd⟩;cases q;obtain⟨ob,_,_,h1,h2,_⟩:=dd;exact⟨ob,h1,h2.2.1⟩
 ·obtain⟨_,hd,xs,_,dd⟩:=yp I.bP e;refine⟨dd.typeIs,λb q=>?_,hd⟩;cases q;obtain⟨ob,_,_,h1,h2,_⟩:=dd;exact⟨ob,h1,h2.2.1⟩
section
variable {X:Cx} {pins:List (Addr×Obj)} {σ:St} {H:Hp} {s:Shared} {a:Addr} {y d:V} {u r:Value} {o:Option V} {A:Around} {E:Value->Shared->Prop}
def ME(hu:A.units+1<cLine)(I:Inv X pins σ H s)(g:ja H a y o)(ry:RelV y u)(h:∀w' s',Inv X pins σ H s'->RelV (o.getD .ez) w'->Q w' s'):
  wpAny (model X.prog X.w) A (call (.builtin "dict.get") [.ref a,u]) Q E s:=by
 rcases g with⟨kvs,k,e,ey,l⟩ | ⟨kvs,k,b,e,ey,eb,l⟩
 ·subst ey;obtain⟨z,hd,vs,rel,dd⟩:=vb I.bP e;refine call_meetsIn PySem.F.slot_dict_get dd.typeIs PySem.F.entry_dict_get (PySem.F.args_dict_get_2 _ _) (meets_dict_get (eu X.prog X.w) a (xX ry) hd) ⟨_,dd.mapOf,h _ _ (I.tok _) ?_⟩;rw[l];exact(rel.val k).getD rfl
 ·subst ey;cases (show u=Value.ref b from ry);obtain⟨z,hd,xs,rel,dd⟩:=yp I.bP e;refine call_meetsIn PySem.F.slot_dict_get dd.typeIs PySem.F.entry_dict_get (PySem.F.args_dict_get_2 _ _) (meetsH_dict_get (tupleKind (eu X.prog X.w)) a b hd) ⟨tupleKind_room_in1 hu,k,xs,tZ I.bP eb,dd,h _ _ (I.tok _) ?_⟩;rw[l];exact(rel.val k).getD rfl
end
def Ij(td ty:TE):TE:=λσ H Q=>td σ H λx H1=> ∃a,x=.ref a/\Oe H1 a/\ty σ H1 λy H2=> ∃o,ja H2 a y o/\Q (o.getD .ez) H2
def Ih(td ty:TE):TE:=λσ H Q=>td σ H λx H1=> ∃a,x=.ref a/\Oe H1 a/\ty σ H1 λy H2=> ∃kvs k v,H2 a=some (.dK kvs)/\y=kV k/\gA kvs k=some v/\Q v (upd H2 a (.dK (my kvs k)))
section
variable {X:Cx} {o e f:Expr} {apos cpos:Pos} {td ty tx:TE}
def IV(hu:X.A.units+1<cLine)(ho:PE X o td)(he:PE X e ty)(m:M1 X o "get" apos e cpos):PE X (.Call (.Attribute o "get" apos) [e] [] cpos) (Ij td ty):=by
 intro pins s σ H Q I h;refine wpAny_Call_method m.base m.few m.line PySem.F.plainAttrs_dict PySem.F.slot_dict_get PySem.F.type_dict_get (f6 (ho pins s σ H _ I h) λu s1 ⟨x,H1,I1,rx,a,ex,d,q1⟩ =>?_);subst ex;obtain rfl:u=Value.ref a:=rx;obtain⟨t1,t2,_⟩:=Jn I1 d;refine⟨t1,t2, ?_⟩;rw[m.trees];refine Calls.callWith_builtin rfl (Calls.evalArgs_plain (Calls.spliced_cons (f6 (he pins s1 σ H1 _ I1 q1) λiv s2 ⟨y,H2,I2,ry,ov,g,q2⟩ =>Calls.spliced_nil ?_)));exact ME hu I2 g ry λw' s3 I3 rw'=>⟨_,H2,I3,rw',q2⟩
def IU(ho:PE X o td)(he:PE X e ty)(m:M1 X o "pop" apos e cpos):PE X (.Call (.Attribute o "pop" apos) [e] [] cpos) (Ih td ty):=by
 intro pins s σ H Q I h;refine wpAny_Call_method m.base m.few m.line PySem.F.plainAttrs_dict PySem.F.slot_dict_pop PySem.F.type_dict_pop (f6 (ho pins s σ H _ I h) λu s1 ⟨x,H1,I1,rx,a,ex,d,q1⟩ =>?_);subst ex;obtain rfl:u=Value.ref a:=rx;obtain⟨t1,t2,_⟩:=Jn I1 d;refine⟨t1,t2, ?_⟩;rw[m.trees];refine Calls.callWith_builtin rfl (Calls.evalArgs_plain (Calls.spliced_cons (f6 (he pins s1 σ H1 _ I1 q1) λiv s2 ⟨y,H2,I2,ry,kvs,k,v,ea,ey,l,q2⟩ =>Calls.spliced_nil ?_)));subst ey;exact NG I2 ea ry l (.inl rfl) λw' s3 I3 rw'=>⟨v,_,I3,rw',q2⟩
end
section
variable {X:Cx} {pins:List (Addr×Obj)} {σ:St} {H:Hp} {s:Shared} {h':Heap}
def Inv.Kb{t':Nat}{ch:List Addr}(I:Inv X pins σ H s)(k:∀b o,b∉ch->s.heap.get? b=some o->h'.get? b=some o)(hf:∀b∈ch,vS X pins H b):Inv X pins σ H { s with heap:=h',toks:=t' }:=by
 have nit:∀b u,H b=some u->b∉ch:=λb u e z=>by
  have q:=(hf b z).1;rw[q] at e;cases e
 refine I.step (g':=s.gens) (d':=s.drawn) (ch:=ch) (λb hb=>⟨(hf b hb).2.2.2.1,(hf b hb).2.1,(hf b hb).2.2.2.2.1,(hf b hb).2.2.2.2.2⟩) (λb o _ _ hc e _=>k b o hc e) (λb o _ _ hc e _=>⟨o.slots,k b o hc e⟩)
  (λ_ _ _ _ n=>n) (λb o hc e=>⟨o,k b o hc e⟩) (λ_ _ e=>e) (λ_ _ _ e=>e) (λb ps e=>⟨#[],by rw[e];simp⟩) (λm hm=>?_) (λb u e=>?_) I.bare
 ·obtain⟨o,es,ep,ho,r⟩:=hm;exact⟨o,es,ep,k _ o (λz=>(hf _ z).2.1 rfl) ho,r⟩
 ·refine(I.bP b u e).rA (λc v hc q=>k c v ?_ q) (λ_ q=>q) λ_ _ q=>q
  rcases hc with z |z
  ·rw[z];exact nit b u e
  ·exact nit c _ z
def Inv.zF{t':Nat}{ch:List Addr}{T:Addr}{ob:HO}(I:Inv X pins σ H s)(k:∀b o,b∉ch->s.heap.get? b=some o->h'.get? b=some o)(hf:∀b∈ch,vS X pins H b)(hT:s.heap.objs.size<=T)
  (new:eP X.prog X.w (upd H T ob) h' T ob):Inv X pins σ (upd H T ob) { s with heap:=h',toks:=t' }:=by
 have hn:H T=none:=I.bP.fresh hT;have nit:∀b u,H b=some u->b∉ch:=λb u e z=>by
  have q:=(hf b z).1;rw[q] at e;cases e
 refine I.step (g':=s.gens) (d':=s.drawn) (ch:=ch) (λb hb=>⟨(hf b hb).2.2.2.1,(hf b hb).2.1,(hf b hb).2.2.2.2.1,(hf b hb).2.2.2.2.2⟩) (λb o _ _ hc e _=>k b o hc e) (λb o _ _ hc e _=>⟨o.slots,k b o hc e⟩)
  (λb o _ e n=>?_) (λb o hc e=>⟨o,k b o hc e⟩) (λb xs e=>?_) (λb o u e=>?_) (λb ps e=>⟨#[], ?_⟩) (λm hm=>?_) (λb u e=>?_) I.bare
 ·rw[aw (eI (iD (dD e) hT))];exact n
 ·rw[aw (aJ e hn)];exact e
 ·rw[aw (aJ e hn)];exact e
 ·rw[aw (aJ e hn),e];simp
 ·obtain⟨o,es,ep,ho,r⟩:=hm;exact⟨o,es,ep,k _ o (λz=>(hf _ z).2.1 rfl) ho,r⟩
 ·by_cases hb:b=T
  ·subst hb;rw[ah] at e;cases e;exact new
  ·rw[aw hb] at e;refine(I.bP b u e).rA (λc v hc q=>k c v ?_ q) (λc q=>by rw[aw (aJ q hn)];exact q) λc xs q=>by rw[aw (aJ q hn)];exact q
   rcases hc with z |z
   ·rw[z];exact nit b u e
   ·exact nit c _ z
def Inv.lock(I:Inv X pins σ H s)(h:H d=some u)(mu:LG (some u)):∃od,Inv X pins σ (upd H d (.kZ od u)) s:=by
 have x:=I.bP d u h;have ex:∃od,s.heap.get? d=some od:=by
  cases u with
  |lst xs=>obtain⟨_,_,_,_,e⟩:=x;exact⟨_,e⟩
  |dK kvs=>obtain⟨_,_,_,_,o,_,_,e,_⟩:=x;exact⟨o,e⟩
  |dT kvs=>obtain⟨_,_,_,_,o,_,_,e,_⟩:=x;exact⟨o,e⟩
  |set S n=>obtain⟨o,_,_,_,e,_⟩:=x;exact⟨o,e⟩
  |ins C dx fs=>obtain⟨_,_,_,e,_⟩:=x;exact⟨_,e⟩
  |ext φ=>obtain⟨_,⟨_,e⟩,_⟩:=x;exact⟨_,e⟩
  |_=>exact False.elim mu
 obtain⟨od,e⟩:=ex;have new:eP X.prog X.w (upd H d (.kZ od u)) s.heap d (.kZ od u):=by
  refine⟨e,x.rA (λb v _ q=>q) (λb q=>?_) λb xs q=>?_⟩
  ·rw[aw (λz=>by rw[z,h] at q;cases q;exact mu)];exact q
  ·rw[aw (λz=>by rw[z,h] at q;cases q;exact mu)];exact q
 exact⟨od,I.write (x:=d) (e:=d) (t':=s.toks) (h':=s.heap) (by rw[h];exact mu) (.inl rfl) (λb v _ q=>q) ⟨od,e⟩ new⟩
def Inv.FA(I:Inv X pins σ H s)(h:H d=some u)(mu:LG (some u)):∀o' u',X.MM d≠some (.kZ o' u'):=λo' u' e=>by
 have q:=I.base.yf d o' u' e;rw[h] at q;cases q;exact mu
def Inv.unlock(I:Inv X pins σ H s)(h:H d=some (.kZ od u))(hn:∀o' u',X.MM d≠some (.kZ o' u')):Inv X pins σ (upd H d u) s:=by
 have neH:∀b o,H b=some o->(∀o' u',o≠ .kZ o' u')->b≠d:=λb o e hne z=>by
  rw[z,h] at e;cases e;exact hne _ _ rfl
 have neN:∀b,H b=none->b≠d:=λb e z=>by rw[z,h] at e;cases e
 refine⟨I.ok,I.os,I.bare,⟨I.base.keep,I.base.slot,λb o e n hx=>?_,I.base.there,λb xs e=>?_,λb o x e=>?_,λb ps e=>?_⟩,I.loc,I.cell, ?_,λx c e=>?_,λp hp=>?_,λb o e=>?_,I.len⟩
 ·rw[aw (neN b (I.base.free b o e n hx))];exact I.base.free b o e n hx
 ·have q:=I.base.AA b xs e;rw[aw (neH b _ q (λ_ _ z=>nomatch z))];exact q
 ·have q:=I.base.yf b o x e;rw[aw (λz=>by rw[z] at e;exact hn _ _ e)];exact q
 ·obtain⟨m,q⟩:=I.base.AD b ps e;exact⟨m,by rw[aw (neH b _ q (λ_ _ z=>nomatch z))];exact q⟩
 ·rw[aw (neN _ I.free)];exact I.free
 ·rw[aw (neN c (I.l4 x c e))];exact I.l4 x c e
 ·obtain⟨e,n,r⟩:=I.pin p hp;exact⟨e,by rw[aw (neN _ n)];exact n,r⟩
 ·by_cases hb:b=d
  ·rw[hb,ah] at e;cases e;rw[hb];obtain⟨_,x⟩:=I.bP d _ h;exact x.rA (λc v _ q=>q) (λc q=>by rw[aw (neH c _ q (λ_ _ z=>nomatch z))];exact q) λc xs q=>by rw[aw (neH c _ q (λ_ _ z=>nomatch z))];exact q
  ·rw[aw hb] at e;exact(I.bP b o e).rA (λc v _ q=>q) (λc q=>by rw[aw (neH c _ q (λ_ _ z=>nomatch z))];exact q) λc xs q=>by rw[aw (neH c _ q (λ_ _ z=>nomatch z))];exact q
end
def Ll(t:TS):TS:=λD σ H=> ∃d u,H d=some u/\LG (some u)/\∀od,t ⟨λσ' H'=>H' d=some (.kZ od u)/\D.nx σ' (upd H' d u),λv H'=>H' d=some (.kZ od u)/\D.rt v (upd H' d u),λσ' H'=>H' d=some (.kZ od u)/\D.bk σ' (upd H' d u),λσ' H'=>H' d=some (.kZ od u)/\D.ct σ' (upd H' d u)⟩ σ (upd H d (.kZ od u))
section
variable {X:Cx}
def Kr{st:Stmt}{t:TS}(h:PS X st t):PS X st (Ll t):=by
 intro pins s σ H D I hw;obtain⟨d,u,hd,mu,hw⟩:=hw;obtain⟨od,I1⟩:=I.lock hd mu;refine f6 (h pins s σ _ _ I1 (hw od)) λf s1 q=>?_
 cases f with
 |next=>obtain⟨σ',H',I2,e,q⟩:=q;exact⟨σ',_,I2.unlock e (I.FA hd mu),q⟩
 |brk=>obtain⟨σ',H',I2,e,q⟩:=q;exact⟨σ',_,I2.unlock e (I.FA hd mu),q⟩
 |cont=>obtain⟨σ',H',I2,e,q⟩:=q;exact⟨σ',_,I2.unlock e (I.FA hd mu),q⟩
 |ret v=>obtain⟨x,σ',H',I2,r,e,q⟩:=q;exact⟨x,σ',_,I2.unlock e (I.FA hd mu),r,q⟩
def Ed(I:Inv X pins σ H s)(o:Obj)
  (T:Turn X.prog X.w X.K tg J [s.heap.objs.size] s.heap.objs.size tn) (st:tn 0 (s.heap.push o)) (q:R J H):OI X pins σ tg R (.ref s.heap.objs.size) { s with heap:=s.heap.push o,toks:=tk }:=by
 refine⟨s.heap.objs.size,[s.heap.objs.size],tn,J,H,rfl,I.kept λb ob e=>dF _ e,T,st,λb hb=>?_,q⟩;have e:b=s.heap.objs.size:=by simpa using hb
 subst e;exact I.Hu (bx _) (I.bP.fresh (bx _))
end
def OZ(lo c:Int)(n:Nat):It:=⟨λi _=>i<n,λi H x H'=>H'=H/\x=.int (lo+(i:Nat) * c),λi _=>n<=i⟩
def C4{P:Program}{w:World}{K:bg}{tg:Expr}(it:Addr)(lo c:Int)(n:Nat):Turn P w K tg (OZ lo c n) [it] it (λi h=>IsRangeIter h it (lo+(i:Nat) * c) ((n:Int) - (i:Nat)) c) where
 mem:=by simp
 obj:=λi h st b hb=>by
  have e:b=it:=by simpa using hb
  subst e;exact⟨_,st,λv z=>nomatch z⟩
 keep:=λi h h' st k=>k it (by simp) _ st
 item:=by
  intro X hP hw hK hc i pins s σ H E I hf st hg;subst hP hw hK;obtain⟨f0,f1,f2,f3,f4,f5⟩:=hf it (by simp);have W:=Walks.range (prog:=X.prog) (w:=X.w) (I.ok.hd hc) it lo c n;refine W.item i s _ _ hg st λv h' tk hv st' kk=>?_
  obtain⟨t,rfl⟩:=hv;have I1:Inv X pins σ H { s with heap:=h',toks:=tk }:=I.turned (λb o hb e=>kk b o (by simpa using hb) e) f0 f1 f3 f4 f5;exact⟨_,rfl,D1 (s:= { s with heap:=h',toks:=tk }) (n:= "range_iterator") st' rfl rfl (by decide) ⟨.int (lo+(i:Nat) * c),H,I1,⟨t,rfl⟩,⟨rfl,rfl⟩,st',λb hb=>(hf b hb).1⟩⟩
 done:=by
  intro X hP hw hK hc i pins s σ H E I hf st hg;subst hP hw hK;obtain⟨f0,f1,f2,f3,f4,f5⟩:=hf it (by simp);exact wpAny_pyNext_range_end (I.ok.hd hc) st (by have:n<=i:=hg;omega) λh' eb=>⟨rfl,I.turned (t':=s.toks) (λb o hb e=>eb b o hb e) f0 f1 f3 f4 f5⟩
 self:=λA i s Q E st h=>wpAny_pyIter_rangeiter st h
def OH(i j c:Int)(n:Nat):Prop:=c≠0/\c.natAbs<1073741824/\Builtin.Range.small i j c=true/\Builtin.Range.rangeSize i j c=n
def Lv(ta:TA):TI:=λσ H R=>ta σ H λvs H1=> ∃(i j c:Int)(n:Nat),vs=[.int i,.int j,.int c]/\OH i j c n/\R (OZ i c n) H1
section
variable {X:Cx} {tg:Expr}
def GK(hg:Gl X "range")(hm:X.mg "range" =none)(ha:PA X [a,b,c] ta)
  (hs:starEach [a,b,c] X.env=(false,eval a X.env) :: starEach [b,c] X.env:=by rfl) (hpl:(backTo pos (starEach [b,c] X.env)).any (·.1)=false:=by rfl):
  PI X tg (.Call (.Name "range" p) [a,b,c] [] pos) (Lv ta):=by
 intro pins s σ H R I h;refine Call_ (tX I hg hm boot_range (PyProof.Rows.callWith_type1 (f6 (ha pos pins s σ H _ I h) λus s1 ⟨vs,H1,I1,r1,q1⟩ =>?_) hs hpl));obtain⟨i,j,k,n,e,⟨c0,c1,c2,c3⟩,q⟩:=q1;subst e;cases r1 with
 |cons r rr=>
  cases rr with
  |cons r' rr=>
   cases rr with
   |cons r'' rr=>
    cases rr;obtain⟨t,rfl⟩:=r;obtain⟨t',rfl⟩:=r';obtain⟨t'',rfl⟩:=r'';refine call_range_3 c0 ?_ (.inl (PyProof.noPylong_small c1));refine wpAny_pyIter_range (IsRange.new ..) c2 ?_;have I2:Inv X pins σ H1 { s1 with heap:=s1.heap.push { cls:=.type "range",data:=.fields #[.int i t,.int j t',.int k t''] } }:=I1.kept (t':=s1.toks) λb o e=>dF _ e
    refine Ed (tk:=s1.toks) I2 _ (C4 _ i k n) ?_ q;have e1:i+((0:Nat):Int) * k=i:=by simp
    have e2:(n:Int) - ((0:Nat):Int)=Builtin.Range.rangeSize i j k:=by rw[c3];simp
    show IsRangeIter _ _ (i+((0:Nat):Int) * k) ((n:Int) - ((0:Nat):Int)) k;rw[e1,e2];exact eG _ rfl
end
section
variable {prog:Program} {w:World} {A:Around} {E:Value->Shared->Prop} {s:Shared}
def u5(hd:(d==sysModules)=false)(ho:s.heap.get? d=some o)(hc:o.ExactDict)(hdat:o.data=.dict es ep)
  (hQ:Q (.ref s.heap.objs.size) { s with heap:=s.heap.push { cls:=.type "dict_keyiterator",data:=.fields #[.ref d,.int 0 0,.int es.size 0,.int ep 0] } }):
  wpAny (model prog w) A (pyIter (.ref d)) Q E s:=by
 have hT:s.TypeIs (.ref d) "dict" :=⟨o,ho,hc.1⟩;refine wpAny_pyIter_slot hT F.slot_dict_iter (wpAny_call_entry F.slot_dict_iter hT F.entry_dict_iter ?_ (F.args_dict_iter_1 _));unfold Builtin.«dict.__iter__»;refine aB ?_;unfold Builtin.Dict.dictSlotNone;refine aB (wpAny_notOrdered_dict hT ?_);show wpAny _ _ (pure (Value.ref d)) _ _ s;refine aM ?_;show wpAny _ _ (Builtin.Dict.showsAll d >>= _) _ _ s;unfold Builtin.Dict.showsAll;rw[ag (by rw[hd];exact fj)];refine aB (aM ?_);refine aB (wpAny_dictEntries ho hdat ?_);refine aB (wpAny_dictEpoch ho hdat ?_);refine aB (wpAny_newObj_type (aM ⟨_,rfl,"dict_keyiterator",_,⟨_,eG _ rfl,rfl⟩,F.slot_dict_keyiterator_next.lookup, ?_⟩));simpa[rawInt] using hQ
def qB(hit:s.heap.IsKeyIter it d i n ep)(hod:s.heap.get? d=some od)(hdd:od.data=.dict es ep)
  (hsz:es.size=n) (hx:es[i]? =some en) (hQ:∀h',h'.IsKeyIter it d (i+1) n ep->Heap.SameBut it s.heap h'->Q (some en.key) { s with heap:=h' }):wpAny (model prog w) A (pyNext (.ref it)) Q E s:=by
 obtain⟨o,ho,hc,hd⟩:=id hit;unfold pyNext;refine aB (wpAny_attempt (wpAny_callSpecial?_slot (name:=Str.ofString "__next__") hit.typeIs F.slot_dict_keyiterator_next
  (wpAny_call_entry F.slot_dict_keyiterator_next hit.typeIs F.entry_dict_keyiterator_next ?_ (F.args_dict_keyiterator_next_1 _))))
 refine aB (aM ?_);refine aB ?_;refine aB ?_
 first |refine aB (wpAny_typeNameOfWhole_keyiter hit.typeIs (aM ?_)) |refine aB (wpAny_typeNameOf_keyiter hit.typeIs (aM ?_))
 refine aB (wpAny_fieldsOf ho hd ?_);have hown:Builtin.Dict_items.ownsTuple "dict_keyiterator" =false:=by decide
 simp only[hown,nI,if_false];show wpAny _ _ (if (Value.ref d==Value.none)=true then _ else _) _ _ s;rw[ag (show ¬((Value.ref d==Value.none)=true) from fj)];refine aB (aM ?_);refine aB (wpAny_dictEntries hod hdd ?_);rw[ag (by rw[hsz];simp)];refine aB (aM ?_);refine aB (wpAny_dictEpoch hod hdd ?_);rw[ag (by simp)];refine aM ?_;obtain⟨hlt',hen⟩:=uq.mp hx;simp only[show ¬((i:Int)<0) from by omega,if_false,oF,jZ hlt'];refine aB ?_
 first |refine aB (wpAny_typeNameOfWhole_keyiter hit.typeIs (aM ?_)) |refine aB (wpAny_typeNameOf_keyiter hit.typeIs (aM ?_))
 refine aB (wpAny_isOneOf_keyiter hit.typeIs ?_);show wpAny _ _ (setField (.ref it) 1 (rawInt ((i:Int)+1)) >>= _) _ _ s;refine aB (wpAny_setField ho hd (by simp) ?_);have hit':(s.heap.update it (Obj.mapFields (·.setIfInBounds 1 (rawInt ((i:Int)+1))))).IsKeyIter it d (i+1) n ep:=
  ⟨_,rm _ ho (Obj.isFreed_of_fields (Obj.data_mapFields hd _)),(Obj.cls_mapFields ..).trans hc,by rw[Obj.data_mapFields hd];simp[rawInt]⟩
 refine aB (wpAny_holding ?_);refine aB (wpAny_isOneOf_keyiter (s:= { s with heap:=s.heap.update it (Obj.mapFields (·.setIfInBounds 1 (rawInt ((i:Int)+1)))) }) hit'.typeIs ?_);show wpAny _ _ (pure es[i].key) _ _ _;rw[hen];exact aM (aM ⟨_,rfl,aM (hQ _ hit' (Heap.SameBut.update ..))⟩)
def mT(hh:A.handled=none)(hit:s.heap.IsKeyIter it d i n ep)(hod:s.heap.get? d=some od)(hdd:od.data=.dict es ep)
  (hsz:es.size=n) (hge:n<=i) (hQ:∀h',Heap.ExtBut it s.heap h'->Q none { s with heap:=h' }):wpAny (model prog w) A (pyNext (.ref it)) Q E s:=by
 obtain⟨o,ho,hc,hd⟩:=id hit;unfold pyNext;refine aB (wpAny_attempt (wpAny_callSpecial?_slot (name:=Str.ofString "__next__") hit.typeIs F.slot_dict_keyiterator_next
  (wpAny_call_entry F.slot_dict_keyiterator_next hit.typeIs F.entry_dict_keyiterator_next ?_ (F.args_dict_keyiterator_next_1 _))))
 refine aB (aM ?_);refine aB ?_;refine aB ?_
 first |refine aB (wpAny_typeNameOfWhole_keyiter hit.typeIs (aM ?_)) |refine aB (wpAny_typeNameOf_keyiter hit.typeIs (aM ?_))
 refine aB (wpAny_fieldsOf ho hd ?_);have hown:Builtin.Dict_items.ownsTuple "dict_keyiterator" =false:=by decide
 simp only[hown,nI,if_false];show wpAny _ _ (if (Value.ref d==Value.none)=true then _ else _) _ _ s;rw[ag (show ¬((Value.ref d==Value.none)=true) from fj)];refine aB (aM ?_);refine aB (wpAny_dictEntries hod hdd ?_);rw[ag (by rw[hsz];simp)];refine aB (aM ?_);refine aB (wpAny_dictEpoch hod hdd ?_);rw[ag (by simp)];refine aM ?_;have hge':es.size<=i:=by rw[hsz];exact hge
 simp only[show ¬((i:Int)<0) from by omega,if_false,oF,DE hge'];refine aB ?_
 first |refine aB (wpAny_typeNameOfWhole_keyiter hit.typeIs (aM ?_)) |refine aB (wpAny_typeNameOf_keyiter hit.typeIs (aM ?_))
 show wpAny _ _ (setField (.ref it) 0 .none >>= _) _ _ s;refine aB (wpAny_setField ho hd (by simp) ?_);show wpAny _ _ (newExc (.type "StopIteration") [] >>= _) _ _ _;refine aB ?_;simp only[newExc,newTuple];refine aB (wpAny_newObj_type ?_ (by size_fits));refine aB (m:=firstArgMember _ _) (wpAny_of_eq (a:=Value.none) (by first |rfl |(simp only[firstArgMember];rfl)) ?_);refine wpAny_newObj_type ?_ (by size_fits);simp only[raiseNew];refine aB (wpAny_handled ?_);rw[show A.in1.handled=none from hh];refine aB (aM (wpAny_throw ?_));refine aB (wpAny_isInstance (T:= "StopIteration") (b:=true) ⟨_,eG _ rfl,rfl⟩ isSubtype_stop ?_);exact aM (hQ _ (((Heap.SameBut.update ..).extBut.push _).push _))
end
def Mg{κ:Type}{kvs:List (κ×V)}{vs:List (κ×Value)}(h:KV kvs vs):∀{i:Nat}{k:κ}{v:V},kvs[i]? =some (k,v)->∃u,vs[i]? =some (k,u)/\RelV v u:=by
 unfold KV at h
 induction h with
 |nil=>intro i k v e;simp at e
 | @cons a b l₁ l₂ r t ih=>
  intro i k v e;cases i with
  |zero=>
   simp only[Ar,Option.some.injEq] at e;subst e;refine⟨b.2, ?_,r.2⟩;simp only[Ar];exact congrArg some (Prod.ext r.1.symm rfl)
  |succ j=>
   simp only[Aq] at e⊢;exact ih e
def Ef{α β:Type}{G:α->β->Prop}{l₁:List α}{l₂:List β}(h:Paired G l₁ l₂):∀{i:Nat}{a:α},l₁[i]? =some a->∃b,l₂[i]? =some b/\G a b:=by
 induction h with
 |nil=>intro i a e;simp at e
 | @cons a b l₁ l₂ r t ih=>
  intro i a' e;cases i with
  |zero=>
   simp only[Ar,Option.some.injEq] at e;subst e;exact⟨b,rfl,r⟩
  |succ j=>
   simp only[Aq] at e⊢;exact ih e
def IG(h:sF k u=true):RelV (kV k) u:=by
 rcases dB h with⟨i,t,rfl,rfl⟩ | ⟨x,t,rfl,rfl⟩
 ·exact⟨t,rfl⟩
 ·exact⟨t,rfl⟩
section
variable {X:Cx} {pins:List (Addr×Obj)} {σ:St} {H:Hp} {s:Shared} {d:Addr} {o:Obj}
def Inv.Mx(I:Inv X pins σ H s)(h:H d=some (.kZ o (.dK kvs))):
  (d==sysModules)=false/\s.heap.get? d=some o/\o.ExactDict/\∃(es:Array DictEntry)(ep:Nat)(vs:List (Key×Value)),o.data=.dict es ep/\es.size=kvs.length/\KV kvs vs/\s.heap.DictAt (eu X.prog X.w) d vs ep:=by
 obtain⟨hd,z,hs,vs,kv,o',es,ep,ho,hx,hdt,r⟩:=I.bP d _ h;rw[hd] at ho;cases ho;refine⟨hs,hd,hx,es,ep,vs,hdt, ?_,kv,o,es,hd,hx,hdt,r⟩;have l1:=r.2.1.length;have l2:kvs.length=vs.length:=Paired.length kv;rw[oG] at l1;omega
def Inv.Mw{kvs:List (List Key×V)}(I:Inv X pins σ H s)(h:H d=some (.kZ o (.dT kvs))):
  (d==sysModules)=false/\s.heap.get? d=some o/\o.ExactDict/\∃(es:Array DictEntry)(ep:Nat),o.data=.dict es ep/\es.size=kvs.length/\
   ∀(i:Nat)(k:List Key)(v:V),kvs[i]? =some (k,v)->∃(en:DictEntry)(q:Addr),es[i]? =some en/\en.key=.ref q/\H q=some (.tup (k.map kV)):=by
 obtain⟨hd,z,hs,xs,pr,o',es,ep,ho,hx,hdt,he,_⟩:=I.bP d _ h;rw[hd] at ho;cases ho;refine⟨hs,hd,hx,es,ep,hdt, ?_,λi k v e=>?_⟩
 ·have l1:es.size=xs.length:=size_of_entries he;have l2:kvs.length=xs.length:=Paired.length pr;omega
 ·obtain⟨b,hb,e1,e2,_⟩:=Ef pr e;have q:=entry_at he i;rw[hb] at q;exact⟨_,b.2.1,q,rfl,e2⟩
end
def OX(d:Addr)(o:Obj)(kvs:List (Key×V)):It:=
 ⟨λi H=>H d=some (.kZ o (.dK kvs))/\i<kvs.length,λi H x H'=>H'=H/\∃k v,kvs[i]? =some (k,v)/\x=kV k,λi H=>H d=some (.kZ o (.dK kvs))/\kvs.length<=i⟩
def NT(d:Addr)(o:Obj)(kvs:List (List Key×V)):It:=
 ⟨λi H=>H d=some (.kZ o (.dT kvs))/\i<kvs.length,λi H x H'=>H'=H/\∃(k:List Key)(v:V)(q:Addr),kvs[i]? =some (k,v)/\x=.ref q/\H q=some (.tup (k.map kV)),λi H=>H d=some (.kZ o (.dT kvs))/\kvs.length<=i⟩
def we{o:Obj}{es es':Array DictEntry}{ep ep':Nat}(h:o.data=.dict es ep)(h':o.data=.dict es' ep'):es'=es/\ep'=ep:=by
 rw[h] at h';cases h';exact⟨rfl,rfl⟩
section
variable {P:Program} {w:World} {K:bg} {tg:Expr} {d:Addr} {o:Obj} {es:Array DictEntry} {ep:Nat}
def Gw{kvs:List (Key×V)}(it:Addr)(hod:o.data=.dict es ep):Turn P w K tg (OX d o kvs) [it] it (λi h=>h.IsKeyIter it d i kvs.length ep) where
 mem:=by simp
 obj:=λi h st b hb=>by
  have e:b=it:=by simpa using hb
  subst e;obtain⟨oi,e,c,dd⟩:=st;exact⟨oi,e,λv z=>by rw[dd] at z;cases z⟩
 keep:=λi h h' st k=>st.at λoi e=>k it (by simp) oi e
 item:=by
  intro X hP hw hK hc i pins s σ H E I hf st hg;subst hP hw hK;obtain⟨hd,hi⟩:=hg;obtain⟨f0,f1,f2,f3,f4,f5⟩:=hf it (by simp);obtain⟨hs,hgd,hx,es',ep',vs,hdt,hsz,kv,hm⟩:=I.Mx hd;obtain⟨rfl,rfl⟩:=we hod hdt;obtain⟨⟨k,v⟩,hkv⟩ :∃p,kvs[i]? =some p:=⟨kvs[i],c6 hi⟩;obtain⟨u,hu,ru⟩:=Mg kv hkv;have hl:kvs.length=vs.length:=Paired.length kv;rw[hl] at st;refine wpAny_pyNext_dict_item st hm hu λkey h' hkey st' sb=>?_
  have I1:Inv X pins σ H { s with heap:=h' }:=I.turned (t':=s.toks) (λb ob hb e=>(sb.2 b hb).trans e) f0 f1 f3 f4 f5;obtain⟨oi,e,c,dd⟩:=id st';refine⟨key,rfl,D1 (s:= { s with heap:=h' }) e c dd (by decide) ⟨kV k,H,I1,IG (show sF k key=true from hkey),⟨rfl,k,v,hkv,rfl⟩, ?_,λb hb=>(hf b hb).1⟩⟩;show h'.IsKeyIter it d (i+1) kvs.length _;rw[hl];exact st'
 done:=by
  intro X hP hw hK hc i pins s σ H E I hf st hg;subst hP hw hK;obtain⟨hd,hi⟩:=hg;obtain⟨f0,f1,f2,f3,f4,f5⟩:=hf it (by simp);obtain⟨hs,hgd,hx,es',ep',vs,hdt,hsz,kv,hm⟩:=I.Mx hd;obtain⟨rfl,rfl⟩:=we hod hdt;exact mT (I.ok.hd hc) st hgd hdt hsz hi λh' eb=>⟨rfl,I.turned (t':=s.toks) (λb ob hb e=>eb b ob hb e) f0 f1 f3 f4 f5⟩
 self:=λA i s Q E st h=>wpAny_pyIter_keyiter st h
def DO{kvs:List (List Key×V)}(it:Addr)(hod:o.data=.dict es ep):Turn P w K tg (NT d o kvs) [it] it (λi h=>h.IsKeyIter it d i kvs.length ep) where
 mem:=by simp
 obj:=λi h st b hb=>by
  have e:b=it:=by simpa using hb
  subst e;obtain⟨oi,e,c,dd⟩:=st;exact⟨oi,e,λv z=>by rw[dd] at z;cases z⟩
 keep:=λi h h' st k=>st.at λoi e=>k it (by simp) oi e
 item:=by
  intro X hP hw hK hc i pins s σ H E I hf st hg;subst hP hw hK;obtain⟨hd,hi⟩:=hg;obtain⟨f0,f1,f2,f3,f4,f5⟩:=hf it (by simp);obtain⟨hs,hgd,hx,es',ep',hdt,hsz,ent⟩:=I.Mw hd;obtain⟨rfl,rfl⟩:=we hod hdt;obtain⟨⟨k,v⟩,hkv⟩ :∃p,kvs[i]? =some p:=⟨kvs[i],c6 hi⟩;obtain⟨en,q,hen,hkey,hq⟩:=ent i k v hkv;refine qB st hgd hdt hsz hen λh' st' sb=>?_
  have I1:Inv X pins σ H { s with heap:=h' }:=I.turned (t':=s.toks) (λb ob hb e=>(sb.2 b hb).trans e) f0 f1 f3 f4 f5;obtain⟨oi,e,c,dd⟩:=id st';exact⟨en.key,rfl,D1 (s:= { s with heap:=h' }) e c dd (by decide) ⟨.ref q,H,I1,hkey,⟨rfl,k,v,q,hkv,rfl,hq⟩,st',λb hb=>(hf b hb).1⟩⟩
 done:=by
  intro X hP hw hK hc i pins s σ H E I hf st hg;subst hP hw hK;obtain⟨hd,hi⟩:=hg;obtain⟨f0,f1,f2,f3,f4,f5⟩:=hf it (by simp);obtain⟨hs,hgd,hx,es',ep',hdt,hsz,ent⟩:=I.Mw hd;obtain⟨rfl,rfl⟩:=we hod hdt;exact mT (I.ok.hd hc) st hgd hdt hsz hi λh' eb=>⟨rfl,I.turned (t':=s.toks) (λb ob hb e=>eb b ob hb e) f0 f1 f3 f4 f5⟩
 self:=λA i s Q E st h=>by
  refine wpAny_pyIter_slot st.typeIs F.slot_dict_keyiterator_iter (wpAny_call_entry F.slot_dict_keyiterator_iter st.typeIs F.entry_dict_keyiterator_iter ?_ (F.args_dict_keyiterator_iter_1 _));show wpAny _ _ (ret (.ref it)) _ _ s;exact aM ⟨_,rfl,"dict_keyiterator",_,st.typeIs,F.slot_dict_keyiterator_next.lookup,h⟩
end
def Lx(td:TE):TI:=λσ H R=>td σ H λx H1=> ∃d o,x=.ref d/\((∃kvs,H1 d=some (.kZ o (.dK kvs))/\R (OX d o kvs) H1)\/∃kvs,H1 d=some (.kZ o (.dT kvs))/\R (NT d o kvs) H1)
section
variable {X:Cx} {tg e:Expr} {td:TE} {apos cpos:Pos}
def Ks(he:PE X e td):PI X tg e (Lx td):=by
 intro pins s σ H R I h;refine f6 (he pins s σ H _ I h) λu s1 ⟨x,H1,I1,rx,d,o,ex,q⟩ =>?_
 subst ex;obtain rfl:u=Value.ref d:=rx
 rcases q with⟨kvs,hd,q⟩ | ⟨kvs,hd,q⟩
 ·obtain⟨hs,hgd,hx,es,ep,vs,hdt,hsz,kv,hm⟩:=I1.Mx hd;refine u5 hs hgd hx hdt (Ed (tk:=s1.toks) I1 _ (Gw _ hdt) ⟨_,eG _ rfl,rfl, ?_⟩ q);rw[hsz]<;>rfl
 ·obtain⟨hs,hgd,hx,es,ep,hdt,hsz,ent⟩:=I1.Mw hd;refine u5 hs hgd hx hdt (Ed (tk:=s1.toks) I1 _ (DO _ hdt) ⟨_,eG _ rfl,rfl, ?_⟩ q);rw[hsz]<;>rfl
end
def OY(K:bg)(a:Addr):It:=
 ⟨λi H=> ∃(xs:List V)(x:V),cG K H a xs/\xs[i]? =some x,λi H v H'=> ∃T x,v=.ref T/\H T=none/\H'=upd H T (.tup [.int (i:Nat),x])/\∀xs,cG K H a xs->xs[i]? =some x,λi H=> ∃xs:List V,cG K H a xs/\xs.length<=i⟩
def Gx{P:Program}{w:World}{K:bg}{elts:List Expr}{kk:Nat}{tpos:Pos}(a e it:Addr):
  Turn P w K (.Tuple elts kk tpos) (OY K a) [e,it] e (λi h=>(∃old,IsEnum h e it ((i:Nat):Int) old)/\h.IsListIter it a i/\e≠it) where
 mem:=by simp
 obj:=λi h st b hb=>by
  obtain⟨⟨old,he⟩,⟨o,ho,hc,hd⟩,_⟩:=st;have e':b=e\/b=it:=by simpa using hb
  rcases e' with z |z
  ·rw[z];exact⟨_,he,λv q=>nomatch q⟩
  ·rw[z];exact⟨o,ho,λv q=>by rw[hd] at q;cases q⟩
 keep:=λi h h' st k=>let ⟨⟨old,he⟩,hi,hne⟩:=st;⟨⟨old,k e (by simp) _ he⟩,hi.at λo q=>k it (by simp) o q,hne⟩
 item:=by
  intro X hP hw hK hc i pins s σ H E I hf st hg;subst hP hw hK;obtain⟨⟨old,he⟩,hit,hne⟩:=st;obtain⟨xs,x,hq,hx⟩:=hg;obtain⟨its,rv,p,hz⟩:=I.list hq;obtain⟨u,hu,ru⟩:=rv.get hx;have hel:e<s.heap.objs.size:=dD he;have hil:it<s.heap.objs.size:=by obtain⟨_,q,_⟩:=hit;exact dD q
  refine wpAny_pyNext_enum_item he hit p.isList (x:=u) (by simpa using hu) hne λh' ho hit' hT hsz hk=>?_
  refine⟨_,rfl,wpAny_letOwnedTupleGo_enum (s:= { s with heap:=h',toks:=s.toks+1 }) ho λh'' he' sb=>?_⟩;have hT2:h''.get? s.heap.objs.size=some { cls:=.type "tuple",data:=.seq #[.int i s.toks,u] }:=(sb.2 _ (Nat.ne_of_gt hel)).trans hT;have new:eP X.prog X.w (upd H s.heap.objs.size (.tup [.int (i:Nat),x])) h'' s.heap.objs.size (.tup [.int (i:Nat),x]):=
   ⟨by show 2<=sizeLine;decide,[.int i s.toks,u],.cons ⟨_,rfl⟩ (.cons ru .nil),⟨_,hT2,rfl,_,rfl⟩⟩
  have I1:Inv X pins σ (upd H s.heap.objs.size (.tup [.int (i:Nat),x])) { s with heap:=h'',toks:=s.toks+1 }:=
   I.zF (ch:=[e,it]) (λb ob hb q=>(sb.2 b (λz=>hb (by simp[z]))).trans (hk b ob (λz=>hb (by simp[z])) (λz=>hb (by simp[z])) q)) hf (bx _) new
  refine⟨.ref s.heap.objs.size,_,I1,rfl,⟨_,x,rfl,I.bP.fresh (bx _),rfl,λys hy=>by rw[I.sC hy hq];exact hx⟩,⟨⟨u, ?_⟩,hit'.at λo q=>(sb.2 it (Ne.symm hne)).trans q,hne⟩,λb hb=>?_⟩
  ·have e1:((i+1:Nat):Int)=(i:Int)+1:=by omega
   rw[e1];exact he'
  ·have hb':b<s.heap.objs.size:=by
    have e':b=e\/b=it:=by simpa using hb
    rcases e' with z |z
    ·rw[z];exact hel
    ·rw[z];exact hil
   rw[aw (eI hb')];exact(hf b hb).1
 done:=by
  intro X hP hw hK hc i pins s σ H E I hf st hg;subst hP hw hK;obtain⟨⟨old,he⟩,hit,hne⟩:=st;obtain⟨xs,hq,hx⟩:=hg;obtain⟨its,rv,p,hz⟩:=I.list hq;obtain⟨f0,f1,f2,f3,f4,f5⟩:=hf it (by simp);have hl:=rv.length;exact wpAny_pyNext_enum_end (I.ok.hd hc) he hit p.isList (by simp;omega) λh' eb=>⟨rfl,I.turned (t':=s.toks) (λb o hb q=>eb b o hb q) f0 f1 f3 f4 f5⟩
 self:=λA i s Q E st h=>let ⟨⟨_,he⟩,_⟩:=st;wpAny_pyIter_enum he h
def Jp(K:bg)(ta:TA):TI:=λσ H R=>ta σ H λvs H1=> ∃a xs,vs=[.ref a]/\cG K H1 a xs/\R (OY K a) H1
def AZ{X:Cx}{e:Expr}{ta:TA}{p pos tpos:Pos}{elts:List Expr}{kk:Nat}(hg:Gl X "enumerate")(hm:X.mg "enumerate" =none)(ha:PA X [e] ta)(hs:starEach [e] X.env=[(false,eval e X.env)]:=by rfl):
  PI X (.Tuple elts kk tpos) (.Call (.Name "enumerate" p) [e] [] pos) (Jp X.K ta):=by
 intro pins s σ H R I h;refine Call_ (tX I hg hm boot_enumerate (PyProof.Rows.callWith_type1 (f6 (ha pos pins s σ H _ I h) λus s1 ⟨vs,H1,I1,r1,q1⟩ =>?_) hs rfl));obtain⟨a,xs,ex,hq,q⟩:=q1;subst ex;cases r1 with
 |cons r rr=>
  cases rr;cases r;obtain⟨its,rv,p',hz⟩:=I1.list hq;refine call_enumerate_list p'.isList λh' he hit hsz hk=>wpAny_pyIter_enum he ?_
  have I2:Inv X pins σ H1 { s1 with heap:=h' }:=I1.kept (t':=s1.toks) hk;refine⟨s1.heap.objs.size+1,[s1.heap.objs.size+1,s1.heap.objs.size],_,_,H1,rfl,I2,Gx a (s1.heap.objs.size+1) s1.heap.objs.size,⟨⟨.none,he⟩,hit,Nat.succ_ne_self _⟩,λb hb=>?_,q⟩;have e':b=s1.heap.objs.size+1\/b=s1.heap.objs.size:=by simpa using hb
  have hle:s1.heap.objs.size<=b:=by
   rcases e' with z |z
   ·rw[z];exact BV _ _
   ·rw[z];exact bx _
  exact I1.Hu hle (I1.bP.fresh hle)
def HH:bootBuiltins "zip" =some (.type "zip"):=by decide+kernel
def OW(K:bg)(a b:Addr):It:=
 ⟨λi H=> ∃(xs ys:List V)(x y:V),cG K H a xs/\cG K H b ys/\xs[i]? =some x/\ys[i]? =some y,
  λi H v H'=> ∃T x y,v=.ref T/\H T=none/\H'=upd H T (.tup [x,y])/\(∀xs,cG K H a xs->xs[i]? =some x)/\∀ys,cG K H b ys->ys[i]? =some y,
  λi H=> ∃xs ys:List V,cG K H a xs/\cG K H b ys/\(xs.length<=i\/ys.length<=i)⟩
def Ib{P:Program}{w:World}{K:bg}{elts:List Expr}{kk:Nat}{tpos:Pos}{a b z TI TO i1 i2:Addr}(D:ZipApart z TI TO i1 i2 a b):
  Turn P w K (.Tuple elts kk tpos) (OW K a b) [z,TI,TO,i1,i2] z (λi h=>IsZip h z TI TO .none/\IsPair h TI (.ref i1) (.ref i2)/\(∃x y,IsPair h TO x y)/\h.IsListIter i1 a i/\h.IsListIter i2 b i) where
 mem:=by simp
 obj:=λi h st c hc=>by
  obtain⟨hz,hTI,⟨x,y,hTO⟩,⟨o1,e1,_,d1⟩,⟨o2,e2,_,d2⟩⟩:=st;have e':c=z\/c=TI\/c=TO\/c=i1\/c=i2:=by simpa using hc
  rcases e' with q |q |q |q |q
  ·rw[q];exact⟨_,hz,λv q=>nomatch q⟩
  ·rw[q];exact⟨_,hTI,λv q=>nomatch q⟩
  ·rw[q];exact⟨_,hTO,λv q=>nomatch q⟩
  ·rw[q];exact⟨o1,e1,λv q=>by rw[d1] at q;cases q⟩
  ·rw[q];exact⟨o2,e2,λv q=>by rw[d2] at q;cases q⟩
 keep:=λi h h' st k=>by
  obtain⟨hz,hTI,⟨x,y,hTO⟩,h1,h2⟩:=st;exact⟨k z (by simp) _ hz,k TI (by simp) _ hTI,⟨x,y,k TO (by simp) _ hTO⟩,h1.at λo q=>k i1 (by simp) o q,h2.at λo q=>k i2 (by simp) o q⟩
 item:=by
  intro X hP hw hK hc i pins s σ H E I hf st hg;subst hP hw hK;obtain⟨hz,hTI,⟨x0,y0,hTO⟩,h1,h2⟩:=st;obtain⟨xs,ys,x,y,hqx,hqy,hx,hy⟩:=hg;obtain⟨its,rv,p,_⟩:=I.list hqx;obtain⟨its2,rv2,p2,_⟩:=I.list hqy;obtain⟨u,hu,ru⟩:=rv.get hx;obtain⟨u2,hu2,ru2⟩:=rv2.get hy;have hzl:z<s.heap.objs.size:=dD hz;refine wpAny_pyNext_zip_item D hz hTI hTO h1 h2 p.isList p2.isList (x:=u) (y:=u2) (by simpa using hu) (by simpa using hu2) λh' z' TO' h1' h2' hT hsz hk=>?_
  refine⟨_,rfl,wpAny_letOwnedTupleGo_zip (s:= { s with heap:=h' }) z' λh'' z'' sb=>?_⟩;have hT2:h''.get? s.heap.objs.size=some { cls:=.type "tuple",data:=.seq #[u,u2] }:=(sb.2 _ (Nat.ne_of_gt hzl)).trans hT;have new:eP X.prog X.w (upd H s.heap.objs.size (.tup [x,y])) h'' s.heap.objs.size (.tup [x,y]):=
   ⟨by show 2<=sizeLine;decide,[u,u2],.cons ru (.cons ru2 .nil),⟨_,hT2,rfl,_,rfl⟩⟩
  have I1:Inv X pins σ (upd H s.heap.objs.size (.tup [x,y])) { s with heap:=h'' }:=
   I.zF (t':=s.toks) (ch:=[z,TI,TO,i1,i2]) (λc o hb q=>(sb.2 c (λq'=>hb (by simp[q']))).trans (hk c o (λq'=>hb (by simp[q'])) (λq'=>hb (by simp[q'])) (λq'=>hb (by simp[q'])) (λq'=>hb (by simp[q'])) q)) hf (bx _) new
  refine⟨.ref s.heap.objs.size,_,I1,rfl,⟨_,x,y,rfl,I.bP.fresh (bx _),rfl,λl hl=>by rw[I.sC hl hqx];exact hx,λl hl=>by rw[I.sC hl hqy];exact hy⟩,⟨z'', ?_,⟨u,u2, ?_⟩, ?_, ?_⟩,λc hcm=>?_⟩
  ·exact(sb.2 _ D.TIz).trans (hk _ _ D.TIz D.TITO D.TIi1 D.TIi2 hTI)
  ·exact(sb.2 _ D.TOz).trans TO'
  ·exact h1'.at λo q=>(sb.2 _ D.i1z).trans q
  ·exact h2'.at λo q=>(sb.2 _ D.i2z).trans q
  ·have hlt:c<s.heap.objs.size:=by
    have e':c=z\/c=TI\/c=TO\/c=i1\/c=i2:=by simpa using hcm
    rcases e' with q |q |q |q |q
    ·rw[q];exact hzl
    ·rw[q];exact dD hTI
    ·rw[q];exact dD hTO
    ·rw[q];obtain⟨_,e1,_⟩:=h1;exact dD e1
    ·rw[q];obtain⟨_,e2,_⟩:=h2;exact dD e2
   rw[aw (eI hlt)];exact(hf c hcm).1
 done:=by
  intro X hP hw hK hc i pins s σ H E I hf st hg;subst hP hw hK;obtain⟨hz,hTI,⟨x0,y0,hTO⟩,h1,h2⟩:=st;obtain⟨xs,ys,hqx,hqy,hend⟩:=hg;obtain⟨its,rv,p,_⟩:=I.list hqx;obtain⟨its2,rv2,p2,_⟩:=I.list hqy;have l1:=rv.length;have l2:=rv2.length;have he:its.toArray[i]? =none\/its2.toArray[i]? =none:=by
   rcases hend with q |q
   ·exact .inl (by simp;omega)
   ·exact .inr (by simp;omega)
  exact wpAny_pyNext_zip_end (I.ok.hd hc) D hz hTI hTO h1 h2 p.isList p2.isList he λh' hk=>⟨rfl,I.Kb (t':=s.toks) (ch:=[z,TI,TO,i1,i2]) (λc o hb q=>
   hk c o (λq'=>hb (by simp[q'])) (λq'=>hb (by simp[q'])) (λq'=>hb (by simp[q'])) (λq'=>hb (by simp[q'])) q) hf⟩
 self:=λA i s Q E st h=>wpAny_pyIter_zip st.1 h
def Mm(K:bg)(ta:TA):TI:=λσ H R=>ta σ H λvs H1=> ∃a b xs ys,vs=[.ref a,.ref b]/\cG K H1 a xs/\cG K H1 b ys/\R (OW K a b) H1
def IQ{X:Cx}{e e2:Expr}{ta:TA}{p pos tpos:Pos}{elts:List Expr}{kk:Nat}(hg:Gl X "zip")(hm:X.mg "zip" =none)(ha:PA X [e,e2] ta)
  (hs:starEach [e,e2] X.env=(false,eval e X.env) :: starEach [e2] X.env:=by rfl) (hpl:(backTo pos (starEach [e2] X.env)).any (·.1)=false:=by rfl):
  PI X (.Tuple elts kk tpos) (.Call (.Name "zip" p) [e,e2] [] pos) (Mm X.K ta):=by
 intro pins s σ H R I h;refine Call_ (tX I hg hm HH (PyProof.Rows.callWith_type1 (f6 (ha pos pins s σ H _ I h) λus s1 ⟨vs,H1,I1,r1,q1⟩ =>?_) hs hpl));obtain⟨a,b,xs,ys,ex,hqx,hqy,q⟩:=q1;subst ex;cases r1 with
 |cons r rr=>
  cases rr with
  |cons r' rr=>
   cases rr;cases r;cases r';obtain⟨its,rv,p1,_⟩:=I1.list hqx;obtain⟨its2,rv2,p2,_⟩:=I1.list hqy;have la:a<s1.heap.objs.size:=p1.lt;have lb:b<s1.heap.objs.size:=p2.lt;refine call_zip_2 p1.isList p2.isList λh' hz hTI hTO h1 h2 hsz hk=>wpAny_pyIter_zip hz ?_
   have I2:Inv X pins σ H1 { s1 with heap:=h' }:=I1.kept (t':=s1.toks) hk;refine⟨s1.heap.objs.size+4,[s1.heap.objs.size+4,s1.heap.objs.size+2,s1.heap.objs.size+3,s1.heap.objs.size,s1.heap.objs.size+1],_,_,H1,rfl,I2,Ib (PySem.W.ktu_apart s1.heap.objs.size a b la lb),⟨hz,hTI,⟨_,_,hTO⟩,h1,h2⟩,λc hcm=>?_,q⟩;have e':c=s1.heap.objs.size+4\/c=s1.heap.objs.size+2\/c=s1.heap.objs.size+3\/c=s1.heap.objs.size\/c=s1.heap.objs.size+1:=by simpa using hcm
   have hle:s1.heap.objs.size<=c:=by
    rcases e' with z |z |z |z |z
    ·rw[z];exact BV _ _
    ·rw[z];exact BV _ _
    ·rw[z];exact BV _ _
    ·rw[z];exact bx _
    ·rw[z];exact BV _ _
   exact I1.Hu hle (I1.bP.fresh hle)
end L2
section
namespace NV
open PySem PyProof.Rows
def JY(hx:0<=x)(hy:0<=y):Builtin.bitOr x y=((x.toNat ||| y.toNat:Nat):Int):=by
 have e:=nat_or_add_and x.toNat y.toNat;rw[bitOr_and,bitAnd_pp hx hy];omega
end NV
end
section
namespace TL
open PySem PySem.Builtin PySem.Builtin.Str PySem.StrLaws
end TL
end
namespace L2
open PySem PySem.Spec PyProof.Rows
end L2
namespace P6
open PySem PySem.W PySem.Calls PyProof.Rows
end P6
namespace L2
open PySem PySem.Spec PyProof.Rows
def inClass(s:Stmt)(j:Nat):Stmt:=match s with
 |.ClassDef _ _ _ body _ _ _ _ _ _ _=>body.getD j (.Pass ⟨0,0,0,0⟩)
 |_=>.Pass ⟨0,0,0,0⟩
def j5(s:Stmt):Arguments:=match s with
 |.FunctionDef _ a _ _ _ _ _ _ _ _=>a
 |_=> { posonlyargs:=[],args:=[],vararg:=none,kwonlyargs:=[],kw_defaults:=[],kwarg:=none,defaults:=[] }
def gT(s:Stmt):List Stmt:=match s with
 |.FunctionDef _ _ b _ _ _ _ _ _ _=>b
 |_=>[]
def d7(s:Stmt):Scope:=match s with
 |.FunctionDef _ _ _ _ _ _ sc _ _ _=>sc
 |_=> { kind:=.function,names:=[],isGenerator:=false,isCoroutine:=false }
abbrev HP:K8:=λ_ _ _ _ _ _=>False
abbrev E0:XK:=λ_ _ _=>False
def Fy:Passes HP X E0:=λ_ _ _ _ _ _ _ h=>h.elim
structure Gj(K:bg)(x qual:Str)(st:Stmt)(f:Addr)(fd:FuncData):Prop where
 ex:∃(oc:Value)(od:Option Addr)(kV doc pm:Value)(an:Option Addr)(cdv ct:Value)(osl:Array (Option Value)),
  fd=fm x qual (j5 st) (gT st) (d7 st) .none kV doc pm an cdv ct/\K.lookup f=some ⟨oc,od,.func fd,osl⟩/\ka K cdv qual=true
 kp:gr K (.ref f)=true
section
variable {P:Program} {w:World} {K:bg} {mg:Str->Option Value} {base:Heap}
def Gj.ok{x qual:Str}{st:Stmt}{f:Addr}{fd:FuncData}{N ps:List Str}{k:Nat}{sp:Sp}(F:Gj K x qual st f fd)(S:nz N ps (d7 st))(len:∀vs H Q E,sp vs H Q E->vs.length=ps.length)
  (hbody:∀(cdv:Value)(A:Around)(outer:List Env)(s:Shared)(H:Hp)(vs:List V)(Q:VK)(E:XK),iC k (A.deeper (envOfC qual (d7 st) s.heap.objs.size f cdv))->sp vs H Q E->
   ∃t,Gh (ET HP P w K mg base N qual (d7 st) f cdv A outer s H E).Nk (gT st) t/\t { nx:=λ_ H'=>Q .ez H',rt:=Q } (start N vs) H):nA P w K mg base HP (k+1) f fd ps sp:=by
 obtain⟨oc,od,kV,doc,pm,an,cdv,ct,osl,rfl,lk,hcd⟩:=F.ex;refine Ny lk hcd S len λA outer s H vs Q E hr hsp=>?_
 obtain⟨t,h,q⟩:=hbody cdv A outer s H vs Q E hr hsp;exact⟨t,h.Nk,q⟩
def Gj.binds{x qual:Str}{st:Stmt}{f:Addr}{fd:FuncData}{ps:List Str}(F:Gj K x qual st f fd)
  (h:∀(kV doc pm:Value)(an:Option Addr)(cdv ct:Value)(us:List Value),us.length=ps.length->bindArgs (fm x qual (j5 st) (gT st) (d7 st) .none kV doc pm an cdv ct) ⟨us,[]⟩ =pure (ps.zip us)):Binds K fd ps []:=by
 obtain⟨oc,od,kV,doc,pm,an,cdv,ct,osl,rfl,lk,hcd⟩:=F.ex;exact .all (h kV doc pm an cdv ct)
def JB{x qual:Str}{st:Stmt}{f:Addr}{oc:Value}{od an:Option Addr}{osl:Array (Option Value)}{kV doc pm cdv ct:Value}(l:K.lookup f=some ⟨oc,od,.func (fm x qual (j5 st) (gT st) (d7 st) .none kV doc pm an cdv ct),osl⟩)
  (c:ka K cdv qual=true) (k:gr K (.ref f)=true):Gj K x qual st f (fm x qual (j5 st) (gT st) (d7 st) .none kV doc pm an cdv ct):=⟨⟨oc,od,kV,doc,pm,an,cdv,ct,osl,rfl,l,c⟩,k⟩
end
def fO(hr:iC k A):A.units+1<cLine:=Ap (Nat.add_le_add_left (by decide:1<=64) _) hr.units
section
variable {X:Cx}
def pv(i:Nat)(hN:X.N[i]? =some x:=by rfl)(hv:MU X.env.scope x:=by first |exact Or.inl rfl |exact Or.inr (Or.inl rfl) |exact Or.inr (Or.inr rfl))(hd:(x==("__debug__" :Str))=false:=by decide)
  (hcd:(x==("__classdict__" :Str))=false:=by decide):PE X (.Name x pos) (bA i):=M7 hN hv hd hcd
def HF:lA X (.builtin "len") (λxs H Q=> ∃a kvs,xs=[V.ref a]/\H a=some (.dK kvs)/\Q (.int kvs.length) H):=by
 intro pins s σ H xs us Q I r h;obtain⟨a,kvs,rfl,ha,q⟩:=h;obtain⟨u,rfl,ru⟩:=vals1 r;cases ru;exact NH I (.inl ha) λt s' I'=>⟨.int kvs.length,H,I',⟨t,rfl⟩,q⟩
end
def aG(H H':Hp):Prop:= ∀b o,H b=some o->H' b=some o
def aG.refl(H:Hp):aG H H:=λ_ _ h=>h
def aG.trans(a:aG H H1)(b:aG H1 H2):aG H H2:=λc o h=>b c o (a c o h)
def aG.free(e:aG H H')(h:H' l=Option.none):H l=Option.none:=by
 cases q:H l with
 |none=>rfl
 |some o=>
  rw[e l o q] at h;cases h
def aG.seq{K:bg}{H H':Hp}{a:Addr}{xs:List V}(e:aG H H')(h:cG K H a xs):cG K H' a xs:=by
 rcases h with(h | ⟨o,h⟩) |h
 ·exact .inl (.inl (e _ _ h))
 ·exact .inl (.inr ⟨o,e _ _ h⟩)
 ·exact .inr h
section
variable {κ:Type} [DecidableEq κ]
def Hx{p:κ×V}{r:List (κ×V)}{k:κ}(e:p.1=k):my (p :: r) k=my r k:=by
 unfold my;rw[zr,ag (by simp[e])]
def Hy{p:κ×V}{r:List (κ×V)}{k:κ}(e:¬p.1=k):my (p :: r) k=p :: my r k:=by
 unfold my;rw[zr,ai (by simp[e])]
end
def at_of{xs:List V}{z:Int}{j:Nat}{v:V}(e:z=(j:Int))(h:xs[j]? =some v):Dq xs z=some v:=by
 rw[e];exact bG h
def aG.made(nx:H x=Option.none)(nd:H dx=Option.none)(k:∀b o,(upd (upd H dx (.own x)) x (.ins C dx [])) b=some o->b≠x->H1 b=some o):aG H H1:=λb o e=>
 k b o (by rw[aw (aJ e nx),aw (aJ e nd)];exact e) (aJ e nx)
end L2
section
namespace L2
open PySem PySem.Spec PyProof.Rows
open PySem.W (WData Codec OpenSpec Well WellAll ReadsW ReadsAllW)
mutual
inductive Dw(K:bg)(H:Hp):V->WData->Prop
 |ez:Dw K H .ez .none
 |bl (b:Bool):Dw K H (.bl b) (.bool b)
 |int (i:Int):Dw K H (.int i) (.int i)
 |str (x:Str):Dw K H (.str x) (.str x)
 |Dx (b:Array UInt8):Dw K H (.Dx b) (.bytes b.toList)
 |lst {a:Addr} {xs:List V} {ds:List WData}:cG K H a xs->oj K H xs ds->Dw K H (.ref a) (.list ds)
 |tup {a:Addr} {xs:List V} {ds:List WData}:uh K H a xs->oj K H xs ds->Dw K H (.ref a) (.tuple ds)
inductive oj(K:bg)(H:Hp):List V->List WData->Prop
 |nil:oj K H [] []
 |cons {v:V} {vs:List V} {d:WData} {ds:List WData}:Dw K H v d->oj K H vs ds->oj K H (v :: vs) (d :: ds)
end
theorem FZ{K:bg}{H:Hp}:∀ns:List Int,oj K H (ns.map V.int) (ns.map WData.int)
 | []=>.nil
 |n :: r=>.cons (.int n) (FZ r)
theorem FL{K:bg}{H:Hp}:∀(ns:List Int)(xs:List V),oj K H xs (ns.map WData.int)->xs=ns.map V.int
 | [],xs,h=>by
  cases h;rfl
 |n :: r,xs,h=>by
  cases h with
  |cons h1 h2=>
   cases h1;rw[FL r _ h2]<;>rfl
section
variable {P:Program} {w:World} {K:bg} {H:Hp} {h:Heap} {R:PySem.W.WRecords} {cl:Str->Option Addr}
def LM(bP:i5 P w H h)(KX:K.In h)(q:cG K H a xs):∃(its:List Value)(o:Obj)(n:Nat),Vals xs its/\h.get? a=some o/\o.cls=.type "list" /\o.data=.seq its.toArray n:=by
 rcases q with q | ⟨o,its,n,e,hc,_,hd,_,hv⟩
 ·obtain⟨_,its,n,hv,e⟩:=(show eP P w H h a (.lst xs) from q.ok bP);exact⟨its,_,n,hv,e,rfl,rfl⟩
 ·exact⟨its.toList,o,n,hv,KX _ _ e,hc,by simp[hd]⟩
def LL(bP:i5 P w H h)(KX:K.In h)(q:uh K H a xs):∃(its:List Value)(o:Obj)(n:Nat),Vals xs its/\h.get? a=some o/\o.cls=.type "tuple" /\o.data=.seq its.toArray n:=by
 rcases q with q | ⟨o,its,n,e,hc,hd,_,hv⟩
 ·obtain⟨_,its,hv,o,e,hc,n,hd⟩:=(show eP P w H h a (.tup xs) from q.ok bP);exact⟨its,o,n,hv,e,hc,hd⟩
 ·exact⟨its.toList,o,n,hv,KX _ _ e,hc,by simp[hd]⟩
mutual
theorem Dw.reads(bP:i5 P w H h)(KX:K.In h):∀(d:WData)(v:V)(u:Value),Dw K H v d->RelV v u->∃as,ReadsW R cl h u d as
 |.none,_,_,x,r=>by
  cases x;cases r;exact⟨_,ReadsW.none⟩
 |.bool b,_,_,x,r=>by
  cases x;cases r;exact⟨_,ReadsW.bool b⟩
 |.int i,_,_,x,r=>by
  cases x;obtain⟨t,rfl⟩:=r;exact⟨_,ReadsW.int i t⟩
 |.str s,_,_,x,r=>by
  cases x;obtain⟨t,rfl⟩:=r;exact⟨_,ReadsW.str s t⟩
 |.bytes b,_,_,x,r=>by
  cases x;obtain⟨t,rfl⟩:=r;exact⟨_,ReadsW.bytes _ t⟩
 |.list ds,_,_,x,r=>by
  cases x with
  |lst hs ha=>
   cases r;obtain⟨its,o,n,rv,ho,hc,hd⟩:=LM bP KX hs;obtain⟨as,hr⟩:=Dw.readsAll bP KX ds _ its ha rv;exact⟨_,ReadsW.list ho hc hd hr⟩
 |.tuple ds,_,_,x,r=>by
  cases x with
  |tup hs ha=>
   cases r;obtain⟨its,o,n,rv,ho,hc,hd⟩:=LL bP KX hs;obtain⟨as,hr⟩:=Dw.readsAll bP KX ds _ its ha rv;exact⟨_,ReadsW.tuple ho hc hd hr⟩
 |.float _,_,_,x,_=>by cases x
 |.dict _,_,_,x,_=>by cases x
 |.bytearray _,_,_,x,_=>by cases x
 |.set _,_,_,x,_=>by cases x
 |.frozenset _,_,_,x,_=>by cases x
 |.obj _ _,_,_,x,_=>by cases x
theorem Dw.readsAll(bP:i5 P w H h)(KX:K.In h):∀(ds:List WData)(vs:List V)(us:List Value),oj K H vs ds->Vals vs us->∃as,ReadsAllW R cl h us ds as
 | [],_,_,x,r=>by
  cases x;cases r;exact⟨_,ReadsAllW.nil⟩
 |d :: ds,_,_,x,r=>by
  cases x with
  |cons h1 h2=>
   cases r with
   |cons r1 r2=>
    obtain⟨as,q1⟩:=Dw.reads bP KX d _ _ h1 r1;obtain⟨bs,q2⟩:=Dw.readsAll bP KX ds _ _ h2 r2;exact⟨_,ReadsAllW.cons q1 q2⟩
end
end
mutual
def Fu:WData->Bool
 |.none=>true
 |.bool _=>true
 |.int _=>true
 |.str _=>true
 |.bytes _=>true
 |.list xs=>vF xs
 |.tuple xs=>vF xs
 |_=>false
def vF:List WData->Bool
 | []=>true
 |x :: r=>Fu x&&vF r
end
theorem Cu{α:Type}{f:α->WData}(h:∀a,Fu (f a)=true):∀l:List α,vF (l.map f)=true
 | []=>rfl
 |x :: r=>by
  show(Fu (f x)&&vF (r.map f))=true;rw[h x,Cu h r]<;>rfl
theorem oZ:∀(c:Codec)(a:c.denote),Fu (c.enc a)=true
 |.unit,_=>rfl
 |.bool,_=>rfl
 |.int _ _,_=>rfl
 |.nat _ _,_=>rfl
 |.u8,_=>rfl
 |.bytes _ _,_=>rfl
 |.text _ _ _ _,_=>rfl
 |.list _ _ c,a=>Cu (λx=>oZ c x) a
 |.pair c d,a=>by
  show(Fu (c.enc a.1)&&(Fu (d.enc a.2)&&true))=true;rw[oZ c a.1,oZ d a.2]<;>rfl
 |.triple c d e,a=>by
  show(Fu (c.enc a.1)&&(Fu (d.enc a.2.1)&&(Fu (e.enc a.2.2)&&true)))=true;rw[oZ c a.1,oZ d a.2.1,oZ e a.2.2]<;>rfl
 |.option c,none=>rfl
 |.option c,some x=>oZ c x
theorem zP:∀(cs:List Codec)(a:Codec.denoteAll cs),vF (Codec.encAll cs a)=true
 | [],_=>rfl
 |c :: cs,a=>by
  show(Fu (c.enc a.1)&&vF (Codec.encAll cs a.2))=true;rw[oZ c a.1,zP cs a.2]<;>rfl
theorem qL:∀{xs:List WData}{d:WData},d∈xs->d.weight<=WData.weightAll xs
 | [],d,h=>aI h (by simp)
 |x :: r,d,h=>by
  show d.weight<=x.weight+1+WData.weightAll r
  rcases bp.mp h with e |m
  ·rw[e];omega
  ·have z:=qL m;omega
noncomputable def toV:Value->V
 |.none=>.ez
 |.bool b=>.bl b
 |.int i _=>.int i
 |.str x _=>.str x
 |.bytes b _=>.Dx b
 |.ref a=>.ref a
 |_=>.ez
def HM(A:List Addr):Value->Prop
 |.none=>True
 |.bool _=>True
 |.int _ _=>True
 |.str _ _=>True
 |.bytes _ _=>True
 |.ref a=>a∈A
 |_=>False
def HM.mono(h:∀a∈A,a∈B):∀{u:Value},HM A u->HM B u:=λ{u} x=>by
 cases u with
 |ref a=>exact h a x
 |none=>trivial
 |bool b=>trivial
 |int i t=>trivial
 |str s t=>trivial
 |bytes b t=>trivial
 |_=>exact False.elim x
def IF(x:HM A u):RelV (toV u) u:=by
 cases u with
 |ref a=>rfl
 |none=>rfl
 |bool b=>rfl
 |int i t=>exact⟨t,rfl⟩
 |str s t=>exact⟨t,rfl⟩
 |bytes b t=>exact⟨t,rfl⟩
 |_=>exact False.elim x
theorem lY:∀{vs:List Value},(∀u∈vs,HM A u)->Vals (vs.map toV) vs
 | [],_=>.nil
 |u :: r,h=>.cons (IF (h u (cF ..))) (lY λx hx=>h x (cZ _ hx))
def om(h:Heap)(A:List Addr)(a:Addr):Prop:= ∃vs:List Value,vs.length<=sizeLine/\(∀u∈vs,HM A u)/\
 (h.get? a=some { cls:=.type "list",data:=.seq vs.toArray } \/h.get? a=some { cls:=.type "tuple",data:=.seq vs.toArray })
theorem om.mono(k:∀a∈A,a∈B)(x:om h A a):om h B a:=by
 obtain⟨vs,h1,h2,h3⟩:=x;exact⟨vs,h1,λu hu=>(h2 u hu).mono k,h3⟩
theorem kR:∀{vs:List Value}{ds:List WData},WellAll P h vs ds->vs.length=ds.length
 |_,_,.nil=>rfl
 |_,_,.cons _ b=>by
  show _+1=_+1;rw[kR b]
def zB(x:Well P h v (.list ds)):∃(a:Addr)(vs:List Value),v=.ref a/\h.get? a=some { cls:=.type "list",data:=.seq vs.toArray } /\WellAll P h vs ds:=by
 cases x with
 |list ho hall=>exact⟨_,_,rfl,ho,hall⟩
def wW(x:Well P h v (.tuple ds)):∃(a:Addr)(vs:List Value),v=.ref a/\h.get? a=some { cls:=.type "tuple",data:=.seq vs.toArray } /\WellAll P h vs ds:=by
 cases x with
 |tuple ho hall=>exact⟨_,_,rfl,ho,hall⟩
def zC(x:WellAll P h us (d :: ds)):∃(v:Value)(vs:List Value),us=v :: vs/\Well P h v d/\WellAll P h vs ds:=by
 cases x with
 |cons a b=>exact⟨_,_,rfl,a,b⟩
def FF(h:n<=1048576):n<=sizeLine:=eY h (by decide)
section
variable {P:Params} {h:Heap}
mutual
theorem K3:∀(d:WData)(v:Value),Well P h v d->Fu d=true->d.weight<=1048576->∃A:List Addr,HM A v/\∀a∈A,om h A a
 |.none,_,x,_,_=>by
  cases x;exact⟨[],trivial,λa m=>aI m (by simp)⟩
 |.bool b,_,x,_,_=>by
  cases x;exact⟨[],trivial,λa m=>aI m (by simp)⟩
 |.int i,_,x,_,_=>by
  cases x;exact⟨[],trivial,λa m=>aI m (by simp)⟩
 |.str s,_,x,_,_=>by
  cases x;exact⟨[],trivial,λa m=>aI m (by simp)⟩
 |.bytes b,_,x,_,_=>by
  cases x;exact⟨[],trivial,λa m=>aI m (by simp)⟩
 |.list ds,_,x,p,z=>by
  obtain⟨a,vs,rfl,ho,hall⟩:=zB x;have z2:WData.weightAll ds<=1048576:=z;obtain⟨A,h1,h2⟩:=sY ds _ hall p λd hd=>eY (qL hd) z2
  have k:∀b∈A,b∈a :: A:=λb hb=>cZ _ hb
  refine⟨a :: A,cF ..,λb hb=>?_⟩
  rcases bp.mp hb with e |m
  ·rw[e];exact⟨vs,FF (by rw[kR hall];exact eY (i7 ds) z2),λu hu=>(h1 u hu).mono k,.inl ho⟩
  ·exact(h2 b m).mono k
 |.tuple ds,_,x,p,z=>by
  obtain⟨a,vs,rfl,ho,hall⟩:=wW x;have z2:WData.weightAll ds<=1048576:=z;obtain⟨A,h1,h2⟩:=sY ds _ hall p λd hd=>eY (qL hd) z2
  have k:∀b∈A,b∈a :: A:=λb hb=>cZ _ hb
  refine⟨a :: A,cF ..,λb hb=>?_⟩
  rcases bp.mp hb with e |m
  ·rw[e];exact⟨vs,FF (by rw[kR hall];exact eY (i7 ds) z2),λu hu=>(h1 u hu).mono k,.inr ho⟩
  ·exact(h2 b m).mono k
 |.float _,_,_,p,_=>Bool.noConfusion (show false=true from p)
 |.dict _,_,_,p,_=>Bool.noConfusion (show false=true from p)
 |.bytearray _,_,_,p,_=>Bool.noConfusion (show false=true from p)
 |.set _,_,_,p,_=>Bool.noConfusion (show false=true from p)
 |.frozenset _,_,_,p,_=>Bool.noConfusion (show false=true from p)
 |.obj _ _,_,_,p,_=>Bool.noConfusion (show false=true from p)
theorem sY:∀(ds:List WData)(vs:List Value),WellAll P h vs ds->vF ds=true->(∀d∈ds,d.weight<=1048576)->∃A:List Addr,(∀u∈vs,HM A u)/\∀a∈A,om h A a
 | [],_,x,_,_=>by
  cases x;exact⟨[],λu m=>aI m (by simp),λa m=>aI m (by simp)⟩
 |d :: ds,_,x,p,z=>by
  obtain⟨v,vs,rfl,x1,x2⟩:=zC x;have q:Fu d=true/\vF ds=true:=DD.mp p;obtain⟨A,a1,a2⟩:=K3 d v x1 q.1 (z d (cF ..));obtain⟨B,b1,b2⟩:=sY ds vs x2 q.2 λe he=>z e (cZ _ he)
  have kA:∀b∈A,b∈A++B:=λb hb=>cv.mpr (.inl hb)
  have kB:∀b∈B,b∈A++B:=λb hb=>cv.mpr (.inr hb)
  refine⟨A++B,λu hu=>?_,λb hb=>?_⟩
  ·rcases bp.mp hu with e |m
   ·rw[e];exact a1.mono kA
   ·exact(b1 u m).mono kB
  ·rcases cv.mp hb with m |m
   ·exact(a2 b m).mono kA
   ·exact(b2 b m).mono kB
end
end
noncomputable def KU (o:Obj):Option HO:=match o.data with
 |.seq vs _=>if (o.cls==Value.type "list")=true then some (.kZ o (.lst (vs.toList.map toV))) else some (.kZ o (.tup (vs.toList.map toV)))
 |_=>none
noncomputable def nj (K:bg) (h:Heap) (A:List Addr):Hp:=λb=>if b∈A then (if (K.lookup b).isNone=true then (h.get? b).bind KU else none) else none
def Dr(H:Hp):Prop:= ∀b,H b=none\/∃o u,H b=some (.kZ o u)
def CY(vs:List Value):KU { cls:=.type "list",data:=.seq vs.toArray }=some (.kZ { cls:=.type "list",data:=.seq vs.toArray } (.lst (vs.map toV))):=by
 show(if (Value.type "list" ==Value.type "list")=true then some (HO.kZ { cls:=.type "list",data:=.seq vs.toArray } (.lst (vs.toArray.toList.map toV))) else some (HO.kZ { cls:=.type "list",data:=.seq vs.toArray } (.tup (vs.toArray.toList.map toV))))=_;rw[ai (beq_self_eq_true _)]
def CW(vs:List Value):KU { cls:=.type "tuple",data:=.seq vs.toArray }=some (.kZ { cls:=.type "tuple",data:=.seq vs.toArray } (.tup (vs.map toV))):=by
 show(if (Value.type "tuple" ==Value.type "list")=true then some (HO.kZ { cls:=.type "tuple",data:=.seq vs.toArray } (.lst (vs.toArray.toList.map toV))) else some (HO.kZ { cls:=.type "tuple",data:=.seq vs.toArray } (.tup (vs.toArray.toList.map toV))))=_;rw[ag (by decide)]
section
variable {P:Program} {w:World} {K:bg} {h:Heap} {A:List Addr}
def wj(hb:b∈A)(hk:K.lookup b=none)(e:h.get? b=some o):nj K h A b=KU o:=by
 unfold nj;rw[ai hb,hk,ai (show(none:Option Obj).isNone=true from rfl),e]<;>rfl
def KI(q:nj K h A b=some u):b∈A/\K.lookup b=none:=by
 unfold nj at q;by_cases hb:b∈A
 ·rw[ai hb] at q;cases hk:K.lookup b with
  |none=>exact⟨hb,rfl⟩
  |some o=>
   rw[hk,ag (by simp)] at q;cases q
 ·rw[ag hb] at q;cases q
def wg(ar:∀a∈A,om h A a)(q:nj K h A b=some u):K.lookup b=none/\∃vs:List Value,vs.length<=sizeLine/\(∀u∈vs,HM A u)/\
  ((h.get? b=some { cls:=.type "list",data:=.seq vs.toArray } /\u=.kZ { cls:=.type "list",data:=.seq vs.toArray } (.lst (vs.map toV)))\/
   (h.get? b=some { cls:=.type "tuple",data:=.seq vs.toArray } /\u=.kZ { cls:=.type "tuple",data:=.seq vs.toArray } (.tup (vs.map toV)))):=by
 obtain⟨hb,hk⟩:=KI q;obtain⟨vs,h1,h2,h3⟩:=ar b hb;refine⟨hk,vs,h1,h2, ?_⟩
 rcases h3 with e |e
 ·rw[wj hb hk e,CY] at q;exact .inl ⟨e,(Option.some.inj q).symm⟩
 ·rw[wj hb hk e,CW] at q;exact .inr ⟨e,(Option.some.inj q).symm⟩
def HK(ar:∀a∈A,om h A a):Dr (nj K h A):=λb=>by
 cases q:nj K h A b with
 |none=>exact .inl rfl
 |some u=>
  obtain⟨_,vs,_,_,⟨_,e⟩ | ⟨_,e⟩⟩:=wg ar q
  ·exact .inr ⟨_,_,by rw[e]⟩
  ·exact .inr ⟨_,_,by rw[e]⟩
def Lf(ar:∀a∈A,om h A a):i5 P w (nj K h A) h:=λb u q=>by
 obtain⟨_,vs,h1,h2,⟨e,rfl⟩ | ⟨e,rfl⟩⟩:=wg ar q
 ·exact⟨e,by rw[bD];exact h1,vs,_,lY h2,e⟩
 ·exact⟨e,by rw[bD];exact h1,vs,lY h2,_,e,rfl,_,rfl⟩
def vY{c c':Value}{vs us:List Value}(e:(some { cls:=c,data:=.seq vs.toArray }:Option Obj)=some { cls:=c',data:=.seq us.toArray }):c=c'/\vs=us:=by
 have e1:=Option.some.inj e;have e2:c=c':=congrArg Obj.cls e1;have e3:Data.seq vs.toArray=Data.seq us.toArray:=congrArg Obj.data e1;injection e3 with e4
 refine⟨e2, ?_⟩;have e5:=congrArg Array.toList e4;simpa using e5
def OB(KX:K.In h)(ar:∀a∈A,om h A a){a:Addr}{vs:List Value}(ha:a∈A)(e:h.get? a=some { cls:=.type "list",data:=.seq vs.toArray }):(∀u∈vs,HM A u)/\cG K (nj K h A) a (vs.map toV):=by
 obtain⟨us,h1,h2,h3⟩:=ar a ha;have hu:us=vs:=by
  rcases h3 with q |q
  ·rw[e] at q;exact(vY q).2.symm
  ·rw[e] at q;exact aI (Value.type.inj (vY q).1) (by decide)
 subst hu;refine⟨h2, ?_⟩;cases hk:K.lookup a with
 |none=>exact .inl (.inr ⟨_,by rw[wj ha hk e,CY]⟩)
 |some o=>
  have e2:=KX a o hk;rw[e] at e2;obtain rfl:=Option.some.inj e2;exact .inr ⟨_,us.toArray,_,hk,rfl,rfl,rfl,by rw[dE];exact h1,by simpa using lY h2⟩
def OA(KX:K.In h)(ar:∀a∈A,om h A a){a:Addr}{vs:List Value}(ha:a∈A)(e:h.get? a=some { cls:=.type "tuple",data:=.seq vs.toArray }):(∀u∈vs,HM A u)/\uh K (nj K h A) a (vs.map toV):=by
 obtain⟨us,h1,h2,h3⟩:=ar a ha;have hu:us=vs:=by
  rcases h3 with q |q
  ·rw[e] at q;exact aI (Value.type.inj (vY q).1) (by decide)
  ·rw[e] at q;exact(vY q).2.symm
 subst hu;refine⟨h2, ?_⟩;cases hk:K.lookup a with
 |none=>exact .inl (.inr ⟨_,by rw[wj ha hk e,CW]⟩)
 |some o=>
  have e2:=KX a o hk;rw[e] at e2;obtain rfl:=Option.some.inj e2;exact .inr ⟨_,us.toArray,_,hk,rfl,rfl,by rw[dE];exact h1,by simpa using lY h2⟩
mutual
theorem MD{Pm:Params}(KX:K.In h)(ar:∀a∈A,om h A a):∀(d:WData)(v:Value),Well Pm h v d->Fu d=true->HM A v->Dw K (nj K h A) (toV v) d
 |.none,_,x,_,_=>by
  cases x;exact .ez
 |.bool b,_,x,_,_=>by
  cases x;exact .bl b
 |.int i,_,x,_,_=>by
  cases x;exact .int i
 |.str s,_,x,_,_=>by
  cases x;exact .str s
 |.bytes b,_,x,_,_=>by
  cases x;have z:=Dw.Dx (K:=K) (H:=nj K h A) b.toArray;exact z
 |.list ds,_,x,p,hu=>by
  obtain⟨a,vs,rfl,ho,hall⟩:=zB x;obtain⟨h2,hs⟩:=OB KX ar hu ho;exact .lst hs (By KX ar ds _ hall p h2)
 |.tuple ds,_,x,p,hu=>by
  obtain⟨a,vs,rfl,ho,hall⟩:=wW x;obtain⟨h2,hs⟩:=OA KX ar hu ho;exact .tup hs (By KX ar ds _ hall p h2)
 |.float _,_,_,p,_=>Bool.noConfusion (show false=true from p)
 |.dict _,_,_,p,_=>Bool.noConfusion (show false=true from p)
 |.bytearray _,_,_,p,_=>Bool.noConfusion (show false=true from p)
 |.set _,_,_,p,_=>Bool.noConfusion (show false=true from p)
 |.frozenset _,_,_,p,_=>Bool.noConfusion (show false=true from p)
 |.obj _ _,_,_,p,_=>Bool.noConfusion (show false=true from p)
theorem By(KX:K.In h)(ar:∀a∈A,om h A a):∀(ds:List WData)(vs:List Value),WellAll Pm h vs ds->vF ds=true->(∀u∈vs,HM A u)->oj K (nj K h A) (vs.map toV) ds
 | [],_,x,_,_=>by
  cases x;exact .nil
 |d :: ds,_,x,p,hu=>by
  obtain⟨v,vs,rfl,x1,x2⟩:=zC x;have q:Fu d=true/\vF ds=true:=DD.mp p;exact .cons (MD KX ar d v x1 q.1 (hu _ (cF ..))) (By KX ar ds vs x2 q.2 λu m=>hu u (cZ _ m))
end
end
def GC{P:Program}{w:World}{K:bg}{mg mb:Str->Option Value}{CX:K8}{k:Nat}{fa:Addr}{fd:FuncData}{ps:List Str}{sp:Sp}{s₁:Shared}{vals:List Value}{ds:List WData}{R:PySem.W.WRecords}{cl:Str->Option Addr}{d0:WData}
  (KX:K.In s₁.heap) (hns:s₁.heap.Ns mainGlobals mg) (hb:s₁.heap.Ns builtinsNs mb) (hbb:∀x:Str,x≠ "__name__" ->mb x=bootBuiltins x) (hlim:s₁.heap.NoLimit) (hg:s₁.gens= #[])
  (hwl:WellAll w.params s₁.heap vals ds) (hpl:vF ds=true) (hwt:∀d∈ds,d.weight<=1048576) (hr:iC k callerA)
  (F:∀base:Heap,K.In base->base.Ns mainGlobals mg->nA P w K mg base CX k fa fd ps sp) (hbind:∀(s:Shared)(us:List Value),us.length=ps.length->BindsTo s fd ⟨us,[]⟩ (ps.zip us)) (hlen:ds.length=ps.length)
  (hsp:∀(H:Hp)(xs:List V),Dr H->oj K H xs ds->sp xs H (λv H'=>Dw K H' v d0) λ_ _ _=>False)
  (hCX:∀H e s',CX [] H s₁ (λ_ _ _=>False) e s'->False):
  codeAny (model P w) callerA (.call (.ref fa) ⟨vals,[]⟩) (λr s'=> ∃u as,r=.ok (.ret u)/\ReadsW R cl s'.heap u d0 as/\OldK s₁.heap s'.heap/\s'.os=s₁.os/\AllBare s'.gens) s₁:=by
 obtain⟨A,ho,ar⟩:=sY ds vals hwl hpl hwt;have hO:Dr (nj K s₁.heap A):=HK ar;have bP:i5 P w (nj K s₁.heap A) s₁.heap:=Lf ar;have hS:=By KX ar ds vals hwl hpl ho;have hV:=lY ho;have hK:∀b u,nj K s₁.heap A b=some u->K.lookup b=none:=λb u q=>(wg ar q).1
 have noA:∀{b:Addr}{o:Obj}{es:Array DictEntry}{ep:Nat},s₁.heap.get? b=some o->o.data=.dict es ep->nj K s₁.heap A b=none:=λ{b o es ep} e d=>by
  cases q:nj K s₁.heap A b with
  |none=>rfl
  |some u=>
   obtain⟨_,vs,_,_,⟨e2,_⟩ | ⟨e2,_⟩⟩:=wg ar q
   ·rw[e2] at e;cases e;have d':Data.seq vs.toArray _=Data.dict es ep:=d;cases d'
   ·rw[e2] at e;cases e;have d':Data.seq vs.toArray _=Data.dict es ep:=d;cases d'
 generalize nj K s₁.heap A=H at hO bP hS hK noA;have base_of:∀{b:Addr}{o:Obj},s₁.heap.get? b=some o->H b=none->(Bl s₁.heap H).get? b=some o:=λe n=>Jr e n
 have nsK:∀{b:Addr}{m:Str->Option Value},s₁.heap.Ns b m->(Bl s₁.heap H).Ns b m:=λ{b m} ⟨o,es,ep,e,d,r⟩ =>⟨o,es,ep,base_of e (noA e d),d,r⟩
 have nK:∀b o,K.lookup b=some o->H b=none:=λb o e=>by
  cases q:H b with
  |none=>rfl
  |some u=>
   rw[hK b u q] at e;cases e
 have hKb:K.In (Bl s₁.heap H):=λb o e=>base_of (KX b o e) (nK b o e)
 have hM:Mod K mg (Bl s₁.heap H):=⟨hKb,nsK hns,⟨mb,nsK hb,hbb⟩,let ⟨mc,h1,h2⟩:=hlim;⟨mc,nsK h1,h2⟩⟩;have e0:Fb P w K mg (Bl s₁.heap H) callerA [] s₁ H:=⟨rfl,hM,λb o e=>KH e,Nat.le_of_eq (Ho _ _),trivial,λb hb=>aI (show b∈([]:List Addr) from hb) (by simp),bP,.of_eq hg⟩;have hl:vals.length=ps.length:=by rw[kR hwl];exact hlen
 refine codeAny_mono ((F _ hKb (nsK hns)).run callerA [] s₁ H ⟨vals,[]⟩ vals (vals.map toV) _ _ hr e0 (hbind s₁ vals hl) hV (hsp H _ hO hS)) λr s' x=>?_
 cases r with
 |error e=>exact(hCX H e s' x).elim
 |ok fl=>
  cases fl with
  |next=>exact False.elim x
  |brk=>exact False.elim x
  |cont=>exact False.elim x
  |ret u=>
   obtain⟨v,H',os,bare,un,hok',r',q⟩:=x;have kept:∀b o,s₁.heap.get? b=some o->s'.heap.get? b=some o:=λb o e=>by
    cases q2:H b with
    |none=>exact un.keep b o e q2 (by intro z;exact aI (show b∈([]:List Addr) from z) (by simp)) (by simp)
    |some u2=>
     rcases hO b with z | ⟨ob,u3,z⟩
     ·rw[q2] at z;cases z
     ·have z2:=un.yf b ob _ z;obtain⟨e1,_⟩:=bP b _ z;obtain⟨e2,_⟩:=hok' b _ z2;rw[e] at e1;cases e1;exact e2
   have KX':K.In s'.heap:=λb o e=>kept b o (KX b o e)
   obtain⟨as,hrd⟩:=Dw.reads (R:=R) (cl:=cl) hok' KX' d0 v u q r';exact⟨u,as,rfl,hrd,OldK.of_keep kept,os,bare⟩
def xR(h:WData.layableAll ds=true):∀d∈ds,d.weight<=1048576:=λd hd=>
 (PySem.W.layableW_iff.mp (je.mp h d hd)).2.2
theorem yn:∀(cs:List Codec)(a:Codec.denoteAll cs),(Codec.encAll cs a).length=cs.length
 | [],_=>rfl
 |c :: cs,a=>by
  show(Codec.encAll cs a.2).length+1=cs.length+1;rw[yn cs a.2]
def Gr{r:OpenSpec}{k:Nat}{q:Program}{loose:List Str}{XP:(Str->Option Value)->Heap->Prop}{YP:World->Heap->Prop}{d:DefRec}{K:Params->bg}{CX:World->K8}{ps:List Str}{sp:World->Sp}
  (hwell:r.wellSaid=true) (hdf:d.params.defaults=[]) (hlen:r.args.length=ps.length) (hr:iC k callerA)
  (hY:∀(w:World)(h:Heap),YP w h->(K w.params).In h)
  (F:∀(w:World)(mg:Str->Option Value)(fa:Addr)(h:Heap),YP w h->(K w.params).In h->h.Ns mainGlobals mg->mg d.name=some (.ref fa)->
   ∃fd:FuncData,(∀(s:Shared)(us:List Value),us.length=ps.length->BindsTo s fd ⟨us,[]⟩ (ps.zip us))/\
    ∀base:Heap,(K w.params).In base->base.Ns mainGlobals mg->nA r.prog w (K w.params) mg base (CX w) k fa fd ps (sp w))
  (hsp:∀(w:World)(H:Hp)(xs:List V)(a:Codec.denoteAll r.args),Dr H->Codec.withinAll r.args a=true->Codec.app r.args r.asked a=true->oj (K w.params) H xs (Codec.encAll r.args a)->
   sp w xs H (λv H'=>Dw (K w.params) H' v (r.ret.enc (Codec.app r.args r.f a))) λ_ _ _=>False)
  (hCX:∀(w:World)(H:Hp)(s:Shared)(e:Value)(s':Shared),CX w [] H s (λ_ _ _=>False) e s'->False):
  PySem.W.WalkOS q loose XP YP r d [] (λf vs=>PySem.call f vs):=by
 intro w zN s₁ mg mb G Y fa o pm cd doc dV kV ho hd hcd hD hmg hg args vals as hpre hlay hrd hwl hlo;obtain⟨a,e1,e2⟩:=PySem.W.os_pre_some hpre;obtain⟨e3,hwi⟩:=Codec.encAll_of_decAll r.args args a e1;subst e3;have KX:=hY w _ Y;obtain⟨fd,hb,hF⟩:=F w mg fa _ Y KX G.T.g hmg;refine PySem.W.enter_call (codeAny_mono (GC (R:=[]) (cl:=classAt zN.heap) (d0:=r.ret.enc (Codec.app r.args r.f a)) KX G.T.g G.T.b G.T.builtins G.T.nolimit hg hwl (zP _ _) (xR hlay) hr hF hb (by rw[yn];exact hlen)
  (λH xs hO hS=>hsp w H xs a hO hwi e2 hS) λH e s'=>hCX w H s₁ e s') λr' s' hq=>?_)
 obtain⟨u,as',rfl,h1,h2,h3,h4⟩:=hq;exact⟨.inl ⟨u,_,as',rfl,λ_=>rfl,h1,(OpenSpec.post_iff hwell hwi _ _).mpr rfl,λz=>Bool.noConfusion (show false=true from z)⟩,h2,h3,h4⟩
def DJ{r:OpenSpec}{k:Nat}{q:Program}{loose:List Str}{XP:(Str->Option Value)->Heap->Prop}{YP:World->Heap->Prop}{d:DefRec}{K:Params->bg}{CX:K8}{ps:List Str}{sp:bg->Sp}
  (hwell:r.wellSaid=true) (hdf:d.params.defaults=[]) (hlen:r.args.length=ps.length) (hr:iC k callerA)
  (hY:∀(w:World)(h:Heap),YP w h->(K w.params).In h)
  (F:∀(w:World)(mg:Str->Option Value)(fa:Addr)(h:Heap),YP w h->(K w.params).In h->h.Ns mainGlobals mg->mg d.name=some (.ref fa)->
   ∃fd:FuncData,(∀(s:Shared)(us:List Value),us.length=ps.length->BindsTo s fd ⟨us,[]⟩ (ps.zip us))/\
    ∀base:Heap,(K w.params).In base->base.Ns mainGlobals mg->nA r.prog w (K w.params) mg base CX k fa fd ps (sp (K w.params)))
  (hsp:∀(K:bg)(H:Hp)(xs:List V)(a:Codec.denoteAll r.args),Dr H->Codec.withinAll r.args a=true->Codec.app r.args r.asked a=true->oj K H xs (Codec.encAll r.args a)->
   sp K xs H (λv H'=>Dw K H' v (r.ret.enc (Codec.app r.args r.f a))) λ_ _ _=>False)
  (hCX:∀(H:Hp)(s:Shared)(e:Value)(s':Shared),CX [] H s (λ_ _ _=>False) e s'->False):
  PySem.W.WalkOS q loose XP YP r d [] (λf vs=>PySem.call f vs):=
 Gr (K:=K) (CX:=λ_=>CX) (sp:=λw=>sp (K w.params)) hwell hdf hlen hr hY F (λw H xs a h1 h2 h3 h4=>hsp (K w.params) H xs a h1 h2 h3 h4) λ_ H s e s'=>hCX H s e s'
end L2
end
open L2 renaming upd->ao,St->b6
namespace Wh
open Kp212
def pH:∀{n:Nat}{b:Body}{x:List Known×Body},each look n b=some x->
  (n=0/\x=([],b))\/∃(m:Nat)(k:Known)(b1:Body)(ks:List Known)(r:Body),n=m+1/\look b=some (k,b1)/\each look m b1=some (ks,r)/\x=(k :: ks,r)
 |0,b,x,h=>.inl ⟨rfl,(Option.some.inj h).symm⟩
 |n+1,b,x,h=>by
  unfold each at h;obtain⟨y,hy,h2⟩:=dq.mp h;obtain⟨z,hz,h3⟩:=bO.mp h2;exact .inr ⟨n,y.1,y.2,z.1,z.2,rfl,hy,hz,h3.symm⟩
theorem sR(hl:∀b k r,b.length<=L->look b=some (k,r)->r.length<b.length):
  ∀{n:Nat}{b:Body}{ks:List Known}{r:Body},b.length<=L->each look n b=some (ks,r)->r.length<=b.length/\ks.length=n
 |n,b,ks,r,hb,h=>by
  rcases pH h with⟨rfl,e⟩ | ⟨m,k,b1,ks',r',rfl,h1,h2,e⟩
  ·cases e;exact⟨bx _,rfl⟩
  ·cases e;have a1:=hl _ _ _ hb h1;have a2:=sR hl (by omega) h2;exact⟨by omega,by rw[cR,a2.2]⟩
 termination_by n=>n
theorem qa(ps:Programs):∀(f:Nat)(env:List Known)(b:Body)(k:Known)(r:Body),infer ps f env b=some (k,r)->r.length<b.length
 |0,_,_,_,_,h=>by simp[infer] at h
 |f+1,env,b,k,r,h=>by
  have ih:=qa ps f;unfold infer at h;split at h
  ·split at h
   ·cases h;simp;omega
   ·cases h
  ·obtain⟨x,_,e⟩:=bO.mp h;cases e;simp;omega
  ·obtain⟨c,hc,h⟩:=dq.mp h;obtain⟨x,hx,h⟩:=dq.mp h;obtain⟨y,hy,e⟩:=bO.mp h;have a1:=ih _ _ _ _ hc;have a2:=ih _ _ _ _ hx;have a3:=ih _ _ _ _ hy;cases e;simp;omega
  ·obtain⟨c,hc,h⟩:=dq.mp h;obtain⟨x,hx,e⟩:=bO.mp h;have a1:=ih _ _ _ _ hc;have a2:=ih _ _ _ _ hx;cases e;simp;omega
  ·obtain⟨w,hw,h⟩:=dq.mp h;split at h
   ·cases h
   ·obtain⟨a,ha,h⟩:=dq.mp h;split at h
    ·cases h
    ·cases h;have a1:=(sR (L:=(by assumption:Body).length) (λb k r _=>ih env b k r) (bx _) ha);simp;omega
  ·obtain⟨x,hx,h⟩:=dq.mp h;obtain⟨y,hy,h⟩:=dq.mp h;obtain⟨z,hz,e⟩:=bO.mp h;have a1:=ih _ _ _ _ hx;have a2:=ih _ _ _ _ hy;cases e;simp;omega
  ·cases h
theorem A4
  (hg:∀b k r,b.length<=L->look b=some (k,r)->g b=some r/\r.length<b.length):
  ∀(l:List Nat){b:Body}{ks:List Known}{r:Body},b.length<=L->each look l.length b=some (ks,r)->
   l.foldl (λ(a:Option Body) _=>a.bind g) (some b)=some r
 | [],b,ks,r,_,h=>by
  rcases pH h with⟨_,e⟩ | ⟨m,k,b1,ks',r',e0,_⟩
  ·cases e;rfl
  ·cases e0
 |i :: l,b,ks,r,hb,h=>by
  rcases pH h with⟨e0,_⟩ | ⟨m,k,b1,ks',r',e0,h1,h2,e⟩
  ·cases e0
  ·cases e;have em:m=l.length:=by simp at e0;exact e0.symm
   subst em;obtain⟨q1,q2⟩:=hg _ _ _ hb h1;rw[uv];show l.foldl _ (g b)=_;rw[q1];exact A4 hg l (by omega) h2
def iY(h:knownBoth op x y=some z):2<=op/\op<=8:=by
 unfold knownBoth at h;dsimp only at h;split at h<;>first |exact⟨by decide,by decide⟩ |cases h
theorem AR(ps:Programs):∀(f:Nat)(env:List Known)(b:Body)(k:Known)(r:Body),infer ps f env b=some (k,r)->
  ∀F,b.length<F->skip F b=some r
 |0,_,_,_,_,h,_,_=>by simp[infer] at h
 |f+1,env,b,k,r,h,0,hF=>by omega
 |f+1,env,b,k,r,h,F+1,hF=>by
  have ih:=AR ps f;have il:=qa ps f;unfold infer at h;split at h
  ·split at h
   ·cases h;rfl
   ·cases h
  ·obtain⟨x,_,e⟩:=bO.mp h;cases e;rfl
  ·obtain⟨c,hc,h⟩:=dq.mp h;obtain⟨x,hx,h⟩:=dq.mp h;obtain⟨y,hy,e⟩:=bO.mp h;have a1:=il _ _ _ _ hc;have a2:=il _ _ _ _ hx;have b1:=ih _ _ _ _ hc F (by simp at hF;omega);have b2:=ih _ _ _ _ hx F (by simp at hF;omega);have b3:=ih _ _ _ _ hy F (by simp at hF;omega);cases e;show(((some _).bind (skip F)).bind (skip F)).bind (skip F)=_;simp[b1,b2,b3]
  ·obtain⟨c,hc,h⟩:=dq.mp h;obtain⟨x,hx,e⟩:=bO.mp h;have a1:=il _ _ _ _ hc;have b1:=ih _ _ _ _ hc F (by simp at hF;omega);have b2:=ih _ _ _ _ hx F (by simp at hF;omega);cases e;show((some _).bind (skip F)).bind (skip F)=_;simp[b1,b2]
  ·rename_i g n r0;obtain⟨w,hw,h⟩:=dq.mp h;split at h
   ·cases h
   ·obtain⟨a,ha,h⟩:=dq.mp h;split at h
    ·cases h
    ·cases h;show(List.range n).foldl (λ(a:Option Body) _=>a.bind (skip F)) (some r0)=some a.2;have ha':each (infer ps f env) (List.range n).length r0=some (a.1,a.2):=by rw[wB];exact ha
     exact A4 (L:=r0.length) (λb k r hb hl=>⟨ih _ _ _ _ hl F (by simp at hF;omega),il _ _ _ _ hl⟩) _ (bx _) ha'
  ·rename_i op r0 _ _ _ _ _;obtain⟨x,hx,h⟩:=dq.mp h;obtain⟨y,hy,h⟩:=dq.mp h;obtain⟨z,hz,e⟩:=bO.mp h;have a1:=il _ _ _ _ hx;have b1:=ih _ _ _ _ hx F (by simp at hF;omega);have b2:=ih _ _ _ _ hy F (by simp at hF;omega);obtain⟨o1,o2⟩:=iY hz;cases e;have hop:op=2\/op=3\/op=4\/op=5\/op=6\/op=7\/op=8:=by omega
   rcases hop with rfl |rfl |rfl |rfl |rfl |rfl |rfl<;>
    (show((some _).bind (skip F)).bind (skip F)=_;simp[b1,b2])
  ·cases h
 termination_by f=>f
structure kK(ke:List Known)(ve:List Nat):Prop where
 len:ke.length=ve.length
 Oa:∀(i:Nat)(k:Known)(v:Nat),ke[i]? =some k->ve[i]? =some v->k.lo<=v/\v<=k.hi
def kK.nil:kK [] []:=⟨rfl,λi k v h=>by simp at h⟩
def kK.snoc(h:kK ke ve)(h1:k.lo<=v)(h2:v<=k.hi):kK (ke++[k]) (ve++[v]):=by
 refine⟨by simp[h.len],λi k' v' e1 e2=>?_⟩;by_cases hi:i<ke.length
 ·rw[kM hi] at e1;rw[kM (by rw[<- h.len];exact hi)] at e2;exact h.Oa i _ _ e1 e2
 ·rw[nJ (by omega)] at e1;rw[nJ (by rw[<- h.len];omega)] at e2;rw[h.len] at e1;cases hj:i - ve.length with
  |zero=>rw[hj] at e1 e2;simp at e1 e2;subst e1;subst e2;exact⟨h1,h2⟩
  |succ j=>rw[hj] at e1;simp at e1
def kK.cons(h:kK ke ve)(h1:k.lo<=v)(h2:v<=k.hi):kK (k :: ke) (v :: ve):=by
 refine⟨by simp[h.len],λi k' v' e1 e2=>?_⟩;cases i with
 |zero=>simp at e1 e2;subst e1;subst e2;exact⟨h1,h2⟩
 |succ i=>exact h.Oa i _ _ (by simpa using e1) (by simpa using e2)
def nX(l:List Bound)(i:Nat):(paramsKnown l)[i]? =l[i]?.map λb=>⟨b.lo,b.hi,2 ^ i,0⟩:=by
 unfold paramsKnown;rw[cU];by_cases h:i<l.length
 ·rw[wA h,c6 h];simp[c6 h]
 ·rw[jw (by simpa using h),jw (by omega)];rfl
def fH(l:List Bound):(paramsKnown l).length=l.length:=by simp[paramsKnown]
def yj(hl:vs.length=params.length)
  (hb:∀(i:Nat)(b:Bound)(v:Nat),params[i]? =some b->vs[i]? =some v->b.lo<=v/\v<=b.hi):kK (paramsKnown params) vs:=by
 refine⟨by rw[fH,hl],λi k v e1 e2=>?_⟩;rw[nX] at e1;obtain⟨b,hb1,e⟩:=bO.mp e1;subst e;exact hb i b v hb1 e2
def wR{ks:List Known}{params:List Bound}(h:(ks.zip params).all (λz=>within ⟨z.1.lo,z.1.hi⟩ z.2)=true):
  ∀(i:Nat)(k:Known)(b:Bound),ks[i]? =some k->params[i]? =some b->b.lo<=k.lo/\k.hi<=b.hi:=by
 intro i k b h1 h2;rw[je] at h;have hm:(k,b)∈ks.zip params:=by
  apply iN (i:=i);rw[wz];exact⟨h1,h2⟩
 have:=h _ hm;simpa[within] using this
def JJ(e:kK ks vs)(hl:ks.length=params.length)
  (h:(ks.zip params).all (λz=>within ⟨z.1.lo,z.1.hi⟩ z.2)=true):kK (paramsKnown params) vs:=by
 refine yj (by rw[<- e.len,hl]) λi b v h1 h2=>?_
 have hi:i<ks.length:=by rw[hl];exact(dm.mp h1).1
 obtain⟨k,hk⟩ :∃k,ks[i]? =some k:=⟨_,c6 hi⟩;have a:=wR h i k b hk h1;have c:=e.Oa i k v hk h2;omega
def HD(l:List Known)(a:Nat):l.foldl (λ(a:Nat)(x:Known)=>a+x.cost) a=a+costs l:=by
 unfold costs
 induction l generalizing a with
 |nil=>rfl
 |cons x l ih=>rw[uv,uv,ih,ih (0+x.cost)];omega
def r9(x:Known)(l:List Known):costs (x :: l)=x.cost+costs l:=by
 show List.foldl _ (0+x.cost) l=_;rw[HD];omega
def below(ps:Programs)(c:Nat):Nat:=(List.range 16).countP λg=>match wordOf ps g with
 |some w=>decide (w.cost<c)
 |none=>false
def K0(ps:Programs)(c:Nat):below ps c<=16:=by
 have:=List.countP_le_length (l:=List.range 16) (p:=λg=>match wordOf ps g with
  |some w=>decide (w.cost<c)
  |none=>false)
 simpa[below] using this
theorem A7:∀{l:List α}{a:α},(∀x,p x=true->q x=true)->a∈l->p a=false->q a=true->l.countP p+1<=l.countP q
 |x :: l,a,h,hm,hp,hq=>by
  rw[List.countP_cons,List.countP_cons];have hle:l.countP p<=l.countP q:=List.countP_mono_left λx _=>h x
  rcases bp.mp hm with rfl |hm
  ·simp[hp,hq];omega
  ·have:=A7 h hm hp hq;cases e:p x with
   |true=>simp[h x e];omega
   |false=>cases q x<;>simp<;>omega
def JZ(hg:g<16)(hw:wordOf ps g=some w)(h:w.cost<c):below ps w.cost+1<=below ps c:=by
 unfold below;refine A7 (a:=g) (λx hx=>?_) (by simpa using hg) (by simp[hw]) (by simp[hw,h]);revert hx;cases wordOf ps x with
 |none=>exact λh=>h
 |some w=>intro hx;simp at hx⊢;omega
structure Sound(ps:Programs):Prop where
 keep:∀g v,version ps g=some v->g<16/\keeps ps v=true/\v.body.length<=200
def zY(h:keeps ps v=true):∃x,infer ps (v.body.length+1) (paramsKnown v.word.params) v.body=some (x,[])/\
  v.word.out.lo<=x.lo/\x.hi<=v.word.out.hi/\inSet x.deps v.word.deps=true/\x.cost<=v.word.cost:=by
 unfold keeps inferAll at h;split at h
 ·rename_i x e;split at e
  ·rename_i y hy;cases e;simp[within] at h;exact⟨_,hy,h.1.1,h.1.2,h.2.1,h.2.2⟩
  ·cases e
 ·cases h
def pA(h:knownBoth op x y=some z):z.cost=x.cost+y.cost+1:=by
 unfold knownBoth at h;dsimp only at h;split at h
 ·split at h<;>cases h;rfl
 ·cases h;rfl
 ·split at h<;>cases h;rfl
 ·split at h<;>cases h;rfl
 ·cases h;rfl
 ·cases h;rfl
 ·split at h
  ·cases h;rfl
  ·split at h<;>cases h<;>rfl
 ·cases h
def Gb(h:knownBoth op x y=some z)(a1:x.lo<=a)(a2:a<=x.hi)(b1:y.lo<=b)(b2:b<=y.hi):
  (∃c,both op a b=some c/\z.lo<=c/\c<=z.hi)/\z.cost=x.cost+y.cost+1:=by
 obtain⟨o1,o2⟩:=iY h;have hop:op=2\/op=3\/op=4\/op=5\/op=6\/op=7\/op=8:=by omega
 rcases hop with rfl |rfl |rfl |rfl |rfl |rfl |rfl
 ·simp only[knownBoth] at h;split at h
  ·cases h;refine⟨⟨a+b,by simp only[both];rw[ai (by omega)],by dsimp only;omega,by dsimp only;omega⟩,rfl⟩
  ·cases h
 ·simp only[knownBoth] at h;cases h;exact⟨⟨a - b,rfl,by dsimp only;omega,by dsimp only;omega⟩,rfl⟩
 ·simp only[knownBoth] at h;split at h
  ·cases h;have m1:x.lo * y.lo<=a * b:=Nat.mul_le_mul a1 b1;have m2:a * b<=x.hi * y.hi:=Nat.mul_le_mul a2 b2;refine⟨⟨a * b,by simp only[both];rw[ai (by omega)],m1,m2⟩,rfl⟩
  ·cases h
 ·simp only[knownBoth] at h;split at h
  ·cases h
  ·cases h;have m1:x.lo / y.hi<=a / b:=eY (Nat.div_le_div_right a1) (Nat.div_le_div_left b2 (by omega));have m2:a / b<=x.hi / y.lo:=eY (Nat.div_le_div_right a2) (Nat.div_le_div_left b1 (by omega));refine⟨⟨a / b,by simp only[both];rw[ag (by omega)],m1,m2⟩,rfl⟩
 ·simp only[knownBoth] at h;cases h;exact⟨⟨min a b,rfl,by dsimp only;omega,by dsimp only;omega⟩,rfl⟩
 ·simp only[knownBoth] at h;cases h;exact⟨⟨max a b,rfl,by dsimp only;omega,by dsimp only;omega⟩,rfl⟩
 ·simp only[knownBoth] at h;split at h
  ·cases h;exact⟨⟨1,by simp only[both];rw[ai (by omega)],bx _,bx _⟩,rfl⟩
  ·split at h
   ·cases h;exact⟨⟨0,by simp only[both];rw[ag (by omega)],bx _,bx _⟩,rfl⟩
   ·cases h;refine⟨⟨if a<b then 1 else 0,rfl,d8 _, ?_⟩,rfl⟩;dsimp only;split<;>omega
def gy(h:wordOf ps g=some w):∃v,version ps g=some v/\v.word=w:=by
 unfold wordOf at h;obtain⟨v,h1,h2⟩:=bO.mp h;exact⟨v,h1,h2⟩
def LP(S:Sound ps)(C:Nat):∀(f:Nat)(ke:List Known)(ve:List Nat)(b:Body)(k:Known)(r:Body)(F:Nat),
  infer ps f ke b=some (k,r)->k.cost<=C->kK ke ve->b.length+201 * below ps C<F->
   ∃v s,run ps F ve b=some (v,s,r)/\k.lo<=v/\v<=k.hi/\s<=k.cost:=by
 induction C using Nat.strongRecOn with
 |_ C ihC=>
 intro f
 induction f with
 |zero=>intro ke ve b k r F h;simp[infer] at h
 |succ f ih=>
  intro ke ve b k r F h hC he hF;cases F with
  |zero=>omega
  |succ F=>
  have il:=qa ps f;unfold infer at h;split at h
  ·split at h
   ·cases h;exact⟨_,_,rfl,bx _,bx _,bx _⟩
   ·cases h
  ·rename_i j r0;obtain⟨x,hx,e⟩:=bO.mp h;cases e;have hi:j<ve.length:=by rw[<- he.len];exact(dm.mp hx).1
   have hv:=c6 hi;have q:=he.Oa j x _ hx hv;refine⟨ve[j],1, ?_,q.1,q.2,bx _⟩;simp[run,hv]
  ·rename_i r0;obtain⟨c,hc,h⟩:=dq.mp h;obtain⟨x,hx,h⟩:=dq.mp h;obtain⟨y,hy,e⟩:=bO.mp h;have a1:=il _ _ _ _ hc;have a2:=il _ _ _ _ hx;have a3:=il _ _ _ _ hy;have b2:=AR ps _ _ _ _ _ hx;have b3:=AR ps _ _ _ _ _ hy;cases e;simp only[cR] at hF hC;obtain⟨vc,sc,c1,c2,c3,c4⟩:=ih ke ve _ _ _ F hc (by omega) he (by omega);by_cases h0:vc=0
   ·obtain⟨vy,sy,y1,y2,y3,y4⟩:=ih ke ve _ _ _ F hy (by omega) he (by omega);refine⟨vy,sc+sy+1, ?_,by dsimp only;omega,by dsimp only;omega,by dsimp only;omega⟩;simp[run,c1,h0,b2 _ (kO _),y1]
   ·obtain⟨vx,sx,x1,x2,x3,x4⟩:=ih ke ve _ _ _ F hx (by omega) he (by omega);refine⟨vx,sc+sx+1, ?_,by dsimp only;omega,by dsimp only;omega,by dsimp only;omega⟩;simp[run,c1,h0,x1,b3 _ (kO _)]
  ·rename_i r0;obtain⟨c,hc,h⟩:=dq.mp h;obtain⟨x,hx,e⟩:=bO.mp h;have a1:=il _ _ _ _ hc;cases e;simp only[cR] at hF hC;obtain⟨vc,sc,c1,c2,c3,c4⟩:=ih ke ve _ _ _ F hc (by omega) he (by omega);obtain⟨vx,sx,x1,x2,x3,x4⟩:=ih _ _ _ _ _ F hx (by omega) (he.snoc c2 c3) (by omega);refine⟨vx,sc+sx+1, ?_,x2,x3,by dsimp only;omega⟩;simp[run,c1,x1]
  ·rename_i g n r0;obtain⟨w,hw,h⟩:=dq.mp h;split at h
   ·cases h
   ·rename_i hn;obtain⟨a,ha,h⟩:=dq.mp h;split at h
    ·cases h
    ·rename_i hall;cases h;have hn':n=w.params.length:=by omega
     simp only[cR] at hF hC;have hlen:=sR (L:=r0.length) (λb k r _=>il ke b k r) (bx _) ha;have hcost:∀(b:Body)(k:Known)(r:Body),b.length<=r0.length->infer ps f ke b=some (k,r)->k.cost<=C->∃v s,run ps F ve b=some (v,s,r)/\k.lo<=v/\v<=k.hi/\s<=k.cost:=
      λb k r hb hk hkC=>ih ke ve b k r F hk hkC he (by omega)
     obtain⟨vs,s,r1,r2,r3⟩ :∃vs s,eachRun (run ps F ve) n r0=some (vs,s,a.2)/\kK a.1 vs/\s<=costs a.1:=by
      have:∀{n:Nat}{b:Body}{ks:List Known}{r:Body},b.length<=r0.length->each (infer ps f ke) n b=some (ks,r)->costs ks<=C->
        ∃vs s,eachRun (run ps F ve) n b=some (vs,s,r)/\kK ks vs/\s<=costs ks:=by
       intro n
       induction n with
       |zero=>
        intro b ks r _ h _
        rcases pH h with⟨_,e⟩ | ⟨m,k,b1,ks',r',e0,_⟩
        ·cases e;exact⟨[],0,rfl,kK.nil,bx _⟩
        ·cases e0
       |succ n ihn=>
        intro b ks r hb h hcs
        rcases pH h with⟨e0,_⟩ | ⟨m,k,b1,ks',r',e0,h1,h2,e⟩
        ·cases e0
        ·cases e0;cases e;rw[r9] at hcs;obtain⟨v,s,q,q1,q2,q3⟩:=hcost _ _ _ hb h1 (by omega);have a1:=il _ _ _ _ h1;obtain⟨vs,s2,p,p1,p2⟩:=ihn (by omega) h2 (by omega);refine⟨v :: vs,s+s2, ?_,p1.cons q1 q2,by rw[r9];omega⟩;simp[eachRun,q,p]
      exact this (bx _) ha (by omega)
     obtain⟨v,hv,ew⟩:=gy hw;subst ew;obtain⟨hg,hk,hbl⟩:=S.keep g v hv;obtain⟨x,x1,x2,x3,x4,x5⟩:=zY hk;have hall':((a.1.zip v.word.params).all λz=>within ⟨z.1.lo,z.1.hi⟩ z.2)=true:=by simpa using hall
     have he2:=JJ r2 (by rw[hlen.2,hn']) hall';have hb:=JZ hg hw (c:=C) (by omega);obtain⟨vx,sx,y1,y2,y3,y4⟩:=ihC v.word.cost (by omega) (v.body.length+1) _ vs v.body x [] F x1 x5 he2 (by omega);refine⟨vx,s+sx+1, ?_,by dsimp only;omega,by dsimp only;omega,by dsimp only;omega⟩;simp[run,hv,r1,y1]
  ·rename_i op r0 n0 n1 n9 n10 n11;obtain⟨x,hx,h⟩:=dq.mp h;obtain⟨y,hy,h⟩:=dq.mp h;obtain⟨z,hz,e⟩:=bO.mp h;have a1:=il _ _ _ _ hx;cases e;simp only[cR] at hF;have zc:=pA hz;obtain⟨vx,sx,x1,x2,x3,x4⟩:=ih ke ve _ _ _ F hx (by omega) he (by omega);obtain⟨vy,sy,y1,y2,y3,y4⟩:=ih ke ve _ _ _ F hy (by omega) he (by omega);obtain⟨⟨c,q1,q2,q3⟩,q4⟩:=Gb hz x2 x3 y2 y3;refine⟨c,sx+sy+1, ?_,q2,q3,by omega⟩;obtain⟨o1,o2⟩:=iY hz;have hop:op=2\/op=3\/op=4\/op=5\/op=6\/op=7\/op=8:=by omega
   rcases hop with rfl |rfl |rfl |rfl |rfl |rfl |rfl<;>simp[run,x1,y1,q1]
  ·cases h
def Cp(S:Sound ps)(hv:version ps g=some v)(hl:args.length=v.word.params.length)
  (hb:∀(i:Nat)(b:Bound)(a:Nat),v.word.params[i]? =some b->args[i]? =some a->b.lo<=a/\a<=b.hi):
  ∃x s,runOf ps g args=some (x,s)/\run ps DEEP args v.body=some (x,s,[])/\v.word.out.lo<=x/\x<=v.word.out.hi/\s<=v.word.cost:=by
 obtain⟨hg,hk,hbl⟩:=S.keep g v hv;obtain⟨k,x1,x2,x3,x4,x5⟩:=zY hk;have h16:=K0 ps v.word.cost;obtain⟨x,s,r1,r2,r3,r4⟩:=LP S v.word.cost (v.body.length+1) _ args v.body k [] DEEP x1 x5 (yj hl hb) (by show _<4096;omega);refine⟨x,s, ?_,r1,by omega,by omega,by omega⟩;simp[runOf,hv,r1]
structure Hd where
 kind:Nat
 num:Nat
 jc:Nat
structure Nd where
 kind:Nat
 num:Nat
 parts:List Nat
noncomputable def bj:List Nat->Option (Hd×List Nat)
 |0 :: v :: r=>some (⟨0,v,0⟩,r)
 |1 :: k :: r=>some (⟨1,k,0⟩,r)
 |9 :: r=>some (⟨9,0,3⟩,r)
 |11 :: g :: n :: r=>some (⟨11,g,n⟩,r)
 |op :: r=>if 2<=op/\op<=10 then some (⟨op,0,2⟩,r) else none
 | []=>none
noncomputable def cW:Nat->List Nat->Option (List Hd)
 |0,_=>some []
 |f+1,b=>if b=[] then some [] else match bj b with
  |none=>none
  |some (h,r)=>(cW f r).map (h :: ·)
def eK(e:bj b=some (h,r)):r.length<b.length:=by
 unfold bj at e;split at e
 ·cases e;simp;omega
 ·cases e;simp;omega
 ·cases e;simp
 ·cases e;simp;omega
 ·split at e
  ·cases e;simp
  ·cases e
 ·cases e
def y9(f:Nat):cW f []=some []:=by cases f<;>simp[cW]
theorem pC:∀(f g:Nat)(b:List Nat),b.length<=f->b.length<=g->cW f b=cW g b
 |f,g,[],_,_=>by rw[y9,y9]
 |0,_,_ :: _,h,_=>by simp at h
 |_,0,_ :: _,_,h=>by simp at h
 |f+1,g+1,x :: b,hf,hg=>by
  unfold cW;simp only[List.cons_ne_nil,if_false];cases e:bj (x :: b) with
  |none=>rfl
  |some q=>
   obtain⟨h,r⟩:=q;have:=eK e;simp only;rw[pC f g r (by omega) (by omega)]
structure jN where
 nodes:List Nd
 begun:List (Hd×List Nat)
 aq:List Nat
def jN.done(s:jN):Prop:=s.nodes≠[]/\s.begun=[]
instance(s:jN):Decidable s.done:=by
 unfold jN.done;cases s.nodes<;>cases s.begun<;>simp<;>infer_instance
noncomputable def fB (s:jN) (h:Hd):Option jN:=
 if h.kind=1 then (s.aq[h.num]?).map λp=> { s with begun:=(⟨1,p,h.jc⟩,[]) :: s.begun } else some { s with begun:=(h,[]) :: s.begun }
noncomputable def handed (s:jN) (place:Nat):jN:=match s.begun with
 | []=>s
 |(h,ps) :: rest=>⟨s.nodes,(h,ps++[place]) :: rest,if h.kind=10/\(ps++[place]).length=1 then s.aq++[place] else s.aq⟩
noncomputable def lO (n:Nat) (s:jN):jN:=match s.begun with
 | []=>s
 |(h,ps) :: rest=>handed ⟨s.nodes++[⟨h.kind,h.num,ps⟩],rest,if h.kind=10 then s.aq.dropLast else s.aq⟩ (n+s.nodes.length)
def EN(n:Nat):Nat->jN->jN
 |0,s=>s
 |f+1,s=>match s.begun with
  | []=>s
  |(h,ps) :: _=>if ps.length=h.jc then EN n f (lO n s) else s
def cX(n:Nat)(s:jN):jN:=EN n s.begun.length s
def ya(s:jN)(p:Nat):(handed s p).begun.length=s.begun.length:=by
 unfold handed;split
 ·rfl
 ·rename_i e;rw[e];rfl
def JL(n:Nat)(s:jN)(e:s.begun=(h,ps) :: rest):(lO n s).begun.length=rest.length:=by
 unfold lO;rw[e];simp only;rw[ya]
def hand(n:Nat)(s:jN)(place:Nat):jN:=cX n (handed s place)
def ym(e:s.begun=[]):cX n s=s:=by unfold cX;rw[e];rfl
def l5(e:s.begun=(h,ps) :: rest)(hd:ps.length≠h.jc):cX n s=s:=by
 unfold cX;rw[e];simp only[cR,EN,e];rw[ag hd]
def jW(e:s.begun=(h,ps) :: rest)(hd:ps.length=h.jc):
  cX n s=hand n ⟨s.nodes++[⟨h.kind,h.num,ps⟩],rest,if h.kind=10 then s.aq.dropLast else s.aq⟩ (n+s.nodes.length):=by
 have e2:cX n s=EN n rest.length (lO n s):=by
  unfold cX;rw[e];simp only[cR,EN,e];rw[ai hd]
 rw[e2];unfold hand cX;rw[ya];unfold lO;rw[e]
def m8(n:Nat):List Hd->jN->Option jN
 | [],s=>some s
 |h :: hs,s=>if s.done then none else match fB s h with
  |none=>none
  |some s'=>m8 n hs (cX n s')
noncomputable def readBody (b:List Nat) (n:Nat):Option (List Nd):=match cW b.length b with
 |none=>none
 |some hs=>match m8 n hs ⟨[],[],List.range n⟩ with
  |none=>none
  |some s=>if s.nodes=[]\/s.begun≠[] then none else some s.nodes
def mq(n:Nat)(b:List Nat)(s:jN):Option jN:=(cW b.length b).bind λhs=>m8 n hs s
def Jh(n:Nat)(s:jN):mq n [] s=some s:=rfl
def Ji(hb:b≠[])(e:bj b=none):mq n b s=none:=by
 cases b with
 |nil=>exact aI rfl hb
 |cons x b=>unfold mq;simp[cW,e]
def Hb(hb:b≠[])(hd:s.done):mq n b s=none:=by
 cases b with
 |nil=>exact aI rfl hb
 |cons x b=>
  unfold mq;simp only[cR,cW,List.cons_ne_nil,if_false];cases e:bj (x :: b) with
  |none=>rfl
  |some q=>
   obtain⟨h,r⟩:=q;simp only;cases cW b.length r with
   |none=>rfl
   |some hs=>simp[m8,hd]
def GZ(e:bj b=some (h,r))(hd:¬s.done):mq n b s=(fB s h).bind λs'=>mq n r (cX n s'):=by
 cases b with
 |nil=>cases e
 |cons x b=>
  have hl:=eK e;unfold mq;simp only[cR,cW,List.cons_ne_nil,if_false,e];rw[pC b.length r.length r (by simp at hl;omega) (bx _)];cases cW r.length r with
  |none=>cases fB s h<;>simp
  |some hs=>
   simp only[kL,dz,m8,ag hd];cases fB s h<;>rfl
mutual
inductive Tr where
 |node (kind num:Nat) (ps:kF)
inductive kF where
 |nil
 |cons (t:Tr) (ts:kF)
end
noncomputable def i8 (look:List Nat->Option (Tr×List Nat)):Nat->List Nat->Option (kF×List Nat)
 |0,b=>some (.nil,b)
 |n+1,b=>(look b).bind λx=>(i8 look n x.2).map λy=>(.cons x.1 y.1,y.2)
noncomputable def gN:Nat->Nat->List Nat->Option (Tr×List Nat)
 |0,_,_=>none
 |f+1,n,b=>match bj b with
  |none=>none
  |some (h,r)=>if h.kind=1 then (if h.num<n then some (.node 1 h.num .nil,r) else none)
   else if h.kind=10 then (gN f n r).bind λe=>(gN f (n+1) e.2).map λx=>(.node 10 0 (.cons e.1 (.cons x.1 .nil)),x.2)
   else (i8 (gN f n) h.jc r).map λx=>(.node h.kind h.num x.1,x.2)
def kF.len:kF->Nat
 |.nil=>0
 |.cons _ ts=>ts.len+1
mutual
def flat(aq:List Nat)(base:Nat):Tr->List Nd
 |.node kind num ts=>if kind=1 then [⟨1,aq.getD num 0,[]⟩]
  else if kind=10 then match ts with
   |.cons e (.cons x .nil)=>
    flat aq base e++(flat (aq++[base+(flat aq base e).length - 1]) (base+(flat aq base e).length) x++
     [⟨10,0,[base+(flat aq base e).length - 1,base+(flat aq base e).length+(flat (aq++[base+(flat aq base e).length - 1]) (base+(flat aq base e).length) x).length - 1]⟩])
   |_=>[]
  else (bC aq base ts).1++[⟨kind,num,(bC aq base ts).2⟩]
def bC(aq:List Nat)(base:Nat):kF->List Nd×List Nat
 |.nil=>([],[])
 |.cons t ts=>(flat aq base t++(bC aq (base+(flat aq base t).length) ts).1,(base+(flat aq base t).length - 1) :: (bC aq (base+(flat aq base t).length) ts).2)
end
def lG(e:bj b=some (h,r)):(h.kind=0\/h.kind=1->h.jc=0)/\(2<=h.kind/\h.kind<=8\/h.kind=10->h.jc=2/\h.num=0)/\(h.kind=9->h.jc=3/\h.num=0)/\h.kind<=11:=by
 unfold bj at e;split at e
 ·cases e;simp
 ·cases e;simp
 ·cases e;simp
 ·cases e;simp
 ·split at e
  ·cases e;rename_i hop;refine⟨λq=>?_,λ_=>⟨rfl,rfl⟩,λq=>?_, ?_⟩
   ·dsimp only at q;omega
   ·exact aI q (by dsimp only;assumption)
   ·dsimp only;omega
  ·cases e
 ·cases e
def bW(h1:kind≠1)(h10:kind≠10):
  flat aq base (.node kind num ts)=(bC aq base ts).1++[⟨kind,num,(bC aq base ts).2⟩]:=by
 unfold flat;rw[ag h1,ag h10]
def jy:flat aq base (.node 1 num ts)=[⟨1,aq.getD num 0,[]⟩]:=by
 unfold flat;rw[ai rfl]
def ib:flat aq base (.node 10 num (.cons e (.cons x .nil)))=
    flat aq base e++(flat (aq++[base+(flat aq base e).length - 1]) (base+(flat aq base e).length) x++
     [⟨10,0,[base+(flat aq base e).length - 1,base+(flat aq base e).length+(flat (aq++[base+(flat aq base e).length - 1]) (base+(flat aq base e).length) x).length - 1]⟩]):=by
 conv=>lhs;unfold flat
 rw[ag (by decide),ai rfl]
mutual
def jj:Nat->Tr->Prop
 |n,.node kind num ts=>(kind=1/\num<n/\ts=.nil)\/(kind=10/\num=0/\j9 n ts)\/(kind≠1/\kind≠10/\kind<=11/\(kind=0->ts.len=0)/\(2<=kind/\kind<=8->ts.len=2)/\(kind=9->ts.len=3)/\o9 n ts)
def o9:Nat->kF->Prop
 |_,.nil=>True
 |n,.cons t ts=>jj n t/\o9 n ts
def j9:Nat->kF->Prop
 |_,.nil=>False
 |n,.cons t ts=>jj n t/\mD (n+1) ts
def mD:Nat->kF->Prop
 |_,.nil=>False
 |n,.cons t ts=>jj n t/\ts=.nil
end
theorem Ff(hl:∀b t r,look b=some (t,r)->jj n t):∀(j:Nat)(b:List Nat)(ts:kF)(r:List Nat),i8 look j b=some (ts,r)->o9 n ts
 |0,b,ts,r,h=>by cases h;simp[o9]
 |j+1,b,ts,r,h=>by
  unfold i8 at h;obtain⟨x,hx,h⟩:=dq.mp h;obtain⟨y,hy,e⟩:=bO.mp h;cases e;have a1:=hl _ _ _ hx;have a2:=Ff hl j _ _ _ hy;exact⟨a1,a2⟩
theorem pY:∀(j:Nat)(b:List Nat)(ts:kF)(r:List Nat),i8 look j b=some (ts,r)->ts.len=j
 |0,b,ts,r,h=>by cases h;rfl
 |j+1,b,ts,r,h=>by
  unfold i8 at h;obtain⟨x,hx,h⟩:=dq.mp h;obtain⟨y,hy,e⟩:=bO.mp h;cases e;simp[kF.len,pY j _ _ _ hy]
theorem fR:∀(f n:Nat)(b:List Nat)(t:Tr)(r:List Nat),gN f n b=some (t,r)->jj n t
 |0,_,_,_,_,h=>by simp[gN] at h
 |f+1,n,b,t,r,h=>by
  unfold gN at h;split at h
  ·cases h
  ·rename_i hd r0 e;obtain⟨k1,k2,k3,k4⟩:=lG e;split at h
   ·split at h
    ·cases h;rename_i h1 h2;exact .inl ⟨rfl,h2,rfl⟩
    ·cases h
   ·rename_i h1;split at h
    ·obtain⟨x,hx,h⟩:=dq.mp h;obtain⟨y,hy,e⟩:=bO.mp h;cases e;have a1:=fR _ _ _ _ _ hx;have a2:=fR _ _ _ _ _ hy;exact .inr (.inl ⟨rfl,rfl,a1,a2,rfl⟩)
    ·rename_i h10;obtain⟨x,hx,e⟩:=bO.mp h;cases e;have a1:=Ff (fR f n) _ _ _ _ hx;have a2:=pY _ _ _ _ hx;refine .inr (.inr ⟨h1,h10,k4,λq=>?_,λq=>?_,λq=>?_,a1⟩)
     ·rw[a2];exact k1 (.inl q)
     ·rw[a2];exact(k2 (.inl q)).1
     ·rw[a2];exact(k3 q).1
def qd(aq:List Nat)(base:Nat)(t:Tr)(h:jj n t):flat aq base t≠[]:=by
 cases t with
 |node kind num ts=>
  by_cases h1:kind=1
  ·subst h1;rw[jy];simp
  ·by_cases h10:kind=10
   ·subst h10
    rcases h with⟨q,_⟩ | ⟨_,_,q⟩ | ⟨_,q,_⟩
    ·exact aI q (by decide)
    ·cases ts with
     |nil=>simp[j9] at q
     |cons e ts=>
      cases ts with
      |nil=>simp[j9,mD] at q
      |cons x ts=>
       have:ts=.nil:=by simp[j9,mD] at q;exact q.2.2
       subst this;rw[ib];simp
    ·exact aI rfl q
   ·rw[bW h1 h10];simp
noncomputable def deliver (n:Nat) (s:jN) (t:Tr):jN:=
 hand n ⟨s.nodes++flat s.aq (n+s.nodes.length) t,s.begun,s.aq⟩ (n+s.nodes.length+(flat s.aq (n+s.nodes.length) t).length - 1)
def qb(e:s.begun=(h,ps) :: rest):
  hand n s p=cX n ⟨s.nodes,(h,ps++[p]) :: rest,if h.kind=10/\(ps++[p]).length=1 then s.aq++[p] else s.aq⟩:=by
 unfold hand handed;rw[e]
def MQ(o:Option jN):Prop:= ∀s',o=some s'->¬s'.done
theorem MQ.none:MQ none:=λ_ h=>(by cases h)
def xK{s:jN}{x:Hd×List Nat}{r:List (Hd×List Nat)}(e:s.begun=x :: r):¬s.done:=by
 intro h;rw[h.2] at e;cases e
theorem C8(hl:∀b t r,look b=some (t,r)->r.length<b.length):∀(j:Nat)(b:List Nat)(ts:kF)(r:List Nat),i8 look j b=some (ts,r)->r.length<=b.length/\ts.len=j
 |0,b,ts,r,h=>by cases h;exact⟨bx _,rfl⟩
 |j+1,b,ts,r,h=>by
  unfold i8 at h;obtain⟨x,hx,h⟩:=dq.mp h;obtain⟨y,hy,e⟩:=bO.mp h;cases e;have a1:=hl _ _ _ hx;have a2:=C8 hl j _ _ _ hy;exact⟨by omega,by simp[kF.len,a2.2]⟩
theorem pX:∀(f n:Nat)(b:List Nat)(t:Tr)(r:List Nat),gN f n b=some (t,r)->r.length<b.length
 |0,_,_,_,_,h=>by simp[gN] at h
 |f+1,n,b,t,r,h=>by
  unfold gN at h;split at h
  ·cases h
  ·rename_i hd r0 e;have hl:=eK e;split at h
   ·split at h
    ·cases h;exact hl
    ·cases h
   ·split at h
    ·obtain⟨x,hx,h⟩:=dq.mp h;obtain⟨y,hy,e⟩:=bO.mp h;cases e;have a1:=pX _ _ _ _ _ hx;have a2:=pX _ _ _ _ _ hy;omega
    ·obtain⟨x,hx,e⟩:=bO.mp h;cases e;have a1:=C8 (pX f n) _ _ _ _ hx;omega
def Ha(hk:h.kind≠10)
  (ih:∀(b:List Nat)(s:jN),b.length<f->¬s.done->(∀t r,gN f s.aq.length b=some (t,r)->mq n b s=mq n r (deliver n s t))/\(gN f s.aq.length b=none->MQ (mq n b s))):
  ∀(j:Nat)(nodes:List Nd)(ps:List Nat)(begun:List (Hd×List Nat))(aq:List Nat)(b:List Nat),b.length<f->ps.length+j=h.jc->
   (∀ts r,i8 (gN f aq.length) j b=some (ts,r)->
    mq n b (cX n ⟨nodes,(h,ps) :: begun,aq⟩)=mq n r (hand n ⟨nodes++((bC aq (n+nodes.length) ts).1++[⟨h.kind,h.num,ps++(bC aq (n+nodes.length) ts).2⟩]),begun,aq⟩
     (n+nodes.length+(bC aq (n+nodes.length) ts).1.length)))/\
   (i8 (gN f aq.length) j b=none->MQ (mq n b (cX n ⟨nodes,(h,ps) :: begun,aq⟩))):=by
 intro j
 induction j with
 |zero=>
  intro nodes ps begun aq b hb hl;refine⟨λts r e=>?_,λe=>?_⟩
  ·cases e;rw[jW rfl (by omega)];simp[bC,hk]
  ·cases e
 |succ j ihj=>
  intro nodes ps begun aq b hb hl;have hopen:cX n ⟨nodes,(h,ps) :: begun,aq⟩ =⟨nodes,(h,ps) :: begun,aq⟩:=l5 rfl (by omega);rw[hopen];obtain⟨i1,i2⟩:=ih b ⟨nodes,(h,ps) :: begun,aq⟩ hb (xK rfl);refine⟨λts r e=>?_,λe=>?_⟩
  ·unfold i8 at e;obtain⟨x,hx,e⟩:=dq.mp e;obtain⟨y,hy,e⟩:=bO.mp e;cases e;rw[i1 x.1 x.2 hx];unfold deliver;rw[qb rfl];simp only[hk,false_and,if_false];have hp:(ps++[n+nodes.length+(flat aq (n+nodes.length) x.1).length - 1]).length+j=h.jc:=by simp;omega
   obtain⟨j1,_⟩:=ihj (nodes++flat aq (n+nodes.length) x.1) _ begun aq x.2 (by have:=pX _ _ _ _ _ hx;omega) hp;rw[j1 y.1 y.2 hy];have el:n+(nodes++flat aq (n+nodes.length) x.1).length=n+nodes.length+(flat aq (n+nodes.length) x.1).length:=by simp;omega
   rw[el];simp only[bC,dW,dR,ur,rk,wy]
  ·unfold i8 at e;cases hx:gN f aq.length b with
   |none=>exact i2 hx
   |some x=>
    rw[hx] at e;rw[i1 x.1 x.2 hx];unfold deliver;rw[qb rfl];simp only[hk,false_and,if_false];have hp:(ps++[n+nodes.length+(flat aq (n+nodes.length) x.1).length - 1]).length+j=h.jc:=by simp;omega
    obtain⟨_,j2⟩:=ihj (nodes++flat aq (n+nodes.length) x.1) _ begun aq x.2 (by have:=pX _ _ _ _ _ hx;omega) hp;refine j2 ?_;simpa using e
def Jg(n:Nat):∀(f:Nat)(b:List Nat)(s:jN),b.length<f->¬s.done->
  (∀t r,gN f s.aq.length b=some (t,r)->mq n b s=mq n r (deliver n s t))/\(gN f s.aq.length b=none->MQ (mq n b s)):=by
 intro f
 induction f with
 |zero=>intro b s h;omega
 |succ f ih=>
  intro b s hb hd;cases b with
  |nil=>
   refine⟨λt r e=>?_,λe=>?_⟩
   ·simp[gN,bj] at e
   ·intro s' q;cases q;exact hd
  |cons tok b0=>
  cases e:bj (tok :: b0) with
  |none=>
   refine⟨λt r q=>?_,λ_=>by rw[Ji (by simp) e];exact MQ.none⟩;simp[gN,e] at q
  |some q=>
   obtain⟨h,r⟩:=q;have hl:=eK e;obtain⟨k1,k2,k3,k4⟩:=lG e;rw[GZ e hd];unfold gN;simp only[e];by_cases h1:h.kind=1
   ·simp only[ai h1];unfold fB;rw[ai h1];by_cases hn:h.num<s.aq.length
    ·simp only[ai hn,c6 hn,kL,dz];refine⟨λt r' q=>?_,λq=>by cases q⟩;cases q;rw[jW rfl (by simp[k1 (.inr h1)])];unfold deliver;simp[flat,c6 hn]
    ·simp only[ag hn,jw (Nat.le_of_not_lt hn),Option.map_none,Ao];exact⟨λt r' q=>(by cases q),λ_=>MQ.none⟩
   ·simp only[ag h1];have hb1:fB s h=some { s with begun:=(h,[]) :: s.begun }:=by unfold fB;rw[ag h1]
    rw[hb1];simp only[dz];by_cases h10:h.kind=10
    ·simp only[ai h10];obtain⟨d2,n0⟩:=k2 (.inr h10);rw[l5 rfl (by simp[d2])];obtain⟨i1,i2⟩:=ih r { s with begun:=(h,[]) :: s.begun } (by simp at hl hb;omega) (xK rfl);cases hx:gN f s.aq.length r with
     |none=>
      exact⟨λt r' q=>by simp at q,λ_=>i2 hx⟩
     |some x=>
      have lx:=pX _ _ _ _ _ hx;rw[i1 x.1 x.2 hx];unfold deliver;rw[qb rfl];simp only[h10,rk,fD,and_self,if_true];rw[l5 rfl (by simp[d2])];simp only[dz];have hsl:(s.aq++[n+s.nodes.length+(flat s.aq (n+s.nodes.length) x.1).length - 1]).length=s.aq.length+1:=by simp
      obtain⟨j1,j2⟩:=ih x.2 ⟨s.nodes++flat s.aq (n+s.nodes.length) x.1,(h,[n+s.nodes.length+(flat s.aq (n+s.nodes.length) x.1).length - 1]) :: s.begun,
       s.aq++[n+s.nodes.length+(flat s.aq (n+s.nodes.length) x.1).length - 1]⟩ (by simp at hl hb;omega) (xK rfl)
      simp only[hsl] at j1 j2;refine⟨λt r' q=>?_,λq=>?_⟩
      ·obtain⟨y,hy,q⟩:=bO.mp q;cases q;rw[j1 y.1 y.2 hy];unfold deliver;rw[qb rfl,jW rfl (by simp[d2])];simp[h10,flat,n0,wy];congr 2<;>omega
      ·exact j2 (by simpa using q)
    ·simp only[ag h10];obtain⟨l1,l2⟩:=Ha (f:=f) (n:=n) (h:=h) h10 (λb s hb hd=>ih b s hb hd) h.jc s.nodes [] s.begun s.aq r (by simp at hl hb;omega) (by simp);refine⟨λt r' q=>?_,λq=>l2 (by simpa using q)⟩;obtain⟨x,hx,q⟩:=bO.mp q;cases q;rw[l1 x.1 x.2 hx];unfold deliver;rw[bW h1 h10];simp[wy];congr 2
def Js(e:s.begun=[]):hand n s p=s:=by
 unfold hand handed;rw[e];exact ym e
def iS(b:List Nat)(n:Nat):readBody b n=match gN (b.length+1) n b with
  |some (t,[])=>some (flat (List.range n) n t)
  |_=>none:=by
 have e:readBody b n=(mq n b ⟨[],[],List.range n⟩).bind λs=>if s.nodes=[]\/s.begun≠[] then none else some s.nodes:=by
  unfold readBody mq;cases cW b.length b with
  |none=>rfl
  |some hs=>
   simp only[dz];cases m8 n hs ⟨[],[],List.range n⟩ <;>rfl
 rw[e];obtain⟨h1,h2⟩:=Jg n (b.length+1) b ⟨[],[],List.range n⟩ (kO _) (λh=>h.1 rfl);simp only[wB] at h1 h2;cases hs:gN (b.length+1) n b with
 |none=>
  have hb:=h2 hs;simp only;cases hm:mq n b ⟨[],[],List.range n⟩ with
  |none=>rfl
  |some s'=>
   have hd:=hb s' hm;simp only[dz];rw[ai];unfold jN.done at hd;by_cases q:s'.nodes=[]
   ·exact .inl q
   ·exact .inr λz=>hd ⟨q,z⟩
 |some q=>
  obtain⟨t,r⟩:=q;rw[h1 t r hs];have ed:deliver n ⟨[],[],List.range n⟩ t=⟨flat (List.range n) n t,[],List.range n⟩:=by
   unfold deliver;rw[Js rfl];simp
  rw[ed];have hne:=qd (List.range n) n t (fR _ _ _ _ _ hs);cases r with
  |nil=>simp[Jh,hne]
  |cons x r=>rw[Hb (by simp) ⟨hne,rfl⟩];rfl
def lets:List (Hd×List Nat)->Nat
 | []=>0
 |(h,ps) :: r=>(if h.kind=10/\ps≠[] then 1 else 0)+lets r
structure oC(n:Nat)(s:jN):Prop where
 parts:∀x∈s.begun,x.2.length<=s.nodes.length
 aq:s.aq.length<=n+s.nodes.length
 lets:lets s.begun<=s.aq.length
 jc:∀x∈s.begun,x.1.kind=10->x.1.jc=2
def oC.begin(R:oC n s)(hd:h.kind=10->h.jc=2)(e:fB s h=some s'):oC n s':=by
 have key:∀h':Hd,h'.kind=h.kind->h'.jc=h.jc->oC n { s with begun:=(h',[]) :: s.begun }:=by
  intro h' hk hdue;refine⟨λx hx=>?_,R.aq, ?_,λx hx hk10=>?_⟩
  ·rcases bp.mp hx with rfl |hx
   ·simp
   ·exact R.parts x hx
  ·have:=R.lets;simp[Wh.lets,this]
  ·rcases bp.mp hx with rfl |hx
   ·rw[hdue];exact hd (by rw[<- hk];exact hk10)
   ·exact R.jc x hx hk10
 unfold fB at e;split at e
 ·rename_i h1;obtain⟨p,_,e⟩:=bO.mp e;subst e;exact key _ h1.symm rfl
 ·cases e;exact key _ rfl rfl
theorem oC.handed(R:oC n s)(hs:s.aq.length+1<=n+s.nodes.length)(hp:∀x∈s.begun,x.2.length+1<=s.nodes.length):oC n (handed s p):=by
 unfold Wh.handed;split
 ·exact R
 ·rename_i h ps rest e;have hpart:=hp (h,ps) (by rw[e];exact cF);have hl:=R.lets;rw[e] at hl;refine⟨λx hx=>?_, ?_, ?_,λx hx hk=>?_⟩
  ·rcases bp.mp hx with rfl |hx
   ·simp;exact hpart
   ·exact R.parts x (by rw[e];exact cZ _ hx)
  ·dsimp only;split
   ·simp;omega
   ·omega
  ·simp only[Wh.lets] at hl⊢;by_cases hk:h.kind=10
   ·by_cases hps:ps=[]
    ·subst hps;simp only[hk,rk,fD,and_self,if_true,dR];simp[hk] at hl⊢;omega
    ·have h1:¬((ps++[p]).length=1):=by
      cases ps with
      |nil=>exact aI rfl hps
      |cons a b=>simp
     have h2:¬(h.kind=10/\(ps++[p]).length=1):=λz=>h1 z.2
     have h3:h.kind=10/\ps++[p]≠[]:=⟨hk,by simp⟩;rw[ag h2,ai h3];rw[ai ⟨hk,hps⟩] at hl;exact hl
   ·rw[ag (λz=>hk z.1)] at hl;rw[ag (λz=>hk z.1),ag (λz=>hk z.1)];exact hl
  ·rcases bp.mp hx with rfl |hx
   ·exact R.jc (h,ps) (by rw[e];exact cF) hk
   ·exact R.jc x (by rw[e];exact cZ _ hx) hk
def oC.end_(R:oC n s)(e:s.begun=(h,ps) :: rest)(hd:ps.length=h.jc):oC n (lO n s)/\(h.kind=10->s.aq≠[]):=by
 have hl:=R.lets;rw[e] at hl;simp only[Wh.lets] at hl;have hpos:h.kind=10->1<=s.aq.length/\Wh.lets rest+1<=s.aq.length:=by
  intro hk;have h2:=R.jc (h,ps) (by rw[e];exact cF) hk;have hne:ps≠[]:=by intro z;rw[z] at hd;simp at hd;dsimp only at h2;omega
  rw[ai ⟨hk,hne⟩] at hl;omega
 refine⟨?_,λhk z=>?_⟩
 ·unfold lO;rw[e];have hr:∀x∈rest,x∈s.begun:=λx hx=>by rw[e];exact cZ _ hx
  apply oC.handed
  ·refine⟨λx hx=>?_, ?_, ?_,λx hx hk=>R.jc x (hr x hx) hk⟩
   ·have:=R.parts x (hr x hx);simp;omega
   ·have:=R.aq;dsimp only;split<;>simp<;>omega
   ·dsimp only;split
    ·rename_i hk;have:=hpos hk;rw[DG];omega
    ·omega
  ·have:=R.aq;dsimp only;split<;>simp<;>omega
  ·intro x hx;have:=R.parts x (hr x hx);simp;omega
 ·have:=(hpos hk).1;rw[z] at this;simp at this
def ub(e:s.begun=(h,ps) :: (h2,ps2) :: rest):
  lO n s=⟨s.nodes++[⟨h.kind,h.num,ps⟩],(h2,ps2++[n+s.nodes.length]) :: rest,if h2.kind=10/\ps2.length=0 then (if h.kind=10 then s.aq.dropLast else s.aq)++[n+s.nodes.length] else if h.kind=10 then s.aq.dropLast else s.aq⟩:=by
 unfold lO handed;rw[e];simp
def ua(e:s.begun=[(h,ps)]):
  lO n s=⟨s.nodes++[⟨h.kind,h.num,ps⟩],[],if h.kind=10 then s.aq.dropLast else s.aq⟩:=by
 unfold lO handed;rw[e]
def JK(n:Nat)(s:jN)(e:s.begun=x :: rest):(lO n s).nodes.length+(lO n s).begun.length=s.nodes.length+s.begun.length:=by
 cases rest with
 |nil=>rw[ua (h:=x.1) (ps:=x.2) e,e];simp
 |cons y r=>rw[ub (h:=x.1) (ps:=x.2) (h2:=y.1) (ps2:=y.2) e,e];simp;omega
noncomputable def ll (ps:Programs) (g:Nat) (ks:List Known):Option Known:=(wordOf ps g).bind λw=>
 if ks.length≠w.params.length then none else if ((ks.zip w.params).all λz=>within ⟨z.1.lo,z.1.hi⟩ z.2)=false then none
 else some ⟨w.out.lo,w.out.hi,depsOf w.deps 0 ks,costs ks+w.cost+1⟩
noncomputable def dy (ps:Programs) (kind num:Nat) (ks:List Known):Option Known:=
 if kind=0 then some ⟨num,num,0,1⟩
 else if kind=9 then match ks with
  | [c,x,y]=>some ⟨min x.lo y.lo,max x.hi y.hi,Nat.lor c.deps (Nat.lor x.deps y.deps),c.cost+max x.cost y.cost+1⟩
  |_=>none
 else if kind=11 then ll ps num ks
 else match ks with
  | [x,y]=>knownBoth kind x y
  |_=>none
mutual
def t6(ps:Programs):List Known->Tr->Option Known
 |env,.node kind num ts=>if kind=1 then (env[num]?).map λx=>⟨x.lo,x.hi,x.deps,1⟩
  else if kind=10 then NM ps env ts
  else (mC ps env ts).bind λks=>dy ps kind num ks
def mC(ps:Programs):List Known->kF->Option (List Known)
 |_,.nil=>some []
 |env,.cons t ts=>(t6 ps env t).bind λk=>(mC ps env ts).map λks=>k :: ks
def NM(ps:Programs):List Known->kF->Option Known
 |_,.nil=>none
 |env,.cons t ts=>(t6 ps env t).bind λk=>(NN ps (env++[k]) ts).map λx=>⟨x.lo,x.hi,x.deps,k.cost+x.cost+1⟩
def NN(ps:Programs):List Known->kF->Option Known
 |_,.nil=>none
 |env,.cons t _=>t6 ps env t
end
def Gf(ps:Programs)(env:List Known)(num:Nat)(ts:kF):t6 ps env (.node 1 num ts)=(env[num]?).map λx=>⟨x.lo,x.hi,x.deps,1⟩:=by
 unfold t6;rw[ai rfl]
def wm(ps:Programs)(env:List Known)(num:Nat)(e x:Tr):t6 ps env (.node 10 num (.cons e (.cons x .nil)))=
  (t6 ps env e).bind λk=>(t6 ps (env++[k]) x).map λy=>⟨y.lo,y.hi,y.deps,k.cost+y.cost+1⟩:=by
 conv=>lhs;unfold t6
 rw[ag (by decide),ai rfl];simp only[NM,NN]
def ug(ps:Programs)(env:List Known)(num:Nat)(ts:kF)(h1:kind≠1)(h10:kind≠10):t6 ps env (.node kind num ts)=(mC ps env ts).bind λks=>dy ps kind num ks:=by
 unfold t6;rw[ag h1,ag h10]
abbrev Small(b:List Nat):Prop:= ∀x∈b,x<ROUND
def iR(e:bj b=some (h,r)):∀x∈r,x∈b:=by
 intro x hx;unfold bj at e;split at e
 ·cases e;simp[hx]
 ·cases e;simp[hx]
 ·cases e;simp[hx]
 ·cases e;simp[hx]
 ·split at e
  ·cases e;simp[hx]
  ·cases e
 ·cases e
theorem C7(hl:∀b t r,look b=some (t,r)->∀x∈r,x∈b):∀(j:Nat)(b:List Nat)(ts:kF)(r:List Nat),i8 look j b=some (ts,r)->∀x∈r,x∈b
 |0,b,ts,r,h=>by cases h;exact λx h=>h
 |j+1,b,ts,r,h=>by
  unfold i8 at h;obtain⟨x,hx,h⟩:=dq.mp h;obtain⟨y,hy,e⟩:=bO.mp h;cases e;exact λz hz=>hl _ _ _ hx z (C7 hl j _ _ _ hy z hz)
theorem ik:∀(f n:Nat)(b:List Nat)(t:Tr)(r:List Nat),gN f n b=some (t,r)->∀x∈r,x∈b
 |0,_,_,_,_,h=>by simp[gN] at h
 |f+1,n,b,t,r,h=>by
  unfold gN at h;split at h
  ·cases h
  ·rename_i hd r0 e;have hs:=iR e;split at h
   ·split at h
    ·cases h;exact hs
    ·cases h
   ·split at h
    ·obtain⟨x,hx,h⟩:=dq.mp h;obtain⟨y,hy,e⟩:=bO.mp h;cases e;exact λz hz=>hs z (ik _ _ _ _ _ hx z (ik _ _ _ _ _ hy z hz))
    ·obtain⟨x,hx,e⟩:=bO.mp h;cases e;exact λz hz=>hs z (C7 (ik f n) _ _ _ _ hx z hz)
theorem A6(ih:∀b,Small b->infer ps f env b=(gN f env.length b).bind λx=>(t6 ps env x.1).map λk=>(k,x.2)):
  ∀(n:Nat)(b:List Nat),Small b->each (infer ps f env) n b=(i8 (gN f env.length) n b).bind λx=>(mC ps env x.1).map λks=>(ks,x.2)
 |0,b,_=>by simp[each,i8,mC]
 |n+1,b,hb=>by
  unfold each i8;rw[ih b hb];cases hx:gN f env.length b with
  |none=>rfl
  |some x=>
   have hb2:Small x.2:=λz hz=>hb z (ik _ _ _ _ _ hx z hz)
   simp only[dz];cases ha:t6 ps env x.1 with
   |none=>
    simp only[Option.map_none,Ao];cases i8 (gN f env.length) n x.2 with
    |none=>rfl
    |some y=>simp[mC,ha]
   |some k=>
    simp only[kL,dz];rw[A6 ih n x.2 hb2];cases i8 (gN f env.length) n x.2 with
    |none=>rfl
    |some y=>
     simp only[dz,kL,mC,ha];cases mC ps env y.1<;>rfl
def GA(e:bj b=some (h,r))(h1:h.kind≠1)(h10:h.kind≠10):gN (f+1) n b=(i8 (gN f n) h.jc r).map λx=>(.node h.kind h.num x.1,x.2):=by
 conv=>lhs;unfold gN
 simp only[e,ag h1,ag h10]
def pZ(ih:∀b,Small b->infer ps f env b=(gN f env.length b).bind λx=>(t6 ps env x.1).map λk=>(k,x.2))
 (e:bj b=some (h,r)) (hb:Small b) (h1:h.kind≠1) (h10:h.kind≠10):
  ((gN (f+1) env.length b).bind λx=>(t6 ps env x.1).map λk=>(k,x.2))=(each (infer ps f env) h.jc r).bind λa=>(dy ps h.kind h.num a.1).map λk=>(k,a.2):=by
 rw[GA e h1 h10,A6 ih h.jc r λz hz=>hb z (iR e z hz)];cases i8 (gN f env.length) h.jc r with
 |none=>rfl
 |some x=>
  simp only[kL,dz,ug ps env h.num x.1 h1 h10];cases mC ps env x.1<;>rfl
def ND:each look 2 b=(look b).bind λx=>(look x.2).map λy=>([x.1,y.1],y.2):=by
 simp only[each];cases look b with
 |none=>rfl
 |some x=>simp only[dz];cases look x.2<;>rfl
def NC:each look 3 b=(look b).bind λx=>(look x.2).bind λy=>(look y.2).map λz=>([x.1,y.1,z.1],z.2):=by
 simp only[each];cases look b with
 |none=>rfl
 |some x=>
  simp only[dz];cases look x.2 with
  |none=>rfl
  |some y=>simp only[dz];cases look y.2<;>rfl
def xU(h:¬(2<=op/\op<=8))(x y:Known):knownBoth op x y=none:=by
 cases e:knownBoth op x y with
 |none=>rfl
 |some z=>exact aI (iY e) h
theorem u6(ps:Programs):∀(f:Nat)(env:List Known)(b:List Nat),Small b->
  infer ps f env b=(gN f env.length b).bind λx=>(t6 ps env x.1).map λk=>(k,x.2)
 |0,env,b,_=>by simp[infer,gN]
 |f+1,env,b,hb=>by
  have ih:=u6 ps f env
  conv=>lhs;unfold infer
  split
  ·rename_i v r;rw[pZ ih (h:=⟨0,v,0⟩) (r:=r) rfl hb (by simp) (by simp),ai (hb v (by simp))];simp[each,dy]
  ·rename_i k r;have e:bj (1 :: k :: r)=some (⟨1,k,0⟩,r):=rfl;simp only[gN,e,if_true];by_cases hk:k<env.length
   ·simp[hk,Gf]
   ·simp[hk,jw (Nat.le_of_not_lt hk)]
  ·rename_i r;rw[pZ ih (h:=⟨9,0,3⟩) (r:=r) rfl hb (by decide) (by decide),NC];cases infer ps f env r with
   |none=>rfl
   |some c=>
    simp only[dz];cases infer ps f env c.2 with
    |none=>rfl
    |some x=>
     simp only[dz];cases infer ps f env x.2 with
     |none=>rfl
     |some y=>simp[dy]
  ·rename_i r;have e:bj (10 :: r)=some (⟨10,0,2⟩,r):=rfl;have hb2:Small r:=λz hz=>hb z (iR e z hz)
   simp only[gN,e];rw[ih r hb2];simp only[ag (show ¬(10=1) by decide),if_true];cases hx:gN f env.length r with
   |none=>rfl
   |some x=>
    have hb3:Small x.2:=λz hz=>hb2 z (ik _ _ _ _ _ hx z hz)
    simp only[dz];cases hk:t6 ps env x.1 with
    |none=>
     simp only[Option.map_none,Ao];cases gN f (env.length+1) x.2 with
     |none=>rfl
     |some y=>simp[wm,hk]
    |some k=>
     simp only[kL,dz];rw[u6 ps f (env++[k]) x.2 hb3];have el:(env++[k]).length=env.length+1:=by simp
     rw[el];cases gN f (env.length+1) x.2 with
     |none=>rfl
     |some y=>
      simp only[dz,kL,wm,hk];cases t6 ps (env++[k]) y.1<;>rfl
  ·rename_i g n r;rw[pZ ih (h:=⟨11,g,n⟩) (r:=r) rfl hb (by simp) (by simp)];simp only[dy,ll];cases hw:wordOf ps g with
   |none=>cases each (infer ps f env) n r<;>simp[hw]
   |some w=>
    simp only[dz];cases he:each (infer ps f env) n r with
    |none=>by_cases hn:n≠w.params.length<;>simp[hn]
    |some a=>
     have hl:=(sR (L:=r.length) (λb k r _=>qa ps f env b k r) (bx _) he).2;simp only[dz,hw,hl];by_cases hn:n≠w.params.length
     ·simp[hn]
     ·simp only[ag hn,dz];split
      ·simp_all
      ·simp_all
  ·rename_i op r n0 n1 n9 n10 n11;by_cases hop:2<=op/\op<=8
   ·have e:bj (op :: r)=some (⟨op,0,2⟩,r):=by
     have hop':op=2\/op=3\/op=4\/op=5\/op=6\/op=7\/op=8:=by omega
     rcases hop' with rfl |rfl |rfl |rfl |rfl |rfl |rfl<;>rfl
    rw[pZ ih e hb (by dsimp only;omega) (by dsimp only;omega),ND];cases infer ps f env r with
    |none=>rfl
    |some x=>
     simp only[dz];cases infer ps f env x.2 with
     |none=>rfl
     |some y=>
      simp only[dz,kL,dy];rw[ag (by omega),ag (by omega),ag (by omega)]
   ·have e:bj (op :: r)=none:=by
     unfold bj;split
     ·rename_i q;cases q;exact aI rfl (λz=>n0 _ _ z rfl)
     ·rename_i q;cases q;exact aI rfl (λz=>n1 _ _ z rfl)
     ·rename_i q;cases q;exact aI rfl n9
     ·rename_i q;cases q;exact aI rfl (λz=>n11 _ _ _ z rfl)
     ·rename_i q;cases q;rw[ag];intro z;exact hop ⟨z.1,by have h9:¬_=9:=n9;have h10:¬_=10:=n10;omega⟩
     ·rename_i q;cases q
    simp only[gN,e,Ao];cases infer ps f env r with
    |none=>rfl
    |some x=>
     simp only[dz];cases infer ps f env x.2 with
     |none=>rfl
     |some y=>simp[xU hop]
  ·rfl
def sJ(ps:Programs)(params:List Bound)(b:Body)(hb:Small b):inferAll ps params b=match gN (b.length+1) params.length b with
  |some (t,[])=>t6 ps (paramsKnown params) t
  |_=>none:=by
 unfold inferAll;rw[u6 ps _ _ _ hb,fH];cases gN (b.length+1) params.length b with
 |none=>rfl
 |some q=>
  obtain⟨t,r⟩:=q;cases r with
  |nil=>simp only[dz];cases t6 ps (paramsKnown params) t<;>rfl
  |cons x r=>simp only[dz];cases t6 ps (paramsKnown params) t<;>rfl
def lK:Known:=⟨0,0,0,0⟩
noncomputable def cD (ps:Programs) (facts:List Known) (nd:Nd):Option Known:=
 if nd.kind=1 then (facts[nd.num]?).map λx=>⟨x.lo,x.hi,x.deps,1⟩
 else if nd.kind=10 then match nd.parts.map (λp=>facts.getD p lK) with
  | [e,b]=>some ⟨b.lo,b.hi,b.deps,e.cost+b.cost+1⟩
  |_=>none
 else dy ps nd.kind nd.num (nd.parts.map λp=>facts.getD p lK)
noncomputable def br (ps:Programs):List Known->List Nd->Option (List Known)
 |facts,[]=>some facts
 |facts,nd :: r=>match cD ps facts nd with
  |none=>none
  |some k=>br ps (facts++[k]) r
structure nG(facts:List Known)(aq:List Nat)(env:List Known):Prop where
 len:aq.length=env.length
 at_:∀(i p:Nat)(k:Known),aq[i]? =some p->env[i]? =some k->∃k',facts[p]? =some k'/\k'.lo=k.lo/\k'.hi=k.hi/\k'.deps=k.deps
def nG.more(h:nG facts aq env)(fs:List Known):nG (facts++fs) aq env:=by
 refine⟨h.len,λi p k h1 h2=>?_⟩;obtain⟨k',e,q⟩:=h.at_ i p k h1 h2;exact⟨k',by rw[kM (dm.mp e).1];exact e,q⟩
def nG.snoc(h:nG facts aq env)(e:facts[p]? =some k):nG facts (aq++[p]) (env++[k]):=by
 refine⟨by simp[h.len],λi q k' h1 h2=>?_⟩;by_cases hi:i<aq.length
 ·rw[kM hi] at h1;rw[kM (by rw[<- h.len];exact hi)] at h2;exact h.at_ i q k' h1 h2
 ·rw[nJ (by omega)] at h1;rw[nJ (by rw[<- h.len];omega),<- h.len] at h2;cases hj:i - aq.length with
  |zero=>rw[hj] at h1 h2;simp at h1 h2;subst h1;subst h2;exact⟨k,e,rfl,rfl,rfl⟩
  |succ j=>rw[hj] at h1;simp at h1
def Bj{facts fs:List Known}{k:Known}(h:fs.getLast? =some k):(facts++fs)[facts.length+fs.length - 1]? =some k:=by
 rw[wx] at h;have hl:fs.length - 1<fs.length:=(dm.mp h).1;rw[nJ (by omega)];rw[show facts.length+fs.length - 1 - facts.length=fs.length - 1 by omega];exact h
theorem Cw{facts:List Known}:∀{ps:List Nat}{ks:List Known},ps.map (λp=>facts[p]?)=ks.map some->ps.map (λp=>facts.getD p lK)=ks
 | [],[],_=>rfl
 | [],_ :: _,h=>by simp at h
 |_ :: _,[],h=>by simp at h
 |p :: ps,k :: ks,h=>by
  simp only[cz,List.cons.injEq] at h⊢;exact⟨by rw[cy,h.1];rfl,Cw h.2⟩
def ia(ps:Programs)(facts:List Known)(nd:Nd)(rest:List Nd):br ps facts (nd :: rest)=(cD ps facts nd).bind λk=>br ps (facts++[k]) rest:=by
 conv=>lhs;unfold br
 cases cD ps facts nd<;>rfl
mutual
theorem qc(ps:Programs):∀(t:Tr)(n:Nat)(facts:List Known)(aq:List Nat)(env:List Known),jj n t->nG facts aq env->env.length=n->
  (t6 ps env t=none->∀rest,br ps facts (flat aq facts.length t++rest)=none)/\
  (∀k,t6 ps env t=some k->∃fs,fs.length=(flat aq facts.length t).length/\fs.getLast? =some k/\∀rest,br ps facts (flat aq facts.length t++rest)=br ps (facts++fs) rest)
 |.node kind num ts,n,facts,aq,env,bP,he,hn=>by
  by_cases h1:kind=1
  ·subst h1;have hnum:num<n:=by
    rcases bP with⟨_,q,_⟩ | ⟨q,_⟩ | ⟨q,_⟩
    ·exact q
    ·exact aI q (by decide)
    ·exact aI rfl q
   rw[Gf,jy];have e1:env[num]? =some env[num]:=c6 (by omega);have hsl:num<aq.length:=by have:=he.len;omega
   have e2:aq[num]? =some aq[num]:=c6 hsl;obtain⟨k',f1,f2,f3,f4⟩:=he.at_ num _ _ e2 e1;refine⟨λq=>(by rw[e1] at q;cases q),λk q=>?_⟩;rw[e1] at q;cases q;refine⟨[⟨k'.lo,k'.hi,k'.deps,1⟩],rfl,by simp[f2,f3,f4],λrest=>?_⟩;show br ps facts (⟨1,aq.getD num 0,[]⟩ :: rest)=_;rw[ia];have:cD ps facts ⟨1,aq.getD num 0,[]⟩ =some ⟨k'.lo,k'.hi,k'.deps,1⟩:=by
    unfold cD;rw[ai rfl,cy,e2];simp[f1]
   rw[this];rfl
  ·by_cases h10:kind=10
   ·subst h10
    rcases bP with⟨q,_⟩ | ⟨_,hnum,q⟩ | ⟨_,q,_⟩
    ·exact aI q (by decide)
    ·match ts,q with
     |.nil,q=>simp[j9] at q
     |.cons _ .nil,q=>simp[j9,mD] at q
     |.cons e (.cons x (.cons _ _)),q=>simp[j9,mD] at q
     |.cons e (.cons x .nil),q=>
      have q1:jj n e:=q.1;have q2:jj (n+1) x:=q.2.1;obtain⟨i1,i2⟩:=qc ps e n facts aq env q1 he hn;rw[wm,ib];cases hk:t6 ps env e with
      |none=>
       refine⟨λ_ rest=>?_,λk z=>by simp at z⟩;rw[dW];exact i1 hk _
      |some ke=>
       obtain⟨fs,l1,l2,l3⟩:=i2 ke hk;have hp:=Bj (facts:=facts) l2;rw[l1] at hp;have he2:=(he.more fs).snoc hp;obtain⟨j1,j2⟩:=qc ps x (n+1) (facts++fs) _ _ q2 he2 (by simp[hn]);have el:(facts++fs).length=facts.length+(flat aq facts.length e).length:=by simp[l1]
       rw[el] at j1 j2;simp only[dz];cases hx:t6 ps (env++[ke]) x with
       |none=>
        refine⟨λ_ rest=>?_,λk z=>by simp at z⟩;rw[dW,l3,dW];exact j1 hx _
       |some kx=>
        obtain⟨gs,m1,m2,m3⟩:=j2 kx hx;refine⟨λz=>by simp at z,λk z=>?_⟩;cases z;refine⟨fs++(gs++[⟨kx.lo,kx.hi,kx.deps,ke.cost+kx.cost+1⟩]),by simp[l1,m1],by simp,λrest=>?_⟩;rw[dW,l3,dW,m3];show br ps (facts++fs++gs) (⟨10,0,_⟩ :: rest)=_;rw[ia];have hp2:=Bj (facts:=facts++fs) m2;rw[el,m1] at hp2;have hp1:(facts++fs++gs)[facts.length+(flat aq facts.length e).length - 1]? =some ke:=by
         rw[kM (dm.mp hp).1];exact hp
        have:cD ps (facts++fs++gs) ⟨10,0,[facts.length+(flat aq facts.length e).length - 1,facts.length+(flat aq facts.length e).length+
          (flat (aq++[facts.length+(flat aq facts.length e).length - 1]) (facts.length+(flat aq facts.length e).length) x).length - 1]⟩ =some ⟨kx.lo,kx.hi,kx.deps,ke.cost+kx.cost+1⟩:=by
         unfold cD;rw[ag (by show ¬(10=1);decide),ai rfl];simp only[cz,uu,cy,hp1,hp2];rfl
        rw[this];simp[dW]
    ·exact aI rfl q
   ·rw[ug ps env num ts h1 h10,bW h1 h10];have hts:o9 n ts:=by
     rcases bP with⟨q,_⟩ | ⟨q,_⟩ | ⟨_,_,_,_,_,_,q⟩
     ·exact aI q h1
     ·exact aI q h10
     ·exact q
    obtain⟨i1,i2⟩:=yg ps ts n facts aq env hts he hn;cases hk:mC ps env ts with
    |none=>
     refine⟨λ_ rest=>?_,λk z=>by simp at z⟩;rw[dW];exact i1 hk _
    |some ks=>
     obtain⟨fs,l1,l2,l3⟩:=i2 ks hk;have hf:cD ps (facts++fs) ⟨kind,num,(bC aq facts.length ts).2⟩ =dy ps kind num ks:=by
      unfold cD;rw[ag h1,ag h10,Cw l2]
     simp only[dz];refine⟨λz rest=>?_,λk z=>⟨fs++[k],by simp[l1],by simp,λrest=>?_⟩⟩
     ·rw[dW,l3];show br ps (facts++fs) (⟨kind,num,_⟩ :: rest)=_;rw[ia,hf,z];rfl
     ·rw[dW,l3];show br ps (facts++fs) (⟨kind,num,_⟩ :: rest)=_;rw[ia,hf,z];simp[dW]
theorem yg(ps:Programs):∀(ts:kF)(n:Nat)(facts:List Known)(aq:List Nat)(env:List Known),o9 n ts->nG facts aq env->env.length=n->
  (mC ps env ts=none->∀rest,br ps facts ((bC aq facts.length ts).1++rest)=none)/\
  (∀ks,mC ps env ts=some ks->∃fs,fs.length=(bC aq facts.length ts).1.length/\(bC aq facts.length ts).2.map (λp=>(facts++fs)[p]?)=ks.map some/\
   ∀rest,br ps facts ((bC aq facts.length ts).1++rest)=br ps (facts++fs) rest)
 |.nil,n,facts,aq,env,_,he,hn=>by
  refine⟨λz=>by simp[mC] at z,λks z=>?_⟩;simp only[mC,Option.some.injEq] at z;subst z;exact⟨[],by simp[bC],by simp[bC],λrest=>by simp[bC]⟩
 |.cons t ts,n,facts,aq,env,bP,he,hn=>by
  obtain⟨i1,i2⟩:=qc ps t n facts aq env bP.1 he hn;simp only[mC,bC];cases hk:t6 ps env t with
  |none=>
   refine⟨λ_ rest=>?_,λk z=>by simp at z⟩;rw[dW];exact i1 hk _
  |some k=>
   obtain⟨fs,l1,l2,l3⟩:=i2 k hk;obtain⟨j1,j2⟩:=yg ps ts n (facts++fs) aq env bP.2 (he.more fs) hn;have el:(facts++fs).length=facts.length+(flat aq facts.length t).length:=by simp[l1]
   rw[el] at j1 j2;simp only[dz];cases hks:mC ps env ts with
   |none=>
    refine⟨λ_ rest=>?_,λk z=>by simp at z⟩;rw[dW,l3];exact j1 hks _
   |some ks=>
    obtain⟨gs,m1,m2,m3⟩:=j2 ks hks;refine⟨λz=>by simp at z,λks' z=>?_⟩;cases z;refine⟨fs++gs,by simp[l1,m1], ?_,λrest=>by rw[dW,l3,m3,dW]⟩;have hp:=Bj (facts:=facts) l2;rw[l1] at hp;rw[cz,cz,<- dW,m2];congr 1;rw[kM (dm.mp hp).1];exact hp
end
def ej(l:List Bound):List Known:=(List.range l.length).map λk=>match l[k]? with
 |some b=>⟨b.lo,b.hi,2 ^ k,1⟩
 |none=>⟨0,0,0,0⟩
def nq(l:List Bound)(i:Nat):(ej l)[i]? =l[i]?.map λb=>⟨b.lo,b.hi,2 ^ i,1⟩:=by
 unfold ej;rw[cU];by_cases h:i<l.length
 ·rw[wA h,c6 h];simp[c6 h]
 ·rw[jw (by simpa using h),jw (by omega)];rfl
def ir(l:List Bound):(ej l).length=l.length:=by simp[ej]
def MJ(l:List Bound):nG (ej l) (List.range l.length) (paramsKnown l):=by
 refine⟨by simp[fH],λi p k h1 h2=>?_⟩;have hi:i<l.length:=by have:=(dm.mp h1).1;simpa using this
 rw[wA hi] at h1;cases h1;rw[nX,c6 hi] at h2;cases h2;exact⟨⟨l[i].lo,l[i].hi,2 ^ i,1⟩,by rw[nq,c6 hi];rfl,rfl,rfl,rfl⟩
def iq(ps:Programs)(params:List Bound)(nodes:Option (List Nd)):Option Known:=match nodes with
 |none=>none
 |some l=>(br ps (ej params) l).bind λfs=>fs.getLast?
def cH(ps:Programs)(params:List Bound)(b:Body)(hb:Small b):iq ps params (readBody b params.length)=inferAll ps params b:=by
 rw[sJ ps params b hb,iS];cases hs:gN (b.length+1) params.length b with
 |none=>rfl
 |some q=>
  obtain⟨t,r⟩:=q;cases r with
  |cons x r=>rfl
  |nil=>
   have bP:=fR _ _ _ _ _ hs;obtain⟨h1,h2⟩:=qc ps t params.length (ej params) (List.range params.length) (paramsKnown params) bP (MJ params) (fH params);rw[ir] at h1 h2;simp only[iq];cases hk:t6 ps (paramsKnown params) t with
   |none=>
    have:=h1 hk [];rw[qw] at this;rw[this];rfl
   |some k=>
    obtain⟨fs,l1,l2,l3⟩:=h2 k hk;have:=l3 [];rw[qw] at this;rw[this];simp only[br,dz];rw[List.getLast?_append,l2];rfl
structure yC(n:Nat)(nd:Nd):Prop where
 kind:nd.kind<=11
 GU:nd.kind=0->nd.num<ROUND
 Mc:nd.kind=1->nd.num<n
 two:(2<=nd.kind/\nd.kind<=8)\/nd.kind=10->nd.parts.length=2
 three:nd.kind=9->nd.parts.length=3
 parts:∀p∈nd.parts,p<n
 few:nd.parts.length<=n
def eQ(n:Nat)(l:List Nd):Prop:= ∀(i:Nat)(nd:Nd),l[i]? =some nd->yC (n+i) nd
def eQ.nil(n:Nat):eQ n []:=λi nd h=>by simp at h
def yC.mono(h:yC n nd)(hm:n<=m):yC m nd:=
 ⟨h.kind,h.GU,λk=>iD (h.Mc k) hm,h.two,h.three,λp hp=>iD (h.parts p hp) hm,eY h.few hm⟩
def eQ.append(h1:eQ n l)(h2:eQ (n+l.length) m):eQ n (l++m):=by
 intro i nd h;by_cases hi:i<l.length
 ·rw[kM hi] at h;exact h1 i nd h
 ·rw[nJ (by omega)] at h;have:=h2 _ nd h;exact this.mono (by omega)
def eQ.one(h:yC n nd):eQ n [nd]:=by
 intro i d e;cases i with
 |zero=>simp at e;subst e;exact h
 |succ i=>simp at e
mutual
def Gg(p:Nat->Nat->Prop):Tr->Prop
 |.node kind num ts=>p kind num/\yy p ts
def yy(p:Nat->Nat->Prop):kF->Prop
 |.nil=>True
 |.cons t ts=>Gg p t/\yy p ts
end
abbrev GU(k n:Nat):Prop:=k=0->n<ROUND
def AE(e:bj b=some (h,r))(hb:Small b):h.num<ROUND:=by
 unfold bj at e;split at e
 ·cases e;exact hb _ (by simp)
 ·cases e;exact hb _ (by simp)
 ·cases e;show 0<ROUND;decide
 ·cases e;exact hb _ (by simp)
 ·split at e
  ·cases e;show 0<ROUND;decide
  ·cases e
 ·cases e
theorem C9(hl:∀b t r,Small b->look b=some (t,r)->Gg p t)(hs:∀b t r,look b=some (t,r)->∀x∈r,x∈b):
  ∀(j:Nat)(b:List Nat)(ts:kF)(r:List Nat),Small b->i8 look j b=some (ts,r)->yy p ts
 |0,b,ts,r,_,h=>by cases h;simp[yy]
 |j+1,b,ts,r,hb,h=>by
  unfold i8 at h;obtain⟨x,hx,h⟩:=dq.mp h;obtain⟨y,hy,e⟩:=bO.mp h;cases e;exact⟨hl _ _ _ hb hx,C9 hl hs j _ _ _ (λz hz=>hb z (hs _ _ _ hx z hz)) hy⟩
theorem vX:∀(f n:Nat)(b:List Nat)(t:Tr)(r:List Nat),Small b->gN f n b=some (t,r)->Gg GU t
 |0,_,_,_,_,_,h=>by simp[gN] at h
 |f+1,n,b,t,r,hb,h=>by
  unfold gN at h;split at h
  ·cases h
  ·rename_i hd r0 e;have hs:Small r0:=λz hz=>hb z (iR e z hz)
   have hn:=AE e hb;split at h
   ·split at h
    ·cases h;exact⟨λz=>(by cases z),trivial⟩
    ·cases h
   ·split at h
    ·obtain⟨x,hx,h⟩:=dq.mp h;obtain⟨y,hy,e⟩:=bO.mp h;cases e;have a1:=vX _ _ _ _ _ hs hx;have a2:=vX _ _ _ _ _ (λz hz=>hs z (ik _ _ _ _ _ hx z hz)) hy;exact⟨λz=>(by cases z),a1,a2,trivial⟩
    ·obtain⟨x,hx,e⟩:=bO.mp h;cases e;exact⟨λ_=>hn,C9 (λb t r hb h=>vX f n b t r hb h) (ik f n) _ _ _ _ hs hx⟩
theorem jY(aq:List Nat):∀(ts:kF)(base:Nat),(bC aq base ts).2.length=ts.len
 |.nil,_=>rfl
 |.cons t ts,base=>by simp only[bC,cR,kF.len];rw[jY aq ts]
theorem A5(aq:List Nat):∀(ts:kF)(n base:Nat),o9 n ts->ts.len<=(bC aq base ts).1.length
 |.nil,_,_,_=>d8 _
 |.cons t ts,n,base,h=>by
  have h1:0<(flat aq base t).length:=zq.mpr (qd aq base t h.1);have h2:=A5 aq ts n (base+(flat aq base t).length) h.2;simp only[bC,kF.len,dR];omega
theorem zI{n:Nat}{look:List Nat->Option (Tr×List Nat)}(hl:∀b t r,look b=some (t,r)->∀aq base,(flat aq base t).length+r.length<=b.length):
  ∀(j:Nat)(b:List Nat)(ts:kF)(r:List Nat),i8 look j b=some (ts,r)->∀aq base,(bC aq base ts).1.length+r.length<=b.length
 |0,b,ts,r,h=>by cases h;intro s b;simp[bC]
 |j+1,b,ts,r,h=>by
  unfold i8 at h;obtain⟨x,hx,h⟩:=dq.mp h;obtain⟨y,hy,e⟩:=bO.mp h;cases e;intro aq base;have a1:=hl _ _ _ hx aq base;have a2:=zI (n:=n) hl j _ _ _ hy aq (base+(flat aq base x.1).length);simp only[bC,dR];omega
theorem oT:∀(f n:Nat)(b:List Nat)(t:Tr)(r:List Nat),gN f n b=some (t,r)->∀aq base,(flat aq base t).length+r.length<=b.length
 |0,_,_,_,_,h=>by simp[gN] at h
 |f+1,n,b,t,r,h=>by
  intro aq base;unfold gN at h;split at h
  ·cases h
  ·rename_i hd r0 e;have hl:=eK e;split at h
   ·split at h
    ·cases h;rw[jy];simp;omega
    ·cases h
   ·rename_i h1;split at h
    ·obtain⟨x,hx,h⟩:=dq.mp h;obtain⟨y,hy,e⟩:=bO.mp h;cases e;rw[ib];have a1:=oT _ _ _ _ _ hx aq base;have a2:=oT _ _ _ _ _ hy (aq++[base+(flat aq base x.1).length - 1]) (base+(flat aq base x.1).length);simp only[dR,fD];omega
    ·rename_i h10;obtain⟨x,hx,e⟩:=bO.mp h;cases e;rw[bW h1 h10];have a1:=zI (n:=n) (oT f n) _ _ _ _ hx aq base;simp only[dR,fD];omega
mutual
theorem mZ:∀(t:Tr)(n:Nat)(aq:List Nat)(base:Nat),jj n t->Gg GU t->aq.length=n->(∀p∈aq,p<base)->eQ base (flat aq base t)
 |.node kind num ts,n,aq,base,bP,hall,hs,hp=>by
  by_cases h1:kind=1
  ·subst h1;rw[jy];have hnum:num<n:=by
    rcases bP with⟨_,q,_⟩ | ⟨q,_⟩ | ⟨q,_⟩
    ·exact q
    ·exact aI q (by decide)
    ·exact aI rfl q
   refine eQ.one ⟨(by show 1<=11;decide),λz=>(by cases z),λ_=>?_,λz=>(by simp at z),λz=>(by simp at z),λp hp=>(by simp at hp),by simp⟩;have hl:num<aq.length:=by omega
   show aq.getD num 0<base;rw[cy,c6 hl];exact hp _ (BU hl)
  ·by_cases h10:kind=10
   ·subst h10
    rcases bP with⟨q,_⟩ | ⟨_,hnum,q⟩ | ⟨_,q,_⟩
    ·exact aI q (by decide)
    ·match ts,q,hall with
     |.nil,q,_=>simp[j9] at q
     |.cons _ .nil,q,_=>simp[j9,mD] at q
     |.cons e (.cons x (.cons _ _)),q,_=>simp[j9,mD] at q
     |.cons e (.cons x .nil),q,hall=>
      have q1:jj n e:=q.1;have q2:jj (n+1) x:=q.2.1;have i1:=mZ e n aq base q1 hall.2.1 hs hp;have he:0<(flat aq base e).length:=zq.mpr (qd aq base e q1);have i2:=mZ x (n+1) (aq++[base+(flat aq base e).length - 1]) (base+(flat aq base e).length) q2 hall.2.2.1 (by simp[hs]) (by
       intro p hpm
       rcases cv.mp hpm with h |h
       ·have:=hp p h;omega
       ·simp at h;omega)
      have hx:0<(flat (aq++[base+(flat aq base e).length - 1]) (base+(flat aq base e).length) x).length:=zq.mpr (qd _ _ x q2);rw[ib];refine i1.append (i2.append (eQ.one ⟨(by show 10<=11;decide),λz=>(by cases z),λz=>(by cases z),λ_=>rfl,λz=>(by cases z),λp hpm=>?_,by simp;omega⟩));simp at hpm
      rcases hpm with h |h<;>omega
    ·exact aI rfl q
   ·rw[bW h1 h10]
    rcases bP with⟨q,_⟩ | ⟨q,_⟩ | ⟨_,_,k11,k0,k2,k9,q⟩
    ·exact aI q h1
    ·exact aI q h10
    ·obtain⟨i1,i2⟩:=v8 ts n aq base q hall.2 hs hp;refine i1.append (eQ.one ⟨k11,hall.1,λz=>aI z h1,λz=>?_,λz=>?_,i2, ?_⟩)
     ·show(bC aq base ts).2.length=2;rw[jY]
      rcases z with z |z
      ·exact k2 z
      ·exact aI z h10
     ·show(bC aq base ts).2.length=3;rw[jY];exact k9 z
     ·show(bC aq base ts).2.length<=_;rw[jY];have:=A5 aq ts n base q;omega
theorem v8:∀(ts:kF)(n:Nat)(aq:List Nat)(base:Nat),o9 n ts->yy GU ts->aq.length=n->(∀p∈aq,p<base)->
  eQ base (bC aq base ts).1/\∀p∈(bC aq base ts).2,p<base+(bC aq base ts).1.length
 |.nil,n,aq,base,_,_,_,_=>by
  simp only[bC];exact⟨eQ.nil _,λp hp=>(by simp at hp)⟩
 |.cons t ts,n,aq,base,bP,hall,hs,hp=>by
  have i1:=mZ t n aq base bP.1 hall.1 hs hp;have ht:0<(flat aq base t).length:=zq.mpr (qd aq base t bP.1);obtain⟨j1,j2⟩:=v8 ts n aq (base+(flat aq base t).length) bP.2 hall.2 hs λp h=>by have:=hp p h;omega
  simp only[bC];refine⟨i1.append j1,λp hpm=>?_⟩
  rcases bp.mp hpm with h |h
  ·rw[h,dR];omega
  ·have:=j2 p h;rw[dR];omega
end
def oW(hb:Small b)(h:readBody b n=some ds):eQ n ds/\ds≠[]/\ds.length<=b.length:=by
 rw[iS] at h;cases hs:gN (b.length+1) n b with
 |none=>rw[hs] at h;cases h
 |some q=>
  obtain⟨t,r⟩:=q;rw[hs] at h;cases r with
  |cons x r=>cases h
  |nil=>
   cases h;have bP:=fR _ _ _ _ _ hs;exact⟨mZ t n (List.range n) n bP (vX _ _ _ _ _ hb hs) (by simp) λp hp=>by simpa using hp,qd _ _ t bP,by have:=oT _ _ _ _ _ hs (List.range n) n;simpa using this⟩
def IY(a b:Nat):(a ||| b=b)↔(a &&& b=a):=by
 constructor
 ·intro h;apply Nat.eq_of_testBit_eq;intro i;have:=congrArg (λx=>Nat.testBit x i) h;simp only[Nat.testBit_or] at this;rw[Nat.testBit_and];cases ha:a.testBit i<;>cases hb:b.testBit i<;>simp_all
 ·intro h;apply Nat.eq_of_testBit_eq;intro i;have:=congrArg (λx=>Nat.testBit x i) h;simp only[Nat.testBit_and] at this;rw[Nat.testBit_or];cases ha:a.testBit i<;>cases hb:b.testBit i<;>simp_all
def Jo(a b:Nat):inSet a b=decide (a ||| b=b):=by
 unfold inSet;by_cases h:a ||| b=b
 ·rw[decide_eq_true h];exact beq_iff_eq.mpr ((IY a b).mp h)
 ·rw[decide_eq_false h];exact beq_eq_false_iff_ne.mpr λz=>h ((IY a b).mpr z)
def bw(ds:List Nd):List Nat:=(ds.filter λd=>d.kind==11).map λd=>d.num
def j0(hs:List Hd):List Nat:=(hs.filter λh=>h.kind==11).map λh=>h.num
def qi(l:List (Hd×List Nat)):List Nat:=j0 (l.map (·.1))
def uU:g∈bw ds↔∃d∈ds,d.kind=11/\d.num=g:=by
 simp[bw,and_assoc]
def iZ(h:Hd)(hs:List Hd):j0 (h :: hs)=(if h.kind=11 then [h.num] else [])++j0 hs:=by
 unfold j0;by_cases e:h.kind=11
 ·simp[e]
 ·simp[e]
def sU(ds:List Nd)(d:Nd):bw (ds++[d])=bw ds++(if d.kind=11 then [d.num] else []):=by
 unfold bw;by_cases e:d.kind=11
 ·simp[BS,e]
 ·simp[BS,e]
def kD(s:jN)(g:Nat):Prop:=g∈bw s.nodes\/g∈qi s.begun
def Dn(e:fB s h=some s')(g:Nat):kD s' g↔(kD s g\/(h.kind=11/\h.num=g)):=by
 unfold fB at e;split at e
 ·rename_i h1;obtain⟨p,_,e⟩:=bO.mp e;subst e;simp only[kD,qi,cz,iZ];simp[h1]
 ·cases e;simp only[kD,qi,cz,iZ,cv];by_cases h11:h.kind=11
  ·simp only[h11,if_true,jd,true_and];constructor
   ·rintro(a |rfl |a)
    ·exact .inl (.inl a)
    ·exact .inr rfl
    ·exact .inl (.inr a)
   ·rintro((a |a) |rfl)
    ·exact .inl a
    ·exact .inr (.inr a)
    ·exact .inr (.inl rfl)
  ·simp[h11]
def Bm(s:jN)(p g:Nat):kD (handed s p) g↔kD s g:=by
 unfold handed;split
 ·exact Iff.rfl
 ·rename_i e;simp only[kD,e,qi,cz]
def EM(n:Nat)(s:jN)(g:Nat):kD (lO n s) g↔kD s g:=by
 unfold lO;split
 ·exact Iff.rfl
 ·rename_i h ps rest e;rw[Bm];simp only[kD,e,sU,qi,cz,iZ,cv];constructor
  ·rintro((a |a) |a)
   ·exact .inl a
   ·exact .inr (.inl a)
   ·exact .inr (.inr a)
  ·rintro(a |a |a)
   ·exact .inl (.inl a)
   ·exact .inl (.inr a)
   ·exact .inr a
theorem yl(n:Nat)(g:Nat):∀(f:Nat)(s:jN),kD (EN n f s) g↔kD s g
 |0,s=>Iff.rfl
 |f+1,s=>by
  unfold EN;split
  ·exact Iff.rfl
  ·split
   ·rw[yl n g f,EM]
   ·exact Iff.rfl
theorem uF(n g:Nat):∀(hs:List Hd)(s s':jN),m8 n hs s=some s'->(kD s' g↔(kD s g\/g∈j0 hs))
 | [],s,s',e=>by cases e;simp[j0]
 |h :: hs,s,s',e=>by
  unfold m8 at e;split at e
  ·cases e
  ·split at e
   ·cases e
   ·rename_i s1 hb;rw[uF n g hs _ s' e];unfold cX;rw[yl,Dn hb,iZ,cv];by_cases h11:h.kind=11
    ·simp only[h11,if_true,jd,true_and,eq_comm (a:=g)];exact or_assoc
    ·simp[h11]
def xo(h:readBody b n=some ds):∃hs,cW b.length b=some hs/\∀g,g∈bw ds↔g∈j0 hs:=by
 unfold readBody at h;split at h
 ·cases h
 ·rename_i hs e;split at h
  ·cases h
  ·rename_i s hr;split at h
   ·cases h
   ·rename_i hno;cases h;refine⟨hs,e,λg=>?_⟩;have:=uF n g hs _ s hr;have hb:s.begun=[]:=Classical.byContradiction λz=>hno (.inr z)
    simp only[kD,hb,qi,uu] at this;simpa[j0,bw] using this
theorem pM:∀(f F:Nat)(b:List Nat)(hs:List Hd),cW f b=some hs->b.length<=f->b.length<F->∀g,g∈calledBy F b↔g∈j0 hs
 |_,0,_,_,_,_,h,_=>by omega
 |0,F+1,b,hs,e,h0,_,g=>by
  have:b=[]:=jv.mp (by omega);subst this;cases e;simp[calledBy,j0]
 |f+1,F+1,b,hs,e,hf,hF,g=>by
  unfold cW at e;split at e
  ·rename_i hb;subst hb;cases e;simp[calledBy,j0]
  ·split at e
   ·cases e
   ·rename_i h r ht;obtain⟨hs',e',rfl⟩:=bO.mp e;have hl:=eK ht;have ih:=pM f F r hs' e' (by omega) (by omega) g;rw[iZ,cv,<- ih];unfold bj at ht;split at ht
    ·cases ht;simp[calledBy]
    ·cases ht;simp[calledBy]
    ·cases ht;simp[calledBy]
    ·cases ht;simp[calledBy]
    ·rename_i op r' n0 n1 n9 n11 nx;split at ht
     ·rename_i hop;simp only[Option.some.injEq,Prod.mk.injEq] at ht;obtain⟨rfl,rfl⟩:=ht;have h11:¬op=11:=by omega
      have e:calledBy (F+1) (op :: r')=calledBy F r':=by
       conv=>lhs;unfold calledBy
       split
       ·rename_i q;cases q;omega
       ·rename_i q;cases q;omega
       ·rename_i q;cases q;omega
       ·rename_i q;cases q;rfl
       ·rename_i q;cases q
      rw[e];simp[h11]
     ·cases ht
    ·cases ht
def yu(h:readBody b n=some ds)(g:Nat):(calledBy (b.length+1) b).contains g=true↔g∈bw ds:=by
 obtain⟨hs,e,q⟩:=xo h;rw[q,List.contains_iff_mem];exact pM _ _ _ _ e (bx _) (kO _) g
def Bs(h:nd.kind=11->wordOf ps' nd.num=wordOf ps nd.num):cD ps' facts nd=cD ps facts nd:=by
 unfold cD dy;by_cases h11:nd.kind=11
 ·simp only[h11,ll,h h11]
 ·simp only[h11,if_false]
theorem o6:∀(ds:List Nd)(facts:List Known),(∀d∈ds,d.kind=11->wordOf ps' d.num=wordOf ps d.num)->br ps' facts ds=br ps facts ds
 | [],_,_=>rfl
 |d :: ds,facts,h=>by
  rw[ia,ia,Bs (h d cF)];cases cD ps facts d with
  |none=>rfl
  |some k=>exact o6 ds _ λx hx=>h x (cZ _ hx)
def yV(h:∀g∈bw ds,wordOf ps' g=wordOf ps g):iq ps' params (some ds)=iq ps params (some ds):=by
 simp only[iq];rw[o6 ds _ λd hd h11=>h d.num (uU.mpr ⟨d,hd,h11,rfl⟩)]
theorem o5:∀(ds:List Nd)(facts fs:List Known),br ps facts ds=some fs->∀d∈ds,d.kind=11->∃w,wordOf ps d.num=some w
 | [],_,_,_=>λd hd=>by simp at hd
 |x :: ds,facts,fs,h=>by
  rw[ia] at h;obtain⟨k,hk,h⟩:=dq.mp h;intro d hd h11
  rcases bp.mp hd with rfl |hd
  ·unfold cD dy at hk;simp only[h11] at hk;simp only[ll,show ¬(11=1) by decide,show ¬(11=10) by decide,show ¬(11=0) by decide,show ¬(11=9) by decide,if_false,if_true] at hk;obtain⟨w,hw,_⟩:=dq.mp hk;exact⟨w,hw⟩
  ·exact o5 ds _ _ h d hd h11
def CP(hb:Small v.body)(hr:readBody v.body v.word.params.length=some ds)(hk:keeps ps v=true):∀g∈bw ds,∃w,wordOf ps g=some w:=by
 intro g hg;unfold keeps at hk;rw[<- cH ps _ _ hb,hr] at hk;simp only[iq] at hk;cases hf:br ps (ej v.word.params) ds with
 |none=>rw[hf] at hk;simp at hk
 |some fs=>
  obtain⟨d,hd,h11,rfl⟩:=uU.mp hg;exact o5 ds _ _ hf d hd h11
def xV(hb:Small v.body)(hk:keeps ps v=true):∃ds,readBody v.body v.word.params.length=some ds:=by
 unfold keeps at hk;rw[<- cH ps _ _ hb] at hk;cases hr:readBody v.body v.word.params.length with
 |none=>rw[hr] at hk;simp[iq] at hk
 |some ds=>exact⟨ds,rfl⟩
def pB(hb:Small v.body)(hr:readBody v.body v.word.params.length=some ds)(h:∀g∈bw ds,wordOf ps' g=wordOf ps g):keeps ps' v=keeps ps v:=by
 unfold keeps;rw[<- cH ps _ _ hb,<- cH ps' _ _ hb,hr,yV h]
def j8(a b:List Nd):bw (a++b)=bw a++bw b:=by simp[bw,BS]
def pK(d:Nd):bw [d]=if d.kind=11 then [d.num] else []:=by
 unfold bw;by_cases e:d.kind=11
 ·simp[e]
 ·simp[e]
theorem A8:∀{l:List Known}{x:Known},x∈l->x.cost<=costs l
 |y :: l,x,h=>by
  rw[r9]
  rcases bp.mp h with rfl |h
  ·omega
  ·have:=A8 h;omega
def sZ(h:dy ps 11 num ks=some k):∃w,wordOf ps num=some w/\w.cost<k.cost/\∀x∈ks,x.cost<k.cost:=by
 unfold dy ll at h;simp only[show ¬(11=0) by decide,show ¬(11=9) by decide,if_false,if_true] at h;obtain⟨w,hw,h⟩:=dq.mp h;split at h
 ·cases h
 ·split at h
  ·cases h
  ·cases h;refine⟨w,hw, ?_,λx hx=>?_⟩
   ·show w.cost<costs ks+w.cost+1;omega
   ·have:=A8 hx;show x.cost<costs ks+w.cost+1;omega
def BK(h0:kind=0->ks=[])(h:dy ps kind num ks=some k):∀x∈ks,x.cost<k.cost:=by
 by_cases e0:kind=0
 ·intro x hx;rw[h0 e0] at hx;simp at hx
 by_cases e11:kind=11
 ·subst e11;obtain⟨_,_,_,q⟩:=sZ h;exact q
 unfold dy at h;rw[ag e0] at h;by_cases e9:kind=9
 ·rw[ai e9] at h;split at h
  ·cases h;intro x hx;simp only[bp,qv,or_false] at hx
   rcases hx with rfl |rfl |rfl
   ·show x.cost<_+_+1;omega
   ·show x.cost<_+max x.cost _+1;omega
   ·show x.cost<_+max _ x.cost+1;omega
  ·cases h
 ·rw[ag e9,ag e11] at h;split at h
  ·have:=pA h;intro x hx;simp only[bp,qv,or_false] at hx
   rcases hx with rfl |rfl<;>omega
  ·cases h
def K4(h:mC ps env ts=some ks)(h0:ts.len=0):ks=[]:=by
 match ts,h,h0 with
 |.nil,h,_=>unfold mC at h;cases h;rfl
mutual
theorem qj(ps:Programs)(g:Nat):∀(t:Tr)(n:Nat)(env:List Known)(aq:List Nat)(base:Nat)(k:Known),jj n t->t6 ps env t=some k->g∈bw (flat aq base t)->∃w,wordOf ps g=some w/\w.cost<k.cost
 |.node kind num ts,n,env,aq,base,k,bP,ha,hg=>by
  by_cases h1:kind=1
  ·subst h1;rw[jy,pK] at hg;simp at hg
  ·by_cases h10:kind=10
   ·subst h10
    rcases bP with⟨q,_⟩ | ⟨_,hnum,q⟩ | ⟨_,q,_⟩
    ·exact aI q (by decide)
    ·match ts,q,ha,hg with
     |.nil,q,_,_=>simp[j9] at q
     |.cons _ .nil,q,_,_=>simp[j9,mD] at q
     |.cons e (.cons x (.cons _ _)),q,_,_=>simp[j9,mD] at q
     |.cons e (.cons x .nil),q,ha,hg=>
      have q1:jj n e:=q.1;have q2:jj (n+1) x:=q.2.1;rw[wm] at ha;obtain⟨ke,he,ha⟩:=dq.mp ha;obtain⟨kx,hx,ha⟩:=bO.mp ha;subst ha;rw[ib,j8,j8,pK] at hg;simp only[cv] at hg
      rcases hg with a |a |a
      ·obtain⟨w,w1,w2⟩:=qj ps g e n env _ _ ke q1 he a;exact⟨w,w1,by show w.cost<ke.cost+kx.cost+1;omega⟩
      ·obtain⟨w,w1,w2⟩:=qj ps g x (n+1) _ _ _ kx q2 hx a;exact⟨w,w1,by show w.cost<ke.cost+kx.cost+1;omega⟩
      ·simp at a
    ·exact aI rfl q
   ·rcases bP with⟨q,_⟩ | ⟨q,_⟩ | ⟨_,_,_,q0,_,_,q⟩
    ·exact aI q h1
    ·exact aI q h10
    ·rw[ug ps env num ts h1 h10] at ha;obtain⟨ks,hks,ha⟩:=dq.mp ha;have hc:=BK (λe=>K4 hks (q0 e)) ha;rw[bW h1 h10,j8,pK,cv] at hg
     rcases hg with a |a
     ·obtain⟨w,w1,x,hx,w2⟩:=yx ps g ts n env _ _ ks q hks a;exact⟨w,w1,by have:=hc x hx;omega⟩
     ·by_cases h11:kind=11
      ·subst h11;simp only[if_true,jd] at a;subst a;obtain⟨w,w1,w2,_⟩:=sZ ha;exact⟨w,w1,w2⟩
      ·simp[h11] at a
theorem yx(ps:Programs)(g:Nat):∀(ts:kF)(n:Nat)(env:List Known)(aq:List Nat)(base:Nat)(ks:List Known),o9 n ts->mC ps env ts=some ks->g∈bw (bC aq base ts).1->∃w,wordOf ps g=some w/\∃x∈ks,w.cost<x.cost
 |.nil,_,_,_,_,_,_,_,hg=>by simp[bC,bw] at hg
 |.cons t ts,n,env,aq,base,ks,bP,ha,hg=>by
  unfold mC at ha;obtain⟨k,hk,ha⟩:=dq.mp ha;obtain⟨kr,hkr,ha⟩:=bO.mp ha;subst ha;unfold bC at hg;simp only[j8,cv] at hg
  rcases hg with a |a
  ·obtain⟨w,w1,w2⟩:=qj ps g t n env _ _ k bP.1 hk a;exact⟨w,w1,k,cF,w2⟩
  ·obtain⟨w,w1,x,hx,w2⟩:=yx ps g ts n env _ _ kr bP.2 hkr a;exact⟨w,w1,x,cZ _ hx,w2⟩
end
def CS(hb:Small v.body)(hr:readBody v.body v.word.params.length=some ds)(hk:keeps ps v=true):∀g∈bw ds,∃w,wordOf ps g=some w/\w.cost<v.word.cost:=by
 intro g hg;unfold keeps at hk;rw[sJ ps _ _ hb] at hk;rw[iS] at hr;cases hs:gN (v.body.length+1) v.word.params.length v.body with
 |none=>rw[hs] at hr;cases hr
 |some q=>
  obtain⟨t,r⟩:=q;rw[hs] at hr hk;cases r with
  |cons x r=>cases hr
  |nil=>
   cases hr;dsimp only at hk;cases ha:t6 ps (paramsKnown v.word.params) t with
   |none=>rw[ha] at hk;cases hk
   |some k=>
    rw[ha] at hk;simp only[i6,decide_eq_true_eq] at hk;obtain⟨w,w1,w2⟩:=qj ps g t _ _ _ _ k (fR _ _ _ _ _ hs) ha hg;exact⟨w,w1,by omega⟩
def KJ(hv:version ps f=some v)(hb:Small v.body)(hr:readBody v.body v.word.params.length=some ds)(hk:keeps ps v=true):f∉bw ds:=by
 intro hf;obtain⟨w,w1,w2⟩:=CS hb hr hk f hf;simp[wordOf,hv] at w1;subst w1;omega
structure ML(v:Version):Prop where
 word:goodWord v.word=true
 small:Small v.body
 len:v.body.length<=200
structure OS(p:Program):Prop where
 owner:p.owner<16
 one:p.versions≠[]
 JM:p.versions.length<=8
 Gu:∀v∈p.versions,ML v
structure cE(ps:Programs):Prop where
 len:ps.length=16
 prog:∀f p,program ps f=some p->OS p
 keep:∀f v,version ps f=some v->keeps ps v=true
def iy(h:program ps f=some p):f<ps.length:=by
 unfold program at h;rw[cy] at h;by_cases e:f<ps.length
 ·exact e
 ·rw[jw (by omega)] at h;cases h
def cw(h:version ps f=some v):∃p,program ps f=some p/\p.versions.head? =some v:=by
 unfold version at h;split at h
 ·rename_i p e;exact⟨p,e,h⟩
 ·cases h
def cE.lt(P:cE ps)(h:program ps f=some p):f<16:=by
 have:=iy h;have:=P.len;omega
def cE.wX(P:cE ps)(h:version ps f=some v):ML v:=by
 obtain⟨p,e,hh⟩:=cw h;exact(P.prog f p e).Gu v (List.mem_of_mem_head? (by rw[hh];rfl))
def cE.NX(P:cE ps)(h:version ps f=some v):f<16:=by
 obtain⟨p,e,hh⟩:=cw h;exact P.lt e
def cE.sound(P:cE ps):Sound ps:=⟨λg v h=>⟨P.NX h,P.keep g v h,(P.wX h).len⟩⟩
def cE.there(P:cE ps)(h:program ps f=some p):∃v,version ps f=some v:=by
 have:=(P.prog f p h).one;unfold version;rw[h];cases e:p.versions with
 |nil=>exact aI e this
 |cons v r=>exact⟨v,by simp[e]⟩
def cE.read(P:cE ps)(h:version ps f=some v):∃ds,readBody v.body v.word.params.length=some ds:=
 xV (P.wX h).small (P.keep f v h)
def cE.q5(P:cE ps)(hu:version ps g=some u)(hr:readBody u.body u.word.params.length=some ds)(f:Nat):f∈calls ps g↔f∈bw ds:=by
 unfold calls;rw[hu];simp only[rn,zy,yu hr];constructor
 ·exact λh=>h.2
 ·intro h;obtain⟨w,hw⟩:=CP (P.wX hu).small hr (P.keep g u hu) f h;obtain⟨x,hx,_⟩:=gy hw;exact⟨P.NX hx,h⟩
def cE.pk(P:cE ps)(g f:Nat):g∈callers ps f↔∃u ds,version ps g=some u/\readBody u.body u.word.params.length=some ds/\f∈bw ds:=by
 unfold callers;simp only[rn,zy,List.contains_iff_mem];constructor
 ·rintro⟨h1,h2⟩;cases hu:version ps g with
  |none=>unfold calls at h2;rw[hu] at h2;simp at h2
  |some u=>
   obtain⟨ds,hr⟩:=P.read hu;exact⟨u,ds,rfl,hr,(P.q5 hu hr f).mp h2⟩
 ·intro z0;obtain⟨u,ds,hu,hr,h⟩:=z0;exact⟨P.NX hu,(P.q5 hu hr f).mpr h⟩
def cE.xJ(P:cE ps)(f:Nat):f∉callers ps f:=by
 intro h;obtain⟨u,ds,hu,hr,hf⟩:=(P.pk f f).mp h;exact KJ hu (P.wX hu).small hr (P.keep f u hu) hf
def cB(hf:f<ps.length)(o:Option Program)(g:Nat):program (ps.set f o) g=if g=f then o else program ps g:=by
 unfold program;rw[cy,List.getElem?_set,cy];by_cases e:f=g
 ·subst e;simp[hf]
 ·rw[ag e,ag (λz=>e z.symm)]
def gz(hf:f<ps.length)(o:Option Program)(h:g≠f):version (ps.set f o) g=version ps g:=by
 unfold version;rw[cB hf,ag h]
def dX{ps:Programs}{f:Nat}(hf:f<ps.length)(o:Option Program):version (ps.set f o) f=o.bind λp=>p.versions.head?:=by
 unfold version;rw[cB hf,ai rfl];cases o<;>rfl
def lD(hf:f<ps.length)(o:Option Program)(h:g≠f):wordOf (ps.set f o) g=wordOf ps g:=by
 unfold wordOf;rw[gz hf o h]
def cE.frame(P:cE ps)(hf:f<16)(o:Option Program)(hu:version ps g=some u)(hn:g∉callers ps f):keeps (ps.set f o) u=true:=by
 obtain⟨ds,hr⟩:=P.read hu;have hl:f<ps.length:=by have:=P.len;omega
 rw[pB (P.wX hu).small hr (λx hx=>lD hl o ?_)]
 ·exact P.keep g u hu
 ·rintro rfl;exact hn ((P.pk g x).mpr ⟨u,ds,hu,hr,hx⟩)
def vj:allKeep ps=true↔∀f v,f<16->version ps f=some v->keeps ps v=true:=by
 unfold allKeep;rw[je];constructor
 ·intro h f v hf hv;have:=h f (by simpa[PROGRAMS] using hf);rw[hv] at this;exact this
 ·intro h f hf;have hf:f<16:=by simpa[PROGRAMS] using hf
  cases hv:version ps f with
  |none=>rfl
  |some v=>exact h f v hf hv
def cE.vR(P:cE ps)(hf:f<16)(hv:version (ps.set f o) f=some v)(hk:keeps (ps.set f o) v=true):
  allKeep (ps.set f o)=true↔∀g∈callers ps f,∀u,version ps g=some u->keeps (ps.set f o) u=true:=by
 have hl:f<ps.length:=by have:=P.len;omega
 rw[vj];constructor
 ·intro h g hg u hu;have hne:g≠f:=by rintro rfl;exact P.xJ g hg
  exact h g u (P.NX hu) (by rw[gz hl o hne];exact hu)
 ·intro h g u hg hu;by_cases e:g=f
  ·subst e;rw[hv] at hu;cases hu;exact hk
  ·rw[gz hl o e] at hu;by_cases hc:g∈callers ps f
   ·exact h g hc u hu
   ·exact P.frame hf o hu hc
def cE.put(P:cE ps)(hf:f<16)(hp:OS p)(ha:allKeep (ps.set f (some p))=true):cE (ps.set f (some p)):=by
 have hl:f<ps.length:=by have:=P.len;omega
 refine⟨by rw[rl];exact P.len,λg q h=>?_,λg v h=>?_⟩
 ·rw[cB hl] at h;split at h
  ·cases h;exact hp
  ·exact P.prog g q h
 ·have hg:g<16:=by
   obtain⟨q,e,_⟩:=cw h;have:=iy e;rw[rl,P.len] at this;exact this
  exact vj.mp ha g v hg h
def cE.drop(P:cE ps)(hf:f<16)(hc:callers ps f=[]):cE (ps.set f none):=by
 have hl:f<ps.length:=by have:=P.len;omega
 refine⟨by rw[rl];exact P.len,λg q h=>?_,λg v h=>?_⟩
 ·rw[cB hl] at h;split at h
  ·cases h
  ·exact P.prog g q h
 ·by_cases e:g=f
  ·subst e;rw[dX hl] at h;cases h
  ·rw[gz hl _ e] at h;exact P.frame hf none h (by rw[hc];simp)
def cE.give(P:cE ps)(hp:program ps f=some p)(ht:t<16):cE (ps.set f (some { p with owner:=t })):=by
 have hf:=P.lt hp;have hl:f<ps.length:=by have:=P.len;omega
 have hv:∀g,version (ps.set f (some { p with owner:=t })) g=version ps g:=by
  intro g;by_cases e:g=f
  ·subst e;rw[dX hl];unfold version;rw[hp];rfl
  ·exact gz hl _ e
 have:=P.prog f p hp;refine⟨by rw[rl];exact P.len,λg q h=>?_,λg v h=>?_⟩
 ·rw[cB hl] at h;split at h
  ·cases h;exact⟨ht,this.one,this.JM,this.Gu⟩
  ·exact P.prog g q h
 ·rw[hv] at h;obtain⟨ds,hr⟩:=P.read h;rw[pB (ps:=ps) (P.wX h).small hr λx _=>by unfold wordOf;rw[hv]];exact P.keep g v h
def cE.empty:cE (List.replicate PROGRAMS none):=by
 have h:∀f,program (List.replicate PROGRAMS none) f=none:=by
  intro f;unfold program;rw[cy,Ax];split<;>rfl
 refine⟨by simp[PROGRAMS],λf p e=>?_,λf v e=>?_⟩
 ·rw[h] at e;cases e
 ·unfold version at e;rw[h] at e;cases e
def MN:From->Prop
 |.nobody=>True
 |.put w=>w<16
 |.run w f v ks=>w<16/\f<16/\v<8/\(∀k∈ks,k<32)/\ks.length<=4
structure nH(c:Cell):Prop where
 lo:c.bound.lo<=c.value
 hi:c.value<=c.bound.hi
 top:c.bound.hi<ROUND
 mask:c.mask<=MASK
 OP:MN c.from_
structure Gm(e:Entry):Prop where
 what:e.what<=3
 who:e.who<16
 f:e.f<16
structure i5(h:House):Prop where
 ps:cE h.programs
 nc:h.cells.length=32
 cells:∀k,nH (cell h k)
 log:h.log.length<=128
 ent:∀e∈h.log,Gm e
def nH.zero:nH ⟨0,⟨0,0⟩,MASK,.nobody⟩:=⟨bx _,bx _,by show 0<4294967296;decide,bx _,trivial⟩
def nH.none:nH ⟨0,⟨0,0⟩,0,.nobody⟩:=⟨bx _,bx _,by show 0<4294967296;decide,d8 _,trivial⟩
theorem i5.empty:i5 empty:=by
 refine⟨cE.empty,by simp[eB,CELLS],λk=>?_,by simp[eB],λe h=>by simp[eB] at h⟩;unfold cell eB;dsimp only;rw[cy,Ax];split
 ·exact nH.zero
 ·exact nH.none
def JU(hk:k<h.cells.length)(c:Cell)(j:Nat):cell { h with cells:=h.cells.set k c } j=if j=k then c else cell h j:=by
 unfold cell;dsimp only;rw[cy,List.getElem?_set,cy];by_cases e:k=j
 ·subst e;simp[hk]
 ·rw[ag e,ag (λz=>e z.symm)]
def i5.setCell(H:i5 h)(hk:k<32)(hc:nH c):i5 { h with cells:=h.cells.set k c }:=by
 refine⟨H.ps,by show(h.cells.set k c).length=32;rw[rl];exact H.nc,λj=>?_,H.log,H.ent⟩;rw[JU (by have:=H.nc;omega)];split
 ·exact hc
 ·exact H.cells j
theorem i5.note{h:House}(H:i5 h){ps:Programs}(P:cE ps)(hf:full h=false){what w f:Nat}(e:Gm ⟨what,w,f⟩):i5 (note h what w f ps):=by
 have hl:h.log.length<128:=zo (of_decide_eq_false hf);refine⟨P,H.nc,H.cells, ?_, ?_⟩
 ·show(h.log++[_]).length<=128;rw[dR];show h.log.length+1<=128;omega
 ·intro x hx
  rcases cv.mp hx with a |a
  ·exact H.ent x a
  ·rw[jd] at a;subst a;exact e
def AB(H:i5 h)(hb:Small b)(e:telling h w f wd b=(n,some ps)):
  cE ps/\full h=false/\w<16/\f<16:=by
 unfold telling at e;split at e
 ·cases e
 ·rename_i h22;have h22':w<16/\f<16/\goodWord wd=true/\b.length<=200:=by
   simp only[PEOPLE,PROGRAMS,TOKENS,not_or,zm,wt,An] at h22;exact h22
  obtain⟨hw,hf,hg,hl⟩:=h22';dsimp only at e;have key:∀old:Program,(∀v∈old.versions,ML v)->old.owner<16->
    ((if old.owner≠w then ((-1:Int),(none:Option Programs)) else if VERSIONS<=old.versions.length\/full h=true then (-28,none) else
     match version (h.programs.set f (some ⟨w,⟨wd,b⟩ :: old.versions⟩)) f with
     |some v=>if keeps (h.programs.set f (some ⟨w,⟨wd,b⟩ :: old.versions⟩)) v=false then (-33,none) else if allKeep (h.programs.set f (some ⟨w,⟨wd,b⟩ :: old.versions⟩))=false then (-17,none) else ((old.versions.length:Int),some (h.programs.set f (some ⟨w,⟨wd,b⟩ :: old.versions⟩)))
     |none=>(-33,none))=(n,some ps))->cE ps/\full h=false/\w<16/\f<16:=by
   intro old ho hw' e;split at e
   ·cases e
   ·split at e
    ·cases e
    ·rename_i h28;have h28':old.versions.length<8/\full h=false:=by simpa[VERSIONS] using h28
     split at e
     ·split at e
      ·cases e
      ·split at e
       ·cases e
       ·rename_i hk;cases e;refine⟨H.ps.put hf ⟨hw,by simp,by simp only[cR];omega,λv hv=>?_⟩ (by simpa using hk),h28'.2,hw,hf⟩
        rcases bp.mp hv with rfl |hv
        ·exact⟨hg,hb,hl⟩
        ·exact ho v hv
     ·cases e
  cases hp:program h.programs f with
  |none=>rw[hp] at e;exact key ⟨w,[]⟩ (by simp) hw e
  |some p=>rw[hp] at e;exact key p (H.ps.prog f p hp).Gu (H.ps.prog f p hp).owner e
theorem i5.run(H:i5 h)(hv:version h.programs f=some v)(hl:a.length=v.word.params.length)
  (ha:((a.zip v.word.params).all λz=>decide (z.2.lo<=z.1)&&decide (z.1<=z.2.hi))=true):
  ∃x s,runOf h.programs f a=some (x,s)/\Kp212.run h.programs DEEP a v.body=some (x,s,[])/\v.word.out.lo<=x/\x<=v.word.out.hi/\s<=v.word.cost:=by
 refine Cp H.ps.sound hv hl λi b x hb hx=>?_
 have:=je.mp ha (x,b) (List.mem_iff_getElem?.mpr ⟨i,by rw[wz];exact⟨hx,hb⟩⟩);simpa using this
def i5.xn{h:House}(H:i5 h){f:Nat}{v:Version}(hv:version h.programs f=some v){ks:List Nat}(hl:ks.length=v.word.params.length)
  (ha:((ks.zip v.word.params).all λz=>within (cell h z.1).bound z.2)=true):
  ∃x s,runOf h.programs f (ks.map λk=>(cell h k).value)=some (x,s)/\Kp212.run h.programs DEEP (ks.map λk=>(cell h k).value) v.body=some (x,s,[])/\v.word.out.lo<=x/\x<=v.word.out.hi/\s<=v.word.cost:=by
 refine Cp H.ps.sound hv (by simpa using hl) λi b x hb hx=>?_
 rw[cU] at hx;obtain⟨k,hk,rfl⟩:=bO.mp hx;have:=je.mp ha (k,b) (List.mem_iff_getElem?.mpr ⟨i,by rw[wz];exact⟨hk,hb⟩⟩);simp only[within,i6,decide_eq_true_eq] at this;have hc:=H.cells k;have:=hc.lo;have:=hc.hi;omega
def cJ:goodWord w=true↔w.params.length<=4/\(∀b∈w.params,b.lo<=b.hi/\b.hi<ROUND)/\w.out.lo<=w.out.hi/\w.out.hi<ROUND/\w.deps<2 ^ w.params.length/\w.cost<=20000:=by
 simp only[goodWord,goodBound,i6,decide_eq_true_eq,je];constructor
 ·intro z0;obtain⟨a,b,⟨c,d⟩,e,f⟩:=z0;exact⟨a,b,c,d,e,f⟩
 ·intro z0;obtain⟨a,b,c,d,e,f⟩:=z0;exact⟨a,b,⟨c,d⟩,e,f⟩
theorem zW(h:House)(deps:Nat):∀(i:Nat)(l:List Nat),maskOf h deps i l<=MASK
 |_,[]=>bx _
 |i,k :: l=>by
  unfold maskOf;have:=zW h deps (i+1) l;exact eY Nat.and_le_right this
def K6:Call->Prop
 |.define _ _ _ b=>Small b
 |.would _ _ _ b=>Small b
 |_=>True
def Ob:State->Prop
 |none=>True
 |some h=>i5 h
def tI(H:i5 h)(hg:∀p,program h.programs f=some p->p.owner=w->Ob (g p).1):Ob (theirs h w f g).1:=by
 unfold theirs;split
 ·exact H
 ·rename_i p e;split
  ·exact H
  ·rename_i ho;exact hg p e (Classical.byContradiction ho)
def Kg(S:Ob s)(hc:K6 c):Ob (step s c).1:=by
 cases s with
 |none=>cases c<;>first |exact i5.empty |trivial
 |some h=>
  have H:i5 h:=S;cases c with
  |begin_=>exact i5.empty
  |define w f wd b=>
   unfold step;dsimp only;split
   ·rename_i n ps e;obtain⟨P,hf,hw,hf'⟩:=AB H hc e;exact H.note P hf ⟨(by show 1<=3;decide),hw,hf'⟩
   ·exact H
  |would w f wd b=>exact H
  |drop w f=>
   refine tI H λp hp ho=>?_
   have hf:=H.ps.lt hp;split
   ·exact H
   ·rename_i hfull;split
    ·exact H
    ·rename_i hcal;have hcal':callers h.programs f=[]:=by simpa using hcal
     exact H.note (H.ps.drop hf hcal') (by simpa using hfull) ⟨(by show 2<=3;decide),(by show w<16;rw[<- ho];exact(H.ps.prog f p hp).owner),hf⟩
  |back w f=>
   refine tI H λp hp ho=>?_
   have hf:=H.ps.lt hp;have hl:f<h.programs.length:=by have:=H.ps.len;omega
   have hpo:=H.ps.prog f p hp;split
   ·rename_i x r e;split
    ·exact H
    ·rename_i hr;split
     ·exact H
     ·rename_i hfull;dsimp only;split
      ·split
       ·exact H
       ·split
        ·exact H
        ·rename_i hk;refine H.note (H.ps.put (p:= { p with versions:=r }) hf ⟨hpo.owner, ?_, ?_,λv hv=>hpo.Gu v ?_⟩ (by simpa using hk)) (by simpa using hfull) ⟨(by show 3<=3;decide),(by show w<16;rw[<- ho];exact hpo.owner),hf⟩
         ·intro z;rw[show r=[] from z] at hr;exact hr rfl
         ·have:=hpo.JM;rw[e] at this;simp only[cR] at this;show r.length<=8;omega
         ·rw[e];exact cZ _ hv
      ·exact H
   ·exact H
  |give w f t=>
   refine tI H λp hp ho=>?_
   split
   ·exact H
   ·rename_i ht;exact⟨H.ps.give hp (zo ht),H.nc,H.cells,H.log,H.ent⟩
  |infer l b=>exact H
  |word f=>exact H
  |body f=>exact H
  |calls f=>exact H
  |callers f=>exact H
  |versions f=>exact H
  |eval f a=>exact H
  |put w k lo hi v m=>
   unfold step;dsimp only;split
   ·exact H
   ·rename_i h22;simp only[not_or,zm,wt,An] at h22;obtain⟨a,b,c,d,e,f⟩:=h22;have hi':hi<ROUND:=by
     simp only[goodBound,i6,decide_eq_true_eq] at c;exact c.2
    exact H.setCell b ⟨d,e,hi',f,a⟩
  |run w f t ks=>
   unfold step;dsimp only;split
   ·exact H
   ·rename_i h22;simp only[not_or,zm,Bool.not_eq_true] at h22;obtain⟨hw,ht,hks⟩:=h22;split
    ·exact H
    ·rename_i v hv;split
     ·exact H
     ·rename_i hlen;have hlen:ks.length=v.word.params.length:=Classical.byContradiction hlen;split
      ·exact H
      ·split
       ·exact H
       ·rename_i hwi;obtain⟨x,s,r1,_,r2,r3,_⟩:=H.xn hv hlen (by simpa using hwi);obtain⟨p,hp,_⟩:=cw hv;rw[r1,hp];dsimp only;have gw:=cJ.mp (H.ps.wX hv).word;have hpo:=H.ps.prog f p hp;refine H.setCell ht ⟨r2,r3,gw.2.2.2.1,zW _ _ _ _,hw,H.ps.lt hp, ?_, ?_, ?_⟩
        ·have:=hpo.JM;show p.versions.length - 1<8;omega
        ·intro k hk;have:=List.any_eq_false.mp hks k hk;exact(by simpa using this:k<CELLS)
        ·have:=gw.1;omega
  |narrow w k m=>
   unfold step;dsimp only;split
   ·exact H
   ·rename_i h22;simp only[not_or,zm,wt] at h22;split
    ·exact H
    ·have c:=H.cells k;exact H.setCell h22.1 ⟨c.lo,c.hi,c.top,eY Nat.and_le_left c.mask,c.OP⟩
  |clear w k=>
   unfold step;dsimp only;split
   ·exact H
   ·rename_i h22;split
    ·exact H
    ·exact H.setCell (zo h22) nH.zero
  |read w k=>exact H
  |seen k=>exact H
  |how k=>exact H
  |log k=>exact H
  |many=>exact H
end Wh
namespace Wh
def diteEq [Decidable p](h:∀x,a x=c)(k:∀x,b x=c):dite p a b=c:=if q:p then (dif_pos q).trans (h q) else (dif_neg q).trans (k q)
def HY:∀(c:List (List Int)),tF c=c
 | []=>rfl
 | [] :: _=>rfl
 |(x :: t) :: r=>by
  unfold tF PyKp212.whole.match_1
  delta PyKp212.whole._sparseCasesOn_1
  dsimp only
  repeat (refine diteEq (λh=>?_) (λ_=>?_);(· subst h;(iterate 7 ((all_goals try rfl);(all_goals try rcases t with _ | ⟨_,t⟩)));(iterate 3 ((all_goals try rfl);(all_goals try rcases r with _ | ⟨_,r⟩)));all_goals rfl))
  rfl
def yr(l:List Int):PyKp212.calls l=PyFlat.calls eA l.length l:=by
 unfold PyKp212.calls;cases PyFlat.calls eA l.length l with
 |none=>rfl
 |some cs=>
  have:tF=id:=funext HY;simp[this]
def drop_cons{l:List Int}{e:Nat}{n:Int}{r:List Int}(h:l.drop e=n :: r):l[e]? =some n/\r=l.drop (e+1)/\e<l.length:=by
 have hlt:e<l.length:=by
  refine zo λz=>?_
  rw[List.drop_of_length_le z] at h;cases h
 rw[zk hlt] at h;injection h with h1 h2
 exact⟨by rw[c6 hlt,h1],h2.symm,hlt⟩
inductive ui(l:List Int):Nat->List (List Int)->Nat->Prop
 |nil (e:Nat):ui l e [] e
 |cons {e n:Nat} {xs:List (List Int)} {e':Nat}:l[e]? =some (n:Int)->e+1+n<=l.length->ui l (e+1+n) xs e'->ui l e ((l.drop (e+1)).take n :: xs) e'
theorem Fm{l:List Int}:∀(k e:Nat)(xs:List (List Int))(t:List Int),PyFlat.rows k (l.drop e)=some (xs,t)->∃e',ui l e xs e'/\t=l.drop e'/\xs.length=k
 |0,e,xs,t,h=>by
  unfold PyFlat.rows at h;cases h;exact⟨e,.nil e,rfl,rfl⟩
 |k+1,e,xs,t,h=>by
  unfold PyFlat.rows at h;split at h
  ·cases h
  ·rename_i x s hr;unfold PyFlat.row at hr;split at hr
   ·cases hr
   ·rename_i n r hd;obtain⟨d1,d2,d3⟩:=drop_cons hd;split at hr
    ·rename_i hn;cases hr;split at h
     ·cases h
     ·rename_i ys u hk;cases h;have hn2:n=(n.toNat:Int):=by omega
      have hs:r.drop n.toNat=l.drop (e+1+n.toNat):=by rw[d2,Am]
      have hle:e+1+n.toNat<=l.length:=by
       have:=hn.2;rw[d2,uw] at this;omega
      rw[hs] at hk;obtain⟨e',i1,i2,i3⟩:=Fm k _ ys _ hk;refine⟨e', ?_,i2,by simp[i3]⟩;rw[d2];exact .cons (by rw[<- hn2];exact d1) hle i1
    ·cases hr
structure Fc(l:List Int)(a:Nat)(c:List (List Int))(e:Nat):Prop where
 ex:∃p n k xs,l[a]? =some p/\eA p=some (n,k)/\a+1+n<=l.length/\ui l (a+1+n) xs e/\xs.length=k/\c=(p :: (l.drop (a+1)).take n) :: xs
def La{l:List Int}{a:Nat}{c:List (List Int)}{t:List Int}(h:PyFlat.call eA (l.drop a)=some (c,t)):∃e,Fc l a c e/\t=l.drop e:=by
 unfold PyFlat.call at h;split at h
 ·cases h
 ·rename_i p r hd;obtain⟨d1,d2,d3⟩:=drop_cons hd;split at h
  ·cases h
  ·rename_i n k hs;split at h
   ·cases h
   ·rename_i hn;split at h
    ·cases h
    ·rename_i xs u hr;cases h;rw[d2,Am] at hr;rw[d2,uw] at hn;obtain⟨e,i1,i2,i3⟩:=Fm k _ xs _ hr;exact⟨e,⟨p,n,k,xs,d1,hs,by omega,i1,i3,by rw[d2]⟩,i2⟩
def Calls(l:List Int)(a:Nat)(cs:List (List (List Int))):Prop:= ∃f,PyFlat.calls eA f (l.drop a)=some cs
def Calls.step(h:Calls l a cs):(l.length<=a/\cs=[])\/(a<l.length/\∃c r e,cs=c :: r/\Fc l a c e/\Calls l e r):=by
 obtain⟨f,h⟩:=h;by_cases ha:a<l.length
 ·right;refine⟨ha, ?_⟩;have hd:=zk ha;rw[hd] at h;cases f with
  |zero=>unfold PyFlat.calls at h;cases h
  |succ f=>
   unfold PyFlat.calls at h;split at h
   ·cases h
   ·rename_i c t hc;rw[<- hd] at hc;split at h
    ·cases h
    ·rename_i r hr;cases h;obtain⟨e,i1,i2⟩:=La hc;rw[i2] at hr;exact⟨c,r,e,rfl,i1,f,hr⟩
 ·left;rw[List.drop_of_length_le (by omega)] at h;refine⟨by omega, ?_⟩;cases f with
  |zero=>unfold PyFlat.calls at h;cases h;rfl
  |succ f=>unfold PyFlat.calls at h;cases h;rfl
def j4(s:Kp212.State)(cs:List (List (List Int))):List Int:=PyFlat.told (PyFlat.played lT s cs)
def L7(s:Kp212.State):j4 s []=[]:=rfl
def yo(s:Kp212.State)(c:List (List Int))(r:List (List (List Int))):j4 s (c :: r)=(((lT s c).2.length:Int) :: (lT s c).2)++j4 (lT s c).1 r:=by
 unfold j4;rw[PyFlat.played];simp[PyFlat.told]
def F6(h:iO l=true):∃cs,Calls l 0 cs/\cs.length<=300/\qI cs=true/\(∀c∈cs,qJ c=true)/\oM l=j4 none cs:=by
 unfold iO at h;rw[yr] at h;cases hc:PyFlat.calls eA l.length l with
 |none=>rw[hc] at h;cases h
 |some cs=>
  rw[hc] at h;simp only[Kp212Neutral.asked,PyFlat.atMost,i6,decide_eq_true_eq,je] at h;refine⟨cs,⟨l.length,by rw[List.drop_zero];exact hc⟩,h.1,h.2.1,h.2.2.2, ?_⟩;unfold oM;rw[yr,hc];rfl
def GB(e:s=some h):∃h',(aX s c).1=some h':=by
 subst e;cases hs:(aX (some h) c).1 with
 |some h'=>exact⟨h',rfl⟩
 |none=>
  exfalso;revert hs;unfold aX;cases c<;>dsimp only[mK,bB]<;>repeat' split
  all_goals simp
theorem yq:∀(f:Nat)(l:List Int)(i:Nat),l.length<=f->(mJ 2 f l)[i]? =if 2 * i<l.length then some ((l.drop (2 * i)).take 2) else none
 |0,l,i,h=>by
  have:l=[]:=jv.mp (by omega);subst this;simp[mJ]
 |f+1,l,i,h=>by
  unfold mJ;cases l with
  |nil=>simp
  |cons a l=>
   rw[ag (by simp)];cases i with
   |zero=>simp
   |succ i=>
    rw[Aq,yq f _ i (by simp only[uw,cR] at h⊢;omega),Am,uw];rw[show 2+2 * i=2 * (i+1) by omega];by_cases hi:2 * (i+1)<(a :: l).length
    ·rw[ai hi,ai (by omega)]
    ·rw[ag hi,ag (by omega)]
def rf(h:r.length % 2=0)(i:Nat):(k8 r)[i]? =if i<r.length / 2 then some ⟨(r.getD (2 * i) 0).toNat,(r.getD (2 * i+1) 0).toNat⟩ else none:=by
 unfold k8 Kp212Neutral.chunks;rw[cU,yq _ _ _ (bx _)];by_cases hi:i<r.length / 2
 ·have h1:2 * i<r.length:=by omega
  rw[ai h1,ai hi];simp only[kL,cy,List.getElem?_take,DC];simp
 ·rw[ag (by omega),ag hi];rfl
def z6(h:r.length % 2=0):(k8 r).length=r.length / 2:=by
 have h1:=rf h (r.length / 2);rw[ag (by omega)] at h1;have h2:=List.getElem?_eq_none_iff.mp h1;refine Nat.le_antisymm h2 (Nat.le_of_not_lt λz=>?_);have h3:=rf h (k8 r).length;rw[ai z,jw (bx _)] at h3;cases h3
def El(h:kP m b=true):Small (gq b)/\(gq b).length<=m/\(gq b).map (λn=>((n:Nat):Int))=b:=by
 simp only[kP,uy,i6,decide_eq_true_eq,je] at h;unfold gq;refine⟨λx hx=>?_,by rw[bD];exact h.1, ?_⟩
 ·obtain⟨z,hz,rfl⟩:=fg.mp hx;have:=h.2 z hz;show z.toNat<4294967296;omega
 ·rw[zj]
  conv=>rhs;rw[<- List.map_id b]
  refine zi λz hz=>?_
  have:=h.2 z hz;show((z.toNat:Nat):Int)=z;omega
end Wh
namespace Wh
open Kp212
abbrev gj(n:Nat):Int:=(n:Int)
inductive yz(l:List Nat):Nat->List (List Nat)->Nat->Prop
 |nil (e:Nat):yz l e [] e
 |cons {e n:Nat} {xs:List (List Nat)} {e':Nat}:l[e]? =some n->e+1+n<=l.length->yz l (e+1+n) xs e'->yz l e ((l.drop (e+1)).take n :: xs) e'
def ID(h:ui L e xs e'):∀{l:List Nat},L=l.map gj->∃ys,yz l e ys e'/\xs=ys.map λr=>r.map gj:=by
 induction h with
 |nil e=>intro l _;exact⟨[],.nil e,rfl⟩
 | @cons e n xs e' h1 h2 _ ih=>
  intro l hL;subst hL;obtain⟨ys,i1,i2⟩:=ih rfl;rw[cU] at h1;obtain⟨m,hm,hmn⟩:=bO.mp h1;have:m=n:=by unfold gj at hmn;omega
  subst this;refine⟨_,.cons hm (by simpa using h2) i1, ?_⟩;rw[i2];simp
structure Gn(l:List Nat)(a:Nat)(kind:Nat)(nums:List Nat)(rows:List (List Nat))(e:Nat):Prop where
 Nq:l[a]? =some kind
 shape:eA (kind:Int)=some (nums.length,rows.length)
 le:a+1+nums.length<=l.length
 Nj:nums=(l.drop (a+1)).take nums.length
 Lo:yz l (a+1+nums.length) rows e
def JV(h:Fc (l.map gj) a c e):∃kind nums rows,Gn l a kind nums rows e/\c=((kind :: nums).map gj) :: rows.map λr=>r.map gj:=by
 obtain⟨p,n,k,xs,h1,h2,h3,h4,h5,h6⟩:=h.ex;rw[cU] at h1;obtain⟨kind,hk,rfl⟩:=bO.mp h1;obtain⟨ys,i1,i2⟩:=ID h4 rfl;rw[bD] at h3;have hl:((l.drop (a+1)).take n).length=n:=by rw[nL,uw];omega
 refine⟨kind,(l.drop (a+1)).take n,ys,⟨hk, ?_,by rw[hl];exact h3,by rw[hl],by rw[hl];exact i1⟩, ?_⟩
 ·rw[hl,h2,<- h5,i2,bD]
 ·rw[h6,i2];simp
def Gn.lt(h:Gn l a kind nums rows e):a<e/\e<=l.length:=by
 have:∀{e e':Nat}{ys:List (List Nat)},yz l e ys e'->e<=l.length->e<=e'/\e'<=l.length:=by
  intro e e' ys h
  induction h with
  |nil=>exact λhe=>⟨bx _,he⟩
  |cons h1 h2 _ ih=>intro _;obtain⟨a,b⟩:=ih h2;exact⟨by omega,b⟩
 obtain⟨i1,i2⟩:=this h.Lo h.le;exact⟨by omega,i2⟩
def tH:List Nat:=[0,6,6,2,2,3,0,1,1,1,1,1,1,6,3,3,2,2,1,1,1,0]
def uE:List Nat:=[0,2,2,0,0,0,2,0,0,0,0,0,1,0,1,0,0,0,0,0,0,0]
def xl{kind n k:Nat}(h:eA (kind:Int)=some (n,k)):kind<22/\tH[kind]? =some n/\uE[kind]? =some k:=by
 have hk:kind<22:=by
  refine zo λz=>?_
  unfold eA at h
  repeat rw[ag (by omega)] at h
  cases h
 refine⟨hk, ?_⟩;have:∀i:Fin 22,∃a b,eA ((i.val:Nat):Int)=some (a,b)/\tH[i.val]? =some a/\uE[i.val]? =some b:=by
  have key:∀i:Fin 22,eA ((i.val:Nat):Int)=some (tH.getD i.val 0,uE.getD i.val 0)/\tH[i.val]? =some (tH.getD i.val 0)/\uE[i.val]? =some (uE.getD i.val 0):=by decide
  exact λi=>⟨_,_,key i⟩
 obtain⟨a,b,i1,i2,i3⟩:=this ⟨kind,hk⟩;dsimp only at i1 i2 i3;rw[h] at i1;cases i1;exact⟨i2,i3⟩
def cq(r:List Nat):List Bound:=k8 (r.map gj)
def Dj(h:r.length % 2=0)(i:Nat):(cq r)[i]? =if i<r.length / 2 then some ⟨r.getD (2 * i) 0,r.getD (2 * i+1) 0⟩ else none:=by
 unfold cq;rw[rf (by rw[bD];exact h),bD];by_cases hi:i<r.length / 2
 ·rw[ai hi,ai hi];have g:∀j,((r.map gj).getD j 0).toNat=r.getD j 0:=λj=>by
   rw[cy,cU,cy];cases r[j]? <;>simp[gj]
  rw[g,g]
 ·rw[ag hi,ag hi]
def gJ(h:r.length % 2=0):(cq r).length=r.length / 2:=by
 unfold cq;rw[z6 (by rw[bD];exact h),bD]
inductive dC:Nat->List Nat->List (List Nat)->Call->Prop
 |begin_:dC 0 [] [] .begin_
 |define {w f lo hi d c:Nat} {r b:List Nat}:r.length % 2=0->r.length<=20->Small b->b.length<=300->dC 1 [w,f,lo,hi,d,c] [r,b] (.define w f ⟨cq r,⟨lo,hi⟩,d,c⟩ b)
 |would {w f lo hi d c:Nat} {r b:List Nat}:r.length % 2=0->r.length<=20->Small b->b.length<=300->dC 2 [w,f,lo,hi,d,c] [r,b] (.would w f ⟨cq r,⟨lo,hi⟩,d,c⟩ b)
 |drop {w f:Nat}:dC 3 [w,f] [] (.drop w f)
 |back {w f:Nat}:dC 4 [w,f] [] (.back w f)
 |give {w f t:Nat}:dC 5 [w,f,t] [] (.give w f t)
 |infer {r b:List Nat}:r.length % 2=0->r.length<=20->Small b->b.length<=300->dC 6 [] [r,b] (.infer (cq r) b)
 |word {f:Nat}:dC 7 [f] [] (.word f)
 |body {f:Nat}:dC 8 [f] [] (.body f)
 |calls {f:Nat}:dC 9 [f] [] (.calls f)
 |callers {f:Nat}:dC 10 [f] [] (.callers f)
 |versions {f:Nat}:dC 11 [f] [] (.versions f)
 |eval {f:Nat} {a:List Nat}:Small a->a.length<=10->dC 12 [f] [a] (.eval f a)
 |put {w k lo hi v m:Nat}:hi<ROUND->dC 13 [w,k,lo,hi,v,m] [] (.put w k lo hi v m)
 |run {w f t:Nat} {a:List Nat}:Small a->a.length<=10->dC 14 [w,f,t] [a] (.run w f t a)
 |narrow {w k m:Nat}:dC 15 [w,k,m] [] (.narrow w k m)
 |clear {w k:Nat}:dC 16 [w,k] [] (.clear w k)
 |read {w k:Nat}:dC 17 [w,k] [] (.read w k)
 |seen {k:Nat}:dC 18 [k] [] (.seen k)
 |how {k:Nat}:dC 19 [k] [] (.how k)
 |log {k:Nat}:dC 20 [k] [] (.log k)
 |many:dC 21 [] [] .many
def mi(b:List Nat):gq (b.map gj)=b:=by
 unfold gq;rw[zj]
 conv=>rhs;rw[<- List.map_id b]
 exact zi λn _=>by simp[gj]
def qe(h:kP m (b.map gj)=true):Small b/\b.length<=m:=by
 obtain⟨h1,h2,_⟩:=El h;rw[mi] at h1 h2;exact⟨h1,h2⟩
def tQ{r:List Nat}(h:lU (r.map gj)=true):r.length % 2=0/\r.length<=20:=by
 unfold lU at h;simp only[i6,decide_eq_true_eq] at h;rw[bD] at h;exact⟨h.1,(qe h.2).2⟩
def len0(h:l.length=0):l=[]:=jv.mp h
def KP(h:l.length=1):∃a,l=[a]:=List.length_eq_one_iff.mp h
def KO(h:l.length=2):∃a b,l=[a,b]:=by
 match l,h with
 | [a,b],_=>exact⟨a,b,rfl⟩
def Ov(h:l.length=3):∃a b c,l=[a,b,c]:=by
 match l,h with
 | [a,b,c],_=>exact⟨a,b,c,rfl⟩
def Ou(h:l.length=6):∃a b c d e f,l=[a,b,c,d,e,f]:=by
 match l,h with
 | [a,b,c,d,e,f],_=>exact⟨a,b,c,d,e,f,rfl⟩
def K2{kind:Nat}{nums:List Nat}{rows:List (List Nat)}(hs:eA (kind:Int)=some (nums.length,rows.length))(ha:qJ (((kind :: nums).map gj) :: rows.map λr=>r.map gj)=true):
  ∃cl,wQ (((kind :: nums).map gj) :: rows.map λr=>r.map gj)=some cl/\dC kind nums rows cl:=by
 obtain⟨hk,hn,hr⟩:=xl hs;have ex:∀i,i<22->i=0\/i=1\/i=2\/i=3\/i=4\/i=5\/i=6\/i=7\/i=8\/i=9\/i=10\/i=11\/i=12\/i=13\/i=14\/i=15\/i=16\/i=17\/i=18\/i=19\/i=20\/i=21:=λi h=>by omega
 have word:∀{w f lo hi d c:Nat}{r:List Nat},mI (gj lo) (gj hi) (gj d) (gj c) (r.map gj)=⟨cq r,⟨lo,hi⟩,d,c⟩:=by
  intro w f lo hi d c r;unfold mI cq;simp[gj]
 rcases ex kind hk with rfl |rfl |rfl |rfl |rfl |rfl |rfl |rfl |rfl |rfl |rfl |rfl |rfl |rfl |rfl |rfl |rfl |rfl |rfl |rfl |rfl |rfl
 all_goals
  have hn:=(Option.some.inj hn).symm;have hr:=(Option.some.inj hr).symm
  first
  |obtain rfl:=len0 hn
  |obtain⟨x0,rfl⟩:=KP hn
  |obtain⟨x0,x1,rfl⟩:=KO hn
  |obtain⟨x0,x1,x2,rfl⟩:=Ov hn
  |obtain⟨x0,x1,x2,x3,x4,x5,rfl⟩:=Ou hn
  first
  |obtain rfl:=len0 hr
  |obtain⟨r0,rfl⟩:=KP hr
  |obtain⟨r0,r1,rfl⟩:=KO hr
 ·exact⟨.begin_,rfl,.begin_⟩
 ·have ha:(oH [gj x0,gj x1,gj x2,gj x3,gj x4,gj x5]&&(lU (r0.map gj)&&kP 300 (r1.map gj)))=true:=ha;simp only[i6] at ha;obtain⟨p1,p2⟩:=tQ ha.2.1;obtain⟨p3,p4⟩:=qe ha.2.2;refine⟨.define x0 x1 ⟨cq r0,⟨x2,x3⟩,x4,x5⟩ r1, ?_,.define p1 p2 p3 p4⟩;show some (Call.define x0 x1 (mI (gj x2) (gj x3) (gj x4) (gj x5) (r0.map gj)) (gq (r1.map gj)))=_;rw[word (w:=0) (f:=0),mi]
 ·have ha:(oH [gj x0,gj x1,gj x2,gj x3,gj x4,gj x5]&&(lU (r0.map gj)&&kP 300 (r1.map gj)))=true:=ha;simp only[i6] at ha;obtain⟨p1,p2⟩:=tQ ha.2.1;obtain⟨p3,p4⟩:=qe ha.2.2;refine⟨.would x0 x1 ⟨cq r0,⟨x2,x3⟩,x4,x5⟩ r1, ?_,.would p1 p2 p3 p4⟩;show some (Call.would x0 x1 (mI (gj x2) (gj x3) (gj x4) (gj x5) (r0.map gj)) (gq (r1.map gj)))=_;rw[word (w:=0) (f:=0),mi]
 ·exact⟨.drop x0 x1,rfl,.drop⟩
 ·exact⟨.back x0 x1,rfl,.back⟩
 ·exact⟨.give x0 x1 x2,rfl,.give⟩
 ·have ha:(lU (r0.map gj)&&kP 300 (r1.map gj))=true:=ha;simp only[i6] at ha;obtain⟨p1,p2⟩:=tQ ha.1;obtain⟨p3,p4⟩:=qe ha.2;refine⟨.infer (cq r0) r1, ?_,.infer p1 p2 p3 p4⟩;show some (Call.infer (cq r0) (gq (r1.map gj)))=_;rw[mi]
 ·exact⟨.word x0,rfl,.word⟩
 ·exact⟨.body x0,rfl,.body⟩
 ·exact⟨.calls x0,rfl,.calls⟩
 ·exact⟨.callers x0,rfl,.callers⟩
 ·exact⟨.versions x0,rfl,.versions⟩
 ·have ha:(oH [gj x0]&&kP 10 (r0.map gj))=true:=ha;simp only[i6] at ha;obtain⟨p3,p4⟩:=qe ha.2;refine⟨.eval x0 r0, ?_,.eval p3 p4⟩;show some (Call.eval x0 (gq (r0.map gj)))=_;rw[mi]
 ·have ha:oH [gj x0,gj x1,gj x2,gj x3,gj x4,gj x5]=true:=ha;refine⟨.put x0 x1 x2 x3 x4 x5,rfl,.put ?_⟩;have:=je.mp ha (gj x3) (by simp);unfold uy gj at this;simp only[i6,decide_eq_true_eq] at this;show x3<4294967296;omega
 ·have ha:(oH [gj x0,gj x1,gj x2]&&kP 10 (r0.map gj))=true:=ha;simp only[i6] at ha;obtain⟨p3,p4⟩:=qe ha.2;refine⟨.run x0 x1 x2 r0, ?_,.run p3 p4⟩;show some (Call.run x0 x1 x2 (gq (r0.map gj)))=_;rw[mi]
 ·exact⟨.narrow x0 x1 x2,rfl,.narrow⟩
 ·exact⟨.clear x0 x1,rfl,.clear⟩
 ·exact⟨.read x0 x1,rfl,.read⟩
 ·exact⟨.seen x0,rfl,.seen⟩
 ·exact⟨.how x0,rfl,.how⟩
 ·exact⟨.log x0,rfl,.log⟩
 ·exact⟨.many,rfl,.many⟩
mutual
def sz:Tr->Nat
 |.node _ _ ts=>oq ts+1
def oq:kF->Nat
 |.nil=>0
 |.cons t ts=>sz t+oq ts
end
def kd(t:Tr):0<sz t:=by cases t;simp[sz]
def Og:kF->Nat
 |.nil=>0
 |.cons t _=>sz t
mutual
theorem f7:∀(t:Tr)(n:Nat)(aq:List Nat)(base:Nat),jj n t->(flat aq base t).length=sz t
 |.node kind num ts,n,aq,base,bP=>by
  by_cases h1:kind=1
  ·subst h1
   rcases bP with⟨_,_,q⟩ | ⟨q,_⟩ | ⟨q,_⟩
   ·subst q;rw[jy];rfl
   ·exact aI q (by decide)
   ·exact aI rfl q
  ·by_cases h10:kind=10
   ·subst h10
    rcases bP with⟨q,_⟩ | ⟨_,hnum,q⟩ | ⟨_,q,_⟩
    ·exact aI q (by decide)
    ·match ts,q with
     |.nil,q=>simp[j9] at q
     |.cons _ .nil,q=>simp[j9,mD] at q
     |.cons e (.cons x (.cons _ _)),q=>simp[j9,mD] at q
     |.cons e (.cons x .nil),q=>
      have q1:jj n e:=q.1;have q2:jj (n+1) x:=q.2.1;rw[ib];simp only[dR,fD,sz,oq];rw[f7 e n aq base q1,f7 x (n+1) _ _ q2];omega
    ·exact aI rfl q
   ·rw[bW h1 h10]
    rcases bP with⟨q,_⟩ | ⟨q,_⟩ | ⟨_,_,_,_,_,_,q⟩
    ·exact aI q h1
    ·exact aI q h10
    ·simp only[dR,fD,sz];rw[sP ts n aq base q]
theorem sP:∀(ts:kF)(n:Nat)(aq:List Nat)(base:Nat),o9 n ts->(bC aq base ts).1.length=oq ts
 |.nil,_,_,_,_=>rfl
 |.cons t ts,n,aq,base,h=>by
  simp only[bC,dR,oq];rw[f7 t n aq base h.1,sP ts n aq _ h.2]
end
mutual
def fW(base:Nat):Tr->List (Nat×Nat)
 |.node kind _ ts=>if kind=9 then GP base ts else oA base ts
def oA(base:Nat):kF->List (Nat×Nat)
 |.nil=>[]
 |.cons t ts=>(fW base t++[(base+sz t,base+sz t)])++oA (base+sz t) ts
def GP(base:Nat):kF->List (Nat×Nat)
 |.nil=>[]
 |.cons c ts=>(fW base c++[(base+sz c,base+sz c+Og ts)])++CA (base+sz c+oq ts) (base+sz c) ts
def CA(place base:Nat):kF->List (Nat×Nat)
 |.nil=>[]
 |.cons a ts=>(fW base a++[(place,place)])++oA (base+sz a) ts
end
mutual
theorem dA:∀(t:Tr)(base:Nat),(fW base t).length+1=sz t
 |.node kind _ ts,base=>by
  simp only[fW,sz];split
  ·rw[IZ ts base]
  ·rw[mf ts base]
theorem mf:∀(ts:kF)(base:Nat),(oA base ts).length=oq ts
 |.nil,_=>rfl
 |.cons t ts,base=>by
  simp only[oA,oq,dR,fD];rw[mf ts,dA t base]
theorem IZ:∀(ts:kF)(base:Nat),(GP base ts).length=oq ts
 |.nil,_=>rfl
 |.cons t ts,base=>by
  simp only[GP,oq,dR,fD];rw[GO ts,dA t base]
theorem GO:∀(ts:kF)(place base:Nat),(CA place base ts).length=oq ts
 |.nil,_,_=>rfl
 |.cons t ts,place,base=>by
  simp only[CA,oq,dR,fD];rw[mf ts,dA t base]
end
noncomputable def jE (n:Nat) (l:List (Nat×Nat)) (d:Nd):List (Nat×Nat):=
 if d.kind=9 then
  ((l++[(n+l.length+1,n+l.length+1)]).set (d.parts.getD 0 0 - n) (((l++[(n+l.length+1,n+l.length+1)]).getD (d.parts.getD 0 0 - n) (0,0)).1,d.parts.getD 1 0+1)).set (d.parts.getD 1 0 - n) (n+l.length,n+l.length)
 else l++[(n+l.length+1,n+l.length+1)]
def p6(n:Nat)(ds:List Nd):List (Nat×Nat):=ds.foldl (jE n) []
def Cz(n:Nat)(ds:List Nd)(d:Nd):p6 n (ds++[d])=jE n (p6 n ds) d:=by simp[p6,zh]
def Eh(n:Nat)(l:List (Nat×Nat))(d:Nd):(jE n l d).length=l.length+1:=by
 unfold jE;split<;>simp
theorem Fz(n:Nat):∀(ds:List Nd)(l:List (Nat×Nat)),(ds.foldl (jE n) l).length=l.length+ds.length
 | [],l=>rfl
 |d :: ds,l=>by rw[uv,Fz n ds,Eh,cR];omega
def kl(n:Nat)(ds:List Nd):(p6 n ds).length=ds.length:=by unfold p6;rw[Fz];simp
theorem AS:∀{X Y:List α}{i:Nat},i=X.length->(X++a :: Y).set i b=X++b :: Y
 | [],Y,i,h=>by subst h;rfl
 |x :: X,Y,i,h=>by subst h;simp[AS (X:=X) (Y:=Y) rfl]
def Ju:∀{X Y:List α}{i:Nat},i=X.length->(X++a :: Y).getD i b=a
 | [],Y,i,h=>by subst h;rfl
 |x :: X,Y,i,h=>by subst h;simp
mutual
theorem pF:∀(t:Tr)(m n:Nat)(l:List (Nat×Nat))(aq:List Nat)(base:Nat),jj m t->base=n+l.length->
  (flat aq base t).foldl (jE n) l=l++(fW base t++[(base+sz t,base+sz t)])
 |.node kind num ts,m,n,l,aq,base,bP,hb=>by
  by_cases h1:kind=1
  ·subst h1
   rcases bP with⟨_,_,q⟩ | ⟨q,_⟩ | ⟨q,_⟩
   ·subst q;rw[jy];simp[jE,fW,oA,sz,oq,hb]
   ·exact aI q (by decide)
   ·exact aI rfl q
  ·by_cases h10:kind=10
   ·subst h10
    rcases bP with⟨q,_⟩ | ⟨_,hnum,q⟩ | ⟨_,q,_⟩
    ·exact aI q (by decide)
    ·match ts,q with
     |.nil,q=>simp[j9] at q
     |.cons _ .nil,q=>simp[j9,mD] at q
     |.cons e (.cons x (.cons _ _)),q=>simp[j9,mD] at q
     |.cons e (.cons x .nil),q=>
      have q1:jj m e:=q.1;have q2:jj (m+1) x:=q.2.1;rw[ib,zh,zh];have l1:=f7 e m aq base q1;have l2:=dA e base;rw[pF e m n l aq base q1 hb];rw[pF x (m+1) n _ _ _ q2 (by simp only[dR,fD];omega)];have l3:=dA x (base+(flat aq base e).length);rw[uv,List.foldl_nil];unfold jE;rw[ag (by show ¬(10=9);decide)];simp only[fW,oA,sz,oq,l1] at l3⊢;rw[ag (by decide)];have e1:n+(l++(fW base e++[(base+sz e,base+sz e)])++(fW (base+sz e) x++[(base+sz e+sz x,base+sz e+sz x)])).length+1=base+(sz e+(sz x+0)+1):=by
       simp only[dR,fD];omega
      rw[e1];simp only[dW,qw]
    ·exact aI rfl q
   ·rw[bW h1 h10,zh]
    rcases bP with⟨q,_⟩ | ⟨q,_⟩ | ⟨_,_,_,_,_,k9,q⟩
    ·exact aI q h1
    ·exact aI q h10
    ·rw[A3 ts m n l aq base q hb,uv,List.foldl_nil];unfold jE;by_cases h9:kind=9
     ·rw[ai h9];have hl:=k9 h9
      match ts,q,hl with
      |.nil,_,hl=>simp[kF.len] at hl
      |.cons _ .nil,_,hl=>simp[kF.len] at hl
      |.cons _ (.cons _ .nil),_,hl=>simp[kF.len] at hl
      |.cons _ (.cons _ (.cons _ (.cons _ _))),_,hl=>simp[kF.len] at hl
      |.cons c (.cons a (.cons b .nil)),q,_=>
       have c1:=f7 c m aq base q.1;have a1:=f7 a m aq (base+(flat aq base c).length) q.2.1;have c2:=dA c base;have a2:=dA a (base+sz c);have b2:=dA b (base+sz c+sz a);have pc:=kd c;have pa:=kd a;simp only[bC,fW,oA,GP,CA,sz,oq,Og,ai h9,zf,BR,qw];rw[c1] at a1⊢;rw[a1];have elen:n+(l++(fW base c++[(base+sz c,base+sz c)]++(fW (base+sz c) a++[(base+sz c+sz a,base+sz c+sz a)]++(fW (base+sz c+sz a) b++[(base+sz c+sz a+sz b,base+sz c+sz a+sz b)])))).length=base+sz c+(sz a+(sz b+0)):=by
        simp only[dR,fD];omega
       rw[elen];have e1:∀(o:Nat×Nat)(R:List (Nat×Nat)),l++(fW base c++[o]++R)=(l++fW base c)++o :: R:=by intro o R;simp
       rw[e1,dW (l++fW base c),ur,Ju (by simp only[dR];omega),AS (by simp only[dR];omega)];have e2:∀(o o':Nat×Nat)(R:List (Nat×Nat)),(l++fW base c)++o :: (fW (base+sz c) a++[o']++R)=(l++fW base c++[o]++fW (base+sz c) a)++o' :: R:=by intro o o' R;simp
       rw[dW (fW (base+sz c) a++_),e2,AS (by simp only[dR,fD];omega)];have e3:base+sz c+sz a - 1+1=base+sz c+sz a:=by omega
       have e4:base+sz c+(sz a+(sz b+0))+1=base+(sz c+(sz a+(sz b+0))+1):=by omega
       have e5:base+sz c+sz a+sz b=base+sz c+(sz a+sz b):=by omega
       rw[e3,e4];simp[e5]
     ·rw[ag h9];simp only[fW,ag h9,sz];have:n+(l++oA base ts).length+1=base+(oq ts+1):=by rw[dR,mf];omega
      rw[this,dW]
theorem A3:∀(ts:kF)(m n:Nat)(l:List (Nat×Nat))(aq:List Nat)(base:Nat),o9 m ts->base=n+l.length->
  (bC aq base ts).1.foldl (jE n) l=l++oA base ts
 |.nil,m,n,l,aq,base,_,_=>by simp[bC,oA]
 |.cons t ts,m,n,l,aq,base,h,hb=>by
  simp only[bC,oA];rw[zh,pF t m n l aq base h.1 hb,f7 t m aq base h.1];have:=dA t base;rw[A3 ts m n _ aq _ h.2 (by simp only[dR,fD];omega),dW]
end
def Part{α:Type}(l:List α)(i:Nat)(p:List α):Prop:= ∃a b,l=a++(p++b)/\a.length=i
def Part.left(h:Part l i (p++q)):Part l i p:=by
 obtain⟨a,b,e,f⟩:=h;exact⟨a,q++b,by rw[e,dW],f⟩
def Part.right(h:Part l i (p++q))(hj:j=i+p.length):Part l j q:=by
 obtain⟨a,b,e,f⟩:=h;exact⟨a++p,b,by rw[e];simp,by rw[dR,f,hj]⟩
def Part.one(h:Part l i [x]):l[i]? =some x:=by
 obtain⟨a,b,e,f⟩:=h;rw[e,<- f];simp
def Part.whole(l:List α):Part l 0 l:=⟨[],[],by simp,rfl⟩
structure RS where
 nodes:List Nd
 p6:List (Nat×Nat)
 n:Nat
 held:List Nat
 at_:Nat
abbrev MS:=List RS×Nat
noncomputable def g8 (r:RS) (v:Nat):RS:=⟨r.nodes,r.p6,r.n,r.held.set r.at_ v,if v=0 then (r.p6.getD (r.at_ - r.n) (0,0)).2 else (r.p6.getD (r.at_ - r.n) (0,0)).1⟩
noncomputable def jB (d:Nd) (held:List Nat):Option Nat:=
 if d.kind=0 then some d.num else if d.kind=1 then some (held.getD d.num 0)
 else if d.kind=9 then some (if held.getD (d.parts.getD 0 0) 0=0 then held.getD (d.parts.getD 2 0) 0 else held.getD (d.parts.getD 1 0) 0)
 else if d.kind=10 then some (held.getD (d.parts.getD 1 0) 0)
 else both d.kind (held.getD (d.parts.getD 0 0) 0) (held.getD (d.parts.getD 1 0) 0)
def vE(ds:List Nd)(n:Nat)(args:List Nat):RS:=⟨ds,p6 n ds,n,args++List.replicate ds.length 0,n⟩
noncomputable def nZ (ps:Programs):MS->Option MS
 |([],_)=>none
 |(r :: rs,k)=>
  if r.at_=r.held.length then match rs with
   | []=>none
   |r2 :: rs'=>some (g8 r2 (r.held.getLastD 0) :: rs',k)
  else if r.at_<r.n then none else match r.nodes[r.at_ - r.n]? with
   |none=>none
   |some d=>if d.kind=11 then match version ps d.num with
     |none=>none
     |some v=>match readBody v.body v.word.params.length with
      |none=>none
      |some ds=>if d.parts.length=v.word.params.length then some (vE ds v.word.params.length (d.parts.map λp=>r.held.getD p 0) :: r :: rs,k+1) else none
    else match jB d r.held with
     |none=>none
     |some v=>if v<ROUND then some (g8 r v :: rs,k+1) else none
inductive Reach(ps:Programs):MS->MS->Nat->Prop
 |refl (s:MS):Reach ps s s 0
 |step {s s1 s2:MS} {m:Nat} (h:nZ ps s=some s1) (r:Reach ps s1 s2 m):Reach ps s s2 (m+1)
def Reach.trans(h:Reach ps s s1 m)(h':Reach ps s1 s2 m'):Reach ps s s2 (m'+m):=by
 induction h with
 |refl s=>exact h'
 |step e _ ih=>exact .step e (ih h')
def Reach.one(h:nZ ps s=some s1):Reach ps s s1 1:=.step h (.refl _)
def ft(e:bj b=some (h,r)):
  (h.kind=0/\h.jc=0/\b=0 :: h.num :: r)\/(h.kind=1/\h.jc=0/\b=1 :: h.num :: r)\/(h.kind=9/\h.jc=3/\b=9 :: r)\/(h.kind=11/\b=11 :: h.num :: h.jc :: r)\/(h.kind=10/\h.jc=2/\b=10 :: r)\/((2<=h.kind/\h.kind<=8)/\h.jc=2/\b=h.kind :: r):=by
 unfold bj at e;split at e
 ·cases e;simp
 ·cases e;simp
 ·cases e;simp
 ·cases e;simp
 ·rename_i op r0 _ _ n9 _;split at e
  ·rename_i hop;cases e;have n9':op≠9:=n9;by_cases h10:op=10
   ·subst h10;simp
   ·refine .inr (.inr (.inr (.inr (.inr ⟨⟨hop.1, ?_⟩,rfl,rfl⟩))));dsimp only;omega
  ·cases e
 ·cases e
def oU(h:i8 look (j+1) b=some (ts,r)):∃t r1 ts',look b=some (t,r1)/\i8 look j r1=some (ts',r)/\ts=.cons t ts':=by
 unfold i8 at h;obtain⟨x,hx,h⟩:=dq.mp h;obtain⟨y,hy,e⟩:=bO.mp h;cases e;exact⟨x.1,x.2,y.1,hx,hy,rfl⟩
def m4(h:i8 look 0 b=some (ts,r)):ts=.nil/\b=r:=by
 cases h;exact⟨rfl,rfl⟩
def Fe(h:gN f n b=some (t,r)):∃f' hd r0,f=f'+1/\bj b=some (hd,r0)/\
  ((hd.kind=1/\hd.num<n/\t=.node 1 hd.num .nil/\r=r0)\/
   (hd.kind=10/\∃e x r1,gN f' n r0=some (e,r1)/\gN f' (n+1) r1=some (x,r)/\t=.node 10 0 (.cons e (.cons x .nil)))\/
   (hd.kind≠1/\hd.kind≠10/\∃ts,i8 (gN f' n) hd.jc r0=some (ts,r)/\t=.node hd.kind hd.num ts)):=by
 cases f with
 |zero=>simp[gN] at h
 |succ f=>
  unfold gN at h;split at h
  ·cases h
  ·rename_i hd r0 e;refine⟨f,hd,r0,rfl,e, ?_⟩;split at h
   ·rename_i h1;split at h
    ·rename_i h2;cases h;exact .inl ⟨h1,h2,rfl,rfl⟩
    ·cases h
   ·rename_i h1;split at h
    ·rename_i h10;obtain⟨x,hx,h⟩:=dq.mp h;obtain⟨y,hy,e⟩:=bO.mp h;cases e;exact .inr (.inl ⟨h10,_,_,_,hx,hy,rfl⟩)
    ·rename_i h10;obtain⟨x,hx,e⟩:=bO.mp h;cases e;exact .inr (.inr ⟨h1,h10,_,hx,rfl⟩)
def Im(h:gN f n b=some (t,r)):r.length<b.length:=by
 have h1:=oT f n b t r h [] 0;have h2:=f7 t n [] 0 (fR _ _ _ _ _ h);have:=kd t;omega
theorem xj:∀(F f n:Nat)(b r:List Nat)(t:Tr),gN f n b=some (t,r)->b.length<F->skip F b=some r
 |0,_,_,_,_,_,_,hF=>by omega
 |F+1,f,n,b,r,t,h,hF=>by
  have ih:=xj F;have fold:∀(l:List Nat)(f n:Nat)(b r:List Nat)(ts:kF),i8 (gN f n) l.length b=some (ts,r)->b.length<F->l.foldl (λ(a:Option Body) _=>a.bind (skip F)) (some b)=some r:=by
   intro l
   induction l with
   |nil=>intro f n b r ts h _;rw[(m4 h).2];rfl
   |cons i l il=>
    intro f n b r ts h hb;obtain⟨t,r1,ts',h1,h2,_⟩:=oU h;have:=Im h1;rw[uv];show l.foldl _ (skip F b)=_;rw[ih _ _ _ _ _ h1 hb];exact il _ _ _ _ _ h2 (by omega)
  obtain⟨f',hd,r0,rfl,ht,hc⟩:=Fe h;have hl:=eK ht
  rcases hc with⟨k1,_,rfl,rfl⟩ | ⟨k10,e,x,r1,h1,h2,rfl⟩ | ⟨k1,k10,ts,hts,rfl⟩
  ·rcases ft ht with⟨k,_,rfl⟩ | ⟨k,_,rfl⟩ | ⟨k,_,rfl⟩ | ⟨k,rfl⟩ | ⟨k,_,rfl⟩ | ⟨k,_,rfl⟩ <;>first |rfl |omega
  ·rcases ft ht with⟨k,_,rfl⟩ | ⟨k,_,rfl⟩ | ⟨k,_,rfl⟩ | ⟨k,rfl⟩ | ⟨k,_,rfl⟩ | ⟨k,_,rfl⟩
   all_goals try omega
   have:=Im h1;simp only[cR] at hF;show((some r0).bind (skip F)).bind (skip F)=_;simp[ih _ _ _ _ _ h1 (by omega),ih _ _ _ _ _ h2 (by omega)]
  ·rcases ft ht with⟨k,hd0,rfl⟩ | ⟨k,_,rfl⟩ | ⟨k,hd3,rfl⟩ | ⟨k,rfl⟩ | ⟨k,_,rfl⟩ | ⟨k,hd2,rfl⟩
   all_goals try omega
   ·rw[hd0] at hts;rw[(m4 hts).2];rfl
   ·simp only[cR] at hF;rw[hd3] at hts;exact fold (List.range 3) f' n r0 r ts (by rw[wB];exact hts) (by omega)
   ·simp only[cR] at hF;exact fold (List.range hd.jc) f' n r0 r ts (by rw[wB];exact hts) (by omega)
   ·simp only[cR] at hF;rw[hd2] at hts;have g:=fold (List.range 2) f' n r0 r ts (by rw[wB];exact hts) (by omega);have hop:hd.kind=2\/hd.kind=3\/hd.kind=4\/hd.kind=5\/hd.kind=6\/hd.kind=7\/hd.kind=8:=by omega
    rcases hop with q |q |q |q |q |q |q<;>rw[q]<;>exact g
structure Dt(held aq env:List Nat)(base:Nat):Prop where
 len:aq.length=env.length
 at_:∀(i p x:Nat),aq[i]? =some p->env[i]? =some x->held[p]? =some x
 low:∀p∈aq,p<base
def Dt.mono(h:Dt held aq env base)(hb:base<=base')(e:∀i,i<base->held'[i]? =held[i]?):Dt held' aq env base':=
 ⟨h.len,λi p x h1 h2=>by rw[e p (h.low p (iN h1))];exact h.at_ i p x h1 h2,λp hp=>iD (h.low p hp) hb⟩
def Dt.snoc(h:Dt held aq env base)(hp:p<base)(hx:held[p]? =some x):Dt held (aq++[p]) (env++[x]) base:=by
 refine⟨by simp[h.len],λi q y h1 h2=>?_,λq hq=>?_⟩
 ·by_cases hi:i<aq.length
  ·rw[kM hi] at h1;rw[kM (by rw[<- h.len];exact hi)] at h2;exact h.at_ i q y h1 h2
  ·rw[nJ (by omega)] at h1;rw[nJ (by rw[<- h.len];omega)] at h2;rw[<- h.len] at h2;cases hj:i - aq.length with
   |zero=>rw[hj] at h1 h2;simp at h1 h2;subst h1;subst h2;exact hx
   |succ j=>rw[hj] at h1;simp at h1
 ·rcases cv.mp hq with h' |h'
  ·exact h.low q h'
  ·simp at h';omega
def tM(h:Small l)(hv:v<ROUND):Small (l.set i v):=by
 intro x hx
 rcases wO hx with h' |h'
 ·exact h x h'
 ·rw[h'];exact hv
def E5(hn:n<=p)(hp:p<held.length)(hd:N[p - n]? =some d)(ho:O[p - n]? =some o)
  (h11:d.kind≠11) (hv:jB d held=some v) (hr:v<ROUND):Reach ps (⟨N,O,n,held,p⟩ :: rs,k) (⟨N,O,n,held.set p v,if v=0 then o.2 else o.1⟩ :: rs,k+1) 1:=by
 refine .one ?_;unfold nZ;simp only;rw[ag (by omega),ag (by omega),hd];simp only;rw[ag h11,hv];simp only;rw[ai hr];unfold g8;simp only[cy,ho,ze]
def vt(ps:Programs)(d:Nd):Prop:=d.kind=11->∃v,version ps d.num=some v/\d.parts.length=v.word.params.length
def Runs(ps:Programs):Prop:= ∀g v,version ps g=some v->Small v.body/\∃ds,readBody v.body v.word.params.length=some ds/\∀d∈ds,vt ps d
def Comes(ps:Programs)(env:List Nat)(t:Tr)(v s:Nat):Prop:=
 ∀(N:List Nd)(O:List (Nat×Nat))(n:Nat)(held aq:List Nat)(base:Nat)(o:Nat×Nat)(rs:List RS)(k:Nat),n<=base->Part N (base - n) (flat aq base t)->Part O (base - n) (fW base t++[o])->Dt held aq env base->
  held.length=n+N.length->Small held->(∀d∈N,vt ps d)->
  ∃(held':List Nat)(m:Nat),Reach ps (⟨N,O,n,held,base⟩ :: rs,k) (⟨N,O,n,held',if v=0 then o.2 else o.1⟩ :: rs,k+s) m/\held'.length=held.length/\Small held'/\held'[base+sz t - 1]? =some v/\∀i,i<base->held'[i]? =held[i]?
def MO(ps:Programs)(env:List Nat)(ts:kF)(vs:List Nat)(s:Nat):Prop:=
 ∀(N:List Nd)(O:List (Nat×Nat))(n:Nat)(held aq:List Nat)(base:Nat)(rs:List RS)(k:Nat),n<=base->Part N (base - n) (bC aq base ts).1->Part O (base - n) (oA base ts)->Dt held aq env base->
  held.length=n+N.length->Small held->(∀d∈N,vt ps d)->
  ∃(held':List Nat)(m:Nat),Reach ps (⟨N,O,n,held,base⟩ :: rs,k) (⟨N,O,n,held',base+oq ts⟩ :: rs,k+s) m/\held'.length=held.length/\Small held'/\(bC aq base ts).2.map (λp=>held'[p]?)=vs.map some/\∀i,i<base->held'[i]? =held[i]?
def Dc(h:eachRun look (j+1) b=some (vs,s,r)):∃v s1 r1 vs' s2,look b=some (v,s1,r1)/\eachRun look j r1=some (vs',s2,r)/\vs=v :: vs'/\s=s1+s2:=by
 unfold eachRun at h;obtain⟨x,hx,h⟩:=dq.mp h;obtain⟨y,hy,e⟩:=bO.mp h;cases e;exact⟨_,_,_,_,_,hx,hy,rfl,rfl⟩
theorem EW{ps:Programs}{env:List Nat}{look:Body->Option (Nat×Nat×Body)}{read:List Nat->Option (Tr×List Nat)}
  (hr:∀b t r,read b=some (t,r)->(∀x∈r,x∈b)/\jj env.length t)
  (ih:∀b v s r' t r S B,look b=some (v,s,r')->Small b->read b=some (t,r)->(∀d∈flat S B t,vt ps d)->r'=r/\v<ROUND/\Comes ps env t v s):
  ∀(j:Nat)(b:Body)(vs:List Nat)(s:Nat)(r':Body)(ts:kF)(r:List Nat)(S:List Nat)(B:Nat),eachRun look j b=some (vs,s,r')->Small b->i8 read j b=some (ts,r)->(∀d∈(bC S B ts).1,vt ps d)->r'=r/\Small vs/\vs.length=j/\o9 env.length ts/\MO ps env ts vs s
 |0,b,vs,s,r',ts,r,S,B,h,hb,h2,_=>by
  cases h;obtain⟨rfl,rfl⟩:=m4 h2;refine⟨rfl,λx hx=>by simp at hx,rfl,trivial,λN O n held aq base rs k _ _ _ _ _ hs _=>⟨held,0, ?_,rfl,hs,rfl,λ_ _=>rfl⟩⟩;exact .refl _
 |j+1,b,vs,s,r',ts,r,S,B,h,hb,h2,hcs=>by
  obtain⟨v,s1,r1,vs',s2,e1,e2,rfl,rfl⟩:=Dc h;obtain⟨t,q1,ts',g1,g2,rfl⟩:=oU h2;simp only[bC] at hcs;obtain⟨rfl,hv,c1⟩:=ih b v s1 r1 t q1 S B e1 hb g1 λd hd=>hcs d (ux _ hd)
  obtain⟨hsub,bP⟩:=hr _ _ _ g1;obtain⟨rfl,hvs,hl,hok2,c2⟩:=EW hr ih j r1 vs' s2 r' ts' r S _ e2 (λx hx=>hb x (hsub x hx)) g2 λd hd=>hcs d (nO _ hd)
  refine⟨rfl,λx hx=>?_,by simp[hl],⟨bP,hok2⟩,λN O n held aq base rs k hn hN hO he hlen hs hc=>?_⟩
  ·rcases bp.mp hx with rfl |hx
   ·exact hv
   ·exact hvs x hx
  ·simp only[bC,oA] at hN hO⊢;have fs:=f7 t _ aq base bP;have ol:=dA t base;have hp:=kd t;obtain⟨h1,m1,a1,a2,a3,a4,a5⟩:=c1 N O n held aq base (base+sz t,base+sz t) rs k hn hN.left hO.left he hlen hs hc;rw[fs] at hN⊢;obtain⟨h3,m2,b1,b2,b3,b4,b5⟩:=c2 N O n h1 aq (base+sz t) rs (k+s1) (by omega) (hN.right (by omega)) (hO.right (by rw[dR,fD];omega)) (he.mono (by omega) a5) (by omega) a3 hc;have eo:(if v=0 then (base+sz t,base+sz t).2 else (base+sz t,base+sz t).1)=base+sz t:=by split<;>rfl
   rw[eo] at a1;refine⟨h3,m2+m1, ?_,by omega,b3, ?_,λi hi=>?_⟩
   ·have:=a1.trans b1;rw[show base+oq (.cons t ts')=base+sz t+oq ts' by simp only[oq];omega,<- wy k];exact this
   ·rw[cz,cz,b4,b5 _ (by omega),a4]
   ·rw[b5 i (by omega),a5 i hi]
def F0(h:both op x y=some z)(hx:x<ROUND)(hy:y<ROUND):z<ROUND:=by
 unfold both at h;split at h
 ·split at h
  ·cases h;assumption
  ·cases h
 ·cases h;omega
 ·split at h
  ·cases h;assumption
  ·cases h
 ·split at h
  ·cases h
  ·cases h;exact Ap (Nat.div_le_self _ _) hx
 ·cases h;omega
 ·cases h;omega
 ·cases h;show(if x<y then 1 else 0)<ROUND;split<;>decide
 ·cases h
def root{ps:Programs}{N:List Nd}{O:List (Nat×Nat)}{n base:Nat}{held held1:List Nat}{rs:List RS}{k s0 v m T:Nat}{d:Nd}{o:Nat×Nat}{S:MS}(hr:Reach ps S (⟨N,O,n,held1,base+T⟩ :: rs,k+s0) m)
  (hn:n<=base) (hl:held.length=n+N.length) (hd:N[base+T - n]? =some d) (ho:O[base+T - n]? =some o) (h11:d.kind≠11) (hv:jB d held1=some v) (hR:v<ROUND) (h1:held1.length=held.length) (h2:Small held1) (h3:∀i,i<base->held1[i]? =held[i]?):
  ∃(held':List Nat)(m:Nat),Reach ps S (⟨N,O,n,held',if v=0 then o.2 else o.1⟩ :: rs,k+(s0+1)) m/\held'.length=held.length/\Small held'/\held'[base+T]? =some v/\∀i,i<base->held'[i]? =held[i]?:=by
 have hlt:base+T<held1.length:=by
  have:=(dm.mp hd).1;omega
 refine⟨held1.set (base+T) v,1+m,hr.trans ?_,by simp[h1],tM h2 hR,by simp[hlt],λi hi=>?_⟩
 ·have:=E5 (ps:=ps) (k:=k+s0) (rs:=rs) (by omega) hlt hd ho h11 hv hR;rw[wy] at this;exact this
 ·rw[zx (by omega)];exact h3 i hi
def uZ{l:List Nat}{i v:Nat}(h:l[i]? =some v)(hl:l.length=i+1):l.getLastD 0=v:=by
 have hne:l≠[]:=by intro e;rw[e] at hl;simp at hl
 rw[DB,wx,hl];simp[h]
theorem sim{ps:Programs}(hR:Runs ps):∀(f:Nat)(env:List Nat)(b:Body)(v s:Nat)(r':Body),run ps f env b=some (v,s,r')->Small b->Small env->∀(F:Nat)(t:Tr)(r:List Nat)(S:List Nat)(B:Nat),gN F env.length b=some (t,r)->(∀d∈flat S B t,vt ps d)->r'=r/\v<ROUND/\Comes ps env t v s
 |0,env,b,v,s,r',h,_,_,_,_,_,_,_,_,_=>by simp[run] at h
 |f+1,env,b,v,s,r',h,hb,he,F,t,r,S,B,hs,hcs=>by
  have ih:=sim hR f;have bP:=fR _ _ _ _ _ hs;obtain⟨F',hd,r0,rfl,ht,hc⟩:=Fe hs;have hsub:Small r0:=λx hx=>hb x (iR ht x hx)
  rcases hc with⟨k1,hnum,rfl,rfl⟩ | ⟨k10,e,x,r1,h1,h2,rfl⟩ | ⟨k1,k10,ts,hts,rfl⟩
  ·rcases ft ht with⟨k,_,rfl⟩ | ⟨_,_,rfl⟩ | ⟨k,_,rfl⟩ | ⟨k,rfl⟩ | ⟨k,_,rfl⟩ | ⟨k,_,rfl⟩
   all_goals try omega
   simp only[run] at h;obtain⟨x,hx,e⟩:=bO.mp h;cases e;have hv:=he _ (iN hx);refine⟨rfl,hv,λN O n held aq base o rs k hn hN hO hE hlen hh _=>?_⟩;rw[jy] at hN;have hO':O[base - n]? =some o:=by simpa[fW,oA] using hO.one
   have hsi:hd.num<aq.length:=by rw[hE.len];exact hnum
   have hp:=hE.at_ hd.num _ _ (c6 hsi) hx;have:=root (ps:=ps) (held:=held) (base:=base) (T:=0) (s0:=0) (k:=k) (v:=v) (o:=o) (.refl _) hn hlen hN.one hO' (by show 1≠11;decide) (by
    unfold jB;rw[ag (by show ¬(1=0);decide),ai rfl];simp only[cy,c6 hsi,ze,hp]) hv rfl hh (λ_ _=>rfl) (rs:=rs)
   exact this
  ·rcases ft ht with⟨k,_,rfl⟩ | ⟨k,_,rfl⟩ | ⟨k,_,rfl⟩ | ⟨k,rfl⟩ | ⟨_,_,rfl⟩ | ⟨k,_,rfl⟩
   all_goals try omega
   simp only[run] at h;obtain⟨c,hce,h⟩:=dq.mp h;obtain⟨y,hy,eq⟩:=bO.mp h;cases eq;obtain⟨c1,c2,c3⟩:=ih env r0 c.1 c.2.1 c.2.2 hce hsub he F' e r1 S B h1 λd hd=>hcs d (by rw[ib];exact ux _ hd)
   rw[c1] at hy;have hr1:Small r1:=λx hx=>hsub x (ik _ _ _ _ _ h1 x hx)
   have he2:Small (env++[c.1]):=λz hz=>by
    rcases cv.mp hz with h' |h'
    ·exact he z h'
    ·simp at h';rw[h'];exact c2
   obtain⟨d1,d2,d3⟩:=ih (env++[c.1]) r1 y.1 y.2.1 y.2.2 hy hr1 he2 F' x r _ _ (by rw[dR];exact h2) λd hd=>hcs d (by rw[ib];exact nO _ (ux _ hd))
   refine⟨d1,d2,λN O n held aq base o rs k hn hN hO hE hlen hh hcall=>?_⟩;have oke:jj env.length e:=fR _ _ _ _ _ h1;have okx:jj (env.length+1) x:=fR _ _ _ _ _ h2;rw[ib] at hN;have fe:=f7 e _ aq base oke;rw[fe] at hN;have fx:=f7 x _ (aq++[base+sz e - 1]) (base+sz e) okx;have oe:=dA e base;have ox:=dA x (base+sz e);have pe:=kd e;have px:=kd x;simp only[fW,ag (show ¬(10=9) by decide),oA,qw] at hO;rw[dW] at hO;obtain⟨h3,m1,a1,a2,a3,a4,a5⟩:=c3 N O n held aq base (base+sz e,base+sz e) rs k hn hN.left hO.left hE hlen hh hcall;have eo:∀(a v:Nat),(if v=0 then (a,a).2 else (a,a).1)=a:=by intro a v;split<;>rfl
   rw[eo] at a1;have hN2:=hN.right (j:=base+sz e - n) (by omega);have hO2:=hO.right (j:=base+sz e - n) (by rw[dR,fD];omega);obtain⟨h4,m2,b1,b2,b3,b4,b5⟩:=d3 N O n h3 (aq++[base+sz e - 1]) (base+sz e) (base+sz e+sz x,base+sz e+sz x) rs (k+c.2.1) (by omega) hN2.left hO2.left ((hE.mono (by omega) a5).snoc (by omega) a4) (by omega) a3 hcall;rw[eo] at b1;have hN3:=(hN2.right (j:=base+(sz e+sz x) - n) (by omega)).one;have hO3:=(hO2.right (j:=base+(sz e+sz x) - n) (by rw[dR,fD];omega)).one;have key:=root (ps:=ps) (held:=held) (held1:=h4) (base:=base) (T:=sz e+sz x) (s0:=c.2.1+y.2.1) (k:=k) (v:=y.1) (o:=o) (rs:=rs)
    (by have:=a1.trans b1;rw[show base+(sz e+sz x)=base+sz e+sz x by omega,show k+(c.2.1+y.2.1)=k+c.2.1+y.2.1 by omega];exact this) hn hlen hN3 hO3 (by show 10≠11;decide)
    (by
     unfold jB;rw[ag (by show ¬(10=0);decide),ag (by show ¬(10=1);decide),ag (by show ¬(10=9);decide),ai rfl];simp only[BR,zf,fx];rw[cy,b4];rfl) d2 (by omega) b3 (λi hi=>by rw[b5 i (by omega),a5 i hi])
   have esz:base+sz (.node 10 0 (.cons e (.cons x .nil))) - 1=base+(sz e+sz x):=by simp only[sz,oq];omega
   rw[esz];exact key
  ·rcases ft ht with⟨k0,hd0,rfl⟩ | ⟨k,_,rfl⟩ | ⟨k9,hd3,rfl⟩ | ⟨k11,rfl⟩ | ⟨k,_,rfl⟩ | ⟨k28,hd2,rfl⟩
   all_goals try omega
   ·
    rw[hd0] at hts;obtain⟨rfl,rfl⟩:=m4 hts;simp only[run] at h;cases h;have hv:hd.num<ROUND:=hb _ (by simp);refine⟨rfl,hv,λN O n held aq base o rs k hn hN hO hE hlen hh _=>?_⟩;rw[bW k1 k10] at hN;have hN':N[base+0 - n]? =some ⟨hd.kind,hd.num,[]⟩:=by simpa[bC] using hN.one
    have hO':O[base+0 - n]? =some o:=by
     have:(fW base (.node hd.kind hd.num .nil))=[]:=by simp[fW,GP,oA]
     rw[this] at hO;exact hO.one
    have:=root (ps:=ps) (held:=held) (base:=base) (T:=0) (s0:=0) (k:=k) (v:=hd.num) (o:=o) (.refl _) hn hlen hN' hO' (by show hd.kind≠11;omega) (by unfold jB;rw[ai k0]) hv rfl hh (λ_ _=>rfl) (rs:=rs);have esz:base+sz (.node hd.kind hd.num .nil) - 1=base+0:=by simp only[sz,oq];omega
    rw[esz];exact this
   ·
    rw[hd3] at hts;obtain⟨c,rc,ts1,g1,hts1,rfl⟩:=oU hts;obtain⟨a,ra,ts2,g2,hts2,rfl⟩:=oU hts1;obtain⟨b,rb,ts3,g3,hts3,rfl⟩:=oU hts2;obtain⟨rfl,rfl⟩:=m4 hts3;have okc:jj env.length c:=fR _ _ _ _ _ g1;have oka:jj env.length a:=fR _ _ _ _ _ g2;have okb:jj env.length b:=fR _ _ _ _ _ g3;have src:Small rc:=λx hx=>hsub x (ik _ _ _ _ _ g1 x hx)
    have sra:Small ra:=λx hx=>src x (ik _ _ _ _ _ g2 x hx)
    simp only[run] at h;obtain⟨vc,hvc,h⟩:=dq.mp h;obtain⟨c1,c2,c3⟩:=ih env r0 vc.1 vc.2.1 vc.2.2 hvc hsub he F' c rc S B g1 λd hd=>hcs d (by rw[bW k1 k10];simp only[bC,cv];exact .inl (.inl hd))
    rw[c1] at h;have k9':hd.kind=9:=k9;have pc:=kd c;have pa:=kd a;have pb:=kd b;have eo:∀(a v:Nat),(if v=0 then (a,a).2 else (a,a).1)=a:=by intro a v;split<;>rfl
    have esz:∀base,base+sz (.node hd.kind hd.num (.cons c (.cons a (.cons b .nil)))) - 1=base+(sz c+sz a+sz b):=by intro base;simp only[sz,oq];omega
    have split9:∀(N:List Nd)(O:List (Nat×Nat))(n:Nat)(aq:List Nat)(base:Nat)(o:Nat×Nat),n<=base->Part N (base - n) (flat aq base (.node hd.kind hd.num (.cons c (.cons a (.cons b .nil)))))->Part O (base - n) (fW base (.node hd.kind hd.num (.cons c (.cons a (.cons b .nil))))++[o])->
      Part N (base - n) (flat aq base c)/\Part N (base+sz c - n) (flat aq (base+sz c) a)/\Part N (base+sz c+sz a - n) (flat aq (base+sz c+sz a) b)/\N[base+(sz c+sz a+sz b) - n]? =some ⟨9,hd.num,[base+sz c - 1,base+sz c+sz a - 1,base+sz c+sz a+sz b - 1]⟩/\
      Part O (base - n) (fW base c++[(base+sz c,base+sz c+sz a)])/\Part O (base+sz c - n) (fW (base+sz c) a++[(base+(sz c+sz a+sz b),base+(sz c+sz a+sz b))])/\Part O (base+sz c+sz a - n) (fW (base+sz c+sz a) b++[(base+(sz c+sz a+sz b),base+(sz c+sz a+sz b))])/\O[base+(sz c+sz a+sz b) - n]? =some o:=by
     intro N O n aq base o hn hN hO;have fc:=f7 c _ aq base okc;have fa:=f7 a _ aq (base+sz c) oka;have fb:=f7 b _ aq (base+sz c+sz a) okb;have oc:=dA c base;have oa:=dA a (base+sz c);have ob:=dA b (base+sz c+sz a);rw[bW k1 k10,k9'] at hN;simp only[bC,qw,fc,fa,fb] at hN;simp only[fW,ai k9',GP,CA,oA,oq,Og,qw] at hO;rw[show base+sz c+(sz a+(sz b+0))=base+(sz c+sz a+sz b) by omega] at hO;rw[dW] at hN hO;have hN2:=hN.right (j:=base+sz c - n) (by omega);rw[dW] at hN2;have hN3:=hN2.right (j:=base+sz c+sz a - n) (by omega);have hN4:=hN3.right (j:=base+(sz c+sz a+sz b) - n) (by omega);have hO2:=hO.right (j:=base+sz c - n) (by rw[dR,fD];omega);rw[dW] at hO2;have hO3:=hO2.right (j:=base+sz c+sz a - n) (by rw[dR,fD];omega);have hO4:=hO3.right (j:=base+(sz c+sz a+sz b) - n) (by rw[dR,fD];omega);have ob':=hO3.left;rw[show base+sz c+sz a+sz b=base+(sz c+sz a+sz b) by omega] at ob';exact⟨hN.left,hN2.left,hN3.left,hN4.one,hO.left,hO2.left,ob',hO4.one⟩
    by_cases h0:vc.1=0
    ·rw[ai h0,xj _ _ _ _ _ _ g2 (kO _)] at h;obtain⟨y,hy,eq⟩:=bO.mp h;cases eq;have hy':run ps f env ra=some y:=hy;obtain⟨d1,d2,d3⟩:=ih env ra y.1 y.2.1 y.2.2 hy' sra he F' b rb S _ g3 λd hd=>hcs d (by rw[bW k1 k10];simp only[bC,cv];exact .inl (.inr (.inr (.inl hd))))
     refine⟨d1,d2,λN O n held aq base o rs k hn hN hO hE hlen hh hcall=>?_⟩;have oc:=dA c base;obtain⟨n1,n2,n3,n4,o1,o2,o3,o4⟩:=split9 N O n aq base o hn hN hO;obtain⟨h3,m1,a1,a2,a3,a4,a5⟩:=c3 N O n held aq base _ rs k hn n1 o1 hE hlen hh hcall;rw[ai h0] at a1;obtain⟨h4,m2,b1,b2,b3,b4,b5⟩:=d3 N O n h3 aq (base+sz c+sz a) _ rs (k+vc.2.1) (by omega) n3 o3 (hE.mono (by omega) a5 |> λz=>z) (by omega) a3 hcall;rw[eo] at b1;rw[esz];refine root (ps:=ps) (held:=held) (held1:=h4) (s0:=vc.2.1+y.2.1) (by have:=a1.trans b1;rw[<- wy k];exact this) hn hlen n4 o4 (by show 9≠11;decide) ?_ d2 (by omega) b3 (λi hi=>by rw[b5 i (by omega),a5 i hi]);unfold jB;rw[ag (by show ¬(9=0);decide),ag (by show ¬(9=1);decide),ai rfl];simp only[BR,zf];rw[cy,b5 _ (by omega),a4,ze,ai h0,cy,b4];rfl
    ·rw[ag h0] at h;obtain⟨y,hy,h⟩:=dq.mp h;obtain⟨d1,d2,d3⟩:=ih env rc y.1 y.2.1 y.2.2 hy src he F' a ra S _ g2 λd hd=>hcs d (by rw[bW k1 k10];simp only[bC,cv];exact .inl (.inr (.inl hd)))
     rw[d1,xj _ _ _ _ _ _ g3 (kO _)] at h;cases h;refine⟨rfl,d2,λN O n held aq base o rs k hn hN hO hE hlen hh hcall=>?_⟩;have oc:=dA c base;obtain⟨n1,n2,n3,n4,o1,o2,o3,o4⟩:=split9 N O n aq base o hn hN hO;obtain⟨h3,m1,a1,a2,a3,a4,a5⟩:=c3 N O n held aq base _ rs k hn n1 o1 hE hlen hh hcall;rw[ag h0] at a1;obtain⟨h4,m2,b1,b2,b3,b4,b5⟩:=d3 N O n h3 aq (base+sz c) _ rs (k+vc.2.1) (by omega) n2 o2 (hE.mono (by omega) a5) (by omega) a3 hcall;rw[eo] at b1;rw[esz];refine root (ps:=ps) (held:=held) (held1:=h4) (s0:=vc.2.1+y.2.1) (by have:=a1.trans b1;rw[<- wy k];exact this) hn hlen n4 o4 (by show 9≠11;decide) ?_ d2 (by omega) b3 (λi hi=>by rw[b5 i (by omega),a5 i hi]);unfold jB;rw[ag (by show ¬(9=0);decide),ag (by show ¬(9=1);decide),ai rfl];simp only[BR,zf];rw[cy,b5 _ (by omega),a4,ze,ag h0,cy,b4];rfl
   ·
    simp only[run] at h;obtain⟨w,hw,h⟩:=dq.mp h;obtain⟨as,has,h⟩:=dq.mp h;obtain⟨x,hx,eq⟩:=bO.mp h;cases eq;obtain⟨c1,c2,c3,c4,c5⟩:=EW (ps:=ps) (env:=env) (look:=run ps f env) (read:=gN F' env.length) (λb t r q=>⟨ik _ _ _ _ _ q,fR _ _ _ _ _ q⟩) (λb v s r' t r S B q1 q2 q3 q4=>ih env b v s r' q1 q2 he F' t r S B q3 q4) hd.jc r0 as.1 as.2.1 as.2.2 ts r S B has hsub hts λd hd=>hcs d (by rw[bW k1 k10];exact ux _ hd)
    obtain⟨sb,ds,hds,hdc⟩:=hR _ _ hw;have hrs:=hds;rw[iS] at hrs;cases hsy:gN (w.body.length+1) w.word.params.length w.body with
    |none=>rw[hsy] at hrs;cases hrs
    |some q=>
    obtain⟨t',rr⟩:=q;rw[hsy] at hrs;cases rr with
    |cons _ _=>cases hrs
    |nil=>
    cases hrs;have okt:=fR _ _ _ _ _ hsy;have hal:as.1.length=w.word.params.length:=by
     obtain⟨w',hw',hpl⟩:=hcs ⟨hd.kind,hd.num,(bC S B ts).2⟩ (by rw[bW k1 k10];simp) k11;have h':version ps hd.num=some w':=hw';rw[hw] at h';cases h';have hpl':(bC S B ts).2.length=w.word.params.length:=hpl;rw[jY,pY _ _ _ _ hts] at hpl';rw[c3];exact hpl'
    obtain⟨_,hv,hcm⟩:=ih as.1 w.body x.1 x.2.1 x.2.2 hx sb c2 (w.body.length+1) t' [] _ _ (by rw[hal];exact hsy) hdc;refine⟨c1,hv,λN O n held aq base o rs k hn hN hO hE hlen hh hcall=>?_⟩;have fl:=sP ts _ aq base c4;have ol:=mf ts base;rw[bW k1 k10] at hN;simp only[fW,ag (show ¬(hd.kind=9) by omega)] at hO;have hN2:=(hN.right (j:=base+oq ts - n) (by omega)).one;have hO2:=(hO.right (j:=base+oq ts - n) (by omega)).one;obtain⟨h3,m1,a1,a2,a3,a4,a5⟩:=c5 N O n held aq base rs k hn hN.left hO.left hE hlen hh hcall;obtain⟨w',hw',hpl⟩:=hcall _ (iN hN2) k11;have ew:w'=w:=by
     have h':version ps hd.num=some w':=hw';rw[hw] at h';exact(Option.some.inj h').symm
    subst ew;have hpl':(bC aq base ts).2.length=w'.word.params.length:=hpl;have hargs:((bC aq base ts).2.map λp=>h3.getD p 0)=as.1:=by
     have:∀(ps vs:List Nat),ps.map (λp=>h3[p]?)=vs.map some->(ps.map λp=>h3.getD p 0)=vs:=by
      intro ps
      induction ps with
      |nil=>intro vs q;cases vs with |nil=>rfl |cons _ _=>simp at q
      |cons p ps ihp=>
       intro vs q;cases vs with
       |nil=>simp at q
       |cons v vs=>
        simp only[cz,List.cons.injEq] at q⊢;exact⟨by rw[cy,q.1];rfl,ihp vs q.2⟩
     exact this _ _ a4
    have plt:base+oq ts<h3.length:=by
     have:=(dm.mp hN2).1;omega
    have push:nZ ps (⟨N,O,n,h3,base+oq ts⟩ :: rs,k+as.2.1)=some (vE (flat (List.range w'.word.params.length) w'.word.params.length t') w'.word.params.length as.1 :: ⟨N,O,n,h3,base+oq ts⟩ :: rs,k+as.2.1+1):=by
     unfold nZ;simp only;rw[ag (by omega),ag (by omega),hN2];simp only;rw[ai k11,hw];simp only;rw[hds];simp only;rw[ai hpl',hargs]
    have fz:=f7 t' _ (List.range w'.word.params.length) w'.word.params.length okt;have fo:p6 w'.word.params.length (flat (List.range w'.word.params.length) w'.word.params.length t')=fW w'.word.params.length t'++[(w'.word.params.length+sz t',w'.word.params.length+sz t')]:=by
     unfold p6;rw[pF t' _ w'.word.params.length [] _ w'.word.params.length okt (by simp)];rfl
    have pt:=kd t';obtain⟨h4,m2,b1,b2,b3,b4,b5⟩:=hcm (flat (List.range w'.word.params.length) w'.word.params.length t') (p6 w'.word.params.length (flat (List.range w'.word.params.length) w'.word.params.length t')) w'.word.params.length (as.1++List.replicate (flat (List.range w'.word.params.length) w'.word.params.length t').length 0)
     (List.range w'.word.params.length) w'.word.params.length (w'.word.params.length+sz t',w'.word.params.length+sz t') (⟨N,O,n,h3,base+oq ts⟩ :: rs) (k+as.2.1+1) (bx _) (by rw[zd];exact Part.whole _) (by rw[zd,fo];exact Part.whole _)
     ⟨by simp[hal],λi p y q1 q2=>by
      have hi:=(dm.mp q2).1;rw[wA (by omega)] at q1;cases q1;rw[kM hi];exact q2,λp hp=>zy.mp hp⟩ (by simp[hal]) (λz hz=>by
      rcases cv.mp hz with h' |h'
      ·exact c2 z h'
      ·rw[(Al.mp h').2];decide) hdc
    have eo:∀(a v:Nat),(if v=0 then (a,a).2 else (a,a).1)=a:=by intro a v;split<;>rfl
    rw[eo] at b1;have h4l:h4.length=w'.word.params.length+sz t':=by rw[b2];simp[hal,fz]
    have hlast:h4.getLastD 0=x.1:=uZ b4 (by omega);refine⟨h3.set (base+oq ts) x.1,1+(m2+1+m1), ?_,by simp[a2],tM a3 hv, ?_,λi hi=>?_⟩
    ·have hpop:nZ ps (⟨flat (List.range w'.word.params.length) w'.word.params.length t',p6 w'.word.params.length (flat (List.range w'.word.params.length) w'.word.params.length t'),w'.word.params.length,h4,w'.word.params.length+sz t'⟩ :: ⟨N,O,n,h3,base+oq ts⟩ :: rs,k+as.2.1+1+x.2.1)=
       some (⟨N,O,n,h3.set (base+oq ts) x.1,if x.1=0 then o.2 else o.1⟩ :: rs,k+as.2.1+1+x.2.1):=by
      unfold nZ;simp only;rw[ai h4l.symm,hlast];simp only[g8,cy,hO2,ze]
     have:=(a1.trans (Reach.step push b1)).trans (.one hpop);rw[show k+(as.2.1+x.2.1+1)=k+as.2.1+1+x.2.1 by omega];exact this
    ·have esz:base+sz (.node hd.kind hd.num ts) - 1=base+oq ts:=by simp only[sz];omega
     rw[esz];simp[plt]
    ·rw[zx (by omega)];exact a5 i hi
   ·
    have h':(run ps f env r0).bind (λx=>(run ps f env x.2.2).bind λy=>(both hd.kind x.1 y.1).map λz=>(z,x.2.1+y.2.1+1,y.2.2))=some (v,s,r'):=by
     have hop:hd.kind=2\/hd.kind=3\/hd.kind=4\/hd.kind=5\/hd.kind=6\/hd.kind=7\/hd.kind=8:=by omega
     rcases hop with q |q |q |q |q |q |q<;>(rw[q] at h⊢;exact h)
    obtain⟨x,hx,h'⟩:=dq.mp h';obtain⟨y,hy,h'⟩:=dq.mp h';obtain⟨z,hz,eq⟩:=bO.mp h';cases eq;have has:eachRun (run ps f env) 2 r0=some ([x.1,y.1],x.2.1+(y.2.1+0),y.2.2):=by simp[eachRun,hx,hy]
    rw[hd2] at hts;obtain⟨c1,c2,c3,c4,c5⟩:=EW (ps:=ps) (env:=env) (look:=run ps f env) (read:=gN F' env.length) (λb t r q=>⟨ik _ _ _ _ _ q,fR _ _ _ _ _ q⟩) (λb v s r' t r S B q1 q2 q3 q4=>ih env b v s r' q1 q2 he F' t r S B q3 q4) 2 r0 _ _ _ ts r S B has hsub hts λd hd=>hcs d (by rw[bW k1 k10];exact ux _ hd)
    have hv:v<ROUND:=F0 hz (c2 _ (by simp)) (c2 _ (by simp));refine⟨c1,hv,λN O n held aq base o rs k hn hN hO hE hlen hh hcall=>?_⟩;have fl:=sP ts _ aq base c4;have ol:=mf ts base;rw[bW k1 k10] at hN;simp only[fW,ag (show ¬(hd.kind=9) by omega)] at hO;have hN2:=(hN.right (j:=base+oq ts - n) (by omega)).one;have hO2:=(hO.right (j:=base+oq ts - n) (by omega)).one;obtain⟨h3,m1,a1,a2,a3,a4,a5⟩:=c5 N O n held aq base rs k hn hN.left hO.left hE hlen hh hcall;have esz:base+sz (.node hd.kind hd.num ts) - 1=base+oq ts:=by simp only[sz];omega
    rw[esz];refine root (ps:=ps) (held:=held) (held1:=h3) (s0:=x.2.1+(y.2.1+0)) a1 hn hlen hN2 hO2 (by show hd.kind≠11;omega) ?_ hv a2 a3 a5;obtain⟨p0,p1,ep⟩ :∃p0 p1,(bC aq base ts).2=[p0,p1]:=by
     have hl:=jY aq ts base;rw[pY _ _ _ _ hts] at hl
     match hq:(bC aq base ts).2,hl with
     | [p0,p1],_=>exact⟨p0,p1,rfl⟩
    rw[ep] at a4⊢;simp only[cz,uu,List.cons.injEq,and_true] at a4;unfold jB;rw[ag (by show ¬(hd.kind=0);omega),ag (by show ¬(hd.kind=1);omega),ag (by show ¬(hd.kind=9);omega),ag (by show ¬(hd.kind=10);omega)];simp only[BR,zf];rw[cy,a4.1,cy,a4.2];exact hz
theorem pz:∀(ds:List Nd)(facts fs:List Known),br ps facts ds=some fs->∀d∈ds,vt ps d
 | [],_,_,_=>λd hd=>by simp at hd
 |x :: ds,facts,fs,h=>by
  rw[ia] at h;obtain⟨k,hk,h⟩:=dq.mp h;intro d hd h11
  rcases bp.mp hd with rfl |hd
  ·unfold cD dy at hk;simp only[h11] at hk;simp only[ll,show ¬(11=1) by decide,show ¬(11=10) by decide,show ¬(11=0) by decide,show ¬(11=9) by decide,if_false,if_true] at hk;obtain⟨w,hw,hk⟩:=dq.mp hk;obtain⟨v,hv,rfl⟩:=gy hw;refine⟨v,hv, ?_⟩;split at hk
   ·cases hk
   ·rename_i hn;simp only[bD] at hn;omega
  ·exact pz ds _ _ h d hd h11
def cE.runs(P:cE ps):Runs ps:=by
 intro g v hv;obtain⟨ds,hr⟩:=P.read hv;refine⟨(P.wX hv).small,ds,hr, ?_⟩;have hk:=P.keep g v hv;unfold keeps at hk;rw[<- cH ps _ _ (P.wX hv).small,hr] at hk;simp only[iq] at hk;cases hf:br ps (ej v.word.params) ds with
 |none=>rw[hf] at hk;simp at hk
 |some fs=>exact pz ds _ _ hf
def GH(P:cE ps)(hv:version ps g=some v)(hr:readBody v.body v.word.params.length=some ds)(ha:Small args)(hl:args.length=v.word.params.length)
  (hrun:run ps DEEP args v.body=some (x,s,r)):
  ∃(held:List Nat)(m:Nat),Reach ps ([vE ds v.word.params.length args],0) ([⟨ds,p6 v.word.params.length ds,v.word.params.length,held,v.word.params.length+ds.length⟩],s) m/\held.length=v.word.params.length+ds.length/\held.getLastD 0=x:=by
 obtain⟨sb,ds',hds,hdc⟩:=P.runs _ _ hv;rw[hr] at hds;cases hds;have hrs:=hr;rw[iS] at hrs;cases hsy:gN (v.body.length+1) v.word.params.length v.body with
 |none=>rw[hsy] at hrs;cases hrs
 |some q=>
 obtain⟨t,rr⟩:=q;rw[hsy] at hrs;cases rr with
 |cons _ _=>cases hrs
 |nil=>
 cases hrs;have okt:=fR _ _ _ _ _ hsy;obtain⟨_,hv',hc⟩:=sim P.runs DEEP args v.body x s r hrun sb ha _ t [] _ _ (by rw[hl];exact hsy) hdc;have fz:=f7 t _ (List.range v.word.params.length) v.word.params.length okt;have fo:p6 v.word.params.length (flat (List.range v.word.params.length) v.word.params.length t)=fW v.word.params.length t++[(v.word.params.length+sz t,v.word.params.length+sz t)]:=by
  unfold p6;rw[pF t _ v.word.params.length [] _ v.word.params.length okt (by simp)];rfl
 have pt:=kd t;obtain⟨h4,m2,b1,b2,b3,b4,b5⟩:=hc (flat (List.range v.word.params.length) v.word.params.length t) (p6 v.word.params.length (flat (List.range v.word.params.length) v.word.params.length t)) v.word.params.length (args++List.replicate (flat (List.range v.word.params.length) v.word.params.length t).length 0)
  (List.range v.word.params.length) v.word.params.length (v.word.params.length+sz t,v.word.params.length+sz t) [] 0 (bx _) (by rw[zd];exact Part.whole _) (by rw[zd,fo];exact Part.whole _)
  ⟨by simp[hl],λi p y q1 q2=>by
   have hi:=(dm.mp q2).1;rw[wA (by omega)] at q1;cases q1;rw[kM hi];exact q2,λp hp=>zy.mp hp⟩ (by simp[hl]) (λz hz=>by
   rcases cv.mp hz with h' |h'
   ·exact ha z h'
   ·rw[(Al.mp h').2];decide) hdc
 have eo:∀(a v:Nat),(if v=0 then (a,a).2 else (a,a).1)=a:=by intro a v;split<;>rfl
 rw[eo,Nat.zero_add,<- fz] at b1;have h4l:h4.length=v.word.params.length+sz t:=by rw[b2];simp[hl,fz]
 exact⟨h4,m2,b1,by rw[h4l,fz],uZ b4 (by omega)⟩
structure F7(ps:Programs)(r:RS):Prop where
 from_:∃g v,version ps g=some v/\readBody v.body v.word.params.length=some r.nodes/\r.n=v.word.params.length
 p6:r.p6=p6 r.n r.nodes
 len:r.held.length=r.n+r.nodes.length
 small:Small r.held
structure z7(ps:Programs)(s:MS):Prop where
 runs:∀r∈s.1,F7 ps r
 low:∀r∈s.1.tail,r.n<=r.at_/\r.at_<r.held.length
 few:s.1.length<=s.2+1
theorem F7.nodes(P:cE ps)(h:F7 ps r):eQ r.n r.nodes/\r.nodes≠[]/\r.nodes.length<=200/\r.n<=4/\∀d∈r.nodes,vt ps d:=by
 obtain⟨g,v,hv,hr,hn⟩:=h.from_;have V:=P.wX hv;obtain⟨sb,ds',hds,hdc⟩:=P.runs _ _ hv;rw[hr] at hds;cases hds;obtain⟨a,b,c⟩:=oW V.small hr;rw[hn];exact⟨a,b,eY c V.len,(cJ.mp V.word).1,hdc⟩
def F7.settle(h:F7 ps r)(hv:v<ROUND):F7 ps (g8 r v):=
 ⟨h.from_,h.p6,by simp[g8,h.len],tM h.small hv⟩
def qQ(h:Small l)(i:Nat):l.getD i 0<ROUND:=by
 rw[cy];cases hi:l[i]? with
 |none=>show 0<ROUND;decide
 |some x=>exact h x (iN hi)
def DX(h:Small l):l.getLastD 0<ROUND:=by
 rw[DB];cases hi:l.getLast? with
 |none=>show 0<ROUND;decide
 |some x=>exact h x (List.mem_of_getLast? hi)
def uT(h:nZ ps s=some s')(M:z7 ps s):
  ∃r rs,s.1=r :: rs/\
   ((r.at_=r.held.length/\∃r2 rs',rs=r2 :: rs'/\s'=(g8 r2 (r.held.getLastD 0) :: rs',s.2))\/
    (r.n<=r.at_/\r.at_<r.held.length/\∃d,r.nodes[r.at_ - r.n]? =some d/\d.kind=11/\∃v ds,version ps d.num=some v/\readBody v.body v.word.params.length=some ds/\d.parts.length=v.word.params.length/\
     s'=(vE ds v.word.params.length (d.parts.map λp=>r.held.getD p 0) :: r :: rs,s.2+1))\/
    (r.n<=r.at_/\r.at_<r.held.length/\∃d x,r.nodes[r.at_ - r.n]? =some d/\d.kind≠11/\jB d r.held=some x/\x<ROUND/\s'=(g8 r x :: rs,s.2+1))):=by
 obtain⟨st,k⟩:=s;cases st with
 |nil=>simp[nZ] at h
 |cons r rs=>
  refine⟨r,rs,rfl, ?_⟩;unfold nZ at h;simp only at h;split at h
  ·rename_i he;cases rs with
   |nil=>cases h
   |cons r2 rs'=>cases h;exact .inl ⟨he,r2,rs',rfl,rfl⟩
  ·split at h
   ·cases h
   ·rename_i he hn;split at h
    ·cases h
    ·rename_i d hd;have hlt:=(dm.mp hd).1;have hl:=(M.runs r (by simp)).len;split at h
     ·rename_i h11;split at h
      ·cases h
      ·rename_i v hv;split at h
       ·cases h
       ·rename_i ds hds;split at h
        ·rename_i hpl;cases h;exact .inr (.inl ⟨by omega,by omega,d,hd,h11,v,ds,hv,hds,hpl,rfl⟩)
        ·cases h
     ·rename_i h11;split at h
      ·cases h
      ·rename_i x hx;split at h
       ·rename_i hR;cases h;exact .inr (.inr ⟨by omega,by omega,d,x,hd,h11,hx,hR,rfl⟩)
       ·cases h
def z7.step(M:z7 ps s)(h:nZ ps s=some s'):z7 ps s'/\s.2<=s'.2/\∃r rs,s.1=r :: rs/\(∀x,(r :: rs).getLast? =some x->x.at_≠x.held.length):=by
 obtain⟨r,rs,e,hc⟩:=uT h M;obtain⟨st,k⟩:=s;simp only at e hc;subst e;have hr:=M.runs r (by simp);have hrs:∀x∈rs,F7 ps x:=λx hx=>M.runs x (cZ _ hx)
 have hlow:∀x∈rs,x.n<=x.at_/\x.at_<x.held.length:=M.low;have hfew:rs.length+1<=k+1:=M.few;have hlast:∀(x:RS),rs≠[]->(r :: rs).getLast? =some x->x.at_≠x.held.length:=λx hne hx=>by
  have:x∈rs:=by
   cases rs with
   |nil=>exact aI rfl hne
   |cons y ys=>rw[List.getLast?_cons_cons] at hx;exact List.mem_of_getLast? hx
  have:=hlow x this;omega
 rcases hc with⟨h1,r2,rs',rfl,rfl⟩ | ⟨h1,h2,d,hd,h11,v,ds,hv,hds,hpl,rfl⟩ | ⟨h1,h2,d,x,hd,h11,hx,hR,rfl⟩
 ·refine⟨⟨λx hx=>?_,λx hx=>hlow x (cZ _ hx), ?_⟩,bx _,r,_,rfl,λx hx=>hlast x (by simp) hx⟩
  ·rcases bp.mp hx with rfl |hx
   ·exact(hrs r2 (by simp)).settle (DX hr.small)
   ·exact hrs x (cZ _ hx)
  ·simp only[cR] at hfew⊢;omega
 ·refine⟨⟨λx hx=>?_,λx hx=>?_, ?_⟩,BX _,r,_,rfl,λx hx=>?_⟩
  ·rcases bp.mp hx with rfl |hx
   ·refine⟨⟨d.num,v,hv,hds,rfl⟩,rfl,by simp[vE,hpl],λz hz=>?_⟩;simp only[vE] at hz
    rcases cv.mp hz with h' |h'
    ·obtain⟨p,_,rfl⟩:=fg.mp h';exact qQ hr.small p
    ·rw[(Al.mp h').2];decide
   ·rcases bp.mp hx with rfl |hx
    ·exact hr
    ·exact hrs x hx
  ·rcases bp.mp hx with rfl |hx
   ·exact⟨h1,h2⟩
   ·exact hlow x hx
  ·simp only[cR];omega
  ·by_cases hne:rs=[]
   ·subst hne;simp at hx;subst hx;omega
   ·exact hlast x hne hx
 ·refine⟨⟨λy hy=>?_,λy hy=>hlow y hy, ?_⟩,BX _,r,_,rfl,λy hy=>?_⟩
  ·rcases bp.mp hy with rfl |hy
   ·exact hr.settle hR
   ·exact hrs y hy
  ·simp only[cR];omega
  ·by_cases hne:rs=[]
   ·subst hne;simp at hy;subst hy;omega
   ·exact hlast y hne hy
def Reach.mono(h:Reach ps s s' m)(M:z7 ps s):z7 ps s'/\s.2<=s'.2:=by
 induction h with
 |refl s=>exact⟨M,bx _⟩
 |step e _ ih=>
  obtain⟨M1,l1,_⟩:=M.step e;obtain⟨M2,l2⟩:=ih M1;exact⟨M2,eY l1 l2⟩
def Reach.inv(h:Reach ps s s' m):(m=0/\s=s')\/∃m' s1,m=m'+1/\nZ ps s=some s1/\Reach ps s1 s' m':=by
 cases h with
 |refl=>exact .inl ⟨rfl,rfl⟩
 |step e r=>exact .inr ⟨_,_,rfl,e,r⟩
def z7.start(P:cE ps)(hv:version ps g=some v)(hr:readBody v.body v.word.params.length=some ds)(ha:Small args)(hl:args.length=v.word.params.length):
  z7 ps ([vE ds v.word.params.length args],0):=by
 refine⟨λr hr'=>?_,λr hr'=>by simp at hr',by simp⟩;simp at hr';subst hr';refine⟨⟨g,v,hv,hr,rfl⟩,rfl,by simp[vE,hl],λz hz=>?_⟩;simp only[vE] at hz
 rcases cv.mp hz with h' |h'
 ·exact ha z h'
 ·rw[(Al.mp h').2];decide
end Wh
namespace L2
open PySem PySem.Spec PyProof.Rows
def Ev(t:TE)(σ:St)(H:Hp)(v:V):Prop:= ∀Q:VK,Q v H->t σ H Q
def za(t:TT)(σ:St)(H:Hp)(c:Bool):Prop:= ∀Q:Bool->Hp->Prop,Q c H->t σ H Q
def tD(t:TA)(σ:St)(H:Hp)(vs:List V):Prop:= ∀Q:List V->Hp->Prop,Q vs H->t σ H Q
def yG(r:R2)(x y:V)(H:Hp)(v:V):Prop:= ∀Q:VK,Q v H->r x y H Q
def Lk(r:List V->Hp->VK->Prop)(vs:List V)(H:Hp)(v:V):Prop:= ∀Q:VK,Q v H->r vs H Q
section
variable {t ta tb tc te:TE} {u u':TT} {tl:TA} {σ:St} {H:Hp} {v x y z:V} {vs:List V} {b c d:Bool} {i j:Int} {r r':R2} {K:bg} {p dx C:Addr} {f:Str} {fs:List (Str×V)} {xs:List V}
def aa(h:σ[n]? =some (some v)):Ev (bA n) σ H v:=λ_ q=>⟨v,h,q⟩
def aH:Ev (tC v) σ H v:=λ_ q=>q
def aC(h:Ev ta σ H (.ref p))(hp:H p=some (.ins C dx fs))(cl:vW K C)(n:bf K C f)(l:fs.lookup f=some v):Ev (da K ta f) σ H v:=
 λ_ q=>h _ ⟨p,C,dx,fs,v,rfl,hp,cl,n,l,q⟩
def ay(ha:Ev ta σ H x)(hb:Ev tb σ H y)(hr:yG r x y H v):Ev (jR r ta tb) σ H v:=λ_ q=>ha _ (hb _ (hr _ q))
def bo:yG (uG g) (.int i) (.int j) H (g i j):=λ_ q=>⟨i,j,rfl,rfl,q⟩
def L5{g:Int->Int->V}{C:Int->Int->Prop}(h:C i j):yG (rI C g) (.int i) (.int j) H (g i j):=λ_ q=>⟨i,j,rfl,rfl,h,q⟩
def gI:yG LW (.int i) (.int j) H (.bl (decide (i=j))):=λ_ q=>⟨rfl,by
 have e:decide (V.int i=V.int j)=decide (i=j):=by
  by_cases h:i=j
  ·subst h;simp
  ·rw[decide_eq_false h,decide_eq_false λe=>h (V.int.inj e)]
 rw[e];exact q⟩
def iA:yG O3 (.int i) (.int j) H (.bl (!decide (i=j))):=λ_ q=>⟨rfl,by
 have e:decide (V.int i=V.int j)=decide (i=j):=by
  by_cases h:i=j
  ·subst h;simp
  ·rw[decide_eq_false h,decide_eq_false λe=>h (V.int.inj e)]
 rw[e];exact q⟩
def hJ:yG (λx y H Q=>y=.ez/\Q (.bl (decide (x=.ez))) H) x .ez H (.bl (decide (x=.ez))):=λ_ q=>⟨rfl,q⟩
def bM(h:H p=some (.lst xs))(ha:Dq xs i=some v):yG (gY K) (.ref p) (.int i) H v:=λ_ q=>⟨p,xs,i,v,rfl,rfl,cG.of h,ha,q⟩
def FX(h:cG K H p xs)(ha:Dq xs i=some v):yG (gY K) (.ref p) (.int i) H v:=λ_ q=>⟨p,xs,i,v,rfl,rfl,h,ha,q⟩
def hG(h:H p=some (.tup xs))(ha:Dq xs i=some v):yG (qS K) (.ref p) (.int i) H v:=λ_ q=>⟨p,xs,i,v,rfl,rfl,uh.of h,ha,q⟩
def FW(h:uh K H p xs)(ha:Dq xs i=some v):yG (qS K) (.ref p) (.int i) H v:=λ_ q=>⟨p,xs,i,v,rfl,rfl,h,ha,q⟩
def aD(h:Ev t σ H (.bl c)):za (qx t) σ H c:=λ_ q=>h _ ⟨c,rfl,q⟩
def yh(h:Ev t σ H (.bl c)):za (tB t) σ H c:=λ_ q=>h _ ⟨c,rfl,q⟩
def jg(h1:za u σ H c)(h2:c=false->za u' σ H d):za (O1 u u') σ H (c||d):=λQ q=>h1 _ (by
 cases c with
 |true=>exact q
 |false=>exact h2 rfl _ q)
def Bv(h1:za u σ H c)(h2:c=true->za u' σ H d):za (N0 u u') σ H (c&&d):=λQ q=>h1 _ (by
 cases c with
 |true=>exact h2 rfl _ q
 |false=>exact q)
def Bu(h:za u σ H c):za (LK u) σ H (!c):=λ_ q=>h _ q
def Bt(h1:Ev ta σ H (.bl c))(h2:c=true->Ev tb σ H (.bl d)):Ev (Ln ta tb) σ H (.bl (c&&d)):=λQ q=>h1 _ ⟨c,rfl,by
 cases c with
 |true=>exact h2 rfl _ q
 |false=>exact q⟩
def au:tD jC σ H []:=λ_ q=>q
def ae(h:Ev t σ H x)(h2:tD tl σ H vs):tD (fZ t tl) σ H (x :: vs):=λ_ q=>h _ (h2 _ q)
def dG(h:tD tl σ H vs)(hr:Lk rr vs H v):Ev (Ke rr tl) σ H v:=λ_ q=>h _ (hr _ q)
def ff(h:H p=some (.lst xs)):Lk (λxs H Q=> ∃p ys,xs=[.ref p]/\(cG K H p ys\/uh K H p ys)/\Q (.int ys.length) H) [.ref p] H (.int xs.length):=
 λ_ q=>⟨p,xs,rfl,.inl (cG.of h),q⟩
def JN(h:cG K H p xs):Lk (λxs H Q=> ∃p ys,xs=[.ref p]/\(cG K H p ys\/uh K H p ys)/\Q (.int ys.length) H) [.ref p] H (.int xs.length):=
 λ_ q=>⟨p,xs,rfl,.inl h,q⟩
def ER:Lk (λxs H Q=> ∃i j,xs=[.int i,.int j]/\Q (.int (if j > i then j else i)) H) [.int i,.int j] H (.int (max i j)):=
 λ_ q=>⟨i,j,rfl,by
  have e:(if j > i then j else i)=max i j:=by
   by_cases h:j > i
   ·rw[ai h];omega
   ·rw[ag h];omega
  rw[e];exact q⟩
def MC:Lk (λxs H Q=> ∃i j,xs=[.int i,.int j]/\Q (.int (if j<i then j else i)) H) [.int i,.int j] H (.int (min i j)):=
 λ_ q=>⟨i,j,rfl,by
  have e:(if j<i then j else i)=min i j:=by
   by_cases h:j<i
   ·rw[ai h];omega
   ·rw[ag h];omega
  rw[e];exact q⟩
def jr{td ty:TE}{o:Option V}{v:V}(h1:Ev td σ H (.ref p))(h2:Ev ty σ H y)(g:ja H p y (some v)):Ev (Ik td ty) σ H v:=
 λ_ q=>h1 _ (h2 _ ⟨p,v,rfl,g,q⟩)
def Mz(h1:Ev ty σ H y)(h2:Ev td σ H (.ref p))(g:ja H p y o):Ev (MX ty td) σ H (.bl o.isSome):=
 λ_ q=>h1 _ (h2 _ ⟨p,o,rfl,g,q⟩)
def mx(h1:Ev ty σ H y)(h2:Ev td σ H (.ref p))(g:ja H p y o):Ev (AF ty td) σ H (.bl (!o.isSome)):=
 λ_ q=>h1 _ (h2 _ ⟨p,o,rfl,g,q⟩)
def JG(h1:Ev td σ H (.ref p))(hd:Oe H p)(h2:Ev ty σ H y)(g:ja H p y o):Ev (Ij td ty) σ H (o.getD .ez):=
 λ_ q=>h1 _ ⟨p,rfl,hd,h2 _ ⟨o,g,q⟩⟩
variable {D:Ends} {s s':TS} {n:Nat} {Q:VK}
def bY(h:Ev te σ H v)(k:D.nx (σ.set n (some v)) H):DR te (gi n) D σ H:=h _ k
def bc(h:Ev te σ H v)(k:D.rt v H):DQ te D σ H:=h _ k
def aL(h:s { D with nx:=s' D } σ H):oR s s' D σ H:=h
def xm(h:za u σ H b)(h1:b=true->s D σ H)(h2:b=false->s' D σ H):yI u s s' D σ H:=h _ (by
 cases b with
 |true=>exact h1 rfl
 |false=>exact h2 rfl)
def Iy(h0:σ[n]? =some (some (.int i)))(h:Ev te σ H (.int j))(k:D.nx (σ.set n (some (.int (g i j)))) H):MZ n te (OO g) D σ H:=
 ⟨_,h0,h _ ⟨i,j,rfl,rfl,k⟩⟩
def cS(h:Ev te σ H y)(ho:Ev ta σ H (.ref p))(hp:H p=some (.ins C dx fs))(cl:vW K C)(na:bf K C f)(l:fs.length<1000)(k:D.nx σ (upd H p (.ins C dx (bI f y fs)))):E4 K ta te f D σ H:=
 h _ (ho _ ⟨p,C,dx,fs,rfl,hp,cl,na,l,k⟩)
def Iz(ho:Ev to σ H (.ref p))(ha:tD tl σ H [y])(hp:H p=some (.lst xs))(hl:xs.length<sizeLine)(k:D.nx σ (upd H p (.lst (xs++[y])))):zH (Lm K "list" jS to tl) D σ H:=
 ho _ ⟨.inl ⟨rfl,_,cG.of hp⟩,ha _ ⟨p,xs,y,rfl,rfl,hp,hl,k⟩⟩
def aS(h:tD tl σ H vs)(k:sp (vs++dvs) H Q E):oS sp dvs E tl σ H Q:=h _ k
def aR(h:te σ H D.rt):DQ te D σ H:=h
def cA(h:te σ H λx H1=>D.nx (σ.set n (some x)) H1):DR te (gi n) D σ H:=h
def gX(h:te σ H λ_ H1=>D.nx σ H1):zH te D σ H:=h
def Na(h:u σ H λb H1=>if b=true then s D σ H1 else s' D σ H1):yI u s s' D σ H:=h
def rN{Q:Bool->Hp->Prop}(h:u σ H λc H1=>Q (!c) H1):LK u σ H Q:=h
def GI{Q:Bool->Hp->Prop}(h:t σ H λx H1=> ∃c,x=.bl c/\Q c H1):tB t σ H Q:=h
def IJ{Q:Bool->Hp->Prop}(h:t σ H λx H1=> ∃c,x=.bl c/\Q c H1):qx t σ H Q:=h
def dY(h:tD tl σ H vs)(hl:vs.length<=sizeLine)(k:∀q,H q=none->Q (.ref q) (upd H q (.lst vs))):C6 tl σ H Q:=h _ ⟨hl,k⟩
def zO(h:tD tl σ H vs)(hl:vs.length<=sizeLine)(k:∀q,H q=none->Q (.ref q) (upd H q (.tup vs))):Kd tl σ H Q:=h _ ⟨hl,k⟩
def qR(h:tD tl σ H vs)
  (k:∀x dx,H x=none->H dx=none->dx≠x->sp (.ref x :: (vs++dvs)) (upd (upd H dx (.own x)) x (.ins C dx [])) (λv H2=>v=.ez/\Q (.ref x) H2) E):lZ C sp dvs E tl σ H Q:=h _ k
def cQ(h:Ev t σ H v)(k:Q v H):t σ H Q:=h _ k
def Cq{Q:Bool->Hp->Prop}(h:za u σ H c)(k:Q c H):u σ H Q:=h _ k
def Lq{Q:List V->Hp->Prop}(h:tD tl σ H vs)(k:Q vs H):tl σ H Q:=h _ k
end
def IT(hg:Gl X x)(hm:∃t,X.mg x=some (.int i t))(hd:(x==("__debug__" :Str))=false:=by decide):PE X (.Name x pos) (tC (.int i)):=by
 obtain⟨t,h⟩:=hm;exact B2 hg h ⟨t,rfl⟩ hd
section
variable {t ta tb tc te:TE} {u u':TT} {tl:TA} {σ:St} {H:Hp} {v x y z:V} {vs:List V} {b c d:Bool} {D:Ends} {s s':TS} {n:Nat} {Q:VK}
def E3(k:D.nx σ H):rz D σ H:=k
def b7(h:za u σ H b)(h1:b=true->s { D with nx:=s' D } σ H)(h2:b=false->s' D σ H):oR (yI u s rz) s' D σ H:=xm h h1 h2
def nV(h:u σ H λb H1=>if b=true then s { D with nx:=s' D } σ H1 else s' D σ H1):oR (yI u s rz) s' D σ H:=h
end
structure Ext(G H G' H':Hp):Prop where
 gg:aG G G'
 hh:aG H H'
 gh:aG G' H'
 new:∀b,G b=none->∀o,G' b=some o->H b=none
theorem Ext.refl(s:aG G H):Ext G H G H:=⟨.refl _,.refl _,s,λb h o e=>by rw[h] at e;cases e⟩
theorem Ext.trans(a:Ext G H G1 H1)(b:Ext G1 H1 G2 H2):Ext G H G2 H2:=by
 refine⟨a.gg.trans b.gg,a.hh.trans b.hh,b.gh,λc hc o e=>?_⟩;cases q:G1 c with
 |none=>exact a.hh.free (b.new c q o e)
 |some u=>exact a.new c hc u q
def Ext.lay(s:aG G H)(hp:H p=none)(o:HO):Ext G H (upd G p o) (upd H p o):=by
 have gp:G p=none:=s.free hp;refine⟨λb q e=>?_,λb q e=>?_,λb q e=>?_,λb hb q e=>?_⟩
 ·rw[aw (aJ e gp)];exact e
 ·rw[aw (aJ e hp)];exact e
 ·by_cases h:b=p
  ·subst h;rw[ah] at e⊢;exact e
  ·rw[aw h] at e⊢;exact s b q e
 ·by_cases h:b=p
  ·subst h;exact hp
  ·rw[aw h] at e;rw[hb] at e;cases e
def Ext.grow(s:aG G H)(h:aG H H'):Ext G H G H':=⟨.refl _,h,s.trans h,λb hb o e=>by rw[hb] at e;cases e⟩
def Ext.zT(a:Ext G H G' H')(h:H m=some o)(g:G m=none):G' m=none:=by
 cases q:G' m with
 |none=>rfl
 |some u=>have:=a.new m g u q;rw[h] at this;cases this
theorem aG.upd(hp:H p=none)(o:HO):aG H (upd H p o):=λb q e=>by rw[aw (aJ e hp)];exact e
def aG.C3(s:aG G H)(hp:G p=none)(o:HO):aG G (ao H p o):=λb q e=>by rw[aw (aJ e hp)];exact s b q e
def Ext.wr(a:Ext G H G1 H1)(hp:H p=none)(gp:G1 p=none)(o:HO):Ext G H G1 (ao H1 p o):=
 ⟨a.gg,λb q e=>by rw[aw (aJ e hp)];exact a.hh b q e,a.gh.C3 gp o,a.new⟩
def Ext.keep(a:Ext G H G1 H1)(hp:H p=none)(gp:G1 p=none)(h1:H1 p=some o):Ext G H (ao G1 p o) H1:=by
 refine⟨λb q e=>?_,a.hh,λb q e=>?_,λb hb q e=>?_⟩
 ·have:=a.gg b q e;rw[aw (aJ this gp)];exact this
 ·by_cases h:b=p
  ·subst h;rw[ah] at e;rw[<- e];exact h1
  ·rw[aw h] at e;exact a.gh b q e
 ·by_cases h:b=p
  ·subst h;exact hp
  ·rw[aw h] at e;exact a.new b hb q e
def Ext.bound(a:Ext G H G1 H1)(hp:H1 p=none):H p=none:=a.hh.free hp
section
variable {t ta tb tc te:TE} {u u':TT} {tl:TA} {σ:b6} {H:Hp} {v x y z:V} {vs:List V} {b c d:Bool} {D:Ends} {s s':TS} {n:Nat} {Q:VK} {K:bg}
def du(h:tD tl σ H vs)(k:∀Q:VK,Q v H->sp (vs++dvs) H Q E):Ev (oS sp dvs E tl) σ H v:=λ_ q=>h _ (k _ q)
def HZ(Pv:Nat->b6->Hp->Prop)(m0:Nat)(h0:Pv m0 σ H)
  (hs:∀m σ H,Pv m σ H->∃b,za u σ H b/\(b=true->s { D with nx:=λσ' H'=> ∃m',m'<m/\Pv m' σ' H',ct:=λσ' H'=> ∃m',m'<m/\Pv m' σ' H',bk:=D.nx } σ H)/\(b=false->D.nx σ H)):Ic u s D σ H:=by
 refine⟨Pv,⟨m0,h0⟩,λm σ H p=>?_⟩;obtain⟨b,e,h1,h2⟩:=hs m σ H p;refine e _ ?_;cases b with
 |true=>exact⟨_,λσ' H' q=>q,h1 rfl⟩
 |false=>exact h2 rfl
def jX(ho:Ev to σ H (.ref p))(hp:H p=some (.lst xs0))
  (ht:t σ H λy H2=>jS (.ref p) [y] H2 λ_ H1=>D.nx σ H1):zH (Lm K "list" jS to (fZ t jC)) D σ H:=
 ho _ ⟨.inl ⟨rfl,_,cG.of hp⟩,ht⟩
def uf(hp:H p=some (.lst xs))(hl:xs.length<sizeLine)(k:Q .ez (ao H p (.lst (xs++[y])))):jS (.ref p) [y] H Q:=⟨p,xs,y,rfl,rfl,hp,hl,k⟩
end
section
variable {t ta tb tc te:TE} {tl:TA} {σ:b6} {H:Hp} {Q:VK} {QA:List V->Hp->Prop} {C:Addr}
def mP(h:tl σ H λvs H1=> ∀x dx,H1 x=none->H1 dx=none->dx≠x->sp (.ref x :: (vs++dvs)) (ao (ao H1 dx (.own x)) x (.ins C dx [])) (λv H2=>v=.ez/\Q (.ref x) H2) E):lZ C sp dvs E tl σ H Q:=h
def aY(h:t σ H λx H1=>tl σ H1 λxs H2=>QA (x :: xs) H2):fZ t tl σ H QA:=h
def cV(h:QA [] H):jC σ H QA:=h
def mQ(h:tl σ H λvs H1=>sp (vs++dvs) H1 Q E):oS sp dvs E tl σ H Q:=h
end
def rO{ta te:TE}{σ:b6}{H:Hp}{D:Ends}{K:bg}{f:Str}(h:te σ H λy H1=>ta σ H1 λx H2=> ∃a C dx fs,x=.ref a/\H2 a=some (.ins C dx fs)/\vW K C/\bf K C f/\fs.length<1000/\D.nx σ (ao H2 a (.ins C dx (bI f y fs)))):E4 K ta te f D σ H:=h
def Fo{to:TE}{σ:b6}{H:Hp}{Q:VK}{K:bg}{p:Addr}{xs:List V}{y:V}(ho:Ev to σ H (.ref p))(hp:H p=some (.lst (xs++[y])))(k:Q y (ao H p (.lst xs))):MY K "list" Ng to σ H Q:=
 ho _ ⟨.inl ⟨rfl,_,cG.of hp⟩,p,_,y,rfl,rfl,hp,by simp,by rw[List.dropLast_concat];exact k⟩
def rP{to:TE}{tl:TA}{σ:b6}{H:Hp}{Q:VK}{K:bg}{p:Addr}{xs:List V}{y:V}(ho:Ev to σ H (.ref p))(ha:tD tl σ H [y])(hp:H p=some (.lst xs))(hl:xs.length<sizeLine)(k:Q .ez (ao H p (.lst (xs++[y])))):Lm K "list" jS to tl σ H Q:=
 ho _ ⟨.inl ⟨rfl,_,cG.of hp⟩,ha _ ⟨p,xs,y,rfl,rfl,hp,hl,k⟩⟩
def pG(h:Ev ta σ H (.int i)):Ev (O0 (rU λi=>.int (-i)) ta) σ H (.int (-i)):=λ_ q=>h _ ⟨i,rfl,q⟩
def E2(P:Hp->Prop)(k:∀H',P H'->s' D σ' H')(h:(∀H',P H'->s' D σ' H')->s { D with nx:=s' D } σ H):oR s s' D σ H:=h k
def Km(P:b6->Hp->Prop)(k:∀σ' H',P σ' H'->s' D σ' H')(h:(∀σ' H',P σ' H'->s' D σ' H')->s { D with nx:=s' D } σ H):oR s s' D σ H:=h k
def Iw{K:bg}{tl:TE}{g:TG}{tb:TS}{D:Ends}{σ:b6}{H:Hp}{a:Addr}{xs:List V}(h:Ev tl σ H (.ref a))(hx:cG K H a xs)(Pv:Nat->b6->Hp->Prop)(h0:Pv 0 σ H)(hl:∀i σ H,i<=xs.length->Pv i σ H->cG K H a xs)
  (hs:∀i x σ H,xs[i]? =some x->Pv i σ H->g x σ H λσ2 H2=>tb { D with nx:=Pv (i+1),ct:=Pv (i+1),bk:=D.nx } σ2 H2) (hd:∀σ H,Pv xs.length σ H->D.nx σ H):Gz (A0 K tl) g tb D σ H:=
 h _ ⟨a,rfl,⟨_,hx⟩,D6 (K:=K) (a:=a) (xs:=xs) Pv h0 hl hs hd⟩
structure fY(M:List Addr)(G H G' H':Hp):Prop where
 gg:aG G G'
 gh:aG G' H'
 keep:∀b o,H b=some o->b∉M->H' b=some o
 new:∀b,G b=none->∀o,G' b=some o->H b=none\/b∈M
def Ext.En(a:Ext G0 H0 G H)(m:fY M G H G' H')(hM:∀x∈M,H0 x=none):Ext G0 H0 G' H':=by
 refine⟨a.gg.trans m.gg,λb o e=>m.keep b o (a.hh b o e) λz=>?_,m.gh,λb hb o e=>?_⟩
 ·rw[hM b z] at e;cases e
 ·cases q:G b with
  |none=>
   rcases m.new b q o e with z |z
   ·exact a.hh.free z
   ·exact hM b z
  |some u=>exact a.new b hb u q
theorem fY.refl(s:aG G H):fY M G H G H:=⟨.refl _,s,λ_ _ e _=>e,λb hb o e=>by rw[hb] at e;cases e⟩
def fY.wr(m:fY M G H G' H')(hp:p∈M)(gp:G' p=none)(o:HO):fY M G H G' (ao H' p o):=
 ⟨m.gg,m.gh.C3 gp o,λb q e hb=>by rw[aw λz=>hb (by rw[z];exact hp)];exact m.keep b q e hb,m.new⟩
def fY.ext(m:fY M G H G1 H1)(x:Ext G1 H1 G2 H2)(hin:∀b,H b=none\/b∈M\/∃o,H1 b=some o):fY M G H G2 H2:=by
 refine⟨m.gg.trans x.gg,x.gh,λb o e hb=>x.hh _ _ (m.keep b o e hb),λb hb o e=>?_⟩;cases q:G1 b with
 |none=>
  have h1:=x.new b q o e
  rcases hin b with z |z | ⟨o',z⟩
  ·exact .inl z
  ·exact .inr z
  ·rw[h1] at z;cases z
 |some u=>exact m.new b hb u q
def fY.ext'(m:fY M G H G1 H1)(x:Ext G1 H1 G2 H2):fY M G H G2 H2:=m.ext x λb=>by
 by_cases hb:b∈M
 ·exact .inr (.inl hb)
 ·cases q:H b with
  |none=>exact .inl rfl
  |some o=>exact .inr (.inr ⟨o,m.keep b o q hb⟩)
def fY.Jk(m:fY M G H G' H')(hp:p∈M)(gp:G' p=none)(h1:H' p=some o):fY M G H (ao G' p o) H':=by
 refine⟨λb q e=>?_,λb q e=>?_,m.keep,λb hb q e=>?_⟩
 ·have:=m.gg b q e;rw[aw (aJ this gp)];exact this
 ·by_cases h:b=p
  ·subst h;rw[ah] at e;rw[<- e];exact h1
  ·rw[aw h] at e;exact m.gh b q e
 ·by_cases h:b=p
  ·subst h;exact .inr hp
  ·rw[aw h] at e;exact m.new b hb q e
inductive bF{α β:Type}(R:α->β->Prop):List α->List β->Prop
 |nil:bF R [] []
 |cons {a:α} {b:β} {l:List α} {m:List β}:R a b->bF R l m->bF R (a :: l) (b :: m)
section
variable {α β:Type} {R S:α->β->Prop}
theorem bF.length(h:bF R l m):l.length=m.length:=by
 induction h with
 |nil=>rfl
 |cons _ _ ih=>simp[ih]
def bF.mono(h:bF R l m)(f:∀a b,R a b->S a b):bF S l m:=by
 induction h with
 |nil=>exact .nil
 |cons r _ ih=>exact .cons (f _ _ r) ih
def bF.append(h:bF R l m)(h':bF R l' m'):bF R (l++l') (m++m'):=by
 induction h with
 |nil=>exact h'
 |cons r _ ih=>exact .cons r ih
def bF.snoc(h:bF R l m)(r:R a b):bF R (l++[a]) (m++[b]):=h.append (.cons r .nil)
def bF.get(h:bF R l m):∀{i:Nat}{a:α},l[i]? =some a->∃b,m[i]? =some b/\R a b:=by
 induction h with
 |nil=>intro i a e;simp at e
 |cons r _ ih=>
  intro i a e;cases i with
  |zero=>simp at e;subst e;exact⟨_,rfl,r⟩
  |succ i=>obtain⟨b,h1,h2⟩:=ih (by simpa using e);exact⟨b,by simpa using h1,h2⟩
def bF.get'(h:bF R l m):∀{i:Nat}{b:β},m[i]? =some b->∃a,l[i]? =some a/\R a b:=by
 induction h with
 |nil=>intro i a e;simp at e
 |cons r _ ih=>
  intro i a e;cases i with
  |zero=>simp at e;subst e;exact⟨_,rfl,r⟩
  |succ i=>obtain⟨b,h1,h2⟩:=ih (by simpa using e);exact⟨b,by simpa using h1,h2⟩
theorem bF.take(h:bF R l m):∀(n:Nat),bF R (l.take n) (m.take n):=by
 induction h with
 |nil=>intro n;simp;exact .nil
 |cons r _ ih=>
  intro n;cases n with
  |zero=>simp;exact .nil
  |succ n=>simp;exact .cons r (ih n)
end
theorem take_snoc:∀{l:List α}{i:Nat}{x:α},l[i]? =some x->l.take (i+1)=l.take i++[x]
 | [],i,x,h=>by simp at h
 |a :: l,0,x,h=>by
  have e:a=x:=Option.some.inj h;subst e;rfl
 |a :: l,i+1,x,h=>by
  have ih:=take_snoc (l:=l) (i:=i) (x:=x) h;show a :: l.take (i+1)=a :: l.take i++[x];rw[ih];rfl
abbrev nv(n:Nat):V:=.int (n:Int)
abbrev bZ(l:List Nat):List V:=l.map nv
def jm{l:List Nat}{i n:Nat}(h:l[i]? =some n):(bZ l)[i]? =some (nv n):=by rw[cU,h];rfl
def big(h:n<=100000):n<sizeLine:=Ap h (by decide)
def HI(h:n<=100000):n<=sizeLine:=wJ (big h)
def LC:bootBuiltins "len" =some (.builtin "len"):=by decide+kernel
def vi:bootBuiltins "max" =some (.builtin "max"):=by decide+kernel
def Gd:bootBuiltins "min" =some (.builtin "min"):=by decide+kernel
def K1:bootBuiltins "all" =some (.builtin "all"):=by decide+kernel
def NL:bootBuiltins "any" =some (.builtin "any"):=by decide+kernel
def Dp:bootBuiltins "sorted" =some (.builtin "sorted"):=by decide+kernel
def F5:bootBuiltins "list" =some (.type "list"):=by decide+kernel
def Lc:bootBuiltins "range" =some (.type "range"):=by decide+kernel
def NK:bootBuiltins "set" =some (.type "set"):=by decide+kernel
section
variable {X:Cx}
def HE:lA X (.type "range") (λxs H Q=> ∃j:Int,xs=[.int j]/\∀p,H p=none->Q (.ref p) (upd H p (.LQ 0 j))):=by
 intro pins s σ H xs us Q I r h;obtain⟨j,rfl,q⟩:=h;obtain⟨u,rfl,rx⟩:=vals1 r;obtain⟨t,rfl⟩:=rx;refine call_range_1 ?_;have I2:Inv X pins σ (upd H s.heap.objs.size (.LQ 0 j)) { s with heap:=s.heap.push { cls:=.type "range",data:=.fields #[.int 0 s.toks,.int j t,.int 1 (s.toks+1)] },toks:=s.toks+1+1 }:=
  I.laid (t':=s.toks+1+1) (λb o e=>dF _ e) (bx _) (show eP X.prog X.w _ _ _ (.LQ 0 j) from⟨_,_,_,eG _ rfl⟩)
 exact⟨.ref s.heap.objs.size,_,I2,rfl,q _ (I.bP.fresh (bx _))⟩
def C0:∀(n:Nat)(acc:List Value),acc.length=n->(∀(i:Nat)(v:Value),acc[i]? =some v->∃t,v=.int (i:Int) t)->Vals (bZ (List.range n)) acc:=by
 intro n
 induction n with
 |zero=>
  intro acc hl _;cases acc with
  |nil=>exact .nil
  |cons _ _=>simp at hl
 |succ n ih=>
  intro acc hl h;have hne:acc≠[]:=by intro e;rw[e] at hl;simp at hl
  obtain⟨init,last,rfl⟩ :∃init last,acc=init++[last]:=⟨acc.dropLast,acc.getLast hne,(zb hne).symm⟩;have hl':init.length=n:=by simp at hl;exact hl
  rw[List.range_succ,show bZ (List.range n++[n])=bZ (List.range n)++[nv n] from wN];refine Vals.append (ih init hl' λi v e=>h i v ?_) ?_
  ·rw[kM (dm.mp e).1];exact e
  ·obtain⟨t,e⟩:=h n last (by rw[nJ (by omega)];simp[hl']);exact .cons ⟨t,e⟩ .nil
def yZ(hc:X.calm=true):lA X (.type "list") (λxs H Q=> ∃(a:Addr)(n:Nat),xs=[.ref a]/\H a=some (.LQ 0 n)/\n<=1000/\∀p,H p=none->Q (.ref p) (upd H p (.lst (bZ (List.range n))))):=by
 intro pins s σ H xs us Q I r h;obtain⟨a,n,rfl,ha,hn,q⟩:=h;obtain⟨u,rfl,rx⟩:=vals1 r;cases rx;obtain⟨t,u,v,e⟩:=I.bP a _ ha;have hs:Builtin.Range.rangeSize 0 (n:Int) 1=(n:Int):=by rw[rangeSize_one];split<;>omega
 refine call_list_range (a:=0) (b:=(n:Int)) (c:=1) (n:=n) (I.ok.hd hc) (show IsRange s.heap a 0 (n:Int) 1 t u v from e) (small_one (by decide) (by decide) (by omega) (by omega)) hs (by omega) λh' tk acc' c' kp e' hacc=>?_
 have hv:Vals (bZ (List.range n)) acc'.toList:=by
  refine C0 n acc'.toList (by simpa using hacc.1) λi v hv=>?_
  obtain⟨t,e⟩:=hacc.2 i v (by simpa using hv);exact⟨t,by rw[e];simp⟩
 have hz:(bZ (List.range n)).length<=sizeLine:=by rw[bD,wB];exact HI (by omega)
 exact⟨.ref s.heap.objs.size,_,I.laid (t':=tk) kp (bx _) (show eP X.prog X.w _ h' _ (.lst (bZ (List.range n))) from⟨hz,acc'.toList,c',hv,by rw[e']⟩),rfl,q _ (I.bP.fresh (bx _))⟩
end
section
variable {X:Cx}
def xx:tE X (binaryOp .FloorDiv) (rI (λ_ j=>0<j/\j<18446744073709551616) λi j=>.int (i / j)):=O4 λi j _ _ _ _ _ hc q=>by
 have h1:(0:Int)<j:=hc.1;have h2:j<18446744073709551616:=hc.2;refine floordiv_int (by omega) (by rw[Int.fdiv_eq_ediv_of_nonneg i (by omega)];exact q) (.inl (PyProof.noPylong_of_log2 ?_));have h3:j.natAbs≠0:=by omega
 have h4:j.natAbs<2 ^ 64:=by omega
 have:=(Nat.log2_lt h3).mpr h4;omega
end
def D9:yG (uG λi j=>.int (Builtin.bitOr i j)) (nv a) (nv b) H (nv (a ||| b)):=by
 have e:Builtin.bitOr (a:Int) (b:Int)=((a ||| b:Nat):Int):=by rw[NV.JY (by omega) (by omega)];rfl
 have:=bo (g:=λi j=>V.int (Builtin.bitOr i j)) (i:=(a:Int)) (j:=(b:Int)) (H:=H);rw[e] at this;exact this
def yi:yG (uG λi j=>.int (Builtin.bitAnd i j)) (nv a) (nv b) H (nv (a &&& b)):=by
 have e:Builtin.bitAnd (a:Int) (b:Int)=((a &&& b:Nat):Int):=by
  unfold Builtin.bitAnd;rw[decide_eq_true (by omega:(0:Int)<=(a:Int)),decide_eq_true (by omega:(0:Int)<=(b:Int))];rfl
 have:=bo (g:=λi j=>V.int (Builtin.bitAnd i j)) (i:=(a:Int)) (j:=(b:Int)) (H:=H);rw[e] at this;exact this
def Bw:yG (rI (λ_ j=>0<=j) λi j=>.int (i / 2 ^ j.toNat)) (nv a) (nv b) H (nv (a >>> b)):=by
 have e:(a:Int) / 2 ^ ((b:Int)).toNat=((a >>> b:Nat):Int):=by
  rw[Nat.shiftRight_eq_div_pow,oF];simp
 have:=L5 (g:=λi j=>V.int (i / 2 ^ j.toNat)) (C:=λ_ j=>0<=j) (i:=(a:Int)) (j:=(b:Int)) (H:=H) (DH _);rw[e] at this;exact this
def L4(hb:b<=1000):yG (rI MP λi j=>.int (i * 2 ^ j.toNat)) (.int 1) (nv b) H (nv (2 ^ b)):=by
 have e:(1:Int) * 2 ^ ((b:Int)).toNat=((2 ^ b:Nat):Int):=by
  rw[oF,Int.one_mul];simp
 have:=L5 (g:=λi j=>V.int (i * 2 ^ j.toNat)) (C:=MP) (i:=1) (j:=(b:Int)) (H:=H) ⟨DH _,by omega,by decide⟩;rw[e] at this;exact this
def ng:yG (uG λi j=>.int (i+j)) (nv a) (nv b) H (nv (a+b)):=by
 have:=bo (g:=λi j=>V.int (i+j)) (i:=(a:Int)) (j:=(b:Int)) (H:=H);rw[<- Int.natCast_add] at this;exact this
def n8:yG (uG λi j=>.int (i+j)) (nv a) (.int 1) H (nv (a+1)):=ng (b:=1)
def EK(h:a<18446744073709551616):yG (rI K9 λi j=>.int (i * j)) (nv a) (nv b) H (nv (a * b)):=by
 have:=L5 (g:=λi j=>V.int (i * j)) (C:=K9) (i:=(a:Int)) (j:=(b:Int)) (H:=H) (.inl ⟨by omega,by omega⟩);rw[<- Int.natCast_mul] at this;exact this
def Bx(h0:0<b)(h:b<18446744073709551616):yG (rI (λ_ j=>0<j/\j<18446744073709551616) λi j=>.int (i / j)) (nv a) (nv b) H (nv (a / b)):=by
 have:=L5 (g:=λi j=>V.int (i / j)) (C:=λ_ j=>0<j/\j<18446744073709551616) (i:=(a:Int)) (j:=(b:Int)) (H:=H) ⟨by omega,by omega⟩;rw[<- Int.natCast_ediv] at this;exact this
def bX:yG LW (nv a) (nv b) H (.bl (decide (a=b))):=by
 have e:decide ((a:Int)=(b:Int))=decide (a=b):=by
  by_cases h:a=b
  ·subst h;simp
  ·rw[decide_eq_false h,decide_eq_false (by omega)]
 have:=gI (i:=(a:Int)) (j:=(b:Int)) (H:=H);rw[e] at this;exact this
def sQ:Lk (λxs H Q=> ∃i j,xs=[.int i,.int j]/\Q (.int (if j > i then j else i)) H) [nv a,nv b] H (nv (max a b)):=by
 have:=ER (i:=(a:Int)) (j:=(b:Int)) (H:=H);rw[show max (a:Int) (b:Int)=((max a b:Nat):Int) by omega] at this;exact this
def wc:Lk (λxs H Q=> ∃i j,xs=[.int i,.int j]/\Q (.int (if j<i then j else i)) H) [nv a,nv b] H (nv (min a b)):=by
 have:=MC (i:=(a:Int)) (j:=(b:Int)) (H:=H);rw[show min (a:Int) (b:Int)=((min a b:Nat):Int) by omega] at this;exact this
abbrev Fq(K:bg):List V->Hp->VK->Prop:=λxs H Q=> ∃p ys,xs=[.ref p]/\(cG K H p ys\/uh K H p ys)/\Q (.int ys.length) H
section
variable {K:bg} {tl te:TE} {ta:TA} {tb:TS} {D:Ends} {σ:b6} {H:Hp} {a:Addr} {xs:List V} {Q:VK} {n i1 i2:Nat}
def Iv(h:tD ta σ H [.ref a])(hx:cG K H a xs)(Pv:Nat->b6->Hp->Prop)(h0:Pv 0 σ H)(hl:∀i σ H,i<=xs.length->Pv i σ H->cG K H a xs)
  (hs:∀i x σ H T,xs[i]? =some x->Pv i σ H->H T=none->tb { D with nx:=Pv (i+1),ct:=Pv (i+1),bk:=D.nx } ((σ.set i1 (some (nv i))).set i2 (some x)) (ao H T (.tup [nv i,x])))
  (hd:∀σ H,Pv xs.length σ H->D.nx σ H):Gz (Jp K ta) (EF K 2 (sN (gi i1) (sN (gi i2) JA))) tb D σ H:=by
 refine h _ ⟨a,xs,rfl,hx,λi m σ H=>m=xs.length - i/\i<=xs.length/\Pv i σ H,⟨xs.length,by simp,d8 _,h0⟩, ?_⟩;intro i m σ H z0;obtain⟨rfl,hi,p⟩:=z0;have q:=hl i σ H hi p;by_cases hlt:i<xs.length
 ·refine .inr ⟨⟨xs,xs[i],q,by simp[hlt]⟩,Pv (i+1),λσ' H' p'=>⟨xs.length - (i+1),by omega,rfl,hlt,p'⟩,λv H' y=>?_⟩;obtain⟨T,x,rfl,hT,rfl,hxx⟩:=y;exact⟨T,_,rfl,uh.of ah,rfl,_,_,rfl,_,_,rfl,rfl,hs i x σ H T (hxx xs q) p hT⟩
 ·have e:i=xs.length:=by omega
  subst e;exact .inl ⟨⟨xs,q,bx _⟩,hd σ H p⟩
def xp(h:Ev tl σ H (.ref a))(hx:cG K H a xs)(hlen:ys.length=xs.length)(hz:ys.length<=100000)(hn:n<σ.length)
  (he:∀(i:Nat)(x y:V)(H':Hp),xs[i]? =some x->ys[i]? =some y->aG H H'->Ev te ((wipe σ [n]).set n (some x)) H' y) (hq:∀D,H D=none->Q (.ref D) (ao H D (.lst ys))):
  Ig (A0 K tl) (gi n) vw te [n] σ H Q:=by
 refine h _ ⟨a,rfl,⟨_,hx⟩,λD hD=>?_⟩;refine FG (K:=K) (a:=a) (xs:=xs) (λi H'=>H'=ao H D (.lst (ys.take i))) (by simp) (λi H' _ e=>by rw[e];exact(aG.upd hD _).seq hx) ?_ ?_
 ·rintro i x H' hi rfl;have hiy:i<ys.length:=by rw[hlen];exact(dm.mp hi).1
  refine⟨?_, ?_⟩
  ·simp[wipe,List.set_set]
  ·unfold vw;dsimp only;rw[ai rfl];refine he i x ys[i] _ hi (c6 hiy) (aG.upd hD _) _ ⟨_,ah,by rw[nL];exact big (by omega), ?_⟩;rw[bS,take_snoc (c6 hiy)]
 ·rintro H' rfl;rw[<- hlen,rj];exact hq D hD
end
def N8{K:bg}{te:TE}{ta:TA}{σ:b6}{H:Hp}{a:Addr}{xs:List V}{Q:VK}{i1 i2:Nat}(h:tD ta σ H [.ref a])(hx:cG K H a xs)(Pv:Addr->Nat->Hp->Prop)
  (hw:∀a b,wipe (((wipe σ [i1,i2]).set i1 a).set i2 b) [i1,i2]=wipe σ [i1,i2]) (h0:∀D,H D=none->Pv D 0 (ao H D (.lst []))) (hl:∀D i H',Pv D i H'->cG K H' a xs)
  (hs:∀D i x H' T,H D=none->xs[i]? =some x->Pv D i H'->H' T=none->te (((wipe σ [i1,i2]).set i1 (some (nv i))).set i2 (some x)) (ao H' T (.tup [nv i,x])) λy H4=> ∃acc,H4 D=some (.lst acc)/\acc.length<sizeLine/\Pv D (i+1) (ao H4 D (.lst (acc++[y]))))
  (hd:∀D H',H D=none->Pv D xs.length H'->Q (.ref D) H'):Ig (Jp K ta) (EF K 2 (sN (gi i1) (sN (gi i2) JA))) vw te [i1,i2] σ H Q:=by
 refine h _ ⟨a,xs,rfl,hx,λD hD=>⟨λi m H=>m=xs.length - i/\i<=xs.length/\Pv D i H,⟨xs.length,by simp,d8 _,h0 D hD⟩, ?_⟩⟩;intro i m H' z0;obtain⟨rfl,hi,p⟩:=z0;have q:=hl D i H' p;by_cases hlt:i<xs.length
 ·refine .inr ⟨⟨xs,xs[i],q,by simp[hlt]⟩,Pv D (i+1),λH' p'=>⟨xs.length - (i+1),by omega,rfl,hlt,p'⟩,λv H2 y=>?_⟩;obtain⟨T,x,rfl,hT,rfl,hxx⟩:=y;refine⟨T,_,rfl,uh.of ah,rfl,_,_,rfl,_,_,rfl,rfl,hw _ _, ?_⟩;unfold vw;dsimp only;rw[ai rfl];exact hs D i x H' T hD (hxx xs q) p hT
 ·have e:i=xs.length:=by omega
  subst e;exact .inl ⟨⟨xs,q,bx _⟩,hd D H' hD p⟩
end L2
namespace bV
open PySem
def kI(xs:Array Nat):Prop:=xs.toList.Pairwise (· < ·)
def vZ{xs:Array Nat}(h:kI xs){i j:Nat}{x y:Nat}(hij:i<j)(hx:xs[i]? =some x)(hy:xs[j]? =some y):x<y:=by
 have hi:i<xs.toList.length:=by simpa using(uq.mp hx).1
 have hj:j<xs.toList.length:=by simpa using(uq.mp hy).1
 have q:=(List.pairwise_iff_getElem.mp h) i j hi hj hij;have e1:xs.toList[i]=x:=by simpa using(uq.mp hx).2
 have e2:xs.toList[j]=y:=by simpa using(uq.mp hy).2
 rw[e1,e2] at q;exact q
structure Gp(xs:Array Nat)(j r:Nat):Prop where
 le:r<=xs.size
 lo:∀k x,k<r->xs[k]? =some x->x<j
 hi:∀k x,r<=k->xs[k]? =some x->j<=x
theorem yw(hr:kI xs)(j:Nat):∀(fuel lo hi:Nat),hi - lo<=fuel->lo<=hi->hi<=xs.size->(∀k x,k<lo->xs[k]? =some x->x<j)->(∀k x,hi<=k->xs[k]? =some x->j<=x)->Gp xs j (SetTable.below.go xs j fuel lo hi)
 |0,lo,hi,hf,hl,hs,h1,h2=>by
  have e:lo=hi:=by omega
  subst e;unfold SetTable.below.go;exact⟨hs,h1,h2⟩
 |fuel+1,lo,hi,hf,hl,hs,h1,h2=>by
  unfold SetTable.below.go;by_cases hlt:lo<hi
  ·rw[ai hlt];have hm:(lo+hi) / 2<xs.size:=by omega
   have hg:xs[(lo+hi) / 2]? =some (xs.getD ((lo+hi) / 2) j):=by
    rw[jZ hm,Array.getD_eq_getD_getElem?,jZ hm];rfl
   by_cases hc:xs.getD ((lo+hi) / 2) j<j
   ·simp only[ai hc];refine yw hr j fuel _ _ (by omega) (by omega) hs (λk x hk hx=>?_) h2;by_cases hkm:k=(lo+hi) / 2
    ·subst hkm;rw[hg] at hx;cases hx;exact hc
    ·exact Nat.lt_trans (vZ hr (show k<(lo+hi) / 2 by omega) hx hg) hc
   ·simp only[ag hc];refine yw hr j fuel _ _ (by omega) (by omega) (by omega) h1 λk x hk hx=>?_
    by_cases hkm:k=(lo+hi) / 2
    ·subst hkm;rw[hg] at hx;cases hx;omega
    ·have:=vZ hr (show(lo+hi) / 2<k by omega) hg hx;omega
  ·rw[ag hlt];have e:lo=hi:=by omega
   subst e;exact⟨hs,h1,h2⟩
def below_at(hr:kI xs)(j:Nat):Gp xs j (SetTable.below xs j):=by
 unfold SetTable.below;refine yw hr j _ 0 _ (by omega) (d8 _) (bx _) (λk x h=>by omega) λk x hk hx=>?_
 have:=(uq.mp hx).1;omega
def DY{t:SetTable}(hr:kI t.place){j:Nat}(h:t.slot j=.empty):∀(k x:Nat),t.place[k]? =some x->x≠j:=by
 intro k x hx e;subst e;have b:=below_at hr x;have hk:SetTable.below t.place x<=k:=by
  by_cases z:k<SetTable.below t.place x
  ·have:=b.lo k x z hx;omega
  ·omega
 have hlt:SetTable.below t.place x<t.place.size:=by
  have:=(uq.mp hx).1;omega
 have hg:=jZ hlt;have h1:=b.hi _ _ (bx _) hg;have he:t.place[SetTable.below t.place x]? =some x:=by
  by_cases z:SetTable.below t.place x=k
  ·rw[z];exact hx
  ·have:=vZ hr (show SetTable.below t.place x<k by omega) hg hx;omega
 unfold SetTable.slot at h;simp[he] at h
def DZ{t:SetTable}(hd:t.dummies= #[])(j:Nat):t.slot j≠ .dummy:=by
 unfold SetTable.slot;dsimp only;split
 ·intro z;cases z
 ·rw[hd];have:SetTable.has #[] j=false:=by simp[SetTable.has]
  rw[this];simp
theorem uI(hd:t.dummies= #[]):∀(fuel:Nat)(p:SetTable.Probe)(j:Nat)(d:Option Nat),p.dummy=none->SetTable.probe.go t hashAt h fuel p=some (.empty j d)->d=none/\t.slot j=.empty
 |0,p,j,d,_,e=>by cases e
 |fuel+1,p,j,d,hp,e=>by
  unfold SetTable.probe.go at e;cases hs:t.slot p.j with
  |empty=>
   rw[hs] at e;simp at e;obtain⟨e1,e2⟩:=e;subst e1;subst e2;exact⟨hp,hs⟩
  |dummy=>exact aI hs (DZ hd _)
  |live i=>
   rw[hs] at e;simp only at e;split at e
   ·cases e
   ·refine uI hd fuel _ j d ?_ e;unfold SetTable.advance;split
    ·exact hp
    ·exact hp
def D5{t:SetTable}(hd:t.dummies= #[]){h:Int}{j:Nat}{wd:Bool}(e:t.freeSlot h=some (j,wd)):wd=false/\t.slot j=.empty:=by
 unfold SetTable.freeSlot at e;split at e
 ·rename_i j' d hp;unfold SetTable.probe at hp;obtain⟨q1,q2⟩:=uI hd _ _ j' d rfl hp;subst q1;cases e;exact⟨rfl,q2⟩
 ·cases e
def CV(hr:kI xs)(hn:∀(k x:Nat),xs[k]? =some x->x≠j):kI (SetTable.insertAt xs (SetTable.below xs j) j):=by
 have b:=below_at hr j;unfold kI;rw[SetTable.toList_insertAt];have h1:∀x∈xs.toList.take (SetTable.below xs j),x<j:=by
  intro x hx;obtain⟨i,hi⟩:=lS hx;rw[List.getElem?_take] at hi;split at hi
  ·exact b.lo i x (by assumption) (by simpa using hi)
  ·cases hi
 have h2:∀x∈xs.toList.drop (SetTable.below xs j),j<x:=by
  intro x hx;obtain⟨i,hi⟩:=lS hx;rw[DC] at hi;have hi':xs[SetTable.below xs j+i]? =some x:=by simpa using hi
  have:=b.hi _ x (by omega) hi';have:=hn _ x hi';omega
 have hp:=List.pairwise_append.mp (show(xs.toList.take (SetTable.below xs j)++xs.toList.drop (SetTable.below xs j)).Pairwise (· < ·) by rw[List.take_append_drop];exact hr);refine List.pairwise_append.mpr ⟨hp.1,DA.mpr ⟨h2,hp.2.1⟩,λa ha c hc=>?_⟩
 rcases bp.mp hc with rfl |hc
 ·exact h1 a ha
 ·exact hp.2.2 a ha c hc
structure Good(L:Bool)(t:SetTable):Prop where
 led:t.led=L
 rise:t.plain=true->t.dummies= #[]/\kI t.place
def Ex(L:Bool):Good L (.fresh 0 0 L):=⟨rfl,λ_=>⟨rfl,List.Pairwise.nil⟩⟩
def jU(h:Good L t)(n:Nat):Good L (t.standIn n):=⟨h.led,λz=>by cases z⟩
def D0{L:Bool}{t:SetTable}(g:Good L t)(es:Array (Int×Value))(h:Int)(x:Value):Good L (layNew t es h x).2.1:=by
 unfold layNew;split
 ·rename_i slot wd e;have gp:Good L (t.put slot).1:=by
   refine⟨g.led,λz=>?_⟩;obtain⟨hd,hr⟩:=g.rise z;obtain⟨_,hs⟩:=D5 hd e;refine⟨?_,CV hr (DY hr hs)⟩;have:SetTable.has #[] slot=false:=by simp[SetTable.has]
   simp[SetTable.put,hd,this]
  show Good L ((t.put slot).1.orStandIn _);unfold SetTable.orStandIn;split
  ·exact gp
  ·exact jU gp _
 ·exact jU g _
theorem CN(f:Nat->Option β):∀l:List Nat,((l.filterMap λj=>(f j).map λk=>(j,k)).map (·.1)).Sublist l
 | []=>.slnil
 |j :: l=>by
  have ih:=CN f l;rw[wI];cases f j with
  |none=>exact ih.cons _
  |some k=>exact ih.cons₂ _
def yW(g:Good L t)(es:Array (Int×Value))(wanted:Nat):Good L (relayAll t es wanted).2.1:=by
 unfold relayAll;split
 ·rename_i t' order e;dsimp only;split
  ·unfold SetTable.relaid SetTable.laid at e;simp only[Option.bind_eq_bind,dq,Option.pure_def,Option.some.injEq,Prod.mk.injEq] at e;obtain⟨owner,_,e1,_⟩:=e;subst e1;refine⟨g.led,λ_=>⟨rfl, ?_⟩⟩;unfold kI;simp only[List.toList_toArray];exact List.Pairwise.sublist (CN _ _) (List.pairwise_lt_range)
  ·exact jU g _
 ·exact jU g _
section
variable {prog:Program} {w:World} {A:Around} {E:Value->Shared->Prop} {s:Shared}
structure Tab(prog:Program)(w:World)(es:Array (Int×Value))(t:SetTable)(S:Int->Bool)(L:Bool):Prop where
 LA:ElemsOf (intKind prog w) es.toList
 mem:∀k,S k=true↔∃e∈es.toList,(intKind prog w).is k e.2=true
 few:es.size<scanBound
 fits:t.fits es.size=true
 good:Good L t
def qt(prog:Program)(w:World)(h:Heap)(a:Addr)(S:Int->Bool)(n:Nat)(L:Bool):Prop:=
 ∃o es ep t,h.get? a=some o/\o.ExactSet/\o.data=.set es ep t/\Tab prog w es t S L/\es.size=n
def wZ{h:Heap}{a:Addr}{o:Obj}{es es':Array (Int×Value)}{ep:Nat}{t t':SetTable}{S:Int->Bool}{L:Bool}(ho:h.get? a=some o)(hx:o.ExactSet)(hd:o.data=.set es ep t)(T:Tab prog w es' t' S L):
  (h.update a (Obj.putSet es' t')).get? a=some { o with data:=.set es' (ep+1) t' } /\qt prog w (h.update a (Obj.putSet es' t')) a S es'.size L:=by
 obtain⟨g,_⟩:=SetOf_store (knd:=intKind prog w) ho hx hd T.LA T.mem T.few T.fits;exact⟨g,_,es',ep+1,t',g,hx,rfl,T,rfl⟩
def K5{a:Addr}{S:Int->Bool}{n:Nat}{k:Int}{tk:Tok}{L:Bool}{Q:Bool->Shared->Prop}(hS:qt prog w s.heap a S n L)(room:n+1<scanBound)
  (fin:∀h',Heap.SameBut a s.heap h'->qt prog w h' a (λj=>S j||decide (j=k)) (if S k then n else n+1) L->Q (!S k) { s with heap:=h' }):
  wpAny (model prog w) A (setAddHashed a (.int k tk) ((intKind prog w).hash k)) Q E s:=by
 obtain⟨o,es,ep,t,ho,hx,hd,T,hn⟩:=hS;have isk:(intKind prog w).is k (.int k tk)=true:=intKind_is _ _ _ _;have sck:(Value.int k tk).scannable=true:=rfl;unfold setAddHashed setAddHashedIn;refine wpAny_holding (aB (wpAny_setState_of ho hd T.fits ?_));dsimp only;rw[byScan_of sck T.few T.LA];simp only[↓reduceIte];unfold setAddByScan;refine aB (aB (wpAny_rule (aB (wpAny_setScan_of isk ho hd T.fits T.LA ?_))));cases hr:List.findIdx? (λe=>(intKind prog w).is k e.2) es.toList with
 |some j=>
  dsimp only;obtain⟨hj,hpj,_⟩:=List.findIdx?_eq_some_iff_getElem.mp hr;have hk:S k=true:=(T.mem k).mpr ⟨es.toList[j],BU hj,hpj⟩;have q:=fin s.heap (Heap.SameBut.refl a s.heap) ⟨o,es,ep,t,ho,hx,hd,⟨T.LA,λi=>by
   rw[<- T.mem i,Bool.or_eq_true,decide_eq_true_eq];exact⟨λz=>z.elim (λy=>y) λy=>by rw[y];exact hk,λz=>.inl z⟩,T.few,T.fits,T.good⟩,by rw[hk];exact hn⟩
  rw[hk] at q;exact aM (aM q)
 |none=>
  dsimp only;have hk:S k=false:=by
   cases hk:S k with
   |false=>rfl
   |true=>
    obtain⟨e,he,hp⟩:=(T.mem k).mp hk;have:=List.findIdx?_eq_none_iff.mp hr e he;rw[hp] at this;cases this
  have way:∀(b:Bool){s1:Shared}{Q1:Unit->Shared->Prop},Q1 () s1->wpAny (model prog w) A (match b with |true=>rule "set.scan.the-table-gave-way" |false=>pure ()) Q1 E s1:=λb s1 Q1 z=>by
   cases b with
   |true=>exact wpAny_rule z
   |false=>exact aM z
  have perm:=layNew_perm t es ((intKind prog w).hash k) (.int k tk);have fits1:=layNew_fits t es ((intKind prog w).hash k) (.int k tk);have good1:=D0 T.good es ((intKind prog w).hash k) (.int k tk);generalize hN:layNew t es ((intKind prog w).hash k) (.int k tk)=N at perm fits1 good1⊢;obtain⟨es1,t1,wd,gave⟩:=N;dsimp only at perm fits1 good1⊢;rw[Array.toList_push] at perm;have size1:es1.size=n+1:=by rw[<- oG,perm.length_eq,dR,oG,hn,fD]
  have T1:Tab prog w es1 t1 (λj=>S j||decide (j=k)) L:=⟨(T.LA.push isk sck).perm perm,mem_push_iff isk T.mem perm,by rw[size1];exact room,fits1,good1⟩;have fin1:∀h',Heap.SameBut a s.heap h'->qt prog w h' a (λj=>S j||decide (j=k)) es1.size L->Q true { s with heap:=h' }:=λh' sb g=>by
   have q:=fin h' sb;rw[hk] at q;rw[size1] at g;exact q g
  refine aB (way _ ?_);have tail:∀t2:SetTable,Tab prog w es1 t2 (λj=>S j||decide (j=k)) L->wpAny (model prog w) A (do
    storeSet a es1 t2
    if (!wd&&t2.tooFull)=true then do
      (match (relayAll t2 es1 (SetTable.grown es1.size)).2.2 with |true=>rule "set.scan.the-table-gave-way" |false=>pure ())
      storeSet a (relayAll t2 es1 (SetTable.grown es1.size)).1 (relayAll t2 es1 (SetTable.grown es1.size)).2.1
      pure (some true)
     else pure (some true)) (λr s1=>r=some true/\Q true s1) E s:=by
   intro t2 T2;obtain⟨g1,S1⟩:=wZ (prog:=prog) (w:=w) ho hx hd T2;refine aB (wpAny_storeSet_of ho hd ?_ (fits_of_scanBound T2.few));have sb1:=Heap.SameBut.update s.heap a (Obj.putSet es1 t2);split
   ·have p2:=relayAll_perm t2 es1 (SetTable.grown es1.size);have f2:=relayAll_fits t2 es1 (SetTable.grown es1.size);have go2:=yW T2.good es1 (SetTable.grown es1.size);generalize hR:relayAll t2 es1 (SetTable.grown es1.size)=R at p2 f2 go2⊢;obtain⟨es2,t3,gave2⟩:=R;dsimp only at p2 f2 go2⊢;have size2:es2.size=es1.size:=by rw[<- oG,p2.length_eq,oG]
    have T3:Tab prog w es2 t3 (λj=>S j||decide (j=k)) L:=⟨T2.LA.perm p2,λj=>(T2.mem j).trans ⟨λ⟨e,he,z⟩ =>⟨e,p2.mem_iff.mpr he,z⟩,λ⟨e,he,z⟩ =>⟨e,p2.mem_iff.mp he,z⟩⟩,by rw[size2];exact T2.few,f2,go2⟩;refine aB (way _ ?_);refine aB (wpAny_storeSet_of g1 rfl ?_ (fits_of_scanBound T3.few));obtain⟨_,S2⟩:=wZ (prog:=prog) (w:=w) g1 hx rfl T3;rw[size2] at S2;exact aM ⟨rfl,fin1 _ (sb1.trans (Heap.SameBut.update _ a _)) S2⟩
   ·exact aM ⟨rfl,fin1 _ sb1 S1⟩
  have last:=wpAny_mono (tail t1 T1) (Q':=λr s1=>wpAny (model prog w) A (match r with
   |some added=>pure added
   |none=>setAddHashedIn a (.int k tk) ((intKind prog w).hash k) 99999) Q E s1) (λr s1 z=>by
    obtain⟨e,z⟩:=z;subst e;exact aM z) λ_ _ z=>z
  split
  ·rw[hashByValue_scannable 8 sck];exact aB (aM last)
  ·exact aB (aM last)
end
end bV
namespace bV
open PySem
def slot_next:Slot "set_iterator" "__next__" "set_iterator.__next__" :=
 .of (owner:= "set_iterator") (n:= "__next__") (by rw[typeLookup_type,builtinLookup_eq_fast];kernel_rfl) (by decide+kernel) (by decide+kernel) (by decide+kernel) (.inl (by decide+kernel)) (by rw[isSubtype_type];kernel_rfl)
def slot_self:Slot "set_iterator" "__iter__" "set_iterator.__iter__" :=
 .of (owner:= "set_iterator") (n:= "__iter__") (by rw[typeLookup_type,builtinLookup_eq_fast];kernel_rfl) (by decide+kernel) (by decide+kernel) (by decide+kernel) (.inl (by decide+kernel)) (by rw[isSubtype_type];kernel_rfl)
def entry_next:entryFor table "set_iterator.__next__" =some Builtin.«set_iterator.__next__» :=entryFor_of_tree (by kernel_rfl)
def EL:entryFor table "set.__iter__" =some Builtin.«frozenset.__iter__» :=entryFor_alias (id':= "frozenset.__iter__") (by kernel_rfl) rfl (by decide+kernel) (by kernel_rfl)
def entry_self:entryFor table "set_iterator.__iter__" =some Builtin.«dict_keyiterator.__iter__» :=entryFor_alias (id':= "dict_keyiterator.__iter__") (by kernel_rfl) rfl (by decide+kernel) (by kernel_rfl)
def args_next(a:Value):argsOk "set_iterator.__next__" ⟨[a],[]⟩:=by unfold argsOk;kernel_rfl
def args_self(a:Value):argsOk "set_iterator.__iter__" ⟨[a],[]⟩:=by unfold argsOk;kernel_rfl
end bV
namespace bV
open PySem
def hW(w:World):Bool:=w.params.followText "set-order"
section
variable {prog:Program} {w:World} {A:Around} {E:Value->Shared->Prop} {s:Shared}
def sX(h:Q (hW w) s):wpAny (model prog w) A setsByText Q E s:=by
 unfold setsByText;exact aB (wpAny_askSetting (aM h))
structure jz(h:Heap)(a:Addr)(es:Array (Int×Value))(ep:Nat)(t:SetTable):Prop where
 obj:∃o,h.get? a=some o/\o.cls=.type "set" /\o.data=.set es ep t
 fits:t.fits es.size=true
def zS(S:jz s.heap a es ep t)(hb:hW w=true)
  (h:Q (((pickOrder (w.params.setOrder a ep) es)[i]?).map λe=>(e.2,slot)) s):wpAny (model prog w) A (setNext a slot i ep) Q E s:=by
 obtain⟨o,ho,hc,hd⟩:=S.obj;unfold setNext;refine aB (wpAny_setState_of ho hd S.fits ?_);dsimp only;refine aB (sX ?_);rw[hb,ai rfl];have e:(ep != ep)=false:=by simp
 rw[e];simp only[nI,if_false];refine aB ?_;unfold setWalk;refine aB (wpAny_setState_of ho hd S.fits ?_);dsimp only;refine aB (sX ?_);rw[hb,ai rfl];refine aB (wpAny_askSetting (aM ?_));exact aM h
def xO(S:jz s.heap a es ep t)(hb:hW w=false)(hl:t.led=true)
  (hp:t.plain=true\/es.size<=1) (hi:SetTable.below t.place slot=i)
  (h:Q (match es[i]?,t.place[i]? with |some (_,x),some j=>some (x,j+1) |_,_=>none) s):wpAny (model prog w) A (setNext a slot i ep) Q E s:=by
 obtain⟨o,ho,hc,hd⟩:=S.obj;unfold setNext;refine aB (wpAny_setState_of ho hd S.fits ?_);dsimp only;refine aB (sX ?_);rw[hb];simp only[nI,if_false];show wpAny _ _ (if (!t.plain&&decide (es.size > 1))=true then _ else _) _ _ _;have e:(!t.plain&&decide (es.size > 1))=false:=by
  rcases hp with z |z
  ·rw[z];rfl
  ·rw[decide_eq_false (by omega)];simp
 rw[e];simp only[nI,if_false];refine aB (m:=ite ((!t.led&& !es.isEmpty)=true) (unsupported "set:maker-not-led") (pure ())) ?_;rw[hl];simp only[Bool.not_true,Bool.false_and,nI,if_false];rw[hi];exact aM (aM h)
def hZ(h:Heap)(I a:Addr)(first:Value)(i n ep:Nat):Prop:=h.get? I=some { cls:=.type "set_iterator",data:=.fields #[first,rawInt i,.ref a,rawInt n,rawInt ep] }
def sI(hI:hZ s.heap I a first i n ep)(S:jz s.heap a es ep t)(hs:es.size=n)
  (h:wpAny (model prog w) A (match first with
   |.int slot _=>do
    match <- setNext a slot.toNat i ep with
    |some (x,next)=>do
     setField (.ref I) 0 (rawInt next)
     setField (.ref I) 1 (rawInt ((i:Int)+1))
     ret x
    |none=>do
     setField (.ref I) 2 .none
     raiseNew (<- newExc (.type "StopIteration") [])
   |_=>do
    match <- seqItems? first with
    |some places=>
     match places[i]? with
     |some (.int place _)=>do
      let x <- setNextDrawn a place.toNat ep
      setField (.ref I) 1 (rawInt ((i:Int)+1))
      ret x
     |some _=>unsupported "internal:set_iterator"
     |none=>do
      setField (.ref I) 0 (rawInt 0)
      setField (.ref I) 2 .none
      raiseNew (<- newExc (.type "StopIteration") [])
    |_=>unsupported "internal:set_iterator") R F s):wpAny (model prog w) A (Builtin.«set_iterator.__next__» ⟨[.ref I],[]⟩) R F s:=by
 obtain⟨o,ho,hc,hd⟩:=S.obj;unfold Builtin.«set_iterator.__next__»;refine aB (aM ?_);refine aB (m:=fieldsOf (.ref I)) ?_;unfold fieldsOf;refine aB (wpAny_load hI ?_);refine aM ?_;show wpAny _ _ (setEntries a >>= _) _ _ _;refine aB (wpAny_setEntries_of ho hd S.fits ?_);have e:((es.size:Int) !=(n:Int))=false:=by rw[hs];simp
 show wpAny _ _ (if ((es.size:Int) !=(n:Int))=true then _ else _) _ _ _;rw[e];simp only[nI,if_false];exact h
def FK{I a:Addr}{slot i n ep next:Nat}{x:Value}{es:Array (Int×Value)}{t:SetTable}{Q:Option Value->Shared->Prop}(hI:hZ s.heap I a (rawInt slot) i n ep)(S:jz s.heap a es ep t)(hs:es.size=n)
  (hn:∀(A:Around)(Q:Option (Value×Nat)->Shared->Prop)(E:Value->Shared->Prop),Q (some (x,next)) s->wpAny (model prog w) A (setNext a slot i ep) Q E s)
  (hQ:∀h',hZ h' I a (rawInt next) (i+1) n ep->Heap.SameBut I s.heap h'->Q (some x) { s with heap:=h' }):wpAny (model prog w) A (pyNext (.ref I)) Q E s:=by
 have hT:s.TypeIs (.ref I) "set_iterator" :=⟨_,hI,rfl⟩;unfold pyNext;refine aB (wpAny_attempt (wpAny_callSpecial?_slot (name:=Str.ofString "__next__") hT slot_next (wpAny_call_entry slot_next hT entry_next (sI hI S hs ?_) (args_next _))));refine aB (hn _ _ _ ?_);dsimp only;refine aB (wpAny_setField hI rfl (by simp) ?_);refine aB (wpAny_setField (rm _ hI rfl) rfl (by simp[Obj.mapFields]) (aM ⟨x,rfl,aM (hQ _ ?_ ((Heap.SameBut.update ..).trans (Heap.SameBut.update ..)))⟩));have q:=rm (Obj.mapFields (·.setIfInBounds 1 (rawInt ((i:Int)+1)))) (rm (Obj.mapFields (·.setIfInBounds 0 (rawInt next))) hI rfl) rfl;exact q
def Jm{I a:Addr}{slot i n ep:Nat}{es:Array (Int×Value)}{t:SetTable}{Q:Option Value->Shared->Prop}(hh:A.handled=none)(hI:hZ s.heap I a (rawInt slot) i n ep)(S:jz s.heap a es ep t)(hs:es.size=n)
  (hn:∀(A:Around)(Q:Option (Value×Nat)->Shared->Prop)(E:Value->Shared->Prop),Q none s->wpAny (model prog w) A (setNext a slot i ep) Q E s)
  (hQ:∀h',Heap.ExtBut I s.heap h'->Q none { s with heap:=h' }):wpAny (model prog w) A (pyNext (.ref I)) Q E s:=by
 have hT:s.TypeIs (.ref I) "set_iterator" :=⟨_,hI,rfl⟩;unfold pyNext;refine aB (wpAny_attempt (wpAny_callSpecial?_slot (name:=Str.ofString "__next__") hT slot_next (wpAny_call_entry slot_next hT entry_next (sI hI S hs ?_) (args_next _))));refine aB (hn _ _ _ ?_);dsimp only;refine aB (wpAny_setField hI rfl (by simp) ?_);refine aB ?_;simp only[newExc,newTuple];refine aB (wpAny_newObj_type ?_ (by size_fits));refine aB (m:=firstArgMember _ _) (wpAny_of_eq (a:=Value.none) (by first |rfl |(simp only[firstArgMember];rfl)) ?_);refine wpAny_newObj_type ?_ (by size_fits);simp only[raiseNew];refine aB (wpAny_handled ?_);rw[show A.in1.handled=none from hh];refine aB (aM (wpAny_throw ?_));refine aB (wpAny_isInstance (T:= "StopIteration") (b:=true) ⟨_,eG _ rfl,rfl⟩ isSubtype_stop ?_);exact aM (hQ _ (((Heap.SameBut.update ..).extBut.push _).push _))
def Jl{I a tp:Addr}{i n ep p:Nat}{ps:Array Value}{nt:Nat}{ot:Obj}{x:Value}{hx:Int}{es:Array (Int×Value)}{t:SetTable}{Q:Option Value->Shared->Prop}(hI:hZ s.heap I a (.ref tp) i n ep)(S:jz s.heap a es ep t)(hs:es.size=n)
  (ht:s.heap.get? tp=some ot) (htd:ot.data=.seq ps nt) (hp:ps[i]? =some (rawInt p)) (hx:es[p]? =some (hx,x))
  (hQ:∀h',hZ h' I a (.ref tp) (i+1) n ep->Heap.SameBut I s.heap h'->Q (some x) { s with heap:=h' }):wpAny (model prog w) A (pyNext (.ref I)) Q E s:=by
 have hT:s.TypeIs (.ref I) "set_iterator" :=⟨_,hI,rfl⟩;obtain⟨o,ho,hc,hd⟩:=S.obj;unfold pyNext;refine aB (wpAny_attempt (wpAny_callSpecial?_slot (name:=Str.ofString "__next__") hT slot_next (wpAny_call_entry slot_next hT entry_next (sI hI S hs ?_) (args_next _))));dsimp only;refine aB (wpAny_seqItems ht htd ?_);dsimp only;rw[hp];dsimp only[rawInt];refine aB ?_;unfold setNextDrawn;refine aB (wpAny_setState_of ho hd S.fits ?_);have e:(ep != ep)=false:=by simp
 simp only[e,nI,if_false,oF,hx];refine aM (aB (wpAny_setField hI rfl (by simp) (aM ⟨x,rfl,aM (hQ _ ?_ (Heap.SameBut.update ..))⟩)));have q:=rm (Obj.mapFields (·.setIfInBounds 1 (rawInt ((i:Int)+1)))) hI rfl;exact q
def KR(hh:A.handled=none)(hI:hZ s.heap I a (.ref tp) i n ep)(S:jz s.heap a es ep t)(hs:es.size=n)
  (ht:s.heap.get? tp=some ot) (htd:ot.data=.seq ps nt) (hp:ps[i]? =none)
  (hQ:∀h',Heap.ExtBut I s.heap h'->Q none { s with heap:=h' }):wpAny (model prog w) A (pyNext (.ref I)) Q E s:=by
 have hT:s.TypeIs (.ref I) "set_iterator" :=⟨_,hI,rfl⟩;unfold pyNext;refine aB (wpAny_attempt (wpAny_callSpecial?_slot (name:=Str.ofString "__next__") hT slot_next (wpAny_call_entry slot_next hT entry_next (sI hI S hs ?_) (args_next _))));dsimp only;refine aB (wpAny_seqItems ht htd ?_);dsimp only;rw[hp];dsimp only;refine aB (wpAny_setField hI rfl (by simp) ?_);refine aB (wpAny_setField (rm _ hI rfl) rfl (by simp[Obj.mapFields]) ?_);refine aB ?_;simp only[newExc,newTuple];refine aB (wpAny_newObj_type ?_ (by size_fits));refine aB (m:=firstArgMember _ _) (wpAny_of_eq (a:=Value.none) (by first |rfl |(simp only[firstArgMember];rfl)) ?_);refine wpAny_newObj_type ?_ (by size_fits);simp only[raiseNew];refine aB (wpAny_handled ?_);rw[show A.in1.handled=none from hh];refine aB (aM (wpAny_throw ?_));refine aB (wpAny_isInstance (T:= "StopIteration") (b:=true) ⟨_,eG _ rfl,rfl⟩ isSubtype_stop ?_);exact aM (hQ _ ((((Heap.SameBut.update ..).trans (Heap.SameBut.update ..)).extBut.push _).push _))
end
end bV
namespace bV
open PySem
section
variable {prog:Program} {w:World} {A:Around} {E:Value->Shared->Prop} {s:Shared}
def EY(hn:n≠0)(h:∀i d,i<n->Q i { s with drawn:=d }):wpAny M A (choose src n) Q E s:=
 λ_ _ _=>⟨hn,h _ _ (Nat.mod_lt _ (Nat.pos_of_ne_zero hn))⟩
theorem r8:∀{l:List α}{i:Nat},l[i]? =some x->(x :: l.eraseIdx i).Perm l
 | [],i,h=>by simp at h
 |y :: l,0,h=>by simp at h;subst h;simp
 |y :: l,i+1,h=>by
  have ih:=r8 (l:=l) (i:=i) (by simpa using h);rw[List.eraseIdx_cons_succ];exact(List.Perm.swap _ _ _).trans (ih.cons _)
theorem De:∀(n:Nat)(xs:List α)(s:Shared)(Q:List α->Shared->Prop),xs.length<=n->(∀ys d,ys.Perm xs->Q ys { s with drawn:=d })->wpAny (model prog w) A (drawOrder n xs) Q E s
 |0,xs,s,Q,hl,h=>by
  have e:xs=[]:=jv.mp (by omega);subst e;unfold drawOrder;exact aM (h [] s.drawn (List.Perm.refl _))
 |n+1,[],s,Q,hl,h=>by
  unfold drawOrder;exact aM (h [] s.drawn (List.Perm.refl _))
 |n+1,x :: xs,s,Q,hl,h=>by
  unfold drawOrder;refine aB (EY (by simp) λi d hi=>?_);have hg:(x :: xs)[i]? =some (x :: xs)[i]:=c6 hi;rw[hg];dsimp only;have hl2:((x :: xs).eraseIdx i).length<=n:=by rw[List.length_eraseIdx_of_lt hi];simp at hl⊢;omega
  refine aB (De n _ _ _ hl2 λys d2 hp=>?_);exact aM (h _ d2 ((hp.cons _).trans (r8 hg)))
theorem Fw(next:Nat->Nat):∀(fuel k:Nat)(left:List α)(out:Array α),left.length<=fuel->(pickOrder.go next fuel k left out).toList.Perm (out.toList++left)
 |0,k,left,out,hl=>by
  have e:left=[]:=jv.mp (by omega);subst e;unfold pickOrder.go;simp
 |fuel+1,k,left,out,hl=>by
  unfold pickOrder.go;cases left with
  |nil=>simp
  |cons x xs=>
   have hi:next k % (x :: xs).length<(x :: xs).length:=Nat.mod_lt _ (by simp);have hg:(x :: xs)[next k % (x :: xs).length]? =some (x :: xs)[next k % (x :: xs).length]:=c6 hi;rw[hg];dsimp only;have hl2:((x :: xs).eraseIdx (next k % (x :: xs).length)).length<=fuel:=by rw[List.length_eraseIdx_of_lt hi];simp at hl⊢;omega
   refine(Fw next fuel (k+1) _ _ hl2).trans ?_;rw[Array.toList_push,dW,List.singleton_append];exact(r8 hg).append_left _
def tP(next:Nat->Nat)(xs:Array α):(pickOrder next xs).toList.Perm xs.toList:=by
 have:=Fw next xs.size 0 xs.toList #[] (by simp);unfold pickOrder;simpa using this
def F2(hr:kI xs):SetTable.below xs 0=0:=by
 have b:=below_at hr 0;by_cases h:SetTable.below xs 0=0
 ·exact h
 ·have h0:0<xs.size:=by have:=b.le;omega
  have:=b.lo 0 _ (by omega) (jZ h0);omega
def F3(hr:kI xs)(h:xs[i]? =some j):SetTable.below xs (j+1)=i+1:=by
 have b:=below_at hr (j+1);have hi:=(uq.mp h).1;have h1:¬SetTable.below xs (j+1)<=i:=λz=>by
  have:=b.hi i j z h;omega
 have h2:¬i+1<SetTable.below xs (j+1):=λz=>by
  have hlt:i+1<xs.size:=by have:=b.le;omega
  have q1:=b.lo (i+1) _ z (jZ hlt);have q2:=vZ hr (kO i) h (jZ hlt);omega
 omega
def jz.ext{h h':Heap}{a I:Addr}{es:Array (Int×Value)}{ep:Nat}{t:SetTable}(S:jz h a es ep t)(e:∀o,h.get? a=some o->h'.get? a=some o):jz h' a es ep t:=by
 obtain⟨o,ho,hc⟩:=S.obj;exact⟨⟨o,e o ho,hc⟩,S.fits⟩
def tN(hI:hZ s.heap I a first i n ep)(h:Q (.ref I) s):wpAny (model prog w) A (pyIter (.ref I)) Q E s:=by
 have hT:s.TypeIs (.ref I) "set_iterator" :=⟨_,hI,rfl⟩;refine wpAny_pyIter_slot hT slot_self (wpAny_call_entry slot_self hT entry_self ?_ (args_self _));refine aB (aM ?_);exact aM ⟨_,rfl,"set_iterator",_,hT,slot_next.lookup,h⟩
def Gq(hh:A.handled=none)(I a:Addr)(hne:a≠I)(es:Array (Int×Value))(ep:Nat)(t:SetTable)(hb:hW w=true):
  Walks prog w A I [I,a] [I] es.size (λi v=>((pickOrder (w.params.setOrder a ep) es)[i]?).map (·.2)=some v) (λi h=>hZ h I a (rawInt 0) i es.size ep/\jz h a es ep t) where
 sub:=λb hb=>by simp at hb;simp[hb]
 frame:=λ_ _ _ st hk=>⟨hk I (by simp) _ st.1,st.2.ext (I:=I) λo e=>hk a (by simp) o e⟩
 item:=λi s Q E hi st hQ=>by
  have hsz:(pickOrder (w.params.setOrder a ep) es).size=es.size:=by have:=(tP (w.params.setOrder a ep) es).length_eq;simpa using this
  have hg:(pickOrder (w.params.setOrder a ep) es)[i]? =some (pickOrder (w.params.setOrder a ep) es)[i]:=jZ (by omega);refine FK (next:=0) (x:=((pickOrder (w.params.setOrder a ep) es)[i]'(by omega)).2) st.1 st.2 rfl (λA Q E q=>zS st.2 hb (by rw[hg];exact q)) λh' hit hs=>?_
  exact hQ _ h' s.toks (by rw[hg];rfl) ⟨hit,st.2.ext (I:=I) λo e=>(hs.2 a hne).trans e⟩ λb o hb e=>(hs.2 b (λz=>hb (by simp[z]))).trans e
 done:=λs Q E st hQ=>by
  have hsz:(pickOrder (w.params.setOrder a ep) es).size=es.size:=by have:=(tP (w.params.setOrder a ep) es).length_eq;simpa using this
  refine Jm hh st.1 st.2 rfl (λA Q E q=>zS st.2 hb (by rw[DE (by omega)];exact q)) λh' he=>?_
  exact hQ h' s.toks λb o hb e=>he b o (λz=>hb (by simp[z])) e
 self:=λ_ _ _ _ st hQ=>tN st.1 hQ
def DK(hh:A.handled=none)(I a:Addr)(hne:a≠I)(es:Array (Int×Value))(ep:Nat)(t:SetTable)(hb:hW w=false)(hl:t.led=true)(hp:t.plain=true\/es.size<=1)(hr:kI t.place)(hf:t.fits es.size=true):
  Walks prog w A I [I,a] [I] es.size (λi v=>(es[i]?).map (·.2)=some v) (λi h=> ∃slot:Nat,hZ h I a (rawInt slot) i es.size ep/\jz h a es ep t/\SetTable.below t.place slot=i) where
 sub:=λb hb=>by simp at hb;simp[hb]
 frame:=λ_ _ _ ⟨slot,s1,s2,s3⟩ hk=>⟨slot,hk I (by simp) _ s1,s2.ext (I:=I) λo e=>hk a (by simp) o e,s3⟩
 item:=λi s Q E hi ⟨slot,s1,s2,s3⟩ hQ=>by
  have hps:t.place.size=es.size:=by simp[SetTable.fits] at hf;exact hf.1
  have hg:t.place[i]? =some (t.place[i]'(by omega)):=jZ (by omega);have he:es[i]? =some es[i]:=jZ hi;refine FK (next:=t.place[i]'(by omega)+1) (x:=(es[i]).2) s1 s2 rfl (λA Q E q=>xO s2 hb hl hp s3 (by rw[he,hg];exact q)) λh' hit hs=>?_
  exact hQ _ h' s.toks (by rw[he];rfl) ⟨_,hit,s2.ext (I:=I) λo e=>(hs.2 a hne).trans e,F3 hr hg⟩ λb o hb e=>(hs.2 b (λz=>hb (by simp[z]))).trans e
 done:=λs Q E ⟨slot,s1,s2,s3⟩ hQ=>by
  refine Jm hh s1 s2 rfl (λA Q E q=>xO s2 hb hl hp s3 (by rw[DE (bx _)];exact q)) λh' he=>?_
  exact hQ h' s.toks λb o hb e=>he b o (λz=>hb (by simp[z])) e
 self:=λ_ _ _ _ ⟨slot,s1,_⟩ hQ=>tN s1 hQ
def DL(hh:A.handled=none)(I a tp:Addr)(hne:a≠I)(hnt:tp≠I)(es:Array (Int×Value))(ep:Nat)(t:SetTable)(ps:List Nat)(nt:Nat)(hp:ps.Perm (List.range es.size)):
  Walks prog w A I [I,a,tp] [I] es.size (λi v=>((ps[i]?).bind λp=>es[p]?).map (·.2)=some v)
   (λi h=>hZ h I a (.ref tp) i es.size ep/\jz h a es ep t/\∃ot,h.get? tp=some ot/\ot.data=.seq (ps.map λ(p:Nat)=>rawInt p).toArray nt) where
 sub:=λb hb=>by simp at hb;simp[hb]
 frame:=λ_ _ _ ⟨s1,s2,ot,s3,s4⟩ hk=>⟨hk I (by simp) _ s1,s2.ext (I:=I) λo e=>hk a (by simp) o e,ot,hk tp (by simp) _ s3,s4⟩
 item:=λi s Q E hi ⟨s1,s2,ot,s3,s4⟩ hQ=>by
  have hl:ps.length=es.size:=by simpa using hp.length_eq
  have hg:ps[i]? =some (ps[i]'(by omega)):=c6 (by omega);have hm:(ps[i]'(by omega))<es.size:=by have:=hp.mem_iff.mp (BU (l:=ps) (n:=i) (by omega));simpa using this
  refine Jl (p:=ps[i]'(by omega)) (x:=(es[ps[i]'(by omega)]'hm).2) (hx:=(es[ps[i]'(by omega)]'hm).1) s1 s2 rfl s3 s4 (by simp[hg]) (jZ hm) λh' hit hs=>?_
  refine hQ _ h' s.toks (by rw[hg];simp[hm]) ⟨hit,s2.ext (I:=I) λo e=>(hs.2 a hne).trans e,ot,(hs.2 tp hnt).trans s3,s4⟩ λb o hb e=>(hs.2 b (λz=>hb (by simp[z]))).trans e
 done:=λs Q E ⟨s1,s2,ot,s3,s4⟩ hQ=>by
  have hl:ps.length=es.size:=by simpa using hp.length_eq
  refine KR hh s1 s2 rfl s3 s4 (by simp;omega) λh' he=>?_
  exact hQ h' s.toks λb o hb e=>he b o (λz=>hb (by simp[z])) e
 self:=λ_ _ _ _ st hQ=>tN st.1 hQ
end
end bV
namespace bV
open PySem
def met(val:Nat->Int)(i:Nat):Int->Bool:=λk=>(PyProof.Rows.firstMet val i).any (· ==k)
def many(val:Nat->Int)(i:Nat):Nat:=(PyProof.Rows.firstMet val i).length
def qt.congr(g:qt prog w h a S n L)(e:S=T)(en:n=m):qt prog w h a T m L:=by
 rw[<- e,<- en];exact g
def qt.rA(g:qt prog w h a S n L)(k:∀o,h.get? a=some o->h'.get? a=some o):qt prog w h' a S n L:=
 let ⟨o,es,ep,t,ho,r⟩:=g
 ⟨o,es,ep,t,k o ho,r⟩
def Jc(val:Nat->Int)(i:Nat):(λj=>met val i j||decide (j=val i))=met val (i+1):=by
 funext j;unfold met;rw[PyProof.Rows.firstMet_succ,PyProof.Rows.step_any]
def GY(val:Nat->Int)(i:Nat):(if met val i (val i) then many val i else many val i+1)=many val (i+1):=by
 unfold met many;rw[PyProof.Rows.firstMet_succ,PyProof.Rows.step_length]
section
variable {prog:Program} {w:World} {A:Around} {R:Result->Shared->Prop} {I:Addr} {fp wr:List Addr} {G:Array GenState->Array GenState->Prop} {n:Nat} {P:Nat->Value->Prop} {St:Nat->Shared->Prop} {L:Bool}
def Hc(W:WalksS prog w A.in1 I fp wr G n P St)(a:Addr)(ha:a∉fp)(val:Nat->Int)(hv:∀i v,P i v->∃t,v=.int (val i) t)(hb:n+1<scanBound)(more:Nat):
  ∀(i:Nat)(s:Shared),n=i+more->St i s->qt prog w s.heap a (met val i) (many val i) L->
   (∀s2,Moved (a :: wr) G s s2->qt prog w s2.heap a (met val n) (many val n) L->R (.ok (.ret .none)) s2)->codeAny (model prog w) A (.builtin "set.update.loop" ⟨[.ref a,.ref I],[]⟩) R s:=by
 have haw:a∉wr:=λz=>ha (W.sub _ z)
 have sub:∀b∈wr,b∈a :: wr:=λ_ z=>cZ _ z
 induction more with
 |zero=>
  intro i s e st g fin;rw[Nat.add_zero] at e;subst e;refine codeAny_builtin PyProof.Rows.F.entry_set_update_loop ?_;rw[Around.under_plainId PyProof.Rows.F.plain_set_update_loop _];show wpAny _ _ (pyNext (.ref I) >>= λx=>_) _ _ _;refine aB (W.done s _ _ st λs2 m=>?_);exact aM (fin s2 (m.mono sub) (g.rA λo q=>m.heap a o haw q))
 |succ more ih=>
  intro i s e st g fin;refine codeAny_builtin PyProof.Rows.F.entry_set_update_loop ?_;rw[Around.under_plainId PyProof.Rows.F.plain_set_update_loop _];show wpAny _ _ (pyNext (.ref I) >>= λx=>_) _ _ _;refine aB (W.item i s _ _ (by omega) st λv s2 pv st2 m=>?_);obtain⟨t,rfl⟩:=hv i v pv;have g2:=g.rA λo q=>m.heap a o haw q
  refine aB (m:=holding [Value.int (val i) t] (setAdd a (.int (val i) t))) (wpAny_holding ?_);unfold setAdd;refine wpAny_holding (aB ((intKind prog w).pyHash (k:=val i) (intKind_is _ _ _ _) ?_));have few:many val i+1<scanBound:=by have:=PyProof.Rows.firstMet_length_le val i;unfold many;omega
  refine K5 (s:= { s2 with toks:=s2.toks+1 }) g2 few λh3 sb g3=>?_
  have g4:=g3.congr (Jc val i) (GY val i);have out:∀b,b∈fp->b≠a:=λb hb z=>ha (z ▸ hb)
  refine aM ⟨plainId_quiet PyProof.Rows.F.plain_set_update_loop _,ih (i+1) { s2 with heap:=h3,toks:=s2.toks+1 } (by omega) (W.frame _ s2 _ _ st2 (BX _) λb hb o q=>(sb.2 b (out b hb)).trans q) g4 λs5 m5 g5=>?_⟩;refine fin s5 (Moved.trans W.gtrans ((m.mono sub).then_heap (BX _) λb o hb q=>(sb.2 b λz=>hb (z ▸ cF)).trans q) m5) g5
end
section
variable {prog:Program} {w:World} {A:Around} {E:Value->Shared->Prop} {s:Shared}
abbrev nil(L:Bool):Obj:= { cls:=.type "set",dict:=none,data:=.set #[] 0 (.fresh 0 0 L) }
def J6(L:Bool)(val:Nat->Int)(e:h.get? a=some (nil L)):qt prog w h a (met val 0) (many val 0) L:=by
 obtain⟨o,es,ep,t,ho,hx,hd,he,hm,hf,hfi,hn⟩:=(PyProof.Rows.setObjOf_fresh (knd:=intKind prog w) L).setOf e (by unfold scanBound;omega);rw[e] at ho;cases ho;cases hd;exact⟨_,_,_,_,e,hx,rfl,⟨he,hm,hf,hfi,Ex L⟩,rfl⟩
def KL(a:Value)(h:Q (.ref s.heap.objs.size) { s with heap:=s.heap.push (nil (!hW w)) }):
  codeAny (model prog w) A (.call (.builtin "set.__new__") ⟨[.type "set",a],[]⟩) (wants Q E) s:=by
 refine codeAny_of_tree ?_;show wpAny _ _ (do checkBuiltinCall "set.__new__" ⟨[.type "set",a],[]⟩;again (.builtin "set.__new__" ⟨[.type "set",a],[]⟩)) _ _ _;refine aB (wpAny_of_eq (F.newCall_set_1 a) (aM ⟨plainId_quiet F.plain_set_new _,codeAny_builtin F.entry_set_new ?_⟩));rw[Around.under_plainId F.plain_set_new _];unfold Builtin.«set.__new__» Builtin.Frozenset.newClass;have known:=sub_set_self;obtain⟨hp,g,d,tk,os⟩:=s;dsimp only
 wp_walk
 refine wpAny_askSetting (aM ?_);dsimp only;simp only[newObj];exact aB (wpAny_alloc (aM (aM h)))
end
end bV
namespace bV
open PySem
section
variable {prog:Program} {w:World} {A:Around} {E:Value->Shared->Prop} {s:Shared}
def Hv(hh:A.handled=none)(hl:s.heap.IsList l items)(hi:PyProof.Rows.IntsAre items.toList ns)(hb:items.size+1<scanBound)(L:Bool)
 (ha:s.heap.get? a=some (nil L)) (hal:a≠l)
  (fin:∀h2 tk,qt prog w h2 a (met (λi=>ns.getD i 0) items.size) (many (λi=>ns.getD i 0) items.size) L->(∀b o,b≠a->s.heap.get? b=some o->h2.get? b=some o)->R (.ok (.ret .none)) { s with heap:=h2,toks:=tk }):
  wpAny (model prog w) A.in1 (Builtin.«set.__init__» ⟨[.ref a,.ref l],[]⟩) (λx s2=>match x with |.done f=>R (.ok f) s2 |.again c=>c.quiet=true/\codeAny (model prog w) A c R s2) (λe s2=>R (.error e) s2) s:=by
 obtain⟨ol,hol,hcl,nl,hdl⟩:=id hl;obtain⟨ocls,odict,odata,oslots⟩:=ol;simp only at hcl hdl;subst hcl;subst hdl;have k1:=F.sub_list_set;have k2:=F.sub_list_frozenset;have k3:(Value.type "list" ==Value.type "dict")=false:=rfl;unfold Builtin.«set.__init__» noKeywords Builtin.Frozenset.updateFrom;generalize hPI:pyIter=PI
 wp_walk
 subst hPI;refine wpAny_pyIter_list hl (aB (wpAny_runValue ?_));have alt:a<s.heap.objs.size:=dD ha;have llt:l<s.heap.objs.size:=dD hol;have out:a∉[s.heap.objs.size,l]:=λz=>by
  simp only[bp,qv,or_false] at z
  rcases z with z |z
  ·exact aI z (eI alt)
  ·exact hal z
 have val:∀(i:Nat)(v:Value),items[i]? =some v->∃t,v=.int ((λi=>ns.getD i 0) i) t:=λi v hv=>PyProof.Rows.IntsAre.int_at hi i v (by rw[zw];exact hv)
 have hh2:A.in1.in1.handled=none:=by simp[hh]
 refine Hc (L:=L) ((Walks.list hh2 _ l (eI llt) items).toS) a out (λi=>ns.getD i 0) val hb items.size 0 _ (by omega) ⟨⟨_,eG _ rfl,rfl,rfl⟩,hl.push _⟩ (J6 L _ (dF _ ha)) λs2 m g=>?_
 rw[Moved.eq_with m];refine aM (aM (fin _ _ g λb o hb q=>m.heap b o (λz=>?_) (dF _ q)));simp only[bp,qv,or_false] at z
 rcases z with z |z
 ·exact hb z
 ·exact aI z (eI (dD q))
set_option maxHeartbeats 3200000 in
def Cn(hh:A.handled=none)(hl:s.heap.IsList l items)(hi:PyProof.Rows.IntsAre items.toList ns)(hb:items.size+1<scanBound)
  (fin:∀h2 tk,qt prog w h2 s.heap.objs.size (met (λi=>ns.getD i 0) items.size) (many (λi=>ns.getD i 0) items.size) (!hW w)->(∀b o,s.heap.get? b=some o->h2.get? b=some o)->Q (.ref s.heap.objs.size) { s with heap:=h2,toks:=tk }):
  wpAny (model prog w) A (call (.type "set") [.ref l]) Q E s:=by
 obtain⟨c,tl,k0⟩:=F.called_set.mro;have k1:=F.called_set.made;have k2:=F.called_set.sub;have k3:=F.called_set.notType;have k4:=F.called_set.canCreate;have k5:=F.typeCall_set_1 (.ref l);refine wpAny_call (codeAny_of_tree ?_);show wpAny _ _ (callAny (.type "set") ⟨[.ref l],[]⟩) _ _ _;refine aM ⟨Code.quiet_builtin _ (by decide+kernel),codeAny_builtin F.entry_type_call ?_⟩;rw[Around.under_plain (weight_type_call_type "set" [.ref l] []) rfl]
 repeat (any_goals (first |assumption |wp_step))
 refine codeAny_mono (KL (.ref l) (E:=E) (Q:=λx s1=>x=.ref s.heap.objs.size/\s1= { s with heap:=s.heap.push (nil (!hW w)) }) ⟨rfl,rfl⟩) λr s1 hr=>?_
 cases r with
 |error e=>exact hr
 |ok fl=>
  cases fl with
  |ret x=>
   obtain⟨rfl,rfl⟩:=hr;have jb:(s.heap.push (nil (!hW w))).get? s.heap.objs.size=some (nil (!hW w)):=eG _ rfl;have ty:Shared.TypeIs { s with heap:=s.heap.push (nil (!hW w)) } (.ref s.heap.objs.size) "set" :=⟨_,jb,rfl⟩;have k6:=F.called_set.init.lookup;have k7:=F.called_set.init.bind (.ref s.heap.objs.size)
   repeat (any_goals (first |assumption |wp_step))
   obtain⟨ol,hol,hol2⟩:=id hl;have ne:s.heap.objs.size≠l:=λz=>aI (dD hol) (by rw[<- z];exact nP _)
   refine codeAny_mono (codeAny_call_builtin (R:=wants (λr s2=>r=.none/\Q (.ref s.heap.objs.size) s2) E) F.called_set.init.plain F.entry_set_init (check_set_init_1 ty
    (Hv (by simp[hh]) (hl.push _) hi hb (!hW w) jb ne λh2 tk g k=>⟨rfl,fin h2 tk g λb o q=>k b o (eI (dD q)) (dF _ q)⟩))) λr2 s2 hr2=>?_
   cases r2 with
   |error e=>exact hr2
   |ok fl2=>
    cases fl2 with
    |ret r=>
     obtain⟨rfl,q⟩:=hr2
     repeat (any_goals (first |assumption |wp_step))
    |_=>exact hr2.elim
  |_=>exact hr.elim
end
end bV
namespace bV
open PySem
def Goes(prog:Program)(w:World)(o:Obj)(a:Addr)(vs:List Value):Prop:=
 ∀(A:Around)(s:Shared)(Q:Value->Shared->Prop)(E:Value->Shared->Prop),A.handled=none->s.heap.get? a=some o->
  (∀(I:Addr)(h2:Heap)(d:Drawn)(tk:Nat)(order:List Value)(fp:List Addr)(St:Nat->Heap->Prop),order.Perm vs->s.heap.objs.size<=I->(∀b u,s.heap.get? b=some u->h2.get? b=some u)->
   (∀b∈fp,b=a\/s.heap.objs.size<=b)->(∀B:Around,B.handled=none->Walks prog w B I fp [I] vs.length (λi v=>order[i]? =some v) St)->St 0 h2->Q (.ref I) { s with heap:=h2,drawn:=d,toks:=tk })->
  wpAny (model prog w) A (pyIter (.ref a)) Q E s
def Hints(prog:Program)(w:World)(o:Obj)(a:Addr):Prop:=
 ∀(A:Around)(s:Shared)(Q:Bool->Shared->Prop)(E:Value->Shared->Prop),s.heap.get? a=some o->Q false s->wpAny (model prog w) A (Builtin.List.listLengthHint (.ref a)) Q E s
def num:Value->Int
 |.int n _=>n
 |_=>0
theorem CU:∀{vs:List Value}{ns:List Int},PyProof.Rows.IntsAre vs ns->ns=vs.map num/\∀v∈vs,∃n t,v=.int n t
 |_,_,.nil=>⟨rfl,λ_ z=>nomatch z⟩
 |_,_,.cons n t r=>by
  obtain⟨h1,h2⟩:=CU r;refine⟨by rw[cz,<- h1];rfl,λv z=>?_⟩
  rcases bp.mp z with rfl |z
  ·exact⟨n,t,rfl⟩
  ·exact h2 v z
theorem xI:∀{vs:List Value},(∀v∈vs,∃n t,v=.int n t)->PyProof.Rows.IntsAre vs (vs.map num)
 | [],_=>.nil
 |v :: vs,h=>by
  obtain⟨n,t,rfl⟩:=h v cF;exact .cons n t (xI λx hx=>h x (cZ _ hx))
def Hm(h:PyProof.Rows.IntsAre vs ns)(p:order.Perm vs):∃ns2,PyProof.Rows.IntsAre order ns2/\ns2.Perm ns:=by
 obtain⟨rfl,h2⟩:=CU h;exact⟨_,xI λv z=>h2 v (p.mem_iff.mp z),p.map num⟩
def Eu(hn:order.length=n)(h:ItemsOf (λi v=>order[i]? =some v) acc n):acc.toList=order:=by
 obtain⟨h1,h2⟩:=h;refine Ak λi=>?_
 by_cases hi:i<n
 ·have e:acc[i]? =some (acc[i]'(by omega)):=jZ (by omega);rw[zw,e];exact(h2 i _ e).symm
 ·rw[jw (by simpa using by omega),jw (by omega)]
section
variable {prog:Program} {w:World} {A:Around} {E:Value->Shared->Prop} {s:Shared} {T:String} {o:Obj} {a:Addr} {vs:List Value}
def D7(hh:A.handled=none)(g:Goes prog w o a vs)(hint:Hints prog w o a)(ho:s.heap.get? a=some o)(hc:o.cls=.type T)(hT:T= "set" \/T= "dict")(hz:vs.length<=sizeLine)
  (S:Addr) (res:Value) (hS:s.heap.get? S=some { cls:=.type "list",data:=.seq #[] 0 }) (hne:S≠a)
  (fin:∀(h2:Heap)(d:Drawn)(tk c:Nat)(order:List Value),order.Perm vs->(∀b u,b≠S->s.heap.get? b=some u->h2.get? b=some u)->h2.get? S=some { cls:=.type "list",data:=.seq order.toArray c } ->R (.ok (.ret res)) { s with heap:=h2,drawn:=d,toks:=tk }):
  wpAny (model prog w) A.in1 (Builtin.List.listExtendWith (.ref S) (.ref a) res) (λx s2=>match x with |.done f=>R (.ok f) s2 |.again c=>c.quiet=true/\codeAny (model prog w) A c R s2) (λe s2=>R (.error e) s2) s:=by
 unfold Builtin.List.listExtendWith;refine aB (wpAny_typeOf (T:=T) ⟨_,ho,hc⟩ ?_);have q1:Builtin.List.listSameRef (.ref S) (.ref a)=false:=by simp[Builtin.List.listSameRef,hne]
 have q2:(Value.type T==Value.type "list")=false:=by rcases hT with rfl |rfl<;>rfl
 have q3:(Value.type T==Value.type "tuple")=false:=by rcases hT with rfl |rfl<;>rfl
 simp only[q1,q2,q3,Bool.or_false,nI,if_false];refine aB (g A.in1 s _ _ hh ho λI h2 d tk order fp St hp hI hk hfp W st=>?_);have W2:=(W A.in1 hh).toS;have SI:S≠I:=λz=>aI (dD hS) (by rw[z];exact wt.mpr hI)
 have Sf:S∉fp:=λz=>by
  rcases hfp S z with e |e
  ·exact hne e
  ·exact aI (dD hS) (wt.mpr e)
 refine aB (wpAny_holding (hint _ _ _ _ (hk _ _ ho) ?_));refine wpAny_ite_split (λ_=>?_) (λz=>aI (by rcases hT with rfl |rfl<;>decide+kernel) z);refine aB (wpAny_rule ?_);refine aB ?_;show wpAny _ _ (updateSeq S (λxs=>xs.push .none) >>= λ_=>updateSeq S (λxs=>xs.pop)) _ _ _;have l1:=hk _ _ hS;refine aB (wpAny_updateSeq l1 rfl ?_);have l2:=rm (Obj.mapSeq λxs=>xs.push Value.none) l1 rfl;refine wpAny_updateSeq (hz:=by seq_fits) l2 rfl ?_;have l3:=rm (Obj.mapSeq λxs=>xs.pop) l2 rfl;have oth:∀b u,b≠S->h2.get? b=some u->((h2.update S (Obj.mapSeq λxs=>xs.push Value.none)).update S (Obj.mapSeq λxs=>xs.pop)).get? b=some u:=λb u hb e=>
  (Aw _ _ (Ne.symm hb)).trans ((Aw _ _ (Ne.symm hb)).trans e)
 refine aM ⟨plainId_quiet F.plain_extend_loop _,codeAny_extend_loopS W2 hz S Sf res vs.length 0 _ #[] _ rfl (d8 _)
  ((W A.in1 hh).frame 0 h2 _ st λb hb u e=>oth b u (λz=>Sf (z ▸ hb)) e) l3 (ItemsOf.nil _) λs3 acc c m hS3 hacc=>?_⟩
 rw[Moved.eq_with m];have e:=Eu hp.length_eq hacc;refine fin s3.heap d s3.toks c order hp (λb u hb q=>m.heap b u (λz=>?_) (oth b u hb (hk b u q))) (by rw[<- e];exact hS3)
 rcases bp.mp z with z |z
 ·exact hb z
 ·rw[jd] at z;exact aI (dD q) (by rw[z];exact wt.mpr hI)
def Got(s:Shared)(vs:List Value):Result->Shared->Prop:=λr s2=> ∃(h2:Heap)(d:Drawn)(tk c:Nat)(order:List Value),order.Perm vs/\(∀b u,s.heap.get? b=some u->h2.get? b=some u)/\
 h2.get? s.heap.objs.size=some { cls:=.type "list",data:=.seq order.toArray c } /\r=.ok (.ret (.ref s.heap.objs.size))/\s2= { s with heap:=h2,drawn:=d,toks:=tk }
def BD(hh:A.handled=none)(g:Goes prog w o a vs)(hint:Hints prog w o a)(ho:s.heap.get? a=some o)(hc:o.cls=.type T)(hT:T= "set" \/T= "dict")(hz:vs.length<=sizeLine)
  (fin:∀(h2:Heap)(d:Drawn)(tk:Nat)(order:List Value),order.Perm vs->(∀b u,s.heap.get? b=some u->h2.get? b=some u)->s.heap.objs.size<=h2.objs.size->Q order { s with heap:=h2,drawn:=d,toks:=tk }):
  wpAny (model prog w) A (collect (.ref a)) Q E s:=by
 unfold collect;refine aB (wpAny_runValue (codeAny_builtin PyProof.Rows.entry_proto_collect' ?_));show wpAny _ _ (do again (.builtin "list.__iadd__" ⟨[<- newList [],.ref a],[]⟩)) _ _ _;have hlt:=dD ho;have jb:(s.heap.push { cls:=.type "list",data:=.seq #[] 0 }).get? s.heap.objs.size=some { cls:=.type "list",data:=.seq #[] 0 }:=eG _ rfl;have run:=codeAny_builtin (prog:=prog) (w:=w) (A:=A) (R:=Got s vs) (s:= { s with heap:=s.heap.push { cls:=.type "list",data:=.seq #[] 0 } }) (args:=⟨[.ref s.heap.objs.size,.ref a],[]⟩) PyProof.Rows.entry_list_iadd' (by
  rw[Around.under_plainId (by decide+kernel:plainId "list.__iadd__" =true) _];exact D7 (s:= { s with heap:=s.heap.push { cls:=.type "list",data:=.seq #[] 0 } })
   (R:=Got s vs)
   hh g hint (dF _ ho) hc hT hz s.heap.objs.size (.ref s.heap.objs.size) jb (Nat.ne_of_gt hlt)
   λh2 d tk c order hp hk hS=>⟨h2,d,tk,c,order,hp,λb u q=>hk b u (eI (dD q)) (dF _ q),hS,rfl,rfl⟩)
 refine aB (wpAny_newList (aM ⟨Code.quiet_builtin _ (by decide+kernel),codeAny_mono run λr s2 z=>?_⟩));obtain⟨h2,d,tk,c,order,hp,hk,hS,rfl,rfl⟩:=z;show wpAny (model prog w) A (load s.heap.objs.size >>= λx=>_) _ _ _;refine aB (wpAny_load hS ?_);exact aM (fin h2 d tk order hp hk (wJ (dD hS)))
def uD(hh:A.handled=none)(g:Goes prog w o a vs)(hint:Hints prog w o a)(ho:s.heap.get? a=some o)(hc:o.cls=.type T)(hT:T= "set" \/T= "dict")(hi:PyProof.Rows.IntsAre vs ns)(h64:vs.length<64)
  (fin:∀(h2:Heap)(d:Drawn)(tk ep:Nat)(p:Addr)(out:Array Value)(ns2:List Int),PyProof.Rows.IntsAre out.toList ns2->ns2.Perm ns->ns2.Pairwise (· <= ·)->s.heap.objs.size<=p->(∀b u,s.heap.get? b=some u->h2.get? b=some u)->
   h2.get? p=some { cls:=.type "list",data:=.seq out ep } ->Q (.ref p) { s with heap:=h2,drawn:=d,toks:=tk }):
  wpAny (model prog w) A (call (.builtin "sorted") [.ref a]) Q E s:=by
 refine Calls.call_function_entry PyProof.Rows.kind_sorted PyProof.Rows.plain_sorted PyProof.Rows.entry_sorted (PyProof.Rows.args_sorted1 _) ?_;unfold Builtin.«sorted»;refine aB (m:=checkCount "sorted" 1 1 _) (aM ?_);refine aB (BD (by simp[hh]) g hint ho hc hT (by rw[sizeLine_eq];omega) λh2 d tk order hp hk hsz=>?_);obtain⟨ms,hm,hmp⟩:=Hm hi hp;have h64':order.length<64:=by rw[hp.length_eq];exact h64
 refine aB (wpAny_newList ?_ (by rw[sizeLine_eq];omega));have at1:(h2.push (PyProof.Rows.seqObj "list" order.toArray 0)).get? h2.objs.size=some (PyProof.Rows.seqObj "list" order.toArray 0):=eG _ rfl;refine aB (wpAny_holding (wpAny_call_entry PyProof.Rows.slot_list_sort ⟨_,at1,rfl⟩ PyProof.Rows.entry_list_sort
  (PyProof.Rows.list_sort_tree at1 hm h64' λout ns2 z1 z2 z3=>⟨_,rfl, ?_⟩) (PyProof.Rows.args_list_sort _)))
 obtain⟨ep,at2⟩:=PyProof.Rows.sortedHeap_at (vs:=order) (out:=out) at1;refine aM ⟨_,rfl,fin _ d tk ep h2.objs.size out ns2 z1 (z2.trans hmp) z3 ?_ (λb u q=>?_) at2⟩
 ·exact hsz
 ·have q2:=dD (hk b u q);rw[PyProof.Rows.sortedHeap_old (eI q2) (by rw[PyProof.Rows.size_push'];exact As q2)];exact dF _ (hk b u q)
end
end bV
namespace bV
open PySem
section
variable {prog:Program} {w:World}
def FO(hc:o.cls=.type T)(hT:T= "set" \/T= "dict"):Hints prog w o a:=by
 intro A s Q E ho h
 rcases hT with rfl |rfl
 ·unfold Builtin.List.listLengthHint;refine aB (wpAny_specialOf ⟨_,ho,hc⟩ F.slot_set_len.lookup ?_);generalize hid:("set.__len__" :String)=id0
  wp_delta
  rw[show splitId id0=some ("set","__len__") from by subst hid;decide+kernel];subst hid;refine aB (wpAny_isInstance (T:= "set") (b:=true) ⟨_,ho,hc⟩ (by rw[isSubtype_type];kernel_rfl) ?_);refine wpAny_ite_split (λhab=>aI hab (by decide)) (λ_=>?_);refine wpAny_ite_split (λ_=>?_) (λhab=>aI (by decide+kernel) hab);refine aB (wpAny_typeOf (T:= "set") ⟨_,ho,hc⟩ ?_);exact aM h
 ·unfold Builtin.List.listLengthHint;refine aB (wpAny_specialOf ⟨_,ho,hc⟩ F.slot_dict_len.lookup ?_);generalize hid:("dict.__len__" :String)=id0
  wp_delta
  rw[show splitId id0=some ("dict","__len__") from by subst hid;decide+kernel];subst hid;refine aB (wpAny_isInstance (T:= "dict") (b:=true) ⟨_,ho,hc⟩ (by rw[isSubtype_type];kernel_rfl) ?_);refine wpAny_ite_split (λhab=>aI hab (by decide)) (λ_=>?_);refine wpAny_ite_split (λ_=>?_) (λhab=>aI (by decide+kernel) hab);refine aB (wpAny_typeOf (T:= "dict") ⟨_,ho,hc⟩ ?_);exact aM h
theorem Cr:∀l:List α,(List.range l.length).filterMap (λp=>l[p]?)=l
 | []=>rfl
 |x :: l=>by
  have ih:=Cr l;rw[cR,DF,wI,List.filterMap_map];show x :: List.filterMap (λp=>l[p]?) (List.range l.length)=_;rw[ih]
def Ku{α:Type}(es:Array α){ps:List Nat}(hp:ps.Perm (List.range es.size)):(ps.filterMap λp=>es[p]?).Perm es.toList:=by
 refine(hp.filterMap _).trans (List.Perm.of_eq ?_);have:=Cr es.toList;rw[oG] at this;simpa using this
def u7(W:Walks prog w A I fp wr n P St)(h:∀i v,P i v->P2 i v):Walks prog w A I fp wr n P2 St:=
 ⟨W.sub,W.frame,λi s Q E hi st hQ=>W.item i s Q E hi st λv h2 tk p=>hQ v h2 tk (h i v p),W.done,W.self⟩
def IE(h:xs.size<=1):kI xs:=by
 unfold kI
 match e:xs.toList,(show xs.toList.length<=1 by rw[oG];exact h) with
 | [],_=>exact List.Pairwise.nil
 | [x],_=>exact List.pairwise_singleton _ _
theorem Dd{es:Array (Int×Value)}:∀{ps:List Nat},(∀p∈ps,p<es.size)->∀(i:Nat)(v:Value),((ps[i]?).bind λp=>es[p]?).map (·.2)=some v->((ps.filterMap λp=>es[p]?).map (·.2))[i]? =some v
 | [],_,i,v,h=>by simp at h
 |p :: ps,hp,0,v,h=>by
  have hq:es[p]? =some (es[p]'(hp p cF)):=jZ _;rw[wI,hq];simp only[Ar,dz,hq] at h;exact h
 |p :: ps,hp,i+1,v,h=>by
  have hq:es[p]? =some (es[p]'(hp p cF)):=jZ _;rw[wI,hq];simp only[Aq] at h;exact Dd (λx hx=>hp x (cZ _ hx)) i v h
def Jt(hx:o.cls=.type "set")(hd:o.data=.set es ep t)(hf:t.fits es.size=true)(hg:Good (!hW w) t)(few:es.size<=sizeLine):
  Goes prog w o a (es.toList.map (·.2)):=by
 intro A s Q E hh ho fin;have hT:s.TypeIs (.ref a) "set" :=⟨_,ho,hx⟩;have alt:a<s.heap.objs.size:=dD ho;have nv:(es.toList.map (·.2)).length=es.size:=by simp
 refine wpAny_pyIter_slot hT F.slot_set_iter (wpAny_call_entry F.slot_set_iter hT EL ?_ (F.args_set_iter_1 _));unfold Builtin.«frozenset.__iter__» Builtin.Frozenset.slot0 slotArgs;simp only[List.isEmpty_nil,Bool.not_true,nI,↓reduceIte,bind_assoc,zt,bne_self_eq_false];unfold Builtin.Frozenset.addrOf Builtin.Frozenset.sizeOf;refine aB (aM ?_);dsimp only;refine aB (aM ?_);refine aB (aB (wpAny_setEntries_of ho hd hf (aM ?_)));refine aB (m:=setDrawn a) ?_;unfold setDrawn;refine aB (wpAny_setState_of ho hd hf ?_);refine aB (sX ?_);refine aM ?_;have st0:∀{h2:Heap},(∀b u,s.heap.get? b=some u->h2.get? b=some u)->jz h2 a es ep t:=λk=>⟨⟨o,k _ _ ho,hx,hd⟩,hf⟩
 show wpAny _ _ (if (!hW w&&(!t.plain&&decide (es.size > 1)))=true then _ else _) _ _ _;refine wpAny_ite_split (λz=>?_) (λz=>?_)
 ·refine aB (De es.size _ _ _ (by simp) λps d hp=>?_);refine aB (wpAny_newTuple ?_ (by rw[bD,hp.length_eq,wB];exact few));refine aB (m:=setEpoch a) ?_;unfold setEpoch;refine aB (wpAny_setState_of (dF _ ho) hd hf (aM ?_));refine aB ?_;unfold newFields;refine wpAny_newObj_type (aM ⟨_,rfl,"set_iterator",_,⟨_,eG _ rfl,rfl⟩,slot_next.lookup, ?_⟩) (by size_fits);have lt1:s.heap.objs.size<(s.heap.push { cls:=.type "tuple",data:=.seq (ps.map λ(p:Nat)=>rawInt p).toArray }).objs.size:=by rw[PyProof.Rows.size_push'];exact kO _
  have hm:∀p∈ps,p<es.size:=λp q=>by simpa using hp.mem_iff.mp q
  have kk:∀b u,s.heap.get? b=some u->((s.heap.push { cls:=.type "tuple",data:=.seq (ps.map λ(p:Nat)=>rawInt p).toArray }).push { cls:=.type "set_iterator",data:=.fields [.ref s.heap.objs.size,rawInt 0,.ref a,rawInt es.size,rawInt ep].toArray }).get? b=some u:=λb u q=>
   dF _ (dF _ q)
  have it1:hZ ((s.heap.push { cls:=.type "tuple",data:=.seq (ps.map λ(p:Nat)=>rawInt p).toArray }).push { cls:=.type "set_iterator",data:=.fields [.ref s.heap.objs.size,rawInt 0,.ref a,rawInt es.size,rawInt ep].toArray })
   (s.heap.push { cls:=.type "tuple",data:=.seq (ps.map λ(p:Nat)=>rawInt p).toArray }).objs.size a (.ref s.heap.objs.size) 0 es.size ep:=eG _ rfl
  refine fin _ _ d s.toks ((ps.filterMap λp=>es[p]?).map (·.2)) [(s.heap.push { cls:=.type "tuple",data:=.seq (ps.map λ(p:Nat)=>rawInt p).toArray }).objs.size,a,s.heap.objs.size] (λi h=>hZ h (s.heap.push { cls:=.type "tuple",data:=.seq (ps.map λ(p:Nat)=>rawInt p).toArray }).objs.size a (.ref s.heap.objs.size) i es.size ep/\jz h a es ep t/\∃ot,h.get? s.heap.objs.size=some ot/\ot.data=.seq (ps.map λ(p:Nat)=>rawInt p).toArray 0)
   ((Ku es hp).map _) (wJ lt1) kk (λb hb=>?_) (λB hB=>?_) ⟨it1,st0 kk,_,dF _ (eG _ rfl),rfl⟩
  rotate_left
  ·rw[nv];exact u7 (DL hB _ a s.heap.objs.size (eI (Nat.lt_trans alt lt1)) (eI lt1) es ep t ps 0 hp) (Dd hm)
  simp only[bp,qv,or_false] at hb
  rcases hb with rfl |rfl |rfl
  ·exact .inr (wJ lt1)
  ·exact .inl rfl
  ·exact .inr (bx _)
 ·refine aB (aM ?_);refine aB (m:=setEpoch a) ?_;unfold setEpoch;refine aB (wpAny_setState_of ho hd hf (aM ?_));refine aB ?_;unfold newFields;refine wpAny_newObj_type (aM ⟨_,rfl,"set_iterator",_,⟨_,eG _ rfl,rfl⟩,slot_next.lookup, ?_⟩) (by size_fits);have kk:∀b u,s.heap.get? b=some u->(s.heap.push { cls:=.type "set_iterator",data:=.fields [rawInt 0,rawInt 0,.ref a,rawInt es.size,rawInt ep].toArray }).get? b=some u:=λb u q=>dF _ q
  have fpo:∀b∈[s.heap.objs.size,a],b=a\/s.heap.objs.size<=b:=λb hb=>by
   simp only[bp,qv,or_false] at hb
   rcases hb with rfl |rfl
   ·exact .inr (bx _)
   ·exact .inl rfl
  have it1:hZ (s.heap.push { cls:=.type "set_iterator",data:=.fields [rawInt 0,rawInt 0,.ref a,rawInt es.size,rawInt ep].toArray }) s.heap.objs.size a (rawInt 0) 0 es.size ep:=eG _ rfl;cases hb:hW w with
  |true=>
   refine fin _ _ s.drawn s.toks ((pickOrder (w.params.setOrder a ep) es).toList.map (·.2)) [s.heap.objs.size,a] (λi h=>hZ h s.heap.objs.size a (rawInt 0) i es.size ep/\jz h a es ep t) ((tP _ es).map _) (bx _) kk fpo
    (λB hB=>?_) ⟨it1,st0 kk⟩
   rw[nv];refine u7 (Gq hB _ a (eI alt) es ep t hb) λi v q=>?_
   rw[cU,zw];exact q
  |false=>
   have pl:t.plain=true\/es.size<=1:=by
    rw[hb] at z;by_cases e:t.plain=true
    ·exact .inl e
    ·right;simp only[Bool.not_false,Bool.true_and,i6,decide_eq_true_eq,not_and] at z;have:=z (by simp[e]);omega
   have ps:t.place.size=es.size:=by simp[SetTable.fits] at hf;exact hf.1
   have ri:kI t.place:=by
    rcases pl with e |e
    ·exact(hg.rise e).2
    ·exact IE (by omega)
   refine fin _ _ s.drawn s.toks (es.toList.map (·.2)) [s.heap.objs.size,a] (λi h=> ∃slot:Nat,hZ h s.heap.objs.size a (rawInt slot) i es.size ep/\jz h a es ep t/\SetTable.below t.place slot=i) (List.Perm.refl _) (bx _) kk fpo
    (λB hB=>?_) ⟨0,it1,st0 kk,F2 ri⟩
   rw[nv];refine u7 (DK hB _ a (eI alt) es ep t hb (by rw[hg.led,hb];rfl) pl ri hf) λi v q=>?_
   rw[cU,zw];exact q
end
end bV
namespace bV
open PySem
theorem zQ [DecidableEq α]:∀{m l:List α},m.Nodup->(∀x∈m,x∈l)->l.length<=m.length->l.Perm m
 | [],l,_,_,hl=>by rw[jv.mp (Nat.le_zero.mp hl)]
 |x :: m,l,hn,hs,hl=>by
  obtain⟨h1,h2⟩:=fh.mp hn;have hx:x∈l:=hs x cF;have ih:(l.erase x).Perm m:=zQ h2 (λy hy=>(List.mem_erase_of_ne (λ(z:y=x)=>h1 (z ▸ hy))).mpr (hs y (cZ _ hy))) (by rw[List.length_erase_of_mem hx];simp at hl;omega);exact(List.perm_cons_erase hx).trans (ih.cons x)
theorem Br [DecidableEq α]:∀{m l:List α},m.Nodup->(∀x∈m,x∈l)->m.length<=l.length
 | [],l,_,_=>d8 _
 |x :: m,l,hn,hs=>by
  obtain⟨h1,h2⟩:=fh.mp hn;have hx:x∈l:=hs x cF;have ih:=Br (m:=m) (l:=l.erase x) h2 λy hy=>(List.mem_erase_of_ne (λ(z:y=x)=>h1 (z ▸ hy))).mpr (hs y (cZ _ hy))
  rw[List.length_erase_of_mem hx] at ih;have:=List.length_pos_of_mem hx;simp only[cR];omega
def once(ns:List Int):List Int:=PyProof.Rows.firstMet (λi=>ns.getD i 0) ns.length
theorem zV(val:Nat->Int):∀i,(PyProof.Rows.firstMet val i).Nodup
 |0=>List.nodup_nil
 |i+1=>by
  rw[PyProof.Rows.firstMet_succ];unfold PyProof.Rows.step_dedup;have ih:=zV val i;split
  ·exact ih
  ·rename_i h;rw[Aj];refine⟨ih,fh.mpr ⟨by simp,List.nodup_nil⟩,λx hx y hy=>?_⟩;rw[jd] at hy;subst hy;rintro rfl;exact h (Ai.mpr ⟨_,hx,by simp⟩)
def qV(ns:List Int):(once ns).Nodup:=zV _ _
def EA(ns:List Int):(List.range ns.length).map (λi=>ns.getD i 0)=ns:=by
 refine Ak λi=>?_
 rw[cU];by_cases hi:i<ns.length
 ·rw[wA hi,c6 hi];simp[cy,hi]
 ·rw[jw (by simpa using hi),jw (by omega)];rfl
def CL(ns:List Int)(k:Int):k∈once ns↔k∈ns:=by
 have h:=PyProof.Rows.firstMet_any (λi=>ns.getD i 0) ns.length k;rw[EA] at h;have q:∀l:List Int,l.any (· ==k)=true↔k∈l:=λl=>by simp[Ai]
 unfold once;rw[<- q,h,q]
def J0{ns:List Int}{n:Nat}(h:∀k∈ns,0<=k/\k<n):(once ns).length<=n:=by
 have:=Br (l:=(List.range n).map λ(i:Nat)=>(i:Int)) (qV ns) λk hk=>by
  obtain⟨h1,h2⟩:=h k ((CL ns k).mp hk);exact fg.mpr ⟨k.toNat,by simp;omega,by omega⟩
 simpa using this
def rising{ns ms:List Int}(h:ns.Pairwise (· <= ·))(hp:ns.Perm ms)(hn:ms.Nodup):ns.Pairwise (· < ·):=by
 have hn2:ns.Nodup:=hp.nodup_iff.mpr hn;refine List.Pairwise.imp₂ (λa b (h1:a<=b)(h2:a≠b)=>?_) h hn2;omega
end bV
namespace L2
open PySem PySem.Spec PyProof.Rows
section
variable {X:Cx}
def Lh(P:Program)(w:World)(a:Addr)(ns:List Int):HO:=.ext λh=>bV.qt P w h a (bV.met (λi=>ns.getD i 0) ns.length) (bV.many (λi=>ns.getD i 0) ns.length) (!bV.hW w)
def Kp(P:Program)(w:World)(K:bg):List V->Hp->VK->Prop:=λvs H Q=> ∃(a:Addr)(ns:List Int),vs=[V.ref a]/\cG K H a (ns.map V.int)/\ns.length+1<scanBound/\
 ∀p:Addr,H p=none->Q (.ref p) (upd H p (Lh P w p ns))
def L9(hc:X.calm=true):lA X (.type "set") (Kp X.prog X.w X.K):=by
 intro pins s σ H vs us Q I r h;obtain⟨a,ns,rfl,hs,few,q⟩:=h;obtain⟨its,rv,hl,_⟩:=I.list hs;rw[Vals.IH r];have hi:=rv.ints;have hlen:its.toArray.size=ns.length:=by rw[dE];exact hi.length
 refine bV.Cn (I.ok.hd hc) hl.isList (by simpa using hi) (by rw[hlen];exact few) λh2 tk g k=>?_
 rw[hlen] at g;have at2:∃o,h2.get? s.heap.objs.size=some o:=let ⟨o,_,_,_,e,_⟩:=g;⟨o,e⟩;exact⟨.ref _,upd H s.heap.objs.size (Lh X.prog X.w s.heap.objs.size ns),I.laid (t':=tk) k (bx _) ⟨g,at2,λh3 h4 z y=>z.rA y⟩,rfl,q _ (I.bP.fresh (bx _))⟩
def Inv.Fn(I:Inv X pins σ H s)(d:Drawn):Inv X pins σ H { s with drawn:=d }:=
 ⟨I.ok,I.os,I.bare,I.base,I.loc,I.cell,I.free,I.l4,I.pin,I.bP,I.len⟩
def E8(P:Program)(w:World):List V->Hp->VK->Prop:=λvs H Q=> ∃(a:Addr)(ns:List Int),vs=[V.ref a]/\H a=some (Lh P w a ns)/\(bV.once ns).length<64/\
 ∀(ms:List Int)(p:Addr),ms.Pairwise (· < ·)->(∀k,k∈ms↔k∈ns)->ms.length<64->H p=none->Q (.ref p) (upd H p (.lst (ms.map V.int)))
def BB(hc:X.calm=true):lA X (.builtin "sorted") (E8 X.prog X.w):=by
 intro pins s σ H vs us Q I r h;obtain⟨a,ns,rfl,ha,h64,q⟩:=h;rw[Vals.IH r];obtain⟨⟨o,es,ep,t,ho,hx,hd,T,hn⟩,_,_⟩:=I.bP a _ ha;have hints:∀v∈es.toList.map (·.2),∃n t,v=Value.int n t:=λv hv=>by
  obtain⟨e,he,rfl⟩:=fg.mp hv;obtain⟨⟨k,hk,_⟩,_⟩:=T.LA e he;obtain⟨t,e2⟩:=Value.isInt_shape hk;exact⟨k,t,e2⟩
 have hi:=bV.xI hints;have hm:∀k,k∈(es.toList.map (·.2)).map bV.num↔k∈bV.once ns:=λk=>by
  have e1:bV.met (λi=>ns.getD i 0) ns.length k=true↔k∈bV.once ns:=by unfold bV.met bV.once;simp[Ai]
  rw[<- e1,T.mem k];constructor
  ·intro z;obtain⟨v,hv,rfl⟩:=fg.mp z;obtain⟨e,he,rfl⟩:=fg.mp hv;obtain⟨⟨j,hj,_⟩,_⟩:=T.LA e he;obtain⟨t,e2⟩:=Value.isInt_shape hj;refine⟨e,he, ?_⟩;rw[e2];exact intKind_is _ _ _ _
  ·intro z0;obtain⟨e,he,hk⟩:=z0;obtain⟨t,e2⟩:=Value.isInt_shape hk;exact fg.mpr ⟨e.2,fg.mpr ⟨e,he,rfl⟩,by rw[e2];rfl⟩
 have hlen:(es.toList.map (·.2)).length=(bV.once ns).length:=by rw[bD,oG,hn];rfl
 have hp:((es.toList.map (·.2)).map bV.num).Perm (bV.once ns):=bV.zQ (bV.qV ns) (λk hk=>(hm k).mpr hk) (by rw[bD,hlen];exact bx _);have few:(es.toList.map (·.2)).length<64:=by rw[hlen];exact h64
 have few2:es.size<=sizeLine:=by rw[sizeLine_eq];rw[bD,oG] at few;omega
 refine bV.uD (I.ok.hd hc) (bV.Jt hx.1 hd T.fits T.good few2) (bV.FO hx.1 (.inl rfl)) ho hx.1 (.inl rfl) hi few λh2 d tk ep2 p out ms z1 z2 z3 z4 k at2=>?_
 have z5:=z2.trans hp;have zl:ms.length<64:=by rw[z5.length_eq];exact h64
 have hsz:(ms.map V.int).length<=sizeLine:=by rw[bD];exact Fh zl
 refine⟨.ref p,upd H p (.lst (ms.map V.int)),(I.laid (o:=.lst (ms.map V.int)) (t':=tk) k z4 ⟨hsz,out.toList,ep2,mM z1,at2⟩).Fn d,rfl,q ms p (bV.rising z3 z5 (bV.qV ns)) (λj=>?_) zl (I.bP.fresh z4)⟩;rw[z5.mem_iff,bV.CL]
end
end L2
namespace bV
open PySem
def Gs(hh:A.handled=none)(I d:Addr)(hne:d≠I)(od:Obj)(es:Array DictEntry)(ep:Nat)(hd:od.data=.dict es ep):
  Walks prog w A I [I,d] [I] es.size (λi v=>(es.toList.map (·.key))[i]? =some v) (λi h=>h.IsKeyIter I d i es.size ep/\h.get? d=some od) where
 sub:=λb hb=>by simp at hb;simp[hb]
 frame:=λ_ _ _ st hk=>⟨st.1.at λo e=>hk I (by simp) o e,hk d (by simp) od st.2⟩
 item:=λi s Q E hi st hQ=>by
  have e:es[i]? =some es[i]:=jZ hi;refine L2.qB st.1 st.2 hd rfl e λh2 it sb=>?_
  exact hQ _ h2 s.toks (by rw[cU,zw,e];rfl) ⟨it,(sb.2 d hne).trans st.2⟩ λb o hb q=>(sb.2 b (λz=>hb (by simp[z]))).trans q
 done:=λs Q E st hQ=>L2.mT hh st.1 st.2 hd rfl (bx _) λh2 he=>hQ h2 s.toks λb o hb q=>he b o (λz=>hb (by simp[z])) q
 self:=λ_ _ _ _ st hQ=>wpAny_pyIter_keyiter st.1 hQ
def Hr(hs:(a==sysModules)=false)(hx:o.ExactDict)(hd:o.data=.dict es ep):Goes prog w o a (es.toList.map (·.key)):=by
 intro A s Q E hh ho fin;have alt:a<s.heap.objs.size:=dD ho;have nv:(es.toList.map (·.key)).length=es.size:=by simp
 refine L2.u5 hs ho hx hd ?_;refine fin s.heap.objs.size _ s.drawn s.toks (es.toList.map (·.key)) [s.heap.objs.size,a] (λi h=>h.IsKeyIter s.heap.objs.size a i es.size ep/\h.get? a=some o) (List.Perm.refl _) (bx _) (λb u q=>dF _ q)
  (λb hb=>?_) (λB hB=>?_) ⟨⟨_,eG _ rfl,rfl,rfl⟩,dF _ ho⟩
 ·simp only[bp,qv,or_false] at hb
  rcases hb with rfl |rfl
  ·exact .inr (bx _)
  ·exact .inl rfl
 ·rw[nv];exact Gs hB _ a (eI alt) o es ep hd
end bV
namespace L2
open PySem PySem.Spec PyProof.Rows
section
variable {X:Cx}
def Hi(h:sF (.inl i) v=true):∃t,v=.int i t:=by
 rcases dB h with⟨j,t,e,rfl⟩ | ⟨x,t,e,_⟩
 ·cases e;exact⟨t,rfl⟩
 ·cases e
theorem FI:∀{kvs:List (Key×V)}{vs:List (Key×Value)},KV kvs vs->vs.map (·.1)=kvs.map (·.1)
 |_,_,.nil=>rfl
 |_,_,.cons h r=>by rw[cz,cz,h.1,FI r]
def Bf{ks:List Int}(h:(ks.map (Sum.inl:Int->Key)).Nodup):ks.Nodup:=by
 refine List.Pairwise.imp ?_ (List.pairwise_map.mp h);intro a b h1 h2;exact h1 (by rw[h2])
theorem zX:∀{es:List DictEntry}{vs:List (Key×Value)}{ks:List Int},Pairs (eu P w) es vs->vs.map (·.1)=ks.map Sum.inl->IntsAre (es.map (·.key)) ks
 |_,_,ks,.nil,h=>by
  cases ks with
  |nil=>exact .nil
  |cons k ks=>cases h
 |_,_,ks,.cons h1 h2 r,h=>by
  cases ks with
  |nil=>cases h
  |cons k ks=>
   simp only[cz,List.cons.injEq] at h;rw[h.1] at h1;obtain⟨t,e⟩:=Hi h1;rw[cz,e];exact .cons k t (zX r h.2)
def Cs:List V->Hp->VK->Prop:=λvs H Q=> ∃(a:Addr)(kvs:List (Key×V))(ks:List Int),vs=[V.ref a]/\H a=some (.dK kvs)/\kvs.map (·.1)=ks.map Sum.inl/\kvs.length<64/\
 ∀(ms:List Int)(p:Addr),ms.Pairwise (· < ·)->ms.Perm ks->H p=none->Q (.ref p) (upd H p (.lst (ms.map V.int)))
def yY(hc:X.calm=true):lA X (.builtin "sorted") Cs:=by
 intro pins s σ H vs us Q I r h;obtain⟨a,kvs,ks,rfl,ha,hk,h64,q⟩:=h;rw[Vals.IH r];obtain⟨_,hs,us2,kv,o,es,ep,ho,hx,hd,hko,hpa,hnd⟩:=I.bP a _ ha;have e1:us2.map (·.1)=kvs.map (·.1):=FI kv;have hi:=zX (P:=X.prog) (w:=X.w) hpa (e1.trans hk);have l1:(es.toList.map (·.key)).length=ks.length:=hi.length;have l2:ks.length=kvs.length:=by have:=congrArg List.length hk;simpa using this.symm
 have few:(es.toList.map (·.key)).length<64:=by omega
 have nd:ks.Nodup:=by
  rw[e1,hk] at hnd;exact Bf hnd
 refine bV.uD (I.ok.hd hc) (bV.Hr hs hx hd) (bV.FO hx.1 (.inr rfl)) ho hx.1 (.inr rfl) hi few λh2 d tk ep2 p out ms z1 z2 z3 z4 k at2=>?_
 have hsz:(ms.map V.int).length<=sizeLine:=by rw[bD,z2.length_eq,l2];exact Fh h64
 exact⟨.ref p,upd H p (.lst (ms.map V.int)),(I.laid (o:=.lst (ms.map V.int)) (t':=tk) k z4 ⟨hsz,out.toList,ep2,mM z1,at2⟩).Fn d,rfl,q ms p (bV.rising z3 z2 nd) z2 (I.bP.fresh z4)⟩
end
section
variable {X:Cx}
def IM(K:bg):V->List V->Hp->VK->Prop:=λx vs H Q=> ∃l b xs zs,x=.ref l/\vs=[.ref b]/\H l=some (.lst xs)/\uh K H b zs/\xs.length+zs.length<=sizeLine/\Q .ez (upd H l (.lst (xs++zs)))
def Eo:Od X "list.extend" (IM X.K):=by
 intro pins s σ H x vs v us Q I rx rv h;obtain⟨l,b,xs,zs,rfl,rfl,hH,hB,hz,q⟩:=h;cases rx;obtain⟨u,rfl,ru⟩:=rv.one;cases ru;obtain⟨z,its,n,r,hl,e⟩:=I.CM hH;obtain⟨its2,r2,⟨o,ho,hc,n2,hd⟩,z2⟩:=I.tuple hB;have hl2:=r2.length;refine wpAny_call_entry F.slot_list_extend ⟨_,e,rfl⟩ F.entry_list_extend ?_ (F.args_list_extend_2 _ _);show wpAny _ _ (Builtin.List.listExtendWith (.ref l) (.ref b) .none) _ _ _;unfold Builtin.List.listExtendWith;refine aB (wpAny_typeOf (T:= "tuple") ⟨_,ho,hc⟩ ?_);have t1:(Builtin.List.listSameRef (.ref l) (.ref b)||Value.type "tuple" ==Value.type "list" ||Value.type "tuple" ==Value.type "tuple")=true:=by
  rw[show(Value.type "tuple" ==Value.type "tuple")=true from rfl,Bool.or_true]
 rw[ai t1];refine aB (listItems_at ho hd ?_);refine aB (listItems_at e rfl ?_);have t2:Builtin.List.listTooLong (its.toArray.size+its2.toArray.size)=false:=xM (by rw[dE,dE];omega);rw[ag (by rw[t2,Bool.and_false];exact fj)];refine aB (listUpdate_at e rfl ?_ (by rw[dE];omega) (by rw[Array.size_append,dE,dE];omega));exact aM ⟨_,rfl,.ez,_,I.KN (t':=s.toks) (its':=its++its2) hH e (by simp) (r.append r2) (by rw[dR];omega),rfl,q⟩
end
end L2
namespace L2
open PySem
def LO(hd:H d=some (.dK kvs))(he:∀o,Ev td σ (ao H d (.kZ o (.dK kvs))) (.ref d))(Pv:Obj->Nat->b6->Hp->Prop)(h0:∀o,Pv o 0 σ (ao H d (.kZ o (.dK kvs))))
  (hl:∀o i σ H,Pv o i σ H->H d=some (.kZ o (.dK kvs))) (hs:∀o i k v σ H (rt:VK)(bk:b6->Hp->Prop),kvs[i]? =some (k,v)->Pv o i σ H->g (kV k) σ H λσ2 H2=>tb ⟨Pv o (i+1),rt,bk,Pv o (i+1)⟩ σ2 H2)
  (hq:∀o σ H,Pv o kvs.length σ H->D.nx σ (ao H d (.dK kvs))):Ll (Gz (Lx td) g tb) D σ H:=by
 refine⟨d,.dK kvs,hd,trivial,λod=>he od _ ⟨d,od,rfl,.inl ⟨kvs,ah, ?_⟩⟩⟩;refine⟨λi m σ H=>m=kvs.length - i/\i<=kvs.length/\Pv od i σ H,⟨kvs.length,by simp,d8 _,h0 od⟩, ?_⟩;intro i m σ H z0;obtain⟨rfl,hi,p⟩:=z0;have q:=hl od i σ H p;by_cases lt:i<kvs.length
 ·refine .inr ⟨⟨q,lt⟩,Pv od (i+1),λσ2 H2 p2=>⟨kvs.length - (i+1),by omega,rfl,lt,p2⟩, ?_⟩;intro x H2 z0;obtain⟨rfl,k,v,hk,rfl⟩:=z0;exact hs od i k v σ _ _ _ hk p
 ·have e:i=kvs.length:=by omega
  subst e;exact .inl ⟨⟨q,bx _⟩,q,hq od σ H p⟩
def OV(K:bg)(n:Nat)(tt:TT)(te:TE)(σ:b6)(Q:VK)(x:V)(H1:Hp):Prop:= ∃a,x=.ref a/\(∃xs,cG K H1 a xs)/\∀D,H1 D=none->∃W:Nat->Nat->Hp->Prop,(∃m,W 0 m (ao H1 D (.lst [])))/\∀i m H,W i m H->
 ((Gi K a).stop i H/\Q (.ref D) H)\/((Gi K a).go i H/\∃Nx:Hp->Prop,(∀H',Nx H'->∃m',m'<m/\W (i+1) m' H')/\∀x H',(Gi K a).LH i H x H'->gi n x (wipe σ [n]) H' λσ2 H2=>wipe σ2 [n]=wipe σ [n]/\tt σ2 H2 λb H3=>
  if b=true then te σ2 H3 λy H4=> ∃acc,H4 D=some (.lst acc)/\acc.length<sizeLine/\Nx (ao H4 D (.lst (acc++[y]))) else Nx H3)
def N9(h:tl σ H (OV K n tt te σ Q)):Ig (A0 K tl) (gi n) tt te [n] σ H Q:=h
def Jj(hx:cG K H1 a xs)(Pv:Addr->Nat->Hp->Prop)(h0:∀D,H1 D=none->Pv D 0 (ao H1 D (.lst [])))(hl:∀D i H',Pv D i H'->cG K H' a xs)
  (hs:∀D i x H',H1 D=none->xs[i]? =some x->Pv D i H'->tt ((wipe σ [n]).set n (some x)) H' λb H3=>if b=true then te ((wipe σ [n]).set n (some x)) H3 λy H4=> ∃acc,H4 D=some (.lst acc)/\acc.length<sizeLine/\Pv D (i+1) (ao H4 D (.lst (acc++[y]))) else Pv D (i+1) H3)
  (hd:∀D H',H1 D=none->Pv D xs.length H'->Q (.ref D) H'):OV K n tt te σ Q (.ref a) H1:=by
 refine⟨a,rfl,⟨_,hx⟩,λD hD=>?_⟩;refine FG (K:=K) (a:=a) (xs:=xs) (Pv D) (h0 D hD) (λi H' _ p=>hl D i H' p) (λi x H' hi p=>⟨?_,hs D i x H' hD hi p⟩) λH' p=>hd D H' hD p
 simp[wipe,List.set_set]
def kG(H H':Hp):Prop:= ∀b u,H b=some u->H' b=some u\/∃kvs o,u=.dK kvs/\H' b=some (.kZ o u)
def kG.of(s:aG H H'):kG H H':=λb u e=>.inl (s b u e)
def kG.rd(s:kG H H')(h:Rd H d (.dK kvs)):Rd H' d (.dK kvs):=by
 rcases h with h | ⟨o,h⟩
 ·rcases s d _ h with e | ⟨_,o,_,e⟩
  ·exact .inl e
  ·exact .inr ⟨o,e⟩
 ·rcases s d _ h with e | ⟨_,_,e,_⟩
  ·exact .inr ⟨o,e⟩
  ·cases e
theorem kG.ins(s:kG H H')(h:H p=some (.ins C dx fs)):H' p=some (.ins C dx fs):=by
 rcases s p _ h with e | ⟨_,_,e,_⟩
 ·exact e
 ·cases e
theorem kG.lst(s:kG H H')(h:H p=some (.lst xs)):H' p=some (.lst xs):=by
 rcases s p _ h with e | ⟨_,_,e,_⟩
 ·exact e
 ·cases e
def Az{ks:List Nat}{pa:Nat->Addr}{f:Nat}:gA (ks.map λk=>((Sum.inl ((k:Nat):Int):Key),V.ref (pa k))) (Sum.inl (f:Int))=if f∈ks then some (V.ref (pa f)) else none:=by
 induction ks with
 |nil=>rfl
 |cons k ks ih=>
  by_cases e:k=f
  ·subst e;rw[cz,fM rfl,ai cF]
  ·rw[cz,fN (λz=>e (by have:=Sum.inl.inj z;omega)),ih];by_cases h:f∈ks
   ·rw[ai h,ai (cZ _ h)]
   ·rw[ag h,ag λz=>(bp.mp z).elim (λq=>e q.symm) h]
def IL(hv:Ev tv σ H v)(hd:Ev td σ H (.ref a))(hy:Ev ty σ H y)(g:BP H a y v H4)(k:D.nx σ H4):IA td ty tv D σ H:=
 hv _ (hd _ (hy _ ⟨a,H4,rfl,g,k⟩))
def NU(K:bg)(g:TG)(tb:TS)(D:Ends)(σ:b6)(x:V)(H1:Hp):Prop:= ∃a,x=.ref a/\(∃xs,cG K H1 a xs)/\∃W:Nat->Nat->b6->Hp->Prop,(∃m,W 0 m σ H1)/\∀i m σ H,W i m σ H->
 ((Gi K a).stop i H/\D.nx σ H)\/((Gi K a).go i H/\∃N:b6->Hp->Prop,(∀σ' H',N σ' H'->∃m',m'<m/\W (i+1) m' σ' H')/\∀x H',(Gi K a).LH i H x H'->g x σ H' λσ2 H2=>tb { D with nx:=N,ct:=N,bk:=D.nx } σ2 H2)
def Nb(h:tl σ H (NU K g tb D σ)):Gz (A0 K tl) g tb D σ H:=h
def L3(hx:cG K H1 a xs)(Pv:Nat->b6->Hp->Prop)(h0:Pv 0 σ H1)(hl:∀i σ H,i<=xs.length->Pv i σ H->cG K H a xs)
  (hs:∀i x σ H,xs[i]? =some x->Pv i σ H->g x σ H λσ2 H2=>tb { D with nx:=Pv (i+1),ct:=Pv (i+1),bk:=D.nx } σ2 H2) (hd:∀σ H,Pv xs.length σ H->D.nx σ H):NU K g tb D σ (.ref a) H1:=
 ⟨a,rfl,⟨_,hx⟩,D6 (K:=K) (a:=a) (xs:=xs) Pv h0 hl hs hd⟩
def Fp(h:u σ H λc H1=>if c=true then Q true H1 else u' σ H1 Q):O1 u u' σ H Q:=h
def dO(h:Ev t σ H (.ref p))(hp:H p=some (.lst xs))(hn:xs.length=n):Ev (Ke (Fq K) (fZ t jC)) σ H (nv n):=by
 subst hn;exact dG (ae h au) (ff hp)
end L2
namespace L2
open PySem PySem.Spec PyProof.Rows
def NW:Nat->(List Value->Prop)->Prop
 |0,p=>p []
 |n+1,p=> ∀a,NW n λl=>p (a :: l)
theorem Le:∀{n:Nat}{p:List Value->Prop},NW n p->∀us:List Value,us.length=n->p us
 |0,_,h,[],_=>h
 |_+1,_,h,a :: us,e=>Le (h a) us (Nat.succ.inj e)
def zE{α:Sort u}{p:α->Prop}{G:Prop}(k:∀x,p x->G)(h:∃x,p x):G:=h.elim k
section
variable {X:Cx} {x f:Str} {p pos pos' apos cpos:Pos} {e a b o value:Expr} {es:List Expr} {t:TA} {te ta tb to tv:TE}
def aF(he:PE X e ta)(hb:attributeBase e f X.env (eval e X.env)=eval e X.env:=by rfl):PE X (.Attribute e f pos) (da X.K ta f):=M8 he hb
def aZ(ha:PE X a ta)(hb:PE X b tb)(hs:BM b:=by exact λ_ _=>rfl):PE X (.Subscript a b pos) (jR (gY X.K) ta tb):=kS mX ha hb hs
def ki(ha:PE X a ta)(hb:PE X b tb)(hs:BM b:=by exact λ_ _=>rfl):PE X (.Subscript a b pos) (jR (qS X.K) ta tb):=kS r6 ha hb hs
def aP{i:Int}(hm:∃t,X.mg x=some (.int i t))(hg:Gl X x:=by rfl)(hd:(x==("__debug__" :Str))=false:=by decide):PE X (.Name x pos) (tC (.int i)):=IT hg hm hd
def aO{op:CmpOp}{r:R2}(ho:tE X (compareOp op) r)(ha:PE X a ta)(hb:PE X b tb)(h:op≠ .In:=by decide)(h2:op≠ .NotIn:=by decide):PT X (.Compare a [op] [b] pos) (qx (jR r ta tb)):=Ft ho ha hb (J4 _ h h2)
def nW{op:CmpOp}{r:R2}(ho:tE X (compareOp op) r)(ha:PE X a ta)(hb:PE X b tb)(h:op≠ .In:=by decide)(h2:op≠ .NotIn:=by decide):PE X (.Compare a [op] [b] pos) (jR r ta tb):=Kw ho ha hb (J4 _ h h2)
def cn(hm:X.mg "len" =none)(ha:PE X e te)(hg:Gl X "len" :=by rfl)(he:starEach [e] X.env=(false,eval e X.env) :: starEach [] X.env:=by rfl)(hpl:(backTo pos (starEach [] X.env)).any (·.1)=false:=by rfl):
  PE X (.Call (.Name "len" p) [e] [] pos) (Ke (Fq X.K) (fZ te jC)):=cC BE hg hm LC (ab ha ax (hs:=he)) (by decide) (by decide) he hpl
def aT(i:Nat)(hN:X.N.Nodup)(he:PE X e te)(hi:X.N[i]? =some x:=by rfl)(hx:Loc X.env.scope x:=by first |exact Or.inl rfl |exact Or.inr rfl)(hs:swapsWith e (some (.Name x pos')) pos.line X.env=pure false:=by rfl)
  (hf:X.fn x=true\/X.env.scope.names.lookup x=some .local:=by first |exact .inl rfl |exact .inr rfl |assumption):PS X (.Assign [.Name x pos'] e pos) (DR te (gi i)):=LZ hN hi hx he hs hf
def fv(i:Nat)(hN:X.N.Nodup)(hi:X.N[i]? =some x:=by rfl)(hx:Loc X.env.scope x:=by first |exact Or.inl rfl |exact Or.inr rfl)
  (hf:X.fn x=true\/X.env.scope.names.lookup x=some .local:=by first |exact .inl rfl |exact .inr rfl |assumption):PG X (.Name x pos) (gi i):=Kt hN hi hx hf
def bR(ha:PE X o ta)(hv:PE X value tv)(hs:swapsWith value (some (.Attribute o f pos')) pos.line X.env=pure false:=by rfl):PS X (.Assign [.Attribute o f pos'] value pos) (E4 X.K ta tv f):=M6 ha hv hs
def m9(ho:PE X o to)(ha:PE X e te)(hbase:attributeBase o "append" X.env (eval o X.env)=eval o X.env:=by rfl)
  (hfew:((backTo cpos (starEach [e] X.env)).all (λx=>!x.1)&&(backToKw cpos (keywordEach [] X.env)).all (λx=>x.1.isSome)
   &&decide ([e].length+([]:List Keyword).length+(if ([]:List Keyword).isEmpty then 0 else 1)<30))=true:=by rfl)
  (hline:(apos.endLine==cpos.line)=true:=by rfl) (hs:starEach [e] X.env=(false,eval e X.env) :: starEach [] X.env:=by rfl) (hplain:(backTo cpos (starEach [] X.env)).any (·.1)=false:=by rfl):
  PE X (.Call (.Attribute o "append" apos) [e] [] cpos) (Lm X.K "list" jS to (fZ te jC)):=Fx PySem.F.plainAttrs_list PySem.F.slot_list_append PySem.F.type_list_append GV ho (ab ha ax (hs:=hs)) hbase hfew hline hs hplain
def rQ{N P:List Str}{sc scope:Scope}(S:nz N P sc)(own:List (Str×Nat))(h:MH N sc scope own=true:=by decide+kernel):Ae N sc scope own:=JX h
end
structure Dy(K:bg)(mg:Str->Option Value)(n q:Str)(st:Stmt)(ps:List Str)(c f:Addr)(d:FuncData):Prop where
 F:Gj K "__init__" q st f d
 ms:Mk K c f
 m:mg n=some (.ref c)
 b:Binds K d ps []
def ma{K:bg}{mg:Str->Option Value}{n q:Str}{st:Stmt}{ps fs:List Str}{c f:Addr}{d:FuncData}(h:Gj K "__init__" q st f d/\vW K c/\Mk K c f/\mg n=some (.ref c)/\∀x∈fs,bf K c x)
  (hb:∀(kV doc pm:Value)(an:Option Addr)(cdv ct:Value)(us:List Value),us.length=ps.length->bindArgs (fm "__init__" q (j5 st) (gT st) (d7 st) .none kV doc pm an cdv ct) ⟨us,[]⟩ =pure (ps.zip us):=by intro _ _ _ _ _ _;refine Le ?_;(repeat intro _);exact rfl):Dy K mg n q st ps c f d:=⟨h.1,h.2.2.1,h.2.2.2.1,h.1.binds hb⟩
section
variable {X:Cx} {x q:Str} {p pos:Pos} {e:Expr} {es:List Expr} {t:TA} {st:Stmt} {ps:List Str} {c f:Addr} {d:FuncData} {k k':Nat} {sp:Sp}
def aV(B:Gj X.K x x st f d/\X.mg x=some (.ref f))(F:nA X.prog X.w X.K X.mg X.base HP k f d ps sp)(hr:iC k' X.A)(ha:PA X (e :: es) t)(hb:∀(kV doc pm:Value)(an:Option Addr)(cdv ct:Value)(us:List Value),us.length=ps.length->bindArgs (fm x x (j5 st) (gT st) (d7 st) .none kV doc pm an cdv ct) ⟨us,[]⟩ =pure (ps.zip us):=by intro _ _ _ _ _ _;refine Le ?_;(repeat intro _);exact rfl)(hk:k<=k':=by decide)(hg:Gl X x:=by rfl)(hdb:(x==("__debug__" :Str))=false:=by decide)
  (he:starEach (e :: es) X.env=(false,eval e X.env) :: starEach es X.env:=by rfl) (hpl:(backTo pos (starEach es X.env)).any (·.1)=false:=by rfl):PE X (.Call (.Name x p) (e :: es) [] pos) (oS sp [] E0 t):=Kx F (hr.mono hk) hg B.2 B.1.kp (B.1.binds hb) .nil Fy ha hdb he hpl
def AV(B:Gj X.K x x st f d/\X.mg x=some (.ref f))(F:nA X.prog X.w X.K X.mg X.base HP k f d ps sp)(hr:iC k' X.A)(hb:∀(kV doc pm:Value)(an:Option Addr)(cdv ct:Value)(us:List Value),us.length=ps.length->bindArgs (fm x x (j5 st) (gT st) (d7 st) .none kV doc pm an cdv ct) ⟨us,[]⟩ =pure (ps.zip us):=by intro _ _ _ _ _ _;refine Le ?_;(repeat intro _);exact rfl)(hk:k<=k':=by decide)(hg:Gl X x:=by rfl)(hdb:(x==("__debug__" :Str))=false:=by decide):
  PE X (.Call (.Name x p) [] [] pos) (oS sp [] E0 jC):=IX F (hr.mono hk) hg B.2 B.1.kp (B.1.binds hb) .nil Fy hdb
def fF(B:Dy X.K X.mg x q st ps c f d)(F:nA X.prog X.w X.K X.mg X.base HP k f d ps sp)(hr:iC k' X.A)(ha:PA X (e :: es) t)(hk:k+1<=k':=by decide)(hg:Gl X x:=by rfl)(hdb:(x==("__debug__" :Str))=false:=by decide)
  (he:starEach (e :: es) X.env=(false,eval e X.env) :: starEach es X.env:=by rfl) (hpl:(backTo pos (starEach es X.env)).any (·.1)=false:=by rfl):PE X (.Call (.Name x p) (e :: es) [] pos) (lZ c sp [] E0 t):=Kv B.ms F (hr.mono hk) hg B.m B.b .nil Fy ha hdb he hpl
def LX(B:Dy X.K X.mg x q st ps c f d)(F:nA X.prog X.w X.K X.mg X.base HP k f d ps sp)(hr:iC k' X.A)(hk:k+1<=k':=by decide)(hg:Gl X x:=by rfl)(hdb:(x==("__debug__" :Str))=false:=by decide):
  PE X (.Call (.Name x p) [] [] pos) (lZ c sp [] E0 jC):=IS B.ms F (hr.mono hk) hg B.m B.b .nil Fy hdb
end
section
variable {P:Program} {w:World} {K:bg} {mg:Str->Option Value} {base:Heap}
def Ni{N P:List Str}{sc:Scope}(h1:sc.kind=.function:=by rfl)(h2:sc.isCoroutine=false:=by rfl)(h3:sc.isGenerator=false:=by rfl)(h4:N.Nodup:=by decide+kernel)(h5:N.take P.length=P:=by rfl)
  (h6:∀x∈P,sc.names.lookup x=some .local\/sc.names.lookup x=some .cell:=by decide+kernel) (h7:∀y∈sc.names,y.2≠ .free:=by decide+kernel):nz N P sc:=⟨h1,h2,h3,h4,h5,h6,h7⟩
def b8{x qual:Str}{f:Addr}{fd:FuncData}{ps:List Str}{k:Nat}{sp:Sp}(st:Stmt)(N:List Str)(F:Gj K x qual st f fd)
  (hbody:∀{cdv:Value}{A:Around}{outer:List Env}{s:Shared},nz N ps (d7 st)->∀(H:Hp)(vs:List V)(Q:VK)(E:XK),iC k (A.deeper (envOfC qual (d7 st) s.heap.objs.size f cdv))->sp vs H Q E->
   ∃t,Gh (ET HP P w K mg base N qual (d7 st) f cdv A outer s H E).Nk (gT st) t/\t { nx:=λ_ H'=>Q .ez H',rt:=Q } (start N vs) H)
  (S:nz N ps (d7 st):=by exact Ni) (len:∀vs H Q E,sp vs H Q E->vs.length=ps.length:=by first |(intro vs H Q E;(repeat refine zE λ_=>?_);exact λh=>congrArg List.length h.1) |(intro vs H Q E h;(repeat (obtain⟨_,h⟩:=h));subst_vars;first |rfl |simp[*])):nA P w K mg base HP (k+1) f fd ps sp:=F.ok S len λ_ _ _ _ H vs Q E=>hbody S H vs Q E
end
end L2
namespace Wh
open PySem PySem.Spec PyProof.Rows L2
def top(i:Nat):Stmt:=PySem.Challenge.pw_wordhold_s01_answers.main.body.getD i (.Pass ⟨0,0,0,0⟩)
structure bU where
 f:Nat->Addr
 fi:Nat->Addr
 c:Nat->Addr
 d:Nat->FuncData
 di:Nat->FuncData
 iu:Addr
 BL:Addr
abbrev bU.lP(A:bU):Addr:=A.c 0
abbrev bU.BF(A:bU):Addr:=A.c 1
abbrev bU.lj(A:bU):Addr:=A.c 2
abbrev bU.iJ(A:bU):Addr:=A.c 3
abbrev bU.BG(A:bU):Addr:=A.c 4
abbrev bU.nh(A:bU):Addr:=A.c 5
abbrev bU.dH(A:bU):Addr:=A.c 6
abbrev bU.dU(A:bU):Addr:=A.c 7
abbrev bU.pN(A:bU):Addr:=A.c 8
abbrev bU.fL(A:bU):Addr:=A.c 9
abbrev bU.A9(A:bU):Addr:=A.c 10
abbrev bU.ue(A:bU):Addr:=A.c 11
abbrev bU.JW(A:bU):Addr:=A.c 12
noncomputable abbrev MR:List (Str×Stmt):=[(("head_size" :Str),top 16),(("head_at" :Str),top 17),(("heads_of" :Str),top 18),(("begin_expression" :Str),top 19),(("lead_past_the_other" :Str),top 20),(("end_expression" :Str),top 21),(("end_what_is_whole" :Str),top 22),(("read_body" :Str),top 23),(("is_bound" :Str),top 44),(("may_be_asked" :Str),top 45),(("span_of_division" :Str),top 49),(("span_of_below" :Str),top 50),(("span_of_pair" :Str),top 51),(("fact_of_pair" :Str),top 52),(("fact_of_choice" :Str),top 53),(("fact_of_let" :Str),top 54),(("fact_of_call" :Str),top 55),(("fact_of_node" :Str),top 56),(("facts_of_arguments" :Str),top 57),(("known_of" :Str),top 58),(("keeps" :Str),top 59),(("new_cell" :Str),top 67),(("new_cells" :Str),top 68),(("log_is_full" :Str),top 70),(("in_force" :Str),top 71),(("words_in_force" :Str),top 72),(("called_by" :Str),top 73),(("callers_of" :Str),top 74),(("value_of_pair" :Str),top 78),(("value_of_node" :Str),top 79),(("is_at_end" :Str),top 80),(("node_due" :Str),top 81),(("settle" :Str),top 82),(("run_of_call" :Str),top 83),(("evaluate" :Str),top 84),(("infer" :Str),top 86),(("tell_word" :Str),top 87),(("tell_body" :Str),top 88),(("tell_calls" :Str),top 89),(("tell_callers" :Str),top 90),(("tell_versions" :Str),top 91),(("are_within" :Str),top 92),(("tell_result" :Str),top 93),(("tell_entry" :Str),top 94),(("tell_many" :Str),top 95),(("may_see" :Str),top 97),(("is_from" :Str),top 98),(("put_cell" :Str),top 99),(("refusal_to_run" :Str),top 100),(("mask_of_result" :Str),top 101),(("run_over" :Str),top 102),(("narrow_cell" :Str),top 103),(("clear_cell" :Str),top 104),(("read_cell" :Str),top 105),(("tell_seen" :Str),top 106),(("tell_how" :Str),top 107),(("begin" :Str),top 112),(("may_be_told" :Str),top 113),(("refusal_in_force" :Str),top 114),(("number_if_told" :Str),top 115),(("would" :Str),top 116),(("define" :Str),top 117),(("refusal_of_hand" :Str),top 118),(("refusal_to_drop" :Str),top 119),(("drop" :Str),top 120),(("refusal_to_take_back" :Str),top 121),(("back" :Str),top 122),(("give" :Str),top 123),(("call_at" :Str),top 149),(("bounds_of" :Str),top 150),(("version_of" :Str),top 151),(("answer_of_telling" :Str),top 152),(("answer_of_asking" :Str),top 153),(("answer_of_cells" :Str),top 154),(("answer_of" :Str),top 155),(("answers" :Str),top 156)]
noncomputable abbrev MT:List (Str×Str×Stmt×List Str):=[("Node","Node.__init__",inClass (top 12) 0,["kind","number","parts","onward","onward_if_zero"]),("Head","Head.__init__",inClass (top 13) 0,["kind","number","due"]),("Begun","Begun.__init__",inClass (top 14) 0,["head","parts"]),("Reading","Reading.__init__",inClass (top 15) 0,["arguments","nodes","begun","sight"]),("Fact","Fact.__init__",inClass (top 47) 0,["least","most","deps","steps"]),("Word","Word.__init__",inClass (top 48) 0,["bounds","promise"]),("Version","Version.__init__",inClass (top 64) 0,["word","body","nodes"]),("Program","Program.__init__",inClass (top 65) 0,["owner","versions"]),("Cell","Cell.__init__",inClass (top 66) 0,["value","bound","mask","origin"]),("House","House.__init__",inClass (top 69) 0,["programs","entries","cells"]),("Run","Run.__init__",inClass (top 76) 0,["nodes","arguments","held","at"]),("Outcome","Outcome.__init__",inClass (top 77) 0,["value","steps"]),("Call","Call.__init__",inClass (top 148) 0,["kind","numbers","rows","end"])]
noncomputable abbrev cT:List (Str×Int):=[(("NUMBER" :Str),0),(("VARIABLE" :Str),1),(("PLUS" :Str),2),(("MINUS" :Str),3),(("TIMES" :Str),4),(("THROUGH" :Str),5),(("LESSER" :Str),6),(("GREATER" :Str),7),(("CHOICE" :Str),9),(("LET" :Str),10),(("CALL" :Str),11),(("VALUES" :Str),4294967296),(("PEOPLE" :Str),16),(("PROGRAMS" :Str),16),(("CELLS" :Str),32),(("EVERYBODY" :Str),65535),(("MOST_BOUNDS" :Str),4),(("MOST_STEPS" :Str),20000),(("MOST_BODY" :Str),200),(("MOST_VERSIONS" :Str),8),(("MOST_ENTRIES" :Str),128),(("NOT_YOURS" :Str), -1),(("NOT_THERE" :Str), -2),(("ONLY_VERSION" :Str), -6),(("NOT_SEEN" :Str), -13),(("BREAKS_ANOTHER" :Str), -17),(("WRONG" :Str), -22),(("FULL" :Str), -28),(("NOT_KEPT" :Str), -33),(("NOT_WITHIN" :Str), -71),(("FROM_NOBODY" :Str),0),(("PUT_BY" :Str),1),(("RUN_BY" :Str),2),(("TOLD" :Str),1),(("DROPPED" :Str),2),(("TAKEN_BACK" :Str),3),(("BEGIN" :Str),0),(("DEFINE" :Str),1),(("WOULD" :Str),2),(("DROP" :Str),3),(("BACK" :Str),4),(("GIVE" :Str),5),(("INFER" :Str),6),(("WORD" :Str),7),(("BODY" :Str),8),(("CALLS" :Str),9),(("CALLERS" :Str),10),(("VERSIONS" :Str),11),(("EVALUATION" :Str),12),(("PUT" :Str),13),(("RUN" :Str),14),(("NARROW" :Str),15),(("CLEAR" :Str),16),(("READ" :Str),17),(("SEEN" :Str),18),(("HOW" :Str),19),(("LOG" :Str),20)]
abbrev bT:List Str:=["all","any","enumerate","len","list","max","min","range","set","sorted","zip"]
structure Txt(K:bg)(mg:Str->Option Value)(A:bU):Prop where
 p:∀(i:Nat)(h:i<MR.length:=by decide),Gj K MR[i].1 MR[i].1 MR[i].2 (A.f i) (A.d i)/\mg MR[i].1=some (.ref (A.f i))
 k:∀(i:Nat)(h:i<MT.length:=by decide),Gj K "__init__" MT[i].2.1 MT[i].2.2.1 (A.fi i) (A.di i)/\vW K (A.c i)/\Mk K (A.c i) (A.fi i)/\mg MT[i].1=some (.ref (A.c i))/\∀x∈MT[i].2.2.2,bf K (A.c i) x
 g:∀(i:Nat)(h:i<cT.length:=by decide),∃t,mg cT[i].1=some (.int cT[i].2 t)
 n:∀(i:Nat)(h:i<bT.length:=by decide),mg bT[i]=none
 jH:mg "WHOLE_NUMBERS" =some (.ref A.iu)
 jD:∀H:Hp,uh K H A.iu [.int 0,.int 6,.int 6,.int 2,.int 2,.int 3,.int 0,.int 1,.int 1,.int 1,.int 1,.int 1,.int 1,.int 6,.int 3,.int 3,.int 2,.int 2,.int 1,.int 1,.int 1,.int 0]
 EC:mg "ROWS" =some (.ref A.BL)
 E9:∀H:Hp,uh K H A.BL [.int 0,.int 2,.int 2,.int 0,.int 0,.int 0,.int 2,.int 0,.int 0,.int 0,.int 0,.int 0,.int 1,.int 0,.int 1,.int 0,.int 0,.int 0,.int 0,.int 0,.int 0,.int 0]
section
variable {K:bg} {mg:Str->Option Value} {A:bU} (T:Txt K mg A)
include T
def Txt.vm:Dy K mg "Node" "Node.__init__" (inClass (top 12) 0) ["self","kind","number","parts","onward"] (A.c 0) (A.fi 0) (A.di 0):=ma (T.k 0)
def Txt.iM:Dy K mg "Head" "Head.__init__" (inClass (top 13) 0) ["self","kind","number","due"] (A.c 1) (A.fi 1) (A.di 1):=ma (T.k 1)
def Txt.tu:Dy K mg "Begun" "Begun.__init__" (inClass (top 14) 0) ["self","head"] (A.c 2) (A.fi 2) (A.di 2):=ma (T.k 2)
def Txt.pT:Dy K mg "Reading" "Reading.__init__" (inClass (top 15) 0) ["self","arguments"] (A.c 3) (A.fi 3) (A.di 3):=ma (T.k 3)
def Txt.eS:Dy K mg "Fact" "Fact.__init__" (inClass (top 47) 0) ["self","least","most","deps","steps"] (A.c 4) (A.fi 4) (A.di 4):=ma (T.k 4)
def Txt.vk:Dy K mg "Word" "Word.__init__" (inClass (top 48) 0) ["self","bounds","promise"] (A.c 5) (A.fi 5) (A.di 5):=ma (T.k 5)
def Txt.pR:Dy K mg "Version" "Version.__init__" (inClass (top 64) 0) ["self","word","body"] (A.c 6) (A.fi 6) (A.di 6):=ma (T.k 6)
def Txt.pU:Dy K mg "Program" "Program.__init__" (inClass (top 65) 0) ["self","owner"] (A.c 7) (A.fi 7) (A.di 7):=ma (T.k 7)
def Txt.ly:Dy K mg "Cell" "Cell.__init__" (inClass (top 66) 0) ["self","value","bound","mask","origin"] (A.c 8) (A.fi 8) (A.di 8):=ma (T.k 8)
def Txt.tf:Dy K mg "House" "House.__init__" (inClass (top 69) 0) ["self"] (A.c 9) (A.fi 9) (A.di 9):=ma (T.k 9)
def Txt.rh:Dy K mg "Run" "Run.__init__" (inClass (top 76) 0) ["self","nodes","arguments"] (A.c 10) (A.fi 10) (A.di 10):=ma (T.k 10)
def Txt.pV:Dy K mg "Outcome" "Outcome.__init__" (inClass (top 77) 0) ["self","value","steps"] (A.c 11) (A.fi 11) (A.di 11):=ma (T.k 11)
def Txt.vq:Dy K mg "Call" "Call.__init__" (inClass (top 148) 0) ["self","kind","numbers","rows","end"] (A.c 12) (A.fi 12) (A.di 12):=ma (T.k 12)
def Txt.cY:vW K (A.c 0):=(T.k 0).2.1
def Txt.iW:bf K (A.c 0) "kind" :=(T.k 0).2.2.2.2 _ (by simp)
def Txt.fA:bf K (A.c 0) "number" :=(T.k 0).2.2.2.2 _ (by simp)
def Txt.jn:bf K (A.c 0) "parts" :=(T.k 0).2.2.2.2 _ (by simp)
def Txt.kn:bf K (A.c 0) "onward" :=(T.k 0).2.2.2.2 _ (by simp)
def Txt.dN:bf K (A.c 0) "onward_if_zero" :=(T.k 0).2.2.2.2 _ (by simp)
def Txt.gU:vW K (A.c 1):=(T.k 1).2.1
def Txt.fI:bf K (A.c 1) "kind" :=(T.k 1).2.2.2.2 _ (by simp)
def Txt.ko:bf K (A.c 1) "number" :=(T.k 1).2.2.2.2 _ (by simp)
def Txt.p9:bf K (A.c 1) "due" :=(T.k 1).2.2.2.2 _ (by simp)
def Txt.j7:vW K (A.c 2):=(T.k 2).2.1
def Txt.jo:bf K (A.c 2) "head" :=(T.k 2).2.2.2.2 _ (by simp)
def Txt.gG:bf K (A.c 2) "parts" :=(T.k 2).2.2.2.2 _ (by simp)
def Txt.bE:vW K (A.c 3):=(T.k 3).2.1
def Txt.gE:bf K (A.c 3) "arguments" :=(T.k 3).2.2.2.2 _ (by simp)
def Txt.dg:bf K (A.c 3) "nodes" :=(T.k 3).2.2.2.2 _ (by simp)
def Txt.dj:bf K (A.c 3) "begun" :=(T.k 3).2.2.2.2 _ (by simp)
def Txt.gP:bf K (A.c 3) "sight" :=(T.k 3).2.2.2.2 _ (by simp)
def Txt.j6:vW K (A.c 4):=(T.k 4).2.1
def Txt.lL:bf K (A.c 4) "least" :=(T.k 4).2.2.2.2 _ (by simp)
def Txt.mU:bf K (A.c 4) "most" :=(T.k 4).2.2.2.2 _ (by simp)
def Txt.mV:bf K (A.c 4) "deps" :=(T.k 4).2.2.2.2 _ (by simp)
def Txt.qC:bf K (A.c 4) "steps" :=(T.k 4).2.2.2.2 _ (by simp)
def Txt.fJ:vW K (A.c 5):=(T.k 5).2.1
def Txt.cI:bf K (A.c 5) "bounds" :=(T.k 5).2.2.2.2 _ (by simp)
def Txt.eC:bf K (A.c 5) "promise" :=(T.k 5).2.2.2.2 _ (by simp)
def Txt.bN:vW K (A.c 6):=(T.k 6).2.1
def Txt.c9:bf K (A.c 6) "word" :=(T.k 6).2.2.2.2 _ (by simp)
def Txt.jF:bf K (A.c 6) "body" :=(T.k 6).2.2.2.2 _ (by simp)
def Txt.df:bf K (A.c 6) "nodes" :=(T.k 6).2.2.2.2 _ (by simp)
def Txt.cK:vW K (A.c 7):=(T.k 7).2.1
def Txt.fw:bf K (A.c 7) "owner" :=(T.k 7).2.2.2.2 _ (by simp)
def Txt.bJ:bf K (A.c 7) "versions" :=(T.k 7).2.2.2.2 _ (by simp)
def Txt.fK:vW K (A.c 8):=(T.k 8).2.1
def Txt.lM:bf K (A.c 8) "value" :=(T.k 8).2.2.2.2 _ (by simp)
def Txt.lN:bf K (A.c 8) "bound" :=(T.k 8).2.2.2.2 _ (by simp)
def Txt.gQ:bf K (A.c 8) "mask" :=(T.k 8).2.2.2.2 _ (by simp)
def Txt.kq:bf K (A.c 8) "origin" :=(T.k 8).2.2.2.2 _ (by simp)
def Txt.bu:vW K (A.c 9):=(T.k 9).2.1
def Txt.aW:bf K (A.c 9) "programs" :=(T.k 9).2.2.2.2 _ (by simp)
def Txt.dk:bf K (A.c 9) "entries" :=(T.k 9).2.2.2.2 _ (by simp)
def Txt.gF:bf K (A.c 9) "cells" :=(T.k 9).2.2.2.2 _ (by simp)
def Txt.hU:vW K (A.c 10):=(T.k 10).2.1
def Txt.sv:bf K (A.c 10) "nodes" :=(T.k 10).2.2.2.2 _ (by simp)
def Txt.ml:bf K (A.c 10) "arguments" :=(T.k 10).2.2.2.2 _ (by simp)
def Txt.gC:bf K (A.c 10) "held" :=(T.k 10).2.2.2.2 _ (by simp)
def Txt.mj:bf K (A.c 10) "at" :=(T.k 10).2.2.2.2 _ (by simp)
def Txt.kC:vW K (A.c 11):=(T.k 11).2.1
def Txt.ji:bf K (A.c 11) "value" :=(T.k 11).2.2.2.2 _ (by simp)
def Txt.mm:bf K (A.c 11) "steps" :=(T.k 11).2.2.2.2 _ (by simp)
def Txt.eN:vW K (A.c 12):=(T.k 12).2.1
def Txt.iX:bf K (A.c 12) "kind" :=(T.k 12).2.2.2.2 _ (by simp)
def Txt.eD:bf K (A.c 12) "numbers" :=(T.k 12).2.2.2.2 _ (by simp)
def Txt.jT:bf K (A.c 12) "rows" :=(T.k 12).2.2.2.2 _ (by simp)
def Txt.uR:bf K (A.c 12) "end" :=(T.k 12).2.2.2.2 _ (by simp)
def Txt.sL:∃t,mg "NUMBER" =some (.int (0) t):=T.g 0
def Txt.kz:∃t,mg "VARIABLE" =some (.int (1) t):=T.g 1
def Txt.Jx:∃t,mg "PLUS" =some (.int (2) t):=T.g 2
def Txt.FQ:∃t,mg "MINUS" =some (.int (3) t):=T.g 3
def Txt.FP:∃t,mg "TIMES" =some (.int (4) t):=T.g 4
def Txt.A1:∃t,mg "THROUGH" =some (.int (5) t):=T.g 5
def Txt.D4:∃t,mg "LESSER" =some (.int (6) t):=T.g 6
def Txt.A2:∃t,mg "GREATER" =some (.int (7) t):=T.g 7
def Txt.sM:∃t,mg "CHOICE" =some (.int (9) t):=T.g 8
def Txt.FR:∃t,mg "LET" =some (.int (10) t):=T.g 9
def Txt.u9:∃t,mg "CALL" =some (.int (11) t):=T.g 10
def Txt.D2:∃t,mg "VALUES" =some (.int (4294967296) t):=T.g 11
def Txt.pE:∃t,mg "PEOPLE" =some (.int (16) t):=T.g 12
def Txt.ED:∃t,mg "PROGRAMS" =some (.int (16) t):=T.g 13
def Txt.jV:∃t,mg "CELLS" =some (.int (32) t):=T.g 14
def Txt.kY:∃t,mg "EVERYBODY" =some (.int (65535) t):=T.g 15
def Txt.yX:∃t,mg "MOST_BOUNDS" =some (.int (4) t):=T.g 16
def Txt.Bp:∃t,mg "MOST_STEPS" =some (.int (20000) t):=T.g 17
def Txt.D3:∃t,mg "MOST_BODY" =some (.int (200) t):=T.g 18
def Txt.vP:∃t,mg "MOST_VERSIONS" =some (.int (8) t):=T.g 19
def Txt.ye:∃t,mg "MOST_ENTRIES" =some (.int (128) t):=T.g 20
def Txt.kX:∃t,mg "NOT_YOURS" =some (.int (-1) t):=T.g 21
def Txt.eM:∃t,mg "NOT_THERE" =some (.int (-2) t):=T.g 22
def Txt.yb:∃t,mg "ONLY_VERSION" =some (.int (-6) t):=T.g 23
def Txt.yc:∃t,mg "NOT_SEEN" =some (.int (-13) t):=T.g 24
def Txt.mv:∃t,mg "BREAKS_ANOTHER" =some (.int (-17) t):=T.g 25
def Txt.gS:∃t,mg "WRONG" =some (.int (-22) t):=T.g 26
def Txt.EE:∃t,mg "FULL" =some (.int (-28) t):=T.g 27
def Txt.yd:∃t,mg "NOT_KEPT" =some (.int (-33) t):=T.g 28
def Txt.Bo:∃t,mg "NOT_WITHIN" =some (.int (-71) t):=T.g 29
def Txt.qD:∃t,mg "FROM_NOBODY" =some (.int (0) t):=T.g 30
def Txt.Jw:∃t,mg "PUT_BY" =some (.int (1) t):=T.g 31
def Txt.Jv:∃t,mg "RUN_BY" =some (.int (2) t):=T.g 32
def Txt.Mp:∃t,mg "TOLD" =some (.int (1) t):=T.g 33
def Txt.Hs:∃t,mg "DROPPED" =some (.int (2) t):=T.g 34
def Txt.Bn:∃t,mg "TAKEN_BACK" =some (.int (3) t):=T.g 35
def Txt.L1:∃t,mg "BEGIN" =some (.int (0) t):=T.g 36
def Txt.Jz:∃t,mg "DEFINE" =some (.int (1) t):=T.g 37
def Txt.KW:∃t,mg "WOULD" =some (.int (2) t):=T.g 38
def Txt.Mt:∃t,mg "DROP" =some (.int (3) t):=T.g 39
def Txt.Mv:∃t,mg "BACK" =some (.int (4) t):=T.g 40
def Txt.Ms:∃t,mg "GIVE" =some (.int (5) t):=T.g 41
def Txt.KY:∃t,mg "INFER" =some (.int (6) t):=T.g 42
def Txt.Mo:∃t,mg "WORD" =some (.int (7) t):=T.g 43
def Txt.Mu:∃t,mg "BODY" =some (.int (8) t):=T.g 44
def Txt.L0:∃t,mg "CALLS" =some (.int (9) t):=T.g 45
def Txt.Ht:∃t,mg "CALLERS" =some (.int (10) t):=T.g 46
def Txt.EB:∃t,mg "VERSIONS" =some (.int (11) t):=T.g 47
def Txt.Bq:∃t,mg "EVALUATION" =some (.int (12) t):=T.g 48
def Txt.Nu:∃t,mg "PUT" =some (.int (13) t):=T.g 49
def Txt.Nt:∃t,mg "RUN" =some (.int (14) t):=T.g 50
def Txt.Jy:∃t,mg "NARROW" =some (.int (15) t):=T.g 51
def Txt.KZ:∃t,mg "CLEAR" =some (.int (16) t):=T.g 52
def Txt.Mr:∃t,mg "READ" =some (.int (17) t):=T.g 53
def Txt.Mq:∃t,mg "SEEN" =some (.int (18) t):=T.g 54
def Txt.Nw:∃t,mg "HOW" =some (.int (19) t):=T.g 55
def Txt.Nv:∃t,mg "LOG" =some (.int (20) t):=T.g 56
def Txt.J8:mg "all" =none:=T.n 0
def Txt.Nn:mg "any" =none:=T.n 1
def Txt.pd:mg "enumerate" =none:=T.n 2
def Txt.cf:mg "len" =none:=T.n 3
def Txt.Em:mg "list" =none:=T.n 4
def Txt.uS:mg "max" =none:=T.n 5
def Txt.FD:mg "min" =none:=T.n 6
def Txt.Bg:mg "range" =none:=T.n 7
def Txt.Nm:mg "set" =none:=T.n 8
def Txt.CI:mg "sorted" =none:=T.n 9
def Txt.Lu:mg "zip" =none:=T.n 10
end
def fC(x0 x1 x2 x3 x4:V):List (Str×V):=(bI "onward_if_zero" x4 (bI "onward" x3 (bI "parts" x2 (bI "number" x1 (bI "kind" x0 [])))))
def lq(x0 x1 x2 x3 x4:V):(fC x0 x1 x2 x3 x4).lookup ("kind" :Str)=some x0:=rfl
def ig(x0 x1 x2 x3 x4:V):(fC x0 x1 x2 x3 x4).lookup ("number" :Str)=some x1:=rfl
def nB(x0 x1 x2 x3 x4:V):(fC x0 x1 x2 x3 x4).lookup ("parts" :Str)=some x2:=rfl
def z9(x0 x1 x2 x3 x4:V):(fC x0 x1 x2 x3 x4).lookup ("onward" :Str)=some x3:=rfl
def oE(x0 x1 x2 x3 x4:V):(fC x0 x1 x2 x3 x4).lookup ("onward_if_zero" :Str)=some x4:=rfl
def yF(x0 x1 x2:V):List (Str×V):=(bI "due" x2 (bI "number" x1 (bI "kind" x0 [])))
def iL(x0 x1 x2:V):(yF x0 x1 x2).lookup ("kind" :Str)=some x0:=rfl
def qG(x0 x1 x2:V):(yF x0 x1 x2).lookup ("number" :Str)=some x1:=rfl
def yE(x0 x1 x2:V):(yF x0 x1 x2).lookup ("due" :Str)=some x2:=rfl
def nF(x0 x1:V):List (Str×V):=(bI "parts" x1 (bI "head" x0 []))
def nE(x0 x1:V):(nF x0 x1).lookup ("head" :Str)=some x0:=rfl
def jt(x0 x1:V):(nF x0 x1).lookup ("parts" :Str)=some x1:=rfl
def gW(x0 x1 x2 x3:V):List (Str×V):=(bI "sight" x3 (bI "begun" x2 (bI "nodes" x1 (bI "arguments" x0 []))))
def jO(x0 x1 x2 x3:V):(gW x0 x1 x2 x3).lookup ("arguments" :Str)=some x0:=rfl
def eE(x0 x1 x2 x3:V):(gW x0 x1 x2 x3).lookup ("nodes" :Str)=some x1:=rfl
def eF(x0 x1 x2 x3:V):(gW x0 x1 x2 x3).lookup ("begun" :Str)=some x2:=rfl
def jI(x0 x1 x2 x3:V):(gW x0 x1 x2 x3).lookup ("sight" :Str)=some x3:=rfl
def uj(x0 x1 x2 x3:V):List (Str×V):=(bI "steps" x3 (bI "deps" x2 (bI "most" x1 (bI "least" x0 []))))
def tj(x0 x1 x2 x3:V):(uj x0 x1 x2 x3).lookup ("least" :Str)=some x0:=rfl
def vo(x0 x1 x2 x3:V):(uj x0 x1 x2 x3).lookup ("most" :Str)=some x1:=rfl
def vp(x0 x1 x2 x3:V):(uj x0 x1 x2 x3).lookup ("deps" :Str)=some x2:=rfl
def BO(x0 x1 x2 x3:V):(uj x0 x1 x2 x3).lookup ("steps" :Str)=some x3:=rfl
def pQ(x0 x1:V):List (Str×V):=(bI "promise" x1 (bI "bounds" x0 []))
def dQ(x0 x1:V):(pQ x0 x1).lookup ("bounds" :Str)=some x0:=rfl
def gL(x0 x1:V):(pQ x0 x1).lookup ("promise" :Str)=some x1:=rfl
def iK(x0 x1 x2:V):List (Str×V):=(bI "nodes" x2 (bI "body" x1 (bI "word" x0 [])))
def cN(x0 x1 x2:V):(iK x0 x1 x2).lookup ("word" :Str)=some x0:=rfl
def pS(x0 x1 x2:V):(iK x0 x1 x2).lookup ("body" :Str)=some x1:=rfl
def fP(x0 x1 x2:V):(iK x0 x1 x2).lookup ("nodes" :Str)=some x2:=rfl
def cO(x0 x1:V):List (Str×V):=(bI "versions" x1 (bI "owner" x0 []))
def jJ(x0 x1:V):(cO x0 x1).lookup ("owner" :Str)=some x0:=rfl
def c8(x0 x1:V):(cO x0 x1).lookup ("versions" :Str)=some x1:=rfl
def jK(x0 x1 x2 x3:V):List (Str×V):=(bI "origin" x3 (bI "mask" x2 (bI "bound" x1 (bI "value" x0 []))))
def tm(x0 x1 x2 x3:V):(jK x0 x1 x2 x3).lookup ("value" :Str)=some x0:=rfl
def tq(x0 x1 x2 x3:V):(jK x0 x1 x2 x3).lookup ("bound" :Str)=some x1:=rfl
def lu(x0 x1 x2 x3:V):(jK x0 x1 x2 x3).lookup ("mask" :Str)=some x2:=rfl
def qH(x0 x1 x2 x3:V):(jK x0 x1 x2 x3).lookup ("origin" :Str)=some x3:=rfl
def nD(x0 x1 x2:V):List (Str×V):=(bI "cells" x2 (bI "entries" x1 (bI "programs" x0 [])))
def mG(x0 x1 x2:V):(nD x0 x1 x2).lookup ("programs" :Str)=some x0:=rfl
def vV(x0 x1 x2:V):(nD x0 x1 x2).lookup ("entries" :Str)=some x1:=rfl
def js(x0 x1 x2:V):(nD x0 x1 x2).lookup ("cells" :Str)=some x2:=rfl
def qF(x0 x1 x2 x3:V):List (Str×V):=(bI "at" x3 (bI "held" x2 (bI "arguments" x1 (bI "nodes" x0 []))))
def Ds(x0 x1 x2 x3:V):(qF x0 x1 x2 x3).lookup ("nodes" :Str)=some x0:=rfl
def vT(x0 x1 x2 x3:V):(qF x0 x1 x2 x3).lookup ("arguments" :Str)=some x1:=rfl
def jk(x0 x1 x2 x3:V):(qF x0 x1 x2 x3).lookup ("held" :Str)=some x2:=rfl
def yD(x0 x1 x2 x3:V):(qF x0 x1 x2 x3).lookup ("at" :Str)=some x3:=rfl
def mF(x0 x1:V):List (Str×V):=(bI "steps" x1 (bI "value" x0 []))
def oh(x0 x1:V):(mF x0 x1).lookup ("value" :Str)=some x0:=rfl
def vU(x0 x1:V):(mF x0 x1).lookup ("steps" :Str)=some x1:=rfl
def uk(x0 x1 x2 x3:V):List (Str×V):=(bI "end" x3 (bI "rows" x2 (bI "numbers" x1 (bI "kind" x0 []))))
def lz(x0 x1 x2 x3:V):(uk x0 x1 x2 x3).lookup ("kind" :Str)=some x0:=rfl
def gM(x0 x1 x2 x3:V):(uk x0 x1 x2 x3).lookup ("numbers" :Str)=some x1:=rfl
def pW(x0 x1 x2 x3:V):(uk x0 x1 x2 x3).lookup ("rows" :Str)=some x2:=rfl
def F9(x0 x1 x2 x3:V):(uk x0 x1 x2 x3).lookup ("end" :Str)=some x3:=rfl
def xi(C:Addr)(n:Nat)(F:List V->List (Str×V)):Sp:=λvs H Q _=> ∃(p dx:Addr)(args:List V),vs=.ref p :: args/\args.length=n/\H p=some (.ins C dx [])/\Q .ez (upd H p (.ins C dx (F args)))
def E7(s:aG G H)(h:tD tl σ H vs)(hn:vs.length=n)
  (k:∀(x dx:Addr)(G' H':Hp),Ext G H G' H'->G' x=some (.ins C dx (F vs))->H x=none->Q (.ref x) H'):lZ C (xi C n F) [] E tl σ H Q:=by
 refine qR h λx dx hx hdx hne=>?_
 refine⟨x,dx,vs,by simp,hn,ah,rfl, ?_⟩;have e:upd (upd (upd H dx (.own x)) x (.ins C dx [])) x (.ins C dx (F vs))=upd (upd H dx (.own x)) x (.ins C dx (F vs)):=bS;rw[e];have s1:aG H (upd H dx (.own x)):=aG.upd hdx _;have hx1:upd H dx (.own x) x=none:=by rw[aw (Ne.symm hne)];exact hx
 exact k x dx (upd G x (.ins C dx (F vs))) _ ((Ext.grow s s1).trans (Ext.lay (s.trans s1) hx1 _)) ah hx
def Lr(h:tD tl σ H vs)(hn:vs.length=n)
  (k:∀(x dx:Addr)(H':Hp),aG H H'->H' x=some (.ins C dx (F vs))->H x=none->Q (.ref x) H'):lZ C (xi C n F) [] E tl σ H Q:=by
 refine qR h λx dx hx hdx hne=>?_
 refine⟨x,dx,vs,by simp,hn,ah,rfl, ?_⟩;have e:upd (upd (upd H dx (.own x)) x (.ins C dx [])) x (.ins C dx (F vs))=upd (upd H dx (.own x)) x (.ins C dx (F vs)):=bS;rw[e];have hx1:upd H dx (.own x) x=none:=by rw[aw (Ne.symm hne)];exact hx
 exact k x dx _ ((aG.upd hdx _).trans (aG.upd hx1 _)) ah hx
def Nz:List V->List (Str×V)
 | [a,b,c,d]=>fC a b c d d
 |_=>[]
def Ly:List V->List (Str×V)
 | [a,b,c]=>yF a b c
 |_=>[]
abbrev fQ(P:Program)(w:World)(b:Heap){K:bg}{mg:Str->Option Value}{A:bU}(T:Txt K mg A)(k i:Nat)(ps:List Str)(sp:Sp):Prop:=nA P w K mg b HP k (A.f i) (A.d i) ps sp
abbrev HL(P:Program)(w:World)(b:Heap){K:bg}{mg:Str->Option Value}{A:bU}(T:Txt K mg A)(k i:Nat)(ps:List Str)(sp:Sp):Prop:=nA P w K mg b HP k (A.fi i) (A.di i) ps sp
variable {P0:Program} {w0:World} {K:bg} {mg:Str->Option Value} {b0:Heap} {A:bU} (T:Txt K mg A)
def Bd:HL P0 w0 b0 T 1 0 ["self","kind","number","parts","onward"] (xi A.lP 4 Nz):=by
 refine b8 (inClass (top 12) 0) ["self","kind","number","parts","onward"] T.vm.F λS H vs Q E hr h=>?_
 ·obtain⟨p,dx,args,rfl,hn,hp,q⟩:=h
  match args,hn with
  | [a,b,c,d],_=>
  refine⟨_,(af (bR (pv 0) (pv 1))
   (af (bR (pv 0) (pv 2))
   (af (bR (pv 0) (pv 3))
   (af (bR (pv 0) (pv 4))
   (aj (bR (pv 0) (pv 4))))))), ?_⟩
  refine aL (cS (aa rfl) (aa rfl) hp T.cY T.iW (by show 0<1000;decide) ?_);refine aL (cS (aa rfl) (aa rfl) ah T.cY T.fA (by show 1<1000;decide) ?_);refine aL (cS (aa rfl) (aa rfl) ah T.cY T.jn (by show 2<1000;decide) ?_);refine aL (cS (aa rfl) (aa rfl) ah T.cY T.kn (by show 3<1000;decide) ?_);refine cS (aa rfl) (aa rfl) ah T.cY T.dN (by show 4<1000;decide) ?_;rw[bS,bS,bS,bS];exact q
def iV:HL P0 w0 b0 T 1 1 ["self","kind","number","due"] (xi A.BF 3 Ly):=by
 refine b8 (inClass (top 13) 0) ["self","kind","number","due"] T.iM.F λS H vs Q E hr h=>?_
 ·obtain⟨p,dx,args,rfl,hn,hp,q⟩:=h
  match args,hn with
  | [a,b,c],_=>
  refine⟨_,(af (bR (pv 0) (pv 1))
   (af (bR (pv 0) (pv 2))
   (aj (bR (pv 0) (pv 3))))), ?_⟩
  refine aL (cS (aa rfl) (aa rfl) hp T.gU T.fI (by show 0<1000;decide) ?_);refine aL (cS (aa rfl) (aa rfl) ah T.gU T.ko (by show 1<1000;decide) ?_);refine cS (aa rfl) (aa rfl) ah T.gU T.p9 (by show 2<1000;decide) ?_;rw[bS,bS];exact q
def bh(k:Nat):Nat:=if k=0\/k=1 then 2 else if k=11 then 3 else 1
def rG:Sp:=λvs H Q _=> ∃k:Nat,vs=[nv k]/\Q (nv (bh k)) H
def sf:fQ P0 w0 b0 T 1 0 ["kind"] (rG):=by
 refine b8 (top 16) ["kind"] (T.p 0).1 λS H vs Q E hr h=>?_
 obtain⟨k,rfl,q⟩:=h;refine⟨_,(af (aQ (PW.pt (iE (aO bq (pv 0) (aP T.sL)) (fT (aO bq (pv 0) (aP T.kz))))) (aj (az aA)) aE)
   (af (aQ (aO bq (pv 0) (aP T.u9)) (aj (az aA)) aE)
   (aj (az aA)))), ?_⟩
 refine b7 (jg (aD (ay (aa rfl) aH gI)) λ_=>(aD (ay (aa rfl) aH gI))) (λe=>?_) λe=>?_
 ·refine bc aH ?_;simp at e;have:bh k=2:=by unfold bh;rw[ai (by omega)]
  rw[this] at q;exact q
 ·refine b7 (aD (ay (aa rfl) aH gI)) (λe2=>?_) λe2=>?_
  ·refine bc aH ?_;simp at e e2;have:bh k=3:=by unfold bh;rw[ag (by omega),ai (by omega)]
   rw[this] at q;exact q
  ·refine bc aH ?_;simp at e e2;have:bh k=1:=by unfold bh;rw[ag (by omega),ag (by omega)]
   rw[this] at q;exact q
def lR(A:bU)(G:Hp)(a:Addr)(h:Hd):Prop:= ∃dx,G a=some (.ins A.BF dx (yF (nv h.kind) (nv h.num) (nv h.jc)))
def lR.mono(s:aG G G')(x:lR A G a h):lR A G' a h:=by
 obtain⟨dx,e⟩:=x;exact⟨dx,s _ _ e⟩
def jb(l:List Nat)(i:Nat):Nat:=l.getD i 0
noncomputable def eV (b:List Nat) (i:Nat):Hd:=
 let k:=jb b i
 if k=0\/k=1 then ⟨k,jb b (i+1),0⟩ else if k=11 then ⟨k,jb b (i+1),jb b (i+2)⟩ else if k=9 then ⟨k,0,3⟩ else ⟨k,0,2⟩
def getD_some(h:i<l.length):(bZ l)[i]? =some (nv (jb l i)):=by
 rw[cU,c6 h,jb,cy,c6 h];rfl
def getD_at{l:List Nat}{i j:Nat}{z:Int}(h:i+j<l.length)(e:z=(i:Int)+(j:Int)):Dq (bZ l) z=some (nv (jb l (i+j))):=
 at_of (j:=i+j) (by omega) (getD_some h)
def mY(k:Nat):1<=bh k:=by unfold bh;split<;>(try split)<;>omega
def DV(A:bU):Sp:=λvs H Q _=> ∃(G:Hp)(l:Addr)(b:List Nat)(i:Nat),vs=[.ref l,nv i]/\aG G H/\H l=some (.lst (bZ b))/\i+bh (jb b i)<=b.length/\
 ∀(a:Addr)(G' H':Hp),Ext G H G' H'->lR A G' a (eV b i)->Q (.ref a) H'
def Ei:fQ P0 w0 b0 T 3 1 ["body","at"] (DV A):=by
 refine b8 (top 17) ["body","at","kind"] (T.p 1).1 λS H vs Q E hr h=>?_
 obtain⟨G,l,b,i,rfl,sG,hl,hi,q⟩:=h;have hp:=mY (jb b i);refine⟨_,(af (aT 2 S.nd (aZ (pv 0) (pv 1)))
   (af (aQ (PW.pt (iE (aO bq (pv 2) (aP T.sL)) (fT (aO bq (pv 2) (aP T.kz))))) (aj (az (fF T.iM (iV T) hr (ab (pv 2) (ab (aZ (pv 0) (bH dZ (pv 1) aA)) (ab aA ax)))))) aE)
   (af (aQ (aO bq (pv 2) (aP T.u9)) (aj (az (fF T.iM (iV T) hr (ab (pv 2) (ab (aZ (pv 0) (bH dZ (pv 1) aA)) (ab (aZ (pv 0) (bH dZ (pv 1) aA)) ax)))))) aE)
   (af (aQ (aO bq (pv 2) (aP T.sM)) (aj (az (fF T.iM (iV T) hr (ab (pv 2) (ab aA (ab aA ax)))))) aE)
   (aj (az (fF T.iM (iV T) hr (ab (pv 2) (ab aA (ab aA ax)))))))))), ?_⟩
 refine aL (bY (ay (aa rfl) (aa rfl) (bM hl (bG (getD_some (by omega))))) ?_);refine b7 (jg (aD (ay (aa rfl) aH gI)) λ_=>(aD (ay (aa rfl) aH gI))) (λe=>?_) λe=>?_
 ·(try simp at e)
  have hs:bh (jb b i)=2:=by unfold bh;rw[ai (by omega)]
  refine aR (E7 sG (ae (aa rfl) (ae (ay (aa rfl) (ay (aa rfl) aH bo) (bM hl (getD_at (i:=i) (j:=1) (by omega) rfl))) (ae aH au))) rfl λx dx G' H' ex hx _=>?_);refine q x G' H' ex ⟨dx, ?_⟩;have hh:eV b i=⟨jb b i,jb b (i+1),0⟩:=by unfold eV;simp only;rw[ai (by omega)]
  rw[hh];exact hx
 ·refine b7 (aD (ay (aa rfl) aH gI)) (λe2=>?_) λe2=>?_
  ·(try simp at e);(try simp at e2)
   have hs:bh (jb b i)=3:=by unfold bh;rw[ag (by omega),ai (by omega)]
   refine aR (E7 sG (ae (aa rfl) (ae (ay (aa rfl) (ay (aa rfl) aH bo) (bM hl (getD_at (i:=i) (j:=1) (by omega) rfl)))
    (ae (ay (aa rfl) (ay (aa rfl) aH bo) (bM hl (getD_at (i:=i) (j:=2) (by omega) rfl))) au))) rfl λx dx G' H' ex hx _=>?_)
   refine q x G' H' ex ⟨dx, ?_⟩;have hh:eV b i=⟨jb b i,jb b (i+1),jb b (i+2)⟩:=by unfold eV;simp only;rw[ag (by omega),ai (by omega)]
   rw[hh];exact hx
  ·refine b7 (aD (ay (aa rfl) aH gI)) (λe3=>?_) λe3=>?_
   ·(try simp at e);(try simp at e2);(try simp at e3)
    refine aR (E7 sG (ae (aa rfl) (ae aH (ae aH au))) rfl λx dx G' H' ex hx _=>?_);refine q x G' H' ex ⟨dx, ?_⟩;have hh:eV b i=⟨jb b i,0,3⟩:=by unfold eV;simp only;rw[ag (by omega),ag (by omega),ai (by omega)]
    rw[hh];exact hx
   ·(try simp at e);(try simp at e2);(try simp at e3)
    refine aR (E7 sG (ae (aa rfl) (ae aH (ae aH au))) rfl λx dx G' H' ex hx _=>?_);refine q x G' H' ex ⟨dx, ?_⟩;have hh:eV b i=⟨jb b i,0,2⟩:=by unfold eV;simp only;rw[ag (by omega),ag (by omega),ag (by omega)]
    rw[hh];exact hx
def DP(c:List Nat)(hc:c≠[]):bj c=if 11<jb c 0\/c.length<bh (jb c 0) then none else some (eV c 0,c.drop (bh (jb c 0))):=by
 match c,hc with
 |x :: r,_=>
  simp only[jb,zf,cR];by_cases h0:x=0
  ·subst h0;cases r with
   |nil=>rfl
   |cons v r=>simp[bj,bh,eV,jb]
  ·by_cases h1:x=1
   ·subst h1;cases r with
    |nil=>rfl
    |cons v r=>simp[bj,bh,eV,jb]
   ·by_cases h9:x=9
    ·subst h9;simp[bj,bh,eV,jb]
    ·by_cases h11:x=11
     ·subst h11
      match r with
      | []=>rfl
      | [_]=>rfl
      |g :: n :: r=>simp[bj,bh,eV,jb]
     ·have e:bj (x :: r)=if 2<=x/\x<=10 then some (⟨x,0,2⟩,r) else none:=by
       unfold bj;split
       ·rename_i q;cases q;exact aI rfl h0
       ·rename_i q;cases q;exact aI rfl h1
       ·rename_i q;cases q;exact aI rfl h9
       ·rename_i q;cases q;exact aI rfl h11
       ·rename_i q;cases q;rfl
       ·rename_i q;cases q
      rw[e];have hs:bh x=1:=by unfold bh;rw[ag (by omega),ag h11]
      rw[hs];by_cases hx:11<x
      ·rw[ag (by omega),ai (.inl hx)]
      ·rw[ai (by omega),ag (by omega)];simp[eV,jb,h0,h1,h9,h11]
def C5(b:List Nat)(i:Nat)(hi:i<b.length):bj (b.drop i)=if 11<jb b i\/b.length<i+bh (jb b i) then none else some (eV b i,b.drop (i+bh (jb b i))):=by
 have hg:∀j,jb (b.drop i) j=jb b (i+j):=λj=>by unfold jb;rw[cy,DC,cy]
 have hne:b.drop i≠[]:=by intro e;have:=congrArg List.length e;simp at this;omega
 rw[DP _ hne,hg 0,Nat.add_zero,uw,Am];have hh:eV (b.drop i) 0=eV b i:=by
  unfold eV;simp only[hg,Nat.add_zero,Nat.zero_add]
 rw[hh];by_cases h:11<jb b i\/b.length<i+bh (jb b i)
 ·rw[ai h,ai (by omega)]
 ·rw[ag h,ag (by omega)]
def Lj(A:bU)(G:Hp)(l:Addr)(hs:List Hd):Prop:= ∃as:List Addr,G l=some (.lst (as.map V.ref))/\bF (lR A G) as hs
def Ck(A:bU):Sp:=λvs H Q _=> ∃(G:Hp)(l:Addr)(b:List Nat),vs=[.ref l]/\aG G H/\H l=some (.lst (bZ b))/\b.length<=300/\
 (cW b.length b=none->∀(G' H':Hp),Ext G H G' H'->Q .ez H')/\
 ∀hs,cW b.length b=some hs->∀(a:Addr)(G' H':Hp),Ext G H G' H'->Lj A G' a hs->Q (.ref a) H'
def y8(hi:i<b.length):cW (b.drop i).length (b.drop i)=if 11<jb b i\/b.length<i+bh (jb b i) then none else
  (cW (b.drop (i+bh (jb b i))).length (b.drop (i+bh (jb b i)))).map (eV b i :: ·):=by
 have hne:b.drop i≠[]:=by intro e;have:=congrArg List.length e;simp at this;omega
 have ht:=C5 b i hi;cases hl:(b.drop i).length with
 |zero=>simp at hl;omega
 |succ n=>
  conv=>lhs;unfold cW
  rw[ag hne,ht];by_cases h:11<jb b i\/b.length<i+bh (jb b i)
  ·simp only[ai h]
  ·simp only[ag h];have hp:=mY (jb b i);rw[pC n (b.drop (i+bh (jb b i))).length _ (by rw[uw] at hl⊢;omega) (bx _)]
def qf{K:bg}{H:Hp}{p:Addr}{b:List Nat}(h:H p=some (.lst (bZ b))):Lk (λxs H Q=> ∃p ys,xs=[.ref p]/\(cG K H p ys\/uh K H p ys)/\Q (.int ys.length) H) [.ref p] H (nv b.length):=by
 have:=ff (K:=K) h;rw[bD] at this;exact this
def CG:fQ P0 w0 b0 T 4 2 ["body"] (Ck A):=by
 refine b8 (top 18) ["body","heads","at"] (T.p 2).1 λS H vs Q E hr h=>?_
 obtain⟨G,l,b,rfl,sG,hl,hb,qn,qs⟩:=h;refine⟨_,(af (aT 1 S.nd (b9 ax))
   (af (aT 2 S.nd aA)
   (af (oX PassesOwn.never (aO qz (pv 2) (cn T.cf (pv 0))) (af (aQ (PW.pt (iE (aO kj (aZ (pv 0) (pv 2)) (aP T.u9)) (fT (aO kj (bH dZ (pv 2) (aV (T.p 0) (sf T) hr (ab (aZ (pv 0) (pv 2)) ax))) (cn T.cf (pv 0)))))) (aj (az fV)) aE)
   (af (cu (m9 (pv 1) (aV (T.p 1) (Ei T) hr (ab (pv 0) (ab (pv 2) ax)))))
   (aj (Ec (i:=2) S.nd rfl (by first |exact Or.inl rfl |exact Or.inr rfl) (aV (T.p 0) (sf T) hr (ab (aZ (pv 0) (pv 2)) ax)) Ew)))))
   (aj (az (pv 1)))))), ?_⟩
 refine aL (cA (dY au (by decide) λlh hlh=>?_));refine aL (bY aH ?_);refine aL (HZ (λm σ H1=> ∃(i:Nat)(as:List Addr)(hs:List Hd)(G1:Hp),m=b.length - i/\i<=b.length/\σ=[some (.ref l),some (.ref lh),some (nv i)]/\Ext G H G1 H1/\H1 lh=some (.lst (as.map V.ref))/\G1 lh=none/\
   as.length<=i/\bF (lR A G1) as hs/\cW b.length b=(cW (b.drop i).length (b.drop i)).map (hs++ ·))
  b.length ⟨0,[],[],G,by omega,by omega,rfl,Ext.grow sG (aG.upd hlh _),ah,sG.free hlh,by simp,.nil,by simp⟩ ?_)
 intro m σ H1 z0;obtain⟨i,as,hs,G1,rfl,hi,rfl,ex,h1,g1,hal,ha,hh⟩:=z0;have hl1:H1 l=some (.lst (bZ b)):=ex.hh _ _ hl;refine⟨decide ((i:Int)<(b.length:Int)),aD (ay (aa rfl) (dG (ae (aa rfl) au) (qf hl1)) bo),λe=>?_,λe=>?_⟩
 ·have hi':i<b.length:=by(try simp at e);omega
  have evs:∀{σ:b6},σ[0]? =some (some (.ref l))->σ[2]? =some (some (nv i))->Ev (oS rG [] E0 (fZ (jR (gY K) (bA 0) (bA 2)) jC)) σ H1 (nv (bh (jb b i))):=λs0 s2=>
   du (ae (ay (aa s0) (aa s2) (bM hl1 (bG (getD_some hi')))) au) λQ q=>⟨jb b i,rfl,q⟩
  refine b7 (jg (aD (ay (ay (aa rfl) (aa rfl) (bM hl1 (bG (getD_some hi')))) aH bo))
   λ_=>aD (ay (ay (aa rfl) (evs rfl rfl) bo) (dG (ae (aa rfl) au) (qf hl1)) bo)) (λe1=>?_) λe1=>?_
  ·refine bc aH ?_;refine qn ?_ G1 H1 ex;rw[hh,y8 hi',ai (by(try simp at e1);omega)];rfl
  ·have hno:¬(11<jb b i\/b.length<i+bh (jb b i)):=by(try simp at e1);omega
   refine aL (jX (aa rfl) h1 (aS (ae (aa rfl) (ae (aa rfl) au)) ?_));refine⟨G1,l,b,i,rfl,ex.gh,hl1,by omega,λa G2 H2 ex2 ha2=>?_⟩;have h2:H2 lh=some (.lst (as.map V.ref)):=ex2.hh _ _ h1;refine uf h2 (by rw[bD];exact big (by omega)) ?_;have hp:=mY (jb b i);have g2:G2 lh=none:=ex2.zT h1 g1;have ex3:Ext G H G2 (ao H2 lh (.lst (as.map V.ref++[.ref a]))):=(ex.trans ex2).wr hlh g2 _;have hl2:ao H2 lh (.lst (as.map V.ref++[.ref a])) l=some (.lst (bZ b)):=ex3.hh _ _ hl;refine Iy rfl (du (ae (ay (aa rfl) (aa rfl) (bM hl2 (bG (getD_some hi')))) au) λQ q=>⟨jb b i,rfl,q⟩) ?_;refine⟨b.length - (i+bh (jb b i)),by omega,i+bh (jb b i),as++[a],hs++[eV b i],G2,rfl,by omega, ?_,ex3, ?_,g2,by rw[dR,fD];omega,(ha.mono λx y q=>q.mono ex2.gg).snoc ha2, ?_⟩
   ·show[some (V.ref l),some (V.ref lh),some (V.int _)]=_;simp
   ·rw[ah];simp
   ·rw[hh,y8 hi',ag hno];cases cW (b.drop (i+bh (jb b i))).length (b.drop (i+bh (jb b i)))<;>simp
 ·have hi':i=b.length:=by(try simp at e);omega
  subst hi';refine bc (aa rfl) ?_;refine qs hs ?_ lh (ao G1 lh (.lst (as.map V.ref))) H1 (ex.keep hlh g1 h1) ⟨as,ah,ha.mono λx y q=>q.mono (aG.upd g1 _)⟩;rw[hh];simp[cW]
def Eb(x0 x1 x2 x3 x4 y:V):bI "onward" y (fC x0 x1 x2 x3 x4)=fC x0 x1 x2 y x4:=by unfold fC;rfl
def uH(x0 x1 x2 x3 x4 y:V):bI "onward_if_zero" y (fC x0 x1 x2 x3 x4)=fC x0 x1 x2 x3 y:=by unfold fC;rfl
def ny(A:bU)(G:Hp)(a:Addr)(d:Nd):Prop:= ∃dx lp o z,G a=some (.ins A.lP dx (fC (nv d.kind) (nv d.num) (.ref lp) o z))/\G lp=some (.lst (bZ d.parts))
def ny.mono(s:aG G G')(x:ny A G a d):ny A G' a d:=by
 obtain⟨dx,lp,o,z,e,f⟩:=x;exact⟨dx,lp,o,z,s _ _ e,s _ _ f⟩
def Li(A:bU)(G:Hp)(l:Addr)(ds:List Nd):Prop:= ∃as:List Addr,G l=some (.lst (as.map V.ref))/\bF (ny A G) as ds
def og(A:bU)(G H:Hp)(a:Addr)(x:Nd×(Nat×Nat)):Prop:= ∃dx lp,H a=some (.ins A.lP dx (fC (nv x.1.kind) (nv x.1.num) (.ref lp) (nv x.2.1) (nv x.2.2)))/\G lp=some (.lst (bZ x.1.parts))
abbrev cc(A:bU)(G H:Hp)(nas:List Addr)(ds:List Nd)(O:List (Nat×Nat)):Prop:=bF (og A G H) nas (ds.zip O)
def og.FE(s:aG G G')(h:og A G H a x):og A G' H a x:=by
 obtain⟨dx,lp,e,f⟩:=h;exact⟨dx,lp,e,s _ _ f⟩
def og.J9(s:aG H H')(h:og A G H a x):og A G H' a x:=by
 obtain⟨dx,lp,e,f⟩:=h;exact⟨dx,lp,s _ _ e,f⟩
def lQ(A:bU)(G:Hp)(l:Addr)(n:Nat)(ds:List Nd):Prop:= ∃as:List Addr,G l=some (.lst (as.map V.ref))/\cc A G G as ds (p6 n ds)
theorem lQ.mono(s:aG G G')(x:lQ A G a n d):lQ A G' a n d:=by
 obtain⟨as,e,f⟩:=x;exact⟨as,s _ _ e,f.mono λ_ _ q=>(q.FE s).J9 s⟩
theorem sr:∀{as:List Addr}{ds:List Nd}{O:List (Nat×Nat)},O.length=ds.length->cc A G G as ds O->bF (ny A G) as ds
 |as,[],O,_,h=>by
  have:as=[]:=by
   have:=h.length;simp at this;exact this
  subst this;exact .nil
 |as,d :: ds,[],hl,_=>by simp at hl
 |as,d :: ds,o :: O,hl,h=>by
  cases h with
  |cons q r=>
   obtain⟨dx,lp,e,f⟩:=q;exact .cons ⟨dx,lp,_,_,e,f⟩ (sr (by simpa using hl) r)
def lQ.at_(h:lQ A G l n ds):Li A G l ds:=by
 obtain⟨as,e,f⟩:=h;exact⟨as,e,sr (kl n ds) f⟩
def cc.len(h:cc A G H as ds O)(hl:O.length=ds.length):as.length=ds.length:=by
 have:=h.length;rw[Ah,hl,Nat.min_self] at this;exact this
def cc.upd(h:bF (og A G H) as z)(hp:H p=some (.lst xs))(o:HO):bF (og A G (ao H p o)) as z:=
 h.mono λa x q=>by
  obtain⟨dx,lp,e,f⟩:=q;exact⟨dx,lp,by rw[aw λz=>by rw[z,hp] at e;cases e];exact e,f⟩
def cc.here(h:bF (og A G H) as z):∀a∈as,∃dx fs,H a=some (.ins A.lP dx fs):=by
 intro a ha;obtain⟨i,hi⟩:=lS ha;obtain⟨y,_,dx,lp,e,_⟩:=h.get hi;exact⟨dx,_,e⟩
theorem Fd:∀{l:List α}{m:List β}{i:Nat}{b:β}{a:α},l[i]? =some a->(l.zip (m.set i b))=(l.zip m).set i (a,b)
 | [],m,i,b,a,h=>by simp at h
 |x :: l,[],i,b,a,h=>by simp
 |x :: l,y :: m,0,b,a,h=>by simp at h;subst h;rfl
 |x :: l,y :: m,i+1,b,a,h=>by
  have:=Fd (l:=l) (m:=m) (i:=i) (b:=b) (a:=a) (by simpa using h);simp[this]
theorem bF.set:∀{l:List α}{m:List β}{i:Nat}{a:α}{b:β},bF R l m->l[i]? =some a->R' a b->(∀(j:Nat)(x:α)(y:β),j≠i->l[j]? =some x->m[j]? =some y->R x y->R' x y)->bF R' l (m.set i b)
 |_,_,i,a,b,.nil,h,_,_=>by simp at h
 |_,_,0,a,b,.cons q r,h,hr,hk=>by
  simp at h;subst h;refine .cons hr ?_;have:∀{l:List α}{m:List β},bF R l m->(∀(j:Nat)(x:α)(y:β),l[j]? =some x->m[j]? =some y->R x y->R' x y)->bF R' l m:=by
   intro l m h
   induction h with
   |nil=>intro _;exact .nil
   |cons q _ ih=>intro hk;exact .cons (hk 0 _ _ rfl rfl q) (ih λj x y h1 h2=>hk (j+1) x y h1 h2)
  exact this r λj x y h1 h2=>hk (j+1) x y (by omega) h1 h2
 |_,_,i+1,a,b,.cons q r,h,hr,hk=>by
  refine .cons (hk 0 _ _ (by omega) rfl rfl q) (bF.set r (by simpa using h) hr λj x y hj h1 h2=>hk (j+1) x y (by omega) h1 h2)
def cc.turn(h:cc A G H as ds O)(nd:as.Nodup)(ha:as[i]? =some a)(hd:ds[i]? =some d)(hlp:G lp=some (.lst (bZ d.parts))):
  cc A G (ao H a (.ins A.lP dx (fC (nv d.kind) (nv d.num) (.ref lp) (nv o) (nv z)))) as ds (O.set i (o,z)):=by
 show bF _ as (ds.zip (O.set i (o,z)));rw[Fd hd];refine bF.set h ha ⟨dx,lp,ah,hlp⟩ λj x y hj hx _ q=>?_
 obtain⟨dx',lp',e,f⟩:=q;refine⟨dx',lp', ?_,f⟩;rw[aw]
 ·exact e
 ·intro e';subst e';exact hj ((List.getElem?_inj (dm.mp hx).1 nd).mp (hx.trans ha.symm))
def ju(A:bU)(G H:Hp)(b:Addr×Addr)(x:Hd×List Nat):Prop:=(∃dx ha,G b.1=some (.ins A.lj dx (nF (.ref ha) (.ref b.2)))/\lR A G ha x.1)/\H b.2=some (.lst (bZ x.2))
structure ie(A:bU)(G H:Hp)(r:Addr)(n:Nat)(s:jN)(O:List (Nat×Nat))(ln lb ls:Addr)(nas:List Addr)(bs:List (Addr×Addr)):Prop where
 obj:∃dx,G r=some (.ins A.iJ dx (gW (nv n) (.ref ln) (.ref lb) (.ref ls)))
 nd:(ln :: lb :: ls :: bs.map (·.2)).Nodup
 free:∀m∈ln :: lb :: ls :: bs.map (·.2),G m=none
 nodes:H ln=some (.lst (nas.map V.ref))
 iG:cc A G H nas s.nodes O
 begun:H lb=some (.lst (bs.reverse.map λb=>V.ref b.1))
 gK:bF (ju A G H) bs s.begun
 aq:H ls=some (.lst (bZ s.aq))
 J7:nas.Nodup
 qE:∀a∈nas,G a=none
 tR:O.length=s.nodes.length
abbrev pP(A:bU)(G H:Hp)(r:Addr)(n:Nat)(s:jN)(ln lb ls:Addr)(nas:List Addr)(bs:List (Addr×Addr)):Prop:=ie A G H r n s (p6 n s.nodes) ln lb ls nas bs
def ie.su(R:ie A G H r n s O ln lb ls nas bs):nas.length=s.nodes.length:=cc.len R.iG R.tR
abbrev eU(ln lb ls:Addr)(bs:List (Addr×Addr)):List Addr:=ln :: lb :: ls :: bs.map (·.2)
def lH(A:bU):Sp:=λvs H Q _=> ∃(p dx ha:Addr),vs=[.ref p,.ref ha]/\H p=some (.ins A.lj dx [])/\
 ∀(lp:Addr)(H':Hp),H lp=none->H' p=some (.ins A.lj dx (nF (.ref ha) (.ref lp)))->H' lp=some (.lst [])->(∀b o,H b=some o->b≠p->H' b=some o)->Q .ez H'
def yU:HL P0 w0 b0 T 1 2 ["self","head"] (lH A):=by
 refine b8 (inClass (top 14) 0) ["self","head"] T.tu.F λS H vs Q E hr h=>?_
 obtain⟨p,dx,ha,rfl,hp,q⟩:=h;refine⟨_,(af (bR (pv 0) (pv 1))
   (aj (bR (pv 0) (b9 ax)))), ?_⟩
 refine aL (cS (aa rfl) (aa rfl) hp T.j7 T.jo (by show 0<1000;decide) ?_);refine rO (dY au (by decide) λlp hlp=>?_);have hlp':H lp=none:=by
  by_cases e:lp=p
  ·subst e;rw[ah] at hlp;cases hlp
  ·rw[aw e] at hlp;exact hlp
 have hne:lp≠p:=by intro e;subst e;rw[hp] at hlp';cases hlp'
 refine(aa rfl:Ev (bA 0) _ _ (V.ref p)) _ ⟨p,_,dx,_,rfl,by rw[aw (Ne.symm hne)];exact ah,T.j7,T.gG,(by show 1<1000;decide), ?_⟩;refine q lp _ hlp' ah (by rw[aw hne];exact ah) λb o e hb=>?_
 rw[aw hb,aw (aJ e hlp'),aw hb];exact e
def nS(A:bU):Sp:=λvs H Q _=> ∃(p dx:Addr)(n:Nat),vs=[.ref p,nv n]/\H p=some (.ins A.iJ dx [])/\n<=1000/\
 ∀(ln lb ls:Addr)(H':Hp),H ln=none->H lb=none->H ls=none->[ln,lb,ls].Nodup->H' p=some (.ins A.iJ dx (gW (nv n) (.ref ln) (.ref lb) (.ref ls)))->H' ln=some (.lst [])->H' lb=some (.lst [])->
  H' ls=some (.lst (bZ (List.range n)))->(∀b o,H b=some o->b≠p->H' b=some o)->Q .ez H'
def vM:HL P0 w0 b0 T 1 3 ["self","arguments"] (nS A):=by
 refine b8 (inClass (top 15) 0) ["self","arguments"] T.pT.F λS H vs Q E hr h=>?_
 obtain⟨p,dx,n,rfl,hp,hn,q⟩:=h;refine⟨_,(af (bR (pv 0) (pv 1))
   (af (bR (pv 0) (b9 ax))
   (af (bR (pv 0) (b9 ax))
   (aj (bR (pv 0) (md (yZ rfl) (by rfl) T.Em F5 (ab (md HE (by rfl) T.Bg Lc (ab (pv 1) ax)) ax))))))), ?_⟩
 refine aL (cS (aa rfl) (aa rfl) hp T.bE T.gE (by show 0<1000;decide) ?_);refine aL (rO (dY au (by decide) λln hln=>?_));have nep:∀{H':Hp}{x:Addr}{o:HO},H' p=some o->H' x=none->x≠p:=λh1 h2 e=>by subst e;rw[h1] at h2;cases h2
 have nln:=nep ah hln;refine(aa rfl:Ev (bA 0) _ _ (V.ref p)) _ ⟨p,_,dx,_,rfl,by rw[aw (Ne.symm nln)];exact ah,T.bE,T.dg,(by show 1<1000;decide), ?_⟩;refine aL (rO (dY au (by decide) λlb hlb=>?_));have nlb:=nep ah hlb;refine(aa rfl:Ev (bA 0) _ _ (V.ref p)) _ ⟨p,_,dx,_,rfl,by rw[aw (Ne.symm nlb)];exact ah,T.bE,T.dj,(by show 2<1000;decide), ?_⟩;refine(aa rfl:Ev (bA 1) _ _ (nv n)) _ ⟨n,rfl,λlr hlr=>?_⟩;refine⟨lr,n,rfl,ah,hn,λls hls=>?_⟩;have nlr:=nep ah hlr;have nls:ls≠p:=nep (by rw[aw (Ne.symm nlr)];exact ah) hls;refine(aa rfl:Ev (bA 0) _ _ (V.ref p)) _ ⟨p,_,dx,_,rfl,by rw[aw (Ne.symm nls),aw (Ne.symm nlr)];exact ah,T.bE,T.gP,(by show 3<1000;decide), ?_⟩;have un:∀{H':Hp}{x y:Addr}{o:HO},ao H' y o x=none->x≠y/\H' x=none:=λ{H' x y o} h=>by
  by_cases e:x=y
  ·subst e;rw[ah] at h;cases h
  ·rw[aw e] at h;exact⟨e,h⟩
 have a1:=un hln;obtain⟨b1,hlb⟩:=un hlb;obtain⟨b2,hlb⟩:=un hlb;obtain⟨b3,hlb⟩:=un hlb;obtain⟨c1,hlr⟩:=un hlr;obtain⟨c2,hlr⟩:=un hlr;obtain⟨c3,hlr⟩:=un hlr;obtain⟨c4,hlr⟩:=un hlr;obtain⟨c5,hlr⟩:=un hlr;obtain⟨d1,hls⟩:=un hls;obtain⟨d2,hls⟩:=un hls;obtain⟨d3,hls⟩:=un hls;obtain⟨d4,hls⟩:=un hls;obtain⟨d5,hls⟩:=un hls;obtain⟨d6,hls⟩:=un hls;refine q ln lb ls _ a1.2 hlb hls ?_ ah ?_ ?_ ?_ λb o e hb=>?_
 ·simp;exact⟨⟨Ne.symm b2,Ne.symm d5⟩,Ne.symm d3⟩
 ·rw[aw nln,aw (Ne.symm d5),aw (Ne.symm c4),aw nln,aw (Ne.symm b2),aw nln];exact ah
 ·rw[aw nlb,aw (Ne.symm d3),aw (Ne.symm c2),aw nlb];exact ah
 ·rw[aw nls];exact ah
 ·rw[aw hb,aw (aJ e hls),aw (aJ e hlr),aw hb,aw (aJ e hlb),aw hb,aw (aJ e a1.2),aw hb];exact e
def ql(A:bU):Sp:=λvs H Q _=> ∃(G:Hp)(r ha:Addr)(n:Nat)(s:jN)(h:Hd)(ln lb ls:Addr)(nas:List Addr)(bs:List (Addr×Addr)),vs=[.ref r,.ref ha]/\aG G H/\pP A G H r n s ln lb ls nas bs/\lR A G ha h/\
 bs.length<=1000/\(fB s h=none->Q (.bl false) H)/\
 ∀s',fB s h=some s'->∀(G' H':Hp)(bs':List (Addr×Addr)),fY (eU ln lb ls bs) G H G' H'->pP A G' H' r n s' ln lb ls nas bs'->(∀m∈bs'.map (·.2),m∈bs.map (·.2)\/H m=none)->Q (.bl true) H'
def ie.push(R:ie A G H r n s O ln lb ls nas bs)(x:Ext G H G' H')(sG:aG G H)
 (hb:G' b=some (.ins A.lj dx (nF (.ref ha) (.ref lp)))) (hh:lR A G' ha h) (hlp:H lp=none) (glp:G' lp=none) (hlp':H' lp=some (.lst [])):
  ie A G' (ao H' lb (.lst ((bs.reverse.map λb=>V.ref b.1)++[.ref b]))) r n { s with begun:=(h,[]) :: s.begun } O ln lb ls nas ((b,lp) :: bs)/\
   fY (eU ln lb ls bs) G H G' (ao H' lb (.lst ((bs.reverse.map λb=>V.ref b.1)++[.ref b]))):=by
 have nd:=R.nd;simp only[fh,bp,not_or] at nd;obtain⟨⟨n1,n2,n3⟩,⟨n4,n5⟩,n6,n7⟩:=nd;have Hn:∀m∈eU ln lb ls bs,∃o,H m=some o:=by
  intro m hm;simp only[bp] at hm
  rcases hm with rfl |rfl |rfl |hm
  ·exact⟨_,R.nodes⟩
  ·exact⟨_,R.begun⟩
  ·exact⟨_,R.aq⟩
  ·obtain⟨p,hp,rfl⟩:=fg.mp hm;obtain⟨i,hi⟩:=lS hp;obtain⟨y,_,q⟩:=R.gK.get hi;exact⟨_,q.2⟩
 have nlp:∀m∈eU ln lb ls bs,lp≠m:=λm hm e=>by
  obtain⟨o,ho⟩:=Hn m hm;rw[<- e,hlp] at ho;cases ho
 have g':∀m∈eU ln lb ls bs,G' m=none:=λm hm=>by
  obtain⟨o,ho⟩:=Hn m hm;exact x.zT ho (R.free m hm)
 have glb:G' lb=none:=g' lb (by simp);refine⟨⟨?_, ?_, ?_, ?_, ?_, ?_, ?_, ?_,R.J7,λa ha=>?_,R.tR⟩,⟨x.gg,x.gh.C3 glb _,λc o e hc=>?_,λc hc o e=>.inl (x.new c hc o e)⟩⟩
 ·obtain⟨dx,e⟩:=R.obj;exact⟨dx,x.gg _ _ e⟩
 ·simp only[cz,fh,bp,not_or];refine⟨⟨n1,n2,Ne.symm (nlp ln (by simp)),n3⟩,⟨n4,Ne.symm (nlp lb (by simp)),n5⟩,⟨Ne.symm (nlp ls (by simp)),n6⟩,λz=>nlp lp (by simp only[bp];exact .inr (.inr (.inr z))) rfl,n7⟩
 ·intro m hm;simp only[cz,bp] at hm
  rcases hm with rfl |rfl |rfl |rfl |hm
  ·exact g' _ (by simp)
  ·exact g' _ (by simp)
  ·exact g' _ (by simp)
  ·exact glp
  ·exact g' m (by simp only[bp];exact .inr (.inr (.inr hm)))
 ·rw[aw n1];exact x.hh _ _ R.nodes
 ·exact cc.upd (R.iG.mono λ_ _ q=>(q.FE x.gg).J9 x.hh) (x.hh _ _ R.begun) _
 ·rw[ah];simp
 ·refine .cons ⟨⟨dx,ha,hb,hh⟩, ?_⟩ ?_
  ·rw[aw (nlp lb (by simp))];exact hlp'
  ·have hall:∀p∈bs,p.2≠lb:=λp hp e=>n5 (fg.mpr ⟨p,hp,e⟩)
   have:∀(l:List (Addr×Addr))(m:List (Hd×List Nat)),(∀p∈l,p∈bs)->bF (ju A G H) l m->bF (ju A G' (ao H' lb (.lst ((bs.reverse.map λb=>V.ref b.1)++[.ref b])))) l m:=by
    intro l m hl a
    induction a with
    |nil=>exact .nil
    | @cons p y l m q _ ih=>
     refine .cons ?_ (ih λp hp=>hl p (cZ _ hp));obtain⟨⟨dx2,ha2,e1,e2⟩,e3⟩:=q;exact⟨⟨dx2,ha2,x.gg _ _ e1,e2.mono x.gg⟩,by rw[aw (hall p (hl p cF))];exact x.hh _ _ e3⟩
   exact this bs s.begun (λ_ h=>h) R.gK
 ·rw[aw (Ne.symm n4)];exact x.hh _ _ R.aq
 ·obtain⟨dx',fs,e⟩:=cc.here R.iG a ha;exact x.zT e (R.qE a ha)
 ·rw[aw λe=>hc (by rw[e];simp)];exact x.hh _ _ e
def Jb{A:bU}{G H:Hp}{ha:Addr}{Q:Addr->Hp->Prop}(sG:aG G H)
  (k:∀(b lp dx:Addr)(G' H':Hp),Ext G H G' H'->G' b=some (.ins A.lj dx (nF (.ref ha) (.ref lp)))->H lp=none->G' lp=none->H' lp=some (.lst [])->Q b H'):
  ∀x dx,H x=none->H dx=none->dx≠x->lH A [.ref x,.ref ha] (ao (ao H dx (.own x)) x (.ins A.lj dx [])) (λv H2=>v=.ez/\Q x H2) E0:=by
 intro x dx hx hdx hne;refine⟨x,dx,ha,rfl,ah,λlp H' hlp e1 e2 e3=>⟨rfl, ?_⟩⟩;have s1:aG H H':=aG.made hx hdx e3;have nlpx:lp≠x:=λe=>by subst e;rw[ah] at hlp;cases hlp
 have hlp0:H lp=none:=by
  rw[aw nlpx] at hlp;by_cases e:lp=dx
  ·subst e;exact hdx
  ·rw[aw e] at hlp;exact hlp
 have gx:G x=none:=sG.free hx;refine k x lp dx (ao G x (.ins A.lj dx (nF (.ref ha) (.ref lp)))) H' ((Ext.grow sG s1).keep hx gx e1) ah hlp0 (by rw[aw nlpx];exact sG.free hlp0) e2
def qo:fQ P0 w0 b0 T 3 3 ["reading","head"] (ql A):=by
 refine b8 (top 19) ["reading","head","number"] (T.p 3).1 λS H vs Q E hr h=>?_
 obtain⟨G,r,ha,n,s,h,ln,lb,ls,nas,bs,rfl,sG,R,⟨dh,hh⟩,hb,qn,qs⟩:=h;obtain⟨dr,hr'⟩:=R.obj;have e_r:=sG _ _ hr';have e_h:=sG _ _ hh;refine⟨_,(af (aT 2 S.nd (aF (pv 1)))
   (af (aQ (aO bq (aF (pv 1)) (aP T.kz)) (af (aQ (aO iF (pv 2) (cn T.cf (aF (pv 0)))) (aj (az uJ)) aE)
   (aj (aT 2 S.nd (aZ (aF (pv 0)) (pv 2))))) aE)
   (af (cu (m9 (aF (pv 0)) (fF T.tu (yU T) hr (ab (fF T.iM (iV T) hr (ab (aF (pv 1)) (ab (pv 2) (ab (aF (pv 1)) ax)))) ax))))
   (aj (az uJ))))), ?_⟩
 refine aL (bY (aC (aa rfl) e_h T.gU T.ko (qG _ _ _)) ?_);have rest:∀(num:Nat)(s':jN),fB s h=some s'->s'= { s with begun:=(⟨h.kind,num,h.jc⟩,[]) :: s.begun } ->
   oR (zH (Lm K "list" jS (da K (bA 0) "begun") (fZ (lZ A.lj (lH A) [] E0 (fZ (lZ A.BF (xi A.BF 3 Ly) [] E0 (fZ (da K (bA 1) "kind") (fZ (bA 2) (fZ (da K (bA 1) "due") jC)))) jC)) jC))) (DQ (tC (V.bl true)))
    { nx:=λ_ H'=>Q .ez H',rt:=Q } [some (.ref r),some (.ref ha),some (nv num)] H:=by
  intro num s' hs' e;refine aL (jX (aC (aa rfl) e_r T.bE T.dj (eF _ _ _ _)) R.begun (mP (aY ?_)));refine E7 sG (ae (aC (aa rfl) e_h T.gU T.fI (iL _ _ _)) (ae (aa rfl) (ae (aC (aa rfl) e_h T.gU T.p9 (yE _ _ _)) au))) rfl λh2 dx2 G1 H1 x1 e1 _=>?_
  refine cV (Jb x1.gh λb lp dx G2 H2 x2 e2 l1 l2 l3=>?_);have x12:=x1.trans x2;refine uf (x12.hh _ _ R.begun) (by rw[bD,uo];exact big (by omega)) ?_;dsimp only;refine bc aH ?_;obtain⟨R',M'⟩:=ie.push R x12 sG e2 (h:=⟨h.kind,num,h.jc⟩) ⟨dx2,x2.gg _ _ e1⟩ (x1.hh.free l1) l2 l3;refine qs s' hs' G2 _ ((b,lp) :: bs) M' (by rw[e];exact R') λm hm=>?_
  simp only[cz,bp] at hm
  rcases hm with rfl |hm
  ·exact .inr (x1.hh.free l1)
  ·exact .inl hm
 refine b7 (aD (ay (aC (aa rfl) e_h T.gU T.fI (iL _ _ _)) aH gI)) (λe=>?_) λe=>?_
 ·have hk:h.kind=1:=by(try simp at e);omega
  have esl:∀{σ:b6},σ[0]? =some (some (.ref r))->Ev (da K (bA 0) "sight") σ H (.ref ls):=λs0=>aC (aa s0) e_r T.bE T.gP (jI _ _ _ _)
  refine b7 (aD (ay (aa rfl) (dG (ae (esl rfl) au) (qf R.aq)) bo)) (λe1=>?_) λe1=>?_
  ·refine bc aH (qn ?_);have:s.aq.length<=h.num:=by(try simp at e1);omega
   unfold fB;rw[ai hk,jw this];rfl
  ·have hlt:h.num<s.aq.length:=by(try simp at e1);omega
   refine bY (ay (esl rfl) (aa rfl) (bM R.aq (bG (jm (c6 hlt))))) ?_;refine rest _ { s with begun:=(⟨h.kind,s.aq[h.num],h.jc⟩,[]) :: s.begun } ?_ rfl;unfold fB;rw[ai hk,c6 hlt,hk];rfl
 ·have hk:h.kind≠1:=by(try simp at e);omega
  refine rest _ { s with begun:=(⟨h.kind,h.num,h.jc⟩,[]) :: s.begun } ?_ rfl;unfold fB;rw[ag hk]
section
variable {A:bU} {G H:Hp} {r:Addr} {n:Nat} {s:jN} {O:List (Nat×Nat)} {ln lb ls:Addr} {nas:List Addr} {bs:List (Addr×Addr)}
structure Apart(ln lb ls:Addr)(bs:List (Addr×Addr)):Prop where
 nb:ln≠lb
 ns:ln≠ls
 OQ:lb≠ls
 pn:∀p∈bs,p.2≠ln
 pb:∀p∈bs,p.2≠lb
 ps:∀p∈bs,p.2≠ls
 nd:(bs.map (·.2)).Nodup
def ie.apart(R:ie A G H r n s O ln lb ls nas bs):Apart ln lb ls bs:=by
 have nd:=R.nd;simp only[fh,bp,not_or] at nd;obtain⟨⟨n1,n2,n3⟩,⟨n4,n5⟩,n6,n7⟩:=nd;exact⟨n1,n2,n4,λp hp e=>n3 (fg.mpr ⟨p,hp,e⟩),λp hp e=>n5 (fg.mpr ⟨p,hp,e⟩),λp hp e=>n6 (fg.mpr ⟨p,hp,e⟩),n7⟩
def ni{H':Hp}{l:List (Addr×Addr)}{m:List (Hd×List Nat)}{p:Addr}{o:HO}(a:bF (ju A G H) l m)(h:∀q∈l,q.2≠p):bF (ju A G (ao H p o)) l m:=by
 induction a with
 |nil=>exact .nil
 | @cons q y l m e _ ih=>
  refine .cons ⟨e.1, ?_⟩ (ih λq hq=>h q (cZ _ hq));rw[aw (h q cF)];exact e.2
def vh(a:bF (ju A G H) l m)(g:aG G G')(h:aG H H'):bF (ju A G' H') l m:=
 a.mono λq y e=>⟨(by obtain⟨⟨dx,ha,e1,e2⟩,_⟩:=e;exact⟨dx,ha,g _ _ e1,e2.mono g⟩),h _ _ e.2⟩
def ie.Om{b0:Addr×Addr}{x:Hd×List Nat}{rest:List (Hd×List Nat)}(R:ie A G H r n s O ln lb ls nas (b0 :: bs))(e:s.begun=x :: rest):
  ie A G (ao H lb (.lst (bs.reverse.map λb=>V.ref b.1))) r n { s with begun:=rest } O ln lb ls nas bs:=by
 have ap:=R.apart;have nd:=R.nd;have ba:=R.gK;rw[e] at ba;cases ba with
 |cons _ ba=>
 refine⟨R.obj, ?_,λm hm=>R.free m ?_,by rw[aw ap.nb];exact R.nodes,cc.upd R.iG R.begun _,ah,ni (H':=H) ba λq hq=>ap.pb q (cZ _ hq),by rw[aw (Ne.symm ap.OQ)];exact R.aq,R.J7,R.qE,R.tR⟩
 ·simp only[cz,fh,bp,not_or] at nd⊢;exact⟨⟨nd.1.1,nd.1.2.1,nd.1.2.2.2⟩,⟨nd.2.1.1,nd.2.1.2.2⟩,nd.2.2.1.2,nd.2.2.2.2⟩
 ·simp only[cz,bp] at hm⊢
  rcases hm with h |h |h |h
  ·exact .inl h
  ·exact .inr (.inl h)
  ·exact .inr (.inr (.inl h))
  ·exact .inr (.inr (.inr (.inr h)))
def ie.grow(R:ie A G H r n s O ln lb ls nas bs)(x:Ext G H G' H'):ie A G' H' r n s O ln lb ls nas bs:=by
 have Hn:∀m∈eU ln lb ls bs,∃o,H m=some o:=by
  intro m hm;simp only[bp] at hm
  rcases hm with rfl |rfl |rfl |hm
  ·exact⟨_,R.nodes⟩
  ·exact⟨_,R.begun⟩
  ·exact⟨_,R.aq⟩
  ·obtain⟨p,hp,rfl⟩:=fg.mp hm;obtain⟨i,hi⟩:=lS hp;obtain⟨y,_,q⟩:=R.gK.get hi;exact⟨_,q.2⟩
 refine⟨?_,R.nd,λm hm=>?_,x.hh _ _ R.nodes,R.iG.mono λ_ _ q=>(q.FE x.gg).J9 x.hh,x.hh _ _ R.begun,vh R.gK x.gg x.hh,x.hh _ _ R.aq,R.J7,λa ha=>?_,R.tR⟩
 ·obtain⟨dx,e⟩:=R.obj;exact⟨dx,x.gg _ _ e⟩
 ·obtain⟨o,ho⟩:=Hn m hm;exact x.zT ho (R.free m hm)
 ·obtain⟨dx',fs,e⟩:=cc.here R.iG a ha;exact x.zT e (R.qE a ha)
def ie.Jk(R:ie A G H r n s O ln lb ls nas bs)(hp:p∉eU ln lb ls bs)(hpn:p∉nas)(gp:G p=none):ie A (ao G p o) H r n s O ln lb ls nas bs:=by
 have sg:aG G (ao G p o):=aG.upd gp o;refine⟨?_,R.nd,λm hm=>?_,R.nodes,R.iG.mono λ_ _ q=>q.FE sg,R.begun,vh R.gK sg (.refl _),R.aq,R.J7,λa ha=>?_,R.tR⟩
 ·obtain⟨dx,e⟩:=R.obj;exact⟨dx,sg _ _ e⟩
 ·rw[aw λz=>hp (by rw[<- z];exact hm)];exact R.free m hm
 ·rw[aw λz=>hpn (by rw[<- z];exact ha)];exact R.qE a ha
def HX(h:m.length=l.length):(l++[a]).zip (m++[b])=l.zip m++[(a,b)]:=by
 rw[List.zip_append h.symm];rfl
def ie.OD{a:Addr}{d:Nd}{o:Nat×Nat}(R:ie A G H r n s O ln lb ls nas bs)(hd:og A G H a (d,o))(ga:G a=none)(hn:a∉nas):
  ie A G (ao H ln (.lst (nas.map V.ref++[.ref a]))) r n { s with nodes:=s.nodes++[d] } (O++[o]) ln lb ls (nas++[a]) bs:=by
 have ap:=R.apart;refine⟨R.obj,R.nd,R.free,by rw[ah];simp, ?_,by rw[aw (Ne.symm ap.nb)];exact R.begun,ni (H':=H) R.gK ap.pn,by rw[aw (Ne.symm ap.ns)];exact R.aq, ?_,λb hb=>?_,by simp[R.tR]⟩
 ·show bF _ _ ((s.nodes++[d]).zip (O++[o]));rw[HX R.tR];exact cc.upd (R.iG.snoc hd) R.nodes _
 ·rw[Aj];exact⟨R.J7,by simp,λx hx y hy e=>hn (by simp at hy;rw[<- hy,<- e];exact hx)⟩
 ·rcases cv.mp hb with h |h
  ·exact R.qE b h
  ·simp at h;rw[h];exact ga
def ie.lead(R:ie A G H r n s O ln lb ls nas bs)(hN:cc A G H' nas s.nodes O')(hO:O'.length=O.length)(hk:∀b,b∉nas->H' b=H b):ie A G H' r n s O' ln lb ls nas bs:=by
 have key:∀{b:Addr}{xs:List V},H b=some (.lst xs)->H' b=some (.lst xs):=λ{b xs} e=>by
  rw[hk b λz=>by obtain⟨dx,fs,e'⟩:=cc.here R.iG b z;rw[e] at e';cases e'];exact e
 exact⟨R.obj,R.nd,R.free,key R.nodes,hN,key R.begun,R.gK.mono λq y e=>⟨e.1,key e.2⟩,key R.aq,R.J7,R.qE,by rw[hO];exact R.tR⟩
def ie.N4{aq:List Nat}(R:ie A G H r n s O ln lb ls nas bs):ie A G (ao H ls (.lst (bZ aq))) r n { s with aq:=aq } O ln lb ls nas bs:=by
 have ap:=R.apart;exact⟨R.obj,R.nd,R.free,by rw[aw ap.ns];exact R.nodes,cc.upd R.iG R.aq _,by rw[aw ap.OQ];exact R.begun,ni (H':=H) R.gK ap.ps,ah,R.J7,R.qE,R.tR⟩
def ie.OC{b:Addr×Addr}{h:Hd}{ps:List Nat}{rest:List (Hd×List Nat)}{p:Nat}(R:ie A G H r n s O ln lb ls nas (b :: bs))(e:s.begun=(h,ps) :: rest):
  ie A G (ao H b.2 (.lst (bZ (ps++[p])))) r n { s with begun:=(h,ps++[p]) :: rest } O ln lb ls nas (b :: bs):=by
 have ap:=R.apart;have ba:=R.gK;rw[e] at ba;have m0:b∈b :: bs:=cF;cases ba with
 |cons q ba=>
 have hnd:=ap.nd;simp only[cz,fh] at hnd;refine⟨R.obj,R.nd,R.free,by rw[aw (Ne.symm (ap.pn b m0))];exact R.nodes,cc.upd R.iG q.2 _,by rw[aw (Ne.symm (ap.pb b m0))];exact R.begun,.cons ⟨q.1,ah⟩ (ni (H':=H) ba λc hc z=>hnd.1 (fg.mpr ⟨c,hc,z⟩)),
  by rw[aw (Ne.symm (ap.ps b m0))];exact R.aq,R.J7,R.qE,R.tR⟩
end
structure F8(n:Nat)(s:jN):Prop where
 parts:∀x∈s.begun,∀p∈x.2,n<=p/\p<n+s.nodes.length
 jc:∀x∈s.begun,x.1.kind=9->x.1.jc=3
def F8.begin(R:F8 n s)(hd:h.kind=9->h.jc=3)(e:fB s h=some s'):F8 n s':=by
 have key:∀h':Hd,h'.kind=h.kind->h'.jc=h.jc->F8 n { s with begun:=(h',[]) :: s.begun }:=by
  intro h' hk hdue;refine⟨λx hx p hp=>?_,λx hx hk9=>?_⟩
  ·rcases bp.mp hx with rfl |hx
   ·simp at hp
   ·exact R.parts x hx p hp
  ·rcases bp.mp hx with rfl |hx
   ·rw[hdue];exact hd (by rw[<- hk];exact hk9)
   ·exact R.jc x hx hk9
 unfold fB at e;split at e
 ·rename_i h1;obtain⟨p,_,e⟩:=bO.mp e;subst e;exact key _ h1.symm rfl
 ·cases e;exact key _ rfl rfl
def F8.end_{n:Nat}{s:jN}{h:Hd}{ps:List Nat}{rest:List (Hd×List Nat)}(R:F8 n s)(e:s.begun=(h,ps) :: rest):F8 n (lO n s):=by
 cases rest with
 |nil=>rw[ua e];exact⟨λx hx=>by simp at hx,λx hx=>by simp at hx⟩
 |cons y r=>
  obtain⟨h2,ps2⟩:=y;rw[ub e];have key:∀x∈(h2,ps2) :: r,x∈s.begun:=λx hx=>by rw[e];exact cZ _ hx
  refine⟨λx hx p hp=>?_,λx hx hk=>?_⟩
  ·simp only[dR,fD]
   rcases bp.mp hx with rfl |hx
   ·rcases cv.mp hp with hp |hp
    ·have:=R.parts (h2,ps2) (key _ cF) p hp;omega
    ·simp at hp;omega
   ·have:=R.parts x (key _ (cZ _ hx)) p hp;omega
  ·rcases bp.mp hx with rfl |hx
   ·exact R.jc (h2,ps2) (key _ cF) hk
   ·exact R.jc x (key _ (cZ _ hx)) hk
def F8.start(n:Nat)(l:List Nat):F8 n ⟨[],[],l⟩:=⟨λx hx=>by simp at hx,λx hx=>by simp at hx⟩
def fY.turn{M N:List Addr}{G H G' H' H'':Hp}(m:fY M G H G' H')(hk:∀b,b∉N->H'' b=H' b)(hN:∀b∈N,b∈M\/H b=none)(gh:aG G' H''):fY M G H G' H'':=by
 refine⟨m.gg,gh,λb o e hb=>?_,m.new⟩;by_cases z:b∈N
 ·rcases hN b z with w |w
  ·exact aI w hb
  ·rw[w] at e;cases e
 ·rw[hk b z];exact m.keep b o e hb
def fY.trans'{M M1:List Addr}{G H G1 H1 G2 H2:Hp}(m:fY M G H G1 H1)(m1:fY M1 G1 H1 G2 H2)(hM:∀x∈M1,x∈M\/H x=none):fY M G H G2 H2:=by
 refine⟨m.gg.trans m1.gg,m1.gh,λb o e hb=>m1.keep b o (m.keep b o e hb) λz=>?_,λb hb o e=>?_⟩
 ·rcases hM b z with w |w
  ·exact hb w
  ·rw[w] at e;cases e
 ·cases q:G1 b with
  |none=>
   rcases m1.new b q o e with z |z
   ·by_cases hbM:b∈M
    ·exact .inr hbM
    ·cases w:H b with
     |none=>exact .inl rfl
     |some u=>rw[m.keep b u w hbM] at z;cases z
   ·exact(hM b z).symm
  |some u=>exact m.new b hb u q
def cc.pick(h:cc A G H nas ds O)(hl:O.length=ds.length)(hi:i<ds.length):
  ∃a d o z dx lp,nas[i]? =some a/\ds[i]? =some d/\O[i]? =some (o,z)/\H a=some (.ins A.lP dx (fC (nv d.kind) (nv d.num) (.ref lp) (nv o) (nv z)))/\G lp=some (.lst (bZ d.parts)):=by
 have hn:=cc.len h hl;have ha:nas[i]? =some nas[i]:=c6 (by omega);obtain⟨y,hy,dx,lp,e,f⟩:=h.get ha;obtain⟨h1,h2⟩:=wz.mp hy;exact⟨_,y.1,y.2.1,y.2.2,dx,lp,ha,h1,h2,e,f⟩
noncomputable def xQ (n place p0 p1:Nat) (O:List (Nat×Nat)):List (Nat×Nat):=(O.set (p0 - n) ((O.getD (p0 - n) (0,0)).1,p1+1)).set (p1 - n) (place,place)
def Hf(n place p0 p1:Nat)(O:List (Nat×Nat)):(xQ n place p0 p1 O).length=O.length:=by simp[xQ]
def Kh(A:bU):Sp:=λvs H Q _=> ∃(G:Hp)(r lp:Addr)(n place p0 p1:Nat)(ps:List Nat)(s:jN)(O:List (Nat×Nat))(ln lb ls:Addr)(nas:List Addr)(bs:List (Addr×Addr)),vs=[.ref r,nv place,.ref lp]/\aG G H/\
 ie A G H r n s O ln lb ls nas bs/\H lp=some (.lst (bZ (p0 :: p1 :: ps)))/\(n<=p0/\p0<n+s.nodes.length)/\(n<=p1/\p1<n+s.nodes.length)/\
 ∀H',ie A G H' r n s (xQ n place p0 p1 O) ln lb ls nas bs->(∀b,b∉nas->H' b=H b)->aG G H'->Q .ez H'
def mR:fQ P0 w0 b0 T 1 4 ["reading","place","parts"] (Kh A):=by
 refine b8 (top 20) ["reading","place","parts","condition","taken"] (T.p 4).1 λS H vs Q E hr h=>?_
 obtain⟨G,r,lp,n,place,p0,p1,ps,s,O,ln,lb,ls,nas,bs,rfl,sG,R,hlp,⟨l0,u0⟩,⟨l1,u1⟩,q⟩:=h;obtain⟨dr,hobj⟩:=R.obj;refine⟨_,(af (aT 3 S.nd (aZ (aF (pv 0)) (bH qT (aZ (pv 2) aA) (aF (pv 0)))))
   (af (aT 4 S.nd (aZ (aF (pv 0)) (bH qT (aZ (pv 2) aA) (aF (pv 0)))))
   (af (bR (pv 3) (bH dZ (aZ (pv 2) aA) aA))
   (af (bR (pv 4) (pv 1))
   (aj (bR (pv 4) (pv 1))))))), ?_⟩
 have i0:p0 - n<s.nodes.length:=by omega
 have i1:p1 - n<s.nodes.length:=by omega
 obtain⟨a0,d0,o0,z0,dx0,lp0,ha0,hd0,hO0,e0,g0⟩:=cc.pick R.iG R.tR i0;obtain⟨a1,d1,o1,z1,dx1,lp1,ha1,hd1,hO1,e1,g1⟩:=cc.pick R.iG R.tR i1;have m0:a0∈nas:=iN ha0;have m1:a1∈nas:=iN ha1;have lpn:lp∉nas:=λz=>by obtain⟨dx,fs,e⟩:=cc.here R.iG lp z;rw[hlp] at e;cases e
 have ep:∀{H':Hp}{σ:b6}(i x:Nat),H' lp=some (.lst (bZ (p0 :: p1 :: ps)))->σ[2]? =some (some (.ref lp))->(p0 :: p1 :: ps)[i]? =some x->Ev (jR (gY K) (bA 2) (tC (V.int (i:Int)))) σ H' (nv x):=λi x hl s2 hx=>
  ay (aa s2) aH (bM hl (bG (jm hx)))
 have nodeE:∀{σ:b6}(i p:Nat)(a:Addr),σ[0]? =some (some (.ref r))->σ[2]? =some (some (.ref lp))->(p0 :: p1 :: ps)[i]? =some p->n<=p->nas[p - n]? =some a->
   Ev (jR (gY K) (da K (bA 0) "nodes") (jR (uG λi j=>V.int (i - j)) (jR (gY K) (bA 2) (tC (V.int (i:Int)))) (da K (bA 0) "arguments"))) σ H (.ref a):=λ{σ} i p a s0 s2 hp hn ha=>by
  refine ay (aC (aa s0) (sG _ _ hobj) T.bE T.dg (eE _ _ _ _)) (ay (ep i p hlp s2 hp) (aC (aa s0) (sG _ _ hobj) T.bE T.gE (jO _ _ _ _)) bo)
   (bM R.nodes (at_of (j:=p - n) (by omega) (by rw[cU,ha];rfl)))
 refine aL (bY (nodeE 0 p0 a0 rfl rfl rfl l0 ha0) ?_);dsimp only;refine aL (bY (nodeE 1 p1 a1 rfl rfl rfl l1 ha1) ?_);dsimp only;have N1:=cc.turn (o:=o0) (z:=p1+1) (dx:=dx0) R.iG R.J7 ha0 hd0 g0;have O1l:(O.set (p0 - n) (o0,p1+1)).length=s.nodes.length:=by rw[rl];exact R.tR
 have eplus:∀{σ:b6},σ[2]? =some (some (.ref lp))->Ev (jR (uG λi j=>V.int (i+j)) (jR (gY K) (bA 2) (tC (V.int 1))) (tC (V.int 1))) σ H (nv (p1+1)):=λ{σ} s2=>by
  have:=ay (r:=uG λi j=>V.int (i+j)) (ep (σ:=σ) 1 p1 hlp s2 rfl) (aH (v:=V.int 1)) bo;have e:V.int ((p1:Int)+1)=nv (p1+1):=by simp
  rw[e] at this;exact this
 refine aL (cS (eplus rfl) (aa rfl) e0 T.cY T.dN (by show 5<1000;decide) ?_);rw[uH];generalize hH1:ao H a0 (.ins A.lP dx0 (fC (nv d0.kind) (nv d0.num) (.ref lp0) (nv o0) (nv (p1+1))))=H1 at N1;obtain⟨a1',d1',o1',z1',dx1',lp1',ha1',hd1',hO1',e1',g1'⟩:=cc.pick N1 O1l i1;have ea:a1'=a1:=Option.some.inj (ha1'.symm.trans ha1);have ed:d1'=d1:=Option.some.inj (hd1'.symm.trans hd1);subst ea ed;refine aL (cS (aa rfl) (aa rfl) e1' T.cY T.kn (by show 5<1000;decide) ?_);rw[Eb];have N2:=cc.turn (o:=place) (z:=z1') (dx:=dx1') N1 R.J7 ha1 hd1 g1';refine cS (aa rfl) (aa rfl) ah T.cY T.dN (by show 5<1000;decide) ?_;rw[uH];have N3:=cc.turn (o:=place) (z:=place) (dx:=dx1') N2 R.J7 ha1 hd1 g1';rw[List.set_set] at N3;have eO:(O.set (p0 - n) (o0,p1+1)).set (p1 - n) (place,place)=xQ n place p0 p1 O:=by
  unfold xQ;rw[cy,hO0];rfl
 rw[eO] at N3;have fr:∀b,b∉nas->ao (ao H1 a1' (.ins A.lP dx1' (fC (nv d1'.kind) (nv d1'.num) (.ref lp1') (nv place) (nv z1')))) a1' (.ins A.lP dx1' (fC (nv d1'.kind) (nv d1'.num) (.ref lp1') (nv place) (nv place))) b=H b:=λb hb=>by
  have n1:b≠a1':=λz=>hb (z ▸ m1)
  have n0:b≠a0:=λz=>hb (z ▸ m0)
  rw[aw n1,aw n1,<- hH1,aw n0]
 refine q _ (R.lead N3 (Hf _ _ _ _ _) fr) fr λb o e=>?_
 rw[fr b λz=>by rw[R.qE b z] at e;cases e];exact sG b o e
def rJ(A:bU):Sp:=λvs H Q _=> ∃(G:Hp)(r:Addr)(n:Nat)(s:jN)(h:Hd)(ps:List Nat)(rest:List (Hd×List Nat))(ln lb ls:Addr)(nas:List Addr)(b0:Addr×Addr)(bs:List (Addr×Addr)),vs=[.ref r]/\aG G H/\
 pP A G H r n s ln lb ls nas (b0 :: bs)/\s.begun=(h,ps) :: rest/\ps.length=h.jc/\F8 n s/\(h.kind=10->s.aq≠[])/\s.nodes.length<=1000/\s.aq.length<=2000/\(∀x∈s.begun,x.2.length<=1000)/\
 ∀(G' H':Hp)(nas':List Addr),fY (eU ln lb ls (b0 :: bs)++nas) G H G' H'->pP A G' H' r n (lO n s) ln lb ls nas' bs->(∀m∈nas',m∈nas\/H m=none)->Q .ez H'
def si:fQ P0 w0 b0 T 3 5 ["reading"] (rJ A):=by
 refine b8 (top 21) ["reading","ended","place","around"] (T.p 5).1 λS H vs Q E hr h=>?_
 obtain⟨G,r,n,s,h,ps,rest,ln,lb,ls,nas,b0,bs,rfl,sG,R,hb,hdue,hpl,hsne,hz1,hz2,hz3,q⟩:=h;obtain⟨dr,hobj⟩:=R.obj;have ap:=R.apart;have hnl:nas.length=s.nodes.length:=R.su;have ba:=R.gK;rw[hb] at ba;obtain⟨⟨db,ha,g_b,g_h⟩,h_p⟩ :ju A G H b0 (h,ps):=by cases ba with |cons q _=>exact q
 obtain⟨dh,g_h⟩:=g_h;have M0:fY (eU ln lb ls (b0 :: bs)++nas) G H G H:=fY.refl sG;refine⟨_,(af (aT 1 S.nd (B3 PySem.F.plainAttrs_list PySem.F.slot_list_pop PySem.F.type_list_pop Bh (aF (pv 0))))
   (af (aT 2 S.nd (bH dZ (aF (pv 0)) (cn T.cf (aF (pv 0)))))
   (af (cu (m9 (aF (pv 0)) (fF T.vm (Bd T) hr (ab (aF (aF (pv 1))) (ab (aF (aF (pv 1))) (ab (aF (pv 1)) (ab (bH dZ (pv 2) aA) ax)))))))
   (af (aQ (aO bq (aF (aF (pv 1))) (aP T.sM)) (aj (cu (aV (T.p 4) (mR T) hr (ab (pv 0) (ab (pv 2) (ab (aF (pv 1)) ax)))))) aE)
   (af (aQ (aO bq (aF (aF (pv 1))) (aP T.FR)) (aj (cu (B3 PySem.F.plainAttrs_list PySem.F.slot_list_pop PySem.F.type_list_pop Bh (aF (pv 0))))) aE)
   (aj (aQ (aO kj (cn T.cf (aF (pv 0))) aA) (af (aT 3 S.nd (aZ (aF (pv 0)) (qy lF aA)))
   (af (cu (m9 (aF (pv 3)) (pv 2)))
   (aj (aQ (PW.pt (Ea (aO bq (aF (aF (pv 3))) (aP T.FR)) (AW (aO bq (cn T.cf (aF (pv 3))) aA)))) (aj (cu (m9 (aF (pv 0)) (pv 2)))) aE)))) aE))))))), ?_⟩
 refine aL (cA (Fo (xs:=bs.reverse.map λb=>V.ref b.1) (y:=.ref b0.1) (aC (aa rfl) (sG _ _ hobj) T.bE T.dj (eF _ _ _ _)) (by rw[R.begun];simp) ?_));have R1:=R.Om hb;have M1:=M0.wr (p:=lb) (by simp) (R.free lb (by simp)) (.lst (bs.reverse.map λb=>V.ref b.1));generalize hH1:ao H lb (.lst (bs.reverse.map λb=>V.ref b.1))=H1 at R1 M1;have h_p1:H1 b0.2=some (.lst (bZ ps)):=by rw[<- hH1,aw (ap.pb b0 (by simp))];exact h_p
 dsimp only;refine aL (bY (v:=nv (n+s.nodes.length)) ?_ ?_)
 ·have:=ay (r:=uG λi j=>V.int (i+j)) (aC (K:=K) (f:= "arguments") (aa (n:=0) (σ:=[some (V.ref r),some (V.ref b0.1),none,none]) rfl) (M1.gh _ _ hobj) T.bE T.gE (jO _ _ _ _))
   (dG (ae (aC (K:=K) (f:= "nodes") (aa (n:=0) rfl) (M1.gh _ _ hobj) T.bE T.dg (eE _ _ _ _)) au) (ff (K:=K) R1.nodes)) bo
  have e:(V.int ((n:Int)+((nas.map V.ref).length:Int)))=nv (n+s.nodes.length):=by rw[bD,hnl];simp
  rw[e] at this;exact this
 have eh:∀{H':Hp}{σ:b6},aG G H'->σ[1]? =some (some (.ref b0.1))->Ev (da K (bA 1) "head") σ H' (.ref ha):=λsg s1=>aC (aa s1) (sg _ _ g_b) T.j7 T.jo (nE _ _)
 refine aL (jX (aC (aa rfl) (M1.gh _ _ hobj) T.bE T.dg (eE _ _ _ _)) R1.nodes ?_);have eplace:∀{σ:b6},σ[2]? =some (some (nv (n+s.nodes.length)))->Ev (jR (uG λi j=>V.int (i+j)) (bA 2) (tC (V.int 1))) σ H1 (nv (n+s.nodes.length+1)):=λ{σ} s2=>by
  have:=ay (r:=uG λi j=>V.int (i+j)) (aa (H:=H1) s2) (aH (v:=V.int 1)) bo;have e:V.int (((n+s.nodes.length:Nat):Int)+1)=nv (n+s.nodes.length+1):=by simp
  rw[e] at this;exact this
 refine Lr (ae (aC (eh M1.gh rfl) (M1.gh _ _ g_h) T.gU T.fI (iL _ _ _)) (ae (aC (eh M1.gh rfl) (M1.gh _ _ g_h) T.gU T.ko (qG _ _ _))
  (ae (aC (aa rfl) (M1.gh _ _ g_b) T.j7 T.gG (jt _ _)) (ae (eplace rfl) au)))) rfl λa dx H2 s2 e2 ha1=>?_
 have x2:Ext G H1 G H2:=Ext.grow M1.gh s2;have glp:G b0.2=none:=R.free b0.2 (by simp);have hlpM:b0.2∈eU ln lb ls (b0 :: bs)++nas:=by simp
 have hlpN:b0.2∉eU ln lb ls bs:=by
  have nd:=R.nd;simp only[cz,fh,bp,not_or] at nd;simp only[bp,not_or];exact⟨Ne.symm nd.1.2.2.1,Ne.symm nd.2.1.2.1,Ne.symm nd.2.2.1.1,nd.2.2.2.1⟩
 have hlpA:b0.2∉nas:=λz=>by obtain⟨dx,fs,e⟩:=cc.here R.iG _ z;rw[h_p] at e;cases e
 have aN:a∉nas:=λz=>by obtain⟨dx,fs,e⟩:=cc.here R1.iG _ z;rw[ha1] at e;cases e
 have ha0:H a=none:=by
  cases w:H a with
  |none=>rfl
  |some o=>
   by_cases z:a=lb
   ·rw[<- hH1,z,ah] at ha1;cases ha1
   ·rw[<- hH1,aw z,w] at ha1;cases ha1
 have ga:G a=none:=sG.free ha0;have nea:a≠b0.2:=λz=>by rw[z,h_p1] at ha1;cases ha1
 have M2:=(M1.ext' x2).Jk (o:=.lst (bZ ps)) hlpM glp (x2.hh _ _ h_p1);have R2:=(R1.grow x2).Jk (o:=.lst (bZ ps)) hlpN hlpA glp;have iG:og A (ao G b0.2 (.lst (bZ ps))) H2 a (⟨h.kind,h.num,ps⟩,(n+s.nodes.length+1,n+s.nodes.length+1)):=⟨dx,b0.2,e2,ah⟩;have R3:=R2.OD iG (by rw[aw nea];exact ga) aN;have M3:=M2.wr (p:=ln) (by simp) (R2.free ln (by simp)) (.lst (nas.map V.ref++[.ref a]));refine uf R2.nodes (by rw[bD,hnl];exact big (by omega)) ?_;generalize hG3:ao G b0.2 (.lst (bZ ps))=G3 at R3 M3;generalize hH3:ao H2 ln (.lst (nas.map V.ref++[.ref a]))=H3 at R3 M3;dsimp only;have g3:aG G G3:=M3.gg;have hN':∀m∈nas++[a],m∈nas\/H m=none:=λm hm=>by
  rcases cv.mp hm with z |z
  ·exact .inl z
  ·simp at z;rw[z];exact .inr ha0
 have eobj:∀{H':Hp},aG G3 H'->H' r=some (.ins A.iJ dr (gW (nv n) (.ref ln) (.ref lb) (.ref ls))):=λsg=>sg _ _ (g3 _ _ hobj)
 refine E2 (σ':=[some (.ref r),some (.ref b0.1),some (nv (n+s.nodes.length)),none]) (λH4=>fY (eU ln lb ls (b0 :: bs)++nas) G H G3 H4/\pP A G3 H4 r n ⟨s.nodes++[⟨h.kind,h.num,ps⟩],rest,s.aq⟩ ln lb ls (nas++[a]) bs)
  (λH3' ⟨M3',R3'⟩ =>?_) λk=>?_
 rotate_left
 ·have h3:aG G H3:=g3.trans M3.gh;refine xm (aD (ay (aC (eh h3 rfl) (h3 _ _ g_h) T.gU T.fI (iL _ _ _)) aH gI)) (λe=>?_) λe=>?_
  ·have hk:h.kind=9:=by(try simp at e);omega
   have h9:=hpl.jc (h,ps) (by rw[hb];exact cF) hk;dsimp only at h9
   match ps,hdue with
   |p0 :: p1 :: ps',hdue=>
    have hp0:=hpl.parts (h,p0 :: p1 :: ps') (by rw[hb];exact cF) p0 (by simp);have hp1:=hpl.parts (h,p0 :: p1 :: ps') (by rw[hb];exact cF) p1 (by simp);refine gX (aS (ae (aa rfl) (ae (aa rfl) (ae (aC (aa rfl) (h3 _ _ g_b) T.j7 T.gG (jt _ _)) au))) ?_);refine⟨G3,r,b0.2,n,n+s.nodes.length,p0,p1,ps',_,_,ln,lb,ls,nas++[a],bs,rfl,M3.gh,R3,M3.gh _ _ (by rw[<- hG3];exact ah), ?_, ?_,λH4 R4 fr sg=>k _ ⟨fY.turn M3 fr (λm hm=>?_) sg, ?_⟩⟩
    ·simp only[dR,fD];omega
    ·simp only[dR,fD];omega
    ·rcases hN' m hm with z |z
     ·exact .inl (nO _ z)
     ·exact .inr z
    ·have eO:xQ n (n+s.nodes.length) p0 p1 (p6 n s.nodes++[(n+s.nodes.length+1,n+s.nodes.length+1)])=p6 n (s.nodes++[⟨h.kind,h.num,p0 :: p1 :: ps'⟩]):=by
      rw[Cz];unfold jE xQ;rw[ai hk,kl];rfl
     rw[eO] at R4;exact R4
   | [],hdue=>simp at hdue;omega
   | [_],hdue=>simp at hdue;omega
  ·have hk:h.kind≠9:=by(try simp at e);omega
   refine k _ ⟨M3, ?_⟩;have eO:p6 n s.nodes++[(n+s.nodes.length+1,n+s.nodes.length+1)]=p6 n (s.nodes++[⟨h.kind,h.num,ps⟩]):=by
    rw[Cz];unfold jE;rw[ag hk,kl]
   rw[eO] at R3;exact R3
 clear hH3 M3 R3;replace M3:=M3';replace R3:=R3';clear M3' R3';have h3:aG G H3':=g3.trans M3.gh;refine E2 (σ':=[some (.ref r),some (.ref b0.1),some (nv (n+s.nodes.length)),none]) (λH4=>fY (eU ln lb ls (b0 :: bs)++nas) G H G3 H4/\pP A G3 H4 r n ⟨s.nodes++[⟨h.kind,h.num,ps⟩],rest,if h.kind=10 then s.aq.dropLast else s.aq⟩ ln lb ls (nas++[a]) bs)
  (λH4 ⟨M4,R4⟩ =>?_) λk=>?_
 ·
  have hbl:bs.length=rest.length:=R4.gK.length;have eb:∀{H':Hp}{σ:b6},aG G3 H'->σ[0]? =some (some (.ref r))->Ev (da K (bA 0) "begun") σ H' (.ref lb):=λsg s0=>aC (aa s0) (eobj sg) T.bE T.dj (eF _ _ _ _)
  refine xm (aD (ay (dG (ae (eb M4.gh rfl) au) (ff (K:=K) R4.begun)) aH bo)) (λe=>?_) λe=>?_
  ·have hpos:0<rest.length:=by(try simp at e);omega
   obtain⟨⟨h2,ps2⟩,rest',rfl⟩ :∃x r,rest=x :: r:=by
    cases rest with
    |nil=>simp at hpos
    |cons x r=>exact⟨x,r,rfl⟩
   obtain⟨b1,bs',rfl⟩ :∃x r,bs=x :: r:=by
    cases bs with
    |nil=>simp at hbl
    |cons x r=>exact⟨x,r,rfl⟩
   obtain⟨⟨db1,ha1,g_b1,⟨dh1,g_h1⟩⟩,h_p1'⟩ :ju A G3 H4 b1 (h2,ps2):=by cases R4.gK with |cons q _=>exact q
   refine aL (bY (ay (eb M4.gh rfl) (pG aH) (bM R4.begun (v:=.ref b1.1) ?_)) ?_)
   ·have:((b1 :: bs').reverse.map λb=>V.ref b.1)=(bs'.reverse.map λb=>V.ref b.1)++[V.ref b1.1]:=by simp
    rw[this];exact mB _ _
   have hps2:ps2.length<=1000:=hz3 (h2,ps2) (by rw[hb];simp);have ehd:∀{H':Hp}{σ:b6},aG G3 H'->σ[3]? =some (some (.ref b1.1))->Ev (da K (da K (bA 3) "head") "kind") σ H' (nv h2.kind):=λsg s1=>
    aC (aC (aa s1) (sg _ _ g_b1) T.j7 T.jo (nE _ _)) (sg _ _ g_h1) T.gU T.fI (iL _ _ _)
   have ept:∀{H':Hp}{σ:b6},aG G3 H'->σ[3]? =some (some (.ref b1.1))->Ev (da K (bA 3) "parts") σ H' (.ref b1.2):=λsg s1=>aC (aa s1) (sg _ _ g_b1) T.j7 T.gG (jt _ _)
   refine aL (gX (rP (ept M4.gh rfl) (ae (aa rfl) au) h_p1' (by rw[bD];exact big (by dsimp only;omega)) ?_));have en:bZ ps2++[nv (n+s.nodes.length)]=bZ (ps2++[n+s.nodes.length]):=by simp
   dsimp only;rw[en];have R5:=R4.OC (p:=n+s.nodes.length) rfl;have M5:=M4.wr (p:=b1.2) (by simp) (R4.free b1.2 (by simp)) (.lst (bZ (ps2++[n+s.nodes.length])));have hE:=ub (n:=n) hb;refine xm (Bv (aD (ay (ehd M5.gh rfl) aH gI)) λ_=>aD (ay (dG (ae (ept M5.gh rfl) au) (qf (b:=ps2++[n+s.nodes.length]) ah)) aH gI)) (λe2=>?_) λe2=>?_
   ·have hc:h2.kind=10/\ps2.length=0:=by(try simp at e2);exact⟨by omega,by omega⟩
    have hsl:(if h.kind=10 then s.aq.dropLast else s.aq).length<=2000:=by
     split
     ·rw[DG];omega
     ·exact hz2
    refine gX (rP (aC (aa rfl) (eobj M5.gh) T.bE T.gP (jI _ _ _ _)) (ae (aa rfl) au) R5.aq (by rw[bD];exact big (by dsimp only;omega)) ?_);have en2:bZ (if h.kind=10 then s.aq.dropLast else s.aq)++[nv (n+s.nodes.length)]=bZ ((if h.kind=10 then s.aq.dropLast else s.aq)++[n+s.nodes.length]):=by simp
    dsimp only;rw[en2];refine q G3 _ (nas++[a]) (M5.wr (p:=ls) (by simp) (R5.free ls (by simp)) _) ?_ hN';rw[hE,ai hc];exact R5.N4
   ·have hc:¬(h2.kind=10/\ps2.length=0):=by
     intro z;have h1:ps2=[]:=jv.mp z.2;subst h1;simp[z.1] at e2
    refine q G3 _ (nas++[a]) M5 ?_ hN';rw[hE,ag hc];exact R5
  ·have h0:rest.length=0:=by(try simp at e);rw[<- hbl,e];rfl
   have hr0:rest=[]:=jv.mp h0;subst hr0;refine q G3 H4 (nas++[a]) M4 ?_ hN';rw[ua hb];exact R4
 ·
  refine xm (aD (ay (aC (eh h3 rfl) (h3 _ _ g_h) T.gU T.fI (iL _ _ _)) aH gI)) (λe=>?_) λe=>?_
  ·have hk:h.kind=10:=by(try simp at e);omega
   have hne:=hsne hk;refine gX (Fo (xs:=bZ s.aq.dropLast) (y:=nv (s.aq.getLast hne)) (aC (aa rfl) (eobj M3.gh) T.bE T.gP (jI _ _ _ _)) ?_ ?_)
   ·rw[R3.aq];have:bZ s.aq.dropLast++[nv (s.aq.getLast hne)]=bZ (s.aq.dropLast++[s.aq.getLast hne]):=by simp
    rw[this,zb]
   ·refine k _ ⟨M3.wr (p:=ls) (by simp) (R3.free ls (by simp)) _, ?_⟩;rw[ai hk];exact R3.N4
  ·have hk:h.kind≠10:=by(try simp at e);omega
   refine k _ ⟨M3, ?_⟩;rw[ag hk];exact R3
def EO{n:Nat}{s:jN}{h:Hd}{ps:List Nat}{rest:List (Hd×List Nat)}(e:s.begun=(h,ps) :: rest)(hd:ps.length=h.jc):cX n s=cX n (lO n s):=by
 rw[jW e hd];unfold hand lO;rw[e]
def oV(A:bU):Sp:=λvs H Q _=> ∃(G:Hp)(r:Addr)(n:Nat)(s:jN)(ln lb ls:Addr)(nas:List Addr)(bs:List (Addr×Addr)),vs=[.ref r]/\aG G H/\pP A G H r n s ln lb ls nas bs/\oC n s/\F8 n s/\n<=1000/\
 s.nodes.length+s.begun.length<=1000/\
 ∀(G' H':Hp)(nas':List Addr)(bs':List (Addr×Addr)),fY (eU ln lb ls bs++nas) G H G' H'->pP A G' H' r n (cX n s) ln lb ls nas' bs'->oC n (cX n s)->F8 n (cX n s)->(cX n s).nodes.length+(cX n s).begun.length<=s.nodes.length+s.begun.length->
  (∀m∈bs'.map (·.2),m∈bs.map (·.2))->(∀m∈nas',m∈eU ln lb ls bs++nas\/H m=none)->Q .ez H'
def p7:fQ P0 w0 b0 T 4 6 ["reading"] (oV A):=by
 refine b8 (top 22) ["reading"] (T.p 6).1 λS H vs Q E hr h=>?_
 obtain⟨G,r,n,s,ln,lb,ls,nas,bs,rfl,sG,R,I,PL,hn,hz,q⟩:=h;obtain⟨dr,hobj⟩:=R.obj;refine⟨_,(aj (oX PassesOwn.never (PW.pt (Ea (aO kj (cn T.cf (aF (pv 0))) aA) (AW (aO bq (cn T.cf (aF (aZ (aF (pv 0)) (qy lF aA)))) (aF (aF (aZ (aF (pv 0)) (qy lF aA)))))))) (aj (cu (aV (T.p 5) (si T) hr (ab (pv 0) ax)))))), ?_⟩;refine HZ (λm σ H1=>σ=[some (.ref r)]/\∃(G1:Hp)(s1:jN)(nas1:List Addr)(bs1:List (Addr×Addr)),m=s1.begun.length/\fY (eU ln lb ls bs++nas) G H G1 H1/\pP A G1 H1 r n s1 ln lb ls nas1 bs1/\oC n s1/\F8 n s1/\(∀m∈nas1,m∈eU ln lb ls bs++nas\/H m=none)/\
   s1.nodes.length+s1.begun.length<=s.nodes.length+s.begun.length/\cX n s1=cX n s/\∀m∈bs1.map (·.2),m∈bs.map (·.2)) s.begun.length ⟨rfl,G,s,nas,bs,rfl,fY.refl sG,R,I,PL,λm hm=>.inl (nO _ hm),bx _,rfl,λ_ h=>h⟩ ?_
 intro m σ H1 z0;obtain⟨rfl,G1,s1,nas1,bs1,rfl,M1,R1,I1,PL1,hns,hz1,he,hbs⟩:=z0;have eobj:∀{H':Hp},aG G1 H'->H' r=some (.ins A.iJ dr (gW (nv n) (.ref ln) (.ref lb) (.ref ls))):=λsg=>sg _ _ (M1.gg _ _ hobj)
 have eb:Ev (da K (bA 0) "begun") [some (.ref r)] H1 (.ref lb):=aC (aa rfl) (eobj M1.gh) T.bE T.dj (eF _ _ _ _);have hbl:bs1.length=s1.begun.length:=R1.gK.length;have lenE:=aD (ay (r:=uG λi j=>V.bl (decide (j<i))) (dG (ae eb au) (ff (K:=K) R1.begun)) aH (bo (j:=0)));cases hb:s1.begun with
 |nil=>
  have hb0:bs1=[]:=by
   rw[hb] at hbl;exact jv.mp hbl
  subst hb0;refine⟨_,Bv (d:=false) lenE (λe=>by simp at e),λe=>by simp at e,λ_=>?_⟩;have h1:cX n s1=s1:=ym hb;rw[h1] at he;rw[<- he] at q;exact q G1 H1 nas1 [] M1 R1 I1 PL1 hz1 hbs hns
 |cons x rest=>
  obtain⟨h,ps⟩:=x;obtain⟨b0,bs2,rfl⟩ :∃x r,bs1=x :: r:=by
   cases bs1 with
   |nil=>rw[hb] at hbl;simp at hbl
   |cons x r=>exact⟨x,r,rfl⟩
  have ba:=R1.gK;rw[hb] at ba;obtain⟨⟨db,ha,g_b,⟨dh,g_h⟩⟩,h_p⟩ :ju A G1 H1 b0 (h,ps):=by cases ba with |cons q _=>exact q
  have etop:Ev (jR (gY K) (da K (bA 0) "begun") (O0 (rU λi=>.int (-i)) (tC (V.int 1)))) [some (.ref r)] H1 (.ref b0.1):=by
   refine ay eb (pG aH) (bM R1.begun ?_);have:((b0 :: bs2).reverse.map λb=>V.ref b.1)=(bs2.reverse.map λb=>V.ref b.1)++[V.ref b0.1]:=by simp
   rw[this];exact mB _ _
  refine⟨_,Bv (d:=decide ((ps.length:Int)=(h.jc:Int))) lenE (λ_=>aD (ay (dG (ae (aC etop (M1.gh _ _ g_b) T.j7 T.gG (jt _ _)) au) (qf h_p))
   (aC (aC etop (M1.gh _ _ g_b) T.j7 T.jo (nE _ _)) (M1.gh _ _ g_h) T.gU T.p9 (yE _ _ _)) gI)),λe=>?_,λe=>?_⟩
  ·have hd:ps.length=h.jc:=by(try simp at e);omega
   obtain⟨I2,hne⟩:=I1.end_ hb hd;have hsum:=JK n s1 hb;refine gX (aS (ae (aa rfl) au) ?_);refine⟨G1,r,n,s1,h,ps,rest,ln,lb,ls,nas1,b0,bs2,rfl,M1.gh,R1,hb,hd,PL1,hne,by omega,by have:=I1.aq;omega,λx hx=>by have:=I1.parts x hx;omega,λG2 H2 nas2 M2 R2 hn2=>?_⟩;refine⟨(lO n s1).begun.length,by rw[JL n s1 hb];simp,rfl,G2,lO n s1,nas2,bs2,rfl,fY.trans' M1 M2 λx hx=>?_,R2,I2,PL1.end_ hb,λm hm=>?_,by omega, ?_,λm hm=>hbs m (by simp only[cz];exact cZ _ hm)⟩
   ·rcases cv.mp hx with hx |hx
    ·left;refine ux _ ?_;simp only[bp] at hx⊢
     rcases hx with h |h |h |h
     ·exact .inl h
     ·exact .inr (.inl h)
     ·exact .inr (.inr (.inl h))
     ·exact .inr (.inr (.inr (hbs x h)))
    ·exact hns x hx
   ·rcases hn2 m hm with z |z
    ·exact hns m z
    ·by_cases w:m∈eU ln lb ls bs++nas
     ·exact .inl w
     ·right;cases v:H m with
      |none=>rfl
      |some o=>rw[M1.keep m o v w] at z;cases z
   ·rw[<- he,EO hb hd]
  ·have hd:ps.length≠h.jc:=by
    intro z;simp[z] at e
   have h1:cX n s1=s1:=l5 hb hd;rw[h1] at he;rw[<- he] at q;exact q G1 H1 nas1 _ M1 R1 I1 PL1 hz1 hbs hns
def Ep{A:bU}{G H:Hp}{n:Nat}{Q:Addr->Hp->Prop}(sG:aG G H)(hn:n<=1000)
  (k:∀(r ln lb ls:Addr)(G' H':Hp),Ext G H G' H'->pP A G' H' r n ⟨[],[],List.range n⟩ ln lb ls [] []->(∀m∈[ln,lb,ls],H m=none)->Q r H'):
  ∀x dx,H x=none->H dx=none->dx≠x->nS A [.ref x,nv n] (ao (ao H dx (.own x)) x (.ins A.iJ dx [])) (λv H2=>v=.ez/\Q x H2) E0:=by
 intro x dx hx hdx hne;refine⟨x,dx,n,rfl,ah,hn,λln lb ls H' h1 h2 h3 nd e0 e1 e2 e3 kp=>⟨rfl, ?_⟩⟩;have s1:aG H H':=aG.made hx hdx kp;have un:∀m,ao (ao H dx (.own x)) x (.ins A.iJ dx []) m=none->m≠x/\H m=none:=λm hm=>by
  have nx:m≠x:=λe=>by subst e;rw[ah] at hm;cases hm
  rw[aw nx] at hm;by_cases e:m=dx
  ·subst e;exact⟨nx,hdx⟩
  ·rw[aw e] at hm;exact⟨nx,hm⟩
 obtain⟨a1,a2⟩:=un ln h1;obtain⟨b1,b2⟩:=un lb h2;obtain⟨c1,c2⟩:=un ls h3;have gx:G x=none:=sG.free hx;refine k x ln lb ls (ao G x (.ins A.iJ dx (gW (nv n) (.ref ln) (.ref lb) (.ref ls)))) H' ((Ext.grow sG s1).keep hx gx e0) ⟨⟨dx,ah⟩,by simpa using nd,λm hm=>?_,e1,.nil,e2,.nil,e3,by simp,λa ha=>by simp at ha,by simp[p6]⟩ λm hm=>?_
 ·simp only[uu,bp,qv,or_false] at hm
  rcases hm with rfl |rfl |rfl
  ·rw[aw a1];exact sG.free a2
  ·rw[aw b1];exact sG.free b2
  ·rw[aw c1];exact sG.free c2
 ·simp only[bp,qv,or_false] at hm
  rcases hm with rfl |rfl |rfl
  ·exact a2
  ·exact b2
  ·exact c2
def oC.start(n:Nat):oC n ⟨[],[],List.range n⟩:=⟨λx hx=>by simp at hx,by simp,by simp[Wh.lets],λx hx=>by simp at hx⟩
theorem CZ:∀(f:Nat)(b:List Nat)(hs:List Hd),cW f b=some hs->hs.length<=b.length/\(∀h∈hs,h.kind=10->h.jc=2)/\∀h∈hs,h.kind=9->h.jc=3
 |0,b,hs,e=>by cases e;exact⟨by simp,λh hh=>by simp at hh,λh hh=>by simp at hh⟩
 |f+1,b,hs,e=>by
  unfold cW at e;split at e
  ·cases e;exact⟨by simp,λh hh=>by simp at hh,λh hh=>by simp at hh⟩
  ·split at e
   ·cases e
   ·rename_i h r ht;obtain⟨hs',e',rfl⟩:=bO.mp e;have hl:=eK ht;obtain⟨i1,i2,i3⟩:=CZ f r hs' e';obtain⟨_,k2,k3,_⟩:=lG ht;refine⟨by simp;omega,λx hx hk=>?_,λx hx hk=>?_⟩
    ·rcases bp.mp hx with rfl |hx
     ·exact(k2 (.inr hk)).1
     ·exact i2 x hx hk
    ·rcases bp.mp hx with rfl |hx
     ·exact(k3 hk).1
     ·exact i3 x hx hk
def Ext.Nr(a:Ext G H G1 H1)(N:List Addr)(hp:∀p∈N,H p=none)(gp:∀p∈N,G1 p=none):Ext G H (λb=>if b∈N then H1 b else G1 b) H1/\aG G1 (λb=>if b∈N then H1 b else G1 b):=by
 have s1:aG G1 (λb=>if b∈N then H1 b else G1 b):=λb o e=>by
  by_cases z:b∈N
  ·rw[gp b z] at e;cases e
  ·simp only[ag z];exact e
 refine⟨⟨a.gg.trans s1,a.hh,λb o e=>?_,λb hb o e=>?_⟩,s1⟩
 ·by_cases z:b∈N
  ·simp only[ai z] at e;exact e
  ·simp only[ag z] at e;exact a.gh b o e
 ·by_cases z:b∈N
  ·exact hp b z
  ·simp only[ag z] at e;exact a.new b hb o e
def bF.sA(h:bF R l m):(∀a b,a∈l->R a b->S a b)->bF S l m:=by
 induction h with
 |nil=>intro _;exact .nil
 |cons r _ ih=>intro f;exact .cons (f _ _ cF r) (ih λa b ha=>f a b (cZ _ ha))
def AK(A:bU):Sp:=λvs H Q _=> ∃(G:Hp)(l:Addr)(b:List Nat)(n:Nat),vs=[.ref l,nv n]/\aG G H/\H l=some (.lst (bZ b))/\b.length<=300/\n<=10/\
 (readBody b n=none->∀(G' H':Hp),Ext G H G' H'->Q .ez H')/\
 ∀ds,readBody b n=some ds->∀(a:Addr)(G' H':Hp),Ext G H G' H'->lQ A G' a n ds->Q (.ref a) H'
def rX:fQ P0 w0 b0 T 5 7 ["body","arguments"] (AK A):=by
 refine b8 (top 23) ["body","arguments","heads","reading","head"] (T.p 7).1 λS H vs Q E hr h=>?_
 obtain⟨G,l,b,n,rfl,sG,hl,hb,hn,qn,qs⟩:=h;refine⟨_,(af (aT 2 S.nd (aV (T.p 2) (CG T) hr (ab (pv 0) ax)))
   (af (aQ (aO qU (pv 2) fV) (aj (az fV)) aE)
   (af (aT 3 S.nd (fF T.pT (vM T) hr (ab (pv 1) ax)))
   (af (oY PassesOwn.never rfl (g9 (pv 2)) (fv 4 S.nd) (af (aQ (PW.pt (Ea (aO kj (cn T.cf (aF (pv 3))) aA) (AW (aO bq (cn T.cf (aF (pv 3))) aA)))) (aj (az fV)) aE)
   (af (aQ (jh (fU (aV (T.p 3) (qo T) hr (ab (pv 3) (ab (pv 4) ax))))) (aj (az fV)) aE)
   (aj (cu (aV (T.p 6) (p7 T) hr (ab (pv 3) ax)))))))
   (af (aQ (PW.pt (iE (aO bq (cn T.cf (aF (pv 3))) aA) (fT (aO kj (cn T.cf (aF (pv 3))) aA)))) (aj (az fV)) aE)
   (aj (az (aF (pv 3))))))))), ?_⟩
 refine aL (cA (aS (ae (aa rfl) au) ?_));refine⟨G,l,b,rfl,sG,hl,hb,λe G1 H1 x1=>?_,λhs e lh G1 H1 x1 hh=>?_⟩
 ·refine b7 (aD (ay (aa rfl) aH hJ)) (λ_=>?_) (λz=>by simp at z);refine bc aH (qn ?_ G1 H1 x1);unfold readBody;rw[e]
 ·obtain⟨has,hlh,hha⟩:=hh;obtain⟨hsl,hdue,hdue9⟩:=CZ _ _ _ e;refine b7 (aD (ay (aa rfl) aH hJ)) (λz=>by simp at z) λ_=>?_
  refine aL (cA (qR (ae (aa rfl) au) (Ep x1.gh (by omega) λr ln lb ls G2 H2 x2 R2 f2=>?_)));have x12:=x1.trans x2;refine aL (Iw (a:=lh) (xs:=has.map V.ref) (aa rfl) (cG.of (x2.gh _ _ (x2.gg _ _ hlh)))
   (λi σ H'=> ∃(v:Option V)(G':Hp)(s':jN)(nas:List Addr)(bs:List (Addr×Addr)),σ=[some (.ref l),some (nv n),some (.ref lh),some (.ref r),v]/\Ext G H G' H'/\aG G2 G'/\pP A G' H' r n s' ln lb ls nas bs/\oC n s'/\F8 n s'/\
    s'.nodes.length+s'.begun.length<=i/\(∀m∈eU ln lb ls bs,H m=none)/\(∀m∈nas,H m=none)/\m8 n hs ⟨[],[],List.range n⟩ =m8 n (hs.drop i) s')
   ⟨none,G2,⟨[],[],List.range n⟩,[],[],rfl,x12,.refl _,R2,oC.start n,F8.start n _,by simp,λm hm=>x1.bound (f2 m (by simpa using hm)),λm hm=>by simp at hm,by simp⟩
   (λi σ H' _ ⟨_,G',_,_,_,_,x',g',_⟩ =>cG.of (x'.gh _ _ (g' _ _ (x2.gg _ _ hlh)))) ?_ ?_)
  ·intro i y σ H' hi z0;obtain⟨v,G',s',nas,bs,rfl,x',g',R',I',PL',hz,hm,hmn,hread⟩:=z0;obtain⟨ha,hia,rfl⟩ :∃ha,has[i]? =some ha/\y=V.ref ha:=by
    rw[cU] at hi;obtain⟨ha,h1,h2⟩:=bO.mp hi;exact⟨ha,h1,h2.symm⟩
   obtain⟨hd,hid,hat⟩:=hha.get hia;have hil:i<hs.length:=(dm.mp hid).1;have hdrop:hs.drop i=hd :: hs.drop (i+1):=by
    rw[zk hil];congr 1;exact(dm.mp hid).2
   rw[hdrop] at hread;have hmem:hd∈hs:=iN hid;have hhead:lR A G' ha hd:=(hat.mono x2.gg).mono g';obtain⟨dr,hobj⟩:=R'.obj;have hobj':=x'.gh _ _ hobj;have su:nas.length=s'.nodes.length:=R'.su;have blen:bs.length=s'.begun.length:=R'.gK.length;show oR _ _ _ _ _;refine b7 (Bv (aD (ay (dG (ae (aC (aa rfl) hobj' T.bE T.dg (eE _ _ _ _)) au) (ff (K:=K) R'.nodes)) aH bo))
    λ_=>aD (ay (dG (ae (aC (aa rfl) hobj' T.bE T.dj (eF _ _ _ _)) au) (ff (K:=K) R'.begun)) aH gI)) (λe1=>?_) λe1=>?_
   ·have hdone:s'.done:=by
     simp at e1;refine⟨λz=>?_, ?_⟩
     ·rw[z] at su;simp at su;rw[su] at e1;simp at e1
     ·rw[e1.2] at blen;simp at blen;exact jv.mp blen.symm
    refine bc aH (qn ?_ G' H' x');unfold readBody;rw[e];simp only;rw[hread];simp[m8,hdone]
   ·have hnd:¬s'.done:=by
     rintro⟨d1,d2⟩;simp at e1;have b0:bs=[]:=by rw[d2] at blen;exact jv.mp blen
     refine e1 ?_ b0;cases hq:nas with
     |nil=>rw[hq] at su;exact aI (jv.mp su.symm) d1
     |cons _ _=>simp
    refine nV (rN (GI (aS (ae (aa rfl) (ae (aa rfl) au)) ?_)));refine⟨G',r,ha,n,s',hd,ln,lb,ls,nas,bs,rfl,x'.gh,R',hhead,by omega,λeb=>⟨false,rfl, ?_⟩,λs2 eb G3 H3 bs3 M3 R3 f3=>⟨true,rfl, ?_⟩⟩
    ·rw[ai (by rfl)];refine bc aH (qn ?_ G' H' x');unfold readBody;rw[e];simp only;rw[hread];simp[m8,hnd,eb]
    ·rw[ag (by decide)];have x3:Ext G H G3 H3:=x'.En M3 hm;have I3:=I'.begin (hdue hd hmem) eb;have P3:=PL'.begin (hdue9 hd hmem) eb;have sum3:s2.nodes.length+s2.begun.length<=i+1:=by
      unfold fB at eb;split at eb
      ·obtain⟨p,_,e⟩:=bO.mp eb;subst e;simp;omega
      ·cases eb;simp;omega
     have m3:∀m∈eU ln lb ls bs3,H m=none:=by
      intro m hmm;simp only[bp] at hmm
      rcases hmm with rfl |rfl |rfl |hmm
      ·exact hm _ (by simp)
      ·exact hm _ (by simp)
      ·exact hm _ (by simp)
      ·rcases f3 m hmm with z |z
       ·exact hm m (by simp only[bp];exact .inr (.inr (.inr z)))
       ·exact x'.bound z
     refine gX (aS (ae (aa rfl) au) ?_);have m3n:∀m∈eU ln lb ls bs3++nas,H m=none:=λm hmm=>by
      rcases cv.mp hmm with z |z
      ·exact m3 m z
      ·exact hmn m z
     refine⟨G3,r,n,s2,ln,lb,ls,nas,bs3,rfl,x3.gh,R3,I3,P3,by omega,by omega,λG4 H4 nas4 bs4 M4 R4 I4 P4 hz4 f4 f4n=>?_⟩;have x4:Ext G H G4 H4:=x3.En M4 m3n;refine⟨_,G4,cX n s2,nas4,bs4,rfl,x4,(g'.trans M3.gg).trans M4.gg,R4,I4,P4,by omega,λm hmm=>?_,λm hmm=>?_, ?_⟩
     ·simp only[bp] at hmm
      rcases hmm with rfl |rfl |rfl |hmm
      ·exact m3 _ (by simp)
      ·exact m3 _ (by simp)
      ·exact m3 _ (by simp)
      ·exact m3 m (by simp only[bp];exact .inr (.inr (.inr (f4 m hmm))))
     ·rcases f4n m hmm with z |z
      ·exact m3n m z
      ·exact x3.bound z
     ·rw[hread]
      conv=>lhs;unfold m8
      rw[ag hnd,eb]
  ·intro σ H' z0;obtain⟨v,G',s',nas,bs,rfl,x',g',R',I',PL',hz,hm,hmn,hread⟩:=z0;have hfull:(hs.drop (has.map V.ref).length)=[]:=by
    rw[bD,hha.length];simp
   rw[hfull] at hread;obtain⟨dr,hobj⟩:=R'.obj;have hobj':=x'.gh _ _ hobj;have su:nas.length=s'.nodes.length:=R'.su;have blen:bs.length=s'.begun.length:=R'.gK.length;have hrb:readBody b n=if s'.nodes=[]\/s'.begun≠[] then none else some s'.nodes:=by
    unfold readBody;rw[e];simp only;rw[hread];rfl
   show oR _ _ _ _ _;refine b7 (jg (aD (ay (dG (ae (aC (aa rfl) hobj' T.bE T.dg (eE _ _ _ _)) au) (ff (K:=K) R'.nodes)) aH gI))
    λ_=>aD (ay (dG (ae (aC (aa rfl) hobj' T.bE T.dj (eF _ _ _ _)) au) (ff (K:=K) R'.begun)) aH bo)) (λe1=>?_) λe1=>?_
   ·refine bc aH (qn ?_ G' H' x');rw[hrb,ai];simp at e1
    rcases e1 with z |z
    ·left;rw[z] at su;exact jv.mp su.symm
    ·right;intro w;rw[w] at blen;simp at blen;rw[blen] at z;simp at z
   ·simp at e1;have hno:¬(s'.nodes=[]\/s'.begun≠[]):=by
     rintro(z |z)
     ·rw[z] at su;exact e1.1 (jv.mp su)
     ·rw[e1.2] at blen;exact z (jv.mp blen.symm)
    rw[ag hno] at hrb;refine bc (aC (aa rfl) hobj' T.bE T.dg (eE _ _ _ _)) ?_;have gl:∀p∈ln :: nas,G' p=none:=λp hp=>by
     rcases bp.mp hp with z |z
     ·rw[z];exact R'.free ln (by simp)
     ·exact R'.qE p z
    obtain⟨xk,sk⟩:=Ext.Nr x' (ln :: nas) (λp hp=>by
     rcases bp.mp hp with z |z
     ·rw[z];exact hm ln (by simp)
     ·exact hmn p z) gl
    refine qs s'.nodes hrb ln _ H' xk ⟨nas,by simp only[bp,true_or,if_true];exact R'.nodes, ?_⟩;refine bF.sA R'.iG λa x ha q=>?_
    obtain⟨dx,lp,e1,e2⟩:=q;exact⟨dx,lp,by simp only[ai (cZ ln ha)];exact e1,sk _ _ e2⟩
end Wh
namespace Wh
open PySem PySem.Spec PyProof.Rows L2
open Kp212 (Known Bound Word Programs ROUND goodBound knownBoth wordOf)
variable {P0:Program} {w0:World} {K:bg} {mg:Str->Option Value} {b0:Heap} {A:bU} (T:Txt K mg A)
def BQ(G:Hp)(a:Addr)(b:Bound):Prop:=G a=some (.tup [nv b.lo,nv b.hi])
def ij(G:Hp)(l:Addr)(bs:List Bound):Prop:= ∃as:List Addr,G l=some (.lst (as.map V.ref))/\bF (BQ G) as bs
theorem ij.mono(s:aG G G')(x:ij G l bs):ij G' l bs:=by
 obtain⟨as,e,f⟩:=x;exact⟨as,s _ _ e,f.mono λ_ _ q=>s _ _ q⟩
def Ci:Sp:=λvs H Q _=> ∃b:Bound,vs=[nv b.lo,nv b.hi]/\Q (.bl (goodBound b)) H
def uN:fQ P0 w0 b0 T 1 8 ["least","most"] (Ci):=by
 refine b8 (top 44) ["least","most"] (T.p 8).1 λS H vs Q E hr h=>?_
 obtain⟨b,rfl,q⟩:=h;refine⟨_,(aj (az (B4 (nW rV (pv 0) (pv 1)) (B1 (nW qz (pv 1) (aP T.D2)))))), ?_⟩;refine bc (Bt (ay (aa rfl) (aa rfl) bo) λ_=>ay (aa rfl) aH bo) ?_;have hR:ROUND=4294967296:=rfl;have e:goodBound b=(decide ((b.lo:Int)<=(b.hi:Int))&&decide ((b.hi:Int)<4294967296)):=by
  unfold goodBound;rw[hR,decide_eq_decide.mpr (show b.lo<=b.hi↔(b.lo:Int)<=(b.hi:Int) by omega),decide_eq_decide.mpr (show b.hi<4294967296↔(b.hi:Int)<4294967296 by omega)]
 rw[e] at q;exact q
def jG(bs:List Bound)(b:List Nat):Bool:=decide (bs.length<=4)&&decide (b.length<=200)&&bs.all goodBound
def vA:Sp:=λvs H Q _=> ∃(lb l:Addr)(bs:List Bound)(b:List Nat),vs=[.ref lb,.ref l]/\ij H lb bs/\H l=some (.lst (bZ b))/\bs.length<=1000/\∀H',aG H H'->Q (.bl (jG bs b)) H'
def nY:fQ P0 w0 b0 T 2 9 ["bounds","body"] (vA):=by
 refine b8 (top 45) ["bounds","body","bound"] (T.p 9).1 λS H vs Q E hr h=>?_
 obtain⟨lb,l,bs,b,rfl,⟨as,hlb,ha⟩,hl,hz,q⟩:=h;have hal:=ha.length;refine⟨_,(af (aQ (PW.pt (iE (aO kj (cn T.cf (pv 0)) (aP T.yX)) (fT (aO kj (cn T.cf (pv 1)) (aP T.D3))))) (aj (az uJ)) aE)
   (aj (az (cC (EU rfl) (by rfl) T.J8 K1 (ab (p5 rfl S.nd (g9 (pv 0)) (rQ S [("bound",2)]) (λ_ _ _ _ _=>(fv 2 S.nd)) (λ_ _ _ _ _=>ip) (λ_ _ _ _ _=>(aV (T.p 8) (uN T) hr (ab (kS (r:=qS K) r6 (pv 2) aA (λ_ _=>rfl)) (ab (kS (r:=qS K) r6 (pv 2) aA (λ_ _=>rfl)) ax))))) ax))))), ?_⟩
 refine b7 (jg (aD (ay (dG (ae (aa rfl) au) (ff (K:=K) hlb)) aH bo)) λ_=>aD (ay (dG (ae (aa rfl) au) (qf hl)) aH bo)) (λe=>?_) λe=>?_
 ·refine bc aH ?_;have:jG bs b=false:=by
   simp at e;unfold jG
   rcases e with z |z
   ·rw[decide_eq_false (by omega:¬bs.length<=4)];rfl
   ·rw[decide_eq_false (by omega:¬b.length<=200)];simp
  have q:=q H (.refl _);rw[this] at q;exact q
 ·simp at e;have hm:jG bs b=(bs.map goodBound).all id:=by
   unfold jG;rw[decide_eq_true (by omega:bs.length<=4),decide_eq_true (by omega:b.length<=200)];simp[List.all_map]
  refine aR (aY ?_);refine xp (ys:=(bs.map goodBound).map V.bl) (aa rfl) (cG.of hlb) (by simp[hal]) (by simp;omega) (by show 2<3;decide) (λi x y H' hx hy sH=>?_) λD hD=>?_
  ·rw[cU] at hx;obtain⟨a,hxa,rfl⟩:=bO.mp hx;obtain⟨bd,hbd,hab⟩:=ha.get hxa;rw[cU,cU,hbd] at hy;cases hy;have hab':H' a=some (.tup [nv bd.lo,nv bd.hi]):=sH _ _ hab;exact du (ae (ay (aa rfl) aH (hG hab' rfl)) (ae (ay (aa rfl) aH (hG hab' rfl)) au)) λQ q=>⟨bd,rfl,q⟩
  ·refine cV ⟨D,bs.map goodBound,rfl,cG.of ah, ?_⟩;rw[<- hm];exact q _ (aG.upd hD _)
def Lz:List V->List (Str×V)
 | [a,b,c,d]=>uj a b c d
 |_=>[]
def FT:List V->List (Str×V)
 | [a,b]=>pQ a b
 |_=>[]
def eL:HL P0 w0 b0 T 1 4 ["self","least","most","deps","steps"] (xi A.BG 4 Lz):=by
 refine b8 (inClass (top 47) 0) ["self","least","most","deps","steps"] T.eS.F λS H vs Q E hr h=>?_
 ·obtain⟨p,dx,args,rfl,hn,hp,q⟩:=h
  match args,hn with
  | [a,b,c,d],_=>
  refine⟨_,(af (bR (pv 0) (pv 1))
   (af (bR (pv 0) (pv 2))
   (af (bR (pv 0) (pv 3))
   (aj (bR (pv 0) (pv 4)))))), ?_⟩
  refine aL (cS (aa rfl) (aa rfl) hp T.j6 T.lL (by show 0<1000;decide) ?_);refine aL (cS (aa rfl) (aa rfl) ah T.j6 T.mU (by show 1<1000;decide) ?_);refine aL (cS (aa rfl) (aa rfl) ah T.j6 T.mV (by show 2<1000;decide) ?_);refine cS (aa rfl) (aa rfl) ah T.j6 T.qC (by show 3<1000;decide) ?_;rw[bS,bS,bS];exact q
def Bc:HL P0 w0 b0 T 1 5 ["self","bounds","promise"] (xi A.nh 2 FT):=by
 refine b8 (inClass (top 48) 0) ["self","bounds","promise"] T.vk.F λS H vs Q E hr h=>?_
 ·obtain⟨p,dx,args,rfl,hn,hp,q⟩:=h
  match args,hn with
  | [a,b],_=>
  refine⟨_,(af (bR (pv 0) (pv 1))
   (aj (bR (pv 0) (pv 2)))), ?_⟩
  refine aL (cS (aa rfl) (aa rfl) hp T.fJ T.cI (by show 0<1000;decide) ?_);refine cS (aa rfl) (aa rfl) ah T.fJ T.eC (by show 1<1000;decide) ?_;rw[bS];exact q
def cM(A:bU)(G:Hp)(a:Addr)(k:Known):Prop:= ∃dx,G a=some (.ins A.BG dx (uj (nv k.lo) (nv k.hi) (nv k.deps) (nv k.cost)))
def cM.mono(s:aG G G')(x:cM A G a k):cM A G' a k:=by
 obtain⟨dx,e⟩:=x;exact⟨dx,s _ _ e⟩
section
variable {K:bg} {mg:Str->Option Value} {A:bU} {ta:TE} {σ:b6} {H:Hp} {p:Addr} {k:Known}
def bL(T:Txt K mg A)(f:cM A H p k)(h:Ev ta σ H (.ref p)):Ev (da K ta "least") σ H (nv k.lo):=by
 obtain⟨dx,e⟩:=f;exact aC h e T.j6 T.lL (tj _ _ _ _)
def cp(T:Txt K mg A)(f:cM A H p k)(h:Ev ta σ H (.ref p)):Ev (da K ta "most") σ H (nv k.hi):=by
 obtain⟨dx,e⟩:=f;exact aC h e T.j6 T.mU (vo _ _ _ _)
def f9(T:Txt K mg A)(f:cM A H p k)(h:Ev ta σ H (.ref p)):Ev (da K ta "deps") σ H (nv k.deps):=by
 obtain⟨dx,e⟩:=f;exact aC h e T.j6 T.mV (vp _ _ _ _)
def ei(T:Txt K mg A)(f:cM A H p k)(h:Ev ta σ H (.ref p)):Ev (da K ta "steps") σ H (nv k.cost):=by
 obtain⟨dx,e⟩:=f;exact aC h e T.j6 T.qC (BO _ _ _ _)
end
structure z8(k:Known):Prop where
 le:k.lo<=k.hi
 lt:k.hi<ROUND
def mO(s:aG G H)(h:tD tl σ H [x,y])(k:∀(t:Addr)(G' H':Hp),Ext G H G' H'->G' t=some (.tup [x,y])->Q (.ref t) H'):Kd tl σ H Q:=
 zO h (by show 2<=sizeLine;decide) λq hq=>k q _ _ (Ext.lay s hq _) ah
def mN(a b:Known):Option (Nat×Nat):=if b.lo=0 then none else some (a.lo / b.hi,a.hi / b.lo)
def m6(a b:Known):Nat×Nat:=if a.hi<b.lo then (1,1) else if b.hi<=a.lo then (0,0) else (0,1)
def gB(a b:Known):Option (Nat×Nat):=some (m6 a b)
noncomputable def fS (kind:Nat) (a b:Known):Option (Nat×Nat):=
 if kind=2 then some (a.lo+b.lo,a.hi+b.hi) else if kind=3 then some (a.lo - b.hi,a.hi - b.lo) else if kind=4 then some (a.lo * b.lo,a.hi * b.hi)
 else if kind=5 then mN a b else if kind=6 then some (min a.lo b.lo,min a.hi b.hi) else if kind=7 then some (max a.lo b.lo,max a.hi b.hi) else gB a b
def LD(G H:Hp)(Q:VK)(o:Option (Nat×Nat)):Prop:=(o=none->Q .ez H)/\∀l h,o=some (l,h)->∀(t:Addr)(G' H':Hp),Ext G H G' H'->G' t=some (.tup [nv l,nv h])->Q (.ref t) H'
def Cb(A:bU)(f:Known->Known->Option (Nat×Nat)):Sp:=λvs H Q _=> ∃(G:Hp)(pa pb:Addr)(a b:Known),vs=[.ref pa,.ref pb]/\aG G H/\cM A G pa a/\cM A G pb b/\z8 a/\z8 b/\LD G H Q (f a b)
def qm:fQ P0 w0 b0 T 1 10 ["a","b"] (Cb A mN):=by
 refine b8 (top 49) ["a","b"] (T.p 10).1 λS H vs Q E hr h=>?_
 obtain⟨G,pa,pb,a,b,rfl,sG,fa,fb,oa,ob,qn,qs⟩:=h;have fa':=fa.mono sG;have fb':=fb.mono sG;refine⟨_,(af (aQ (aO bq (aF (pv 1)) aA) (aj (az fV)) aE)
   (aj (az (gZ (ab (bH xx (aF (pv 0)) (aF (pv 1))) (ab (bH xx (aF (pv 0)) (aF (pv 1))) ax)))))), ?_⟩
 refine b7 (aD (ay (bL T fb' (aa rfl)) aH gI)) (λe=>?_) λe=>?_
 ·refine bc aH (qn ?_);simp at e;unfold mN;rw[ai e]
 ·simp at e;have h1:=ob.le;have h2:=ob.lt;unfold ROUND at h2;refine aR (mO sG (ae (ay (bL T fa' (aa rfl)) (cp T fb' (aa rfl)) (Bx (by omega) (by omega))) (ae (ay (cp T fa' (aa rfl)) (bL T fb' (aa rfl)) (Bx (by omega) (by omega))) au)) ?_);exact qs _ _ (by unfold mN;rw[ag e])
def tV:fQ P0 w0 b0 T 1 11 ["a","b"] (Cb A gB):=by
 refine b8 (top 50) ["a","b"] (T.p 11).1 λS H vs Q E hr h=>?_
 obtain⟨G,pa,pb,a,b,rfl,sG,fa,fb,oa,ob,qn,qs⟩:=h;have fa':=fa.mono sG;have fb':=fb.mono sG;refine⟨_,(af (aQ (aO qz (aF (pv 0)) (aF (pv 1))) (aj (az (gZ (ab aA (ab aA ax))))) aE)
   (af (aQ (aO rV (aF (pv 1)) (aF (pv 0))) (aj (az (gZ (ab aA (ab aA ax))))) aE)
   (aj (az (gZ (ab aA (ab aA ax))))))), ?_⟩
 refine b7 (aD (ay (cp T fa' (aa rfl)) (bL T fb' (aa rfl)) bo)) (λe=>?_) λe=>?_
 ·simp at e;exact aR (mO sG (ae aH (ae aH au)) (qs 1 1 (by unfold gB m6;rw[ai e])))
 ·simp at e;refine b7 (aD (ay (cp T fb' (aa rfl)) (bL T fa' (aa rfl)) bo)) (λe2=>?_) λe2=>?_
  ·simp at e2;exact aR (mO sG (ae aH (ae aH au)) (qs 0 0 (by unfold gB m6;rw[ag (by omega),ai e2])))
  ·simp at e2;exact aR (mO sG (ae aH (ae aH au)) (qs 0 1 (by unfold gB m6;rw[ag (by omega),ag (by omega)])))
def FY{a b:Nat}{H:Hp}:Lk (λxs H Q=> ∃i j,xs=[.int i,.int j]/\Q (.int (if j > i then j else i)) H) [.int 0,.int ((a:Int) - (b:Int))] H (nv (a - b)):=by
 have:=ER (i:=0) (j:=(a:Int) - (b:Int)) (H:=H);rw[show max (0:Int) ((a:Int) - (b:Int))=((a - b:Nat):Int) by omega] at this;exact this
def vz(A:bU):Sp:=λvs H Q _=> ∃(G:Hp)(kind:Nat)(pa pb:Addr)(a b:Known),vs=[nv kind,.ref pa,.ref pb]/\aG G H/\cM A G pa a/\cM A G pb b/\z8 a/\z8 b/\LD G H Q (fS kind a b)
def vH:fQ P0 w0 b0 T 2 12 ["kind","a","b"] (vz A):=by
 refine b8 (top 51) ["kind","a","b"] (T.p 12).1 λS H vs Q E hr h=>?_
 obtain⟨G,kind,pa,pb,a,b,rfl,sG,fa,fb,oa,ob,qn,qs⟩:=h;have fa':=fa.mono sG;have fb':=fb.mono sG;have la:=oa.lt;have lb:=ob.lt;have lea:=oa.le;have leb:=ob.le;unfold ROUND at la lb;refine⟨_,(af (aQ (aO bq (pv 0) (aP T.Jx)) (aj (az (gZ (ab (bH dZ (aF (pv 1)) (aF (pv 2))) (ab (bH dZ (aF (pv 1)) (aF (pv 2))) ax))))) aE)
   (af (aQ (aO bq (pv 0) (aP T.FQ)) (aj (az (gZ (ab (cC (iI rfl) (by rfl) T.uS vi (ab aA (ab (bH qT (aF (pv 1)) (aF (pv 2))) ax))) (ab (cC (iI rfl) (by rfl) T.uS vi (ab aA (ab (bH qT (aF (pv 1)) (aF (pv 2))) ax))) ax))))) aE)
   (af (aQ (aO bq (pv 0) (aP T.FP)) (aj (az (gZ (ab (bH Eg (aF (pv 1)) (aF (pv 2))) (ab (bH Eg (aF (pv 1)) (aF (pv 2))) ax))))) aE)
   (af (aQ (aO bq (pv 0) (aP T.A1)) (aj (az (aV (T.p 10) (qm T) hr (ab (pv 1) (ab (pv 2) ax))))) aE)
   (af (aQ (aO bq (pv 0) (aP T.D4)) (aj (az (gZ (ab (cC (qh rfl) (by rfl) T.FD Gd (ab (aF (pv 1)) (ab (aF (pv 2)) ax))) (ab (cC (qh rfl) (by rfl) T.FD Gd (ab (aF (pv 1)) (ab (aF (pv 2)) ax))) ax))))) aE)
   (af (aQ (aO bq (pv 0) (aP T.A2)) (aj (az (gZ (ab (cC (iI rfl) (by rfl) T.uS vi (ab (aF (pv 1)) (ab (aF (pv 2)) ax))) (ab (cC (iI rfl) (by rfl) T.uS vi (ab (aF (pv 1)) (ab (aF (pv 2)) ax))) ax))))) aE)
   (aj (az (aV (T.p 11) (tV T) hr (ab (pv 1) (ab (pv 2) ax))))))))))), ?_⟩
 refine b7 (aD (ay (aa rfl) aH (bX (b:=2)))) (λe=>?_) λe2=>?_
 ·simp only[decide_eq_true_eq] at e;exact aR (mO sG (ae (ay (bL T fa' (aa rfl)) (bL T fb' (aa rfl)) ng) (ae (ay (cp T fa' (aa rfl)) (cp T fb' (aa rfl)) ng) au)) (qs _ _ (by unfold fS;rw[ai e])))
 simp only[decide_eq_false_iff_not] at e2;refine b7 (aD (ay (aa rfl) aH (bX (b:=3)))) (λe=>?_) λe3=>?_
 ·simp only[decide_eq_true_eq] at e;exact aR (mO sG (ae (dG (ae aH (ae (ay (bL T fa' (aa rfl)) (cp T fb' (aa rfl)) bo) au)) FY) (ae (dG (ae aH (ae (ay (cp T fa' (aa rfl)) (bL T fb' (aa rfl)) bo) au)) FY) au))
   (qs _ _ (by unfold fS;rw[ag e2,ai e])))
 simp only[decide_eq_false_iff_not] at e3;refine b7 (aD (ay (aa rfl) aH (bX (b:=4)))) (λe=>?_) λe4=>?_
 ·simp only[decide_eq_true_eq] at e;exact aR (mO sG (ae (ay (bL T fa' (aa rfl)) (bL T fb' (aa rfl)) (EK (by omega))) (ae (ay (cp T fa' (aa rfl)) (cp T fb' (aa rfl)) (EK (by omega))) au))
   (qs _ _ (by unfold fS;rw[ag e2,ag e3,ai e])))
 simp only[decide_eq_false_iff_not] at e4;refine b7 (aD (ay (aa rfl) aH (bX (b:=5)))) (λe=>?_) λe5=>?_
 ·simp only[decide_eq_true_eq] at e;refine aR (aS (ae (aa rfl) (ae (aa rfl) au)) ⟨G,pa,pb,a,b,rfl,sG,fa,fb,oa,ob, ?_⟩);have es:fS kind a b=mN a b:=by unfold fS;rw[ag e2,ag e3,ag e4,ai e]
  rw[es] at qn qs;exact⟨qn,qs⟩
 simp only[decide_eq_false_iff_not] at e5;refine b7 (aD (ay (aa rfl) aH (bX (b:=6)))) (λe=>?_) λe6=>?_
 ·simp only[decide_eq_true_eq] at e;exact aR (mO sG (ae (dG (ae (bL T fa' (aa rfl)) (ae (bL T fb' (aa rfl)) au)) wc) (ae (dG (ae (cp T fa' (aa rfl)) (ae (cp T fb' (aa rfl)) au)) wc) au))
   (qs _ _ (by unfold fS;rw[ag e2,ag e3,ag e4,ag e5,ai e])))
 simp only[decide_eq_false_iff_not] at e6;refine b7 (aD (ay (aa rfl) aH (bX (b:=7)))) (λe=>?_) λe7=>?_
 ·simp only[decide_eq_true_eq] at e;exact aR (mO sG (ae (dG (ae (bL T fa' (aa rfl)) (ae (bL T fb' (aa rfl)) au)) sQ) (ae (dG (ae (cp T fa' (aa rfl)) (ae (cp T fb' (aa rfl)) au)) sQ) au))
   (qs _ _ (by unfold fS;rw[ag e2,ag e3,ag e4,ag e5,ag e6,ai e])))
 simp only[decide_eq_false_iff_not] at e7;refine aR (aS (ae (aa rfl) (ae (aa rfl) au)) ⟨G,pa,pb,a,b,rfl,sG,fa,fb,oa,ob, ?_⟩);have es:fS kind a b=gB a b:=by unfold fS;rw[ag e2,ag e3,ag e4,ag e5,ag e6,ag e7]
 rw[es] at qn qs;exact⟨qn,qs⟩
def t9(A:bU)(G H:Hp)(Q:VK)(o:Option Known):Prop:=(o=none->∀(G' H':Hp),Ext G H G' H'->Q .ez H')/\∀k,o=some k->∀(a:Addr)(G' H':Hp),Ext G H G' H'->cM A G' a k->Q (.ref a) H'
def t9.ext(q:t9 A G H Q o)(x:Ext G H G1 H1):t9 A G1 H1 Q o:=
 ⟨λe G' H' y=>q.1 e G' H' (x.trans y),λk e a G' H' y=>q.2 k e a G' H' (x.trans y)⟩
noncomputable def pairOf (kind:Nat) (x y:Known):Option Known:=match fS kind x y with
 |none=>none
 |some (l,h)=>if ROUND<=h then none else some ⟨l,h,x.deps ||| y.deps,x.cost+y.cost+1⟩
def rS(h2:2<=kind)(h8:kind<=8)(ox:z8 x)(oy:z8 y):pairOf kind x y=knownBoth kind x y:=by
 have la:=ox.lt;have lb:=oy.lt;have lea:=ox.le;have leb:=oy.le;have hop:kind=2\/kind=3\/kind=4\/kind=5\/kind=6\/kind=7\/kind=8:=by omega
 rcases hop with rfl |rfl |rfl |rfl |rfl |rfl |rfl
 ·have e:fS 2 x y=some (x.lo+y.lo,x.hi+y.hi):=rfl;unfold pairOf;rw[e];simp only[knownBoth];by_cases h:x.hi+y.hi<ROUND
  ·rw[ai h,ag (by omega)];rfl
  ·rw[ag h,ai (by omega)]
 ·have e:fS 3 x y=some (x.lo - y.hi,x.hi - y.lo):=rfl;unfold pairOf;rw[e];simp only[knownBoth];rw[ag (by omega)];rfl
 ·have e:fS 4 x y=some (x.lo * y.lo,x.hi * y.hi):=rfl;unfold pairOf;rw[e];simp only[knownBoth];by_cases h:x.hi * y.hi<ROUND
  ·rw[ai h,ag (by omega)];rfl
  ·rw[ag h,ai (by omega)]
 ·have e:fS 5 x y=mN x y:=rfl;unfold pairOf;rw[e];simp only[knownBoth,mN];by_cases h:y.lo=0
  ·rw[ai h,ai h]
  ·rw[ag h,ag h];simp only;have:x.hi / y.lo<=x.hi:=Nat.div_le_self _ _;rw[ag (by omega)];rfl
 ·have e:fS 6 x y=some (min x.lo y.lo,min x.hi y.hi):=rfl;unfold pairOf;rw[e];simp only[knownBoth];rw[ag (by omega)];rfl
 ·have e:fS 7 x y=some (max x.lo y.lo,max x.hi y.hi):=rfl;unfold pairOf;rw[e];simp only[knownBoth];rw[ag (by omega)];rfl
 ·have e:fS 8 x y=gB x y:=rfl;unfold pairOf;rw[e];simp only[knownBoth,gB,m6];have hR:¬ROUND<=1:=by decide
  have hR0:¬ROUND<=0:=by decide
  by_cases h:x.hi<y.lo
  ·rw[ai h,ai h];simp only;rw[ag hR];rfl
  ·rw[ag h,ag h];by_cases h':y.hi<=x.lo
   ·rw[ai h',ai h'];simp only;rw[ag hR0];rfl
   ·rw[ag h',ag h'];simp only;rw[ag hR];rfl
def Bk(h:knownBoth op x y=some z)(ox:z8 x)(oy:z8 y):z8 z:=by
 obtain⟨h2,h8⟩:=iY h;obtain⟨⟨c,_,c1,c2⟩,_⟩:=Gb h (bx _) ox.le (bx _) oy.le;rw[<- rS h2 h8 ox oy] at h;unfold pairOf at h;split at h
 ·cases h
 ·split at h
  ·cases h
  ·cases h;rename_i hlt;exact⟨eY c1 c2,by dsimp only;omega⟩
def ph(s:aG G H)(h:tD tl σ H [nv k.lo,nv k.hi,nv k.deps,nv k.cost])(q:∀(a:Addr)(G' H':Hp),Ext G H G' H'->cM A G' a k->Q (.ref a) H'):
  lZ A.BG (xi A.BG 4 Lz) [] E0 tl σ H Q:=E7 s h rfl λx dx G' H' ex e _=>q x G' H' ex ⟨dx,e⟩
def vB(A:bU):Sp:=λvs H Q _=> ∃(G:Hp)(kind:Nat)(pa pb:Addr)(a b:Known),vs=[nv kind,.ref pa,.ref pb]/\aG G H/\cM A G pa a/\cM A G pb b/\z8 a/\z8 b/\t9 A G H Q (pairOf kind a b)
def vI:fQ P0 w0 b0 T 3 13 ["kind","a","b"] (vB A):=by
 refine b8 (top 52) ["kind","a","b","span"] (T.p 13).1 λS H vs Q E hr h=>?_
 obtain⟨G,kind,pa,pb,a,b,rfl,sG,fa,fb,oa,ob,q⟩:=h;refine⟨_,(af (aT 3 S.nd (aV (T.p 12) (vH T) hr (ab (pv 0) (ab (pv 1) (ab (pv 2) ax)))))
   (af (aQ (PW.pt (iE (aO qU (pv 3) fV) (fT (aO iF (ki (pv 3) aA) (aP T.D2))))) (aj (az fV)) aE)
   (aj (az (fF T.eS (eL T) hr (ab (ki (pv 3) aA) (ab (ki (pv 3) aA) (ab (bH Cy (aF (pv 1)) (aF (pv 2))) (ab (bH dZ (bH dZ (aF (pv 1)) (aF (pv 2))) aA) ax))))))))), ?_⟩
 refine aL (cA (aS (ae (aa rfl) (ae (aa rfl) (ae (aa rfl) au))) ⟨G,kind,pa,pb,a,b,rfl,sG,fa,fb,oa,ob,λe=>?_,λl h e t G1 H1 x1 ht=>?_⟩))
 ·refine b7 (jg (d:=false) (aD (ay (aa rfl) aH hJ)) λz=>by simp at z) (λ_=>?_) λz=>by simp at z
  refine bc aH (q.1 (by unfold pairOf;rw[e]) G H (.refl sG))
 ·have ht':=x1.gh _ _ ht;have fa':=(fa.mono x1.gg).mono x1.gh;have fb':=(fb.mono x1.gg).mono x1.gh;refine b7 (jg (aD (ay (aa rfl) aH hJ)) λ_=>aD (ay (ay (aa rfl) aH (hG ht' rfl)) aH bo)) (λz=>?_) λz=>?_
  ·have hh:ROUND<=h:=by simp at z;unfold ROUND;omega
   refine bc aH (q.1 (by unfold pairOf;rw[e];simp only;rw[ai hh]) G1 H1 x1)
  ·have hh:¬ROUND<=h:=by simp at z;unfold ROUND;omega
   have e2:pairOf kind a b=some ⟨l,h,a.deps ||| b.deps,a.cost+b.cost+1⟩:=by unfold pairOf;rw[e];simp only;rw[ag hh]
   refine aR (ph (k:=⟨l,h,a.deps ||| b.deps,a.cost+b.cost+1⟩) x1.gh (ae (ay (aa rfl) aH (hG ht' rfl)) (ae (ay (aa rfl) aH (hG ht' rfl)) (ae (ay (f9 T fa' (aa rfl)) (f9 T fb' (aa rfl)) D9)
    (ae (ay (ay (ei T fa' (aa rfl)) (ei T fb' (aa rfl)) ng) aH n8) au)))) ?_)
   exact(q.ext x1).2 _ e2
def rH(A:bU):Sp:=λvs H Q _=> ∃(G:Hp)(pc pa pb:Addr)(c a b:Known),vs=[.ref pc,.ref pa,.ref pb]/\aG G H/\cM A G pc c/\cM A G pa a/\cM A G pb b/\
 t9 A G H Q (some ⟨min a.lo b.lo,max a.hi b.hi,Nat.lor c.deps (Nat.lor a.deps b.deps),c.cost+max a.cost b.cost+1⟩)
def sh:fQ P0 w0 b0 T 3 14 ["c","a","b"] (rH A):=by
 refine b8 (top 53) ["c","a","b","deps","steps"] (T.p 14).1 λS H vs Q E hr h=>?_
 obtain⟨G,pc,pa,pb,c,a,b,rfl,sG,fc,fa,fb,q⟩:=h;have fc':=fc.mono sG;have fa':=fa.mono sG;have fb':=fb.mono sG;refine⟨_,(af (aT 3 S.nd (bH Cy (bH Cy (aF (pv 0)) (aF (pv 1))) (aF (pv 2))))
   (af (aT 4 S.nd (bH dZ (bH dZ (aF (pv 0)) (cC (iI rfl) (by rfl) T.uS vi (ab (aF (pv 1)) (ab (aF (pv 2)) ax)))) aA))
   (aj (az (fF T.eS (eL T) hr (ab (cC (qh rfl) (by rfl) T.FD Gd (ab (aF (pv 1)) (ab (aF (pv 2)) ax))) (ab (cC (iI rfl) (by rfl) T.uS vi (ab (aF (pv 1)) (ab (aF (pv 2)) ax))) (ab (pv 3) (ab (pv 4) ax))))))))), ?_⟩
 refine aL (bY (ay (ay (f9 T fc' (aa rfl)) (f9 T fa' (aa rfl)) D9) (f9 T fb' (aa rfl)) D9) ?_);refine aL (bY (ay (ay (ei T fc' (aa rfl)) (dG (ae (ei T fa' (aa rfl)) (ae (ei T fb' (aa rfl)) au)) sQ) ng) aH n8) ?_);have ed:Nat.lor c.deps (Nat.lor a.deps b.deps)=c.deps ||| a.deps ||| b.deps:=(Nat.or_assoc _ _ _).symm;rw[ed] at q;dsimp only;refine aR (ph (k:=⟨min a.lo b.lo,max a.hi b.hi,c.deps ||| a.deps ||| b.deps,c.cost+max a.cost b.cost+1⟩) sG (ae (dG (ae (bL T fa' (aa rfl)) (ae (bL T fb' (aa rfl)) au)) wc)
  (ae (dG (ae (cp T fa' (aa rfl)) (ae (cp T fb' (aa rfl)) au)) sQ) (ae (aa rfl) (ae (aa rfl) au)))) ?_)
 exact q.2 _ rfl
def xh(A:bU):Sp:=λvs H Q _=> ∃(G:Hp)(pe pb:Addr)(e b:Known),vs=[.ref pe,.ref pb]/\aG G H/\cM A G pe e/\cM A G pb b/\t9 A G H Q (some ⟨b.lo,b.hi,b.deps,e.cost+b.cost+1⟩)
def xH:fQ P0 w0 b0 T 3 15 ["e","b"] (xh A):=by
 refine b8 (top 54) ["e","b"] (T.p 15).1 λS H vs Q E hr h=>?_
 obtain⟨G,pe,pb,e,b,rfl,sG,fe,fb,q⟩:=h;have fe':=fe.mono sG;have fb':=fb.mono sG;refine⟨_,(aj (az (fF T.eS (eL T) hr (ab (aF (pv 1)) (ab (aF (pv 1)) (ab (aF (pv 1)) (ab (bH dZ (bH dZ (aF (pv 0)) (aF (pv 1))) aA) ax))))))), ?_⟩;refine aR (ph (k:=⟨b.lo,b.hi,b.deps,e.cost+b.cost+1⟩) sG (ae (bL (k:=b) T fb' (aa rfl)) (ae (cp (k:=b) T fb' (aa rfl)) (ae (f9 (k:=b) T fb' (aa rfl)) (ae (ay (ay (ei T fe' (aa rfl)) (ei T fb' (aa rfl)) ng) aH n8) au)))) ?_);exact q.2 _ rfl
end Wh
namespace Wh
open PySem PySem.Spec PyProof.Rows L2
open Kp212 (Known Bound Word Programs ROUND goodBound knownBoth wordOf within depsOf costs)
variable {P0:Program} {w0:World} {K:bg} {mg:Str->Option Value} {b0:Heap} {A:bU} (T:Txt K mg A)
def kE(A:bU)(G:Hp)(a:Addr)(w:Word):Prop:= ∃dx lb fa,G a=some (.ins A.nh dx (pQ (.ref lb) (.ref fa)))/\ij G lb w.params/\cM A G fa ⟨w.out.lo,w.out.hi,w.deps,w.cost⟩
theorem kE.mono(s:aG G G')(x:kE A G a w):kE A G' a w:=by
 obtain⟨dx,lb,fa,e,f,g⟩:=x;exact⟨dx,lb,fa,s _ _ e,f.mono s,g.mono s⟩
noncomputable def callOf (o:Option Word) (ks:List Known):Option Known:=o.bind λw=>if ks.length≠w.params.length then none else
 if ((ks.zip w.params).all λz=>within ⟨z.1.lo,z.1.hi⟩ z.2)=false then none else some ⟨w.out.lo,w.out.hi,depsOf w.deps 0 ks,costs ks+w.cost+1⟩
def EZ(ps:Programs)(g:Nat)(ks:List Known):callOf (wordOf ps g) ks=ll ps g ks:=rfl
theorem vd(d:Nat)(x:Known):∀(l:List Known)(k:Nat),depsOf d k (l++[x])=depsOf d k l ||| (if Nat.testBit d (k+l.length) then x.deps else 0)
 | [],k=>by simp[depsOf]
 |y :: l,k=>by
  show Nat.lor _ (depsOf d (k+1) (l++[x]))=_;rw[vd d x l (k+1)];show(_ ||| (depsOf d (k+1) l ||| _))=((_ ||| depsOf d (k+1) l) ||| _);rw[Nat.or_assoc,show k+1+l.length=k+(y :: l).length by simp;omega]
def EV(l:List Known)(x:Known):costs (l++[x])=costs l+x.cost:=by
 unfold costs;rw[zh];rfl
def Dm(d k:Nat):decide ((d >>> k) &&& 1=1)=Nat.testBit d k:=by
 unfold Nat.testBit;rw[wM 1];have h:=Nat.and_one_is_mod (d >>> k);rw[h];have:(d >>> k) % 2=0\/(d >>> k) % 2=1:=by omega
 rcases this with z |z<;>rw[z]<;>rfl
def o8{ks:List Known}{ps:List Bound}(hl:ks.length=ps.length):((ks.zip ps).all λz=>within ⟨z.1.lo,z.1.hi⟩ z.2)=true↔∀(i:Nat)(k:Known)(b:Bound),ks[i]? =some k->ps[i]? =some b->b.lo<=k.lo/\k.hi<=b.hi:=by
 constructor
 ·exact wR
 ·intro h;rw[je];intro z hz;obtain⟨i,hi⟩:=lS hz;rw[wz] at hi;obtain⟨a,b⟩:=h i z.1 z.2 hi.1 hi.2;simp[within,a,b]
def vD(A:bU):Sp:=λvs H Q _=> ∃(G:Hp)(o:Option Word)(wv:V)(lp:Addr)(pas:List Addr)(ks:List Known),vs=[wv,.ref lp]/\aG G H/\((o=none/\wv=.ez)\/∃wa w,o=some w/\wv=.ref wa/\kE A G wa w)/\
 H lp=some (.lst (pas.map V.ref))/\bF (cM A G) pas ks/\t9 A G H Q (callOf o ks)
def vK:fQ P0 w0 b0 T 3 16 ["word","parts"] (vD A):=by
 refine b8 (top 55) ["word","parts","deps","steps","k","part"] (T.p 16).1 λS H vs Q E hr h=>?_
 obtain⟨G,o,wv,lp,pas,ks,rfl,sG,ho,hlp,hks,q⟩:=h;have hkl:=hks.length;refine⟨_,(af (aQ (PW.pt (iE (aO qU (pv 0) fV) (fT (aO me (cn T.cf (pv 1)) (cn T.cf (aF (pv 0))))))) (aj (az fV)) aE)
   (af (aT 2 S.nd aA)
   (af (aT 3 S.nd (bH dZ (aF (aF (pv 0))) aA))
   (af (oY PassesOwn.never rfl (AZ rfl T.pd (ab (pv 1) ax)) (xt rfl (i9 (fv 4 S.nd) (i9 (fv 5 S.nd) rR))) (af (aQ (PW.pt (iE (aO qz (aF (pv 5)) (ki (aZ (aF (pv 0)) (pv 4)) aA)) (fT (aO kj (aF (pv 5)) (ki (aZ (aF (pv 0)) (pv 4)) aA))))) (aj (az fV)) aE)
   (af (aQ (aO bq (bH xA (bH B5 (aF (aF (pv 0))) (pv 4)) aA) aA) (aj (aT 2 S.nd (bH Cy (pv 2) (aF (pv 5))))) aE)
   (aj (Ec (i:=3) S.nd rfl (by first |exact Or.inl rfl |exact Or.inr rfl) (aF (pv 5)) Ew)))))
   (aj (az (fF T.eS (eL T) hr (ab (aF (aF (pv 0))) (ab (aF (aF (pv 0))) (ab (pv 2) (ab (pv 3) ax))))))))))), ?_⟩
 rcases ho with⟨rfl,rfl⟩ | ⟨wa,w,rfl,rfl,⟨dw,lb,fa,g_w,⟨bas,g_lb,g_bs⟩,g_f⟩⟩
 ·refine b7 (jg (d:=false) (aD (ay (aa rfl) aH hJ)) λz=>by simp at z) (λ_=>?_) λz=>by simp at z
  exact bc aH (q.1 rfl G H (.refl sG))
 have hbl:=g_bs.length;have ew:∀{H':Hp}{σ:b6},aG H H'->σ[0]? =some (some (.ref wa))->Ev (da K (bA 0) "bounds") σ H' (.ref lb):=λs s0=>aC (aa s0) (s _ _ (sG _ _ g_w)) T.fJ T.cI (dQ _ _)
 have ef:∀{H':Hp}{σ:b6},aG H H'->σ[0]? =some (some (.ref wa))->Ev (da K (bA 0) "promise") σ H' (.ref fa):=λs s0=>aC (aa s0) (s _ _ (sG _ _ g_w)) T.fJ T.eC (gL _ _)
 refine b7 (jg (aD (ay (aa rfl) aH hJ)) λ_=>aD (ay (dG (ae (aa rfl) au) (ff (K:=K) hlp)) (dG (ae (ew (.refl _) rfl) au) (ff (K:=K) (sG _ _ g_lb))) iA)) (λe=>?_) λe=>?_
 ·refine bc aH (q.1 ?_ G H (.refl sG));simp at e;simp only[callOf,dz];rw[ai (by omega)]
 simp at e;have hl:ks.length=w.params.length:=by omega
 refine aL (bY aH ?_);refine aL (bY (ay (ei T (g_f.mono sG) (ef (.refl _) rfl)) aH n8) ?_);refine aL (Iv (a:=lp) (xs:=pas.map V.ref) (ae (aa rfl) au) (cG.of hlp)
  (λi σ H'=> ∃v4 v5,σ=[some (.ref wa),some (.ref lp),some (nv (depsOf w.deps 0 (ks.take i))),some (nv (w.cost+1+costs (ks.take i))),v4,v5]/\aG H H'/\
   ∀(j:Nat)(k:Known)(b:Bound),j<i->ks[j]? =some k->w.params[j]? =some b->b.lo<=k.lo/\k.hi<=b.hi)
  ⟨none,none,rfl,.refl _,λj k b hj=>by omega⟩ (λi σ H' _ ⟨_,_,_,s,_⟩ =>cG.of (s _ _ hlp)) ?_ ?_)
 ·rintro i x σ H' Tp hx ⟨v4,v5,rfl,sH,hw⟩ hT;rw[cU] at hx;obtain⟨pa,hpa,rfl⟩:=bO.mp hx;obtain⟨k,hk,fk⟩:=hks.get hpa;have hil:i<w.params.length:=by rw[<- hl];exact(dm.mp hk).1
  obtain⟨ba,hba,fb⟩:=g_bs.get' (c6 hil);have sH2:aG H (ao H' Tp (.tup [nv i,.ref pa])):=sH.trans (aG.upd hT _);have sG2:=sG.trans sH2;have fk':=fk.mono sG2;have eb:∀{σ:b6},σ[0]? =some (some (.ref wa))->σ[4]? =some (some (nv i))->Ev (jR (gY K) (da K (bA 0) "bounds") (bA 4)) σ (ao H' Tp (.tup [nv i,.ref pa])) (.ref ba):=λs0 s4=>
   ay (ew sH2 s0) (aa s4) (bM (sG2 _ _ g_lb) (bG (by rw[cU,hba];rfl)))
  have fb':ao H' Tp (.tup [nv i,.ref pa]) ba=some (.tup [nv w.params[i].lo,nv w.params[i].hi]):=sG2 _ _ fb;refine b7 (jg (aD (ay (bL T fk' (aa rfl)) (ay (eb rfl rfl) aH (hG fb' rfl)) bo)) λ_=>aD (ay (cp T fk' (aa rfl)) (ay (eb rfl rfl) aH (hG fb' rfl)) bo)) (λe1=>?_) λe1=>?_
  ·refine bc aH (q.1 ?_ G _ (Ext.grow sG sH2));simp only[callOf,dz];rw[ag (by omega),ai];cases hall:((ks.zip w.params).all λz=>within ⟨z.1.lo,z.1.hi⟩ z.2) with
   |false=>rfl
   |true=>
    have:=(o8 hl).mp hall i k _ hk (c6 hil);simp at e1;omega
  ·simp at e1;have hw':∀(j:Nat)(k:Known)(b:Bound),j<i+1->ks[j]? =some k->w.params[j]? =some b->b.lo<=k.lo/\k.hi<=b.hi:=by
    intro j k' b hj h1 h2;by_cases hji:j=i
    ·subst hji;rw[hk] at h1;cases h1;rw[c6 hil] at h2;cases h2;omega
    ·exact hw j k' b (by omega) h1 h2
   have ed:depsOf w.deps 0 (ks.take (i+1))=depsOf w.deps 0 (ks.take i) ||| (if Nat.testBit w.deps i then k.deps else 0):=by
    rw[take_snoc hk,vd,Nat.zero_add,nL,Nat.min_eq_left (by have:=(dm.mp hk).1;omega)]
   have ec:w.cost+1+costs (ks.take (i+1))=w.cost+1+costs (ks.take i)+k.cost:=by rw[take_snoc hk,EV];omega
   refine Km (λσ' H3=>H3=ao H' Tp (.tup [nv i,.ref pa])/\σ'=[some (.ref wa),some (.ref lp),some (nv (depsOf w.deps 0 (ks.take (i+1)))),some (nv (w.cost+1+costs (ks.take i))),some (nv i),some (.ref pa)]) ?_ λkk=>?_
   ·rintro σ' H3 ⟨rfl,rfl⟩;refine Iy rfl (ei T fk' (aa rfl)) ?_;refine⟨some (nv i),some (.ref pa), ?_,sH2,hw'⟩;rw[ec];show[some (V.ref wa),some (V.ref lp),some (nv _),some (V.int _),some (nv i),some (V.ref pa)]=_;simp
   ·refine xm (aD (ay (ay (ay (f9 T (g_f.mono sG2) (ef sH2 rfl)) (aa rfl) Bw) aH (yi (b:=1))) aH (bX (b:=1)))) (λe2=>?_) λe2=>?_
    ·rw[Dm] at e2;refine bY (ay (aa rfl) (f9 T fk' (aa rfl)) D9) (kk _ _ ⟨rfl, ?_⟩);rw[ed,ai e2];rfl
    ·rw[Dm] at e2;refine E3 (kk _ _ ⟨rfl, ?_⟩);rw[ed,ag (by rw[e2];decide),Nat.or_zero];rfl
 ·intro σ H' z0;obtain⟨v4,v5,rfl,sH,hw⟩:=z0;rw[bD,hkl,rj];have hall:((ks.zip w.params).all λz=>within ⟨z.1.lo,z.1.hi⟩ z.2)=true:=(o8 hl).mpr λj k b h1 h2=>hw j k b (by rw[bD,hkl];exact(dm.mp h1).1) h1 h2
  have sG2:=sG.trans sH;dsimp only;refine aR (ph (k:=⟨w.out.lo,w.out.hi,depsOf w.deps 0 ks,w.cost+1+costs ks⟩) sG2 (ae (bL (k:=⟨w.out.lo,w.out.hi,w.deps,w.cost⟩) T (g_f.mono sG2) (ef sH rfl)) (ae (cp (k:=⟨w.out.lo,w.out.hi,w.deps,w.cost⟩) T (g_f.mono sG2) (ef sH rfl)) (ae (aa rfl) (ae (aa rfl) au)))) ?_);refine(q.ext (Ext.grow sG sH)).2 _ ?_;simp only[callOf,dz];rw[ag (by omega),ag (by rw[hall];decide),show costs ks+w.cost+1=w.cost+1+costs ks by omega]
def BN(A:bU)(G H:Hp)(l:Addr)(ks:List Known):Prop:= ∃as:List Addr,H l=some (.lst (as.map V.ref))/\bF (cM A G) as ks
def ou(A:bU):Sp:=λvs H Q _=> ∃(G:Hp)(lb:Addr)(bs:List Bound),vs=[.ref lb]/\aG G H/\ij G lb bs/\bs.length<=1000/\
 ∀(l:Addr)(G' H':Hp),Ext G H G' H'->BN A G' H' l (ej bs)->G' l=none->H l=none->Q (.ref l) H'
def oB:fQ P0 w0 b0 T 3 18 ["bounds"] (ou A):=by
 refine b8 (top 57) ["bounds","k","bound"] (T.p 18).1 λS H vs Q E hr h=>?_
 obtain⟨G,lb,bs,rfl,sG,⟨as,g_lb,g_bs⟩,hz,q⟩:=h;have hal:=g_bs.length;refine⟨_,(aj (az (p5 rfl S.nd (AZ rfl T.pd (ab (pv 0) ax)) (rQ S [("k",1),("bound",2)]) (λ_ _ _ _ _=>(show PG _ _ (EF K 2 _) from(xt rfl (i9 (fv 1 S.nd) (i9 (fv 2 S.nd) rR))))) (λ_ _ _ _ _=>ip) (λ_ _ _ _ _=>(fF T.eS (eL T) hr (ab (kS (r:=qS K) r6 (pv 2) aA (λ_ _=>rfl)) (ab (kS (r:=qS K) r6 (pv 2) aA (λ_ _=>rfl)) (ab (bH Ma aA (pv 1)) (ab aA ax))))))))), ?_⟩;refine aR (N8 (a:=lb) (xs:=as.map V.ref) (ae (aa rfl) au) (cG.of (sG _ _ g_lb))
  (λD i H'=> ∃(G':Hp)(fas:List Addr),Ext G H G' H'/\G' D=none/\H' D=some (.lst (fas.map V.ref))/\bF (cM A G') fas ((ej bs).take i))
  (λ_ _=>rfl) (λD hD=>⟨G,[],Ext.grow sG (aG.upd hD _),sG.free hD,ah,.nil⟩) (λD i H' ⟨G',_,x,_⟩ =>cG.of (x.gh _ _ (x.gg _ _ g_lb))) ?_ ?_)
 ·rintro D i x H' Tp hD hx ⟨G',fas,x1,gD,hD',hf⟩ hT;rw[cU] at hx;obtain⟨ba,hba,rfl⟩:=bO.mp hx;obtain⟨b,hb,fb⟩:=g_bs.get hba;have hil:i<bs.length:=(dm.mp hb).1;have sT:aG H' (ao H' Tp (.tup [nv i,.ref ba])):=aG.upd hT _;have x2:=x1.trans (Ext.grow x1.gh sT);have fb':ao H' Tp (.tup [nv i,.ref ba]) ba=some (.tup [nv b.lo,nv b.hi]):=x2.gh _ _ (x2.gg _ _ fb);refine ph (k:=⟨b.lo,b.hi,2 ^ i,1⟩) x2.gh (ae (ay (aa rfl) aH (hG fb' rfl)) (ae (ay (aa rfl) aH (hG fb' rfl)) (ae (ay aH (aa rfl) (L4 (by omega))) (ae aH au)))) λa G3 H3 x3 fa=>?_
  have hD2:=sT _ _ hD';have x23:=x2.trans x3;have gD3:G3 D=none:=x3.zT hD2 gD;have hak:(ej bs)[i]? =some ⟨b.lo,b.hi,2 ^ i,1⟩:=by rw[nq,hb];rfl
  refine⟨fas.map V.ref,x3.hh _ _ hD2,by rw[bD,hf.length,nL,ir];exact big (by omega),G3,fas++[a],x23.wr hD gD3 _,gD3, ?_, ?_⟩
  ·rw[ah];simp
  ·rw[take_snoc hak];exact(hf.mono λ_ _ z=>z.mono x3.gg).snoc fa
 ·intro D H' hD z0;obtain⟨G',fas,x1,gD,hD',hf⟩:=z0;rw[bD,hal,<- ir,rj] at hf;exact q D G' H' x1 ⟨fas,hD',hf⟩ gD hD
def gV(A:bU)(G H:Hp)(d:Addr)(ps:Programs):Prop:= ∃kvs:List (Key×V),H d=some (.dK kvs)/\∀g:Nat,(gA kvs (Sum.inl (g:Int))=none/\wordOf ps g=none)\/
 ∃wa w,gA kvs (Sum.inl (g:Int))=some (.ref wa)/\wordOf ps g=some w/\kE A G wa w
theorem gV.mono(x:gV A G H d ps)(g:aG G G')(h:H' d=H d):gV A G' H' d ps:=by
 obtain⟨kvs,e,f⟩:=x;refine⟨kvs,by rw[h];exact e,λi=>?_⟩
 rcases f i with z | ⟨wa,w,z1,z2,z3⟩
 ·exact .inl z
 ·exact .inr ⟨wa,w,z1,z2,z3.mono g⟩
def gV.same(x:gV A G H d ps)(g:aG G G')(h:aG H H'):gV A G' H' d ps:=by
 obtain⟨kvs,e,f⟩:=x;exact gV.mono ⟨kvs,e,f⟩ g (by rw[e];exact h _ _ e)
def vC(A:bU):Sp:=λvs H Q _=> ∃(G:Hp)(pn lf dw:Addr)(nd:Nd)(facts:List Known)(ps:Programs),vs=[.ref pn,.ref lf,.ref dw]/\aG G H/\ny A G pn nd/\BN A G H lf facts/\(∀f∈facts,z8 f)/\gV A G H dw ps/\
 yC facts.length nd/\nd.parts.length<=10000/\t9 A G H Q (cD ps facts nd)
def ku{facts:List Known}{p:Nat}(h:p<facts.length):facts[p]? =some (facts.getD p lK):=by
 rw[cy,c6 h];rfl
def vJ:fQ P0 w0 b0 T 4 17 ["node","facts","words"] (vC A):=by
 refine b8 (top 56) ["node","facts","words","fact","parts","place"] (T.p 17).1 λS H vs Q E hr h=>?_
 obtain⟨G,pn,lf,dw,nd,facts,ps,rfl,sG,⟨dn,lp,oo,oz,g_n,g_p⟩,⟨fas,hlf,hf⟩,hk,hw,ok,hz,q⟩:=h;have hfl:=hf.length;have e_n:=sG _ _ g_n;have ek:∀{H':Hp}{σ:b6},aG H H'->σ[0]? =some (some (.ref pn))->Ev (da K (bA 0) "kind") σ H' (nv nd.kind):=λs s0=>aC (aa s0) (s _ _ e_n) T.cY T.iW (lq _ _ _ _ _)
 have en:∀{H':Hp}{σ:b6},aG H H'->σ[0]? =some (some (.ref pn))->Ev (da K (bA 0) "number") σ H' (nv nd.num):=λs s0=>aC (aa s0) (s _ _ e_n) T.cY T.fA (ig _ _ _ _ _)
 refine⟨_,(af (aQ (aO bq (aF (pv 0)) (aP T.sL)) (aj (az (fF T.eS (eL T) hr (ab (aF (pv 0)) (ab (aF (pv 0)) (ab aA (ab aA ax))))))) aE)
   (af (aQ (aO bq (aF (pv 0)) (aP T.kz)) (af (aT 3 S.nd (aZ (pv 1) (aF (pv 0))))
   (aj (az (fF T.eS (eL T) hr (ab (aF (pv 3)) (ab (aF (pv 3)) (ab (aF (pv 3)) (ab aA ax)))))))) aE)
   (af (xq (i:=4) rfl S.nd rfl rfl (AG rfl rfl rfl rfl) (g9 (aF (pv 0))) (rQ S [("place",5)]) (λ_ _ _ _ _=>(fv 5 S.nd)) (λ_ _ _ _ _=>ip) (λ_ _ _ _ _=>(kS (r:=gY K) mX (pv 1) (pv 5) (λ_ _=>rfl))))
   (af (aQ (aO bq (aF (pv 0)) (aP T.sM)) (aj (az (aV (T.p 14) (sh T) hr (ab (aZ (pv 4) aA) (ab (aZ (pv 4) aA) (ab (aZ (pv 4) aA) ax)))))) aE)
   (af (aQ (aO bq (aF (pv 0)) (aP T.FR)) (aj (az (aV (T.p 15) (xH T) hr (ab (aZ (pv 4) aA) (ab (aZ (pv 4) aA) ax))))) aE)
   (af (aQ (aO bq (aF (pv 0)) (aP T.u9)) (aj (az (aV (T.p 16) (vK T) hr (ab (IV (fO hr) (pv 2) (aF (pv 0)) ⟨rfl,rfl,rfl,rfl⟩) (ab (pv 4) ax))))) aE)
   (aj (az (aV (T.p 13) (vI T) hr (ab (aF (pv 0)) (ab (aZ (pv 4) aA) (ab (aZ (pv 4) aA) ax)))))))))))), ?_⟩
 refine b7 (aD (ay (ek (.refl _) rfl) aH (bX (b:=0)))) (λe=>?_) λe0=>?_
 ·simp only[decide_eq_true_eq] at e;refine aR (ph (k:=⟨nd.num,nd.num,0,1⟩) sG (ae (en (.refl _) rfl) (ae (en (.refl _) rfl) (ae aH (ae aH au)))) (q.2 _ ?_));unfold cD dy;rw[ag (by omega),ag (by omega),ai e]
 simp only[decide_eq_false_iff_not] at e0;refine b7 (aD (ay (ek (.refl _) rfl) aH (bX (b:=1)))) (λe=>?_) λe1=>?_
 ·simp only[decide_eq_true_eq] at e;have hn:=ok.Mc e;obtain⟨fa,hfa,hfk⟩:=hf.get' (ku hn);refine aL (bY (ay (aa rfl) (en (.refl _) rfl) (bM hlf (bG (by rw[cU,hfa];rfl)))) ?_);have fk':=hfk.mono sG;dsimp only;refine aR (ph (k:=⟨(facts.getD nd.num lK).lo,(facts.getD nd.num lK).hi,(facts.getD nd.num lK).deps,1⟩) sG (ae (bL (k:=facts.getD nd.num lK) T fk' (aa rfl)) (ae (cp (k:=facts.getD nd.num lK) T fk' (aa rfl)) (ae (f9 (k:=facts.getD nd.num lK) T fk' (aa rfl)) (ae aH au)))) (q.2 _ ?_));unfold cD;rw[ai e,ku hn];rfl
 simp only[decide_eq_false_iff_not] at e1;have hpas:∃pas:List Addr,pas.length=nd.parts.length/\(∀(i p:Nat),nd.parts[i]? =some p->∃a,pas[i]? =some a/\fas[p]? =some a)/\bF (cM A G) pas (nd.parts.map λp=>facts.getD p lK):=by
  have hp:=ok.parts;clear hz q ok g_p g_n e_n ek en;revert hp
  induction nd.parts with
  |nil=>intro _;exact⟨[],rfl,λi p h=>by simp at h,.nil⟩
  |cons p l ih=>
   intro hp;obtain⟨pas,l1,l2,l3⟩:=ih λx hx=>hp x (cZ _ hx)
   obtain⟨a,ha,hfa⟩:=hf.get' (ku (hp p cF));refine⟨a :: pas,by simp[l1],λi x hx=>?_,.cons hfa l3⟩;cases i with
   |zero=>simp at hx;subst hx;exact⟨a,rfl,ha⟩
   |succ i=>simpa using l2 i x (by simpa using hx)
 obtain⟨pas,pl,pat,pall⟩:=hpas;refine aL (cA (xp (ys:=pas.map V.ref) (aC (aa rfl) e_n T.cY T.jn (nB _ _ _ _ _)) (cG.of (sG _ _ g_p)) (by simp[pl]) (by simp;omega) (by show 5<6;decide) (λi x y H' hx hy sH=>?_) λD hD=>?_))
 ·rw[cU] at hx hy;obtain⟨p,hp,rfl⟩:=bO.mp hx;obtain⟨a,ha,rfl⟩:=bO.mp hy;obtain⟨a',ha',hfa⟩:=pat i p hp;rw[ha] at ha';cases ha';exact ay (aa rfl) (aa rfl) (bM (sH _ _ hlf) (bG (by rw[cU,hfa];rfl)))
 have sD:aG H (ao H D (.lst (pas.map V.ref))):=aG.upd hD _;have x1:=Ext.grow sG sD;have hD':ao H D (.lst (pas.map V.ref)) D=some (.lst (pas.map V.ref)):=ah;generalize ao H D (.lst (pas.map V.ref))=H1 at sD x1 hD';have ep:∀{σ:b6}(j:Nat)(a:Addr),σ[4]? =some (some (.ref D))->pas[j]? =some a->∀{te:TE},Ev te σ H1 (nv j)->Ev (jR (gY K) (bA 4) te) σ H1 (.ref a):=by
  intro σ j a s4 ha te he;exact ay (aa s4) he (bM hD' (bG (by rw[cU,ha];rfl)))
 dsimp only;refine b7 (aD (ay (ek sD rfl) aH (bX (b:=9)))) (λe=>?_) λe9=>?_
 ·simp only[decide_eq_true_eq] at e;have h3:=ok.three e;obtain⟨p0,p1,p2,hp3⟩ :∃a b c,pas=[a,b,c]:=by
   match pas,pl.trans h3 with
   | [a,b,c],_=>exact⟨a,b,c,rfl⟩
  obtain⟨k0,k1,k2,hk3⟩ :∃a b c,(nd.parts.map λp=>facts.getD p lK)=[a,b,c]:=by
   have:(nd.parts.map λp=>facts.getD p lK).length=3:=by simp[h3]
   match (nd.parts.map λp=>facts.getD p lK),this with
   | [a,b,c],_=>exact⟨a,b,c,rfl⟩
  have hq:cD ps facts nd=some ⟨min k1.lo k2.lo,max k1.hi k2.hi,Nat.lor k0.deps (Nat.lor k1.deps k2.deps),k0.cost+max k1.cost k2.cost+1⟩:=by
   unfold cD dy;rw[ag e1,ag (by omega),ag e0,ai e,hk3]
  rw[hk3,hp3] at pall;cases pall with
  |cons f0 pall=>cases pall with
   |cons f1 pall=>cases pall with
    |cons f2 _=>
     rw[hq] at q;exact aR (aS (ae (ep 0 p0 rfl (by rw[hp3];rfl) aH) (ae (ep 1 p1 rfl (by rw[hp3];rfl) aH) (ae (ep 2 p2 rfl (by rw[hp3];rfl) aH) au))) ⟨G,p0,p1,p2,k0,k1,k2,rfl,x1.gh,f0,f1,f2,q.ext x1⟩)
 simp only[decide_eq_false_iff_not] at e9;have two:((2<=nd.kind/\nd.kind<=8)\/nd.kind=10)->∃p0 p1 k0 k1,pas=[p0,p1]/\(nd.parts.map λp=>facts.getD p lK)=[k0,k1]/\cM A G p0 k0/\cM A G p1 k1/\z8 k0/\z8 k1:=by
  intro hkd;have h2:=ok.two hkd;obtain⟨p0,p1,hp3⟩ :∃a b,pas=[a,b]:=by
   match pas,pl.trans h2 with
   | [a,b],_=>exact⟨a,b,rfl⟩
  obtain⟨k0,k1,hk3⟩ :∃a b,(nd.parts.map λp=>facts.getD p lK)=[a,b]:=by
   have:(nd.parts.map λp=>facts.getD p lK).length=2:=by simp[h2]
   match (nd.parts.map λp=>facts.getD p lK),this with
   | [a,b],_=>exact⟨a,b,rfl⟩
  have hko:∀x∈(nd.parts.map λp=>facts.getD p lK),z8 x:=λx hx=>by
   obtain⟨p,hp,rfl⟩:=fg.mp hx;exact hk _ (iN (ku (ok.parts p hp)))
  rw[hk3] at hko;rw[hk3,hp3] at pall;cases pall with
  |cons f0 pall=>cases pall with
   |cons f1 _=>exact⟨p0,p1,k0,k1,hp3,hk3,f0,f1,hko k0 (by simp),hko k1 (by simp)⟩
 refine b7 (aD (ay (ek sD rfl) aH (bX (b:=10)))) (λe=>?_) λe10=>?_
 ·simp only[decide_eq_true_eq] at e;obtain⟨p0,p1,k0,k1,hp2,hk2,f0,f1,o0,o1⟩:=two (.inr e);have hq:cD ps facts nd=some ⟨k1.lo,k1.hi,k1.deps,k0.cost+k1.cost+1⟩:=by
   unfold cD;rw[ag e1,ai e,hk2]
  rw[hq] at q;exact aR (aS (ae (ep 0 p0 rfl (by rw[hp2];rfl) aH) (ae (ep 1 p1 rfl (by rw[hp2];rfl) aH) au)) ⟨G,p0,p1,k0,k1,rfl,x1.gh,f0,f1,q.ext x1⟩)
 simp only[decide_eq_false_iff_not] at e10;refine b7 (aD (ay (ek sD rfl) aH (bX (b:=11)))) (λe=>?_) λe11=>?_
 ·simp only[decide_eq_true_eq] at e;obtain⟨kvs,hd,hv⟩:=hw;have hd':=sD _ _ hd;have hq:cD ps facts nd=callOf (wordOf ps nd.num) (nd.parts.map λp=>facts.getD p lK):=by
   unfold cD dy;rw[ag e1,ag e10,ag e0,ag e9,ai e,EZ]
  rw[hq] at q;refine aR (mQ (aY (cQ (JG (o:=gA kvs (Sum.inl (nd.num:Int))) (aa rfl) (.inl ⟨kvs,.inl hd'⟩) (en sD rfl) (ja.k (k:=Sum.inl (nd.num:Int)) hd')) (Lq (ae (aa rfl) au) ?_))))
  rcases hv nd.num with⟨z1,z2⟩ | ⟨wa,w,z1,z2,z3⟩
  ·exact⟨G,none,_,D,pas,_,rfl,x1.gh,.inl ⟨rfl,by rw[z1];rfl⟩,hD',pall,by rw[z2] at q;exact q.ext x1⟩
  ·exact⟨G,some w,_,D,pas,_,rfl,x1.gh,.inr ⟨wa,w,rfl,by rw[z1];rfl,z3⟩,hD',pall,by rw[z2] at q;exact q.ext x1⟩
 simp only[decide_eq_false_iff_not] at e11;have hk28:2<=nd.kind/\nd.kind<=8:=by have:=ok.kind;omega
 obtain⟨p0,p1,k0,k1,hp2,hk2,f0,f1,o0,o1⟩:=two (.inl hk28);have hq:cD ps facts nd=pairOf nd.kind k0 k1:=by
  unfold cD dy;rw[ag e1,ag e10,ag e0,ag e9,ag e11,hk2,rS hk28.1 hk28.2 o0 o1]
 rw[hq] at q;exact aR (aS (ae (ek sD rfl) (ae (ep 0 p0 rfl (by rw[hp2];rfl) aH) (ae (ep 1 p1 rfl (by rw[hp2];rfl) aH) au))) ⟨G,nd.kind,p0,p1,k0,k1,rfl,x1.gh,f0,f1,o0,o1,q.ext x1⟩)
def t7(ps:Programs):Prop:= ∀g w,wordOf ps g=some w->z8 ⟨w.out.lo,w.out.hi,w.deps,w.cost⟩
def EH(ok:yC facts.length nd)(hk:∀f∈facts,z8 f)(hw:t7 ps)(h:cD ps facts nd=some k):z8 k:=by
 have hko:∀x∈(nd.parts.map λp=>facts.getD p lK),z8 x:=λx hx=>by
  obtain⟨p,hp,rfl⟩:=fg.mp hx;exact hk _ (iN (ku (ok.parts p hp)))
 unfold cD at h;split at h
 ·obtain⟨x,hx,e⟩:=bO.mp h;cases e;have:=hk x (iN hx);exact⟨this.le,this.lt⟩
 ·split at h
  ·split at h
   ·rename_i e b hp;cases h;have:=hko b (by rw[hp];simp);exact⟨this.le,this.lt⟩
   ·cases h
  ·unfold dy at h;split at h
   ·rename_i h0;cases h;exact⟨bx _,ok.GU h0⟩
   ·split at h
    ·split at h
     ·rename_i c x y hp;cases h;have h1:=hko x (by rw[hp];simp);have h2:=hko y (by rw[hp];simp);have a1:=h1.le;have a2:=h2.le;have b1:=h1.lt;have b2:=h2.lt;exact⟨by dsimp only;omega,by dsimp only;omega⟩
     ·cases h
    ·split at h
     ·unfold ll at h;obtain⟨w,hw1,h⟩:=dq.mp h;split at h
      ·cases h
      ·split at h
       ·cases h
       ·cases h;have:=hw _ _ hw1;exact⟨this.le,this.lt⟩
     ·split at h
      ·rename_i x y hp;exact Bk h (hko x (by rw[hp];simp)) (hko y (by rw[hp];simp))
      ·cases h
def BI(h:∀b∈bs,goodBound b=true):∀f∈ej bs,z8 f:=by
 intro f hf;obtain⟨i,hi⟩:=lS hf;rw[nq] at hi;obtain⟨b,hb,rfl⟩:=bO.mp hi;have:=h b (iN hb);simp[goodBound] at this;exact⟨this.1,this.2⟩
def xT(h:cD ps facts nd=none):br ps facts (nd :: r)=none:=by rw[ia,h];rfl
def xS(h:cD ps facts nd=some k):br ps facts (nd :: r)=br ps (facts++[k]) r:=by rw[ia,h];rfl
def nu(A:bU)(G:Hp)(n:Nat)(v:V)(o:Option (List Nd)):Prop:=(o=none/\v=.ez)\/∃ln ds,o=some ds/\v=.ref ln/\lQ A G ln n ds/\eQ n ds/\ds≠[]/\ds.length<=1000
theorem nu.mono(s:aG G G')(x:nu A G n v o):nu A G' n v o:=by
 rcases x with z | ⟨ln,ds,z1,z2,z3,z4⟩
 ·exact .inl z
 ·exact .inr ⟨ln,ds,z1,z2,z3.mono s,z4⟩
def Cg(A:bU):Sp:=λvs H Q _=> ∃(G:Hp)(vn:V)(lb dw:Addr)(o:Option (List Nd))(bs:List Bound)(ps:Programs),vs=[vn,.ref lb,.ref dw]/\aG G H/\nu A G bs.length vn o/\ij G lb bs/\bs.length<=1000/\
 (∀b∈bs,goodBound b=true)/\gV A G H dw ps/\t7 ps/\t9 A G H Q (iq ps bs o)
def uM:fQ P0 w0 b0 T 5 19 ["nodes","bounds","words"] (Cg A):=by
 refine b8 (top 58) ["nodes","bounds","words","facts","node","fact"] (T.p 19).1 λS H vs Q E hr h=>?_
 obtain⟨G,vn,lb,dw,o,bs,ps,rfl,sG,hn,hb,hbz,hgood,hw,hwo,q⟩:=h;refine⟨_,(af (aQ (aO qU (pv 0) fV) (aj (az fV)) aE)
   (af (aT 3 S.nd (aV (T.p 18) (oB T) hr (ab (pv 1) ax)))
   (af (oY PassesOwn.never rfl (g9 (pv 0)) (fv 4 S.nd) (af (aT 5 S.nd (aV (T.p 17) (vJ T) hr (ab (pv 4) (ab (pv 3) (ab (pv 2) ax)))))
   (af (aQ (aO qU (pv 5) fV) (aj (az fV)) aE)
   (aj (cu (m9 (pv 3) (pv 5)))))))
   (aj (az (aZ (pv 3) (qy lF aA))))))), ?_⟩
 rcases hn with⟨rfl,rfl⟩ | ⟨ln,ds,rfl,rfl,hno,bP,hne,hdz⟩
 ·refine b7 (aD (ay (aa rfl) aH hJ)) (λ_=>?_) (λz=>by simp at z);exact bc aH (q.1 rfl G H (.refl sG))
 obtain⟨nas,g_ln,g_ns⟩:=hno.at_;refine b7 (aD (ay (aa rfl) aH hJ)) (λz=>by simp at z) λ_=>?_
 refine aL (cA (aS (ae (aa rfl) au) ⟨G,lb,bs,rfl,sG,hb,hbz,λlf G1 H1 x1 hf1 g1 h1=>?_⟩));have hnl:=g_ns.length;refine aL (Iw (a:=ln) (xs:=nas.map V.ref) (aa rfl) (cG.of (x1.gh _ _ (x1.gg _ _ g_ln)))
  (λi σ H'=> ∃(v4 v5:Option V)(G':Hp)(facts:List Known),σ=[some (.ref ln),some (.ref lb),some (.ref dw),some (.ref lf),v4,v5]/\Ext G H G' H'/\BN A G' H' lf facts/\G' lf=none/\(∀f∈facts,z8 f)/\
   facts.length=bs.length+i/\br ps (ej bs) ds=br ps facts (ds.drop i))
  ⟨none,none,G1,ej bs,rfl,x1,hf1,g1,BI hgood,by rw[ir];rfl,rfl⟩ (λi σ H' _ ⟨_,_,G',_,_,x,_⟩ =>cG.of (x.gh _ _ (x.gg _ _ g_ln))) ?_ ?_)
 ·intro i x σ H' hx z0;obtain⟨v4,v5,G',facts,rfl,x',hf,gf,hko,hfl,hfold⟩:=z0;rw[cU] at hx;obtain⟨na,hna,rfl⟩:=bO.mp hx;obtain⟨nd,hnd,hat⟩:=g_ns.get hna;have hil:i<ds.length:=(dm.mp hnd).1;have hdrop:ds.drop i=nd :: ds.drop (i+1):=by
   rw[zk hil];congr 1;exact(dm.mp hnd).2
  rw[hdrop] at hfold;have hndok:yC facts.length nd:=by rw[hfl];exact bP i nd hnd
  have hw':gV A G' H' dw ps:=hw.same x'.gg x'.hh;refine aL (cA (aS (ae (aa rfl) (ae (aa rfl) (ae (aa rfl) au))) ⟨G',na,lf,dw,nd,facts,ps,rfl,x'.gh,hat.mono x'.gg,hf,hko,hw',hndok,by have:=hndok.few;omega,λe G2 H2 x2=>?_,λk e fa G2 H2 x2 hfa=>?_⟩))
  ·refine b7 (aD (ay (aa rfl) aH hJ)) (λ_=>?_) (λz=>by simp at z);refine bc aH (q.1 ?_ G2 H2 (x'.trans x2));simp only[iq];rw[hfold,xT e];rfl
  ·refine b7 (aD (ay (aa rfl) aH hJ)) (λz=>by simp at z) λ_=>?_
   obtain⟨fas,hlf,hfas⟩:=hf;have hlf2:=x2.hh _ _ hlf;have gf2:G2 lf=none:=x2.zT hlf gf;refine gX (rP (aa rfl) (ae (aa rfl) au) hlf2 (by rw[bD,hfas.length];exact big (by omega)) ?_);refine⟨_,_,G2,facts++[k],rfl,(x'.trans x2).wr h1 gf2 _,⟨fas++[fa],by rw[ah];simp,(hfas.mono λ_ _ z=>z.mono x2.gg).snoc hfa⟩,gf2,λf hfm=>?_,by simp;omega,by rw[hfold,xS e]⟩
   rcases cv.mp hfm with z |z
   ·exact hko f z
   ·simp at z;subst z;exact EH hndok hko hwo e
 ·intro σ H' z0;obtain⟨v4,v5,G',facts,rfl,x',⟨fas,hlf,hfas⟩,gf,hko,hfl,hfold⟩:=z0;have hfull:ds.drop (nas.map V.ref).length=[]:=by rw[bD,hnl];simp
  rw[hfull] at hfold;have hpos:0<facts.length:=by
   rw[hfl,bD,hnl];have:=zq.mpr hne;omega
  have hfne:facts≠[]:=by intro z;rw[z] at hpos;simp at hpos
  have hfasne:fas≠[]:=by intro z;have:=hfas.length;rw[z] at this;simp at this;omega
  have hlast:cM A G' (fas.getLast hfasne) (facts.getLast hfne):=by
   have e1:fas[fas.length - 1]? =some (fas.getLast hfasne):=by rw[<- wx,wL hfasne]
   obtain⟨k,hk,hfk⟩:=hfas.get e1;have e2:facts[facts.length - 1]? =some (facts.getLast hfne):=by rw[<- wx,wL hfne]
   rw[hfas.length,e2] at hk;cases hk;exact hfk
  have esplit:fas.map V.ref=fas.dropLast.map V.ref++[V.ref (fas.getLast hfasne)]:=by
   conv=>lhs;rw[<- zb hfasne]
   simp
  refine bc (ay (aa rfl) (pG aH) (bM hlf (by rw[esplit];exact mB _ _))) ?_;refine q.2 _ ?_ _ G' H' x' hlast;simp only[iq];rw[hfold];simp only[br,dz];exact wL hfne
noncomputable def xW (ps:Programs) (w:Word) (o:Option (List Nd)):Bool:=match iq ps w.params o with
 |some x=>within ⟨x.lo,x.hi⟩ w.out&&(Kp212.inSet x.deps w.deps&&decide (x.cost<=w.cost))
 |none=>false
def Ip(A:bU):Sp:=λvs H Q _=> ∃(G:Hp)(vn:V)(wa dw:Addr)(o:Option (List Nd))(w:Word)(ps:Programs),vs=[vn,.ref wa,.ref dw]/\aG G H/\nu A G w.params.length vn o/\kE A G wa w/\w.params.length<=1000/\
 (∀b∈w.params,goodBound b=true)/\gV A G H dw ps/\t7 ps/\∀(G' H':Hp),Ext G H G' H'->Q (.bl (xW ps w o)) H'
def CF:fQ P0 w0 b0 T 6 20 ["nodes","word","words"] (Ip A):=by
 refine b8 (top 59) ["nodes","word","words","fact","promise"] (T.p 20).1 λS H vs Q E hr h=>?_
 obtain⟨G,vn,wa,dw,o,w,ps,rfl,sG,hn,⟨dx,lb,fa,g_w,g_b,g_f⟩,hz,hgood,hw,hwo,q⟩:=h;refine⟨_,(af (aT 3 S.nd (aV (T.p 19) (uM T) hr (ab (pv 0) (ab (aF (pv 1)) (ab (pv 2) ax)))))
   (af (aQ (aO qU (pv 3) fV) (aj (az uJ)) aE)
   (af (aT 4 S.nd (aF (pv 1)))
   (af (aQ (PW.pt (iE (aO qz (aF (pv 3)) (aF (pv 4))) (fT (aO kj (aF (pv 3)) (aF (pv 4)))))) (aj (az uJ)) aE)
   (aj (az (B4 (nW bq (bH Cy (aF (pv 3)) (aF (pv 4))) (aF (pv 4))) (B1 (nW rV (aF (pv 3)) (aF (pv 4))))))))))), ?_⟩
 refine aL (cA (aS (ae (aa rfl) (ae (aC (aa rfl) (sG _ _ g_w) T.fJ T.cI (dQ _ _)) (ae (aa rfl) au))) ⟨G,vn,lb,dw,o,w.params,ps,rfl,sG,hn,g_b,hz,hgood,hw,hwo,λe G1 H1 x1=>?_,λk e fk G1 H1 x1 hk=>?_⟩))
 ·refine b7 (aD (ay (aa rfl) aH hJ)) (λ_=>?_) (λz=>by simp at z);refine bc aH ?_;have:=q G1 H1 x1;unfold xW at this;rw[e] at this;exact this
 ·refine b7 (aD (ay (aa rfl) aH hJ)) (λz=>by simp at z) λ_=>?_
  have e_w:=x1.gh _ _ (x1.gg _ _ g_w);have e_f:=(g_f.mono x1.gg).mono x1.gh;have e_k:=hk.mono x1.gh;refine aL (bY (aC (aa rfl) e_w T.fJ T.eC (gL _ _)) ?_);have q1:=q G1 H1 x1;unfold xW at q1;rw[e] at q1;simp only[within,Jo] at q1;refine b7 (jg (aD (ay (bL T e_k (aa rfl)) (bL T e_f (aa rfl)) bo)) λ_=>aD (ay (cp T e_k (aa rfl)) (cp T e_f (aa rfl)) bo)) (λe1=>?_) λe1=>?_
  ·refine bc aH ?_;simp at e1;have:(decide (w.out.lo<=k.lo)&&decide (k.hi<=w.out.hi))=false:=by
    rcases e1 with z |z
    ·rw[decide_eq_false (by omega:¬w.out.lo<=k.lo)];rfl
    ·rw[decide_eq_false (by omega:¬k.hi<=w.out.hi)];simp
   rw[this] at q1;exact q1
  ·simp at e1;rw[decide_eq_true (by omega:w.out.lo<=k.lo),decide_eq_true (by omega:k.hi<=w.out.hi)] at q1;refine bc (Bt (ay (ay (f9 T e_k (aa rfl)) (f9 T e_f (aa rfl)) D9) (f9 T e_f (aa rfl)) bX) λ_=>ay (ei T e_k (aa rfl)) (ei T e_f (aa rfl)) bo) ?_;rw[show decide (k.cost<=w.cost)=decide ((k.cost:Int)<=(w.cost:Int)) from decide_eq_decide.mpr (by omega)] at q1;exact q1
end Wh
namespace Wh
open PySem PySem.Spec PyProof.Rows L2
open Kp212 (Known Bound Word Programs ROUND goodBound wordOf version)
variable {P0:Program} {w0:World} {K:bg} {mg:Str->Option Value} {b0:Heap} {A:bU} (T:Txt K mg A)
def dI(A:bU)(G:Hp)(va:Addr)(v:c7):Prop:= ∃dx wa lb vn,G va=some (.ins A.dH dx (iK (.ref wa) (.ref lb) vn))/\kE A G wa v.word/\G lb=some (.lst (bZ v.body))/\
 nu A G v.word.params.length vn (readBody v.body v.word.params.length)
theorem dI.mono(s:aG G G')(x:dI A G va v):dI A G' va v:=by
 obtain⟨dx,wa,lb,vn,e,f,g,h⟩:=x;exact⟨dx,wa,lb,vn,s _ _ e,f.mono s,s _ _ g,h.mono s⟩
def kvsOf(ks:List Nat)(pa:Nat->Addr):List (Key×V):=ks.map λk=>((Sum.inl ((k:Nat):Int):Key),V.ref (pa k))
structure yA(A:bU)(G H:Hp)(pa lv:Addr)(p:oN):Prop where
 at_:∃dx vas,H pa=some (.ins A.dU dx (cO (nv p.owner) (.ref lv)))/\H lv=some (.lst (vas.map V.ref))/\bF (dI A G) vas p.versions.reverse
structure mE(A:bU)(G H:Hp)(dp:Addr)(ks:List Nat)(pa lv:Nat->Addr)(ps:Programs):Prop where
 dict:Rd H dp (.dK (kvsOf ks pa))
 nd:ks.Nodup
 mem:∀f,f∈ks↔∃p,aK ps f=some p
 prog:∀f p,aK ps f=some p->yA A G H (pa f) (lv f) p
def kJ(A:bU)(H:Hp)(hp dp:Addr):Prop:= ∃dx fs,H hp=some (.ins A.fL dx fs)/\fs.lookup ("programs" :Str)=some (.ref dp)
def yA.kg(x:yA A G H pa lv p)(g:aG G G')(s:kG H H'):yA A G' H' pa lv p:=by
 obtain⟨dx,vas,e,f,v⟩:=x.at_;exact⟨dx,vas,s.ins e,s.lst f,v.mono λ_ _ q=>q.mono g⟩
theorem mE.kg(x:mE A G H dp ks pa lv ps)(g:aG G G')(s:kG H H'):mE A G' H' dp ks pa lv ps:=
 ⟨s.rd x.dict,x.nd,x.mem,λf p h=>(x.prog f p h).kg g s⟩
def kJ.kg(x:kJ A H hp dp)(s:kG H H'):kJ A H' hp dp:=by
 obtain⟨dx,fs,e,f⟩:=x;exact⟨dx,fs,s.ins e,f⟩
def mE.get(x:mE A G H dp ks pa lv ps)(h:aK ps f=some p):gA (kvsOf ks pa) (Sum.inl (f:Int))=some (.ref (pa f)):=by
 unfold kvsOf;rw[Az,ai ((x.mem f).mpr ⟨p,h⟩)]
def mE.get?(x:mE A G H dp ks pa lv ps)(f:Nat):(gA (kvsOf ks pa) (Sum.inl (f:Int))).isSome=(aK ps f).isSome:=by
 unfold kvsOf;rw[Az];cases h:aK ps f with
 |none=>rw[ag λz=>by obtain⟨p,e⟩:=(x.mem f).mp z;rw[h] at e;cases e];rfl
 |some p=>rw[ai ((x.mem f).mpr ⟨p,h⟩)];rfl
def qk(A:bU)(H:Hp)(hp:Addr)(f:Nat)(va:Addr):Prop:= ∃dp kvs pf dxp ow lvf xs,kJ A H hp dp/\Rd H dp (.dK kvs)/\gA kvs (Sum.inl (f:Int))=some (.ref pf)/\H pf=some (.ins A.dU dxp (cO ow (.ref lvf)))/\H lvf=some (.lst (xs++[.ref va]))
def mE.jq(x:mE A G H dp ks pa lv ps)(hr:kJ A H hp dp)(h:version ps f=some v):∃va,qk A H hp f va/\dI A G va v:=by
 obtain⟨p,hp',hh⟩:=cw h;obtain⟨dx,vas,e1,e2,e3⟩:=(x.prog f p hp').at_;cases hv:p.versions with
 |nil=>rw[hv] at hh;cases hh
 |cons v' r=>
  rw[hv] at hh e3;cases hh;rw[wK] at e3;have hl:=e3.length;rw[dR] at hl;have hne:vas≠[]:=by intro z;rw[z] at hl;simp at hl
  have es:vas=vas.dropLast++[vas.getLast hne]:=(zb hne).symm;have at1:vas[r.reverse.length]? =some (vas.getLast hne):=by
   have:r.reverse.length=vas.length - 1:=by simp at hl⊢;omega
   rw[this,<- wx,wL hne]
  obtain⟨v2,h2,h3⟩:=e3.get at1;rw[nJ (bx _),zd] at h2;cases h2;refine⟨vas.getLast hne,⟨dp,_,pa f,dx,_,lv f,vas.dropLast.map V.ref,hr,x.dict,x.get hp',e1, ?_⟩,h3⟩;rw[e2]
  conv=>lhs;rw[es]
  simp
theorem qk.kg(x:qk A H hp f va)(s:kG H H'):qk A H' hp f va:=by
 obtain⟨dp,kvs,pf,dxp,ow,lvf,xs,h1,h2,h3,h4,h5⟩:=x;exact⟨dp,kvs,pf,dxp,ow,lvf,xs,h1.kg s,s.rd h2,h3,s.ins h4,s.lst h5⟩
def Cj(A:bU):Sp:=λvs H Q _=> ∃hp f va,vs=[.ref hp,nv f]/\qk A H hp f va/\Q (.ref va) H
def dP:fQ P0 w0 b0 T 1 24 ["house","f"] (Cj A):=by
 refine b8 (top 71) ["house","f"] (T.p 24).1 λS H vs Q E hr h=>?_
 obtain⟨hp,f,va,rfl,⟨dp,kvs,pf,dxp,ow,lvf,xs,⟨dx,fs,e1,e2⟩,h2,h3,h4,h5⟩,q⟩:=h;refine⟨_,(aj (az (aZ (aF (iT (fO hr) (aF (pv 0)) (pv 1) (λ_ _=>rfl))) (qy lF aA)))), ?_⟩;have g:ja H dp (nv f) (some (.ref pf)):=.inl ⟨kvs,Sum.inl (f:Int),h2,rfl,h3.symm⟩;exact bc (ay (aC (jr (o:=some (.ref pf)) (aC (aa rfl) e1 T.bu T.aW e2) (aa rfl) g) h4 T.cK T.bJ (c8 _ _)) (pG aH) (bM h5 (mB _ _))) q
def kf(A:bU):Sp:=λvs H Q _=> ∃hp dx fs de es,vs=[.ref hp]/\H hp=some (.ins A.fL dx fs)/\fs.lookup ("entries" :Str)=some (.ref de)/\H de=some (.lst es)/\Q (.bl (decide (128<=es.length))) H
def km:fQ P0 w0 b0 T 1 23 ["house"] (kf A):=by
 refine b8 (top 70) ["house"] (T.p 23).1 λS H vs Q E hr h=>?_
 obtain⟨hp,dx,fs,de,es,rfl,e1,e2,e3,q⟩:=h;refine⟨_,(aj (az (nW iF (cn T.cf (aF (pv 0))) (aP T.ye)))), ?_⟩;refine bc (ay (dG (ae (aC (aa rfl) e1 T.bu T.dk e2) au) (ff e3)) aH bo) ?_;rw[show decide ((es.length:Int)≥128)=decide (128<=es.length) from decide_eq_decide.mpr (by omega)];exact q
def rB(A:bU):Sp:=λvs H Q _=> ∃(G:Hp)(hp dp:Addr)(ks:List Nat)(pa lv:Nat->Addr)(ps:Programs),vs=[.ref hp]/\aG G H/\kJ A H hp dp/\H dp=some (.dK (kvsOf ks pa))/\mE A G H dp ks pa lv ps/\ks.length<=1000/\
 (∀f p,aK ps f=some p->∃v,version ps f=some v)/\∀(d:Addr)(H':Hp),aG H H'->H d=none->gV A G H' d ps->(∀wk,H' d=some (.dK wk)->wk.length<=1000)->Q (.ref d) H'
def kT:fQ P0 w0 b0 T 2 25 ["house"] (rB A):=by
 refine b8 (top 72) ["house","words","f"] (T.p 25).1 λS H vs Q E hr h=>?_
 obtain⟨G,hp,dp,ks,pa,lv,ps,rfl,sG,hr',hdp,hps,hz,hver,q⟩:=h;obtain⟨dxh,fsh,eh,el⟩:=id hr';refine⟨_,(af (aT 1 S.nd xw)
   (af (Kr (oY PassesOwn.never rfl (Ks (aF (pv 0))) (fv 2 S.nd) (aj (AX (fO hr) (pv 1) (pv 2) (aF (aV (T.p 24) (dP T) hr (ab (pv 0) (ab (pv 2) ax)))) rfl))))
   (aj (az (pv 1))))), ?_⟩
 refine aL (cA λd hd=>?_);have ndp:dp≠d:=aJ hdp hd;have sd:aG H (ao H d (.dK [])):=aG.upd hd _;refine aL (LO (d:=dp) (kvs:=kvsOf ks pa) (sd _ _ hdp) (λo=>aC (aa rfl) (by rw[aw (gc eh hdp (by intro z;cases z))];exact sd _ _ eh) T.bu T.aW el)
  (λo i σ H'=> ∃(v2:Option V)(wk:List (Key×V)),σ=[some (.ref hp),some (.ref d),v2]/\H' dp=some (.kZ o (.dK (kvsOf ks pa)))/\(∀b u,H b=some u->b≠dp->H' b=some u)/\H' d=some (.dK wk)/\wk.length<=i/\
   ∀g:Nat,(g∉ks.take i/\gA wk (Sum.inl (g:Int))=none)\/(g∈ks.take i/\∃wa w,gA wk (Sum.inl (g:Int))=some (.ref wa)/\wordOf ps g=some w/\kE A G wa w))
  (λo=>⟨none,[],rfl,ah,λb u e hb=>by rw[aw hb];exact sd _ _ e,by rw[aw (Ne.symm ndp)];exact ah,d8 _,λg=>.inl ⟨by simp,rfl⟩⟩)
  (λo i σ H' ⟨_,_,_,e,_⟩ =>e) ?_ ?_)
 ·intro o i k v σ H' rt bk hk z0;obtain⟨v2,wk,rfl,e1,e2,e3,e4,e5⟩:=z0;have hi:i<ks.length:=by have:=(dm.mp hk).1;simpa[kvsOf] using this
  have hki:ks[i]? =some ks[i]:=c6 hi;have hk2:k=Sum.inl ((ks[i]:Nat):Int):=by
   unfold kvsOf at hk;rw[cU,hki] at hk;cases hk;rfl
  subst hk2;obtain⟨p,hpp⟩:=(hps.mem ks[i]).mp (BU hi);obtain⟨vv,hvv⟩:=hver _ _ hpp;have sl:kG H H':=λb u e=>by
   by_cases hb:b=dp
   ·subst hb;rw[hdp] at e;cases e;exact .inr ⟨_,o,rfl,e1⟩
   ·exact .inl (e2 b u e hb)
  obtain⟨va,inf,hva⟩:=hps.jq hr' hvv;obtain⟨dxv,wa,lb,vn,g1,g2,g3,g4⟩:=hva;have hH:H' va=some (.ins A.dH dxv (iK (.ref wa) (.ref lb) vn)):=sl.ins (sG _ _ g1);have inf':=inf.kg sl;dsimp only[gi,kV];refine IL (a:=d) (v:=.ref wa) (y:=nv ks[i]) (aC (du (v:=.ref va) (ae (aa rfl) (ae (aa rfl) au)) λQ q=>⟨hp,ks[i],va,rfl,inf',q⟩) hH T.bN T.c9 (cN _ _ _)) (aa rfl) (aa rfl)
   (BP.k (k:=Sum.inl ((ks[i]:Nat):Int)) e3 (big (by omega))) ?_
  have hnew:gA wk (Sum.inl ((ks[i]:Nat):Int))=none:=by
   rcases e5 ks[i] with⟨_,z⟩ | ⟨z,_⟩
   ·exact z
   ·exfalso;obtain⟨j,hj,hj2⟩:=List.mem_take_iff_getElem.mp z;have:=(List.getElem_inj hps.nd).mp hj2;omega
  refine⟨some (nv ks[i]),_,rfl, ?_,λb u e hb=>?_,ah, ?_,λg=>?_⟩
  ·rw[aw ndp];exact e1
  ·rw[aw (aJ e hd)];exact e2 b u e hb
  ·rw[Ct _ hnew,dR];simp;omega
  ·rw[C1,take_snoc hki];by_cases hg:g=ks[i]
   ·subst hg;right;exact⟨cv.mpr (.inr (jd.mpr rfl)),wa,vv.word,by rw[ai rfl],by unfold wordOf;rw[hvv];rfl,g2⟩
   ·rw[ag λz=>hg (by have:=Sum.inl.inj z;omega)]
    rcases e5 g with⟨z1,z2⟩ | ⟨z1,z2⟩
    ·exact .inl ⟨λz=>(cv.mp z).elim z1 λq=>hg (jd.mp q),z2⟩
    ·exact .inr ⟨cv.mpr (.inl z1),z2⟩
 ·intro o σ H' z0;obtain⟨v2,wk,rfl,e1,e2,e3,e4,e5⟩:=z0;have hkl:(kvsOf ks pa).length=ks.length:=by simp[kvsOf]
  rw[hkl,rj] at e5;refine bc (aa rfl) (q d _ (λb u e=>?_) hd ⟨wk,by rw[aw (Ne.symm ndp)];exact e3,λg=>?_⟩ λwk2 e=>by rw[aw (Ne.symm ndp),e3] at e;cases e;omega)
  ·by_cases hb:b=dp
   ·subst hb;rw[ah,<- hdp,e]
   ·rw[aw hb];exact e2 b u e hb
  ·rcases e5 g with⟨z1,z2⟩ | ⟨z1,z2⟩
   ·refine .inl ⟨z2, ?_⟩;unfold wordOf version;cases hp':aK ps g with
    |none=>rfl
    |some p=>exact aI ((hps.mem g).mpr ⟨p,hp'⟩) z1
   ·exact .inr z2
end Wh
namespace Wh
open PySem PySem.Spec PyProof.Rows L2
open Kp212 (Known Bound Word Programs ROUND goodBound wordOf version both)
variable {P0:Program} {w0:World} {K:bg} {mg:Str->Option Value} {b0:Heap} {A:bU} (T:Txt K mg A)
def LY(x0 x1 x2 x3 y:V):bI "at" y (qF x0 x1 x2 x3)=qF x0 x1 x2 y:=by unfold qF;rfl
def rep0(k:Nat):(List.replicate ((k:Int).toNat) [V.int 0]).flatten=bZ (List.replicate k 0):=by
 rw[oF]
 induction k with
 |zero=>rfl
 |succ k ih=>rw[wF,BW,ih,wF];rfl
def uC(A:bU):Sp:=λvs H Q _=> ∃(p dx ln la:Addr)(ns:List V)(args:List Nat),vs=[.ref p,.ref ln,.ref la]/\H p=some (.ins A.A9 dx [])/\H ln=some (.lst ns)/\H la=some (.lst (bZ args))/\ns.length<=1000/\args.length<=1000/\
 ∀(lh:Addr)(H':Hp),H lh=none->H' p=some (.ins A.A9 dx (qF (.ref ln) (nv args.length) (.ref lh) (nv args.length)))->H' lh=some (.lst (bZ (args++List.replicate ns.length 0)))->(∀b o,H b=some o->b≠p->H' b=some o)->Q .ez H'
def uP:HL P0 w0 b0 T 1 10 ["self","nodes","arguments"] (uC A):=by
 refine b8 (inClass (top 76) 0) ["self","nodes","arguments"] T.rh.F λS H vs Q E hr h=>?_
 obtain⟨p,dx,ln,la,ns,args,rfl,hp,hln,hla,hz1,hz2,q⟩:=h;refine⟨_,(af (bR (pv 0) (pv 1))
   (af (bR (pv 0) (cn T.cf (pv 2)))
   (af (bR (pv 0) (bH xy (pv 2) (bH Mb (b9 (ab aA ax)) (cn T.cf (pv 1)))))
   (aj (bR (pv 0) (cn T.cf (pv 2))))))), ?_⟩
 have npn:ln≠p:=λe=>by rw[e,hp] at hln;cases hln
 have npa:la≠p:=λe=>by rw[e,hp] at hla;cases hla
 have elen:∀{H':Hp}{σ:b6},H' la=some (.lst (bZ args))->σ[2]? =some (some (.ref la))->Ev (Ke (λxs H Q=> ∃p ys,xs=[.ref p]/\(cG K H p ys\/uh K H p ys)/\Q (.int ys.length) H) (fZ (bA 2) jC)) σ H' (nv args.length):=λ{H' σ} h s2=>by
  have:=dG (ae (aa s2) au) (ff (K:=K) h);rw[bD] at this;exact this
 refine aL (cS (aa rfl) (aa rfl) hp T.hU T.sv (by show 0<1000;decide) ?_);refine aL (cS (elen (by rw[aw npa];exact hla) rfl) (aa rfl) ah T.hU T.ml (by show 1<1000;decide) ?_);rw[bS];dsimp only;refine aL (rO ?_);refine(aa rfl:Ev (bA 2) _ _ (V.ref la)) _ ?_;refine dY (ae aH au) (by decide) λl0 hl0=>?_
 have n0:l0≠p:=λe=>by rw[e,ah] at hl0;cases hl0
 have h0:H l0=none:=by rw[aw n0] at hl0;exact hl0
 refine(dG (ae (aa rfl) au) (ff (K:=K) (p:=ln) (xs:=ns) (by rw[aw (aJ hln h0),aw npn];exact hln))) _ ?_;refine⟨l0,_,[V.int 0],rfl,rfl,ah,by omega,by omega,by rw[oF];exact HI (by simp;omega),λl1 hl1=>?_⟩;rw[rep0];have n1:l1≠l0:=λe=>by rw[e,ah] at hl1;cases hl1
 have n1p:l1≠p:=λe=>by rw[aw n1,e,ah] at hl1;cases hl1
 have h1:H l1=none:=by rw[aw n1,aw n1p] at hl1;exact hl1
 refine⟨la,l1,bZ args,bZ (List.replicate ns.length 0),rfl,rfl,by rw[aw (aJ hla h1),aw (aJ hla h0),aw npa];exact hla,ah,HI (by simp;omega),λlh hlh=>?_⟩;have m1:lh≠l1:=λe=>by rw[e,ah] at hlh;cases hlh
 have m0:lh≠l0:=λe=>by rw[aw m1,e,ah] at hlh;cases hlh
 have mp:lh≠p:=λe=>by rw[aw m1,aw m0,e,ah] at hlh;cases hlh
 have hh:H lh=none:=by rw[aw m1,aw m0,aw mp] at hlh;exact hlh
 refine(aa rfl:Ev (bA 0) _ _ (V.ref p)) _ ⟨p,_,dx,_,rfl,by rw[aw (Ne.symm mp),aw (Ne.symm n1p),aw (Ne.symm n0)];exact ah,T.hU,T.gC,(by show 2<1000;decide), ?_⟩;refine cS (elen (by rw[aw npa,aw (aJ hla hh),aw (aJ hla h1),aw (aJ hla h0),aw npa];exact hla) rfl) (aa rfl) ah T.hU T.mj (by show 3<1000;decide) ?_;refine q lh _ hh ah ?_ λb o e hb=>?_
 ·rw[aw mp,aw mp,ah,<- wN]
 ·rw[aw hb,aw hb,aw (aJ e hh),aw (aJ e h1),aw (aJ e h0),aw hb];exact e
def JE:List V->List (Str×V)
 | [a,b]=>mF a b
 |_=>[]
def vO:HL P0 w0 b0 T 1 11 ["self","value","steps"] (xi A.ue 2 JE):=by
 refine b8 (inClass (top 77) 0) ["self","value","steps"] T.pV.F λS H vs Q E hr h=>?_
 ·obtain⟨p,dx,args,rfl,hn,hp,q⟩:=h
  match args,hn with
  | [a,b],_=>
  refine⟨_,(af (bR (pv 0) (pv 1))
   (aj (bR (pv 0) (pv 2)))), ?_⟩
  refine aL (cS (aa rfl) (aa rfl) hp T.kC T.ji (by show 0<1000;decide) ?_);refine cS (aa rfl) (aa rfl) ah T.kC T.mm (by show 1<1000;decide) ?_;rw[bS];exact q
def EI(h:za tt σ H c)(h1:c=true->Ev ta σ H v)(h2:c=false->Ev tb σ H v):Ev (OM tt ta tb) σ H v:=λQ q=>h _ (by
 cases c with
 |true=>exact h1 rfl _ q
 |false=>exact h2 rfl _ q)
def FV:yG (uG λi j=>.int (i - j)) (nv a) (nv b) H (.int ((a:Int) - b)):=bo
def tJ:Sp:=λvs H Q _=> ∃(k a b x:Nat),vs=[nv k,nv a,nv b]/\a<ROUND/\b<ROUND/\both k a b=some x/\Q (nv x) H
def tS:fQ P0 w0 b0 T 1 28 ["kind","a","b"] (tJ):=by
 refine b8 (top 78) ["kind","a","b"] (T.p 28).1 λS H vs Q E hr h=>?_
 obtain⟨k,a,b,x,rfl,ha,hb,hx,q⟩:=h;have big64:∀{n:Nat},n<ROUND->n<18446744073709551616:=λh=>Nat.lt_trans h (by decide)
 refine⟨_,(af (aQ (aO bq (pv 0) (aP T.Jx)) (aj (az (bH dZ (pv 1) (pv 2)))) aE)
   (af (aQ (aO bq (pv 0) (aP T.FQ)) (aj (az (cC (iI rfl) (by rfl) T.uS vi (ab aA (ab (bH qT (pv 1) (pv 2)) ax))))) aE)
   (af (aQ (aO bq (pv 0) (aP T.FP)) (aj (az (bH Eg (pv 1) (pv 2)))) aE)
   (af (aQ (aO bq (pv 0) (aP T.A1)) (aj (az (bH xx (pv 1) (pv 2)))) aE)
   (af (aQ (aO bq (pv 0) (aP T.D4)) (aj (az (cC (qh rfl) (by rfl) T.FD Gd (ab (pv 1) (ab (pv 2) ax))))) aE)
   (af (aQ (aO bq (pv 0) (aP T.A2)) (aj (az (cC (iI rfl) (by rfl) T.uS vi (ab (pv 1) (ab (pv 2) ax))))) aE)
   (aj (az (xu (aO qz (pv 1) (pv 2)) aA aA))))))))), ?_⟩
 refine b7 (aD (ay (aa rfl) aH (bX (b:=2)))) (λe=>?_) λe=>?_
 ·have hk:k=2:=by simpa using e
  subst hk;simp only[both] at hx;split at hx
  ·cases hx;exact bc (ay (aa rfl) (aa rfl) ng) q
  ·cases hx
 refine b7 (aD (ay (aa rfl) aH (bX (b:=3)))) (λe2=>?_) λe2=>?_
 ·have hk:k=3:=by simpa using e2
  subst hk;simp only[both] at hx;cases hx;refine bc (dG (ae aH (ae (ay (aa rfl) (aa rfl) FV) au)) ER) ?_;have:V.int (max 0 ((a:Int) - b))=nv (a - b):=by
   have:max 0 ((a:Int) - b)=((a - b:Nat):Int):=by omega
   rw[this]
  rw[this];exact q
 refine b7 (aD (ay (aa rfl) aH (bX (b:=4)))) (λe3=>?_) λe3=>?_
 ·have hk:k=4:=by simpa using e3
  subst hk;simp only[both] at hx;split at hx
  ·cases hx;exact bc (ay (aa rfl) (aa rfl) (EK (big64 ha))) q
  ·cases hx
 refine b7 (aD (ay (aa rfl) aH (bX (b:=5)))) (λe4=>?_) λe4=>?_
 ·have hk:k=5:=by simpa using e4
  subst hk;simp only[both] at hx;split at hx
  ·cases hx
  ·cases hx;exact bc (ay (aa rfl) (aa rfl) (Bx (by omega) (big64 hb))) q
 refine b7 (aD (ay (aa rfl) aH (bX (b:=6)))) (λe5=>?_) λe5=>?_
 ·have hk:k=6:=by simpa using e5
  subst hk;simp only[both] at hx;cases hx;exact bc (dG (ae (aa rfl) (ae (aa rfl) au)) wc) q
 refine b7 (aD (ay (aa rfl) aH (bX (b:=7)))) (λe6=>?_) λe6=>?_
 ·have hk:k=7:=by simpa using e6
  subst hk;simp only[both] at hx;cases hx;exact bc (dG (ae (aa rfl) (ae (aa rfl) au)) sQ) q
 have hk:k=8:=by
  simp at e e2 e3 e4 e5 e6;unfold both at hx;split at hx
  all_goals first |omega |rfl |cases hx
 subst hk;simp only[both] at hx;cases hx;refine bc (EI (v:=nv (if a<b then 1 else 0)) (aD (ay (aa rfl) (aa rfl) bo)) (λz=>?_) λz=>?_) q
 ·have:a<b:=by simpa using z
  rw[ai this];exact aH
 ·have:¬a<b:=by simpa using z
  rw[ag this];exact aH
def kW(h:i<held.length):(bZ held)[i]? =some (nv (held.getD i 0)):=by
 rw[cU,c6 h,cy,c6 h];rfl
def tK(A:bU):Sp:=λvs H Q _=> ∃(G:Hp)(na lh:Addr)(d:Nd)(held:List Nat)(x:Nat),vs=[.ref na,.ref lh]/\aG G H/\ny A G na d/\H lh=some (.lst (bZ held))/\yC held.length d/\Small held/\d.kind≠11/\jB d held=some x/\Q (nv x) H
def tT:fQ P0 w0 b0 T 2 29 ["node","held"] (tK A):=by
 refine b8 (top 79) ["node","held","kind","parts"] (T.p 29).1 λS H vs Q E hr h=>?_
 obtain⟨G,na,lh,d,held,x,rfl,sG,⟨dn,lp,oo,oz,g_n,g_p⟩,hlh,ok,sm,h11,hx,q⟩:=h;have e_n:=sG _ _ g_n;have e_p:=sG _ _ g_p;refine⟨_,(af (aT 2 S.nd (aF (pv 0)))
   (af (aQ (aO bq (pv 2) (aP T.sL)) (aj (az (aF (pv 0)))) aE)
   (af (aQ (aO bq (pv 2) (aP T.kz)) (aj (az (aZ (pv 1) (aF (pv 0))))) aE)
   (af (aT 3 S.nd (aF (pv 0)))
   (af (aQ (aO bq (pv 2) (aP T.sM)) (aj (az (xu (aO bq (aZ (pv 1) (aZ (pv 3) aA)) aA) (aZ (pv 1) (aZ (pv 3) aA)) (aZ (pv 1) (aZ (pv 3) aA))))) aE)
   (af (aQ (aO bq (pv 2) (aP T.FR)) (aj (az (aZ (pv 1) (aZ (pv 3) aA)))) aE)
   (aj (az (aV (T.p 28) (tS T) hr (ab (pv 2) (ab (aZ (pv 1) (aZ (pv 3) aA)) (ab (aZ (pv 1) (aZ (pv 3) aA)) ax)))))))))))), ?_⟩
 refine aL (bY (aC (aa rfl) e_n T.cY T.iW (lq _ _ _ _ _)) ?_);dsimp only;unfold jB at hx;refine b7 (aD (ay (aa rfl) aH (bX (b:=0)))) (λe=>?_) λe=>?_
 ·have hk:d.kind=0:=by simpa using e
  rw[ai hk] at hx;cases hx;exact bc (aC (aa rfl) e_n T.cY T.fA (ig _ _ _ _ _)) q
 have k0:d.kind≠0:=by simpa using e
 rw[ag k0] at hx;refine b7 (aD (ay (aa rfl) aH (bX (b:=1)))) (λe=>?_) λe=>?_
 ·have hk:d.kind=1:=by simpa using e
  rw[ai hk] at hx;cases hx;exact bc (ay (aa rfl) (aC (aa rfl) e_n T.cY T.fA (ig _ _ _ _ _)) (bM hlh (bG (kW (ok.Mc hk))))) q
 have k1:d.kind≠1:=by simpa using e
 rw[ag k1] at hx;refine aL (bY (aC (aa rfl) e_n T.cY T.jn (nB _ _ _ _ _)) ?_);dsimp only;have ep:∀{σ:b6}(i:Nat),σ[1]? =some (some (.ref lh))->σ[3]? =some (some (.ref lp))->i<d.parts.length->Ev (jR (gY K) (bA 1) (jR (gY K) (bA 3) (tC (V.int (i:Int))))) σ H (nv (held.getD (d.parts.getD i 0) 0)):=λ{σ} i s1 s3 hi=>by
  refine ay (aa s1) (ay (aa s3) aH (bM e_p (bG (kW hi)))) (bM hlh (bG (kW (ok.parts _ ?_))));rw[cy,c6 hi];exact BU hi
 refine b7 (aD (ay (aa rfl) aH (bX (b:=9)))) (λe=>?_) λe=>?_
 ·have hk:d.kind=9:=by simpa using e
  rw[ai hk] at hx;cases hx;have h3:=ok.three hk;refine bc (EI (aD (ay (ep 0 rfl rfl (by omega)) aH (bX (b:=0)))) (λz=>?_) λz=>?_) q
  ·have z':held.getD (d.parts.getD 0 0) 0=0:=by simpa using z
   rw[ai z'];exact ep 2 rfl rfl (by omega)
  ·have z':¬held.getD (d.parts.getD 0 0) 0=0:=by simpa using z
   rw[ag z'];exact ep 1 rfl rfl (by omega)
 have k9:d.kind≠9:=by simpa using e
 rw[ag k9] at hx;refine b7 (aD (ay (aa rfl) aH (bX (b:=10)))) (λe=>?_) λe=>?_
 ·have hk:d.kind=10:=by simpa using e
  rw[ai hk] at hx;cases hx;have h2:=ok.two (.inr hk);exact bc (ep 1 rfl rfl (by omega)) q
 have k10:d.kind≠10:=by simpa using e
 rw[ag k10] at hx;have h2:=ok.two (.inl (by have:=ok.kind;omega));exact aR (aS (ae (aa rfl) (ae (ep 0 rfl rfl (by omega)) (ae (ep 1 rfl rfl (by omega)) au))) ⟨d.kind,_,_,x,rfl,qQ sm _,qQ sm _,hx,q⟩)
def jA(A:bU)(G H:Hp)(a:Addr×Addr)(r:RS):Prop:= ∃dx ln,H a.1=some (.ins A.A9 dx (qF (.ref ln) (nv r.n) (.ref a.2) (nv r.at_)))/\lQ A G ln r.n r.nodes/\H a.2=some (.lst (bZ r.held))
def jA.keep(h:jA A G H a r)(h1:H' a.1=H a.1)(h2:H' a.2=H a.2):jA A G H' a r:=by
 obtain⟨dx,ln,e1,e2,e3⟩:=h;exact⟨dx,ln,h1.trans e1,e2,h2.trans e3⟩
def jA.same(h:jA A G H a r)(s:aG H H'):jA A G H' a r:=by
 obtain⟨dx,ln,e1,e2,e3⟩:=h;exact⟨dx,ln,s _ _ e1,e2,s _ _ e3⟩
def AL(A:bU):Sp:=λvs H Q _=> ∃(G:Hp)(a:Addr×Addr)(r:RS),vs=[.ref a.1]/\jA A G H a r/\Q (.bl (decide (r.at_=r.held.length))) H
def se:fQ P0 w0 b0 T 1 30 ["run"] (AL A):=by
 refine b8 (top 80) ["run"] (T.p 30).1 λS H vs Q E hr h=>?_
 obtain⟨G,a,r,rfl,⟨dx,ln,e1,e2,e3⟩,q⟩:=h;refine⟨_,(aj (az (nW bq (aF (pv 0)) (cn T.cf (aF (pv 0)))))), ?_⟩;have:=dG (ae (aC (K:=K) (f:= "held") (aa (n:=0) (σ:=[some (.ref a.1)]) rfl) e1 T.hU T.gC (jk _ _ _ _)) au) (ff (K:=K) e3);rw[bD] at this;exact bc (ay (aC (aa rfl) e1 T.hU T.mj (yD _ _ _ _)) this bX) q
def Ce(A:bU):Sp:=λvs H Q _=> ∃(G:Hp)(a:Addr×Addr)(r:RS),vs=[.ref a.1]/\aG G H/\jA A G H a r/\r.n<=r.at_/\r.at_ - r.n<r.nodes.length/\
 ∀(na:Addr)(d:Nd)(o z:Nat),r.nodes[r.at_ - r.n]? =some d->(p6 r.n r.nodes)[r.at_ - r.n]? =some (o,z)->(∃dx lp,G na=some (.ins A.lP dx (fC (nv d.kind) (nv d.num) (.ref lp) (nv o) (nv z)))/\G lp=some (.lst (bZ d.parts)))->Q (.ref na) H
def uK:fQ P0 w0 b0 T 1 31 ["run"] (Ce A):=by
 refine b8 (top 81) ["run"] (T.p 31).1 λS H vs Q E hr h=>?_
 obtain⟨G,a,r,rfl,sG,⟨dx,ln,e1,⟨nas,e2,e4⟩,e3⟩,hn,hl,q⟩:=h;refine⟨_,(aj (az (aZ (aF (pv 0)) (bH qT (aF (pv 0)) (aF (pv 0)))))), ?_⟩;obtain⟨na,d,o,z,dx',lp,h1,h2,h3,h4,h5⟩:=cc.pick e4 (kl _ _) hl;refine bc (ay (aC (aa rfl) e1 T.hU T.sv (Ds _ _ _ _)) (ay (aC (aa rfl) e1 T.hU T.mj (yD _ _ _ _)) (aC (aa rfl) e1 T.hU T.ml (vT _ _ _ _)) FV)
  (bM (sG _ _ e2) (at_of (v:=.ref na) (j:=r.at_ - r.n) (by omega) (by rw[cU,h1];rfl)))) (q na d o z h2 h3 ⟨dx',lp,h4,h5⟩)
def GD(A:bU):Sp:=λvs H Q _=> ∃(G:Hp)(a:Addr×Addr)(r:RS)(v:Nat),vs=[.ref a.1,nv v]/\aG G H/\jA A G H a r/\r.p6=p6 r.n r.nodes/\r.n<=r.at_/\r.at_<r.held.length/\r.held.length=r.n+r.nodes.length/\G a.1=none/\G a.2=none/\
 ∀H',(∀b,b≠a.1->b≠a.2->H' b=H b)->jA A G H' a (g8 r v)->Q .ez H'
def wb(h:i<n):Hk n (i:Int)=some i:=by
 unfold Hk;rw[ai (by omega),ai (by omega),oF]
def zR:fQ P0 w0 b0 T 2 32 ["run","value"] (GD A):=by
 refine b8 (top 82) ["run","value","node"] (T.p 32).1 λS H vs Q E hr h=>?_
 obtain⟨G,a,r,v,rfl,sG,R,hons,hn,hl,hlen,ga1,ga2,q⟩:=h;obtain⟨dx,ln,e1,e2,e3⟩:=id R;have ne:a.1≠a.2:=λz=>by rw[z,e3] at e1;cases e1
 refine⟨_,(af (aT 2 S.nd (aV (T.p 31) (uK T) hr (ab (pv 0) ax)))
   (af (AY (pv 1) (B0 (aF (pv 0)) (aF (pv 0)) set_list (λ_=>rfl)))
   (aj (bR (pv 0) (xu (aO bq (pv 1) aA) (aF (pv 2)) (aF (pv 2))))))), ?_⟩
 refine aL (cA (aS (ae (aa rfl) au) ⟨G,a,r,rfl,sG,R,hn,by omega,λna d o z h1 h2 h3=>?_⟩));obtain⟨dxn,lp,h3,h4⟩:=h3;dsimp only;refine aL ((aa rfl:Ev (bA 1) _ _ (nv v)) _ ?_);refine(aC (aa rfl) e1 T.hU T.gC (jk _ _ _ _)) _ ((aC (aa rfl) e1 T.hU T.mj (yD _ _ _ _)) _ ?_);refine⟨a.2,bZ r.held,(r.at_:Int),r.at_,rfl,rfl,e3,by rw[bD];exact wb hl, ?_⟩;have es:(bZ r.held).set r.at_ (nv v)=bZ (r.held.set r.at_ v):=by simp only[bZ,List.map_set]
 rw[es];have e1':ao H a.2 (.lst (bZ (r.held.set r.at_ v))) a.1=some (.ins A.A9 dx (qF (.ref ln) (nv r.n) (.ref a.2) (nv r.at_))):=by rw[aw ne];exact e1
 have sG':aG G (ao H a.2 (.lst (bZ (r.held.set r.at_ v)))):=sG.C3 ga2 _;have hnode:=sG' _ _ h3;refine cS (y:=nv (g8 r v).at_) (EI (aD (ay (aa rfl) aH (bX (b:=0)))) (λzz=>?_) λzz=>?_) (aa rfl) e1' T.hU T.mj (by show 4<1000;decide) ?_
 ·have:v=0:=by simpa using zz
  have e:(g8 r v).at_=z:=by
   unfold g8;simp only;rw[ai this,hons,cy,h2];rfl
  rw[e];exact aC (aa rfl) hnode T.cY T.dN (oE _ _ _ _ _)
 ·have:¬v=0:=by simpa using zz
  have e:(g8 r v).at_=o:=by
   unfold g8;simp only;rw[ag this,hons,cy,h2];rfl
  rw[e];exact aC (aa rfl) hnode T.cY T.kn (z9 _ _ _ _ _)
 rw[LY];refine q _ (λb h1 h2=>by rw[aw h1,aw h2]) ⟨dx,ln,ah,e2, ?_⟩;rw[aw (Ne.symm ne),ah];rfl
def Ja{A:bU}{G H:Hp}{ln la:Addr}{n:Nat}{ds:List Nd}{args:List Nat}{Q:Addr->Hp->Prop}(sG:aG G H)(hn:lQ A G ln n ds)(hla:H la=some (.lst (bZ args)))(hl:args.length=n)(hz1:ds.length<=1000)(hz2:n<=1000)
  (k:∀(a:Addr×Addr)(H':Hp),aG H H'->H a.1=none->H a.2=none->a.1≠a.2->jA A G H' a (vE ds n args)->Q a.1 H'):
  ∀x dx,H x=none->H dx=none->dx≠x->uC A [.ref x,.ref ln,.ref la] (ao (ao H dx (.own x)) x (.ins A.A9 dx [])) (λv H2=>v=.ez/\Q x H2) E0:=by
 intro x dx hx hdx hne;obtain⟨nas,e1,e2⟩:=id hn;have s0:aG H (ao (ao H dx (.own x)) x (.ins A.A9 dx [])):=(aG.upd hdx _).trans (aG.upd (by rw[aw (Ne.symm hne)];exact hx) _);have hnl:nas.length=ds.length:=cc.len e2 (kl _ _);refine⟨x,dx,ln,la,nas.map V.ref,args,rfl,ah,s0 _ _ (sG _ _ e1),s0 _ _ hla,by rw[bD];omega,by omega,λlh H' hlh f1 f2 kp=>⟨rfl, ?_⟩⟩;have s1:aG H H':=aG.made hx hdx kp;have nx:lh≠x:=λe=>by rw[e,ah] at hlh;cases hlh
 refine k (x,lh) H' s1 hx (s0.free hlh) (Ne.symm nx) ⟨dx,ln, ?_,hn, ?_⟩
 ·rw[f1,hl];rfl
 ·rw[f2,bD,hnl];rfl
def xc(A:bU):Sp:=λvs H Q _=> ∃(G:Hp)(hp na lh va dxv wa lb ln:Addr)(d:Nd)(held:List Nat)(n:Nat)(ds:List Nd),vs=[.ref hp,.ref na,.ref lh]/\aG G H/\ny A G na d/\H lh=some (.lst (bZ held))/\yC held.length d/\qk A H hp d.num va/\
 G va=some (.ins A.dH dxv (iK (.ref wa) (.ref lb) (.ref ln)))/\lQ A G ln n ds/\d.parts.length=n/\ds.length<=1000/\n<=1000/\
 ∀(a:Addr×Addr)(H':Hp),aG H H'->H a.1=none->H a.2=none->a.1≠a.2->jA A G H' a (vE ds n (d.parts.map λp=>held.getD p 0))->Q (.ref a.1) H'
def xC:fQ P0 w0 b0 T 3 33 ["house","node","held"] (xc A):=by
 refine b8 (top 83) ["house","node","held","place"] (T.p 33).1 λS H vs Q E hr h=>?_
 obtain⟨G,hp,na,lh,va,dxv,wa,lb,ln,d,held,n,ds,rfl,sG,⟨dn,lp,oo,oz,g_n,g_p⟩,hlh,ok,inf,hva,hn,hpl,hz1,hz2,q⟩:=h;refine⟨_,(aj (az (fF T.rh (uP T) hr (ab (aF (aV (T.p 24) (dP T) hr (ab (pv 0) (ab (aF (pv 1)) ax)))) (ab (p5 rfl S.nd (g9 (aF (pv 1))) (rQ S [("place",3)]) (λ_ _ _ _ _=>(fv 3 S.nd)) (λ_ _ _ _ _=>ip) (λ_ _ _ _ _=>(kS (r:=gY K) mX (pv 2) (pv 3) (λ_ _=>rfl)))) ax))))), ?_⟩;have e_n:=sG _ _ g_n;refine aR (mP (aY (cQ (aC (du (v:=.ref va) (ae (aa rfl) (ae (aC (aa rfl) e_n T.cY T.fA (ig _ _ _ _ _)) au)) λQ q=>⟨hp,d.num,va,rfl,inf,q⟩) (sG _ _ hva) T.bN T.df (fP _ _ _)) ?_)));refine aY (xp (ys:=bZ (d.parts.map λp=>held.getD p 0)) (aC (aa rfl) e_n T.cY T.jn (nB _ _ _ _ _)) (cG.of (sG _ _ g_p)) (by simp) (by simp;omega) (by show 3<4;decide) (λi x y H' hx hy sH=>?_) λD hD=>?_)
 ·rw[cU] at hx;obtain⟨p,hp',rfl⟩:=bO.mp hx;rw[cU,cU,hp'] at hy;cases hy;exact ay (aa rfl) (aa rfl) (bM (sH _ _ hlh) (bG (kW (ok.parts p (iN hp')))))
 ·have sD:aG H (ao H D (.lst (bZ (d.parts.map λp=>held.getD p 0)))):=aG.upd hD _;refine cV (Ja (sG.trans sD) hn ah (by rw[bD];exact hpl) hz1 hz2 λa H' s1 h1 h2 h3 R=>q a H' (sD.trans s1) (sD.free h1) (sD.free h2) h3 R)
end Wh
namespace Wh
open PySem PySem.Spec PyProof.Rows L2
open Kp212 (Known Bound Word Programs ROUND DEEP goodBound wordOf version both)
variable {P0:Program} {w0:World} {K:bg} {mg:Str->Option Value} {b0:Heap} {A:bU} (T:Txt K mg A)
abbrev ic(as:List (Addr×Addr)):List Addr:=as.flatMap λa=>[a.1,a.2]
def iH(h:a∈as):a.1∈ic as/\a.2∈ic as:=
 ⟨List.mem_flatMap.mpr ⟨a,h,by simp⟩,List.mem_flatMap.mpr ⟨a,h,by simp⟩⟩
structure kH(A:bU)(G H0 H:Hp)(lr:Addr)(as:List (Addr×Addr))(rs:List RS):Prop where
 list:H lr=some (.lst (as.reverse.map λa=>V.ref a.1))
 runs:bF (jA A G H) as rs
 nd:(lr :: ic as).Nodup
 free:∀m∈lr :: ic as,H0 m=none
 same:aG H0 H
section
variable {A:bU} {G H0 H H':Hp} {lr:Addr} {a:Addr×Addr} {as:List (Addr×Addr)} {r r':RS} {rs:List RS}
def kH.settle(R:kH A G H0 H lr (a :: as) (r :: rs))(hk:∀b,b≠a.1->b≠a.2->H' b=H b)(hr:jA A G H' a r'):kH A G H0 H' lr (a :: as) (r' :: rs):=by
 have nd:=R.nd;simp only[ic,wq,ur,rk,fh,bp,not_or] at nd;obtain⟨⟨n1,n2,n3⟩,⟨n4,n5⟩,n6,n7⟩:=nd;have f:=R.free;refine⟨?_,.cons hr ?_,R.nd,R.free,λb o e=>?_⟩
 ·rw[hk lr n1 n2];exact R.list
 ·cases R.runs with
  |cons _ q=>
   refine bF.sA q λb x hb hx=>hx.keep (hk _ ?_ ?_) (hk _ ?_ ?_)
   ·intro e;exact n5 (by rw[<- e];exact(iH hb).1)
   ·intro e;exact n6 (by rw[<- e];exact(iH hb).1)
   ·intro e;exact n5 (by rw[<- e];exact(iH hb).2)
   ·intro e;exact n6 (by rw[<- e];exact(iH hb).2)
 ·rw[hk b]
  ·exact R.same b o e
  ·intro z;rw[z,f a.1 (by simp[ic])] at e;cases e
  ·intro z;rw[z,f a.2 (by simp[ic])] at e;cases e
def kH.pop(R:kH A G H0 H lr (a :: as) (r :: rs)):kH A G H0 (ao H lr (.lst (as.reverse.map λa=>V.ref a.1))) lr as rs:=by
 have nd:=R.nd;simp only[ic,wq,ur,rk,fh,bp,not_or] at nd;obtain⟨⟨n1,n2,n3⟩,⟨n4,n5⟩,n6,n7⟩:=nd;refine⟨ah, ?_,by simp only[fh];exact⟨n3,n7⟩,λm hm=>R.free m ?_,λb o e=>?_⟩
 ·cases R.runs with
  |cons _ q=>
   refine bF.sA q λb x hb hx=>hx.keep (aw ?_) (aw ?_)
   ·intro e;exact n3 (by rw[<- e];exact(iH hb).1)
   ·intro e;exact n3 (by rw[<- e];exact(iH hb).2)
 ·rcases bp.mp hm with rfl |hm
  ·simp
  ·simp only[ic,wq,bp,cv];exact .inr (.inr hm)
 ·rw[aw]
  ·exact R.same b o e
  ·intro z;rw[z,R.free lr (by simp)] at e;cases e
def kH.push(R:kH A G H0 H lr as rs)(s:aG H H')(h1:H a.1=none)(h2:H a.2=none)(h3:a.1≠a.2)(hr:jA A G H' a r):
  kH A G H0 (ao H' lr (.lst ((as.reverse.map λa=>V.ref a.1)++[.ref a.1]))) lr (a :: as) (r :: rs):=by
 have Hn:∀m∈lr :: ic as,H m≠none:=by
  intro m hm
  rcases bp.mp hm with rfl |hm
  ·rw[R.list];simp
  ·obtain⟨b,hb,hm⟩:=List.mem_flatMap.mp hm;obtain⟨i,hi⟩:=lS hb;obtain⟨y,_,dx,ln,e1,_,e3⟩:=R.runs.get hi;simp at hm
   rcases hm with rfl |rfl
   ·rw[e1];simp
   ·rw[e3];simp
 have m1:a.1∉lr :: ic as:=λz=>Hn _ z h1
 have m2:a.2∉lr :: ic as:=λz=>Hn _ z h2
 have nd:=R.nd;simp only[fh,bp,not_or] at nd m1 m2;refine⟨by rw[ah];simp,.cons (hr.keep (aw m1.1) (aw m2.1)) ?_, ?_,λm hm=>?_,λb o e=>?_⟩
 ·refine bF.sA R.runs λb x hb hx=>(hx.same s).keep (aw ?_) (aw ?_)
  ·intro e;exact nd.1 (by rw[<- e];exact(iH hb).1)
  ·intro e;exact nd.1 (by rw[<- e];exact(iH hb).2)
 ·simp only[ic,wq,ur,rk,fh,bp,not_or];exact⟨⟨Ne.symm m1.1,Ne.symm m2.1,nd.1⟩,⟨h3,m1.2⟩,m2.2,nd.2⟩
 ·simp only[ic,wq,ur,rk,bp] at hm
  rcases hm with rfl |rfl |rfl |hm
  ·exact R.free _ (by simp)
  ·exact R.same.free h1
  ·exact R.same.free h2
  ·exact R.free m (cZ _ hm)
 ·rw[aw]
  ·exact s _ _ (R.same b o e)
  ·intro z;rw[z,R.free lr (by simp)] at e;cases e
end
def bF.last(h:bF R l m)(ha:l.getLast? =some a):∃b,m.getLast? =some b/\R a b:=by
 rw[wx] at ha;obtain⟨b,h1,h2⟩:=h.get ha;rw[h.length] at h1;exact⟨b,by rw[wx];exact h1,h2⟩
def CO(h:held≠[]):Dq (bZ held) (-1)=some (nv (held.getLastD 0)):=by
 have e:bZ held=bZ held.dropLast++[nv (held.getLast h)]:=by
  have:bZ held.dropLast++[nv (held.getLast h)]=bZ (held.dropLast++[held.getLast h]):=by simp
  rw[this,zb]
 have g:held.getLastD 0=held.getLast h:=by rw[DB,wL h];rfl
 rw[e,g];exact mB _ _
def Cm(A:bU):Sp:=λvs H Q _=> ∃(G:Hp)(hp dp:Addr)(ks:List Nat)(pa lv:Nat->Addr)(ps:Programs)(f:Nat)(v:c7)(la:Addr)(args:List Nat)(x s:Nat),vs=[.ref hp,nv f,.ref la]/\aG G H/\kJ A H hp dp/\mE A G H dp ks pa lv ps/\cE ps/\
 version ps f=some v/\H la=some (.lst (bZ args))/\Small args/\args.length=v.word.params.length/\(∃r,Kp212.run ps DEEP args v.body=some (x,s,r))/\s<=90000/\
 ∀(oa dx:Addr)(H':Hp),aG H H'->H oa=none->H' oa=some (.ins A.ue dx (mF (nv x) (nv s)))->Q (.ref oa) H'
def uO:fQ P0 w0 b0 T 4 34 ["house","f","arguments"] (Cm A):=by
 refine b8 (top 84) ["house","f","arguments","whole","runs","steps","run","node"] (T.p 34).1 λS H vs Q E hr h=>?_
 obtain⟨G,hp,dp,ks,pa,lv,ps,f,v,la,args,x,s,rfl,sG,hr',hps,ok,hv,hla,sm,hl,⟨rr,hrun⟩,hz,q⟩:=h;obtain⟨va,inf,dxv,wa,lb,vn,g1,g2,g3,g4⟩:=hps.jq hr' hv;obtain⟨ds,hds⟩:=ok.read hv;rw[hds] at g4
 rcases g4 with⟨z,_⟩ | ⟨ln,ds',z1,rfl,hno,bP,hne,hdz⟩
 ·cases z
 cases z1;have hn4:v.word.params.length<=4:=(cJ.mp (ok.wX hv).word).1;obtain⟨heldf,m0,hreach,hhl,hhx⟩:=GH ok hv hds sm hl hrun;have M0:=z7.start ok hv hds sm hl;refine⟨_,(af (aT 3 S.nd (fF T.rh (uP T) hr (ab (aF (aV (T.p 24) (dP T) hr (ab (pv 0) (ab (pv 1) ax)))) (ab (pv 2) ax))))
   (af (aT 4 S.nd (b9 (ab (pv 3) ax)))
   (af (aT 5 S.nd aA)
   (af (oX PassesOwn.never (jh (fU (aV (T.p 30) (se T) hr (ab (pv 3) ax)))) (af (aT 6 S.nd (aZ (pv 4) (qy lF aA)))
   (aj (aQ (fU (aV (T.p 30) (se T) hr (ab (pv 6) ax))) (af (cu (B3 PySem.F.plainAttrs_list PySem.F.slot_list_pop PySem.F.type_list_pop Bh (pv 4)))
   (aj (cu (aV (T.p 32) (zR T) hr (ab (aZ (pv 4) (qy lF aA)) (ab (aZ (aF (pv 6)) (qy lF aA)) ax)))))) (af (Ec (i:=5) S.nd rfl (by first |exact Or.inl rfl |exact Or.inr rfl) aA Ew)
   (af (aT 7 S.nd (aV (T.p 31) (uK T) hr (ab (pv 6) ax)))
   (aj (aQ (aO bq (aF (pv 7)) (aP T.u9)) (aj (cu (m9 (pv 4) (aV (T.p 33) (xC T) hr (ab (pv 0) (ab (pv 7) (ab (aF (pv 6)) ax))))))) (aj (cu (aV (T.p 32) (zR T) hr (ab (pv 6) (ab (aV (T.p 29) (tT T) hr (ab (pv 7) (ab (aF (pv 6)) ax))) ax)))))))))))))
   (aj (az (fF T.pV (vO T) hr (ab (aZ (aF (pv 3)) (qy lF aA)) (ab (pv 5) ax))))))))), ?_⟩
 refine aL (cA (qR (ae (aC (du (v:=.ref va) (ae (aa rfl) (ae (aa rfl) au)) λQ q=>⟨hp,f,va,rfl,inf,q⟩) (sG _ _ g1) T.bN T.df (fP _ _ _)) (ae (aa rfl) au))
  (Ja sG hno hla hl (by omega) (by omega) λw H1 s1 w1 w2 w3 R1=>?_)))
 dsimp only;refine aL (cA (dY (ae (aa rfl) au) (by show 1<=sizeLine;decide) λlr hlr=>?_));dsimp only;refine aL (bY aH ?_);dsimp only;have ne1:w.1≠lr:=λe=>by obtain⟨_,_,e1,_⟩:=R1;rw[e,hlr] at e1;cases e1
 have ne2:w.2≠lr:=λe=>by obtain⟨_,_,_,_,e1⟩:=R1;rw[e,hlr] at e1;cases e1
 have R2:kH A G H (ao H1 lr (.lst [.ref w.1])) lr [w] [vE ds v.word.params.length args]:=by
  refine⟨ah,.cons (R1.keep (aw ne1) (aw ne2)) .nil, ?_,λm hm=>?_,s1.trans (aG.upd hlr _)⟩
  ·simp[ic];exact⟨⟨Ne.symm ne1,Ne.symm ne2⟩,w3⟩
  ·simp[ic] at hm
   rcases hm with rfl |rfl |rfl
   ·exact s1.free hlr
   ·exact w1
   ·exact w2
 refine aL (HZ (λm σ H'=> ∃(vr vn:Option V)(st:MS)(as:List (Addr×Addr)),σ=[some (.ref hp),some (nv f),some (.ref la),some (.ref w.1),some (.ref lr),some (nv st.2),vr,vn]/\
   Reach ps st ([⟨ds,p6 v.word.params.length ds,v.word.params.length,heldf,v.word.params.length+ds.length⟩],s) m/\z7 ps st/\kH A G H H' lr as st.1/\as.getLast? =some w) m0 ⟨none,none,_,[w],rfl,hreach,M0,R2,rfl⟩ ?_)
 intro m σ H' z0;obtain⟨vr,vn,st,as,rfl,hre,M,R,hlast⟩:=z0;obtain⟨rb,hrb,RB⟩:=bF.last R.runs hlast;have sG':aG G H':=sG.trans R.same;refine⟨_,Bu (yh (du (v:=.bl (decide (rb.at_=rb.held.length))) (ae (aa rfl) au) λQ q=>⟨G,w,rb,rfl,RB,q⟩)),λeb=>?_,λeb=>?_⟩
 ·
  rcases hre.inv with⟨rfl,rfl⟩ | ⟨m',st1,rfl,hst,hre'⟩
  ·simp only[List.getLast?_singleton,Option.some.injEq] at hrb;subst hrb;simp[hhl] at eb
  obtain⟨M1,hle,_⟩:=M.step hst;have hles:st1.2<=s:=(hre'.mono M1).2;obtain⟨r,rs,hs1,hc⟩:=uT hst M;obtain⟨st0,k⟩:=st;simp only at hs1 hc R hrb hle hst hles;subst hs1;obtain⟨a,as',rfl⟩ :∃x y,as=x :: y:=by
   cases as with
   |nil=>simp at hlast
   |cons x y=>exact⟨x,y,rfl⟩
  have RA:jA A G H' a r:=by cases R.runs with |cons q _=>exact q
  have ok_r:=M.runs r (by simp);have few:=M.few;simp only[cR] at few;have asl:as'.length=rs.length:=by have:=R.runs.length;simpa using this
  obtain⟨dxa,lna,ra1,ra2,ra3⟩:=id RA;have ga:G a.1=none/\G a.2=none:=⟨sG.free (R.free a.1 (by simp[ic])),sG.free (R.free a.2 (by simp[ic]))⟩;have etop:∀{H2:Hp}{σ:b6}{b:Addr×Addr}{bs:List (Addr×Addr)},H2 lr=some (.lst ((b :: bs).reverse.map λa=>V.ref a.1))->σ[4]? =some (some (.ref lr))->Ev (jR (gY K) (bA 4) (O0 (rU λi=>.int (-i)) (tC (V.int 1)))) σ H2 (.ref b.1):=λ{H2 σ b bs} h s4=>by
   refine ay (aa s4) (pG aH) (bM h ?_);have:((b :: bs).reverse.map λa=>V.ref a.1)=(bs.reverse.map λa=>V.ref a.1)++[V.ref b.1]:=by simp
   rw[this];exact mB _ _
  refine aL (bY (etop R.list rfl) ?_);dsimp only;refine xm (yh (du (v:=.bl (decide (r.at_=r.held.length))) (ae (aa rfl) au) λQ q=>⟨G,a,r,rfl,RA,q⟩)) (λe=>?_) λe=>?_
  ·have hend:r.at_=r.held.length:=by simpa using e
   rcases hc with⟨_,r2,rs',rfl,rfl⟩ | ⟨_,h2,_⟩ | ⟨_,h2,_⟩
   ·obtain⟨a2,as2,rfl⟩ :∃x y,as'=x :: y:=by
     cases as' with
     |nil=>simp at asl
     |cons x y=>exact⟨x,y,rfl⟩
    have R3:=R.pop;have sG3:aG G (ao H' lr (.lst ((a2 :: as2).reverse.map λa=>V.ref a.1))):=sG.trans R3.same;have RA2:jA A G (ao H' lr (.lst ((a2 :: as2).reverse.map λa=>V.ref a.1))) a2 r2:=by cases R3.runs with |cons q _=>exact q
    have ok2:=M.runs r2 (by simp);have low2:=M.low r2 (by simp);have nlr1:a.1≠lr:=λz=>by rw[z,R.list] at ra1;cases ra1
    have nlr2:a.2≠lr:=λz=>by
     have nd:=R.nd;simp only[ic,wq,ur,rk,fh,bp,not_or] at nd;exact nd.1.2.1 z.symm
    have hne':r.held≠[]:=by
     intro z;have h1:=ok_r.len;have h2:=(ok_r.nodes ok).2.1;rw[z] at h1;simp only[zt] at h1;exact h2 (jv.mp (by omega))
    refine aL (gX (Fo (xs:=(a2 :: as2).reverse.map λa=>V.ref a.1) (y:=.ref a.1) (aa rfl) (by rw[R.list];simp) ?_));refine gX (aS (ae (etop ah rfl) (ae (ay (aC (aa rfl) (by rw[aw nlr1];exact ra1) T.hU T.gC (jk _ _ _ _)) (pG aH) (bM (by rw[aw nlr2];exact ra3) (CO hne'))) au)) ?_);refine⟨G,a2,r2,r.held.getLastD 0,rfl,sG3,RA2,ok2.p6,low2.1,low2.2,ok2.len,sG.free (R3.free _ (by simp[ic])),sG.free (R3.free _ (by simp[ic])),λH4 fr R4=>?_⟩;exact⟨m',kO _,_,_,_,a2 :: as2,rfl,hre',M1,R3.settle fr R4,by simpa using hlast⟩
   ·omega
   ·omega
  ·have hend:r.at_≠r.held.length:=by simpa using e
   rcases hc with⟨h1,_⟩ |hc
   ·exact aI h1 hend
   have hnl:r.n<=r.at_/\r.at_<r.held.length:=by
    rcases hc with⟨h1,h2,_⟩ | ⟨h1,h2,_⟩ <;>exact⟨h1,h2⟩
   refine aL (Iy rfl aH ?_);have ek:V.int ((k:Int)+1)=nv (k+1):=by simp
   rw[ek];dsimp only;refine aL (cA (aS (ae (aa rfl) au) ⟨G,a,r,rfl,sG',RA,hnl.1,by have:=ok_r.len;omega,λna d o z h1 h2 h3=>?_⟩));dsimp only;obtain⟨dxn,lp,h3,h4⟩:=h3;have hna:ny A G na d:=⟨dxn,lp,_,_,h3,h4⟩;have hnd:=sG' _ _ h3;have okd:yC r.held.length d:=((ok_r.nodes ok).1 _ _ h1).mono (by have:=ok_r.len;have:=(dm.mp h1).1;omega);refine xm (aD (ay (aC (aa rfl) hnd T.cY T.iW (lq _ _ _ _ _)) aH (bX (b:=11)))) (λe2=>?_) λe2=>?_
   ·have h11:d.kind=11:=by simpa using e2
    rcases hc with⟨_,_,d',hd',_,v2,ds2,hv2,hds2,hpl,hst1⟩ | ⟨_,_,d',x',hd',hk',_⟩
    ·rw[h1] at hd';cases hd';subst hst1;have sl:kG H H':=kG.of R.same;obtain⟨va2,inf2,dxv2,wa2,lb2,vn2,i1,i2,i3,i4⟩:=(hps.kg (.refl _) sl).jq (hr'.kg sl) hv2;rw[hds2] at i4
     rcases i4 with⟨z,_⟩ | ⟨ln2,ds2',z1,rfl,hno2,hok2,hne2,hdz2⟩
     ·cases z
     cases z1;have hn2:v2.word.params.length<=4:=(cJ.mp (ok.wX hv2).word).1;refine jX (aa rfl) R.list ?_;refine aS (ae (aa rfl) (ae (aa rfl) (ae (aC (aa rfl) ra1 T.hU T.gC (jk _ _ _ _)) au))) ?_;refine⟨G,hp,na,a.2,va2,dxv2,wa2,lb2,ln2,d,r.held,_,ds2,rfl,sG',hna,ra3,okd,inf2,i1,hno2,hpl,by omega,by omega,λb H4 s4 b1 b2 b3 R4=>?_⟩;refine uf (s4 _ _ R.list) (by rw[bD,uo,cR];exact big (by simp only at hles;omega)) ?_;exact⟨m',kO _,_,_,_,b :: a :: as',rfl,hre',M1,R.push s4 b1 b2 b3 R4,by rw[List.getLast?_cons_cons];exact hlast⟩
    ·rw[h1] at hd';cases hd';exact aI h11 hk'
   ·have h11:d.kind≠11:=by simpa using e2
    rcases hc with⟨_,_,d',hd',hk',_⟩ | ⟨_,_,d',x',hd',hk',hx',hR',hst1⟩
    ·rw[h1] at hd';cases hd';exact aI hk' h11
    ·rw[h1] at hd';cases hd';subst hst1;refine gX (aS (ae (aa rfl) (ae (du (v:=nv x') (ae (aa rfl) (ae (aC (aa rfl) ra1 T.hU T.gC (jk _ _ _ _)) au)) λQ q=>⟨G,na,a.2,d,r.held,x',rfl,sG',hna,ra3,okd,ok_r.small,h11,hx',q⟩) au)) ?_);refine⟨G,a,r,x',rfl,sG',RA,ok_r.p6,hnl.1,hnl.2,ok_r.len,ga.1,ga.2,λH4 fr R4=>?_⟩;exact⟨m',kO _,_,_,_,a :: as',rfl,hre',M1,R.settle fr R4,hlast⟩
 ·
  rcases hre.inv with⟨rfl,rfl⟩ | ⟨m',st1,rfl,hst,hre'⟩
  ·simp only[List.getLast?_singleton,Option.some.injEq] at hrb;subst hrb;obtain⟨dxw,lnw,w4,w5,w6⟩:=RB;have hne':heldf≠[]:=by
    intro z;rw[z] at hhl;simp only[zt] at hhl;exact hne (jv.mp (by omega))
   dsimp only;refine aR (Lr (ae (ay (aC (aa rfl) w4 T.hU T.gC (jk _ _ _ _)) (pG aH) (bM w6 (CO hne'))) (ae (aa rfl) au)) rfl λoa dx H5 s5 e5 h5=>?_);refine q oa dx H5 (R.same.trans s5) (R.same.free h5) ?_;rw[e5];show some (HO.ins A.ue dx (mF (nv (heldf.getLastD 0)) (nv s)))=_;rw[hhx]
  ·obtain⟨_,_,r,rs,hs1,hbot⟩:=M.step hst;rw[<- hs1] at hbot;have:=hbot rb hrb;simp[this] at eb
end Wh
namespace Wh
open PySem PySem.Spec PyProof.Rows L2
open Kp212 (Known Bound Word Programs ROUND goodBound wordOf version calls callers)
variable {P0:Program} {w0:World} {K:bg} {mg:Str->Option Value} {b0:Heap} {A:bU} (T:Txt K mg A)
theorem qP:∀{l m:List Nat},l.Pairwise (· < ·)->m.Pairwise (· < ·)->(∀x,x∈l↔x∈m)->l=m
 | [],[],_,_,_=>rfl
 | [],y :: m,_,_,h=>by have:=(h y).mpr cF;simp at this
 |x :: l,[],_,_,h=>by have:=(h x).mp cF;simp at this
 |x :: l,y :: m,hl,hm,h=>by
  obtain⟨l1,l2⟩:=DA.mp hl;obtain⟨m1,m2⟩:=DA.mp hm;have e:x=y:=by
   rcases bp.mp ((h x).mp cF) with z |z
   ·exact z
   ·rcases bp.mp ((h y).mpr cF) with q |q
    ·exact q.symm
    ·have a:=m1 x z;have b:=l1 y q;omega
  subst e;congr 1;refine qP l2 m2 λz=>⟨λhz=>?_,λhz=>?_⟩
  ·rcases bp.mp ((h z).mp (cZ _ hz)) with q |q
   ·subst q;have:=l1 _ hz;omega
   ·exact q
  ·rcases bp.mp ((h z).mpr (cZ _ hz)) with q |q
   ·subst q;have:=m1 _ hz;omega
   ·exact q
def rM(p:Nat->Bool)(n:Nat):((List.range n).filter p).Pairwise (· < ·):=List.Pairwise.filter _ List.pairwise_lt_range
def FC{ms:List Int}(h:∀k∈ms,0<=k):ms.map V.int=bZ (ms.map Int.toNat):=by
 show ms.map V.int=(ms.map Int.toNat).map nv;rw[zj];refine zi λk hk=>?_
 have:=h k hk;show V.int k=V.int ((k.toNat:Nat):Int);rw[Int.toNat_of_nonneg this]
def uQ{ms:List Int}(h:∀k∈ms,0<=k)(hs:ms.Pairwise (· < ·)):(ms.map Int.toNat).Pairwise (· < ·):=by
 rw[List.pairwise_map];refine List.Pairwise.imp_of_mem (λ{a b} ha hb hab=>?_) hs;have:=h a ha;have:=h b hb;omega
def xY(l:List Nat):bZ l=(l.map λn=>((n:Nat):Int)).map V.int:=by rw[zj];rfl
def AU(h:tl σ H λvs H1=>r vs H1 Q):Ke r tl σ H Q:=h
def AM(A:bU):Sp:=λvs H Q _=> ∃(G:Hp)(hp dp:Addr)(ks:List Nat)(pa lv:Nat->Addr)(ps:Programs)(f:Nat)(v:c7),vs=[.ref hp,nv f]/\aG G H/\kJ A H hp dp/\mE A G H dp ks pa lv ps/\cE ps/\version ps f=some v/\
 ∀(l:Addr)(H':Hp),aG H H'->H l=none->H' l=some (.lst (bZ (calls ps f)))->Q (.ref l) H'
def so:fQ P0 w0 b0 T 2 26 ["house","f"] (AM A):=by
 refine b8 (top 73) ["house","f","node"] (T.p 26).1 λS H vs Q E hr h=>?_
 obtain⟨G,hp,dp,ks,pa,lv,ps,f,v,rfl,sG,hr',hps,ok,hv,q⟩:=h;obtain⟨va,inf,dxv,wa,lb,vn,g1,g2,g3,g4⟩:=hps.jq hr' hv;obtain⟨ds,hds⟩:=ok.read hv;rw[hds] at g4
 rcases g4 with⟨z,_⟩ | ⟨ln,ds',z1,rfl,hno,bP,hne,hdz⟩
 ·cases z
 cases z1;obtain⟨nas,g_ln,g_ns⟩:=hno.at_;have hnl:=g_ns.length;refine⟨_,(aj (az (cC (BB rfl) (by rfl) T.CI Dp (ab (md (L9 rfl) (by rfl) T.Nm NK (ab (p5 rfl S.nd (g9 (aF (aV (T.p 24) (dP T) hr (ab (pv 0) (ab (pv 1) ax))))) (rQ S [("node",2)]) (λ_ _ _ _ _=>(fv 2 S.nd)) (λ_ _ _ _ _=>Fs (aO bq (show PE _ _ (da K _ _) from aF (pv 2)) (aP T.u9))) (λ_ _ _ _ _=>(show PE _ _ (da K _ _) from aF (pv 2)))) ax)) ax)))), ?_⟩;refine aR (AU (aY (AU (aY (N9 (cQ (aC (du (v:=.ref va) (ae (aa rfl) (ae (aa rfl) au)) λQ q=>⟨hp,f,va,rfl,inf,q⟩) (sG _ _ g1) T.bN T.df (fP _ _ _))
  (Jj (a:=ln) (xs:=nas.map V.ref) (cG.of (sG _ _ g_ln)) (λD i H'=>H'=ao H D (.lst (bZ (bw (ds.take i))))/\H D=none) (λD hD=>⟨rfl,hD⟩) (λD i H' ⟨e,hD⟩ =>by rw[e];exact cG.of (aG.upd hD _ _ _ (sG _ _ g_ln))) ?_ ?_)))))))
 ·rintro D i x H' hD hx ⟨rfl,_⟩;rw[cU] at hx;obtain⟨na,hna,rfl⟩:=bO.mp hx;obtain⟨nd,hnd,dxn,lp,oo,oz,n1,n2⟩:=g_ns.get hna;have hi:i<ds.length:=(dm.mp hnd).1;have n1':=aG.upd hD (.lst (bZ (bw (ds.take i)))) _ _ (sG _ _ n1);refine Cq (aD (ay (aC (aa rfl) n1' T.cY T.iW (lq _ _ _ _ _)) aH (bX (b:=11)))) ?_;have hc:=sU (ds.take i) nd;rw[<- take_snoc hnd] at hc;by_cases h11:nd.kind=11
  ·rw[decide_eq_true h11,ai rfl];refine cQ (aC (aa rfl) n1' T.cY T.fA (ig _ _ _ _ _)) ⟨_,ah, ?_, ?_,hD⟩
   ·rw[bD];have:(bw (ds.take i)).length<=ds.length:=by
     unfold bw;rw[bD];exact eY (wC _ _) (by rw[nL];omega)
    exact big (by omega)
   ·rw[bS,hc,ai h11];simp
  ·rw[decide_eq_false h11,ag (by decide),hc,ag h11,qw];exact⟨rfl,hD⟩
 ·rintro D H' hD ⟨rfl,_⟩;rw[bD,hnl,rj];have hsub:∀g∈bw ds,g<16:=λg hg=>by
   have:=(ok.q5 hv hds g).mpr hg;unfold calls at this;rw[hv] at this;simp[eJ] at this;exact this.1
  have hlen:(bw ds).length<=ds.length:=by
   unfold bw;rw[bD];exact wC _ _
  have hmem:∀k:Int,k∈(bw ds).map (λn=>((n:Nat):Int))↔∃n∈bw ds,((n:Nat):Int)=k:=λk=>fg
  refine cV ⟨D,(bw ds).map λn=>((n:Nat):Int),rfl,cG.of (by rw[<- xY];exact ah),by rw[bD];unfold scanBound;omega,λp hp'=>cV ⟨p,_,rfl,ah, ?_,λms l hs hm h64 hl=>?_⟩⟩
  ·have:=bV.J0 (n:=16) (ns:=(bw ds).map λn=>((n:Nat):Int)) λk hk=>by
    obtain⟨n,hn,rfl⟩:=(hmem k).mp hk;have:=hsub n hn;omega
   omega
  ·have hpos:∀k∈ms,0<=k:=λk hk=>by
    obtain⟨n,hn,rfl⟩:=(hmem k).mp ((hm k).mp hk);omega
   have e:ms.map Int.toNat=calls ps f:=by
    refine qP (uQ hpos hs) ?_ λg=>?_
    ·unfold calls;rw[hv];exact rM _ _
    ·rw[ok.q5 hv hds g,fg];constructor
     ·intro z0;obtain⟨k,hk,rfl⟩:=z0;obtain⟨n,hn,rfl⟩:=(hmem k).mp ((hm k).mp hk);simpa using hn
     ·intro hg;exact⟨(g:Int),(hm _).mpr ((hmem _).mpr ⟨g,hg,rfl⟩),by simp⟩
   have s1:=aG.upd hD (.lst (bZ (bw ds)));have s2:=s1.trans (aG.upd hp' (Lh P0 w0 p ((bw ds).map λn=>((n:Nat):Int))));refine q l _ (s2.trans (aG.upd hl _)) (s2.free hl) ?_;rw[ah,FC hpos,e]
def Kn(h:ta σ H λx H1=>tb σ H1 λy H2=>r x y H2 Q):jR r ta tb σ H Q:=h
def KS(f:Nat)(l:List Nat):O7 (nv f) (bZ l)=l.contains f:=by
 unfold O7
 induction l with
 |nil=>rfl
 |cons a l ih=>
  show(Ka (nv a) (nv f)||(bZ l).any λy=>Ka y (nv f))=_;rw[ih,List.contains_cons];congr 1;show((a:Int)==(f:Int))=(f==a);by_cases h:a=f
  ·subst h;simp
  ·rw[beq_eq_false_iff_ne.mpr (by omega:¬(a:Int)=(f:Int)),beq_eq_false_iff_ne.mpr λz=>h z.symm]
def JD(l:List Nat):(bZ l).all sO=true:=by
 rw[je];intro x hx;obtain⟨n,_,rfl⟩:=fg.mp hx;rfl
def yL(A:bU):Sp:=λvs H Q _=> ∃(G:Hp)(hp dp:Addr)(ks:List Nat)(pa lv:Nat->Addr)(ps:Programs)(f:Nat),vs=[.ref hp,nv f]/\aG G H/\kJ A H hp dp/\H dp=some (.dK (kvsOf ks pa))/\mE A G H dp ks pa lv ps/\cE ps/\
 ∀(l:Addr)(H':Hp),aG H H'->H l=none->H' l=some (.lst (bZ (callers ps f)))->Q (.ref l) H'
def lJ:fQ P0 w0 b0 T 3 27 ["house","f"] (yL A):=by
 refine b8 (top 74) ["house","f","g"] (T.p 27).1 λS H vs Q E hr h=>?_
 obtain⟨G,hp,dp,ks,pa,lv,ps,f,rfl,sG,hr',hdp,hps,ok,q⟩:=h;obtain⟨dxh,fsh,eh,el⟩:=id hr';have hks:ks.length<=16:=by
  have:=bV.Br (l:=List.range 16) hps.nd λf hf=>by
   obtain⟨p,e⟩:=(hps.mem f).mp hf;simpa using ok.lt e
  simpa using this
 refine⟨_,(aj (az (p5 rfl S.nd (g9 (cC (yY rfl) (by rfl) T.CI Dp (ab (aF (pv 0)) ax))) (rQ S [("g",2)]) (λ_ _ _ _ _=>(fv 2 S.nd)) (λ_ _ _ _ _=>Fs (Ft (r:=ON K false) GN (pv 1) (aV (T.p 26) (so T) hr (ab (pv 0) (ab (pv 2) ax))) (by with_unfolding_all rfl))) (λ_ _ _ _ _=>(pv 2))))), ?_⟩;refine aR (N9 (AU (aY (cQ (aC (aa rfl) eh T.bu T.aW el) (cV ⟨dp,kvsOf ks pa,ks.map λk=>((k:Nat):Int),rfl,hdp,by simp[kvsOf],by simp[kvsOf];omega,λms l hs hperm hl=>?_⟩)))));have hpos:∀k∈ms,0<=k:=λk hk=>by
  obtain⟨n,_,rfl⟩:=fg.mp (hperm.mem_iff.mp hk);omega
 have hmem:∀g:Nat,g∈ms.map Int.toNat↔g∈ks:=λg=>by
  rw[fg];constructor
  ·intro z0;obtain⟨k,hk,rfl⟩:=z0;obtain⟨n,hn,rfl⟩:=fg.mp (hperm.mem_iff.mp hk);simpa using hn
  ·intro hg;exact⟨(g:Int),hperm.mem_iff.mpr (fg.mpr ⟨g,hg,rfl⟩),by simp⟩
 have hsn:=uQ hpos hs;rw[FC hpos];have hlen:(ms.map Int.toNat).length<=16:=by rw[bD,hperm.length_eq,bD];exact hks
 generalize ms.map Int.toNat=gs at hmem hsn hlen;have sl:aG H (ao H l (.lst (bZ gs))):=aG.upd hl _;have hl2:ao H l (.lst (bZ gs)) l=some (.lst (bZ gs)):=ah;generalize ao H l (.lst (bZ gs))=H1 at sl hl2;refine Jj (a:=l) (xs:=bZ gs) (cG.of hl2) (λD i H'=>aG H1 H'/\H' D=some (.lst (bZ ((gs.take i).filter λg=>(calls ps g).contains f))))
  (λD hD=>⟨aG.upd hD _,ah⟩) (λD i H' p=>cG.of (p.1 _ _ hl2)) ?_ ?_
 ·rintro D i x H' hD hx ⟨sH,hDl⟩;rw[cU] at hx;obtain⟨g,hg,rfl⟩:=bO.mp hx;have hi:i<gs.length:=(dm.mp hg).1;obtain⟨p,hpg⟩:=(hps.mem g).mp ((hmem g).mp (iN hg));obtain⟨v,hv⟩:=ok.there hpg;have sHH:=sl.trans sH;have hfl:((gs.take i).filter λg=>(calls ps g).contains f).length<=16:=eY (wC _ _) (by rw[nL];omega);refine IJ (Kn (cQ (aa rfl) (aS (ae (aa rfl) (ae (aa rfl) au)) ⟨G,hp,dp,ks,pa,lv,ps,g,v,rfl,sG.trans sHH,hr'.kg (.of sHH),hps.kg (.refl _) (.of sHH),ok,hv,λlc H2 s2 n2 e2=>?_⟩)));refine⟨lc,bZ (calls ps g),rfl,.inl (cG.of e2),rfl,JD _,_,rfl, ?_⟩;rw[KS];simp only[nI,if_false];have ht:=take_snoc hg;have hD2:=s2 _ _ hDl;by_cases hc:(calls ps g).contains f=true
  ·rw[ai hc];refine cQ (aa rfl) ⟨_,hD2,by rw[bD];exact big (by omega),λb o e=>?_, ?_⟩
   ·rw[aw (aJ e hD)];exact s2 _ _ (sH _ _ e)
   ·rw[ah,ht,BS,zr,ai hc];simp
  ·rw[ag hc];refine⟨sH.trans s2, ?_⟩;rw[hD2,ht,BS,zr,ag hc];simp
 ·rintro D H' hD ⟨sH,hDl⟩;rw[bD,rj] at hDl;refine q D H' (sl.trans sH) (sl.free hD) ?_;rw[hDl];congr 3;refine qP (List.Pairwise.filter _ hsn) (rM _ _) λg=>?_
  rw[rn,hmem];unfold callers;rw[rn];constructor
  ·rintro⟨z1,z2⟩;obtain⟨p,hpg⟩:=(hps.mem g).mp z1;exact⟨by simpa[eJ] using ok.lt hpg,z2⟩
  ·rintro⟨z1,z2⟩;refine⟨?_,z2⟩;cases hpg:aK ps g with
   |none=>
    unfold calls version at z2;rw[hpg] at z2;simp at z2
   |some p=>exact(hps.mem g).mpr ⟨p,hpg⟩
def w9(h:Small v.body):xW ps v.word (readBody v.body v.word.params.length)=bK ps v:=by
 unfold xW bK;rw[cH ps _ _ h];cases Kp212.inferAll ps v.word.params v.body<;>rfl
def CQ(h:Small v.body)(e:∀g,wordOf ps' g=wordOf ps g):bK ps' v=bK ps v:=by
 cases hr:readBody v.body v.word.params.length with
 |none=>rw[<- w9 h,<- w9 h,hr];rfl
 |some ds=>exact pB h hr λg _=>e g
def gH(ps:Programs)(f:Nat)(v:c7):Programs:=ps.set f (some ⟨0,[v]⟩)
def lE(hf:f<ps.length)(v:c7)(g:Nat):wordOf (gH ps f v) g=if g=f then some v.word else wordOf ps g:=by
 unfold gH;by_cases e:g=f
 ·subst e;rw[ai rfl];unfold wordOf;rw[dX hf];rfl
 ·rw[ag e,lD hf _ e]
def DI(hf:f<ps.length)(hv:p.versions.head? =some v)(g:Nat):wordOf (ps.set f (some p)) g=wordOf (gH ps f v) g:=by
 rw[lE hf];by_cases e:g=f
 ·subst e;rw[ai rfl];unfold wordOf;rw[dX hf];simp[hv]
 ·rw[ag e,lD hf _ e]
def fu(ps:Programs)(f:Nat)(v:c7):Int:=
 if bK (gH ps f v) v=false then -33 else if ((callers ps f).all λg=>match version ps g with |some u=>bK (gH ps f v) u |none=>true)=false then -17 else 0
def rL(P:cE ps)(hf:f<16)(hv:p.versions.head? =some v)(hb:Small v.body):
  fu ps f v=if bK (ps.set f (some p)) v=false then -33 else if gv (ps.set f (some p))=false then -17 else 0:=by
 have hl:f<ps.length:=by have:=P.len;omega
 have e:∀u:c7,Small u.body->bK (ps.set f (some p)) u=bK (gH ps f v) u:=λu hu=>CQ hu λg=>DI hl hv g
 unfold fu;rw[<- e v hb];by_cases hk:bK (ps.set f (some p)) v=false
 ·rw[ai hk,ai hk]
 ·rw[ag hk,ag hk];have hk':bK (ps.set f (some p)) v=true:=by simpa using hk
  have hv':version (ps.set f (some p)) f=some v:=by rw[dX hl];exact hv
  have q:=P.vR hf hv' hk';have:((callers ps f).all λg=>match version ps g with |some u=>bK (gH ps f v) u |none=>true)=gv (ps.set f (some p)):=by
   rw[BY,q,je];constructor
   ·intro h g hg u hu;have:=h g hg;rw[hu] at this;rw[e u (P.wX hu).small];exact this
   ·intro h g hg;cases hu:version ps g with
    |none=>rfl
    |some u=>
     show bK (gH ps f v) u=true;rw[<- e u (P.wX hu).small];exact h g hg u hu
  rw[this]
def wV(P:cE ps)(hf:f<16)(hv:ML v):t7 (gH ps f v):=by
 intro g w hw;rw[lE (by have:=P.len;omega)] at hw;have:jQ w=true:=by
  split at hw
  ·cases hw;exact hv.word
  ·obtain⟨u,hu,e⟩:=gy hw;subst e;exact(P.wX hu).word
 have:=cJ.mp this;exact⟨this.2.2.1,this.2.2.2.1⟩
def pD(h:jQ w=true):w.params.length<=4/\∀b∈w.params,goodBound b=true:=by
 have q:=cJ.mp h;refine⟨q.1,λb hb=>?_⟩;have:=q.2.1 b hb;simp[goodBound,this]
def jL(A:bU):Sp:=λvs H Q _=> ∃(G:Hp)(hp dp:Addr)(ks:List Nat)(pa lv:Nat->Addr)(ps:Programs)(f:Nat)(va:Addr)(v:c7),vs=[.ref hp,nv f,.ref va]/\aG G H/\kJ A H hp dp/\H dp=some (.dK (kvsOf ks pa))/\mE A G H dp ks pa lv ps/\cE ps/\
 f<16/\dI A G va v/\ML v/\∀H',aG H H'->Q (.int (fu ps f v)) H'
def EG(x:mE A G H dp ks pa lv ps)(ok:cE ps):ks.length<=16:=by
 have:=bV.Br (l:=List.range 16) x.nd λf hf=>by
  obtain⟨p,e⟩:=(x.mem f).mp hf;simpa using ok.lt e
 simpa using this
def vf(ps:Programs)(f:Nat):(callers ps f).length<=16:=by
 unfold callers;exact eY (wC _ _) (by simp[eJ])
def jM:fQ P0 w0 b0 T 7 58 ["house","f","version"] (jL A):=by
 refine b8 (top 114) ["house","f","version","words","g","caller"] (T.p 58).1 λS H vs Q E hr h=>?_
 obtain⟨G,hp,dp,ks,pa,lv,ps,f,va,v,rfl,sG,hr',hdp,hps,ok,hf,hva,hvo,q⟩:=h;have hks:=EG hps ok;have hlen:f<ps.length:=by have:=ok.len;omega
 obtain⟨dxv,wa,lb,vn,g1,g2,g3,g4⟩:=id hva;have hwo:=wV ok hf hvo;refine⟨_,(af (aT 3 S.nd (aV (T.p 25) (kT T) hr (ab (pv 0) ax)))
   (af (AX (fO hr) (pv 3) (pv 1) (aF (pv 2)) rfl)
   (af (aQ (jh (fU (aV (T.p 20) (CF T) hr (ab (aF (pv 2)) (ab (aF (pv 2)) (ab (pv 3) ax)))))) (aj (az (aP T.yd))) aE)
   (af (oY PassesOwn.never rfl (g9 (aV (T.p 27) (lJ T) hr (ab (pv 0) (ab (pv 1) ax)))) (fv 4 S.nd) (af (aT 5 S.nd (aV (T.p 24) (dP T) hr (ab (pv 0) (ab (pv 4) ax))))
   (aj (aQ (jh (fU (aV (T.p 20) (CF T) hr (ab (aF (pv 5)) (ab (aF (pv 5)) (ab (pv 3) ax)))))) (aj (az (aP T.mv))) aE))))
   (aj (az aA)))))), ?_⟩
 refine aL (cA (aS (ae (aa rfl) au) ⟨G,hp,dp,ks,pa,lv,ps,rfl,sG,hr',hdp,hps,by omega,λf p h=>ok.there h,λdw H1 s1 n1 hw hwl=>?_⟩));obtain⟨wk,hwk,hwv⟩:=hw;refine aL (IL (a:=dw) (v:=.ref wa) (y:=nv f) (aC (aa rfl) (s1 _ _ (sG _ _ g1)) T.bN T.c9 (cN _ _ _)) (aa rfl) (aa rfl) (BP.k (k:=Sum.inl (f:Int)) hwk (big (by have:=hwl wk hwk;omega))) ?_);have s2:aG H (ao H1 dw (.dK (putK wk (Sum.inl (f:Int)) (.ref wa)))):=λb o e=>by rw[aw (aJ e n1)];exact s1 _ _ e
 have hw2:gV A G (ao H1 dw (.dK (putK wk (Sum.inl (f:Int)) (.ref wa)))) dw (gH ps f v):=by
  refine⟨_,ah,λg=>?_⟩;rw[C1,lE hlen];by_cases e:g=f
  ·subst e;exact .inr ⟨wa,v.word,by rw[ai rfl],by rw[ai rfl],g2⟩
  ·rw[ag λz=>e (by have:=Sum.inl.inj z;omega),ag e];exact hwv g
 generalize ao H1 dw (.dK (putK wk (Sum.inl (f:Int)) (.ref wa)))=H2 at s2 hw2;have sG2:=sG.trans s2;have gp:=pD hvo.word;dsimp only;refine nV (rN (GI (aS (ae (aC (aa rfl) (sG2 _ _ g1) T.bN T.df (fP _ _ _)) (ae (aC (aa rfl) (sG2 _ _ g1) T.bN T.c9 (cN _ _ _)) (ae (aa rfl) au)))
  ⟨G,vn,wa,dw,_,v.word,gH ps f v,rfl,sG2,g4,g2,by omega,gp.2,hw2,hwo,λG3 H3 x3=>⟨_,rfl, ?_⟩⟩)))
 rw[w9 hvo.small];have s3:=s2.trans x3.hh;by_cases hk:bK (gH ps f v) v=false
 ·rw[hk,ai (show(!false)=true from rfl)];refine bc aH ?_;have:=q H3 s3;unfold fu at this;rw[ai hk] at this;exact this
 have hk':bK (gH ps f v) v=true:=by simpa using hk
 rw[hk',ag (show ¬(!true)=true by decide)];have hdp3:=s3 _ _ hdp;have sG3:=sG.trans s3;have hw3:=hw2.same (.refl G) x3.hh;refine aL (Nb (aS (ae (aa rfl) (ae (aa rfl) au)) ⟨G,hp,dp,ks,pa,lv,ps,f,rfl,sG3,hr'.kg (.of s3),hdp3,hps.kg (.refl _) (.of s3),ok,λlc H4 s4 n4 e4=>?_⟩));refine L3 (a:=lc) (xs:=bZ (callers ps f)) (cG.of e4) (λi σ H'=> ∃v4 v5:Option V,σ=[some (.ref hp),some (nv f),some (.ref va),some (.ref dw),v4,v5]/\aG H4 H'/\∀g∈(callers ps f).take i,∀u,version ps g=some u->bK (gH ps f v) u=true)
  ⟨none,none,rfl,.refl _,λg hg=>by simp at hg⟩ (λi σ H' _ ⟨_,_,_,s,_⟩ =>cG.of (s _ _ e4)) ?_ ?_
 ·intro i x σ H' hx z0;obtain⟨v4,v5,rfl,s5,hall⟩:=z0;rw[cU] at hx;obtain⟨g,hg,rfl⟩:=bO.mp hx;have hgm:=iN hg;obtain⟨u,dsu,hu,_⟩:=(ok.pk g f).mp hgm;have s6:=(s3.trans s4).trans s5;have sG6:=sG.trans s6;have hps6:=hps.kg (.refl G) (.of s6);obtain⟨vg,inf,dxu,wu,lbu,vnu,u1,u2,u3,u4⟩:=hps6.jq (hr'.kg (.of s6)) hu;have huo:=ok.wX hu;have gpu:=pD huo.word;have e6:=sG6 _ _ u1;refine aL (cA (cQ (du (v:=.ref vg) (ae (aa rfl) (ae (aa rfl) au)) λQ q=>⟨hp,g,vg,rfl,inf,q⟩) ?_));dsimp only;refine Na (rN (GI (aS (ae (aC (aa rfl) e6 T.bN T.df (fP _ _ _)) (ae (aC (aa rfl) e6 T.bN T.c9 (cN _ _ _)) (ae (aa rfl) au)))
   ⟨G,vnu,wu,dw,_,u.word,gH ps f v,rfl,sG6,u4,u2,by omega,gpu.2,hw3.same (.refl G) (s4.trans s5),hwo,λG7 H7 x7=>⟨_,rfl, ?_⟩⟩)))
  rw[w9 huo.small];by_cases hku:bK (gH ps f v) u=false
  ·rw[hku,ai (show(!false)=true from rfl)];refine bc aH ?_;have:=q H7 (s6.trans x7.hh);unfold fu at this;rw[ag hk,ai] at this
   ·exact this
   ·rw[List.all_eq_false];exact⟨g,hgm,by rw[hu];simp[hku]⟩
  ·have hku':bK (gH ps f v) u=true:=by simpa using hku
   rw[hku',ag (show ¬(!true)=true by decide)];refine⟨_,_,rfl,s5.trans x7.hh,λg' hg' u' hu'=>?_⟩;rw[take_snoc hg] at hg'
   rcases cv.mp hg' with z |z
   ·exact hall g' z u' hu'
   ·rw[jd] at z;subst z;rw[hu] at hu';cases hu';exact hku'
 ·intro σ H' z0;obtain⟨v4,v5,rfl,s5,hall⟩:=z0;rw[bD,rj] at hall;dsimp only;refine bc aH ?_;have:=q H' ((s3.trans s4).trans s5);unfold fu at this;rw[ag hk,ag] at this
  ·exact this
  ·rw[An,je];intro g hg;cases hu:version ps g with
   |none=>rfl
   |some u=>exact hall g hg u hu
noncomputable def gR (w f:Nat) (v:c7):Bool:=decide (w<16)&&decide (f<16)&&(jG v.word.params v.body&&goodBound v.word.out)&&(decide (v.word.deps<2 ^ v.word.params.length)&&decide (v.word.cost<=20000))
def mW:gR w f v=false↔(cg<=w\/eJ<=f\/jQ v.word=false\/iw<v.body.length):=by
 have e1:cg=16:=rfl;have e2:eJ=16:=rfl;have e3:iw=200:=rfl;rw[e1,e2,e3,<- Bool.not_eq_true,<- Bool.not_eq_true,cJ];have gb:∀b:Bound,goodBound b=true↔b.lo<=b.hi/\b.hi<ROUND:=λb=>by simp[goodBound]
 simp only[gR,jG,i6,decide_eq_true_eq,je,gb];constructor
 ·intro h;refine Classical.byContradiction λz=>h ?_
  simp only[not_or,Classical.not_not] at z;obtain⟨z1,z2,⟨y1,y2,y3,y4,y5,y6⟩,z4⟩:=z;exact⟨⟨⟨by omega,by omega⟩,⟨⟨y1,by omega⟩,y2⟩,y3,y4⟩,y5,y6⟩
 ·intro z z0;obtain⟨⟨⟨a1,a2⟩,⟨⟨a3,a4⟩,a5⟩,a6,a7⟩,a8,a9⟩:=z0
  rcases z with z |z |z |z
  ·omega
  ·omega
  ·exact z ⟨a3,a5,a6,a7,a8,a9⟩
  ·omega
def Iu(a n:Nat):(a >>> n=0)↔a<2 ^ n:=by
 rw[Nat.shiftRight_eq_div_pow];exact Nat.div_eq_zero_iff_lt (Nat.two_pow_pos n)
def xg(A:bU):Sp:=λvs H Q _=> ∃(w f:Nat)(va:Addr)(v:c7),vs=[nv w,nv f,.ref va]/\dI A H va v/\v.word.params.length<=1000/\∀H',aG H H'->Q (.bl (gR w f v)) H'
def xF:fQ P0 w0 b0 T 3 57 ["who","f","version"] (xg A):=by
 refine b8 (top 113) ["who","f","version","bounds","promise"] (T.p 57).1 λS H vs Q E hr h=>?_
 obtain⟨wh,f,va,v,rfl,⟨dxv,wa,lb,vn,g1,⟨dxw,lp,fa,w1,w2,w3⟩,g3,g4⟩,hz,q⟩:=h;refine⟨_,(af (aQ (PW.pt (iE (aO iF (pv 0) (aP T.pE)) (fT (aO iF (pv 1) (aP T.ED))))) (aj (az uJ)) aE)
   (af (aT 3 S.nd (aF (aF (pv 2))))
   (af (aT 4 S.nd (aF (aF (pv 2))))
   (af (aQ (PW.pt (iE (jh (fU (aV (T.p 9) (nY T) hr (ab (pv 3) (ab (aF (pv 2)) ax))))) (fT (jh (fU (aV (T.p 8) (uN T) hr (ab (aF (pv 4)) (ab (aF (pv 4)) ax)))))))) (aj (az uJ)) aE)
   (aj (az (B4 (nW bq (bH B5 (aF (pv 4)) (cn T.cf (pv 3))) aA) (B1 (nW rV (aF (pv 4)) (aP T.Bp)))))))))), ?_⟩
 have ew:∀{H':Hp}{σ:b6},aG H H'->σ[2]? =some (some (.ref va))->Ev (da K (bA 2) "word") σ H' (.ref wa):=λs s0=>aC (aa s0) (s _ _ g1) T.bN T.c9 (cN _ _ _)
 refine b7 (jg (aD (ay (aa rfl) aH bo)) λ_=>aD (ay (aa rfl) aH bo)) (λe=>?_) λe=>?_
 ·refine bc aH ?_;have q:=q H (.refl _);have:gR wh f v=false:=by
   simp at e;unfold gR
   rcases e with z |z
   ·rw[decide_eq_false (by omega:¬wh<16)];rfl
   ·rw[decide_eq_false (by omega:¬f<16)];simp
  rw[this] at q;exact q
 simp at e;have m1:gR wh f v=((jG v.word.params v.body&&goodBound v.word.out)&&(decide (v.word.deps<2 ^ v.word.params.length)&&decide (v.word.cost<=20000))):=by
  unfold gR;rw[decide_eq_true (by omega:wh<16),decide_eq_true (by omega:f<16)];rfl
 refine aL (bY (aC (ew (.refl _) rfl) w1 T.fJ T.cI (dQ _ _)) ?_);refine aL (bY (aC (ew (.refl _) rfl) w1 T.fJ T.eC (gL _ _)) ?_);dsimp only;refine nV (Fp (rN (GI (aS (ae (aa rfl) (ae (aC (aa rfl) g1 T.bN T.jF (pS _ _ _)) au)) ⟨lp,lb,v.word.params,v.body,rfl,w2,g3,hz,λH1 s1=>⟨_,rfl, ?_⟩⟩))));have f1:=w3.mono s1;cases ha:jG v.word.params v.body with
 |false=>
  rw[ai (show(!false)=true from rfl)]
  try rw[ai rfl]
  refine bc aH ?_;have q:=q H1 s1;rw[m1,ha] at q;exact q
 |true=>
  rw[ha] at m1;rw[ag (show ¬(!true)=true by decide)];refine rN (GI (cQ (du (v:=.bl (goodBound v.word.out)) (ae (bL T f1 (aa rfl)) (ae (cp T f1 (aa rfl)) au)) λQ q=>⟨v.word.out,rfl,q⟩) ⟨_,rfl, ?_⟩));cases hg:goodBound v.word.out with
  |false=>
   rw[ai (show(!false)=true from rfl)];refine bc aH ?_;have q:=q H1 s1;rw[m1,hg] at q;exact q
  |true=>
   rw[hg] at m1;rw[ag (show ¬(!true)=true by decide)];obtain⟨bas,w2a,w2b⟩:=w2;refine bc (Bt (ay (ay (f9 T f1 (aa rfl)) (dO (n:=v.word.params.length) (aa rfl) (s1 _ _ w2a) (by rw[bD];exact w2b.length)) Bw) aH (bX (b:=0))) λ_=>ay (ei T f1 (aa rfl)) aH bo) ?_;have q:=q H1 s1;rw[m1,<- decide_eq_decide.mpr (Iu v.word.deps v.word.params.length),show decide (v.word.cost<=20000)=decide ((v.word.cost:Int)<=20000) from decide_eq_decide.mpr (by omega)] at q;exact q
structure wo(A:bU)(G H:Hp)(hp dp de:Addr)(ks:List Nat)(pa lv:Nat->Addr)(h:aU):Prop where
 same:aG G H
 obj:∃dx fs,H hp=some (.ins A.fL dx fs)/\fs.lookup ("programs" :Str)=some (.ref dp)/\fs.lookup ("entries" :Str)=some (.ref de)
 dict:H dp=some (.dK (kvsOf ks pa))
 ps:mE A G H dp ks pa lv h.programs
 log:∃es:List Addr,H de=some (.lst (es.map V.ref))/\bF (λa (e:Kp212.Entry)=>G a=some (.tup [nv e.what,nv e.who,nv e.f])) es h.log
section
variable {A:bU} {G H G' H':Hp} {hp dp de:Addr} {ks:List Nat} {pa lv:Nat->Addr} {h:aU}
def wo.more(x:wo A G H hp dp de ks pa lv h)(g:aG G G')(s:aG H H')(gh:aG G' H'):wo A G' H' hp dp de ks pa lv h:=by
 obtain⟨dx,fs,e1,e2,e3⟩:=x.obj;obtain⟨es,l1,l2⟩:=x.log;exact⟨gh,⟨dx,fs,s _ _ e1,e2,e3⟩,s _ _ x.dict,x.ps.kg g (.of s),es,s _ _ l1,l2.mono λ_ _ q=>g _ _ q⟩
def wo.grow(x:wo A G H hp dp de ks pa lv h)(s:aG H H'):wo A G H' hp dp de ks pa lv h:=x.more (.refl _) s (x.same.trans s)
def wo.r(x:wo A G H hp dp de ks pa lv h):kJ A H hp dp:=let ⟨dx,fs,e1,e2,_⟩:=x.obj;⟨dx,fs,e1,e2⟩
def wo.full(x:wo A G H hp dp de ks pa lv h)(q:Q (.bl (fq h)) H):kf A [.ref hp] H Q E:=by
 obtain⟨dx,fs,e1,e2,e3⟩:=x.obj;obtain⟨es,l1,l2⟩:=x.log;refine⟨hp,dx,fs,de,_,rfl,e1,e3,l1, ?_⟩;rw[bD,l2.length];exact q
end
def handOf(h:aU)(w f:Nat):Int:=match aK h.programs f with
 |none=> -2
 |some p=>if p.owner≠w then -1 else 0
def qO(A:bU):Sp:=λvs H Q _=> ∃G hp dp de ks pa lv h w f,vs=[.ref hp,nv w,nv f]/\wo A G H hp dp de ks pa lv h/\Q (.int (handOf h w f)) H
def iz:fQ P0 w0 b0 T 1 62 ["house","who","f"] (qO A):=by
 refine b8 (top 118) ["house","who","f"] (T.p 62).1 λS H vs Q E hr h=>?_
 obtain⟨G,hp,dp,de,ks,pa,lv,h,wh,f,rfl,x,q⟩:=h;obtain⟨dx,fs,e1,e2,e3⟩:=x.obj;refine⟨_,(af (aQ (lI (gO (fO hr) (pv 2) (aF (pv 0)))) (aj (az (aP T.eM))) aE)
   (af (aQ (aO me (aF (iT (fO hr) (aF (pv 0)) (pv 2) (λ_ _=>rfl))) (pv 1)) (aj (az (aP T.kX))) aE)
   (aj (az aA)))), ?_⟩
 have ed:∀{σ:b6},σ[0]? =some (some (.ref hp))->Ev (da K (bA 0) "programs") σ H (.ref dp):=λs0=>aC (aa s0) e1 T.bu T.aW e2
 have g:=ja.k (k:=Sum.inl (f:Int)) x.dict;refine b7 (yh (mx (aa rfl) (ed rfl) g)) (λz=>?_) λz=>?_
 ·rw[x.ps.get?] at z;refine bc aH ?_;unfold handOf at q;cases hq:aK h.programs f with
  |none=>rw[hq] at q;exact q
  |some p=>rw[hq] at z;simp at z
 ·rw[x.ps.get?] at z;cases hq:aK h.programs f with
  |none=>rw[hq] at z;simp at z
  |some p=>
   unfold handOf at q;rw[hq] at q;dsimp only at q;obtain⟨dxp,vas,p1,p2,p3⟩:=(x.ps.prog f p hq).at_;rw[x.ps.get hq] at g;refine b7 (aD (ay (aC (jr (o:=some (.ref (pa f))) (ed rfl) (aa rfl) g) p1 T.cK T.fw (jJ _ _)) (aa rfl) iA)) (λz=>?_) λz=>?_
   ·simp at z;rw[ai (by omega)] at q;exact bc aH q
   ·simp at z;rw[ag (by omega)] at q;exact bc aH q
def iB(h:aU)(w f:Nat):Int:=if handOf h w f≠0 then handOf h w f else if fq h=true then -28 else if (callers h.programs f).isEmpty=false then -17 else 0
def qN(A:bU):Sp:=λvs H Q _=> ∃G hp dp de ks pa lv h w f,vs=[.ref hp,nv w,nv f]/\wo A G H hp dp de ks pa lv h/\cE h.programs/\∀H',aG H H'->Q (.int (iB h w f)) H'
def qW:fQ P0 w0 b0 T 4 63 ["house","who","f"] (qN A):=by
 refine b8 (top 119) ["house","who","f","refusal"] (T.p 63).1 λS H vs Q E hr h=>?_
 obtain⟨G,hp,dp,de,ks,pa,lv,h,wh,f,rfl,x,ok,q⟩:=h;refine⟨_,(af (aT 3 S.nd (aV (T.p 62) (iz T) hr (ab (pv 0) (ab (pv 1) (ab (pv 2) ax)))))
   (af (aQ (aO me (pv 3) aA) (aj (az (pv 3))) aE)
   (af (aQ (fU (aV (T.p 23) (km T) hr (ab (pv 0) ax))) (aj (az (aP T.EE))) aE)
   (af (aQ (aO kj (cn T.cf (aV (T.p 27) (lJ T) hr (ab (pv 0) (ab (pv 2) ax)))) aA) (aj (az (aP T.mv))) aE)
   (aj (az aA)))))), ?_⟩
 have q0:=q H (.refl _);unfold iB at q q0;refine aL (cA (aS (ae (aa rfl) (ae (aa rfl) (ae (aa rfl) au))) ⟨G,hp,dp,de,ks,pa,lv,h,wh,f,rfl,x, ?_⟩));refine b7 (aD (ay (aa rfl) aH iA)) (λz=>?_) λz=>?_
 ·simp at z;rw[ai z] at q0;exact bc (aa rfl) q0
 simp at z;rw[ag (by omega)] at q q0;refine nV (GI (aS (ae (aa rfl) au) (x.full ⟨_,rfl, ?_⟩)));cases hf:fq h with
 |true=>
  rw[ai rfl];rw[ai hf] at q0;exact bc aH q0
 |false=>
  rw[ag (by decide)];rw[ag (by rw[hf];decide)] at q;refine nV (IJ (Kn (AU (aY (aS (ae (aa rfl) (ae (aa rfl) au)) ⟨G,hp,dp,ks,pa,lv,h.programs,f,rfl,x.same,x.r,x.dict,x.ps,ok,λl H1 s1 n1 e1=>cV ⟨l,_,rfl,.inl (cG.of e1),cQ aH ⟨_,_,rfl,rfl,_,rfl, ?_⟩⟩⟩)))));have q1:=q H1 s1;rw[bD];cases hc:callers h.programs f with
  |nil=>
   rw[hc] at q1;rw[ag (by simp)];exact bc aH q1
  |cons a r=>
   rw[hc] at q1;rw[ai (by simp)];exact bc aH q1
def HJ(xs:List α)(a b:α):Dq (xs++[a,b]) (-2)=some a:=by
 have hl:(xs++[a,b]).length=xs.length+2:=by simp
 have e:Hk (xs++[a,b]).length (-2)=some xs.length:=by
  unfold Hk;rw[hl];split
  ·omega
  ·split
   ·congr 1;omega
   ·omega
 unfold Dq;rw[e];simp
noncomputable def hX (h:aU) (w f:Nat):Int:=if handOf h w f≠0 then handOf h w f else match aK h.programs f with
 |none=>0
 |some p=>match p.versions with
  |_ :: v :: _=>if fq h=true then -28 else fu h.programs f v
  |_=> -6
def m7(A:bU):Sp:=λvs H Q _=> ∃G hp dp de ks pa lv h w f,vs=[.ref hp,nv w,nv f]/\wo A G H hp dp de ks pa lv h/\cE h.programs/\∀H',aG H H'->Q (.int (hX h w f)) H'
def mh:fQ P0 w0 b0 T 8 65 ["house","who","f"] (m7 A):=by
 refine b8 (top 121) ["house","who","f","refusal","versions"] (T.p 65).1 λS H vs Q E hr h=>?_
 obtain⟨G,hp,dp,de,ks,pa,lv,h,wh,f,rfl,x,ok,q⟩:=h;obtain⟨dx,fs,e1,e2,e3⟩:=x.obj;refine⟨_,(af (aT 3 S.nd (aV (T.p 62) (iz T) hr (ab (pv 0) (ab (pv 1) (ab (pv 2) ax)))))
   (af (aQ (aO me (pv 3) aA) (aj (az (pv 3))) aE)
   (af (aT 4 S.nd (aF (iT (fO hr) (aF (pv 0)) (pv 2) (λ_ _=>rfl))))
   (af (aQ (aO bq (cn T.cf (pv 4)) aA) (aj (az (aP T.yb))) aE)
   (af (aQ (fU (aV (T.p 23) (km T) hr (ab (pv 0) ax))) (aj (az (aP T.EE))) aE)
   (aj (az (aV (T.p 58) (jM T) hr (ab (pv 0) (ab (pv 2) (ab (aZ (pv 4) (qy lF aA)) ax))))))))))), ?_⟩
 have q0:=q H (.refl _);unfold hX at q q0;refine aL (cA (aS (ae (aa rfl) (ae (aa rfl) (ae (aa rfl) au))) ⟨G,hp,dp,de,ks,pa,lv,h,wh,f,rfl,x, ?_⟩));refine b7 (aD (ay (aa rfl) aH iA)) (λz=>?_) λz=>?_
 ·simp at z;rw[ai z] at q0;exact bc (aa rfl) q0
 simp at z;rw[ag (by omega)] at q q0;have g:=ja.k (k:=Sum.inl (f:Int)) x.dict;cases hq:aK h.programs f with
 |none=>unfold handOf at z;rw[hq] at z;simp at z
 |some p=>
  rw[hq] at q q0;dsimp only at q q0;obtain⟨dxp,vas,p1,p2,p3⟩:=(x.ps.prog f p hq).at_;have hpo:=ok.prog f p hq;rw[x.ps.get hq] at g;have hvl:=p3.length;rw[uo] at hvl;refine aL (bY (aC (jr (o:=some (.ref (pa f))) (aC (aa rfl) e1 T.bu T.aW e2) (aa rfl) g) p1 T.cK T.bJ (c8 _ _)) ?_);dsimp only;refine b7 (aD (ay (dO (n:=p.versions.length) (aa rfl) p2 (by rw[bD];exact hvl)) aH (bX (b:=1)))) (λz1=>?_) λz1=>?_
  ·simp at z1
   match hv:p.versions,z1 with
   | [v],_=>rw[hv] at q0;exact bc aH q0
  simp at z1
  match hv:p.versions,z1,hpo.one with
  |v0 :: v1 :: r,_,_=>
   rw[hv] at q q0;dsimp only at q q0;refine nV (GI (aS (ae (aa rfl) au) (x.full ⟨_,rfl, ?_⟩)));cases hf:fq h with
   |true=>
    rw[ai rfl];rw[ai hf] at q0;exact bc aH q0
   |false=>
    rw[ag (by decide)];rw[ag (by rw[hf];decide)] at q;rw[hv,wK,wK,dW] at p3;obtain⟨xs,a,b,ev,ha⟩ :∃xs a b,vas=xs++[a,b]/\dI A G a v1:=by
     have hlr:=p3.length;simp at hlr;have i1:r.reverse.length<vas.length:=by simp;omega
     have at1:vas[r.reverse.length]? =some vas[r.reverse.length]:=c6 i1;obtain⟨u,hu,hva⟩:=p3.get at1;rw[nJ (bx _),zd] at hu;cases hu;have i2:r.reverse.length+1<vas.length:=by simp;omega
     refine⟨vas.take r.reverse.length,_,vas[r.reverse.length+1], ?_,hva⟩;have e1:=take_snoc at1;have e2:=take_snoc (c6 i2);rw[e1,dW] at e2;have e3:vas.take (r.reverse.length+1+1)=vas:=Ag (by simp;omega);rw[e3] at e2;exact e2
    subst ev;rw[wN] at p2;exact aR (aS (ae (aa rfl) (ae (aa rfl) (ae (ay (aa rfl) (pG aH) (bM p2 (HJ _ _ _))) au))) ⟨G,hp,dp,ks,pa,lv,h.programs,f,a,v1,rfl,x.same,x.r,x.dict,x.ps,ok,ok.lt hq,ha,hpo.Gu v1 (by rw[hv];simp),q⟩)
noncomputable def qM (h:aU) (f n:Nat) (v:c7):Int:=if 8<=n\/fq h=true then -28 else if fu h.programs f v≠0 then fu h.programs f v else (n:Int)
noncomputable def numOf (h:aU) (w f:Nat) (v:c7):Int:=if gR w f v=false then -22 else match aK h.programs f with
 |none=>qM h f 0 v
 |some p=>if p.owner≠w then -1 else qM h f p.versions.length v
def qZ(h:gR w f v=true)(hb:Small v.body):w<16/\f<16/\ML v:=by
 have q:¬(cg<=w\/eJ<=f\/jQ v.word=false\/iw<v.body.length):=λz=>by
  rw[mW.mpr z] at h;cases h
 simp only[not_or,zm,wt,An] at q;exact⟨q.1,q.2.1,q.2.2.1,hb,q.2.2.2⟩
def out(n:Int)(ps:Programs):Int×Option Programs:=(n,if 0<=n then some ps else none)
def rT(h:n<0)(ps:Programs):(n,none)=out n ps:=by unfold out;rw[ag (by omega)]
def Ky(n:Nat)(ps:Programs):((n:Int),some ps)=out (n:Int) ps:=by unfold out;rw[ai (by omega)]
def uA(H:i5 h)(hb:Small v.body):
  Kp212.telling h w f v.word v.body=out (numOf h w f v) (h.programs.set f (some ⟨w,v :: (match aK h.programs f with |some p=>p.versions |none=>[])⟩)):=by
 unfold Kp212.telling numOf;by_cases hm:gR w f v=false
 ·rw[ai (mW.mp hm),ai hm];exact rT (by decide) _
 have hm':gR w f v=true:=by simpa using hm
 obtain⟨hw,hf,hv⟩:=qZ hm' hb;rw[ag (λz=>hm (mW.mpr z)),ag hm];have hl:f<h.programs.length:=by have:=H.ps.len;omega
 have key:∀old:oN,old.owner=w->
   (if Kp212.VERSIONS<=old.versions.length\/fq h=true then ((-28:Int),(none:Option Programs)) else
    match version (h.programs.set f (some ⟨w,⟨v.word,v.body⟩ :: old.versions⟩)) f with
    |some u=>if bK (h.programs.set f (some ⟨w,⟨v.word,v.body⟩ :: old.versions⟩)) u=false then (-33,none) else if gv (h.programs.set f (some ⟨w,⟨v.word,v.body⟩ :: old.versions⟩))=false then (-17,none) else ((old.versions.length:Int),some (h.programs.set f (some ⟨w,⟨v.word,v.body⟩ :: old.versions⟩)))
    |none=>(-33,none))=out (qM h f old.versions.length v) (h.programs.set f (some ⟨w,v :: old.versions⟩)):=by
  intro old ho;have e8:Kp212.VERSIONS=8:=rfl;unfold qM;rw[e8];by_cases h28:8<=old.versions.length\/fq h=true
  ·rw[ai h28,ai h28];exact rT (by decide) _
  rw[ag h28,ag h28,dX hl];show(if bK (h.programs.set f (some ⟨w,v :: old.versions⟩)) v=false then ((-33:Int),(none:Option Programs)) else if gv (h.programs.set f (some ⟨w,v :: old.versions⟩))=false then (-17,none) else ((old.versions.length:Int),some (h.programs.set f (some ⟨w,v :: old.versions⟩))))=_;rw[rL H.ps hf (p:=⟨w,v :: old.versions⟩) (v:=v) rfl hb];by_cases k1:bK (h.programs.set f (some ⟨w,v :: old.versions⟩)) v=false
  ·rw[ai k1,ai k1,ai (by decide)];exact rT (by decide) _
  ·rw[ag k1,ag k1];by_cases k2:gv (h.programs.set f (some ⟨w,v :: old.versions⟩))=false
   ·rw[ai k2,ai k2,ai (by decide)];exact rT (by decide) _
   ·rw[ag k2,ag k2,ag (by decide)];exact Ky _ _
 cases hp:aK h.programs f with
 |none=>
  dsimp only;rw[ag (by simp)];exact key ⟨w,[]⟩ rfl
 |some p=>
  dsimp only;by_cases ho:p.owner≠w
  ·rw[ai ho,ai ho];exact rT (by decide) _
  ·rw[ag ho,ag ho];exact key p (Classical.byContradiction ho)
def rD(A:bU):Sp:=λvs H Q _=> ∃G hp dp de ks pa lv h w f va v,vs=[.ref hp,nv w,nv f,.ref va]/\wo A G H hp dp de ks pa lv h/\cE h.programs/\dI A G va v/\v.word.params.length<=1000/\Small v.body/\∀H',aG H H'->Q (.int (numOf h w f v)) H'
def kU:fQ P0 w0 b0 T 8 59 ["house","who","f","version"] (rD A):=by
 refine b8 (top 115) ["house","who","f","version","number","refusal"] (T.p 59).1 λS H vs Q E hr h=>?_
 obtain⟨G,hp,dp,de,ks,pa,lv,h,wh,f,va,v,rfl,x,ok,hva,hz,hb,q⟩:=h;obtain⟨dx,fs,e1,e2,e3⟩:=x.obj;refine⟨_,(af (aQ (jh (fU (aV (T.p 57) (xF T) hr (ab (pv 1) (ab (pv 2) (ab (pv 3) ax)))))) (aj (az (aP T.gS))) aE)
   (af (aT 4 S.nd aA)
   (af (aQ (lI (M9 (fO hr) (pv 2) (aF (pv 0)))) (af (aQ (aO me (aF (iT (fO hr) (aF (pv 0)) (pv 2) (λ_ _=>rfl))) (pv 1)) (aj (az (aP T.kX))) aE)
   (aj (aT 4 S.nd (cn T.cf (aF (iT (fO hr) (aF (pv 0)) (pv 2) (λ_ _=>rfl))))))) aE)
   (af (aQ (PW.pt (iE (aO iF (pv 4) (aP T.vP)) (fT (fU (aV (T.p 23) (km T) hr (ab (pv 0) ax)))))) (aj (az (aP T.EE))) aE)
   (af (aT 5 S.nd (aV (T.p 58) (jM T) hr (ab (pv 0) (ab (pv 2) (ab (pv 3) ax)))))
   (af (aQ (aO me (pv 5) aA) (aj (az (pv 5))) aE)
   (aj (az (pv 4))))))))), ?_⟩
 unfold numOf at q;refine nV (rN (GI (aS (ae (aa rfl) (ae (aa rfl) (ae (aa rfl) au))) ⟨wh,f,va,v,rfl,hva.mono x.same,hz,λH1 s1=>⟨_,rfl, ?_⟩⟩)));cases hm:gR wh f v with
 |false=>
  rw[ai (show(!false)=true from rfl)];have q:=q H1 s1;rw[ai hm] at q;exact bc aH q
 |true=>
 rw[ag (show ¬(!true)=true by decide)];obtain⟨hw,hf,hvo⟩:=qZ hm hb;rw[ag (by rw[hm];decide)] at q;have x1:=x.grow s1;have e1':=s1 _ _ e1;refine aL (bY aH ?_);dsimp only;have rest:∀n:Nat,(∀H',aG H H'->Q (.int (qM h f n v)) H')->oR (yI (O1 (qx (jR (uG λi j=>V.bl (decide (i≥j))) (bA 4) (tC (V.int 8)))) (tB (oS (kf A) [] E0 (fZ (bA 0) jC)))) (DQ (tC (V.int (-28)))) rz)
   (oR (DR (oS (jL A) [] E0 (fZ (bA 0) (fZ (bA 2) (fZ (bA 3) jC)))) (gi 5)) (oR (yI (qx (jR O3 (bA 5) (tC (V.int 0)))) (DQ (bA 5)) rz) (DQ (bA 4))))
   ⟨λ_ H'=>Q V.ez H',Q,λ_ _=>False,λ_ _=>False⟩ [some (.ref hp),some (nv wh),some (nv f),some (.ref va),some (nv n),none] H1:=by
  intro n q;have q0:=q H1 s1;unfold qM at q q0;refine nV (Fp (Cq (aD (ay (aa rfl) aH bo)) ?_));by_cases h8:8<=n
  ·rw[ai (.inl h8)] at q0;rw[ai (by simp;omega),ai rfl];exact bc aH q0
  rw[ag (by simp;omega)];refine GI (aS (ae (aa rfl) au) (x1.full ⟨_,rfl, ?_⟩));cases hfu:fq h with
  |true=>
   rw[ai rfl];rw[ai (.inr hfu)] at q0;exact bc aH q0
  |false=>
   rw[ag (by decide)];rw[ag (by rw[hfu];simp;omega)] at q;refine aL (cA (aS (ae (aa rfl) (ae (aa rfl) (ae (aa rfl) au))) ⟨G,hp,dp,ks,pa,lv,h.programs,f,va,v,rfl,x1.same,x1.r,x1.dict,x1.ps,ok,hf,hva,hvo,λH2 s2=>?_⟩));have q2:=q H2 (s1.trans s2);refine b7 (aD (ay (aa rfl) aH iA)) (λz=>?_) λz=>?_
   ·simp at z;rw[ai z] at q2;exact bc (aa rfl) q2
   ·simp at z;rw[ag (by omega)] at q2;exact bc (aa rfl) q2
 have g:=ja.k (k:=Sum.inl (f:Int)) x1.dict;have ed:∀{σ:b6},σ[0]? =some (some (.ref hp))->Ev (da K (bA 0) "programs") σ H1 (.ref dp):=λs0=>aC (aa s0) e1' T.bu T.aW e2
 refine aL (Na (Cq (yh (Mz (aa rfl) (ed rfl) g)) ?_));rw[x1.ps.get?];cases hq:aK h.programs f with
 |none=>
  rw[hq] at q;rw[ag (by simp)];exact rest 0 q
 |some p=>
  rw[hq] at q;dsimp only at q;rw[ai (show(some p).isSome=true from rfl)];obtain⟨dxp,vas,p1,p2,p3⟩:=(x1.ps.prog f p hq).at_;rw[x1.ps.get hq] at g;have hvl:=p3.length;rw[uo] at hvl;have eg:∀{σ:b6},σ[0]? =some (some (.ref hp))->σ[2]? =some (some (nv f))->Ev (Ik (da K (bA 0) "programs") (bA 2)) σ H1 (.ref (pa f)):=λs0 s2=>jr (o:=some (.ref (pa f))) (ed s0) (aa s2) g
  refine b7 (aD (ay (aC (eg rfl rfl) p1 T.cK T.fw (jJ _ _)) (aa rfl) iA)) (λz=>?_) λz=>?_
  ·simp at z;have q:=q H1 s1;rw[ai (by omega)] at q;exact bc aH q
  ·simp at z;rw[ag (by omega)] at q;refine bY (dO (n:=p.versions.length) (aC (eg rfl rfl) p1 T.cK T.bJ (c8 _ _)) p2 (by rw[bD];exact hvl)) ?_;exact rest p.versions.length q
def told(a:eZ):List Int:=a.num :: a.nums.map λn=>((n:Nat):Int)
def Du(H:Hp)(Q:VK)(a:eZ):Prop:= ∀(l:Addr)(H':Hp),aG H H'->H l=none->H' l=some (.lst ((told a).map V.int))->Q (.ref l) H'
def zG(n:Nat)(l:List Nat):(told ⟨(n:Int),l⟩).map V.int=nv n :: bZ l:=by
 show V.int (n:Int) :: (l.map λn=>((n:Nat):Int)).map V.int=_;rw[<- xY]
def nU(s:aG H0 H)(h:tD tl σ H [.int i])(q:Du H0 Q (cj i)):C6 tl σ H Q:=
 dY h (by show 1<=sizeLine;decide) λp hp=>q p _ (s.trans (aG.upd hp _)) (s.free hp) ah
def tO{K:bg}{tx ty:TE}{σ:b6}{H0 H:Hp}{Q:VK}{l:Addr}{ns:List Nat}(s:aG H0 H)(hl:H l=some (.lst (bZ ns)))(hz:ns.length<=1000)(hx:Ev tx σ H (.ref l))(hy:∀H',aG H H'->Ev ty σ H' (.ref l))(q:Du H0 Q ⟨(ns.length:Int),ns⟩):
  jR Nh (C6 (fZ (Ke (Fq K) (fZ tx jC)) jC)) ty σ H Q:=by
 refine Kn (dY (vs:=[nv ns.length]) (ae (dO (n:=ns.length) hx hl (by simp)) au) (by show 1<=sizeLine;decide) λp hp=>?_);have s1:=aG.upd hp (.lst [nv ns.length]);refine cQ (hy _ s1) ⟨p,l,_,_,rfl,rfl,ah,s1 _ _ hl,by simp;exact HI (by omega),λr hr=>q r _ ((s.trans s1).trans (aG.upd hr _)) ((s.trans s1).free hr) ?_⟩;rw[ah,zG];rfl
section
variable {A:bU} {G H:Hp} {hp dp de:Addr} {ks:List Nat} {pa lv:Nat->Addr} {h:aU}
def wo.there(x:wo A G H hp dp de ks pa lv h)(f:Nat):∃o,ja H dp (nv f) o/\o.isSome=(aK h.programs f).isSome:=
 ⟨_,ja.k (k:=Sum.inl (f:Int)) x.dict,x.ps.get? f⟩
end
def rp(h:aK ps f=none):version ps f=none:=by unfold version;rw[h]
def rK(T:Txt K mg A)(x:wo A G H hp dp de ks pa lv h)(ok:cE h.programs)(s0:σ[0]? =some (some (.ref hp)))(sj:σ[j]? =some (some (nv f)))
  (h1:version h.programs f=none->s { D with nx:=s' D } σ H) (h2:∀v,version h.programs f=some v->s' D σ H):oR (yI (tB (AF (bA j) (da K (bA 0) "programs"))) s rz) s' D σ H:=by
 obtain⟨dx,fs,e1,e2,e3⟩:=x.obj;obtain⟨o,g,ho⟩:=x.there f;refine b7 (yh (mx (aa sj) (aC (aa s0) e1 T.bu T.aW e2) g)) (λz=>?_) λz=>?_
 ·rw[ho] at z;exact h1 (rp (by simpa using z))
 ·rw[ho] at z;obtain⟨p,hp'⟩:=wH.mp (by simpa using z:(aK h.programs f).isSome=true);obtain⟨v,hv⟩:=ok.there hp';exact h2 v hv
def tL(A:bU)(a:aU->Nat->eZ):Sp:=λvs H Q _=> ∃G hp dp de ks pa lv h f,vs=[.ref hp,nv f]/\wo A G H hp dp de ks pa lv h/\cE h.programs/\Du H Q (a h f)
def Dk(h:aU)(f:Nat):eZ:=(bB h f λv=>⟨(v.body.length:Int),v.body⟩).2
def yt(h:aU)(f:Nat):eZ:=(bB h f λ_=>⟨((calls h.programs f).length:Int),calls h.programs f⟩).2
def pL(h:aU)(f:Nat):eZ:=(bB h f λ_=>⟨((callers h.programs f).length:Int),callers h.programs f⟩).2
def BZ(h:aU)(f:Nat):eZ:=(bB h f λv=>⟨(v.word.params.length:Int),(v.word.params.flatMap λb=>[b.lo,b.hi])++[v.word.out.lo,v.word.out.hi,v.word.deps,v.word.cost]⟩).2
def B9:fQ P0 w0 b0 T 2 37 ["house","f"] (tL A Dk):=by
 refine b8 (top 88) ["house","f","body"] (T.p 37).1 λS H vs Q E hr h=>?_
 obtain⟨G,hp,dp,de,ks,pa,lv,h,f,rfl,x,ok,q⟩:=h;refine⟨_,(af (aQ (lI (gO (fO hr) (pv 1) (aF (pv 0)))) (aj (az (b9 (ab (aP T.eM) ax)))) aE)
   (af (aT 2 S.nd (aF (aV (T.p 24) (dP T) hr (ab (pv 0) (ab (pv 1) ax)))))
   (aj (az (bH xy (b9 (ab (cn T.cf (pv 2)) ax)) (pv 2)))))), ?_⟩
 unfold Dk bB at q;dsimp only at q;refine rK T x ok rfl rfl (λhn=>?_) λv hv=>?_
 ·rw[hn] at q;exact aR (nU (.refl _) (ae aH au) q)
 rw[hv] at q;obtain⟨va,inf,dxv,wa,lb,vn,g1,g2,g3,g4⟩:=x.ps.jq x.r hv;refine aL (bY (aC (du (v:=.ref va) (ae (aa rfl) (ae (aa rfl) au)) λQ q=>⟨hp,f,va,rfl,inf,q⟩) (x.same _ _ g1) T.bN T.jF (pS _ _ _)) ?_);exact aR (tO (.refl _) (x.same _ _ g3) (by have:=(ok.wX hv).len;omega) (aa rfl) (λ_ _=>aa rfl) q)
def yQ:fQ P0 w0 b0 T 3 38 ["house","f"] (tL A yt):=by
 refine b8 (top 89) ["house","f","called"] (T.p 38).1 λS H vs Q E hr h=>?_
 obtain⟨G,hp,dp,de,ks,pa,lv,h,f,rfl,x,ok,q⟩:=h;refine⟨_,(af (aQ (lI (gO (fO hr) (pv 1) (aF (pv 0)))) (aj (az (b9 (ab (aP T.eM) ax)))) aE)
   (af (aT 2 S.nd (aV (T.p 26) (so T) hr (ab (pv 0) (ab (pv 1) ax))))
   (aj (az (bH xy (b9 (ab (cn T.cf (pv 2)) ax)) (pv 2)))))), ?_⟩
 unfold yt bB at q;dsimp only at q;refine rK T x ok rfl rfl (λhn=>?_) λv hv=>?_
 ·rw[hn] at q;exact aR (nU (.refl _) (ae aH au) q)
 rw[hv] at q;refine aL (cA (aS (ae (aa rfl) (ae (aa rfl) au)) ⟨G,hp,dp,ks,pa,lv,h.programs,f,v,rfl,x.same,x.r,x.ps,ok,hv,λl H1 s1 n1 e1=>?_⟩));have few:(calls h.programs f).length<=16:=by
  unfold calls;rw[hv];exact eY (wC _ _) (by simp[eJ])
 exact aR (tO s1 e1 (by omega) (aa rfl) (λ_ _=>aa rfl) q)
def vG:fQ P0 w0 b0 T 4 39 ["house","f"] (tL A pL):=by
 refine b8 (top 90) ["house","f","callers"] (T.p 39).1 λS H vs Q E hr h=>?_
 obtain⟨G,hp,dp,de,ks,pa,lv,h,f,rfl,x,ok,q⟩:=h;refine⟨_,(af (aQ (lI (gO (fO hr) (pv 1) (aF (pv 0)))) (aj (az (b9 (ab (aP T.eM) ax)))) aE)
   (af (aT 2 S.nd (aV (T.p 27) (lJ T) hr (ab (pv 0) (ab (pv 1) ax))))
   (aj (az (bH xy (b9 (ab (cn T.cf (pv 2)) ax)) (pv 2)))))), ?_⟩
 unfold pL bB at q;dsimp only at q;refine rK T x ok rfl rfl (λhn=>?_) λv hv=>?_
 ·rw[hn] at q;exact aR (nU (.refl _) (ae aH au) q)
 rw[hv] at q;refine aL (cA (aS (ae (aa rfl) (ae (aa rfl) au)) ⟨G,hp,dp,ks,pa,lv,h.programs,f,rfl,x.same,x.r,x.dict,x.ps,ok,λl H1 s1 n1 e1=>?_⟩));exact aR (tO s1 e1 (by have:=vf h.programs f;omega) (aa rfl) (λ_ _=>aa rfl) q)
def LV{K:bg}{to:TE}{tl:TA}{r:V->List V->Hp->VK->Prop}{σ:b6}{H:Hp}{Q:VK}{p:Addr}{xs:List V}(ho:Ev to σ H (.ref p))(hp:H p=some (.lst xs))(h:tl σ H λys H2=>r (.ref p) ys H2 Q):Lm K "list" r to tl σ H Q:=
 ho _ ⟨.inl ⟨rfl,_,cG.of hp⟩,h⟩
def pairsOf(bs:List Bound):List Nat:=bs.flatMap λb=>[b.lo,b.hi]
theorem pairs_len:∀bs:List Bound,(pairsOf bs).length=2 * bs.length
 | []=>rfl
 |b :: bs=>by
  have ih:=pairs_len bs;unfold pairsOf at ih⊢;rw[wq,dR,ih];simp;omega
def Ee{bs:List Bound}{i:Nat}{b:Bound}(h:bs[i]? =some b):pairsOf (bs.take (i+1))=pairsOf (bs.take i)++[b.lo,b.hi]:=by
 unfold pairsOf;rw[take_snoc h,List.flatMap_append];simp
def B6:fQ P0 w0 b0 T 2 36 ["house","f"] (tL A BZ):=by
 refine b8 (top 87) ["house","f","word","told","bound"] (T.p 36).1 λS H vs Q E hr h=>?_
 obtain⟨G,hp,dp,de,ks,pa,lv,h,f,rfl,x,ok,q⟩:=h;refine⟨_,(af (aQ (lI (gO (fO hr) (pv 1) (aF (pv 0)))) (aj (az (b9 (ab (aP T.eM) ax)))) aE)
   (af (aT 2 S.nd (aF (aV (T.p 24) (dP T) hr (ab (pv 0) (ab (pv 1) ax)))))
   (af (aT 3 S.nd (b9 (ab (cn T.cf (aF (pv 2))) ax)))
   (af (oY PassesOwn.never rfl (g9 (aF (pv 2))) (fv 4 S.nd) (aj (cu (Fx PySem.F.plainAttrs_list PySem.F.slot_list_extend PySem.F.type_list_extend Eo (pv 3) (ab (pv 4) ax)))))
   (af (cu (Fx PySem.F.plainAttrs_list PySem.F.slot_list_extend PySem.F.type_list_extend zU (pv 3) (ab (b9 (ab (aF (aF (pv 2))) (ab (aF (aF (pv 2))) (ab (aF (aF (pv 2))) (ab (aF (aF (pv 2))) ax))))) ax)))
   (aj (az (pv 3)))))))), ?_⟩
 unfold BZ bB at q;dsimp only at q;refine rK T x ok rfl rfl (λhn=>?_) λv hv=>?_
 ·rw[hn] at q;exact aR (nU (.refl _) (ae aH au) q)
 rw[hv] at q;dsimp only at q;obtain⟨va,inf,dxv,wa,lb,vn,g1,⟨dxw,lp,fa,w1,⟨as,w2,w3⟩,w4⟩,g3,g4⟩:=x.ps.jq x.r hv;have hz:=(pD (ok.wX hv).word).1;have hal:=w3.length;have h1:=x.same _ _ w1;refine aL (bY (aC (du (v:=.ref va) (ae (aa rfl) (ae (aa rfl) au)) λQ q=>⟨hp,f,va,rfl,inf,q⟩) (x.same _ _ g1) T.bN T.c9 (cN _ _ _)) ?_);refine aL (cA (dY (vs:=[nv v.word.params.length]) (ae (dO (n:=v.word.params.length) (aC (aa rfl) h1 T.fJ T.cI (dQ _ _)) (x.same _ _ w2) (by rw[bD];exact hal)) au) (by show 1<=sizeLine;decide) λlt nt=>?_));have st:∀o,aG H (ao H lt o):=λo=>aG.upd nt o
 dsimp only;refine aL (Iw (a:=lp) (xs:=as.map V.ref) (aC (aa rfl) (st _ _ _ h1) T.fJ T.cI (dQ _ _)) (cG.of (st _ _ _ (x.same _ _ w2)))
  (λi σ H'=> ∃v4:Option V,σ=[some (.ref hp),some (nv f),some (.ref wa),some (.ref lt),v4]/\H'=ao H lt (.lst (nv v.word.params.length :: bZ (pairsOf (v.word.params.take i)))))
  ⟨none,rfl,rfl⟩ (λi σ H' _ ⟨_,_,e⟩ =>by rw[e];exact cG.of (st _ _ _ (x.same _ _ w2))) ?_ ?_)
 ·intro i y σ H' hy z0;obtain⟨v4,rfl,rfl⟩:=z0;rw[cU] at hy;obtain⟨a,ha,rfl⟩:=bO.mp hy;obtain⟨b,hb,hab⟩:=w3.get ha;have hi:i<v.word.params.length:=(dm.mp hb).1;have hab':H a=some (.tup [nv b.lo,nv b.hi]):=x.same _ _ hab;have hlen:(nv v.word.params.length :: bZ (pairsOf (v.word.params.take i))).length<=100:=by
   simp only[cR,bD,pairs_len,nL];omega
  refine gX (LV (p:=lt) (aa rfl) ah (Lq (ae (aa rfl) au) ⟨lt,a,_,_,rfl,rfl,ah,uh.of (st _ _ _ hab'),by have:=big (n:=200) (by omega);simp only[cR,zt] at hlen⊢;omega, ?_⟩));refine⟨_,rfl, ?_⟩;rw[bS,Ee hb];simp
 ·intro σ H' z0;obtain⟨v4,rfl,rfl⟩:=z0;rw[bD,hal,rj];have f1:cM A (ao H lt (.lst (nv v.word.params.length :: bZ (pairsOf v.word.params)))) fa ⟨v.word.out.lo,v.word.out.hi,v.word.deps,v.word.cost⟩:=(w4.mono x.same).mono (st _);have ep:∀{σ:b6},σ[2]? =some (some (.ref wa))->Ev (da K (bA 2) "promise") σ (ao H lt (.lst (nv v.word.params.length :: bZ (pairsOf v.word.params)))) (.ref fa):=λs0=>aC (aa s0) (st _ _ _ h1) T.fJ T.eC (gL _ _)
  have hl:ao H lt (.lst (nv v.word.params.length :: bZ (pairsOf v.word.params))) lt=some (.lst (nv v.word.params.length :: bZ (pairsOf v.word.params))):=ah;have sH:=st (.lst (nv v.word.params.length :: bZ (pairsOf v.word.params)));have hlen:(nv v.word.params.length :: bZ (pairsOf v.word.params)).length<=100:=by
   simp only[cR,bD,pairs_len];omega
  have qq:=q lt;have hw:∀o,aG H (ao H lt o):=st;generalize hH:ao H lt (.lst (nv v.word.params.length :: bZ (pairsOf v.word.params)))=H1 at f1 ep hl sH;dsimp only;refine aL (gX (LV (p:=lt) (aa rfl) hl (aY (dY (vs:=[nv v.word.out.lo,nv v.word.out.hi,nv v.word.deps,nv v.word.cost]) (ae (bL T f1 (ep rfl)) (ae (cp T f1 (ep rfl)) (ae (f9 T f1 (ep rfl)) (ae (ei T f1 (ep rfl)) au)))) (by show 4<=sizeLine;decide) λm nm=>cV ⟨lt,m,_,_,rfl,rfl,aG.upd nm _ _ _ hl,ah, ?_, ?_⟩))))
  ·have:=big (n:=200) (by omega);simp only[cR,zt] at hlen⊢;omega
  ·refine bc (aa rfl) (qq _ (λb o e=>?_) nt ?_)
   ·rw[aw (aJ e nt),aw (aJ (sH _ _ e) nm)];exact sH _ _ e
   ·rw[ah,zG];unfold pairsOf;simp
noncomputable def xZ (h:aU) (l:List Bound) (b:List Nat):eZ:=if mL<l.length\/l.all goodBound=false\/iw<b.length then cj (-22) else match Kp212.inferAll h.programs l b with
 |none=>cj (-33)
 |some x=>⟨0,[x.lo,x.hi,x.deps,x.cost]⟩
def uV:jG l b=false↔(mL<l.length\/l.all goodBound=false\/iw<b.length):=by
 have e1:mL=4:=rfl;have e3:iw=200:=rfl;rw[e1,e3];unfold jG;rw[Dz,Dz,decide_eq_false_iff_not,decide_eq_false_iff_not];constructor
 ·rintro((z |z) |z)
  ·exact .inl (by omega)
  ·exact .inr (.inr (by omega))
  ·exact .inr (.inl z)
 ·rintro(z |z |z)
  ·exact .inl (.inl (by omega))
  ·exact .inr z
  ·exact .inl (.inr (by omega))
def wU(P:cE ps):t7 ps:=by
 intro g w hw;obtain⟨u,hu,e⟩:=gy hw;subst e;have:=cJ.mp (P.wX hu).word;exact⟨this.2.2.1,this.2.2.2.1⟩
def Iq(A:bU):Sp:=λvs H Q _=> ∃G hp dp de ks pa lv h lb l bs b,vs=[.ref hp,.ref lb,.ref l]/\wo A G H hp dp de ks pa lv h/\cE h.programs/\ij G lb bs/\G l=some (.lst (bZ b))/\bs.length<=10/\b.length<=300/\Small b/\Du H Q (xZ h bs b)
def J2:fQ P0 w0 b0 T 6 35 ["house","bounds","body"] (Iq A):=by
 refine b8 (top 86) ["house","bounds","body","fact"] (T.p 35).1 λS H vs Q E hr h=>?_
 obtain⟨G,hp,dp,de,ks,pa,lv,h,lb,l,bs,b,rfl,x,ok,hb,hl,hz1,hz2,hsm,q⟩:=h;refine⟨_,(af (aQ (jh (fU (aV (T.p 9) (nY T) hr (ab (pv 1) (ab (pv 2) ax))))) (aj (az (b9 (ab (aP T.gS) ax)))) aE)
   (af (aT 3 S.nd (aV (T.p 19) (uM T) hr (ab (aV (T.p 7) (rX T) hr (ab (pv 2) (ab (cn T.cf (pv 1)) ax))) (ab (pv 1) (ab (aV (T.p 25) (kT T) hr (ab (pv 0) ax)) ax)))))
   (af (aQ (aO qU (pv 3) fV) (aj (az (b9 (ab (aP T.yd) ax)))) aE)
   (aj (az (b9 (ab aA (ab (aF (pv 3)) (ab (aF (pv 3)) (ab (aF (pv 3)) (ab (aF (pv 3)) ax))))))))))), ?_⟩
 unfold xZ at q;refine nV (rN (GI (aS (ae (aa rfl) (ae (aa rfl) au)) ⟨lb,l,bs,b,rfl,hb.mono x.same,x.same _ _ hl,by omega,λH1 s1=>⟨_,rfl, ?_⟩⟩)));cases hm:jG bs b with
 |false=>
  rw[ai (show(!false)=true from rfl)];rw[ai (uV.mp hm)] at q;exact aR (nU s1 (ae aH au) q)
 |true=>
 rw[ag (show ¬(!true)=true by decide)];have hno:¬(mL<bs.length\/bs.all goodBound=false\/iw<b.length):=λz=>by rw[uV.mpr z] at hm;cases hm
 rw[ag hno] at q;have hgood:∀y∈bs,goodBound y=true:=by
  have:bs.all goodBound=true:=by
   cases e:bs.all goodBound with
   |true=>rfl
   |false=>exact aI (.inr (.inl e)) hno
  exact je.mp this
 have x1:=x.grow s1;obtain⟨as,b1,b2⟩:=id hb;have hks:=EG x.ps ok;refine aL (cA (mQ (aY (aS (ae (aa rfl) (ae (dO (n:=bs.length) (aa rfl) (x1.same _ _ b1) (by rw[bD];exact b2.length)) au)) ⟨G,l,b,bs.length,rfl,x1.same,x1.same _ _ hl,hz2,hz1, ?n1, ?n2⟩))))
 case n1=>
  intro e G2 H2 y2;have hn:nu A G2 bs.length .ez (readBody b bs.length):=.inl ⟨e,rfl⟩;have x2:=x1.more y2.gg y2.hh y2.gh;refine aY (cQ (aa rfl) (aY (aS (ae (aa rfl) au) ⟨G2,hp,dp,ks,pa,lv,h.programs,rfl,x2.same,x2.r,x2.dict,x2.ps,by omega,λf p h=>ok.there h,λd H3 s3 n3 hw _=>cV ⟨G2,_,lb,d,_,bs,h.programs,rfl,x2.same.trans s3,hn,hb.mono y2.gg,by omega,hgood,hw,wU ok, ?_, ?_⟩⟩)))
  ·intro e G4 H4 y4;rw[cH _ _ _ hsm] at e;rw[e] at q;refine b7 (aD (ay (aa rfl) aH hJ)) (λ_=>?_) (λz=>by simp at z);exact aR (nU (((s1.trans y2.hh).trans s3).trans y4.hh) (ae aH au) q)
  ·intro k e fa G4 H4 y4 hfa;rw[cH _ _ _ hsm] at e;rw[e] at q;refine b7 (aD (ay (aa rfl) aH hJ)) (λz=>by simp at z) λ_=>?_
   have f4:=hfa.mono y4.gh;have s4:=((s1.trans y2.hh).trans s3).trans y4.hh;refine aR (dY (vs:=[.int 0,nv k.lo,nv k.hi,nv k.deps,nv k.cost]) (ae aH (ae (bL T f4 (aa rfl)) (ae (cp T f4 (aa rfl)) (ae (f9 T f4 (aa rfl)) (ae (ei T f4 (aa rfl)) au))))) (by show 5<=sizeLine;decide) λr nr=>?_);exact q r _ (s4.trans (aG.upd nr _)) (s4.free nr) ah
 case n2=>
  intro ds e a G2 H2 y2 hna;obtain⟨o1,o2,o3⟩:=oW hsm e;have hn:nu A G2 bs.length (.ref a) (readBody b bs.length):=.inr ⟨a,ds,e,rfl,hna,o1,o2,by omega⟩;have x2:=x1.more y2.gg y2.hh y2.gh;refine aY (cQ (aa rfl) (aY (aS (ae (aa rfl) au) ⟨G2,hp,dp,ks,pa,lv,h.programs,rfl,x2.same,x2.r,x2.dict,x2.ps,by omega,λf p h=>ok.there h,λd H3 s3 n3 hw _=>cV ⟨G2,_,lb,d,_,bs,h.programs,rfl,x2.same.trans s3,hn,hb.mono y2.gg,by omega,hgood,hw,wU ok, ?_, ?_⟩⟩)))
  ·intro e G4 H4 y4;rw[cH _ _ _ hsm] at e;rw[e] at q;refine b7 (aD (ay (aa rfl) aH hJ)) (λ_=>?_) (λz=>by simp at z);exact aR (nU (((s1.trans y2.hh).trans s3).trans y4.hh) (ae aH au) q)
  ·intro k e fa G4 H4 y4 hfa;rw[cH _ _ _ hsm] at e;rw[e] at q;refine b7 (aD (ay (aa rfl) aH hJ)) (λz=>by simp at z) λ_=>?_
   have f4:=hfa.mono y4.gh;have s4:=((s1.trans y2.hh).trans s3).trans y4.hh;refine aR (dY (vs:=[.int 0,nv k.lo,nv k.hi,nv k.deps,nv k.cost]) (ae aH (ae (bL T f4 (aa rfl)) (ae (cp T f4 (aa rfl)) (ae (f9 T f4 (aa rfl)) (ae (ei T f4 (aa rfl)) au))))) (by show 5<=sizeLine;decide) λr nr=>?_);exact q r _ (s4.trans (aG.upd nr _)) (s4.free nr) ah
def nR(A:bU):Sp:=λvs H Q _=> ∃(G:Hp)(p dx wa lb:Addr)(w:Word)(b:List Nat),vs=[.ref p,.ref wa,.ref lb]/\aG G H/\G p=none/\H p=some (.ins A.dH dx [])/\kE A G wa w/\G lb=some (.lst (bZ b))/\b.length<=300/\w.params.length<=10/\Small b/\
 ∀(vn:V)(G' H':Hp),fY [p] G H G' H'->G' p=none->H' p=some (.ins A.dH dx (iK (.ref wa) (.ref lb) vn))->nu A G' w.params.length vn (readBody b w.params.length)->Q .ez H'
def vL:HL P0 w0 b0 T 6 6 ["self","word","body"] (nR A):=by
 refine b8 (inClass (top 64) 0) ["self","word","body"] T.pR.F λS H vs Q E hr h=>?_
 obtain⟨G,p,dx,wa,lb,v,b,rfl,sG,gp,hp,hwa,hlb,hz1,hz2,hsm,q⟩:=h;obtain⟨dxw,lp,fa,w1,⟨as,w2,w3⟩,w4⟩:=id hwa;refine⟨_,(af (bR (pv 0) (pv 1))
   (af (bR (pv 0) (pv 2))
   (aj (bR (pv 0) (aV (T.p 7) (rX T) hr (ab (pv 2) (ab (cn T.cf (aF (pv 1))) ax))))))), ?_⟩
 refine aL (cS (aa rfl) (aa rfl) hp T.bN T.c9 (by show 0<1000;decide) ?_);refine aL (cS (aa rfl) (aa rfl) ah T.bN T.jF (by show 1<1000;decide) ?_);rw[bS];have m1:fY [p] G H G (ao H p (.ins A.dH dx (bI "body" (.ref lb) (bI "word" (.ref wa) [])))):=(fY.refl sG).wr (by simp) gp _;have h1:ao H p (.ins A.dH dx (bI "body" (.ref lb) (bI "word" (.ref wa) []))) p=some (.ins A.dH dx (bI "body" (.ref lb) (bI "word" (.ref wa) []))):=ah;generalize ao H p (.ins A.dH dx (bI "body" (.ref lb) (bI "word" (.ref wa) [])))=H1 at m1 h1;dsimp only;refine rO (aS (ae (aa rfl) (ae (dO (n:=v.params.length) (aC (aa rfl) (m1.gh _ _ w1) T.fJ T.cI (dQ _ _)) (m1.gh _ _ w2) (by rw[bD];exact w3.length)) au)) ⟨G,lb,b,v.params.length,rfl,m1.gh,m1.gh _ _ hlb,hz1,hz2, ?n1, ?n2⟩)
 case n1=>
  intro e G2 H2 y2;refine cQ (aa rfl) ⟨p,A.dH,dx,_,rfl,y2.hh _ _ h1,T.bN,T.df,by show 2<1000;decide, ?_⟩;have g2:G2 p=none:=y2.zT h1 gp;exact q .ez G2 _ ((m1.ext' y2).wr (by simp) g2 _) g2 ah (.inl ⟨e,rfl⟩)
 case n2=>
  intro ds e a G2 H2 y2 hna;obtain⟨o1,o2,o3⟩:=oW hsm e;refine cQ (aa rfl) ⟨p,A.dH,dx,_,rfl,y2.hh _ _ h1,T.bN,T.df,by show 2<1000;decide, ?_⟩;have g2:G2 p=none:=y2.zT h1 gp;exact q (.ref a) G2 _ ((m1.ext' y2).wr (by simp) g2 _) g2 ah (.inr ⟨a,ds,e,rfl,hna,o1,o2,by omega⟩)
def GW(s:aG G H)(h:tD tl σ H [.ref wa,.ref lb])(hw:kE A G wa v.word)(hb:G lb=some (.lst (bZ v.body)))(hz1:v.body.length<=300)(hz2:v.word.params.length<=10)(hsm:Small v.body)
  (q:∀(a:Addr)(G' H':Hp),Ext G H G' H'->dI A G' a v->Q (.ref a) H'):lZ A.dH (nR A) [] E tl σ H Q:=by
 refine qR h λx dx hx hdx ne=>?_
 have sx:aG H (ao (ao H dx (.own x)) x (.ins A.dH dx [])):=λb o e=>by rw[aw (aJ e hx),aw (aJ e hdx)];exact e
 refine⟨G,x,dx,wa,lb,v.word,v.body,rfl,s.trans sx,s.free hx,ah,hw,hb,hz1,hz2,hsm,λvn G' H' m g e n=>⟨rfl, ?_⟩⟩;have x1:=(Ext.grow s sx).En m (λb hb=>by rw[jd] at hb;subst hb;exact hx);have x2:=x1.keep hx g e;have sG:aG G' (ao G' x (.ins A.dH dx (iK (.ref wa) (.ref lb) vn))):=aG.upd g _;exact q x _ H' x2 ⟨dx,wa,lb,vn,ah,(hw.mono x1.gg).mono sG,sG _ _ (x1.gg _ _ hb),n.mono sG⟩
structure Own(G H:Hp)(hp dp de:Addr)(ks:List Nat)(pa lv:Nat->Addr)(N:Addr->Prop):Prop where
 tW:¬N hp
 mn:N dp
 qr:N de
 pl:∀f∈ks,N (pa f)/\N (lv f)
 g:∀b,N b->G b=none
 inj:∀f∈ks,∀g∈ks,f≠g->pa f≠pa g/\lv f≠lv g
 ne:∀f∈ks,lv f≠de
structure HW(A:bU)(G H:Hp)(N:Addr->Prop)(hp:Addr)(h:aU):Prop where
 ex:∃dp de ks pa lv,wo A G H hp dp de ks pa lv h/\Own G H hp dp de ks pa lv N
structure fX(G H:Hp)(N:Addr->Prop)(G' H':Hp)(N':Addr->Prop):Prop where
 gg:aG G G'
 keep:∀b o,H b=some o->¬N b->H' b=some o
 new:∀b o,G' b=some o->G b=none->H b=none
 nn:∀b,N' b->N b\/H b=none
def fX.of(s:aG H H'):fX G H N G H' N:=⟨.refl _,λb o e _=>s _ _ e,λb o e z=>(by rw[e] at z;cases z),λb z=>.inl z⟩
theorem HW.grow(x:HW A G H N hp h)(s:aG H H'):HW A G H' N hp h:=by
 obtain⟨dp,de,ks,pa,lv,a,o⟩:=x.ex;exact⟨dp,de,ks,pa,lv,a.grow s,o.tW,o.mn,o.qr,o.pl,o.g,o.inj,o.ne⟩
def um(A:bU)(G H:Hp)(N:Addr->Prop)(hp:Addr)(Q:VK)(h:aU)(a:eZ):Prop:= ∀(l:Addr)(G' H':Hp)(N':Addr->Prop),fX G H N G' H' N'->HW A G' H' N' hp h->H l=none->¬N' l->G' l=none->H' l=some (.lst ((told a).map V.int))->Q (.ref l) H'
def Io(A:bU):Sp:=λvs H Q _=> ∃G hp dp de ks pa lv h w f va v,vs=[.ref hp,nv w,nv f,.ref va]/\wo A G H hp dp de ks pa lv h/\cE h.programs/\dI A G va v/\v.word.params.length<=1000/\Small v.body/\Du H Q (cj (numOf h w f v))
def J1:fQ P0 w0 b0 T 9 60 ["house","who","f","version"] (Io A):=by
 refine b8 (top 116) ["house","who","f","version"] (T.p 60).1 λS H vs Q E hr h=>?_
 obtain⟨G,hp,dp,de,ks,pa,lv,h,wh,f,va,v,rfl,x,ok,hva,hz,hb,q⟩:=h;refine⟨_,(aj (az (b9 (ab (aV (T.p 59) (kU T) hr (ab (pv 0) (ab (pv 1) (ab (pv 2) (ab (pv 3) ax))))) ax)))), ?_⟩;refine aR (aY (aS (ae (aa rfl) (ae (aa rfl) (ae (aa rfl) (ae (aa rfl) au)))) ⟨G,hp,dp,de,ks,pa,lv,h,wh,f,va,v,rfl,x,ok,hva,hz,hb,λH1 s1=>cV ⟨by show 1<=sizeLine;decide,λp hp'=>?_⟩⟩));exact q p _ (s1.trans (aG.upd hp' _)) (s1.free hp') ah
def GJ(x y z:V):bI "owner" y (cO x z)=cO y z:=by
 unfold cO;rfl
noncomputable def uY (h:aU) (w f t:Nat):aU×Int:=match aK h.programs f with
 |none=>(h, -2)
 |some p=>if p.owner≠w then (h, -1) else if 16<=t then (h, -22) else ({ h with programs:=h.programs.set f (some { p with owner:=t }) },0)
def Ki(A:bU):Sp:=λvs H Q _=> ∃G N hp h w f t,vs=[.ref hp,nv w,nv f,nv t]/\HW A G H N hp h/\(∀b,H b=none->¬N b)/\cE h.programs/\um A G H N hp Q (uY h w f t).1 (cj (uY h w f t).2)
def um.say(q:um A G H N hp Q h (cj i))(x:HW A G H N hp h)(fr:∀b,H b=none->¬N b)(s:aG H H1)(hs:aG G H1)(e:tD tl σ H1 [.int i]):C6 tl σ H1 Q:=by
 refine dY e (by show 1<=sizeLine;decide) λp hp'=>?_
 have s2:=s.trans (aG.upd hp' (.lst [.int i]));exact q p G _ N (.of s2) (x.grow s2) (s.free hp') (fr p (s.free hp')) (hs.free hp') ah
theorem mE.set(x:mE A G H dp ks pa lv ps)(hf:f∈ks)(hl:f<ps.length)(g:aG G G')(hd:H' dp=some (.dK (kvsOf ks pa)))(hn:yA A G' H' (pa f) (lv f) p)
  (ho:∀g∈ks,g≠f->H' (pa g)=H (pa g)/\H' (lv g)=H (lv g)):mE A G' H' dp ks pa lv (ps.set f (some p)):=by
 refine⟨.inl hd,x.nd,λj=>?_,λj q h=>?_⟩
 ·rw[x.mem j,cB hl];by_cases e:j=f
  ·subst e;rw[ai rfl];exact⟨λ_=>⟨p,rfl⟩,λ_=>(x.mem j).mp hf⟩
  ·rw[ag e]
 ·rw[cB hl] at h;by_cases e:j=f
  ·subst e;rw[ai rfl] at h;cases h;exact hn
  ·rw[ag e] at h;obtain⟨dx,vas,e1,e2,e3⟩:=(x.prog j q h).at_;obtain⟨o1,o2⟩:=ho j ((x.mem j).mpr ⟨q,h⟩) e;exact⟨dx,vas,by rw[o1];exact e1,by rw[o2];exact e2,e3.mono λ_ _ z=>z.mono g⟩
def Jq{A:bU}{H:Hp}{hp pf dp dx dx':Addr}{fs:List (Str×V)}{x y:V}(h1:H hp=some (.ins A.fL dx fs))(h2:fs.lookup ("programs" :Str)=some (.ref dp))(h3:H pf=some (.ins A.dU dx' (cO x y))):hp≠pf:=by
 rintro rfl;rw[h1] at h3;injection Option.some.inj h3 with _ _ e
 rw[e] at h2;unfold cO at h2;rw[fG,ag (by decide+kernel),fG,ag (by decide+kernel)] at h2;cases h2
def KC:fQ P0 w0 b0 T 2 67 ["house","who","f","to"] (Ki A):=by
 refine b8 (top 123) ["house","who","f","to","refusal"] (T.p 67).1 λS H vs Q E hr h=>?_
 obtain⟨G,N,hp,h,wh,f,t,rfl,x,fr,ok,q⟩:=h;obtain⟨dp,de,ks,pa,lv,a,o⟩:=x.ex;obtain⟨dxh,fs,e1,e2,e3⟩:=a.obj;refine⟨_,(af (aT 4 S.nd (aV (T.p 62) (iz T) hr (ab (pv 0) (ab (pv 1) (ab (pv 2) ax)))))
   (af (aQ (aO me (pv 4) aA) (aj (az (b9 (ab (pv 4) ax)))) aE)
   (af (aQ (aO iF (pv 3) (aP T.pE)) (aj (az (b9 (ab (aP T.gS) ax)))) aE)
   (af (bR (iT (fO hr) (aF (pv 0)) (pv 2) (λ_ _=>rfl)) (pv 3))
   (aj (az (b9 (ab aA ax)))))))), ?_⟩
 unfold uY at q;refine aL (cA (aS (ae (aa rfl) (ae (aa rfl) (ae (aa rfl) au))) ⟨G,hp,dp,de,ks,pa,lv,h,wh,f,rfl,a, ?_⟩));unfold handOf;cases hq:aK h.programs f with
 |none=>
  rw[hq] at q;refine b7 (aD (ay (aa rfl) aH iA)) (λz=>?_) λz=>(by simp at z)
  exact aR (um.say q x fr (.refl _) a.same (ae (aa rfl) au))
 |some p=>
  rw[hq] at q;dsimp only at q⊢;by_cases hw:p.owner≠wh
  ·rw[ai hw] at q⊢;refine b7 (aD (ay (aa rfl) aH iA)) (λz=>?_) λz=>(by simp at z)
   exact aR (um.say q x fr (.refl _) a.same (ae (aa rfl) au))
  rw[ag hw] at q⊢;refine b7 (aD (ay (aa rfl) aH iA)) (λz=>(by simp at z)) λz=>?_
  refine b7 (aD (ay (aa rfl) aH bo)) (λz=>?_) λz=>?_
  ·simp at z;rw[ai (by omega)] at q;exact aR (um.say q x fr (.refl _) a.same (ae aH au))
  simp at z;rw[ag (by omega)] at q;have hf:f∈ks:=(a.ps.mem f).mpr ⟨p,hq⟩;have hl:f<h.programs.length:=iy hq;obtain⟨dxp,vas,p1,p2,p3⟩:=(a.ps.prog f p hq).at_;have g:=ja.k (k:=Sum.inl (f:Int)) a.dict;rw[a.ps.get hq] at g;have npf:=(o.pl f hf).1;refine aL (cS (aa rfl) (jr (o:=some (.ref (pa f))) (aC (aa rfl) e1 T.bu T.aW e2) (aa rfl) g) p1 T.cK T.fw (by show 2<1000;decide) ?_);rw[GJ];dsimp only;refine aR (dY (vs:=[.int 0]) (ae aH au) (by show 1<=sizeLine;decide) λl nl=>?_);have nlH:H l=none:=by
   by_cases e:l=pa f
   ·subst e;rw[ah] at nl;cases nl
   ·rw[aw e] at nl;exact nl
  have hne:∀b u,H b=some u->b≠pa f->ao (ao H (pa f) (.ins A.dU dxp (cO (nv t) (.ref (lv f))))) l (.lst [.int 0]) b=some u:=λb u e z=>by
   rw[aw (aJ e nlH),aw z];exact e
  have hpf:ao (ao H (pa f) (.ins A.dU dxp (cO (nv t) (.ref (lv f))))) l (.lst [.int 0]) (pa f)=some (.ins A.dU dxp (cO (nv t) (.ref (lv f)))):=by
   rw[aw (aJ p1 nlH),ah]
  refine q l G _ N ⟨.refl _,λb u e z=>hne b u e λy=>z (y ▸ npf),λb u e z=>(by rw[e] at z;cases z),λb z=>.inl z⟩ ⟨dp,de,ks,pa,lv, ?_,o.tW,o.mn,o.qr,o.pl,o.g,o.inj,o.ne⟩ nlH (fr l nlH) (a.same.free nlH) ah;obtain⟨es,l1,l2⟩:=a.log;have dpne:=gc a.dict p1 (by intro z;cases z);refine⟨λb u e=>hne b u (a.same _ _ e) λy=>?_,⟨dxh,fs,hne _ _ e1 (Jq e1 e2 p1),e2,e3⟩,hne _ _ a.dict dpne, ?_,es,hne _ _ l1 (gc l1 p1 (by intro z;cases z)),l2⟩
  ·rw[y,o.g _ npf] at e;cases e
  ·refine a.ps.set hf hl (.refl _) (hne _ _ a.dict dpne) ⟨dxp,vas,hpf,hne _ _ p2 (gc p2 p1 (by intro z;cases z)),p3⟩ λj hj e=>?_
   obtain⟨pj,hpj⟩:=(a.ps.mem j).mp hj;obtain⟨dxj,vasj,j1,j2,j3⟩:=(a.ps.prog j pj hpj).at_;exact⟨(hne _ _ j1 (o.inj j hj f hf e).1).trans j1.symm,(hne _ _ j2 (gc j2 p1 (by intro z;cases z))).trans j2.symm⟩
theorem fX.trans(a:fX G H N G1 H1 N1)(b:fX G1 H1 N1 G2 H2 N2)(fr:∀b,H1 b=none->H b=none):fX G H N G2 H2 N2:=by
 refine⟨a.gg.trans b.gg,λc o e z=>b.keep c o (a.keep c o e z) λy=>?_,λc o e z=>?_,λc z=>?_⟩
 ·rcases a.nn c y with q |q
  ·exact z q
  ·rw[q] at e;cases e
 ·cases q:G1 c with
  |none=>exact fr c (b.new c o e q)
  |some u=>exact a.new c u q z
 ·rcases b.nn c z with q |q
  ·exact a.nn c q
  ·exact .inr (fr c q)
def E6{A:bU}{K:bg}{mg:Str->Option Value}(T:Txt K mg A){G H:Hp}{N:Addr->Prop}{hp:Addr}{h:aU}{te:TE}{tw:TA}{D:Ends}{σ:b6}{what w f:Nat}(x:HW A G H N hp h)(fr:∀b,H b=none->¬N b)(hlen:h.log.length<=1000)
  (he:∀H' dx fs de,H' hp=some (.ins A.fL dx fs)->fs.lookup ("entries" :Str)=some (.ref de)->Ev te σ H' (.ref de)) (hw:tD tw σ H [nv what,nv w,nv f])
  (k:∀G' H',fX G H N G' H' N->HW A G' H' N hp { h with log:=h.log++[⟨what,w,f⟩] } ->(∀b,H' b=none->H b=none)->D.nx σ H'):zH (Lm K "list" jS te (fZ (Kd tw) jC)) D σ H:=by
 obtain⟨dp,de,ks,pa,lv,a,o⟩:=x.ex;obtain⟨dxh,fs,e1,e2,e3⟩:=a.obj;obtain⟨es,l1,l2⟩:=a.log;refine jX (he H dxh fs de e1 e3) l1 (zO hw (by show 3<=sizeLine;decide) λt nt=>?_);have st:=aG.upd nt (.tup [nv what,nv w,nv f]);have gt:G t=none:=a.same.free nt;have nde:de≠t:=aJ l1 nt;refine uf (st _ _ l1) (by rw[bD,l2.length];exact big (by omega)) ?_;have hne:∀b u,H b=some u->b≠de->ao (ao H t (.tup [nv what,nv w,nv f])) de (.lst (es.map V.ref++[.ref t])) b=some u:=λb u e z=>by
  rw[aw z];exact st _ _ e
 have sG:aG G (ao G t (.tup [nv what,nv w,nv f])):=aG.upd gt _;have gde:=o.g de o.qr;refine k (ao G t (.tup [nv what,nv w,nv f])) _ ⟨sG,λb u e z=>hne b u e λy=>z (y ▸ o.qr),λb u e z=>?_,λb z=>.inl z⟩ ⟨dp,de,ks,pa,lv, ?_,⟨o.tW,o.mn,o.qr,o.pl,λb nb=>?_,o.inj,o.ne⟩⟩ λb z=>?_
 ·by_cases y:b=t
  ·rw[y];exact nt
  ·rw[aw y,z] at e;cases e
 ·have kp:∀b u,H b=some u->(∀xs,u=.lst xs->b≠de)->ao (ao H t (.tup [nv what,nv w,nv f])) de (.lst (es.map V.ref++[.ref t])) b=some u:=λb u e z=>hne b u e λy=>by
   rw[y,l1] at e;cases e;exact z _ rfl y
  refine⟨λb u e=>?_,⟨dxh,fs,kp _ _ e1 (λ_ z=>nomatch z),e2,e3⟩,kp _ _ a.dict (λ_ z=>nomatch z), ?_,es++[t],by rw[ah];simp,(l2.mono λ_ _ z=>sG _ _ z).snoc ah⟩
  ·by_cases y:b=t
   ·subst y;rw[ah] at e;rw[aw (Ne.symm nde),ah];exact e
   ·rw[aw y] at e;exact hne _ _ (a.same _ _ e) λz=>by rw[z,gde] at e;cases e
  ·refine⟨.inl (kp _ _ a.dict (λ_ z=>nomatch z)),a.ps.nd,a.ps.mem,λj p hj=>?_⟩;obtain⟨dxj,vasj,j1,j2,j3⟩:=(a.ps.prog j p hj).at_;exact⟨dxj,vasj,kp _ _ j1 (λ_ z=>nomatch z),hne _ _ j2 (o.ne j ((a.ps.mem j).mpr ⟨p,hj⟩)),j3.mono λ_ _ z=>z.mono sG⟩
 ·have bt:b≠t:=λy=>fr t nt (by rw[<- y];exact nb)
  rw[aw bt];exact o.g b nb
 ·by_cases y:b=de
  ·rw[y,ah] at z;cases z
  ·rw[aw y] at z;exact st.free z
noncomputable def pO (h:aU) (w f:Nat):aU×Int:=if hX h w f≠0 then (h,hX h w f) else match aK h.programs f with
 |none=>(h,0)
 |some p=>(oK h 3 w f (h.programs.set f (some { p with versions:=p.versions.tail })),(p.versions.tail.length:Int))
def Kk(A:bU):Sp:=λvs H Q _=> ∃G N hp h w f,vs=[.ref hp,nv w,nv f]/\HW A G H N hp h/\(∀b,H b=none->¬N b)/\cE h.programs/\h.log.length<=128/\um A G H N hp Q (pO h w f).1 (cj (pO h w f).2)
def KG:fQ P0 w0 b0 T 9 66 ["house","who","f"] (Kk A):=by
 refine b8 (top 122) ["house","who","f","refusal"] (T.p 66).1 λS H vs Q E hr h=>?_
 obtain⟨G,N,hp,h,wh,f,rfl,x,fr,ok,hlog,q⟩:=h;obtain⟨dp,de,ks,pa,lv,a,o⟩:=x.ex;refine⟨_,(af (aT 3 S.nd (aV (T.p 65) (mh T) hr (ab (pv 0) (ab (pv 1) (ab (pv 2) ax)))))
   (af (aQ (aO me (pv 3) aA) (aj (az (b9 (ab (pv 3) ax)))) aE)
   (af (cu (B3 PySem.F.plainAttrs_list PySem.F.slot_list_pop PySem.F.type_list_pop Bh (aF (iT (fO hr) (aF (pv 0)) (pv 2) (λ_ _=>rfl)))))
   (af (cu (m9 (aF (pv 0)) (gZ (ab (aP T.Bn) (ab (pv 1) (ab (pv 2) ax))))))
   (aj (az (b9 (ab (cn T.cf (aF (iT (fO hr) (aF (pv 0)) (pv 2) (λ_ _=>rfl)))) ax)))))))), ?_⟩
 unfold pO at q;refine aL (cA (aS (ae (aa rfl) (ae (aa rfl) (ae (aa rfl) au))) ⟨G,hp,dp,de,ks,pa,lv,h,wh,f,rfl,a,ok,λH1 s1=>?_⟩));have a1:=a.grow s1;have x1:=x.grow s1;have fr1:∀b,H1 b=none->¬N b:=λb z=>fr b (s1.free z)
 refine b7 (aD (ay (aa rfl) aH iA)) (λz=>?_) λz=>?_
 ·simp at z;rw[ai z] at q;exact aR (um.say q x fr s1 a1.same (ae (aa rfl) au))
 simp at z;rw[ag (by omega)] at q;cases hq:aK h.programs f with
 |none=>unfold hX handOf at z;rw[hq] at z;simp at z
 |some p=>
  rw[hq] at q;dsimp only at q;obtain⟨dxh,fs,e1,e2,e3⟩:=a1.obj;have hf:f∈ks:=(a1.ps.mem f).mpr ⟨p,hq⟩;have hl:f<h.programs.length:=iy hq;obtain⟨dxp,vas,p1,p2,p3⟩:=(a1.ps.prog f p hq).at_;have g:=ja.k (k:=Sum.inl (f:Int)) a1.dict;rw[a1.ps.get hq] at g;have nlv:=(o.pl f hf).2;have hpo:=ok.prog f p hq;obtain⟨xs,y,ev,hx⟩ :∃xs y,vas=xs++[y]/\bF (dI A G) xs p.versions.tail.reverse:=by
   cases hv:p.versions with
   |nil=>exact aI hv hpo.one
   |cons v0 r=>
    rw[hv,wK] at p3;have hlen:=p3.length;simp at hlen;have hne:vas≠[]:=by intro z;rw[z] at hlen;simp at hlen
    refine⟨vas.dropLast,vas.getLast hne,(zb hne).symm, ?_⟩;have:=p3.take r.length;rw[List.dropLast_eq_take,hlen,Nat.add_sub_cancel];rw[show r.length=r.reverse.length by simp,List.take_left] at this;simpa using this
  subst ev;rw[wN] at p2;refine aL (gX (Fo (aC (jr (o:=some (.ref (pa f))) (aC (aa rfl) e1 T.bu T.aW e2) (aa rfl) g) p1 T.cK T.bJ (c8 _ _)) p2 ?_));have hne:∀b u,H1 b=some u->b≠lv f->ao H1 (lv f) (.lst (xs.map V.ref)) b=some u:=λb u e z=>by rw[aw z];exact e
  have t2:fX G H1 N G (ao H1 (lv f) (.lst (xs.map V.ref))) N:=⟨.refl _,λb u e z=>hne b u e λy=>z (y ▸ nlv),λb u e z=>(by rw[e] at z;cases z),λb z=>.inl z⟩;have f2:∀b,ao H1 (lv f) (.lst (xs.map V.ref)) b=none->H1 b=none:=λb z=>by
   by_cases y:b=lv f
   ·rw[y,ah] at z;cases z
   ·rw[aw y] at z;exact z
  have x2:HW A G (ao H1 (lv f) (.lst (xs.map V.ref))) N hp { h with programs:=h.programs.set f (some { p with versions:=p.versions.tail }) }:=by
   refine⟨dp,de,ks,pa,lv, ?_,o.tW,o.mn,o.qr,o.pl,o.g,o.inj,o.ne⟩;obtain⟨es,l1,l2⟩:=a1.log;have dne:=gc a1.dict p2 (by intro z;cases z);refine⟨λb u e=>hne b u (a1.same _ _ e) λy=>?_,⟨dxh,fs,hne _ _ e1 (gc e1 p2 (by intro z;cases z)),e2,e3⟩,hne _ _ a1.dict dne, ?_,es,hne _ _ l1 (Ne.symm (o.ne f hf)),l2⟩
   ·rw[y,o.g _ nlv] at e;cases e
   ·refine a1.ps.set hf hl (.refl _) (hne _ _ a1.dict dne) ⟨dxp,xs,hne _ _ p1 (gc p1 p2 (by intro z;cases z)),ah,hx⟩ λj hj e=>?_
    obtain⟨pj,hpj⟩:=(a1.ps.mem j).mp hj;obtain⟨dxj,vasj,j1,j2,j3⟩:=(a1.ps.prog j pj hpj).at_;exact⟨(hne _ _ j1 (gc j1 p2 (by intro z;cases z))).trans j1.symm,(hne _ _ j2 (o.inj j hj f hf e).2).trans j2.symm⟩
  dsimp only;refine aL (E6 T (what:=3) (w:=wh) (f:=f) x2 (λb z=>fr1 b (f2 b z)) (by show h.log.length<=1000;omega) (λH' dx fs de e l=>aC (aa rfl) e T.bu T.dk l) (ae aH (ae (aa rfl) (ae (aa rfl) au))) λG3 H3 t3 x3 f3=>?_);obtain⟨dp3,de3,ks3,pa3,lv3,a3,o3⟩:=id x3.ex;obtain⟨dxh3,fs3,c1,c2,c3⟩:=a3.obj;have hq3:aK (h.programs.set f (some { p with versions:=p.versions.tail })) f=some { p with versions:=p.versions.tail }:=by rw[cB hl,ai rfl]
  obtain⟨dxp3,vas3,b1,b2,b3⟩:=(a3.ps.prog f _ hq3).at_;have g3:=ja.k (k:=Sum.inl (f:Int)) a3.dict;rw[a3.ps.get hq3] at g3;have hlen3:=b3.length;rw[uo] at hlen3;dsimp only;refine aR (dY (vs:=[nv p.versions.tail.length]) (ae (dO (n:=p.versions.tail.length) (aC (jr (o:=some (.ref (pa3 f))) (aC (aa rfl) c1 T.bu T.aW c2) (aa rfl) g3) b1 T.cK T.bJ (c8 _ _)) b2 (by rw[bD];exact hlen3)) au) (by show 1<=sizeLine;decide) λl nl=>?_);have s4:=aG.upd nl (.lst [nv p.versions.tail.length]);have nlH:H l=none:=s1.free (f2 l (f3 l nl));have tt:fX G H N G3 H3 N:=((fX.of s1).trans t2 λb z=>s1.free z).trans t3 λb z=>s1.free (f2 b z)
  exact q l G3 _ N (tt.trans (.of s4) λb z=>s1.free (f2 b (f3 b z))) (x3.grow s4) nlH (fr l nlH) (a3.same.free nl) ah
def JP(ks:List Nat)(pa:Nat->Addr)(f:Nat):my (kvsOf ks pa) (Sum.inl (f:Int))=kvsOf (ks.filter λk=>decide (k≠f)) pa:=by
 induction ks with
 |nil=>rfl
 |cons k ks ih=>
  unfold kvsOf at ih⊢;rw[cz];by_cases e:k=f
  ·subst e;rw[Hx rfl,ih,List.filter_cons_of_neg (by simp)]
  ·rw[Hy (λz=>e (by have:=Sum.inl.inj z;omega)),ih,List.filter_cons_of_pos (by simpa using e),cz]
def LU(hd:Ev td σ H (.ref a))(he:H a=some (.dK kvs))(hy:Ev ty σ H (kV k))(hv:gA kvs k=some v)(q:Q v (ao H a (.dK (my kvs k)))):Ih td ty σ H Q:=
 hd _ ⟨a,rfl,.inl ⟨_,.inl he⟩,hy _ ⟨kvs,k,v,he,rfl,hv,q⟩⟩
noncomputable def o7 (h:aU) (w f:Nat):aU×Int:=if iB h w f≠0 then (h,iB h w f) else (oK h 2 w f (h.programs.set f none),0)
def Kj(A:bU):Sp:=λvs H Q _=> ∃G N hp h w f,vs=[.ref hp,nv w,nv f]/\HW A G H N hp h/\(∀b,H b=none->¬N b)/\cE h.programs/\h.log.length<=128/\um A G H N hp Q (o7 h w f).1 (cj (o7 h w f).2)
def KD:fQ P0 w0 b0 T 5 64 ["house","who","f"] (Kj A):=by
 refine b8 (top 120) ["house","who","f","refusal"] (T.p 64).1 λS H vs Q E hr h=>?_
 obtain⟨G,N,hp,h,wh,f,rfl,x,fr,ok,hlog,q⟩:=h;obtain⟨dp,de,ks,pa,lv,a,o⟩:=x.ex;refine⟨_,(af (aT 3 S.nd (aV (T.p 63) (qW T) hr (ab (pv 0) (ab (pv 1) (ab (pv 2) ax)))))
   (af (aQ (aO me (pv 3) aA) (aj (az (b9 (ab (pv 3) ax)))) aE)
   (af (cu (IU (aF (pv 0)) (pv 2) ⟨rfl,rfl,rfl,rfl⟩))
   (af (cu (m9 (aF (pv 0)) (gZ (ab (aP T.Hs) (ab (pv 1) (ab (pv 2) ax))))))
   (aj (az (b9 (ab aA ax)))))))), ?_⟩
 unfold o7 at q;refine aL (cA (aS (ae (aa rfl) (ae (aa rfl) (ae (aa rfl) au))) ⟨G,hp,dp,de,ks,pa,lv,h,wh,f,rfl,a,ok,λH1 s1=>?_⟩));have a1:=a.grow s1;have fr1:∀b,H1 b=none->¬N b:=λb z=>fr b (s1.free z)
 refine b7 (aD (ay (aa rfl) aH iA)) (λz=>?_) λz=>?_
 ·simp at z;rw[ai z] at q;exact aR (um.say q x fr s1 a1.same (ae (aa rfl) au))
 simp at z;rw[ag (by omega)] at q;cases hq:aK h.programs f with
 |none=>unfold iB handOf at z;rw[hq] at z;simp at z
 |some p=>
  obtain⟨dxh,fs,e1,e2,e3⟩:=a1.obj;have hl:f<h.programs.length:=iy hq;refine aL (gX (LU (a:=dp) (k:=Sum.inl (f:Int)) (aC (aa rfl) e1 T.bu T.aW e2) a1.dict (aa rfl) (a1.ps.get hq) ?_));rw[JP];have hne:∀b u,H1 b=some u->b≠dp->ao H1 dp (.dK (kvsOf (ks.filter λk=>decide (k≠f)) pa)) b=some u:=λb u e z=>by rw[aw z];exact e
  have t2:fX G H1 N G (ao H1 dp (.dK (kvsOf (ks.filter λk=>decide (k≠f)) pa))) N:=⟨.refl _,λb u e z=>hne b u e λy=>z (y ▸ o.mn),λb u e z=>(by rw[e] at z;cases z),λb z=>.inl z⟩;have f2:∀b,ao H1 dp (.dK (kvsOf (ks.filter λk=>decide (k≠f)) pa)) b=none->H1 b=none:=λb z=>by
   by_cases y:b=dp
   ·rw[y,ah] at z;cases z
   ·rw[aw y] at z;exact z
  have sub:∀j,j∈(ks.filter λk=>decide (k≠f))->j∈ks:=λj hj=>(rn.mp hj).1
  have x2:HW A G (ao H1 dp (.dK (kvsOf (ks.filter λk=>decide (k≠f)) pa))) N hp { h with programs:=h.programs.set f none }:=by
   refine⟨dp,de,_,pa,lv, ?_,o.tW,o.mn,o.qr,λj hj=>o.pl j (sub j hj),o.g,λj hj i hi=>o.inj j (sub j hj) i (sub i hi),λj hj=>o.ne j (sub j hj)⟩;obtain⟨es,l1,l2⟩:=a1.log;refine⟨λb u e=>hne b u (a1.same _ _ e) λy=>?_,⟨dxh,fs,hne _ _ e1 (gc e1 a1.dict (by intro z;cases z)),e2,e3⟩,ah, ?_,es,hne _ _ l1 (gc l1 a1.dict (by intro z;cases z)),l2⟩
   ·rw[y,o.g _ o.mn] at e;cases e
   ·refine⟨.inl ah,a1.ps.nd.filter _,λj=>?_,λj pj hj=>?_⟩
    ·rw[rn,a1.ps.mem j,cB hl];by_cases e:j=f
     ·subst e;simp
     ·simp[e]
    ·rw[cB hl] at hj;split at hj
     ·cases hj
     ·obtain⟨dxj,vasj,j1,j2,j3⟩:=(a1.ps.prog j pj hj).at_;exact⟨dxj,vasj,hne _ _ j1 (gc j1 a1.dict (by intro z;cases z)),hne _ _ j2 (gc j2 a1.dict (by intro z;cases z)),j3⟩
  dsimp only;refine aL (E6 T (what:=2) (w:=wh) (f:=f) x2 (λb z=>fr1 b (f2 b z)) (by show h.log.length<=1000;omega) (λH' dx fs de e l=>aC (aa rfl) e T.bu T.dk l) (ae aH (ae (aa rfl) (ae (aa rfl) au))) λG3 H3 t3 x3 f3=>?_);obtain⟨dp3,de3,ks3,pa3,lv3,a3,o3⟩:=id x3.ex;dsimp only;refine aR (dY (vs:=[.int 0]) (ae aH au) (by show 1<=sizeLine;decide) λl nl=>?_);have s4:=aG.upd nl (.lst [.int 0]);have nlH:H l=none:=s1.free (f2 l (f3 l nl));have tt:fX G H N G3 H3 N:=((fX.of s1).trans t2 λb z=>s1.free z).trans t3 λb z=>s1.free (f2 b z)
  exact q l G3 _ N (tt.trans (.of s4) λb z=>s1.free (f2 b (f3 b z))) (x3.grow s4) nlH (fr l nlH) (a3.same.free nl) ah
def I0(h:a≠b):ao (ao H a o) b u=ao (ao H b u) a o:=by
 funext c;unfold ao;by_cases e:c=a
 ·subst e;simp[h]
 ·simp[e]
def nT(A:bU):Sp:=λvs H Q _=> ∃p dx ow,vs=[.ref p,ow]/\H p=some (.ins A.dU dx [])/\∀l,l≠p->H l=none->Q .ez (ao (ao H l (.lst [])) p (.ins A.dU dx (cO ow (.ref l))))
def vN:HL P0 w0 b0 T 1 7 ["self","owner"] (nT A):=by
 refine b8 (inClass (top 65) 0) ["self","owner"] T.pU.F λS H vs Q E hr h=>?_
 obtain⟨p,dx,ow,rfl,hp,q⟩:=h;refine⟨_,(af (bR (pv 0) (pv 1))
   (aj (bR (pv 0) (b9 ax)))), ?_⟩
 refine aL (cS (aa rfl) (aa rfl) hp T.cK T.fw (by show 0<1000;decide) ?_);dsimp only;refine rO (dY (vs:=[]) au (d8 _) λl nl=>cQ (aa rfl) ⟨p,A.dU,dx,_,rfl,aG.upd nl _ _ _ ah,T.cK,T.bJ,by show 1<1000;decide, ?_⟩);have nlp:l≠p:=λe=>by rw[e,ah] at nl;cases nl
 rw[aw nlp] at nl;have:=q l nlp nl;rw[I0 (Ne.symm nlp),bS];exact this
def GX(h:tD tl σ H [ow])
  (q:∀(x dx l:Addr)(H':Hp),H x=none->H l=none->l≠x->aG H H'->H' x=some (.ins A.dU dx (cO ow (.ref l)))->H' l=some (.lst [])->Q (.ref x) H'):lZ A.dU (nT A) [] E tl σ H Q:=by
 refine qR h λx dx hx hdx ne=>⟨x,dx,ow,rfl,ah,λl nl hl=>⟨rfl, ?_⟩⟩
 rw[aw nl] at hl;have nld:l≠dx:=λe=>by rw[e,ah] at hl;cases hl
 rw[aw nld] at hl;refine q x dx l _ hx hl nl (λb o e=>?_) ah (by rw[aw nl,ah]);rw[aw (aJ e hx),aw (aJ e hl),aw (aJ e hx),aw (aJ e hdx)];exact e
def Ko(h:tv σ H λv H1=>td σ H1 λx H2=>ty σ H2 λy H3=> ∃a H4,x=.ref a/\BP H3 a y v H4/\D.nx σ H4):IA td ty tv D σ H:=h
def jx(h:aU)(f:Nat):List c7:=match aK h.programs f with
 |some p=>p.versions
 |none=>[]
noncomputable def zA (h:aU) (w f:Nat):aU:= { h with programs:=h.programs.set f (some ⟨w,jx h f⟩) }
def KQ{ks:List Nat}{pa:Nat->Addr}{f:Nat}{x:Addr}(hf:f∉ks):putK (kvsOf ks pa) (Sum.inl (f:Int)) (.ref x)=kvsOf (ks++[f]) (λj=>if j=f then x else pa j):=by
 have h0:gA (kvsOf ks pa) (Sum.inl (f:Int))=none:=by unfold kvsOf;rw[Az,ag hf]
 rw[Ct _ h0];unfold kvsOf;rw[wN];congr 1
 ·refine zi λj hj=>?_
  have e:j≠f:=λz=>hf (by rw[<- z];exact hj)
  dsimp only;rw[ag e]
 ·simp
def HW.Ot(a:wo A G H hp dp de ks pa lv h)(o:Own G H hp dp de ks pa lv N)(hl:f<h.programs.length)(hq:aK h.programs f=none)
  (nx:H x=none) (nl:H l=none) (ne:l≠x) (s:aG H H') (hx:H' x=some (.ins A.dU dx (cO (nv w) (.ref l)))) (hl':H' l=some (.lst [])):
  HW A G (ao H' dp (.dK (kvsOf (ks++[f]) (λj=>if j=f then x else pa j)))) (λb=>N b\/b=x\/b=l) hp (zA h w f):=by
 have hf:f∉ks:=λz=>by obtain⟨p,e⟩:=(a.ps.mem f).mp z;rw[hq] at e;cases e
 have hd':=s _ _ a.dict;have hne:∀b u,H' b=some u->b≠dp->ao H' dp (.dK (kvsOf (ks++[f]) (λj=>if j=f then x else pa j))) b=some u:=λb u e z=>by rw[aw z];exact e
 have hold:jx h f=[]:=by unfold jx;rw[hq]
 obtain⟨dxh,fs,e1,e2,e3⟩:=a.obj;obtain⟨es,l1,l2⟩:=a.log;have ap:∀j,j∈ks->∃(p:oN)(dx:Addr)(vas:List Addr),aK h.programs j=some p/\H (pa j)=some (.ins A.dU dx (cO (nv p.owner) (.ref (lv j))))/\H (lv j)=some (.lst (vas.map V.ref)):=λj hj=>by
  obtain⟨p,e⟩:=(a.ps.mem j).mp hj;obtain⟨dxj,vasj,j1,j2,_⟩:=(a.ps.prog j p e).at_;exact⟨p,dxj,vasj,e,j1,j2⟩
 refine⟨dp,de,ks++[f],(λj=>if j=f then x else pa j),(λj=>if j=f then l else lv j), ?_,(λz=>z.elim o.tW λz=>z.elim (λy=>by rw[y,nx] at e1;cases e1) λy=>by rw[y,nl] at e1;cases e1),.inl o.mn,.inl o.qr,λj hj=>?_,λb nb=>?_,λj hj i hi e=>?_,λj hj=>?_⟩
 ·refine⟨λb u e=>hne b u (s _ _ (a.same _ _ e)) λy=>?_,⟨dxh,fs,hne _ _ (s _ _ e1) (gc e1 a.dict (by intro z;cases z)),e2,e3⟩,ah, ?_,es,hne _ _ (s _ _ l1) (gc l1 a.dict (by intro z;cases z)),l2⟩
  ·rw[y,o.g _ o.mn] at e;cases e
  ·refine⟨.inl ah, ?_,λj=>?_,λj p hj=>?_⟩
   ·rw[Aj];exact⟨a.ps.nd,by simp,λj hj i hi=>by rw[jd] at hi;subst hi;rintro rfl;exact hf hj⟩
   ·show j∈ks++[f]↔∃p,aK (h.programs.set f (some ⟨w,jx h f⟩)) j=some p;rw[cv,jd,a.ps.mem j,cB hl];by_cases e:j=f
    ·simp[e]
    ·simp[e]
   ·have hj':aK (h.programs.set f (some ⟨w,jx h f⟩)) j=some p:=hj;rw[cB hl] at hj';by_cases e:j=f
    ·rw[ai e] at hj';cases hj';refine⟨dx,[], ?_, ?_, ?_⟩
     ·try dsimp only
      rw[ai e,ai e];exact hne _ _ hx (gc hx hd' (by intro z;cases z))
     ·try dsimp only
      rw[ai e];exact hne _ _ hl' (gc hl' hd' (by intro z;cases z))
     ·rw[hold];exact .nil
    ·rw[ag e] at hj';obtain⟨dxj,vasj,j1,j2,j3⟩:=(a.ps.prog j p hj').at_;refine⟨dxj,vasj, ?_, ?_,j3⟩
     ·try dsimp only
      rw[ag e,ag e];exact hne _ _ (s _ _ j1) (gc j1 a.dict (by intro z;cases z))
     ·try dsimp only
      rw[ag e];exact hne _ _ (s _ _ j2) (gc j2 a.dict (by intro z;cases z))
 ·try dsimp only
  rcases cv.mp hj with z |z
  ·have e:j≠f:=λy=>hf (y ▸ z)
   rw[ag e,ag e];exact⟨.inl (o.pl j z).1,.inl (o.pl j z).2⟩
  ·rw[jd] at z;rw[ai z,ai z];exact⟨.inr (.inl rfl),.inr (.inr rfl)⟩
 ·rcases nb with z |z |z
  ·exact o.g b z
  ·rw[z];exact a.same.free nx
  ·rw[z];exact a.same.free nl
 ·try dsimp only
  have nk:∀k,k∈ks->pa k≠x/\lv k≠l:=λk hk=>by
   obtain⟨p,dxk,vask,_,k1,k2⟩:=ap k hk;exact⟨aJ k1 nx,aJ k2 nl⟩
  rcases cv.mp hj with z |z<;>rcases cv.mp hi with y |y
  ·have e1:j≠f:=λq=>hf (q ▸ z)
   have e2:i≠f:=λq=>hf (q ▸ y)
   rw[ag e1,ag e2,ag e1,ag e2];exact o.inj j z i y e
  ·rw[jd] at y;have e1:j≠f:=λq=>hf (q ▸ z)
   rw[ag e1,ai y,ag e1,ai y];exact nk j z
  ·rw[jd] at z;have e1:i≠f:=λq=>hf (q ▸ y)
   rw[ai z,ag e1,ai z,ag e1];exact⟨(nk i y).1.symm,(nk i y).2.symm⟩
  ·rw[jd] at z y;exact aI (z.trans y.symm) e
 ·try dsimp only
  rcases cv.mp hj with z |z
  ·have e:j≠f:=λy=>hf (by rw[<- y];exact z)
   rw[ag e];exact o.ne j z
  ·rw[jd] at z;rw[ai z];exact(aJ l1 nl).symm
noncomputable def l6 (h:aU) (w f:Nat) (v:c7):aU×Int:=(if 0<=numOf h w f v then oK h 1 w f (h.programs.set f (some ⟨w,v :: jx h f⟩)) else h,numOf h w f v)
def GF(A:bU):Sp:=λvs H Q _=> ∃G N hp h w f va v,vs=[.ref hp,nv w,nv f,.ref va]/\HW A G H N hp h/\(∀b,H b=none->¬N b)/\i5 h/\dI A G va v/\v.word.params.length<=1000/\Small v.body/\um A G H N hp Q (l6 h w f v).1 (cj (l6 h w f v).2)
def GS(hb:Small v.body)(z:0<=numOf h w f v):w<16/\f<16/\ML v/\(∀p,aK h.programs f=some p->p.owner=w/\p.versions.length<8):=by
 unfold numOf at z;split at z
 ·omega
 ·rename_i hm;obtain⟨a,b,c⟩:=qZ (by simpa using hm:gR w f v=true) hb;refine⟨a,b,c,λp hp=>?_⟩;rw[hp] at z;dsimp only at z;split at z
  ·omega
  ·rename_i ho;refine⟨Classical.byContradiction ho, ?_⟩;unfold qM at z;split at z
   ·omega
   ·rename_i h8;exact zo λy=>h8 (.inl y)
def GQ:fQ P0 w0 b0 T 9 61 ["house","who","f","version"] (GF A):=by
 refine b8 (top 117) ["house","who","f","version","number"] (T.p 61).1 λS H vs Q E hr h=>?_
 obtain⟨G,N,hp,h,wh,f,va,v,rfl,x,fr,ok,hva,hz,hb,q⟩:=h;obtain⟨dp,de,ks,pa,lv,a,o⟩:=x.ex;refine⟨_,(af (aT 4 S.nd (aV (T.p 59) (kU T) hr (ab (pv 0) (ab (pv 1) (ab (pv 2) (ab (pv 3) ax))))))
   (af (aQ (aO iF (pv 4) aA) (af (aQ (lI (gO (fO hr) (pv 2) (aF (pv 0)))) (aj (AX (fO hr) (aF (pv 0)) (pv 2) (fF T.pU (vN T) hr (ab (pv 1) ax)) rfl)) aE)
   (af (cu (m9 (aF (iT (fO hr) (aF (pv 0)) (pv 2) (λ_ _=>rfl))) (pv 3)))
   (aj (cu (m9 (aF (pv 0)) (gZ (ab (aP T.Mp) (ab (pv 1) (ab (pv 2) ax))))))))) aE)
   (aj (az (b9 (ab (pv 4) ax)))))), ?_⟩
 unfold l6 at q;dsimp only at q;refine aL (cA (aS (ae (aa rfl) (ae (aa rfl) (ae (aa rfl) (ae (aa rfl) au)))) ⟨G,hp,dp,de,ks,pa,lv,h,wh,f,va,v,rfl,a,ok.ps,hva,hz,hb,λH1 s1=>?_⟩));have a1:=a.grow s1;have x1:=x.grow s1;have fr1:∀b,H1 b=none->¬N b:=λb z=>fr b (s1.free z)
 refine b7 (aD (ay (aa rfl) aH bo)) (λz=>?_) λz=>?_
 rotate_left
 ·simp at z;rw[ag (by omega)] at q;exact aR (um.say q x fr s1 a1.same (ae (aa rfl) au))
 simp at z;rw[ai (by omega)] at q;obtain⟨hw,hf,hvo,hpp⟩:=GS hb z;have hl:f<h.programs.length:=by have:=ok.ps.len;omega
 refine E2 (σ':=[some (.ref hp),some (nv wh),some (nv f),some (.ref va),some (.int (numOf h wh f v))]) (P:=λH2=> ∃N',HW A G H2 N' hp (zA h wh f)/\fX G H1 N G H2 N'/\(∀b,H2 b=none->H1 b=none/\¬N' b)) ?rest λk=>?_
 case rest=>
  intro H2 z0;obtain⟨N',x2,t2,f2⟩:=z0;obtain⟨dp2,de2,ks2,pa2,lv2,a2,o2⟩:=x2.ex;obtain⟨dxh,fs,e1,e2,e3⟩:=a2.obj;have hq2:aK (zA h wh f).programs f=some ⟨wh,jx h f⟩:=by show aK (h.programs.set f (some ⟨wh,jx h f⟩)) f=_;rw[cB hl,ai rfl]
  have hf2:f∈ks2:=(a2.ps.mem f).mpr ⟨_,hq2⟩;obtain⟨dxp,vas,p1,p2,p3⟩:=(a2.ps.prog f _ hq2).at_;have g:=ja.k (k:=Sum.inl (f:Int)) a2.dict;rw[a2.ps.get hq2] at g;have nlv:=(o2.pl f hf2).2;have hold:(jx h f).length<=8:=by
   unfold jx;cases hq:aK h.programs f with
   |none=>simp
   |some p=>have:=(hpp p hq).2;show p.versions.length<=8;omega
  have hvl:=p3.length;rw[uo] at hvl;refine aL (Iz (aC (jr (o:=some (.ref (pa2 f))) (aC (aa rfl) e1 T.bu T.aW e2) (aa rfl) g) p1 T.cK T.bJ (c8 _ _)) (ae (aa rfl) au) p2 (by rw[bD,hvl];exact big (by show(jx h f).length<=100000;omega)) ?_);have hne:∀b u,H2 b=some u->b≠lv2 f->ao H2 (lv2 f) (.lst (vas.map V.ref++[.ref va])) b=some u:=λb u e z=>by rw[aw z];exact e
  have t3:fX G H2 N' G (ao H2 (lv2 f) (.lst (vas.map V.ref++[.ref va]))) N':=⟨.refl _,λb u e z=>hne b u e λy=>z (y ▸ nlv),λb u e z=>(by rw[e] at z;cases z),λb z=>.inl z⟩;have f3:∀b,ao H2 (lv2 f) (.lst (vas.map V.ref++[.ref va])) b=none->H2 b=none:=λb z=>by
   by_cases y:b=lv2 f
   ·rw[y,ah] at z;cases z
   ·rw[aw y] at z;exact z
  have x3:HW A G (ao H2 (lv2 f) (.lst (vas.map V.ref++[.ref va]))) N' hp { h with programs:=h.programs.set f (some ⟨wh,v :: jx h f⟩) }:=by
   refine⟨dp2,de2,ks2,pa2,lv2, ?_,o2.tW,o2.mn,o2.qr,o2.pl,o2.g,o2.inj,o2.ne⟩;obtain⟨es,l1,l2⟩:=a2.log;have dne:=gc a2.dict p2 (by intro z;cases z);refine⟨λb u e=>hne b u (a2.same _ _ e) λy=>?_,⟨dxh,fs,hne _ _ e1 (gc e1 p2 (by intro z;cases z)),e2,e3⟩,hne _ _ a2.dict dne, ?_,es,hne _ _ l1 (Ne.symm (o2.ne f hf2)),l2⟩
   ·rw[y,o2.g _ nlv] at e;cases e
   ·have:=a2.ps.set (p:=⟨wh,v :: jx h f⟩) hf2 (by show f<(h.programs.set f _).length;rw[rl];exact hl) (.refl _) (hne _ _ a2.dict dne) ⟨dxp,vas++[va],hne _ _ p1 (gc p1 p2 (by intro z;cases z)),by rw[ah];simp,by rw[wK];exact p3.snoc hva⟩ λj hj e=>(by
     obtain⟨pj,hpj⟩:=(a2.ps.mem j).mp hj;obtain⟨dxj,vasj,j1,j2,j3⟩:=(a2.ps.prog j pj hpj).at_;exact⟨(hne _ _ j1 (gc j1 p2 (by intro z;cases z))).trans j1.symm,(hne _ _ j2 (o2.inj j hj f hf2 e).2).trans j2.symm⟩)
    have e:(zA h wh f).programs.set f (some ⟨wh,v :: jx h f⟩)=h.programs.set f (some ⟨wh,v :: jx h f⟩):=List.set_set _;rw[e] at this;exact this
  dsimp only;refine E6 T (what:=1) (w:=wh) (f:=f) x3 (λb y=>(f2 b (f3 b y)).2) (by show h.log.length<=1000;have:=ok.log;omega) (λH' dx fs de e l=>aC (aa rfl) e T.bu T.dk l) (ae aH (ae (aa rfl) (ae (aa rfl) au))) λG4 H4 t4 x4 f4=>?_
  obtain⟨dp4,de4,ks4,pa4,lv4,a4,o4⟩:=id x4.ex;dsimp only;refine aR (dY (vs:=[.int (numOf h wh f v)]) (ae (aa rfl) au) (by show 1<=sizeLine;decide) λl nl=>?_);have s5:=aG.upd nl (.lst [.int (numOf h wh f v)]);have fb:∀b,H4 b=none->H1 b=none:=λb y=>(f2 b (f3 b (f4 b y))).1
  have nlH:H l=none:=s1.free (fb l nl);have tt:fX G H N G4 H4 N':=(((fX.of s1).trans t2 λb y=>s1.free y).trans t3 λb y=>s1.free (f2 b y).1).trans t4 λb y=>s1.free (f2 b (f3 b y)).1
  exact q l G4 _ N' (tt.trans (.of s5) λb y=>s1.free (fb b y)) (x4.grow s5) nlH (f2 l (f3 l (f4 l nl))).2 (a4.same.free nl) ah
 ·obtain⟨dxh,fs,e1,e2,e3⟩:=a1.obj;have o1:Own G H1 hp dp de ks pa lv N:=⟨o.tW,o.mn,o.qr,o.pl,o.g,o.inj,o.ne⟩;have g:=ja.k (k:=Sum.inl (f:Int)) a1.dict;refine xm (yh (mx (aa rfl) (aC (aa rfl) e1 T.bu T.aW e2) g)) (λy=>?_) λy=>?_
  ·rw[a1.ps.get?] at y;have hq:aK h.programs f=none:=by simpa using y
   have hfk:f∉ks:=λz=>by obtain⟨p,e⟩:=(a1.ps.mem f).mp z;rw[hq] at e;cases e
   have hks:=EG a1.ps ok.ps;refine Ko (GX (ae (aa rfl) au) λx2 dx2 l2 H2 nx nl ne s2 hx hl2=>cQ (aC (aa rfl) (s2 _ _ e1) T.bu T.aW e2) (cQ (aa rfl) ⟨dp,_,rfl,BP.k (k:=Sum.inl (f:Int)) (s2 _ _ a1.dict) (big (by simp[kvsOf];omega)), ?_⟩));rw[KQ hfk];refine k _ ⟨_,HW.Ot a1 o1 hl hq nx nl ne s2 hx hl2,⟨.refl _,λb u e z=>?_,λb u e z=>(by rw[e] at z;cases z),λb z=>?_⟩,λb z=>?_⟩
   ·have bd:b≠dp:=λy=>z (by rw[y];exact o.mn)
    rw[aw bd];exact s2 _ _ e
   ·rcases z with z |z |z
    ·exact .inl z
    ·rw[z];exact .inr nx
    ·rw[z];exact .inr nl
   ·have bd:b≠dp:=λy=>by rw[y,ah] at z;cases z
    rw[aw bd] at z;refine⟨s2.free z,λy=>?_⟩
    rcases y with y |y |y
    ·exact fr1 b (s2.free z) y
    ·rw[y,hx] at z;cases z
    ·rw[y,hl2] at z;cases z
  ·rw[a1.ps.get?] at y;obtain⟨p,hq⟩:=wH.mp (by simpa using y:(aK h.programs f).isSome=true);refine k H1 ⟨N, ?_,.of (.refl _),λb z=>⟨z,fr1 b z⟩⟩;have ho:=(hpp p hq).1;have e:zA h wh f=h:=by
    unfold zA jx;rw[hq];have:h.programs.set f (some ⟨wh,p.versions⟩)=h.programs:=by
     refine Ak λj=>?_
     rw[List.getElem?_set];by_cases e:f=j
     ·subst e;rw[ai rfl,ai hl];unfold aK at hq;rw[cy,c6 hl] at hq;rw[c6 hl];simp only[ze] at hq;rw[hq,<- ho]
     ·rw[ag e]
    rw[this]
   rw[e];exact x1
end Wh
namespace L2
open PySem
section
variable {K:bg} {tl te:TE} {ta:TA} {tb:TS} {D:Ends} {σ:b6} {H:Hp} {a b:Addr} {xs ys:List V} {Q:VK} {n i1 i2:Nat}
def LN(h:tD ta σ H [.ref a,.ref b])(hx:cG K H a xs)(hy:cG K H b ys)(hlen:xs.length=ys.length)(Pv:Nat->b6->Hp->Prop)(h0:Pv 0 σ H)(hl:∀i σ H,i<=xs.length->Pv i σ H->cG K H a xs/\cG K H b ys)
  (hs:∀i x y σ H T,xs[i]? =some x->ys[i]? =some y->Pv i σ H->H T=none->tb { D with nx:=Pv (i+1),ct:=Pv (i+1),bk:=D.nx } ((σ.set i1 (some x)).set i2 (some y)) (ao H T (.tup [x,y])))
  (hd:∀σ H,Pv xs.length σ H->D.nx σ H):Gz (Mm K ta) (EF K 2 (sN (gi i1) (sN (gi i2) JA))) tb D σ H:=by
 refine h _ ⟨a,b,xs,ys,rfl,hx,hy,λi m σ H=>m=xs.length - i/\i<=xs.length/\Pv i σ H,⟨xs.length,by simp,d8 _,h0⟩, ?_⟩;intro i m σ H z0;obtain⟨rfl,hi,p⟩:=z0;obtain⟨q,q2⟩:=hl i σ H hi p;by_cases hlt:i<xs.length
 ·refine .inr ⟨⟨xs,ys,xs[i],ys[i]'(by omega),q,q2,by simp[hlt],c6 (by omega)⟩,Pv (i+1),λσ' H' p'=>⟨xs.length - (i+1),by omega,rfl,hlt,p'⟩,λv H' y=>?_⟩;obtain⟨T,x,y,rfl,hT,rfl,hxx,hyy⟩:=y;exact⟨T,_,rfl,uh.of ah,rfl,_,_,rfl,_,_,rfl,rfl,hs i x y σ H T (hxx xs q) (hyy ys q2) p hT⟩
 ·have e:i=xs.length:=by omega
  subst e;exact .inl ⟨⟨xs,ys,q,q2,.inl (bx _)⟩,hd σ H p⟩
def N6(h:tD ta σ H [.ref a,.ref b])(hx:cG K H a xs)(hy:cG K H b ys)(hlen:xs.length=ys.length)(Pv:Addr->Nat->Hp->Prop)
  (hw:∀a b,wipe (((wipe σ [i1,i2]).set i1 a).set i2 b) [i1,i2]=wipe σ [i1,i2]) (h0:∀D,H D=none->Pv D 0 (ao H D (.lst []))) (hl:∀D i H',Pv D i H'->cG K H' a xs/\cG K H' b ys)
  (hs:∀D i x y H' T,H D=none->xs[i]? =some x->ys[i]? =some y->Pv D i H'->H' T=none->te (((wipe σ [i1,i2]).set i1 (some x)).set i2 (some y)) (ao H' T (.tup [x,y])) λy H4=> ∃acc,H4 D=some (.lst acc)/\acc.length<sizeLine/\Pv D (i+1) (ao H4 D (.lst (acc++[y]))))
  (hd:∀D H',H D=none->Pv D xs.length H'->Q (.ref D) H'):Ig (Mm K ta) (EF K 2 (sN (gi i1) (sN (gi i2) JA))) vw te [i1,i2] σ H Q:=by
 refine h _ ⟨a,b,xs,ys,rfl,hx,hy,λD hD=>⟨λi m H=>m=xs.length - i/\i<=xs.length/\Pv D i H,⟨xs.length,by simp,d8 _,h0 D hD⟩, ?_⟩⟩;intro i m H' z0;obtain⟨rfl,hi,p⟩:=z0;obtain⟨q,q2⟩:=hl D i H' p;by_cases hlt:i<xs.length
 ·refine .inr ⟨⟨xs,ys,xs[i],ys[i]'(by omega),q,q2,by simp[hlt],c6 (by omega)⟩,Pv D (i+1),λH' p'=>⟨xs.length - (i+1),by omega,rfl,hlt,p'⟩,λv H2 y=>?_⟩;obtain⟨T,x,y,rfl,hT,rfl,hxx,hyy⟩:=y;refine⟨T,_,rfl,uh.of ah,rfl,_,_,rfl,_,_,rfl,rfl,hw _ _, ?_⟩;unfold vw;dsimp only;rw[ai rfl];exact hs D i x y H' T hD (hxx xs q) (hyy ys q2) p hT
 ·have e:i=xs.length:=by omega
  subst e;exact .inl ⟨⟨xs,ys,q,q2,.inl (bx _)⟩,hd D H' hD p⟩
def N7(h:tD ta σ H [nv n])(hn:n<=100000)(Pv:Addr->Nat->Hp->Prop)(hw:∀a,wipe ((wipe σ [i]).set i a) [i]=wipe σ [i])(h0:∀D,H D=none->Pv D 0 (ao H D (.lst [])))
  (hs:∀D j H',H D=none->j<n->Pv D j H'->te ((wipe σ [i]).set i (some (nv j))) H' λy H4=> ∃acc,H4 D=some (.lst acc)/\acc.length<sizeLine/\Pv D (j+1) (ao H4 D (.lst (acc++[y]))))
  (hd:∀D H',H D=none->Pv D n H'->Q (.ref D) H'):Ig (Lw ta) (gi i) vw te [i] σ H Q:=by
 refine h _ ⟨(n:Int),rfl,by omega,by omega,λD hD=>⟨λj m H=>m=n - j/\j<=n/\Pv D j H,⟨n,by simp,d8 _,h0 D hD⟩, ?_⟩⟩;intro j m H' z0;obtain⟨rfl,hi,p⟩:=z0;by_cases hlt:j<n
 ·refine .inr ⟨by show j<((n:Int)).toNat;rw[oF];exact hlt,Pv D (j+1),λH' p'=>⟨n - (j+1),by omega,rfl,hlt,p'⟩,λv H2 y=>?_⟩;obtain⟨rfl,rfl⟩:=y;rw[Int.zero_add];refine⟨hw _, ?_⟩;unfold vw;dsimp only;rw[ai rfl];exact hs D j _ hD hlt p
 ·have e:j=n:=by omega
  subst e;exact .inl ⟨by show((j:Int)).toNat<=j;rw[oF];exact bx _,hd D H' hD p⟩
end
def JH(ha:Ev ta σ H x)(hb:Ev tb σ H y)(hr:yG r x y H (.bl k))(hc:k=true->Ev tc σ H z)(hr':k=true->yG r' y z H (.bl k')):Ev (Il r r' ta tb tc) σ H (.bl (k&&k')):=by
 intro Q q;refine ha _ (hb _ (hr _ ⟨k,rfl, ?_⟩));cases k with
 |false=>rw[ag (by decide)];exact q
 |true=>rw[ai rfl];exact hc rfl _ (hr' rfl _ q)
end L2
namespace Wh
open PySem PySem.Spec PyProof.Rows L2
open Kp212 (Known Bound Word Programs ROUND goodBound wordOf version calls callers)
variable {P0:Program} {w0:World} {K:bg} {mg:Str->Option Value} {b0:Heap} {A:bU} (T:Txt K mg A)
noncomputable def lX (h:aU) (f:Nat):eZ:=match aK h.programs f with
 |none=>cj (-2)
 |some p=>⟨(p.versions.length:Int),[p.owner]⟩
def tU:fQ P0 w0 b0 T 1 40 ["house","f"] (tL A lX):=by
 refine b8 (top 91) ["house","f","program"] (T.p 40).1 λS H vs Q E hr h=>?_
 obtain⟨G,hp,dp,de,ks,pa,lv,h,f,rfl,x,ok,q⟩:=h;obtain⟨dx,fs,e1,e2,e3⟩:=x.obj;obtain⟨o,g,ho⟩:=x.there f;refine⟨_,(af (aQ (lI (gO (fO hr) (pv 1) (aF (pv 0)))) (aj (az (b9 (ab (aP T.eM) ax)))) aE)
   (af (aT 2 S.nd (iT (fO hr) (aF (pv 0)) (pv 1) (λ_ _=>rfl)))
   (aj (az (b9 (ab (cn T.cf (aF (pv 2))) (ab (aF (pv 2)) ax))))))), ?_⟩
 unfold lX at q;refine b7 (yh (mx (aa rfl) (aC (aa rfl) e1 T.bu T.aW e2) g)) (λz=>?_) λz=>?_
 ·rw[ho] at z;have hn:aK h.programs f=none:=by simpa using z
  rw[hn] at q;exact aR (nU (.refl _) (ae aH au) q)
 rw[ho] at z;obtain⟨p,hp'⟩:=wH.mp (by simpa using z:(aK h.programs f).isSome=true);rw[hp'] at q;obtain⟨dxp,vas,p1,p2,p3⟩:=(x.ps.prog f p hp').at_;have g2:=ja.k (k:=Sum.inl (f:Int)) x.dict;rw[x.ps.get hp'] at g2;have hvl:=p3.length;rw[uo] at hvl;refine aL (bY (jr (o:=some (.ref (pa f))) (aC (aa rfl) e1 T.bu T.aW e2) (aa rfl) g2) ?_);refine aR (dY (vs:=[nv p.versions.length,nv p.owner]) (ae (dO (n:=p.versions.length) (aC (aa rfl) p1 T.cK T.bJ (c8 _ _)) p2 (by rw[bD];exact hvl)) (ae (aC (aa rfl) p1 T.cK T.fw (jJ _ _)) au)) (by show 2<=sizeLine;decide) λl hl=>?_);exact q l _ (aG.upd hl _) hl ah
def kQ(args:List Nat)(bs:List Bound):Bool:=decide (args.length=bs.length)&&(args.zip bs).all λz=>decide (z.2.lo<=z.1)&&decide (z.1<=z.2.hi)
def yM:Sp:=λvs H Q _=> ∃(G:Hp)(la lb:Addr)(args:List Nat)(bs:List Bound),vs=[.ref la,.ref lb]/\aG G H/\H la=some (.lst (bZ args))/\ij G lb bs/\args.length<=1000/\∀H',aG H H'->Q (.bl (kQ args bs)) H'
def yS:fQ P0 w0 b0 T 1 41 ["arguments","bounds"] (yM):=by
 refine b8 (top 92) ["arguments","bounds","argument","bound"] (T.p 41).1 λS H vs Q E hr h=>?_
 obtain⟨G,la,lb,args,bs,rfl,sG,hla,⟨as,hlb,hbs⟩,hz,q⟩:=h;refine⟨_,(af (aQ (aO me (cn T.cf (pv 0)) (cn T.cf (pv 1))) (aj (az uJ)) aE)
   (aj (az (cC (EU rfl) (by rfl) T.J8 K1 (ab (p5 rfl S.nd (IQ rfl T.Lu (ab (pv 0) (ab (pv 1) ax))) (rQ S [("argument",2),("bound",3)]) (λ_ _ _ _ _=>(show PG _ _ (EF K 2 _) from(xt rfl (i9 (fv 2 S.nd) (i9 (fv 3 S.nd) rR))))) (λ_ _ _ _ _=>ip) (λ_ _ _ _ _=>(IW rV rV (kS (r:=qS K) r6 (pv 3) aA (λ_ _=>rfl)) (pv 2) (kS (r:=qS K) r6 (pv 3) aA (λ_ _=>rfl))))) ax))))), ?_⟩
 have hal:=hbs.length;have e_b:=sG _ _ hlb;refine b7 (aD (ay (dO (n:=args.length) (aa rfl) hla (by simp)) (dO (n:=bs.length) (aa rfl) e_b (by simp[hal])) iA)) (λz=>?_) λz=>?_
 ·simp at z;refine bc aH ?_;have:kQ args bs=false:=by
   unfold kQ;rw[decide_eq_false (by omega:¬args.length=bs.length)];rfl
  have q:=q H (.refl _);rw[this] at q;exact q
 ·simp at z;have hlen:args.length=bs.length:=by omega
  refine aR (aY (N6 (a:=la) (b:=lb) (xs:=bZ args) (ys:=as.map V.ref) (ae (aa rfl) (ae (aa rfl) au)) (cG.of hla) (cG.of e_b) (by simp[hal,hlen])
   (λD i H'=>aG H H'/\H' D=some (.lst ((((args.zip bs).take i).map λz=>decide (z.2.lo<=z.1)&&decide (z.1<=z.2.hi)).map V.bl))) (λ_ _=>rfl) (λD hD=>⟨aG.upd hD _,by rw[ah];simp⟩) (λD i H' ⟨s,_⟩ =>⟨cG.of (s _ _ hla),cG.of (s _ _ e_b)⟩) ?_ ?_))
  ·rintro D i x y H' T' hD hx hy ⟨s,e⟩ hT;rw[cU] at hx hy;obtain⟨n,hn,rfl⟩:=bO.mp hx;obtain⟨ba,hba,rfl⟩:=bO.mp hy;obtain⟨b,hb,hbt⟩:=hbs.get hba;have s2:=s.trans (aG.upd hT (.tup [nv n,.ref ba]));have eb:=s2 _ _ (sG _ _ hbt);have hzip:(args.zip bs)[i]? =some (n,b):=wz.mpr ⟨hn,hb⟩;refine cQ (JH (k:=decide (b.lo<=n)) (k':=decide (n<=b.hi)) (ay (aa rfl) aH (hG (v:=nv b.lo) eb rfl)) (aa rfl) ?_ (λ_=>ay (aa rfl) aH (hG (v:=nv b.hi) eb rfl)) λ_=>?_) ⟨_,aG.upd hT _ _ _ e, ?_, ?_, ?_⟩
   ·have:=bo (g:=λi j=>V.bl (decide (i<=j))) (i:=(b.lo:Int)) (j:=(n:Int)) (H:=ao H' T' (.tup [nv n,.ref ba]));rw[show decide ((b.lo:Int)<=(n:Int))=decide (b.lo<=n) from decide_eq_decide.mpr (by omega)] at this;exact this
   ·have:=bo (g:=λi j=>V.bl (decide (i<=j))) (i:=(n:Int)) (j:=(b.hi:Int)) (H:=ao H' T' (.tup [nv n,.ref ba]));rw[show decide ((n:Int)<=(b.hi:Int))=decide (n<=b.hi) from decide_eq_decide.mpr (by omega)] at this;exact this
   ·simp only[bD,nL];have:(args.zip bs).length<=args.length:=by rw[Ah];omega
    exact big (by omega)
   ·intro b' o' e';rw[aw (aJ e' hD)];exact s2 _ _ e'
   ·rw[ah,take_snoc hzip];simp
  ·rintro D H' hD ⟨s,e⟩;refine cV ⟨D,_,rfl,cG.of e, ?_⟩;have hw:kQ args bs=List.all (((args.zip bs).take (bZ args).length).map λz=>decide (z.2.lo<=z.1)&&decide (z.1<=z.2.hi)) id:=by
    unfold kQ;rw[decide_eq_true hlen,Ag (by rw[bD,Ah];omega)];simp[List.all_map]
   rw[<- hw];exact q H' s
def D8(h:aU)(f:Nat)(a:List Nat):eZ:=(bB h f λv=>if a.length≠v.word.params.length\/((a.zip v.word.params).all λz=>decide (z.2.lo<=z.1)&&decide (z.1<=z.2.hi))=false then cj (-22) else match Kp212.runOf h.programs f a with
    |some x=>⟨0,[x.1,x.2]⟩
    |none=>cj (-99)).2
def xb(A:bU):Sp:=λvs H Q _=> ∃G hp dp de ks pa lv h f la args,vs=[.ref hp,nv f,.ref la]/\wo A G H hp dp de ks pa lv h/\i5 h/\H la=some (.lst (bZ args))/\Small args/\args.length<=1000/\Du H Q (D8 h f args)
def xB:fQ P0 w0 b0 T 5 42 ["house","f","arguments"] (xb A):=by
 refine b8 (top 93) ["house","f","arguments","outcome"] (T.p 42).1 λS H vs Q E hr h=>?_
 obtain⟨G,hp,dp,de,ks,pa,lv,h,f,la,args,rfl,x,ok,hla,sm,hz,q⟩:=h;refine⟨_,(af (aQ (lI (gO (fO hr) (pv 1) (aF (pv 0)))) (aj (az (b9 (ab (aP T.eM) ax)))) aE)
   (af (aQ (jh (fU (aV (T.p 41) (yS T) hr (ab (pv 2) (ab (aF (aF (aV (T.p 24) (dP T) hr (ab (pv 0) (ab (pv 1) ax))))) ax))))) (aj (az (b9 (ab (aP T.gS) ax)))) aE)
   (af (aT 3 S.nd (aV (T.p 34) (uO T) hr (ab (pv 0) (ab (pv 1) (ab (pv 2) ax)))))
   (aj (az (b9 (ab aA (ab (aF (pv 3)) (ab (aF (pv 3)) ax))))))))), ?_⟩
 unfold D8 bB at q;dsimp only at q;refine rK T x ok.ps rfl rfl (λhn=>?_) λv hv=>?_
 ·rw[hn] at q;exact aR (nU (.refl _) (ae aH au) q)
 rw[hv] at q;dsimp only at q;obtain⟨va,inf,dxv,wa,lb,vn,g1,g2,g3,g4⟩:=x.ps.jq x.r hv;obtain⟨dxw,lbs,fa,w1,w2,w3⟩:=g2;refine nV (rN (GI (aS (ae (aa rfl) (ae (aC (aC (du (v:=.ref va) (ae (aa rfl) (ae (aa rfl) au)) λQ q=>⟨hp,f,va,rfl,inf,q⟩) (x.same _ _ g1) T.bN T.c9 (cN _ _ _)) (x.same _ _ w1) T.fJ T.cI (dQ _ _)) au)) ⟨G,la,lbs,args,v.word.params,rfl,x.same,hla,w2,hz,λH1 s1=>⟨_,rfl, ?_⟩⟩)));have x1:=x.grow s1;cases hw:kQ args v.word.params with
 |false=>
  rw[ai (show(!false)=true from rfl)];rw[ai (by
   unfold kQ at hw
   rcases Dz.mp hw with y |y
   ·exact .inl (by simpa using y)
   ·exact .inr y)] at q
  exact aR (nU s1 (ae aH au) q)
 |true=>
  rw[ag (show ¬(!true)=true from by decide)];unfold kQ at hw;obtain⟨y1,y2⟩:=DD.mp hw;have y1:args.length=v.word.params.length:=by simpa using y1
  rw[ag (by rw[y2];simp[y1])] at q;obtain⟨r,s,hr1,hr2,_,_,hs⟩:=ok.run hv y1 y2;rw[hr1] at q;have hcost:=(cJ.mp (ok.ps.wX hv).word).2.2.2.2.2;refine aL (cA (aS (ae (aa rfl) (ae (aa rfl) (ae (aa rfl) au))) ⟨G,hp,dp,ks,pa,lv,h.programs,f,v,la,args,r,s,rfl,x1.same,x1.r,x1.ps,ok.ps,hv,s1 _ _ hla,sm,y1,⟨_,hr2⟩,by omega,λoa dxo H2 s2 n2 e2=>?_⟩));dsimp only;refine aR (dY (vs:=[V.int 0,nv r,nv s]) (ae aH (ae (aC (aa rfl) e2 T.kC T.ji (oh _ _)) (ae (aC (aa rfl) e2 T.kC T.mm (vU _ _)) au))) (by show 3<=sizeLine;decide) λl hl=>?_);exact q l _ ((s1.trans s2).trans (aG.upd hl _)) ((s1.trans s2).free hl) ah
def yk(h:aU)(k:Nat):eZ:=match h.log[k]? with
    |some e=>⟨(e.what:Int),[e.who,e.f]⟩
    |none=>cj (-2)
def yP:fQ P0 w0 b0 T 1 43 ["house","k"] (tL A yk):=by
 refine b8 (top 94) ["house","k"] (T.p 43).1 λS H vs Q E hr h=>?_
 obtain⟨G,hp,dp,de,ks,pa,lv,h,k,rfl,x,ok,q⟩:=h;obtain⟨dx,fs,e1,e2,e3⟩:=x.obj;obtain⟨es,l1,l2⟩:=x.log;have hll:=l2.length;refine⟨_,(af (aQ (aO iF (pv 1) (cn T.cf (aF (pv 0)))) (aj (az (b9 (ab (aP T.eM) ax)))) aE)
   (aj (az (md sV (by rfl) T.Em F5 (ab (aZ (aF (pv 0)) (pv 1)) ax))))), ?_⟩
 unfold yk at q;have ee:∀{σ:b6},σ[0]? =some (some (.ref hp))->Ev (da K (bA 0) "entries") σ H (.ref de):=λs0=>aC (aa s0) e1 T.bu T.dk e3
 refine b7 (aD (ay (aa rfl) (dO (n:=h.log.length) (ee rfl) l1 (by simp[hll])) bo)) (λz=>?_) λz=>?_
 ·simp at z;rw[jw (by omega)] at q;exact aR (nU (.refl _) (ae aH au) q)
 ·simp at z;have hk:k<h.log.length:=by omega
  rw[c6 hk] at q;obtain⟨ea,hea,hat⟩:=l2.get' (c6 hk);refine aR (AU (aY (cQ (ay (ee rfl) (aa rfl) (bM l1 (v:=.ref ea) (bG (by rw[cU,hea];rfl)))) (cV ⟨ea,_,rfl,.inr (uh.of (x.same _ _ hat)),λl hl=>?_⟩))));exact q l _ (aG.upd hl _) hl ah
def Jd(x:mE A G H dp ks pa lv ps):ks.length=(ps.filter λp=>p.isSome).length:=by
 have h1:ks.Perm ((List.range ps.length).filter λf=>(aK ps f).isSome):=by
  refine(List.perm_ext_iff_of_nodup x.nd (List.Pairwise.filter _ List.nodup_range)).mpr λf=>?_
  rw[x.mem f,rn,zy,wH];exact⟨λ⟨p,e⟩ =>⟨iy e,p,e⟩,λz=>z.2⟩
 rw[h1.length_eq];have h2:ps=(List.range ps.length).map λf=>aK ps f:=by
  refine Ak λi=>?_
  rw[cU];by_cases hi:i<ps.length
  ·rw[wA hi,kL];unfold aK;rw[cy,c6 hi];rfl
  ·rw[jw (by omega),jw (by simp;omega)];rfl
 conv=>rhs;rw[h2,List.filter_map,bD]
 rfl
def Je(h:aU):eZ:=⟨((h.programs.filter λp=>p.isSome).length:Int),[h.log.length]⟩
def AI(A:bU):Sp:=λvs H Q _=> ∃G hp dp de ks pa lv h,vs=[.ref hp]/\wo A G H hp dp de ks pa lv h/\Du H Q (Je h)
def B8:fQ P0 w0 b0 T 1 44 ["house"] (AI A):=by
 refine b8 (top 95) ["house"] (T.p 44).1 λS H vs Q E hr h=>?_
 obtain⟨G,hp,dp,de,ks,pa,lv,h,rfl,x,q⟩:=h;obtain⟨dx,fs,e1,e2,e3⟩:=x.obj;obtain⟨es,l1,l2⟩:=x.log;have hll:=l2.length;refine⟨_,(aj (az (b9 (ab (cC HF (by rfl) T.cf LC (ab (aF (pv 0)) ax)) (ab (cn T.cf (aF (pv 0))) ax))))), ?_⟩;unfold Je at q;rw[<- Jd x.ps] at q;refine aR (dY (vs:=[nv ks.length,nv h.log.length]) (ae (λQ q=>AU (aY (cQ (aC (aa rfl) e1 T.bu T.aW e2) (cV ⟨dp,_,rfl,x.dict,by unfold kvsOf;rw[bD];exact q⟩)))) (ae (dO (n:=h.log.length) (aC (aa rfl) e1 T.bu T.dk e3) l1 (by simp[hll])) au)) (by show 2<=sizeLine;decide) λl hl=>?_);exact q l _ (aG.upd hl _) hl ah
def iU:Kp212.From->List Nat
 |.nobody=>[0]
 |.put w=>[1,w]
 |.run w f v ks=>[2,w,f,v]++ks
def eX(A:bU)(G H:Hp)(a:Addr)(c:iP):Prop:= ∃dx tb lo,H a=some (.ins A.pN dx (jK (nv c.value) (.ref tb) (nv c.mask) (.ref lo)))/\G tb=some (.tup [nv c.bound.lo,nv c.bound.hi])/\G lo=some (.lst (bZ (iU c.from_)))
def eX.keep(x:eX A G H a c)(g:aG G G')(h:∀o,H a=some o->H' a=some o):eX A G' H' a c:=by
 obtain⟨dx,tb,lo,e1,e2,e3⟩:=x;exact⟨dx,tb,lo,h _ e1,g _ _ e2,g _ _ e3⟩
structure HC(A:bU)(G H:Hp)(N:Addr->Prop)(hp dc:Addr)(cas:List Addr)(h:aU):Prop where
 hw:HW A G H N hp h
 fr:∀b,H b=none->¬N b
 obj:∃dx x y,H hp=some (.ins A.fL dx (nD x y (.ref dc)))
 list:H dc=some (.lst (cas.map V.ref))
 cells:bF (eX A G H) cas h.cells
 nd:(dc :: cas).Nodup
 nn:∀m∈dc :: cas,¬N m/\G m=none
 HV:G hp=none
section
variable {A:bU} {G H G' H':Hp} {N N':Addr->Prop} {hp dc:Addr} {cas:List Addr} {h h':aU} {Q:VK} {a:eZ}
def HC.zM(x:HC A G H N hp dc cas h):aG G H:=by
 obtain⟨dp,de,ks,pa,lv,a,o⟩:=x.hw.ex;exact a.same
def HC.O5(x:HC A G H N hp dc cas h):¬N hp:=by
 obtain⟨dp,de,ks,pa,lv,a,o⟩:=x.hw.ex;exact o.tW
def HC.Hn(x:HC A G H N hp dc cas h)(hm:m∈dc :: cas):∃o,H m=some o:=by
 rcases bp.mp hm with rfl |hm
 ·exact⟨_,x.list⟩
 ·obtain⟨i,hi⟩:=lS hm;obtain⟨y,_,dx,tb,lo,e1,_⟩:=x.cells.get hi;exact⟨_,e1⟩
def HC.Mn(x:HC A G H N hp dc cas h):hp∉dc :: cas:=by
 obtain⟨dx,u,v,e⟩:=x.obj;intro hm
 rcases bp.mp hm with z |hm
 ·rw[z,x.list] at e;cases e
 ·obtain⟨i,hi⟩:=lS hm;obtain⟨y,_,dx',tb,lo,e1,_⟩:=x.cells.get hi;rw[e] at e1;injection Option.some.inj e1 with _ _ e2
  have:=mG u v (.ref dc);rw[e2] at this;unfold jK at this;rw[fG,ag (by decide+kernel),fG,ag (by decide+kernel),fG,ag (by decide+kernel),fG,ag (by decide+kernel)] at this;cases this
def HW.MV(x:HW A G H N hp h):HW A G H (λb=>N b/\H b≠none) hp h:=by
 obtain⟨dp,de,ks,pa,lv,a,o⟩:=x.ex;obtain⟨es,l1,l2⟩:=a.log;refine⟨dp,de,ks,pa,lv,a,λz=>o.tW z.1,⟨o.mn,by rw[a.dict];simp⟩,⟨o.qr,by rw[l1];simp⟩,λf hf=>?_,λb z=>o.g b z.1,o.inj,o.ne⟩;obtain⟨p,hp'⟩:=(a.ps.mem f).mp hf;obtain⟨dx,vas,p1,p2,_⟩:=(a.ps.prog f p hp').at_;exact⟨⟨(o.pl f hf).1,by rw[p1];simp⟩,⟨(o.pl f hf).2,by rw[p2];simp⟩⟩
def HC.ext(x:HC A G H N hp dc cas h)(e:Ext G H G' H'):HC A G' H' N hp dc cas h:=by
 obtain⟨dp,de,ks,pa,lv,a,o⟩:=x.hw.ex;obtain⟨dx,u,v,eo⟩:=x.obj;have nog:∀b,(∃o,H b=some o)->G b=none->G' b=none:=λb ⟨o',ho⟩ gb=>e.zT ho gb
 refine⟨⟨dp,de,ks,pa,lv,a.more e.gg e.hh e.gh,o.tW,o.mn,o.qr,o.pl,λb nb=>?_,o.inj,o.ne⟩,λb z=>x.fr b (e.hh.free z),⟨dx,u,v,e.hh _ _ eo⟩,e.hh _ _ x.list,x.cells.mono λ_ _ q=>q.keep e.gg (e.hh _),x.nd,λm hm=>⟨(x.nn m hm).1,nog m (x.Hn hm) (x.nn m hm).2⟩,nog hp ⟨_,eo⟩ x.HV⟩;cases q:G' b with
 |none=>rfl
 |some u'=>exact aI nb (x.fr b (e.new b (o.g b nb) u' q))
theorem HC.grow(x:HC A G H N hp dc cas h)(s:aG H H'):HC A G H' N hp dc cas h:=x.ext (Ext.grow x.zM s)
def mH(A:bU)(G H:Hp)(N:Addr->Prop)(hp dc:Addr)(cas:List Addr)(Q:VK)(h:aU)(a:eZ):Prop:=
 ∀(l:Addr)(G' H':Hp)(N':Addr->Prop)(dc':Addr)(cas':List Addr),aG G G'->(∀b o,G b=none->H b=some o->G' b=none)->(∀b o,H b=some o->¬N b->b≠hp->b∉dc :: cas->H' b=some o)->(∀b,N' b->N b\/H b=none)->(∀b∈dc' :: cas',b∈dc :: cas\/H b=none)->
  HC A G' H' N' hp dc' cas' h->H l=none->¬N' l->l∉dc' :: cas'->H' l=some (.lst ((told a).map V.int))->Q (.ref l) H'
def HC.mw(x:HC A G H N hp dc cas h)(hl:H l=none):l∉dc :: cas:=λz=>by
 obtain⟨o,e⟩:=x.Hn z;rw[hl] at e;cases e
def mH.toQ(q:mH A G H N hp dc cas Q h a)(x:HC A G H N hp dc cas h):Du H Q a:=λl H' s hl e=>
 q l G H' N dc cas (.refl _) (λb o e _=>e) (λb o e _ _ _=>s b o e) (λb z=>.inl z) (λb z=>.inl z) (x.grow s) hl (x.fr l hl) (x.mw hl) e
def mH.NZ(q:mH A G H N hp dc cas Q h' a)(x:HC A G H N hp dc cas h)(hc:h'.cells=h.cells):um A G H N hp Q h' a:=by
 intro l G' H' N' t w hl nl gl e;obtain⟨dx,u,v,eo⟩:=x.obj;have nog:∀b,(∃o,H b=some o)->G b=none->G' b=none:=λb ⟨o',ho⟩ gb=>by
  cases z:G' b with
  |none=>rfl
  |some y=>rw[t.new b y z gb] at ho;cases ho
 have nN:∀b,(∃o,H b=some o)->¬N b->¬N' b:=λb ⟨o',ho⟩ nb z=>by
  rcases t.nn b z with y |y
  ·exact nb y
  ·rw[y] at ho;cases ho
 refine q l G' H' (λb=>N' b/\H' b≠none) dc cas t.gg (λb o e1 e2=>nog b ⟨o,e2⟩ e1) (λb o e1 e2 _ _=>t.keep b o e1 e2) (λb z=>t.nn b z.1) (λb z=>.inl z) ?_ hl (λz=>nl z.1) (x.mw hl) e;refine⟨w.MV,λb z y=>y.2 z,⟨dx,u,v,t.keep _ _ eo x.O5⟩,t.keep _ _ x.list (x.nn dc (by simp)).1, ?_,x.nd,λm hm=>⟨λz=>nN m (x.Hn hm) (x.nn m hm).1 z.1,nog m (x.Hn hm) (x.nn m hm).2⟩,nog hp ⟨_,eo⟩ x.HV⟩;rw[hc];exact bF.sA x.cells λb c hb y=>y.keep t.gg λo ho=>t.keep b o ho (x.nn b (cZ _ hb)).1
def mH.ext(q:mH A G H N hp dc cas Q h a)(x:Ext G H G' H'):mH A G' H' N hp dc cas Q h a:=λl G2 H2 N2 dc2 cas2 g gn kp nn nm hc hl n1 n2 e=>
 q l G2 H2 N2 dc2 cas2 (x.gg.trans g) (λb o e1 e2=>gn b o (x.zT e2 e1) (x.hh _ _ e2)) (λb o e1 e2 e3 e4=>kp b o (x.hh _ _ e1) e2 e3 e4) (λb z=>(nn b z).imp id λy=>x.hh.free y) (λb z=>(nm b z).imp id λy=>x.hh.free y) hc (x.hh.free hl) n1 n2 e
def HC.frame(x:HC A G H N hp dc cas h)(gh:aG G H')(kp:∀b o,H b=some o->(N b\/b=hp\/b∈dc :: cas)->H' b=some o):HC A G H' N hp dc cas h:=by
 obtain⟨dp,de,ks,pa,lv,a,o⟩:=x.hw.ex;obtain⟨dx,u,v,eo⟩:=x.obj;obtain⟨dxh,fs,e1,e2,e3⟩:=a.obj;obtain⟨es,l1,l2⟩:=a.log;have kN:∀b o,N b->H b=some o->H' b=some o:=λb o nb e=>kp b o e (.inl nb)
 refine⟨⟨dp,de,ks,pa,lv,⟨gh,⟨dxh,fs,kp _ _ e1 (.inr (.inl rfl)),e2,e3⟩,kN _ _ o.mn a.dict,⟨.inl (kN _ _ o.mn a.dict),a.ps.nd,a.ps.mem,λf p hf=>?_⟩,es,kN _ _ o.qr l1,l2⟩,o.tW,o.mn,o.qr,o.pl,o.g,o.inj,o.ne⟩,λb z nb=>?_,⟨dx,u,v,kp _ _ eo (.inr (.inl rfl))⟩,kp _ _ x.list (.inr (.inr (by simp))),bF.sA x.cells λb c hb y=>y.keep (.refl _) λo ho=>kp b o ho (.inr (.inr (cZ _ hb))),x.nd,x.nn,x.HV⟩
 ·obtain⟨dxp,vas,p1,p2,p3⟩:=(a.ps.prog f p hf).at_;have:=o.pl f ((a.ps.mem f).mpr ⟨p,hf⟩);exact⟨dxp,vas,kN _ _ this.1 p1,kN _ _ this.2 p2,p3⟩
 ·cases q:H b with
  |none=>exact x.fr b q nb
  |some u'=>rw[kN b u' nb q] at z;cases z
def mH.say(q:mH A G H N hp dc cas Q h (cj i))(x:HC A G H N hp dc cas h)(s:aG H H1)(e:tD tl σ H1 [.int i]):C6 tl σ H1 Q:=nU s e (q.toQ x)
end
def F1(m w:Nat):decide ((m >>> w) &&& 1=1)=m.testBit w:=by
 rw[Nat.testBit,wM 1];have:(m >>> w) &&& 1=(m >>> w) % 2:=Nat.and_one_is_mod _;rw[this]
 rcases Nat.mod_two_eq_zero_or_one (m >>> w) with h |h<;>rw[h]<;>rfl
def DT(A:bU):Sp:=λvs H Q _=> ∃(G:Hp)(a:Addr)(c:iP)(w:Nat),vs=[.ref a,nv w]/\eX A G H a c/\Q (.bl (c.mask.testBit w)) H
def xE:fQ P0 w0 b0 T 1 45 ["cell","who"] (DT A):=by
 refine b8 (top 97) ["cell","who"] (T.p 45).1 λS H vs Q E hr h=>?_
 obtain⟨G,a,c,w,rfl,⟨dx,tb,lo,e1,e2,e3⟩,q⟩:=h;refine⟨_,(aj (az (nW bq (bH xA (bH B5 (aF (pv 0)) (pv 1)) aA) aA))), ?_⟩;rw[<- F1] at q;exact bc (ay (ay (ay (aC (aa rfl) e1 T.fK T.gQ (lu _ _ _ _)) (aa rfl) Bw) aH (yi (b:=1))) aH (bX (b:=1))) q
def GG(f:Kp212.From)(w:Nat):(!decide (((iU f).getD 0 0)=0)&&decide ((iU f).getD 1 0=w))=decide (dM f=some w):=by
 cases f<;>simp[iU,dM]
def DU(A:bU):Sp:=λvs H Q _=> ∃(G:Hp)(a:Addr)(c:iP)(w:Nat),vs=[.ref a,nv w]/\aG G H/\eX A G H a c/\Q (.bl (decide (dM c.from_=some w))) H
def MA:yG O3 (nv a) (nv b) H (.bl (!decide (a=b))):=by
 have:=iA (i:=(a:Int)) (j:=(b:Int)) (H:=H);rw[show decide ((a:Int)=(b:Int))=decide (a=b) from decide_eq_decide.mpr (by omega)] at this;exact this
def xG:fQ P0 w0 b0 T 1 46 ["cell","who"] (DU A):=by
 refine b8 (top 98) ["cell","who"] (T.p 46).1 λS H vs Q E hr h=>?_
 obtain⟨G,a,c,w,rfl,sG,⟨dx,tb,lo,e1,e2,e3⟩,q⟩:=h;refine⟨_,(aj (az (B4 (nW me (aZ (aF (pv 0)) aA) (aP T.qD)) (B1 (nW bq (aZ (aF (pv 0)) aA) (pv 1)))))), ?_⟩;rw[<- GG] at q;have l0:0<(iU c.from_).length:=by cases c.from_<;>simp[iU]
 have eo:Ev (da K (bA 0) "origin") [some (V.ref a),some (nv w)] H (.ref lo):=aC (aa rfl) e1 T.fK T.kq (qH _ _ _ _);refine bc (Bt (ay (ay eo aH (bM (sG _ _ e3) (bG (j:=0) (kW l0)))) aH (MA (b:=0))) λz=>?_) q;have l1:1<(iU c.from_).length:=by
  cases hf:c.from_ with
  |nobody=>rw[hf] at z;simp[iU] at z
  |put w=>simp[iU]
  |run _ _ _ _=>simp[iU]
 exact ay (ay eo aH (bM (sG _ _ e3) (bG (j:=1) (kW l1)))) (aa rfl) bX
def FU:List V->List (Str×V)
 | [a,b,c,d]=>jK a b c d
 |_=>[]
def mS:HL P0 w0 b0 T 1 8 ["self","value","bound","mask","origin"] (xi A.pN 4 FU):=by
 refine b8 (inClass (top 66) 0) ["self","value","bound","mask","origin"] T.ly.F λS H vs Q E hr h=>?_
 ·obtain⟨p,dx,args,rfl,hn,hp,q⟩:=h
  match args,hn with
  | [a,b,c,d],_=>
  refine⟨_,(af (bR (pv 0) (pv 1))
   (af (bR (pv 0) (pv 2))
   (af (bR (pv 0) (pv 3))
   (aj (bR (pv 0) (pv 4)))))), ?_⟩
  refine aL (cS (aa rfl) (aa rfl) hp T.fK T.lM (by show 0<1000;decide) ?_);refine aL (cS (aa rfl) (aa rfl) ah T.fK T.lN (by show 1<1000;decide) ?_);refine aL (cS (aa rfl) (aa rfl) ah T.fK T.gQ (by show 2<1000;decide) ?_);refine cS (aa rfl) (aa rfl) ah T.fK T.kq (by show 3<1000;decide) ?_;rw[bS,bS,bS];exact q
def Di:iP:=⟨0,⟨0,0⟩,bQ,.nobody⟩
def Cf(A:bU):Sp:=λvs H Q _=> ∃(G:Hp),vs=[]/\aG G H/\∀(a:Addr)(G' H':Hp),Ext G H G' H'->eX A G' H' a Di->H a=none->G' a=none->Q (.ref a) H'
def uL:fQ P0 w0 b0 T 3 21 [] (Cf A):=by
 refine b8 (top 67) [] (T.p 21).1 λS H vs Q E hr h=>?_
 obtain⟨G,rfl,sG,q⟩:=h;refine⟨_,(aj (az (fF T.ly (mS T) hr (ab aA (ab (gZ (ab aA (ab aA ax))) (ab (aP T.kY) (ab (b9 (ab (aP T.qD) ax)) ax))))))), ?_⟩;refine aR (mP (aY (cQ aH (aY (zO (ae aH (ae aH au)) (by show 2<=sizeLine;decide) λtb htb=>aY (cQ aH (aY (dY (ae aH au) (by show 1<=sizeLine;decide) λlo hlo=>cV ?_))))))));have x1:=Ext.lay sG htb (.tup [V.int 0,V.int 0]);have x2:=x1.trans (Ext.lay x1.gh hlo (.lst [V.int 0]));intro a dx ha hdx hne;refine⟨a,dx,_,rfl,rfl,ah,rfl, ?_⟩;rw[bS];have s3:aG (ao (ao H tb (.tup [V.int 0,V.int 0])) lo (.lst [V.int 0])) (ao (ao (ao (ao H tb (.tup [V.int 0,V.int 0])) lo (.lst [V.int 0])) dx (.own a)) a (.ins A.pN dx (FU [V.int 0,.ref tb,V.int 65535,.ref lo]))):=
  (aG.upd hdx _).trans (aG.upd (by rw[aw (Ne.symm hne)];exact ha) _)
 refine q a _ _ (x2.trans (Ext.grow x2.gh s3)) ⟨dx,tb,lo,ah,aG.upd (x1.gh.free hlo) _ _ _ ah,ah⟩ (x2.hh.free ha) (x2.gh.free ha)
def rE(A:bU):Sp:=λvs H Q _=> ∃(G:Hp),vs=[]/\aG G H/\∀(dc:Addr)(cas:List Addr)(G' H':Hp),Ext G H G' H'->H' dc=some (.lst (cas.map V.ref))->bF (eX A G' H') cas (List.replicate 32 Di)->(dc :: cas).Nodup->(∀m∈dc :: cas,H m=none/\G' m=none)->Q (.ref dc) H'
def rY:fQ P0 w0 b0 T 4 22 [] (rE A):=by
 refine b8 (top 68) ["k"] (T.p 22).1 λS H vs Q E hr h=>?_
 obtain⟨G,rfl,sG,q⟩:=h;refine⟨_,(aj (az (p5 rfl S.nd (GL rfl T.Bg (ab (aP T.jV) ax)) (rQ S [("k",0)]) (λ_ _ _ _ _=>(fv 0 S.nd)) (λ_ _ _ _ _=>ip) (λ_ _ _ _ _=>(AV (T.p 21) (uL T) hr))))), ?_⟩;refine aR (N7 (n:=32) (ae aH au) (by decide) (λD j H'=> ∃(cas:List Addr)(G':Hp),Ext G H G' H'/\H' D=some (.lst (cas.map V.ref))/\bF (eX A G' H') cas (List.replicate j Di)/\(D :: cas).Nodup/\∀m∈D :: cas,H m=none/\G' m=none) (λa=>rfl) (λD hD=>?_) (λD j H' hD hj ⟨cas,G',x,e1,e2,e3,e4⟩ =>?_) λD H' hD ⟨cas,G',x,e1,e2,e3,e4⟩ =>q D cas G' H' x e1 e2 e3 e4)
 ·exact⟨[],G,Ext.grow sG (aG.upd hD _),ah,.nil,by simp,λm hm=>by simp at hm;rw[hm];exact⟨hD,sG.free hD⟩⟩
 ·refine aS au ⟨G',rfl,x.gh,λa G2 H2 x2 ca ha ga=>?_⟩;have hcl:=e2.length;rw[List.length_replicate] at hcl;have aN:a∉D :: cas:=λz=>by
   rcases bp.mp z with y |y
   ·rw[y,e1] at ha;cases ha
   ·obtain⟨i,hi⟩:=lS y;obtain⟨_,_,_,_,_,w1,_⟩:=e2.get hi;rw[w1] at ha;cases ha
  simp only[bp,not_or] at aN;have gm:∀m∈D :: cas,G2 m=none:=λm hm=>by
   have hin:∃o,H' m=some o:=by
    rcases bp.mp hm with y |y
    ·exact⟨_,by rw[y];exact e1⟩
    ·obtain⟨i,hi⟩:=lS y;obtain⟨_,_,_,_,_,w1,_⟩:=e2.get hi;exact⟨_,w1⟩
   obtain⟨o,ho⟩:=hin;exact x2.zT ho (e4 m hm).2
  have nd:=e3;simp only[fh] at nd;refine⟨_,x2.hh _ _ e1,by rw[bD,hcl];exact big (by omega),cas++[a],G2,(x.trans x2).wr hD (gm D (by simp)) _,by rw[ah];simp, ?_, ?_,λm hm=>?_⟩
  ·rw[List.replicate_succ'];refine bF.snoc (bF.sA e2 λb c hb y=>y.keep x2.gg λo ho=>?_) (ca.keep (.refl _) λo ho=>?_)
   ·rw[aw λz=>nd.1 (by rw[<- z];exact hb)];exact x2.hh _ _ ho
   ·rw[aw aN.1];exact ho
  ·simp only[fh,cv,jd,not_or];refine⟨⟨nd.1,Ne.symm aN.1⟩, ?_⟩;rw[Aj];exact⟨nd.2,by simp,λy hy z hz e=>aN.2 (by simp at hz;rw[<- hz,<- e];exact hy)⟩
  ·simp only[bp,cv,qv,or_false] at hm
   rcases hm with hm |hm |hm
   ·exact⟨(e4 m (by simp[hm])).1,gm m (by simp[hm])⟩
   ·exact⟨(e4 m (by simp[hm])).1,gm m (by simp[hm])⟩
   ·rw[hm];exact⟨x.hh.free ha,ga⟩
section
variable {A:bU} {G H G' H':Hp} {N N':Addr->Prop} {hp dc:Addr} {cas cas':List Addr} {h h':aU} {Q:VK} {a:eZ} {cs:List iP}
def HC.write(x:HC A G H N hp dc cas h)(g:aG G G')(gh:aG G' H')(kp:∀b o,H b=some o->b∉dc :: cas->H' b=some o)(gn:∀b o,G b=none->H b=some o->G' b=none)(hl:H' dc=some (.lst (cas'.map V.ref)))(hcs:bF (eX A G' H') cas' cs)
  (nd:(dc :: cas').Nodup) (hm:∀m∈dc :: cas',(m∈dc :: cas\/H m=none)/\G' m=none):HC A G' H' N hp dc cas' { h with cells:=cs }:=by
 obtain⟨dp,de,ks,pa,lv,a,o⟩:=x.hw.ex;obtain⟨dx,u,v,eo⟩:=x.obj;obtain⟨dxh,fs,e1,e2,e3⟩:=a.obj;obtain⟨es,l1,l2⟩:=a.log;have kN:∀b o,N b->H b=some o->H' b=some o:=λb o nb e=>kp b o e λz=>(x.nn b z).1 nb
 have khp:∀o,H hp=some o->H' hp=some o:=λo e=>kp hp o e x.Mn
 refine⟨⟨dp,de,ks,pa,lv,⟨gh,⟨dxh,fs,khp _ e1,e2,e3⟩,kN _ _ o.mn a.dict,⟨.inl (kN _ _ o.mn a.dict),a.ps.nd,a.ps.mem,λf p hf=>?_⟩,es,kN _ _ o.qr l1,l2.mono λ_ _ z=>g _ _ z⟩,o.tW,o.mn,o.qr,o.pl,λb nb=>?_,o.inj,o.ne⟩,λb z nb=>?_,⟨dx,u,v,khp _ eo⟩,hl,hcs,nd,λm hm'=>⟨?_,(hm m hm').2⟩,gn hp _ x.HV eo⟩
 ·obtain⟨dxp,vas,p1,p2,p3⟩:=(a.ps.prog f p hf).at_;have:=o.pl f ((a.ps.mem f).mpr ⟨p,hf⟩);exact⟨dxp,vas,kN _ _ this.1 p1,kN _ _ this.2 p2,p3.mono λ_ _ z=>z.mono g⟩
 ·cases q:H b with
  |none=>exact aI nb (x.fr b q)
  |some u'=>exact gn b u' (o.g b nb) q
 ·cases q:H b with
  |none=>exact x.fr b q nb
  |some u'=>rw[kN b u' nb q] at z;cases z
 ·rcases(hm m hm').1 with z |z
  ·exact(x.nn m z).1
  ·exact x.fr m z
def mH.done(q:mH A G H N hp dc cas Q h' (cj i))(x':HC A G' H' N hp dc cas' h')(g:aG G G')(gn:∀b o,G b=none->H b=some o->G' b=none)(kp:∀b o,H b=some o->b∉dc :: cas->H' b=some o)(hm:∀b∈dc :: cas',b∈dc :: cas\/H b=none)(dom:∀b,H' b=none->H b=none)
  (e:tD tl σ H' [.int i]):C6 tl σ H' Q:=by
 refine dY e (by show 1<=sizeLine;decide) λl hl=>?_
 have s:=aG.upd hl (.lst [V.int i]);exact q l G' _ N dc cas' g gn (λb o e1 _ _ e4=>s _ _ (kp b o e1 e4)) (λb z=>.inl z) hm (x'.grow s) (dom l hl) (x'.fr l hl) (x'.mw hl) ah
def HC.at_(x:HC A G H N hp dc cas h)(h32:h.cells.length=32)(hk:k<32):∃a,cas[k]? =some a/\eX A G H a (bb h k)/\a∈cas:=by
 have hl:=x.cells.length;have ha:cas[k]? =some (cas[k]'(by omega)):=c6 (by omega);obtain⟨c,hc,q⟩:=x.cells.get ha;refine⟨_,ha, ?_,iN ha⟩;unfold bb;rw[cy,hc];exact q
def HC.ev{K:bg}{mg:Str->Option Value}(T:Txt K mg A)(x:HC A G H N hp dc cas h){k i j:Nat}{a:Addr}(ha:cas[k]? =some a){σ:b6}(s:aG H H')(s0:σ[i]? =some (some (.ref hp)))(s1:σ[j]? =some (some (nv k))):Ev (jR (gY K) (da K (bA i) "cells") (bA j)) σ H' (.ref a):=by
 obtain⟨dx,u,v,eo⟩:=x.obj;exact ay (aC (aa s0) (s _ _ eo) T.bu T.gF (js _ _ _)) (aa s1) (bM (s _ _ x.list) (bG (by rw[cU,ha];rfl)))
theorem HC.set(x:HC A G H N hp dc cas h){H1:Hp}{k:Nat}{a:Addr}{c:iP}(g:aG G G')(s:aG H H1)(gh:aG G' H1)(gn:∀b o,G b=none->H b=some o->G' b=none)(ca:eX A G' H1 a c)(ha:H a=none)(ga:G' a=none):
  HC A G' (ao H1 dc (.lst ((cas.map V.ref).set k (.ref a)))) N hp dc (cas.set k a) { h with cells:=h.cells.set k c } /\(∀b o,H b=some o->b∉dc :: cas->ao H1 dc (.lst ((cas.map V.ref).set k (.ref a))) b=some o)/\
   (∀b∈dc :: cas.set k a,b∈dc :: cas\/H b=none)/\∀b,ao H1 dc (.lst ((cas.map V.ref).set k (.ref a))) b=none->H b=none:=by
 have gdc:G' dc=none:=gn dc _ (x.nn dc (by simp)).2 x.list;have adc:a≠dc:=λz=>by rw[z,x.list] at ha;cases ha
 have aN:a∉dc :: cas:=x.mw ha;have nd:=x.nd;simp only[fh,bp,not_or] at nd aN;have kp:∀b o,H b=some o->b∉dc :: cas->ao H1 dc (.lst ((cas.map V.ref).set k (.ref a))) b=some o:=λb o e hb=>by
  rw[aw λz=>hb (by rw[z];simp)];exact s _ _ e
 have hm:∀b∈dc :: cas.set k a,b∈dc :: cas\/H b=none:=λb hb=>by
  rcases bp.mp hb with z |z
  ·rw[z];exact .inl (by simp)
  ·rcases wO z with y |y
   ·exact .inl (cZ _ y)
   ·rw[y];exact .inr ha
 refine⟨x.write g (gh.C3 gdc _) kp gn (by rw[ah,List.map_set]) ?_ ?_ λm hm'=>⟨hm m hm', ?_⟩,kp,hm,λb z=>?_⟩
 ·have hc:bF (eX A G' (ao H1 dc (.lst ((cas.map V.ref).set k (.ref a))))) cas h.cells:=bF.sA x.cells λb c hb y=>y.keep g λo ho=>by
   rw[aw λz=>nd.1 (by rw[<- z];exact hb)];exact s _ _ ho
  have ca':eX A G' (ao H1 dc (.lst ((cas.map V.ref).set k (.ref a)))) a c:=ca.keep (.refl _) λo ho=>by rw[aw adc];exact ho
  have:∀(l:List Addr)(m:List iP)(k:Nat),bF (eX A G' (ao H1 dc (.lst ((cas.map V.ref).set k (.ref a))))) l m->True:=λ_ _ _ _=>trivial
  have st:∀{R:Addr->iP->Prop}(l:List Addr)(m:List iP)(k:Nat),bF R l m->R a c->bF R (l.set k a) (m.set k c):=by
   intro R l m k hlm
   induction hlm generalizing k with
   |nil=>intro _;exact .nil
   |cons q _ ih=>
    intro hr;cases k with
    |zero=>exact .cons hr (by assumption)
    |succ k=>exact .cons q (ih k hr)
  exact st cas h.cells k hc ca'
 ·simp only[fh];refine⟨λz=>?_, ?_⟩
  ·rcases wO z with y |y
   ·exact nd.1 y
   ·exact adc y.symm
  ·have:∀(l:List Addr)(k:Nat),l.Nodup->a∉l->(l.set k a).Nodup:=by
    intro l
    induction l with
    |nil=>intro k _ _;simp
    |cons b l ih=>
     intro k hn ha;simp only[fh,bp,not_or] at hn ha;cases k with
     |zero=>simp only[List.set_cons_zero,fh];exact⟨ha.2,hn.2⟩
     |succ k=>
      simp only[List.set_cons_succ,fh];refine⟨λz=>?_,ih k hn.2 ha.2⟩
      rcases wO z with y |y
      ·exact hn.1 y
      ·exact ha.1 y.symm
   exact this cas k nd.2 aN.2
 ·rcases bp.mp hm' with z |z
  ·rw[z];exact gdc
  ·rcases wO z with y |y
   ·obtain⟨o,ho⟩:=x.Hn (cZ dc y);exact gn m o (x.nn m (cZ _ y)).2 ho
   ·rw[y];exact ga
 ·by_cases y:b=dc
  ·rw[y,ah] at z;cases z
  ·rw[aw y] at z;exact s.free z
end
def Cd(A:bU):Sp:=λvs H Q _=> ∃G N hp dc cas h w k lo hi v m tb h' a,vs=[.ref hp,nv w,nv k,.ref tb,nv v,nv m]/\HC A G H N hp dc cas h/\h.cells.length=32/\G tb=some (.tup [nv lo,nv hi])/\hi<ROUND/\
 aX (some h) (.put w k lo hi v m)=(some h',a)/\mH A G H N hp dc cas Q h' a
def CD:fQ P0 w0 b0 T 3 47 ["house","who","k","bound","value","mask"] (Cd A):=by
 refine b8 (top 99) ["house","who","k","bound","value","mask"] (T.p 47).1 λS H vs Q E hr h=>?_
 obtain⟨G,N,hp,dc,cas,h,w,k,lo,hi,v,m,tb,h',a,rfl,x,h32,htb,hhi,hst,q⟩:=h;refine⟨_,(af (aQ (PW.pt (iE (aO iF (pv 1) (aP T.pE)) (iE (aO iF (pv 2) (aP T.jV)) (fT (aO kj (pv 5) (aP T.kY)))))) (aj (az (b9 (ab (aP T.gS) ax)))) aE)
   (af (aQ (PW.pt (iE (aO qz (pv 4) (ki (pv 3) aA)) (fT (aO kj (pv 4) (ki (pv 3) aA))))) (aj (az (b9 (ab (aP T.gS) ax)))) aE)
   (af (AY (fF T.ly (mS T) hr (ab (pv 4) (ab (pv 3) (ab (pv 5) (ab (b9 (ab (aP T.Jw) (ab (pv 1) ax))) ax))))) (B0 (aF (pv 0)) (pv 2) set_list (λ_=>rfl)))
   (aj (az (b9 (ab aA ax))))))), ?_⟩
 have htb':=x.zM _ _ htb;unfold aX at hst;dsimp only at hst;refine b7 (jg (aD (ay (aa rfl) aH bo)) λ_=>jg (aD (ay (aa rfl) aH bo)) λ_=>aD (ay (aa rfl) aH bo)) (λe=>?_) λe=>?_
 ·(try simp at e)
  rw[ai (by simp only[cg,dS,bQ];omega)] at hst;cases hst;exact aR (q.say x (.refl _) (ae aH au))
 refine b7 (jg (aD (ay (aa rfl) (ay (aa rfl) aH (hG (i:=0) htb' rfl)) bo)) λ_=>aD (ay (aa rfl) (ay (aa rfl) aH (hG (i:=1) htb' rfl)) bo)) (λe2=>?_) λe2=>?_
 ·(try simp at e2)
  rw[ai (by simp only[cg,dS,bQ];omega)] at hst;cases hst;exact aR (q.say x (.refl _) (ae aH au))
 (try simp at e);(try simp at e2)
 have hgb:goodBound ⟨lo,hi⟩ =true:=by unfold Kp212.goodBound;simp;omega
 rw[ag (by rw[hgb];simp[cg,dS,bQ];omega)] at hst;cases hst;obtain⟨dx,u,y,eo⟩:=x.obj;have hcl:=x.cells.length;refine aL (mP (aY (cQ (aa rfl) (aY (cQ (aa rfl) (aY (cQ (aa rfl) (aY (dY (ae aH (ae (aa rfl) au)) (by show 2<=sizeLine;decide) λlo' hlo=>cV ?_)))))))));have x1:=Ext.lay x.zM hlo (.lst [V.int 1,nv w]);intro b dxb hb hdx hne;refine⟨b,dxb,_,rfl,rfl,ah,rfl, ?_⟩;rw[bS];have s3:aG (ao H lo' (.lst [V.int 1,nv w])) (ao (ao (ao H lo' (.lst [V.int 1,nv w])) dxb (.own b)) b (.ins A.pN dxb (FU [nv v,.ref tb,nv m,.ref lo']))):=
  (aG.upd hdx _).trans (aG.upd (by rw[aw (Ne.symm hne)];exact hb) _)
 have x2:=x1.trans (Ext.grow x1.gh s3);obtain⟨xs,kp,hm,dom⟩:=x.set (k:=k) (a:=b) (c:=⟨v,⟨lo,hi⟩,m,.put w⟩) x2.gg x2.hh x2.gh (λb o e1 e2=>x2.zT e2 e1) ⟨dxb,tb,lo',ah,x2.gg _ _ htb,ah⟩ (x1.hh.free hb) (x1.gh.free hb);refine cQ (aC (aa rfl) (x2.hh _ _ eo) T.bu T.gF (js _ _ _)) (cQ (aa rfl) ⟨dc,cas.map V.ref,(k:Int),k,rfl,rfl,x2.hh _ _ x.list,wb (by rw[bD];omega), ?_⟩);dsimp only;exact aR (q.done xs x2.gg (λb o e1 e2=>x2.zT e2 e1) kp hm dom (ae aH au))
def yK(A:bU):Sp:=λvs H Q _=> ∃G N hp dc cas h w k h' a,vs=[.ref hp,nv w,nv k]/\HC A G H N hp dc cas h/\h.cells.length=32/\aX (some h) (.clear w k)=(some h',a)/\mH A G H N hp dc cas Q h' a
def yR:fQ P0 w0 b0 T 4 52 ["house","who","k"] (yK A):=by
 refine b8 (top 104) ["house","who","k"] (T.p 52).1 λS H vs Q E hr h=>?_
 obtain⟨G,N,hp,dc,cas,h,w,k,h',a,rfl,x,h32,hst,q⟩:=h;refine⟨_,(af (aQ (aO iF (pv 2) (aP T.jV)) (aj (az (b9 (ab (aP T.gS) ax)))) aE)
   (af (aQ (jh (fU (aV (T.p 46) (xG T) hr (ab (aZ (aF (pv 0)) (pv 2)) (ab (pv 1) ax))))) (aj (az (b9 (ab (aP T.kX) ax)))) aE)
   (af (AY (AV (T.p 21) (uL T) hr) (B0 (aF (pv 0)) (pv 2) set_list (λ_=>rfl)))
   (aj (az (b9 (ab aA ax))))))), ?_⟩
 unfold aX at hst;dsimp only at hst;refine b7 (aD (ay (aa rfl) aH bo)) (λe=>?_) λe=>?_
 ·(try simp at e)
  rw[ai (by simp only[cg,dS,bQ];omega)] at hst;cases hst;exact aR (q.say x (.refl _) (ae aH au))
 (try simp at e)
 rw[ag (by simp only[cg,dS,bQ];omega)] at hst;obtain⟨ca,hca,cell,_⟩:=x.at_ h32 (k:=k) (by omega);refine b7 (Bu (yh (du (v:=.bl (decide (dM (bb h k).from_=some w))) (ae (x.ev T hca (.refl _) rfl rfl) (ae (aa rfl) au)) λQ q=>⟨G,ca,_,w,rfl,x.zM,cell,q⟩))) (λe2=>?_) λe2=>?_
 ·have:dM (bb h k).from_≠some w:=by simpa using e2
  rw[ai this] at hst;cases hst;exact aR (q.say x (.refl _) (ae aH au))
 have:¬(dM (bb h k).from_≠some w):=by simpa using e2
 rw[ag this] at hst;cases hst;obtain⟨dx,u,y,eo⟩:=x.obj;have hcl:=x.cells.length;refine aL (aS au ⟨G,rfl,x.zM,λb G2 H2 x2 cb hb gb=>?_⟩);obtain⟨xs,kp,hm,dom⟩:=x.set (k:=k) (a:=b) (c:=Di) x2.gg x2.hh x2.gh (λb o e1 e2=>x2.zT e2 e1) cb hb gb;refine cQ (aC (aa rfl) (x2.hh _ _ eo) T.bu T.gF (js _ _ _)) (cQ (aa rfl) ⟨dc,cas.map V.ref,(k:Int),k,rfl,rfl,x2.hh _ _ x.list,wb (by rw[bD];omega), ?_⟩);dsimp only;exact aR (q.done xs x2.gg (λb o e1 e2=>x2.zT e2 e1) kp hm dom (ae aH au))
def IP(x0 x1 x2 x3 y:V):bI "mask" y (jK x0 x1 x2 x3)=jK x0 x1 y x3:=by
 unfold jK;rfl
def xf(A:bU):Sp:=λvs H Q _=> ∃G N hp dc cas h w k m h' a,vs=[.ref hp,nv w,nv k,nv m]/\HC A G H N hp dc cas h/\h.cells.length=32/\aX (some h) (.narrow w k m)=(some h',a)/\mH A G H N hp dc cas Q h' a
def xD:fQ P0 w0 b0 T 2 51 ["house","who","k","mask"] (xf A):=by
 refine b8 (top 103) ["house","who","k","mask","cell"] (T.p 51).1 λS H vs Q E hr h=>?_
 obtain⟨G,N,hp,dc,cas,h,w,k,m,h',a,rfl,x,h32,hst,q⟩:=h;refine⟨_,(af (aQ (PW.pt (iE (aO iF (pv 2) (aP T.jV)) (fT (aO kj (pv 3) (aP T.kY))))) (aj (az (b9 (ab (aP T.gS) ax)))) aE)
   (af (aT 4 S.nd (aZ (aF (pv 0)) (pv 2)))
   (af (aQ (jh (fU (aV (T.p 46) (xG T) hr (ab (pv 4) (ab (pv 1) ax))))) (aj (az (b9 (ab (aP T.kX) ax)))) aE)
   (af (bR (pv 4) (bH xA (aF (pv 4)) (pv 3)))
   (aj (az (b9 (ab aA ax)))))))), ?_⟩
 unfold aX at hst;dsimp only at hst;refine b7 (jg (aD (ay (aa rfl) aH bo)) λ_=>aD (ay (aa rfl) aH bo)) (λe=>?_) λe=>?_
 ·(try simp at e)
  rw[ai (by simp only[cg,dS,bQ];omega)] at hst;cases hst;exact aR (q.say x (.refl _) (ae aH au))
 (try simp at e)
 rw[ag (by simp only[cg,dS,bQ];omega)] at hst;obtain⟨ca,hca,cell,hmem⟩:=x.at_ h32 (k:=k) (by omega);refine aL (bY (x.ev T hca (.refl _) rfl rfl) ?_);dsimp only;refine b7 (Bu (yh (du (v:=.bl (decide (dM (bb h k).from_=some w))) (ae (aa rfl) (ae (aa rfl) au)) λQ q=>⟨G,ca,_,w,rfl,x.zM,cell,q⟩))) (λe2=>?_) λe2=>?_
 ·have:dM (bb h k).from_≠some w:=by simpa using e2
  rw[ai this] at hst;cases hst;exact aR (q.say x (.refl _) (ae aH au))
 have:¬(dM (bb h k).from_≠some w):=by simpa using e2
 rw[ag this] at hst;cases hst;obtain⟨dx,tb,lo,c1,c2,c3⟩:=cell;refine aL (cS (ay (aC (aa rfl) c1 T.fK T.gQ (lu _ _ _ _)) (aa rfl) yi) (aa rfl) c1 T.fK T.gQ (by show 4<1000;decide) ?_);rw[IP];dsimp only;have gca:=(x.nn ca (cZ _ hmem)).2;have cadc:ca≠dc:=λz=>by have:=x.list;rw[<- z,c1] at this;cases this
 have hk:k<cas.length:=(dm.mp hca).1;have nd:=x.nd;simp only[fh] at nd;have kp:∀b o,H b=some o->b∉dc :: cas->ao H ca (.ins A.pN dx (jK (nv (bb h k).value) (.ref tb) (nv ((bb h k).mask &&& m)) (.ref lo))) b=some o:=λb o e hb=>by
  rw[aw λz=>hb (by rw[z];exact cZ _ hmem)];exact e
 have x2:HC A G (ao H ca (.ins A.pN dx (jK (nv (bb h k).value) (.ref tb) (nv ((bb h k).mask &&& m)) (.ref lo)))) N hp dc cas { h with cells:=h.cells.set k { bb h k with mask:=Nat.land (bb h k).mask m } }:=by
  refine x.write (.refl _) (x.zM.C3 gca _) kp (λb o e _=>e) (by rw[aw (Ne.symm cadc)];exact x.list) ?_ x.nd λm hm=>⟨.inl hm,(x.nn m hm).2⟩
  refine bF.set x.cells hca ⟨dx,tb,lo,ah,c2,c3⟩ λj y z hj hy _ hz=>hz.keep (.refl _) λo ho=>?_
  rw[aw λe=>hj ((List.getElem?_inj (dm.mp hy).1 nd.2).mp (by rw[hy,e,hca]))];exact ho
 refine aR (q.done x2 (.refl _) (λb o e _=>e) kp (λb hb=>.inl hb) (λb z=>?_) (ae aH au));by_cases y:b=ca
 ·rw[y,ah] at z;cases z
 ·rw[aw y] at z;exact z
def AJ(A:bU):Sp:=λvs H Q _=> ∃G N hp dc cas h w k h' a,vs=[.ref hp,nv w,nv k]/\HC A G H N hp dc cas h/\h.cells.length=32/\aX (some h) (.read w k)=(some h',a)/\mH A G H N hp dc cas Q h' a
def Ba:fQ P0 w0 b0 T 2 53 ["house","who","k"] (AJ A):=by
 refine b8 (top 105) ["house","who","k"] (T.p 53).1 λS H vs Q E hr h=>?_
 obtain⟨G,N,hp,dc,cas,h,w,k,h',a,rfl,x,h32,hst,q⟩:=h;refine⟨_,(af (aQ (PW.pt (iE (aO iF (pv 1) (aP T.pE)) (fT (aO iF (pv 2) (aP T.jV))))) (aj (az (b9 (ab (aP T.gS) ax)))) aE)
   (af (aQ (jh (fU (aV (T.p 45) (xE T) hr (ab (aZ (aF (pv 0)) (pv 2)) (ab (pv 1) ax))))) (aj (az (b9 (ab (aP T.yc) ax)))) aE)
   (aj (az (b9 (ab aA (ab (aF (aZ (aF (pv 0)) (pv 2))) ax))))))), ?_⟩
 unfold aX at hst;dsimp only at hst;refine b7 (jg (aD (ay (aa rfl) aH bo)) λ_=>aD (ay (aa rfl) aH bo)) (λe=>?_) λe=>?_
 ·(try simp at e)
  rw[ai (by simp only[cg,dS,bQ];omega)] at hst;cases hst;exact aR (q.say x (.refl _) (ae aH au))
 (try simp at e)
 rw[ag (by simp only[cg,dS,bQ];omega)] at hst;obtain⟨ca,hca,cell,hmem⟩:=x.at_ h32 (k:=k) (by omega);refine b7 (Bu (yh (du (v:=.bl ((bb h k).mask.testBit w)) (ae (x.ev T hca (.refl _) rfl rfl) (ae (aa rfl) au)) λQ q=>⟨G,ca,_,w,rfl,cell,q⟩))) (λe2=>?_) λe2=>?_
 ·have:d9 h w k=false:=by simpa[d9] using e2
  rw[ai this] at hst;cases hst;exact aR (q.say x (.refl _) (ae aH au))
 have:¬d9 h w k=false:=by simpa[d9] using e2
 rw[ag this] at hst;cases hst;obtain⟨dx,tb,lo,c1,c2,c3⟩:=cell;refine aR (dY (ae aH (ae (aC (x.ev T hca (.refl _) rfl rfl) c1 T.fK T.lM (tm _ _ _ _)) au)) (by show 2<=sizeLine;decide) λl hl=>?_);exact q.toQ x l _ (aG.upd hl _) hl ah
def AH(A:bU):Sp:=λvs H Q _=> ∃G N hp dc cas h k h' a,vs=[.ref hp,nv k]/\HC A G H N hp dc cas h/\h.cells.length=32/\aX (some h) (.seen k)=(some h',a)/\mH A G H N hp dc cas Q h' a
def B7:fQ P0 w0 b0 T 1 54 ["house","k"] (AH A):=by
 refine b8 (top 106) ["house","k","cell"] (T.p 54).1 λS H vs Q E hr h=>?_
 obtain⟨G,N,hp,dc,cas,h,k,h',a,rfl,x,h32,hst,q⟩:=h;refine⟨_,(af (aQ (aO iF (pv 1) (aP T.jV)) (aj (az (b9 (ab (aP T.gS) ax)))) aE)
   (af (aT 2 S.nd (aZ (aF (pv 0)) (pv 1)))
   (aj (az (b9 (ab aA (ab (aF (pv 2)) (ab (ki (aF (pv 2)) aA) (ab (ki (aF (pv 2)) aA) ax))))))))), ?_⟩
 unfold aX at hst;dsimp only at hst;refine b7 (aD (ay (aa rfl) aH bo)) (λe=>?_) λe=>?_
 ·(try simp at e)
  rw[ai (by simp only[cg,dS,bQ];omega)] at hst;cases hst;exact aR (q.say x (.refl _) (ae aH au))
 (try simp at e)
 rw[ag (by simp only[cg,dS,bQ];omega)] at hst;cases hst;obtain⟨ca,hca,⟨dx,tb,lo,c1,c2,c3⟩,hmem⟩:=x.at_ h32 (k:=k) (by omega);refine aL (bY (x.ev T hca (.refl _) rfl rfl) ?_);dsimp only;have ebd:∀{σ:b6}(i:Nat)(n:Nat),σ[2]? =some (some (.ref ca))->[nv (bb h k).bound.lo,nv (bb h k).bound.hi][i]? =some (nv n)->Ev (jR (qS K) (da K (bA 2) "bound") (tC (V.int (i:Int)))) σ H (nv n):=λi n s2 hi=>
  ay (aC (aa s2) c1 T.fK T.lN (tq _ _ _ _)) aH (hG (x.zM _ _ c2) (bG hi))
 refine aR (dY (ae aH (ae (aC (aa rfl) c1 T.fK T.gQ (lu _ _ _ _)) (ae (ebd 0 _ rfl rfl) (ae (ebd 1 _ rfl rfl) au)))) (by show 4<=sizeLine;decide) λl hl=>?_);exact q.toQ x l _ (aG.upd hl _) hl ah
def Ca(A:bU):Sp:=λvs H Q _=> ∃G N hp dc cas h k h' a,vs=[.ref hp,nv k]/\HC A G H N hp dc cas h/\h.cells.length=32/\aX (some h) (.how k)=(some h',a)/\mH A G H N hp dc cas Q h' a
def CB:fQ P0 w0 b0 T 1 55 ["house","k"] (Ca A):=by
 refine b8 (top 107) ["house","k"] (T.p 55).1 λS H vs Q E hr h=>?_
 obtain⟨G,N,hp,dc,cas,h,k,h',a,rfl,x,h32,hst,q⟩:=h;refine⟨_,(af (aQ (aO iF (pv 1) (aP T.jV)) (aj (az (b9 (ab (aP T.gS) ax)))) aE)
   (aj (az (md sV (by rfl) T.Em F5 (ab (aF (aZ (aF (pv 0)) (pv 1))) ax))))), ?_⟩
 unfold aX at hst;dsimp only at hst;refine b7 (aD (ay (aa rfl) aH bo)) (λe=>?_) λe=>?_
 ·(try simp at e)
  rw[ai (by simp only[cg,dS,bQ];omega)] at hst;cases hst;exact aR (q.say x (.refl _) (ae aH au))
 (try simp at e)
 rw[ag (by simp only[cg,dS,bQ];omega)] at hst;cases hst;obtain⟨ca,hca,⟨dx,tb,lo,c1,c2,c3⟩,hmem⟩:=x.at_ h32 (k:=k) (by omega);refine aR (AU (aY (cQ (aC (x.ev T hca (.refl _) rfl rfl) c1 T.fK T.kq (qH _ _ _ _)) (cV ⟨lo,_,rfl,.inl (cG.of (x.zM _ _ c3)),λl hl=>?_⟩))));refine q.toQ x l _ (aG.upd hl _) hl ?_;rw[ah];cases (bb h k).from_ with
 |nobody=>rfl
 |put w=>rfl
 |run w f v ks=>
  show some (HO.lst (bZ (iU (.run w f v ks))))=some (HO.lst (V.int 2 :: (([w,f,v]++ks).map λn=>((n:Nat):Int)).map V.int));rw[<- xY];rfl
noncomputable def kh (h:aU) (w f t:Nat) (ks:List Nat):Int:=if 16<=w\/32<=t\/(ks.any λk=>decide (32<=k))=true then -22 else match version h.programs f with
 |none=> -2
 |some v=>if ks.length≠v.word.params.length then -22 else if ks.all (d9 h w)=false then -13 else if ((ks.zip v.word.params).all λz=>gu (bb h z.1).bound z.2)=false then -71 else 0
def IB(hr:kh h w f t ks≠0):aX (some h) (.run w f t ks)=(some h,cj (kh h w f t ks)):=by
 unfold kh at hr⊢;unfold aX;dsimp only;by_cases h1:16<=w\/32<=t\/(ks.any λk=>decide (32<=k))=true
 ·rw[ai h1,ai (by exact h1)]
 ·rw[ag h1] at hr;rw[ag h1,ag (by exact h1)];cases hv:version h.programs f with
  |none=>rfl
  |some v=>
   rw[hv] at hr;dsimp only at hr⊢;by_cases h2:ks.length≠v.word.params.length
   ·rw[ai h2,ai h2]
   ·rw[ag h2] at hr;rw[ag h2,ag h2];by_cases h3:ks.all (d9 h w)=false
    ·rw[ai h3,ai h3]
    ·rw[ag h3] at hr;rw[ag h3,ag h3];by_cases h4:((ks.zip v.word.params).all λz=>gu (bb h z.1).bound z.2)=false
     ·rw[ai h4,ai h4]
     ·rw[ag h4] at hr;exact aI rfl hr
def Fl(hr:kh h w f t ks=0):t<32/\(∀k∈ks,k<32)/\∃v,version h.programs f=some v/\ks.length=v.word.params.length/\((ks.zip v.word.params).all λz=>gu (bb h z.1).bound z.2)=true/\
  ∀x s p,Kp212.runOf h.programs f (ks.map λk=>(bb h k).value)=some (x,s)->aK h.programs f=some p->
   aX (some h) (.run w f t ks)=(some { h with cells:=h.cells.set t ⟨x,v.word.out,dJ h v.word.deps 0 ks,.run w f (p.versions.length - 1) ks⟩ },cj 0):=by
 unfold kh at hr;by_cases h1:16<=w\/32<=t\/(ks.any λk=>decide (32<=k))=true
 ·rw[ai h1] at hr;cases hr
 ·rw[ag h1] at hr;have h1':=h1;simp only[not_or,zm,Ai,decide_eq_true_eq,not_exists,not_and] at h1';refine⟨h1'.2.1,λk hk=>by have:=h1'.2.2 k hk;omega, ?_⟩;cases hv:version h.programs f with
  |none=>rw[hv] at hr;cases hr
  |some v=>
   rw[hv] at hr;dsimp only at hr;by_cases h2:ks.length≠v.word.params.length
   ·rw[ai h2] at hr;cases hr
   ·rw[ag h2] at hr;by_cases h3:ks.all (d9 h w)=false
    ·rw[ai h3] at hr;cases hr
    ·rw[ag h3] at hr;by_cases h4:((ks.zip v.word.params).all λz=>gu (bb h z.1).bound z.2)=false
     ·rw[ai h4] at hr;cases hr
     ·refine⟨v,rfl,by omega,by simpa using h4,λx s p hx hp=>?_⟩;unfold aX;dsimp only;rw[ag (by exact h1),hv];dsimp only;rw[ag h2,ag h3,ag h4,hx,hp]
structure yB(A:bU)(G H:Hp)(h:aU)(lo:Addr)(cs:List Addr)(ks:List Nat):Prop where
 list:H lo=some (.lst (cs.map V.ref))
 cells:bF (λa k=>eX A G H a (bb h k)) cs ks
def yB.grow{A:bU}{G H H':Hp}{h:aU}{lo:Addr}{cs:List Addr}{ks:List Nat}(x:yB A G H h lo cs ks)(s:aG H H'):yB A G H' h lo cs ks:=
 ⟨s _ _ x.list,x.cells.mono λ_ _ q=>q.keep (.refl _) (s _)⟩
theorem HC.over(x:HC A G H N hp dc cas h)(h32:h.cells.length=32):∀{ks:List Nat},(∀k∈ks,k<32)->∃cs:List Addr,bF (λa k=>eX A G H a (bb h k)) cs ks/\∀(i:Nat)(k:Nat),ks[i]? =some k->∃a,cs[i]? =some a/\cas[k]? =some a
 | [],_=>⟨[],.nil,λi k e=>by simp at e⟩
 |k :: ks,hk=>by
  obtain⟨cs,c1,c2⟩:=HC.over x h32 (ks:=ks) λj hj=>hk j (cZ _ hj)
  obtain⟨a,a1,a2,_⟩:=x.at_ h32 (hk k cF);refine⟨a :: cs,.cons a2 c1,λi j e=>?_⟩;cases i with
  |zero=>simp at e;subst e;exact⟨a,rfl,a1⟩
  |succ i=>exact c2 i j (by simpa using e)
def IK{A:bU}{K:bg}{mg:Str->Option Value}(T:Txt K mg A){G H:Hp}{N:Addr->Prop}{hp dc lk:Addr}{cas:List Addr}{h:aU}{ks:List Nat}{σ:b6}{Q:VK}{i j n:Nat}(x:HC A G H N hp dc cas h)(h32:h.cells.length=32)(hlk:H lk=some (.lst (bZ ks)))(hk:∀k∈ks,k<32)(hz:ks.length<=1000)(hn:n<σ.length)
  (s0:((wipe σ [n]).set n (some (V.int 0)))[i]? =some (some (.ref hp))) (hin:i≠n) (s1:σ[j]? =some (some (.ref lk))) (q:∀lo cs,H lo=none->yB A G (ao H lo (.lst (cs.map V.ref))) h lo cs ks->Q (.ref lo) (ao H lo (.lst (cs.map V.ref)))):
  Ig (A0 K (bA j)) (gi n) vw (jR (gY K) (da K (bA i) "cells") (bA n)) [n] σ H Q:=by
 obtain⟨cs,c1,c2⟩:=x.over h32 hk;have hcl:=c1.length;refine xp (ys:=cs.map V.ref) (aa s1) (cG.of hlk) (by simp[hcl]) (by simp;omega) hn (λm y z H' hy hz' sH=>?_) λD hD=>?_
 ·rw[cU] at hy hz';obtain⟨k,hk',rfl⟩:=bO.mp hy;obtain⟨a,ha,rfl⟩:=bO.mp hz';obtain⟨a',ha',hcas⟩:=c2 m k hk';rw[ha] at ha';cases ha';refine x.ev T hcas sH ?_ ?_
  ·rw[zx (Ne.symm hin)] at s0⊢;exact s0
  ·rw[Ay (by simpa[wipe] using hn)]
 ·exact q D cs hD ⟨ah,c1.mono λ_ _ y=>y.keep (.refl _) (aG.upd hD _ _)⟩
def rC(A:bU):Sp:=λvs H Q _=> ∃G N hp dc cas h w f t lk ks,vs=[.ref hp,nv w,nv f,nv t,.ref lk]/\HC A G H N hp dc cas h/\i5 h/\H lk=some (.lst (bZ ks))/\ks.length<=1000/\∀H',aG H H'->Q (.int (kh h w f t ks)) H'
def rW:fQ P0 w0 b0 T 2 48 ["house","who","f","to","places"] (rC A):=by
 refine b8 (top 100) ["house","who","f","to","places","bounds","over","bound","k","cell"] (T.p 48).1 λS H vs Q E hr h=>?_
 obtain⟨G,N,hp,dc,cas,h,w,f,t,lk,ks,rfl,x,ok,hlk,hz,q⟩:=h;refine⟨_,(af (aQ (PW.pt (iE (aO iF (pv 1) (aP T.pE)) (iE (aO iF (pv 3) (aP T.jV)) (fT (fU (cC (MF rfl) (by rfl) T.Nn NL (ab (p5 rfl S.nd (g9 (pv 4)) (rQ S [("k",8)]) (λ_ _ _ _ _=>(fv 8 S.nd)) (λ_ _ _ _ _=>ip) (λ_ _ _ _ _=>(nW iF (pv 8) (aP T.jV)))) ax))))))) (aj (az (aP T.gS))) aE)
   (af (aQ (lI (gO (fO hr) (pv 2) (aF (pv 0)))) (aj (az (aP T.eM))) aE)
   (af (aT 5 S.nd (aF (aF (aV (T.p 24) (dP T) hr (ab (pv 0) (ab (pv 2) ax))))))
   (af (aQ (aO me (cn T.cf (pv 4)) (cn T.cf (pv 5))) (aj (az (aP T.gS))) aE)
   (af (xq (i:=6) rfl S.nd rfl rfl (AG rfl rfl rfl rfl) (g9 (pv 4)) (rQ S [("k",8)]) (λ_ _ _ _ _=>(fv 8 S.nd)) (λ_ _ _ _ _=>ip) (λ_ _ _ _ _=>(kS (r:=gY K) mX (show PE _ _ (da K _ _) from aF (pv 0)) (pv 8) (λ_ _=>rfl))))
   (af (aQ (jh (fU (cC (EU rfl) (by rfl) T.J8 K1 (ab (p5 rfl S.nd (g9 (pv 6)) (rQ S [("cell",9)]) (λ_ _ _ _ _=>(fv 9 S.nd)) (λ_ _ _ _ _=>ip) (λ_ _ _ _ _=>(aV (T.p 45) (xE T) hr (ab (pv 9) (ab (pv 1) ax))))) ax)))) (aj (az (aP T.yc))) aE)
   (af (oY PassesOwn.never rfl (IQ rfl T.Lu (ab (pv 6) (ab (pv 5) ax))) (xt rfl (i9 (fv 9 S.nd) (i9 (fv 7 S.nd) rR))) (aj (aQ (PW.pt (iE (aO qz (ki (aF (pv 9)) aA) (ki (pv 7) aA)) (fT (aO kj (ki (aF (pv 9)) aA) (ki (pv 7) aA))))) (aj (az (aP T.Bo))) aE)))
   (aj (az aA))))))))), ?_⟩
 unfold kh at q;refine nV (Fp (Cq (aD (ay (aa rfl) aH bo)) ?_));by_cases hw:16<=w
 ·rw[ai (by simp;omega),ai rfl];rw[ai (.inl hw)] at q;exact bc aH (q H (.refl _))
 rw[ag (by simp;omega)];refine Fp (Cq (aD (ay (aa rfl) aH bo)) ?_);by_cases ht:32<=t
 ·rw[ai (by simp;omega),ai rfl];rw[ai (.inr (.inl ht))] at q;exact bc aH (q H (.refl _))
 rw[ag (by simp;omega)];refine GI (AU (aY (xp (ys:=(ks.map λk=>decide (32<=k)).map V.bl) (aa rfl) (cG.of hlk) (by simp) (by simp;omega) (by show 8<10;decide) (λi x y H' hx hy sH=>?_) λD hD=>cV ⟨D,_,rfl,cG.of ah,_,rfl, ?_⟩)))
 ·rw[cU] at hx;obtain⟨k,hk,rfl⟩:=bO.mp hx;rw[cU,cU,hk] at hy;cases hy;have:=bo (g:=λi j=>V.bl (decide (i≥j))) (i:=(k:Int)) (j:=32) (H:=H');rw[show decide ((k:Int)≥32)=decide (32<=k) from decide_eq_decide.mpr (by omega)] at this;exact ay (aa rfl) aH this
 have s1:aG H (ao H D (.lst ((ks.map λk=>decide (32<=k)).map V.bl))):=aG.upd hD _;generalize ao H D (.lst ((ks.map λk=>decide (32<=k)).map V.bl))=H1 at s1;have hany:List.any (ks.map λk=>decide (32<=k)) id=ks.any λk=>decide (32<=k):=by rw[List.any_map];rfl
 rw[hany];cases ha:ks.any λk=>decide (32<=k) with
 |true=>
  rw[ai rfl];rw[ai (.inr (.inr ha))] at q;exact bc aH (q H1 s1)
 |false=>
 rw[ag (by decide)];rw[ag (by rw[ha];simp;omega)] at q;have hk32:∀k∈ks,k<32:=λk hk=>by
  have:=List.any_eq_false.mp ha k hk;simp at this;omega
 have x1:=x.grow s1;obtain⟨dp,de,kk,pa,lv,a,o⟩:=x1.hw.ex;obtain⟨dx,fs,e1,e2,e3⟩:=a.obj;obtain⟨oo,g,ho⟩:=a.there f;refine b7 (yh (mx (aa rfl) (aC (aa rfl) e1 T.bu T.aW e2) g)) (λz=>?_) λz=>?_
 ·rw[ho] at z;have hn:aK h.programs f=none:=by simpa using z
  rw[rp hn] at q;exact bc aH (q H1 s1)
 rw[ho] at z;obtain⟨p,hp'⟩:=wH.mp (by simpa using z:(aK h.programs f).isSome=true);obtain⟨v,hv⟩:=ok.ps.there hp';rw[hv] at q;dsimp only at q;obtain⟨va,inf,dxv,wa,lb,vn,g1,g2,g3,g4⟩:=a.ps.jq a.r hv;obtain⟨dxw,lbs,fa,w1,⟨bas,w2,w2b⟩,w3⟩:=g2;have hbl:=w2b.length;refine aL (bY (aC (aC (du (v:=.ref va) (ae (aa rfl) (ae (aa rfl) au)) λQ q=>⟨hp,f,va,rfl,inf,q⟩) (a.same _ _ g1) T.bN T.c9 (cN _ _ _)) (a.same _ _ w1) T.fJ T.cI (dQ _ _)) ?_);dsimp only;have e_b:=a.same _ _ w2;refine b7 (aD (ay (dO (n:=ks.length) (aa rfl) (s1 _ _ hlk) (by simp)) (dO (n:=v.word.params.length) (aa rfl) e_b (by simp[hbl])) iA)) (λz=>?_) λz=>?_
 ·simp at z;rw[ai (by omega)] at q;exact bc aH (q H1 s1)
 simp at z;have hkl:ks.length=v.word.params.length:=by omega
 rw[ag (by omega)] at q;refine aL (cA (IK T (i:=0) x1 ok.nc (s1 _ _ hlk) hk32 hz (by show 8<10;decide) rfl (by decide) rfl λlo cs hlo ov=>?_));dsimp only;have s2:aG H1 (ao H1 lo (.lst (cs.map V.ref))):=aG.upd hlo _;generalize ao H1 lo (.lst (cs.map V.ref))=H2 at s2 ov;have hcl:=ov.cells.length;refine nV (rN (GI (AU (aY (xp (ys:=(ks.map (d9 h w)).map V.bl) (aa rfl) (cG.of ov.list) (by simp[hcl]) (by simp;omega) (by show 9<10;decide) (λi x y H' hx hy sH=>?_) λD hD=>cV ⟨D,_,rfl,cG.of ah,_,rfl, ?_⟩)))))
 ·rw[cU] at hx;obtain⟨b,hb,rfl⟩:=bO.mp hx;obtain⟨k,hk,hc⟩:=ov.cells.get hb;rw[cU,cU,hk] at hy;cases hy;exact du (ae (aa rfl) (ae (aa rfl) au)) λQ q=>⟨G,b,_,w,rfl,hc.keep (.refl _) (sH _),q⟩
 have s3:aG H2 (ao H2 D (.lst ((ks.map (d9 h w)).map V.bl))):=aG.upd hD _;generalize ao H2 D (.lst ((ks.map (d9 h w)).map V.bl))=H3 at s3;have hall:List.all (ks.map (d9 h w)) id=ks.all (d9 h w):=by rw[List.all_map];rfl
 rw[hall];have s123:=(s1.trans s2).trans s3;cases hs:ks.all (d9 h w) with
 |false=>
  rw[ai (show(!false)=true from rfl)];rw[ai hs] at q;exact bc aH (q H3 s123)
 |true=>
 rw[ag (show ¬(!true)=true from by decide)];rw[ag (by rw[hs];simp)] at q;have ov3:=ov.grow s3;have e_b3:=(s2.trans s3) _ _ e_b;refine aL (LN (a:=lo) (b:=lbs) (xs:=cs.map V.ref) (ys:=bas.map V.ref) (ae (aa rfl) (ae (aa rfl) au)) (cG.of ov3.list) (cG.of e_b3) (by simp[hcl,hbl,hkl])
  (λi σ H'=> ∃v7 v9:Option V,σ=[some (.ref hp),some (nv w),some (nv f),some (nv t),some (.ref lk),some (.ref lbs),some (.ref lo),v7,none,v9]/\aG H3 H'/\∀z∈(ks.zip v.word.params).take i,gu (bb h z.1).bound z.2=true)
  ⟨_,_,rfl,.refl _,λz hz=>by simp at hz⟩ (λi σ H' _ ⟨_,_,_,s,_⟩ =>⟨cG.of (s _ _ ov3.list),cG.of (s _ _ e_b3)⟩) ?_ ?_)
 ·rintro i x y σ H' T' hx hy ⟨v7,v9,rfl,s4,hin⟩ hT;rw[cU] at hx hy;obtain⟨b,hb,rfl⟩:=bO.mp hx;obtain⟨ba,hba,rfl⟩:=bO.mp hy;obtain⟨k,hk,dxc,tb,lor,c1,c2,c3⟩:=ov3.cells.get hb;obtain⟨bd,hbd,hbt⟩:=w2b.get hba;have s5:=s4.trans (aG.upd hT (.tup [.ref b,.ref ba]));have gs:aG G (ao H' T' (.tup [.ref b,.ref ba])):=(x.zM.trans s123).trans s5;have ec:=s5 _ _ c1;have et:=gs _ _ c2;have eb:=gs _ _ hbt;have hzip:(ks.zip v.word.params)[i]? =some (k,bd):=wz.mpr ⟨hk,hbd⟩;have hzm:(k,bd)∈ks.zip v.word.params:=iN hzip;have ecb:∀{σ:b6}(j n:Nat),σ[9]? =some (some (.ref b))->[nv (bb h k).bound.lo,nv (bb h k).bound.hi][j]? =some (nv n)->Ev (jR (qS K) (da K (bA 9) "bound") (tC (V.int (j:Int)))) σ (ao H' T' (.tup [.ref b,.ref ba])) (nv n):=λj n s9 hj=>
   ay (aC (aa s9) ec T.fK T.lN (tq _ _ _ _)) aH (hG et (bG hj))
  have ebb:∀{σ:b6}(j n:Nat),σ[7]? =some (some (.ref ba))->[nv bd.lo,nv bd.hi][j]? =some (nv n)->Ev (jR (qS K) (bA 7) (tC (V.int (j:Int)))) σ (ao H' T' (.tup [.ref b,.ref ba])) (nv n):=λj n s7 hj=>
   ay (aa s7) aH (hG eb (bG hj))
  refine xm (jg (aD (ay (ecb 0 _ rfl rfl) (ebb 0 _ rfl rfl) bo)) λ_=>aD (ay (ecb 1 _ rfl rfl) (ebb 1 _ rfl rfl) bo)) (λe=>?_) λe=>?_
  ·simp at e;have hwn:gu (bb h k).bound bd=false:=by
    unfold gu
    rcases e with e |e
    ·rw[decide_eq_false (by omega:¬bd.lo<=(bb h k).bound.lo)];rfl
    ·rw[decide_eq_false (by omega:¬(bb h k).bound.hi<=bd.hi)];simp
   rw[ai (List.all_eq_false.mpr ⟨(k,bd),hzm,by simp[hwn]⟩)] at q;exact bc aH (q _ (s123.trans s5))
  ·simp at e;refine E3 ⟨_,_,rfl,s5,λzz hzz=>?_⟩;rw[take_snoc hzip] at hzz
   rcases cv.mp hzz with y |y
   ·exact hin zz y
   ·simp at y;subst y;unfold gu;rw[decide_eq_true (by omega:bd.lo<=(bb h k).bound.lo),decide_eq_true (by omega:(bb h k).bound.hi<=bd.hi)];rfl
 ·intro σ H' z0;obtain⟨v7,v9,rfl,s4,hin⟩:=z0;rw[Ag (by rw[Ah,bD];omega)] at hin;rw[ag (by rw[je.mpr hin];simp)] at q;dsimp only;exact bc aH (q H' (s123.trans s4))
theorem pq(h:aU)(d:Nat):∀(l:List Nat)(i:Nat),dJ h d i l &&& bQ=dJ h d i l
 | [],i=>by show bQ &&& bQ=bQ;exact Nat.and_self _
 |k :: l,i=>by
  show((if d.testBit i then (bb h k).mask else bQ) &&& dJ h d (i+1) l) &&& bQ=_;rw[Af,pq h d l (i+1)];rfl
def rF(A:bU):Sp:=λvs H Q _=> ∃G h d lo cs ks,vs=[nv d,.ref lo]/\yB A G H h lo cs ks/\∀H',aG H H'->Q (nv (dJ h d 0 ks)) H'
def rZ:fQ P0 w0 b0 T 1 49 ["deps","over"] (rF A):=by
 refine b8 (top 101) ["deps","over","mask","k","cell"] (T.p 49).1 λS H vs Q E hr h=>?_
 obtain⟨G,h,d,lo,cs,ks,rfl,ov,q⟩:=h;refine⟨_,(af (aT 2 S.nd (aP T.kY))
   (af (oY PassesOwn.never rfl (AZ rfl T.pd (ab (pv 1) ax)) (xt rfl (i9 (fv 3 S.nd) (i9 (fv 4 S.nd) rR))) (aj (aQ (aO bq (bH xA (bH B5 (pv 0) (pv 3)) aA) aA) (aj (aT 2 S.nd (bH xA (pv 2) (aF (pv 4))))) aE)))
   (aj (az (pv 2))))), ?_⟩
 have hcl:=ov.cells.length;refine aL (bY aH ?_);dsimp only;refine aL (Iv (a:=lo) (xs:=cs.map V.ref) (ae (aa rfl) au) (cG.of ov.list)
  (λi σ H'=> ∃(acc:Nat)(v3 v4:Option V),σ=[some (nv d),some (.ref lo),some (nv acc),v3,v4]/\aG H H'/\acc &&& bQ=acc/\dJ h d 0 ks=acc &&& dJ h d i (ks.drop i))
  ⟨65535,_,_,rfl,.refl _,by decide,by rw[List.drop_zero,wM];exact(pq h d ks 0).symm⟩ (λi σ H' _ ⟨_,_,_,_,s,_⟩ =>cG.of (s _ _ ov.list)) ?_ ?_)
 ·rintro i x σ H' T' hx ⟨acc,v3,v4,rfl,s,hacc,hm⟩ hT;rw[cU] at hx;obtain⟨b,hb,rfl⟩:=bO.mp hx;obtain⟨k,hk,dxc,tb,lor,c1,c2,c3⟩:=ov.cells.get hb;have s5:=s.trans (aG.upd hT (.tup [nv i,.ref b]));have hil:i<ks.length:=(dm.mp hk).1;have hdrop:ks.drop i=k :: ks.drop (i+1):=by
   rw[zk hil];congr 1;exact(dm.mp hk).2
  rw[hdrop] at hm;have hm:dJ h d 0 ks=acc &&& ((if d.testBit i then (bb h k).mask else bQ) &&& dJ h d (i+1) (ks.drop (i+1))):=hm;refine xm (aD (ay (ay (ay (aa rfl) (aa rfl) Bw) aH (yi (b:=1))) aH (bX (b:=1)))) (λe=>?_) λe=>?_
  ·rw[F1] at e;refine bY (ay (aa rfl) (aC (aa rfl) (s5 _ _ c1) T.fK T.gQ (lu _ _ _ _)) yi) ⟨_,_,_,rfl,s5,by rw[Af,wM _ bQ,<- Af,hacc], ?_⟩;rw[hm,ai e,Af]
  ·rw[F1] at e;refine E3 ⟨_,_,_,rfl,s5,hacc, ?_⟩;rw[hm,ag (by rw[e];decide),wM bQ,pq]
 ·intro σ H' z0;obtain⟨acc,v3,v4,rfl,s,hacc,hm⟩:=z0;have hfull:ks.drop (cs.map V.ref).length=[]:=by rw[bD,hcl];simp
  rw[hfull] at hm;have q:=q H' s;have hm3:dJ h d 0 ks=acc &&& bQ:=hm;rw[hm3,hacc] at q;exact bc (aa rfl) q
def Cc(A:bU):Sp:=λvs H Q _=> ∃G N hp dc cas h w f t lk ks h' a,vs=[.ref hp,nv w,nv f,nv t,.ref lk]/\HC A G H N hp dc cas h/\i5 h/\H lk=some (.lst (bZ ks))/\ks.length<=1000/\aX (some h) (.run w f t ks)=(some h',a)/\mH A G H N hp dc cas Q h' a
def CC:fQ P0 w0 b0 T 5 50 ["house","who","f","to","places"] (Cc A):=by
 refine b8 (top 102) ["house","who","f","to","places","refusal","over","promise","outcome","number","bound","mask","k","cell"] (T.p 50).1 λS H vs Q E hr h=>?_
 obtain⟨G,N,hp,dc,cas,h,w,f,t,lk,ks,h',a,rfl,x,ok,hlk,hz,hst,q⟩:=h;refine⟨_,(af (aT 5 S.nd (aV (T.p 48) (rW T) hr (ab (pv 0) (ab (pv 1) (ab (pv 2) (ab (pv 3) (ab (pv 4) ax)))))))
   (af (aQ (aO me (pv 5) aA) (aj (az (b9 (ab (pv 5) ax)))) aE)
   (af (xq (i:=6) rfl S.nd rfl rfl (AG rfl rfl rfl rfl) (g9 (pv 4)) (rQ S [("k",12)]) (λ_ _ _ _ _=>(fv 12 S.nd)) (λ_ _ _ _ _=>ip) (λ_ _ _ _ _=>(kS (r:=gY K) mX (show PE _ _ (da K _ _) from aF (pv 0)) (pv 12) (λ_ _=>rfl))))
   (af (aT 7 S.nd (aF (aF (aV (T.p 24) (dP T) hr (ab (pv 0) (ab (pv 2) ax))))))
   (af (aT 8 S.nd (aV (T.p 34) (uO T) hr (ab (pv 0) (ab (pv 2) (ab (p5 rfl S.nd (g9 (pv 6)) (rQ S [("cell",13)]) (λ_ _ _ _ _=>(fv 13 S.nd)) (λ_ _ _ _ _=>ip) (λ_ _ _ _ _=>(show PE _ _ (da K _ _) from aF (pv 13)))) ax)))))
   (af (aT 9 S.nd (bH qT (cn T.cf (aF (iT (fO hr) (aF (pv 0)) (pv 2) (λ_ _=>rfl)))) aA))
   (af (aT 10 S.nd (gZ (ab (aF (pv 7)) (ab (aF (pv 7)) ax))))
   (af (aT 11 S.nd (aV (T.p 49) (rZ T) hr (ab (aF (pv 7)) (ab (pv 6) ax))))
   (af (AY (fF T.ly (mS T) hr (ab (aF (pv 8)) (ab (pv 10) (ab (pv 11) (ab (bH xy (b9 (ab (aP T.Jv) (ab (pv 1) (ab (pv 2) (ab (pv 9) ax))))) (pv 4)) ax))))) (B0 (aF (pv 0)) (pv 3) set_list (λ_=>rfl)))
   (aj (az (b9 (ab aA ax))))))))))))), ?_⟩
 refine aL (cA (aS (ae (aa rfl) (ae (aa rfl) (ae (aa rfl) (ae (aa rfl) (ae (aa rfl) au))))) ⟨G,N,hp,dc,cas,h,w,f,t,lk,ks,rfl,x,ok,hlk,hz,λH1 s1=>?_⟩));dsimp only;refine b7 (aD (ay (aa rfl) aH iA)) (λz=>?_) λz=>?_
 ·have z:kh h w f t ks≠0:=by simpa using z
  rw[IB z] at hst;cases hst;exact aR (q.say x s1 (ae (aa rfl) au))
 have z:kh h w f t ks=0:=by simpa using z
 obtain⟨ht,hk32,v,hv,hkl,hwin,hstep⟩:=Fl z;obtain⟨p,hp',hvh⟩:=cw hv;obtain⟨r,s,hr1,hr2,_,_,hs⟩:=ok.xn hv hkl hwin;rw[hstep r s p hr1 hp'] at hst;cases hst;have x1:=x.grow s1;refine aL (cA (IK T (i:=0) x1 ok.nc (s1 _ _ hlk) hk32 hz (by show 12<14;decide) rfl (by decide) rfl λlo cs hlo ov=>?_));dsimp only;have s2:aG H1 (ao H1 lo (.lst (cs.map V.ref))):=aG.upd hlo _;generalize ao H1 lo (.lst (cs.map V.ref))=H2 at s2 ov;have hcl:=ov.cells.length;have x2:=x1.grow s2;obtain⟨dp,de,kk,pa,lv,a2,o⟩:=x2.hw.ex;obtain⟨va,inf,dxv,wa,lb,vn,g1,g2,g3,g4⟩:=a2.ps.jq a2.r hv;obtain⟨dxw,lbs,fa,w1,w2,⟨dxf,w3⟩⟩:=g2;refine aL (bY (aC (aC (du (v:=.ref va) (ae (aa rfl) (ae (aa rfl) au)) λQ q=>⟨hp,f,va,rfl,inf,q⟩) (a2.same _ _ g1) T.bN T.c9 (cN _ _ _)) (a2.same _ _ w1) T.fJ T.eC (gL _ _)) ?_);dsimp only;have hsm:Small (ks.map λk=>(bb h k).value):=λn hn=>by
  obtain⟨k,_,rfl⟩:=fg.mp hn;have:=ok.cells k;exact Ap this.hi this.top
 have hcost:=(cJ.mp (ok.ps.wX hv).word).2.2.2.2.2;refine aL (cA (mQ (aY (cQ (aa rfl) (aY (cQ (aa rfl) (aY (xp (ys:=bZ (ks.map λk=>(bb h k).value)) (aa rfl) (cG.of ov.list) (by simp[hcl]) (by simp;omega) (by show 13<14;decide) (λi y u H' hy hu sH=>?_) λD hD=>cV ?_))))))))
 ·rw[cU] at hy;obtain⟨b,hb,rfl⟩:=bO.mp hy;obtain⟨k,hk,dxc,tb,lor,c1,c2,c3⟩:=ov.cells.get hb;rw[cU,cU,hk] at hu;cases hu;exact aC (aa rfl) (sH _ _ c1) T.fK T.lM (tm _ _ _ _)
 have s3:aG H2 (ao H2 D (.lst (bZ (ks.map λk=>(bb h k).value)))):=aG.upd hD _;have a3:=a2.grow s3;refine⟨G,hp,dp,kk,pa,lv,h.programs,f,v,D,_,r,s,rfl,a3.same,a3.r,a3.ps,ok.ps,hv,ah,hsm,by rw[bD];exact hkl,⟨_,hr2⟩,by omega,λoa dxo H4 s4 n4 e4=>?_⟩;dsimp only;have s24:=s3.trans s4;have a4:=a2.grow s24;obtain⟨dx,fs,e1,e2,e3⟩:=a4.obj;obtain⟨dxp,vas,p1,p2,p3⟩:=(a4.ps.prog f p hp').at_;have gd:=ja.k (k:=Sum.inl (f:Int)) a4.dict;rw[a4.ps.get hp'] at gd;have hvl:=p3.length;rw[uo] at hvl;have hone:=(ok.ps.prog f p hp').one;have hpos:0<p.versions.length:=zq.mpr hone;refine aL (bY (v:=nv (p.versions.length - 1)) ?_ ?_)
 ·have:=ay (r:=uG λi j=>V.int (i - j)) (dO (K:=K) (n:=p.versions.length) (aC (K:=K) (f:= "versions") (jr (o:=some (.ref (pa f))) (aC (K:=K) (f:= "programs") (aa (n:=0) (σ:=[some (.ref hp),some (nv w),some (nv f),some (nv t),some (.ref lk),some (V.int (kh h w f t ks)),some (.ref lo),some (.ref fa),some (.ref oa),none,none,none,none,none]) rfl) e1 T.bu T.aW e2) (aa (n:=2) rfl) gd) p1 T.cK T.bJ (c8 _ _)) p2 (by rw[bD];exact hvl)) (aH (v:=V.int 1)) bo;have e:V.int ((p.versions.length:Int) - 1)=nv (p.versions.length - 1):=by
   have:(p.versions.length:Int) - 1=((p.versions.length - 1:Nat):Int):=by omega
   rw[this]
  rw[e] at this;exact this
 dsimp only;have w3':=a4.same _ _ w3;refine aL (cA (zO (ae (aC (aa rfl) w3' T.j6 T.lL (tj _ _ _ _)) (ae (aC (aa rfl) w3' T.j6 T.mU (vo _ _ _ _)) au)) (by show 2<=sizeLine;decide) λtb htb=>?_));dsimp only;have sH4:aG H H4:=(s1.trans s2).trans s24;have x4:Ext G H G H4:=Ext.grow x.zM sH4;have x5:=x4.trans (Ext.lay x4.gh htb (.tup [nv v.word.out.lo,nv v.word.out.hi]));have s5:aG H4 (ao H4 tb (.tup [nv v.word.out.lo,nv v.word.out.hi])):=aG.upd htb _;have t5:ao G tb (.tup [nv v.word.out.lo,nv v.word.out.hi]) tb=some (.tup [nv v.word.out.lo,nv v.word.out.hi]):=ah;generalize ao H4 tb (.tup [nv v.word.out.lo,nv v.word.out.hi])=H5 at x5 s5;generalize ao G tb (.tup [nv v.word.out.lo,nv v.word.out.hi])=G5 at x5 t5;refine aL (cA (aS (ae (aC (aa rfl) (s5 _ _ w3') T.j6 T.mV (vp _ _ _ _)) (ae (aa rfl) au)) ⟨G,h,v.word.deps,lo,cs,ks,rfl,ov.grow (s24.trans s5),λH6 s6=>?_⟩));dsimp only;have x6:=x5.trans (Ext.grow x5.gh s6);have s46:=s5.trans s6;refine aL (mP (aY (cQ (aC (aa rfl) (s46 _ _ e4) T.kC T.ji (oh _ _)) (aY (cQ (aa rfl) (aY (cQ (aa rfl) (aY (Kn (dY (vs:=[V.int 2,nv w,nv f,nv (p.versions.length - 1)]) (ae aH (ae (aa rfl) (ae (aa rfl) (ae (aa rfl) au)))) (by show 4<=sizeLine;decide) λl7 h7=>cQ (aa rfl) ⟨l7,lk,_,bZ ks,rfl,rfl,ah,aG.upd h7 _ _ _ (x6.hh _ _ hlk),HI (by simp;omega),λl8 h8=>cV ?_⟩))))))))));have x7:=x6.trans (Ext.grow x6.gh (aG.upd h7 (.lst [V.int 2,nv w,nv f,nv (p.versions.length - 1)])));have x8:=x7.trans (Ext.lay x7.gh h8 (.lst ([V.int 2,nv w,nv f,nv (p.versions.length - 1)]++bZ ks)));have t8:ao G5 l8 (.lst ([V.int 2,nv w,nv f,nv (p.versions.length - 1)]++bZ ks)) l8=some (.lst ([V.int 2,nv w,nv f,nv (p.versions.length - 1)]++bZ ks)):=ah;have g58:aG G5 (ao G5 l8 (.lst ([V.int 2,nv w,nv f,nv (p.versions.length - 1)]++bZ ks))):=aG.upd (x7.gh.free h8) _;generalize ao G5 l8 (.lst ([V.int 2,nv w,nv f,nv (p.versions.length - 1)]++bZ ks))=G8 at x8 t8 g58;generalize ao (ao H6 l7 (.lst [V.int 2,nv w,nv f,nv (p.versions.length - 1)])) l8 (.lst ([V.int 2,nv w,nv f,nv (p.versions.length - 1)]++bZ ks))=H8 at x8;intro b dxb hb hdx hne;refine⟨b,dxb,_,rfl,rfl,ah,rfl, ?_⟩;rw[bS];have s9:aG H8 (ao (ao H8 dxb (.own b)) b (.ins A.pN dxb (FU [nv r,.ref tb,nv (dJ h v.word.deps 0 ks),.ref l8]))):=
  (aG.upd hdx _).trans (aG.upd (by rw[aw (Ne.symm hne)];exact hb) _)
 have x9:=x8.trans (Ext.grow x8.gh s9);obtain⟨dxo',u',y',eo⟩:=x.obj;have hcl':=x.cells.length;have hnc:=ok.nc;obtain⟨xs,kp,hm,dom⟩:=x.set (k:=t) (a:=b) (c:=⟨r,v.word.out,dJ h v.word.deps 0 ks,.run w f (p.versions.length - 1) ks⟩) x9.gg x9.hh x9.gh (λb o e1 e2=>x9.zT e2 e1) ⟨dxb,tb,l8,ah,g58 _ _ t5,t8⟩ (x8.hh.free hb) (x8.gh.free hb);refine cQ (aC (aa rfl) (x9.hh _ _ eo) T.bu T.gF (js _ _ _)) (cQ (aa rfl) ⟨dc,cas.map V.ref,(t:Int),t,rfl,rfl,x9.hh _ _ x.list,wb (by rw[bD];omega), ?_⟩);dsimp only;exact aR (q.done xs x9.gg (λb o e1 e2=>x9.zT e2 e1) kp hm dom (ae aH au))
theorem HC.empty(sG:aG G H)(h1:H hp=some (.ins A.fL dx (nD (.ref dp) (.ref de) (.ref dc))))(h2:H dp=some (.dK []))(h3:H de=some (.lst []))(h4:H dc=some (.lst (cas.map V.ref)))(h5:bF (eX A G H) cas (List.replicate 32 Di))(nd:(dc :: cas).Nodup)
  (gn:∀m∈dc :: cas,G m=none) (g1:G hp=none) (g2:G dp=none) (g3:G de=none) (ne:de≠dc):HC A G H (λb=>b=dp\/b=de) hp dc cas eB:=by
 have ne1:hp≠dp:=λz=>by rw[z,h2] at h1;cases h1
 have ne2:hp≠de:=λz=>by rw[z,h3] at h1;cases h1
 have prog:∀f,aK Kp212.empty.programs f=none:=λf=>by
  unfold aK eB;dsimp only;rw[cy,Ax];split<;>rfl
 refine⟨⟨dp,de,[],λ_=>0,λ_=>0,⟨sG,⟨dx,_,h1,mG _ _ _,vV _ _ _⟩,h2,⟨.inl h2,by simp,λf=>⟨λz=>by simp at z,λ⟨p,e⟩ =>by rw[prog] at e;cases e⟩,λf p e=>by rw[prog] at e;cases e⟩,[],h3,.nil⟩, ?_,.inl rfl,.inr rfl,λf hf=>by simp at hf,λb z=>?_,λf hf=>by simp at hf,λf hf=>by simp at hf⟩,λb z y=>?_,⟨dx,_,_,h1⟩,h4,h5,nd,λm hm=>⟨λz=>?_,gn m hm⟩,g1⟩
 ·rintro(z |z)
  ·exact ne1 z
  ·exact ne2 z
 ·rcases z with z |z
  ·rw[z];exact g2
  ·rw[z];exact g3
 ·rcases y with y |y
  ·rw[y,h2] at z;cases z
  ·rw[y,h3] at z;cases z
 ·have hk:∀m∈cas,∃dx fs,H m=some (.ins A.pN dx fs):=λm hm=>by
   obtain⟨i,hi⟩:=lS hm;obtain⟨_,_,dxc,tb,lo,e,_⟩:=h5.get hi;exact⟨_,_,e⟩
  rcases bp.mp hm with hm |hm
  ·rcases z with z |z
   ·rw[<- hm,z,h2] at h4;cases h4
   ·exact ne (z.symm.trans hm)
  ·obtain⟨dxc,fs,e⟩:=hk m hm
   rcases z with z |z
   ·rw[z,h2] at e;cases e
   ·rw[z,h3] at e;cases e
def iQ(h:ao H p o b=none):b≠p/\H b=none:=by
 by_cases e:b=p
 ·rw[e,ah] at h;cases h
 ·rw[aw e] at h;exact⟨e,h⟩
def emptied(T:Txt K mg A)(sG:aG G H)(HV:G hp=none)(hhp:H hp=some (.ins A.fL dx fs))(s0:σ[0]? =some (some (.ref hp)))
  (hf:∀x y z:V,bI "cells" z (bI "entries" y (bI "programs" x fs))=nD x y z) (hl:∀x y:V,fs.length<1000/\(bI "programs" x fs).length<1000/\(bI "entries" y (bI "programs" x fs)).length<1000)
  (hc:∀H',E4 K (bA 0) (oS (rE A) [] E0 jC) "cells" D' σ H'->c D σ H')
  (k:∀(G4 H5:Hp)(N':Addr->Prop)(dc:Addr)(cas:List Addr),aG G G4->(∀b o,G b=none->H b=some o->G4 b=none)->(∀b o,H b=some o->b≠hp->H5 b=some o)->(∀b,H5 b=none->H b=none)->(∀b,N' b->H b=none)->(∀b∈dc :: cas,H b=none)->HC A G4 H5 N' hp dc cas eB->D'.nx σ H5):
  oR (E4 K (bA 0) Ii "programs") (oR (E4 K (bA 0) (C6 jC) "entries") c) D σ H:=by
 refine aL (rO λdp hdp=>cQ (aa s0) ⟨hp,_,dx,fs,rfl,aG.upd hdp _ _ _ hhp,T.bu,T.aW,(hl .ez .ez).1, ?_⟩);have ne1:hp≠dp:=aJ hhp hdp;refine aL (rO (dY (vs:=[]) au (d8 _) λde hde=>cQ (aa s0) ⟨hp,_,dx,_,rfl,aG.upd hde _ _ _ ah,T.bu,T.dk,(hl _ .ez).2.1, ?_⟩));refine hc _ ?_;obtain⟨ne2,hde2⟩:=iQ hde;obtain⟨ne3,hde3⟩:=iQ hde2;have key:∃H3,ao (ao (ao (ao H dp (.dK [])) hp (.ins A.fL dx (bI "programs" (.ref dp) fs))) de (.lst [])) hp (.ins A.fL dx (bI "entries" (.ref de) (bI "programs" (.ref dp) fs)))=H3/\H3 dp=some (.dK [])/\H3 de=some (.lst [])/\H3 hp=some (.ins A.fL dx (bI "entries" (.ref de) (bI "programs" (.ref dp) fs)))/\
   (∀b o,H b=some o->b≠hp->H3 b=some o)/\∀b,H3 b=none->H b=none:=by
  refine⟨_,rfl, ?_, ?_,ah,λb o e hb=>?_,λb z=>(iQ (iQ (iQ (iQ z).2).2).2).2⟩
  ·rw[aw (Ne.symm ne1),aw (Ne.symm ne3),aw (Ne.symm ne1),ah]
  ·rw[aw ne2,ah]
  ·rw[aw hb,aw (aJ e hde3),aw hb,aw (aJ e hdp)];exact e
 obtain⟨H3,e0,e1,e2,e3,kp,dom⟩:=key;rw[e0];have sG3:aG G H3:=λb o e=>kp b o (sG _ _ e) λz=>by rw[z,HV] at e;cases e
 refine rO (aS au ⟨G,rfl,sG3,λdc cas G4 H4 x4 f1 f2 f3 f4=>cQ (aa s0) ⟨hp,_,dx,_,rfl,x4.hh _ _ e3,T.bu,T.gF,(hl _ _).2.2, ?_⟩⟩);rw[hf];have g4:∀b o,G b=none->H3 b=some o->G4 b=none:=λb o e1 e2=>x4.zT e2 e1
 have O5:hp∉dc :: cas:=λz=>by rw[(f4 hp z).1] at e3;cases e3
 have nh4:∀b,b≠hp->ao H4 hp (.ins A.fL dx (nD (.ref dp) (.ref de) (.ref dc))) b=H4 b:=λb hb=>aw hb
 refine k G4 _ (λb=>b=dp\/b=de) dc cas x4.gg (λb o e1 e2=>?_) (λb o e hb=>by rw[nh4 b hb];exact x4.hh _ _ (kp b o e hb)) (λb z=>dom b (x4.hh.free (iQ z).2)) (λb z=>?_) (λb hb=>dom b (f4 b hb).1) ?_
 ·by_cases hb:b=hp
  ·rw[hb];exact g4 hp _ HV e3
  ·exact g4 b o e1 (kp b o e2 hb)
 ·rcases z with z |z
  ·rw[z];exact hdp
  ·rw[z];exact hde3
 ·refine HC.empty (x4.gh.C3 (g4 hp _ HV e3) _) ah (by rw[nh4 dp (Ne.symm ne1)];exact x4.hh _ _ e1) (by rw[nh4 de ne2];exact x4.hh _ _ e2) (by rw[nh4 dc λz=>O5 (by rw[<- z];simp)];exact f1)
   (bF.sA f2 λb c hb y=>y.keep (.refl _) λo ho=>by rw[nh4 b λz=>O5 (by rw[<- z];exact cZ _ hb)];exact ho) f3 (λm hm=>(f4 m hm).2) (g4 hp _ HV e3) (g4 dp _ (sG.free hdp) e1) (g4 de _ (sG.free hde3) e2) λz=>?_
  have:=(f4 dc (by simp)).1;rw[<- z,e2] at this;cases this
def yN(A:bU):Sp:=λvs H Q _=> ∃G hp dx,vs=[.ref hp]/\aG G H/\G hp=none/\H hp=some (.ins A.fL dx [])/\
 ∀(G' H':Hp)(N':Addr->Prop)(dc:Addr)(cas:List Addr),aG G G'->(∀b o,H b=some o->b≠hp->H' b=some o)->(∀b,N' b->H b=none)->(∀b∈dc :: cas,H b=none)->HC A G' H' N' hp dc cas eB->Q .ez H'
def yT:HL P0 w0 b0 T 5 9 ["self"] (yN A):=by
 refine b8 (inClass (top 69) 0) ["self"] T.tf.F λS H vs Q E hr h=>?_
 obtain⟨G,hp,dx,rfl,sG,HV,hhp,q⟩:=h;refine⟨_,(af (bR (pv 0) xw)
   (af (bR (pv 0) (b9 ax))
   (aj (bR (pv 0) (AV (T.p 22) (rY T) hr))))), ?_⟩
 exact emptied T sG HV hhp rfl (λ_ _ _=>rfl) (λ_ _=>⟨by show 0<1000;decide,by show 1<1000;decide,by show 2<1000;decide⟩) (λ_ z=>z) λG4 H5 N' dc cas g1 _ g3 _ g5 g6 g7=>q G4 H5 N' dc cas g1 g3 g5 g6 g7
def Ir(A:bU):Sp:=λvs H Q _=> ∃G N hp dc cas h,vs=[.ref hp]/\HC A G H N hp dc cas h/\mH A G H N hp dc cas Q eB (cj 0)
def J3:fQ P0 w0 b0 T 5 56 ["house"] (Ir A):=by
 refine b8 (top 112) ["house"] (T.p 56).1 λS H vs Q E hr h=>?_
 obtain⟨G,N,hp,dc,cas,h,rfl,x,q⟩:=h;refine⟨_,(af (bR (pv 0) xw)
   (af (bR (pv 0) (b9 ax))
   (af (bR (pv 0) (AV (T.p 22) (rY T) hr))
   (aj (az (b9 (ab aA ax))))))), ?_⟩
 obtain⟨dx,u,y,eo⟩:=x.obj;refine emptied T x.zM x.HV eo rfl (λ_ _ _=>rfl) (λ_ _=>⟨by show 3<1000;decide,by show 3<1000;decide,by show 3<1000;decide⟩) (λ_ z=>aL z) λG4 H5 N' dc2 cas2 g1 g2 g3 g4 g5 g6 xe=>?_
 dsimp only;refine aR (dY (ae aH au) (by show 1<=sizeLine;decide) λl hl=>?_);have sl:=aG.upd hl (.lst [V.int 0]);exact q l G4 _ N' dc2 cas2 g1 g2 (λb o e _ hb _=>sl _ _ (g3 b o e hb)) (λb z=>.inr (g5 b z)) (λb hb=>.inr (g6 b hb)) (xe.grow sl) (g4 l hl) (xe.fr l hl) (xe.mw hl) ah
def uB(H:i5 h)(hb:Small b):aX (some h) (.define w f wd b)=(some (l6 h w f ⟨wd,b⟩).1,cj (l6 h w f ⟨wd,b⟩).2):=by
 unfold aX;dsimp only;have e:=uA H (w:=w) (f:=f) (v:=⟨wd,b⟩) hb;dsimp only at e;rw[e];unfold out l6 jx;by_cases hn:0<=numOf h w f ⟨wd,b⟩
 ·rw[ai hn];dsimp only;rw[ai hn]
  all_goals (cases aK h.programs f<;>rfl)
 ·rw[ag hn];dsimp only;rw[ag hn]
def xa(H:i5 h)(hb:Small b):aX (some h) (.would w f wd b)=(some h,cj (numOf h w f ⟨wd,b⟩)):=by
 unfold aX;dsimp only;have e:=uA H (w:=w) (f:=f) (v:=⟨wd,b⟩) hb;dsimp only at e;rw[e];unfold out;by_cases hn:0<=numOf h w f ⟨wd,b⟩
 ·rw[ai hn]
 ·rw[ag hn]
def zK:aX (some h) (.give w f t)=(some (uY h w f t).1,cj (uY h w f t).2):=by
 unfold aX;dsimp only;unfold mK uY;cases aK h.programs f with
 |none=>rfl
 |some p=>
  dsimp only;by_cases ho:p.owner≠w
  ·rw[ai ho,ai ho]
  ·rw[ag ho,ag ho];by_cases ht:16<=t
   ·rw[ai (by exact ht),ai ht]
   ·rw[ag (by exact ht),ag ht]
def step_drop:aX (some h) (.drop w f)=(some (o7 h w f).1,cj (o7 h w f).2):=by
 unfold aX;dsimp only;unfold mK;cases hq:aK h.programs f with
 |none=>
  have e:iB h w f= -2:=by simp[iB,handOf,hq]
  unfold o7;rw[e];rfl
 |some p=>
  dsimp only;by_cases ho:p.owner≠w
  ·have e:iB h w f= -1:=by simp[iB,handOf,hq,ho]
   unfold o7;rw[e,ai ho];rfl
  ·have ho':p.owner=w:=Classical.byContradiction ho;rw[ag ho];by_cases hf:fq h=true
   ·have e:iB h w f= -28:=by simp[iB,handOf,hq,ho',hf]
    unfold o7;rw[e,ai hf];rfl
   ·rw[ag hf];by_cases hc:(callers h.programs f).isEmpty=false
    ·have e:iB h w f= -17:=by simp[iB,handOf,hq,ho',hf,hc]
     unfold o7;rw[e,ai hc];rfl
    ·have e:iB h w f=0:=by unfold iB handOf;rw[hq];simp only[ho',ne_eq,not_true_eq_false,if_false,ag hf,ag hc]
     unfold o7;rw[e,ag hc];rfl
def zL(H:i5 h):aX (some h) (.back w f)=(some (pO h w f).1,cj (pO h w f).2):=by
 unfold aX;dsimp only;unfold mK;cases hq:aK h.programs f with
 |none=>
  have e:hX h w f= -2:=by simp[hX,handOf,hq]
  unfold pO;rw[e];rfl
 |some p=>
  dsimp only;by_cases ho:p.owner≠w
  ·have e:hX h w f= -1:=by simp[hX,handOf,hq,ho]
   unfold pO;rw[e,ai ho];rfl
  ·have ho':p.owner=w:=Classical.byContradiction ho;rw[ag ho];have hf16:=H.ps.lt hq;have hl:f<h.programs.length:=iy hq;have eb:hX h w f=match p.versions with
     |_ :: v :: _=>if fq h=true then -28 else fu h.programs f v
     |_=> -6:=by
    unfold hX handOf;rw[hq];simp only[ho',ne_eq,not_true_eq_false,if_false]
    all_goals rfl
   have ea:pO h w f=if hX h w f≠0 then (h,hX h w f) else (oK h 3 w f (h.programs.set f (some { p with versions:=p.versions.tail })),(p.versions.tail.length:Int)):=by
    unfold pO;rw[hq]
   rw[ea]
   match hv:p.versions with
   | []=>
    rw[hv] at eb;have eb:hX h w f= -6:=eb;rw[eb];rfl
   | [v0]=>
    rw[hv] at eb;have eb:hX h w f= -6:=eb;rw[eb];rfl
   |v0 :: v1 :: r=>
    rw[hv] at eb;have eb:hX h w f=if fq h=true then -28 else fu h.programs f v1:=eb
    dsimp only[List.isEmpty_cons,List.tail_cons];rw[ag (by decide)];by_cases hf:fq h=true
    ·rw[ai hf] at eb⊢;rw[eb];rfl
    ·rw[ag hf] at eb⊢;rw[dX hl];have hsm:Small v1.body:=((H.ps.prog f p hq).Gu v1 (by rw[hv];simp)).small;have rs:=rL H.ps hf16 (p:= { p with versions:=v1 :: r }) (v:=v1) rfl hsm;rw[rs] at eb;show(if bK (h.programs.set f (some { p with versions:=v1 :: r })) v1=false then (some h,cj (-33)) else if gv (h.programs.set f (some { p with versions:=v1 :: r }))=false then (some h,cj (-17)) else (some (oK h 3 w f (h.programs.set f (some { p with versions:=v1 :: r }))),cj ((v1 :: r).length:Int)))=_;by_cases k1:bK (h.programs.set f (some { p with versions:=v1 :: r })) v1=false
     ·rw[ai k1] at eb⊢;rw[eb];rfl
     ·rw[ag k1] at eb⊢;by_cases k2:gv (h.programs.set f (some { p with versions:=v1 :: r }))=false
      ·rw[ai k2] at eb⊢;rw[eb];rfl
      ·rw[ag k2] at eb⊢;rw[eb];rfl
def Bz(h:aU)(w f:Nat)(v:c7):(l6 h w f v).1.cells=h.cells:=by
 unfold l6;dsimp only;split<;>rfl
def Ey(h:aU)(w f t:Nat):(uY h w f t).1.cells=h.cells:=by
 unfold uY;split
 ·rfl
 ·split
  ·rfl
  ·split<;>rfl
def ES(h:aU)(w f:Nat):(o7 h w f).1.cells=h.cells:=by
 unfold o7;split<;>rfl
def F4(h:aU)(w f:Nat):(pO h w f).1.cells=h.cells:=by
 unfold pO;split
 ·rfl
 ·split<;>rfl
end Wh
namespace L2
open PySem
def LS(h:tD ta σ H [.int lo,.int hi,.int c])(rg:OH lo hi c n)(Pv:Addr->Nat->Hp->Prop)(hw:∀a,wipe ((wipe σ [i]).set i a) [i]=wipe σ [i])(h0:∀D,H D=none->Pv D 0 (ao H D (.lst [])))
  (hs:∀D j H',H D=none->j<n->Pv D j H'->te ((wipe σ [i]).set i (some (.int (lo+(j:Nat) * c)))) H' λy H4=> ∃acc,H4 D=some (.lst acc)/\acc.length<sizeLine/\Pv D (j+1) (ao H4 D (.lst (acc++[y]))))
  (hd:∀D H',H D=none->Pv D n H'->Q (.ref D) H'):Ig (Lv ta) (gi i) vw te [i] σ H Q:=by
 refine h _ ⟨lo,hi,c,n,rfl,rg,λD hD=>⟨λj m H=>m=n - j/\j<=n/\Pv D j H,⟨n,by simp,d8 _,h0 D hD⟩, ?_⟩⟩;intro j m H' z0;obtain⟨rfl,hi',p⟩:=z0;by_cases hlt:j<n
 ·refine .inr ⟨hlt,Pv D (j+1),λH' p'=>⟨n - (j+1),by omega,rfl,hlt,p'⟩,λv H2 y=>?_⟩;obtain⟨rfl,rfl⟩:=y;refine⟨hw _, ?_⟩;unfold vw;dsimp only;rw[ai rfl];exact hs D j _ hD hlt p
 ·have e:j=n:=by omega
  subst e;exact .inl ⟨bx _,hd D H' hD p⟩
def Ls(hx:cG K H la (bZ l))(he:Ev te σ H (.ref la))(h1:Ev tl σ H (nv a))(h2:Ev th σ H (nv b))(ha:a<=b)(hb:b<=l.length)
  (q:∀p,H p=none->Q (.ref p) (ao H p (.lst (bZ ((l.drop a).take (b - a)))))):OL (Nc K) te (Ie tl) (Ie th) σ H Q:=by
 refine he _ (h1 _ ⟨(a:Int),rfl,h2 _ ⟨(b:Int),rfl,la,bZ l,rfl,hx,λp hp=>?_⟩⟩);have e:HB (bZ l) (some (a:Int)) (some (b:Int))=bZ ((l.drop a).take (b - a)):=by
  unfold HB;have m1:min a l.length=a:=Nat.min_eq_left (by omega);have m2:min b l.length=b:=Nat.min_eq_left hb;rw[HT.Fj,HT.Fj,bD,m1,m2];simp only[bZ,List.map_take,List.map_drop]
 rw[e];exact q p hp
def Rd.keep(h:Rd H a o)(k:∀u,H a=some u->H' a=some u):Rd H' a o:=by
 rcases h with h | ⟨z,h⟩
 ·exact .inl (k _ h)
 ·exact .inr ⟨z,k _ h⟩
theorem cG.keep(h:cG K H a xs)(k:∀u,H a=some u->H' a=some u):cG K H' a xs:=by
 rcases h with h |h
 ·exact .inl (h.keep k)
 ·exact .inr h
end L2
namespace Wh
open PySem PySem.Spec PyProof.Rows L2
open Kp212 (Known Bound Word Programs ROUND goodBound wordOf version calls callers)
variable {P0:Program} {w0:World} {K:bg} {mg:Str->Option Value} {b0:Heap} {A:bU} (T:Txt K mg A)
def NA:List V->List (Str×V)
 | [a,b,c,d]=>uk a b c d
 |_=>[]
def Be:HL P0 w0 b0 T 1 12 ["self","kind","numbers","rows","end"] (xi A.JW 4 NA):=by
 refine b8 (inClass (top 148) 0) ["self","kind","numbers","rows","end"] T.vq.F λS H vs Q E hr h=>?_
 ·obtain⟨p,dx,args,rfl,hn,hp,q⟩:=h
  match args,hn with
  | [a,b,c,d],_=>
  refine⟨_,(af (bR (pv 0) (pv 1))
   (af (bR (pv 0) (pv 2))
   (af (bR (pv 0) (pv 3))
   (aj (bR (pv 0) (pv 4)))))), ?_⟩
  refine aL (cS (aa rfl) (aa rfl) hp T.eN T.iX (by show 0<1000;decide) ?_);refine aL (cS (aa rfl) (aa rfl) ah T.eN T.eD (by show 1<1000;decide) ?_);refine aL (cS (aa rfl) (aa rfl) ah T.eN T.jT (by show 2<1000;decide) ?_);refine cS (aa rfl) (aa rfl) ah T.eN T.uR (by show 3<1000;decide) ?_;rw[bS,bS,bS];exact q
abbrev LF(G:Hp)(a:Addr)(r:List Nat):Prop:=G a=some (.lst (bZ r))
structure K7(A:bU)(G:Hp)(ca:Addr)(kind:Nat)(nums:List Nat)(rows:List (List Nat))(e:Nat):Prop where
 ex:∃dx ln lr ras,G ca=some (.ins A.JW dx (uk (nv kind) (.ref ln) (.ref lr) (nv e)))/\G ln=some (.lst (bZ nums))/\G lr=some (.lst (ras.map V.ref))/\bF (LF G) ras rows
def DW(A:bU)(K:bg):Sp:=λvs H Q _=> ∃(G:Hp)(la:Addr)(at_:Nat)(l:List Nat)(kind:Nat)(nums:List Nat)(rows:List (List Nat))(e:Nat),vs=[.ref la,nv at_]/\aG G H/\cG K H la (bZ l)/\Gn l at_ kind nums rows e/\
 ∀(ca:Addr)(G' H':Hp),Ext G H G' H'->K7 A G' ca kind nums rows e->Q (.ref ca) H'
def Ej:fQ P0 w0 b0 T 3 68 ["line","at"] (DW A K):=by
 refine b8 (top 149) ["line","at","kind","end","numbers","rows","start"] (T.p 68).1 λS H vs Q E hr h=>?_
 obtain⟨G,la,at_,l,kind,nums,rows,e,rfl,sG,hla,ck,q⟩:=h;refine⟨_,(af (aT 2 S.nd (aZ (pv 0) (pv 1)))
   (af (aT 3 S.nd (bH dZ (bH dZ (pv 1) aA) (ki (B2 (v:=.ref A.iu) rfl T.jH rfl) (pv 2))))
   (af (aT 4 S.nd (Cv Fi (pv 0) (w8 (bH dZ (pv 1) aA)) (w8 (pv 3))))
   (af (aT 5 S.nd (b9 ax))
   (af (oX PassesOwn.never (aO qz (cn T.cf (pv 5)) (ki (B2 (v:=.ref A.BL) rfl T.EC rfl) (pv 2))) (af (aT 6 S.nd (bH dZ (pv 3) aA))
   (af (aT 3 S.nd (bH dZ (pv 6) (aZ (pv 0) (pv 3))))
   (aj (cu (m9 (pv 5) (Cv Fi (pv 0) (w8 (pv 6)) (w8 (pv 3)))))))))
   (aj (az (fF T.vq (Be T) hr (ab (pv 2) (ab (pv 4) (ab (pv 5) (ab (pv 3) ax)))))))))))), ?_⟩
 obtain⟨hk22,hwn,hrt⟩:=xl ck.shape;have hle:=ck.le;have eW:∀{σ:b6}{H':Hp},σ[2]? =some (some (nv kind))->Ev (jR (qS K) (tC (.ref A.iu)) (bA 2)) σ H' (nv nums.length):=λ{σ H'} s2=>by
  refine ay aH (aa s2) (FW (T.jD H') ?_);have:([.int 0,.int 6,.int 6,.int 2,.int 2,.int 3,.int 0,.int 1,.int 1,.int 1,.int 1,.int 1,.int 1,.int 6,.int 3,.int 3,.int 2,.int 2,.int 1,.int 1,.int 1,.int 0]:List V)=bZ tH:=rfl;rw[this];exact bG (jm hwn)
 have eR:∀{σ:b6}{H':Hp},σ[2]? =some (some (nv kind))->Ev (jR (qS K) (tC (.ref A.BL)) (bA 2)) σ H' (nv rows.length):=λ{σ H'} s2=>by
  refine ay aH (aa s2) (FW (T.E9 H') ?_);have:([.int 0,.int 2,.int 2,.int 0,.int 0,.int 0,.int 2,.int 0,.int 0,.int 0,.int 0,.int 0,.int 1,.int 0,.int 1,.int 0,.int 0,.int 0,.int 0,.int 0,.int 0,.int 0]:List V)=bZ uE:=rfl;rw[this];exact bG (jm hrt)
 refine aL (bY (ay (aa rfl) (aa rfl) (FX hla (bG (jm ck.Nq)))) ?_);dsimp only;refine aL (bY (ay (ay (aa rfl) aH n8) (eW rfl) ng) ?_);dsimp only;refine aL (cA (Ls (a:=at_+1) (b:=at_+1+nums.length) hla (aa rfl) (ay (aa rfl) aH n8) (aa rfl) (by omega) hle λln hln=>?_));dsimp only;have hnums:(l.drop (at_+1)).take (at_+1+nums.length - (at_+1))=nums:=by
  rw[show at_+1+nums.length - (at_+1)=nums.length by omega];exact ck.Nj.symm
 rw[hnums];have x1:=Ext.lay sG hln (.lst (bZ nums));have g1:ao G ln (.lst (bZ nums)) ln=some (.lst (bZ nums)):=ah;generalize ao G ln (.lst (bZ nums))=G1 at x1 g1;generalize ao H ln (.lst (bZ nums))=H1 at x1;refine aL (cA (dY (vs:=[]) au (d8 _) λlr hlr=>?_));dsimp only;have hlrH:H lr=none:=x1.hh.free hlr;have x2:Ext G H G1 (ao H1 lr (.lst [])):=x1.trans (Ext.grow x1.gh (aG.upd hlr _));refine aL (HZ (λm σ H'=> ∃(v6:Option V)(en i:Nat)(ras:List Addr)(G':Hp),σ=[some (.ref la),some (nv at_),some (nv kind),some (nv en),some (.ref ln),some (.ref lr),v6]/\m=rows.length - i/\i<=rows.length/\Ext G H G' H'/\G' ln=some (.lst (bZ nums))/\H' lr=some (.lst (ras.map V.ref))/\G' lr=none/\bF (LF G') ras (rows.take i)/\yz l en (rows.drop i) e)
  rows.length ⟨none,at_+1+nums.length,0,[],G1,rfl,by simp,d8 _,x2,g1,ah,x1.gh.free hlr,.nil,ck.Lo⟩ ?_)
 intro m σ H' z0;obtain⟨v6,en,i,ras,G',rfl,rfl,hi,x',gln,hlr',glr,hras,hrn⟩:=z0;have hrl:ras.length=i:=by have:=hras.length;rw[nL] at this;omega
 have hla':cG K H' la (bZ l):=hla.keep λu e=>x'.hh _ _ e
 refine⟨_,aD (ay (dO (n:=i) (aa rfl) hlr' (by simp[hrl])) (eR rfl) bo),λz=>?_,λz=>?_⟩
 ·have hlt:i<rows.length:=by simpa using z
  have hdr:rows.drop i=rows[i] :: rows.drop (i+1):=zk hlt;rw[hdr] at hrn;generalize hrow:rows[i]=row at hrn;generalize hrest:rows.drop (i+1)=rest at hrn;cases hrn with
  | @cons _ n' _ _ h1 h2 h3=>
   refine aL (bY (ay (aa rfl) aH n8) ?_);dsimp only;refine aL (bY (ay (aa rfl) (ay (aa rfl) (aa rfl) (FX hla' (bG (jm h1)))) ng) ?_);dsimp only;refine jX (aa rfl) hlr' ?_;refine Ls (a:=en+1) (b:=en+1+n') hla' (aa rfl) (aa rfl) (aa rfl) (by omega) h2 λra hra=>?_
   rw[show en+1+n' - (en+1)=n' by omega];have x3:=Ext.lay x'.gh hra (.lst (bZ ((l.drop (en+1)).take n')));have hlr3:=x3.hh _ _ hlr';refine uf hlr3 (by rw[bD,hrl];exact big (by have:=ck.shape;have:rows.length<=2:=by { have hh:=hrt;revert hh;have:∀k:Fin 22,∀n,uE[k.val]? =some n->n<=2:=by { intro k n;have:uE[k.val]?.getD 0<=2:=by { revert k;decide };intro hh;rw[hh] at this;exact this };exact this ⟨kind,hk22⟩ _ };omega)) ?_;have g3:ao G' ra (.lst (bZ ((l.drop (en+1)).take n'))) lr=none:=by
    rw[aw λz=>by rw[z,hra] at hlr';cases hlr'];exact glr
   refine⟨rows.length - (i+1),by omega,_,en+1+n',i+1,ras++[ra],_,rfl,rfl,hlt,(x'.trans x3).wr hlrH g3 _,x3.gg _ _ gln,by rw[ah];simp,g3, ?_,by rw[hrest];exact h3⟩;have ht:rows.take (i+1)=rows.take i++[rows[i]]:=take_snoc (c6 hlt);rw[ht,hrow];exact(hras.mono λ_ _ y=>x3.gg _ _ y).snoc ah
 ·have hge:i=rows.length:=by
   have:¬i<rows.length:=by simpa using z
   omega
  subst hge;rw[List.drop_length] at hrn;rw[rj] at hras;cases hrn;dsimp only;have xk:=x'.keep hlrH glr hlr';have sk:aG G' (ao G' lr (.lst (ras.map V.ref))):=aG.upd glr _;have gk:ao G' lr (.lst (ras.map V.ref)) lr=some (.lst (ras.map V.ref)):=ah;generalize ao G' lr (.lst (ras.map V.ref))=Gk at xk sk gk;refine aR (E7 xk.gh (ae (aa rfl) (ae (aa rfl) (ae (aa rfl) (ae (aa rfl) au)))) rfl λca dx G4 H4 x4 e4 _=>?_);exact q ca G4 H4 (xk.trans x4) ⟨dx,ln,lr,ras,e4,x4.gg _ _ (sk _ _ gln),x4.gg _ _ gk,hras.mono λ_ _ y=>x4.gg _ _ (sk _ _ y)⟩
def P5{n:Nat}(h:n % 2=0)(hn:n<=20):OH 0 (n:Int) 2 (n / 2):=by
 have key:∀i:Fin 21,i.val % 2=0->((2:Int)≠0/\(2:Int).natAbs<1073741824/\Builtin.Range.small 0 ((i.val:Nat):Int) 2=true/\Builtin.Range.rangeSize 0 ((i.val:Nat):Int) 2=i.val / 2):=by decide
 exact key ⟨n,by omega⟩ h
def AN:Sp:=λvs H Q _=> ∃(G:Hp)(lp:Addr)(r:List Nat),vs=[.ref lp]/\aG G H/\G lp=some (.lst (bZ r))/\r.length % 2=0/\r.length<=20/\∀(lb:Addr)(G' H':Hp),Ext G H G' H'->ij G' lb (cq r)->Q (.ref lb) H'
def sq:fQ P0 w0 b0 T 1 69 ["params"] (AN):=by
 refine b8 (top 150) ["params","k"] (T.p 69).1 λS H vs Q E hr h=>?_
 obtain⟨G,lp,r,rfl,sG,hlp,he,hz,q⟩:=h;refine⟨_,(aj (az (p5 rfl S.nd (GK rfl T.Bg (ab aA (ab (cn T.cf (pv 0)) (ab aA ax)))) (rQ S [("k",1)]) (λ_ _ _ _ _=>(fv 1 S.nd)) (λ_ _ _ _ _=>ip) (λ_ _ _ _ _=>(gZ (ab (kS (r:=gY K) mX (pv 0) (pv 1) (λ_ _=>rfl)) (ab (kS (r:=gY K) mX (pv 0) (bH dZ (pv 1) aA) (λ_ _=>rfl)) ax))))))), ?_⟩;have hbl:=gJ he;refine aR (LS (lo:=0) (hi:=(r.length:Int)) (c:=2) (n:=r.length / 2) (ae aH (ae (dO (n:=r.length) (aa rfl) (sG _ _ hlp) (by simp)) (ae aH au))) (P5 he hz)
  (λD j H'=> ∃(as:List Addr)(G':Hp),Ext G H G' H'/\H' D=some (.lst (as.map V.ref))/\G' D=none/\bF (BQ G') as ((cq r).take j)) (λ_=>rfl) (λD hD=>⟨[],G,Ext.grow sG (aG.upd hD _),ah,sG.free hD,.nil⟩) ?_ ?_)
 ·intro D j H' hD hj z0;obtain⟨as,G',x',e1,e2,e3⟩:=z0;have hlp':=x'.gh _ _ (x'.gg _ _ hlp);have hal:=e3.length;rw[nL] at hal;have i1:2 * j<r.length:=by omega
  have i2:2 * j+1<r.length:=by omega
  have b1:Ev (jR (gY K) (bA 0) (bA 1)) ((wipe [some (.ref lp),none] [1]).set 1 (some (.int (0+(j:Nat) * 2)))) H' (nv (r.getD (2 * j) 0)):=ay (aa rfl) (aa rfl) (bM hlp' (at_of (j:=2 * j) (by omega) (kW i1)));have b2:Ev (jR (gY K) (bA 0) (jR (uG λi j=>V.int (i+j)) (bA 1) (tC (V.int 1)))) ((wipe [some (.ref lp),none] [1]).set 1 (some (.int (0+(j:Nat) * 2)))) H' (nv (r.getD (2 * j+1) 0)):=ay (aa rfl) (ay (aa rfl) aH bo) (bM hlp' (at_of (j:=2 * j+1) (by omega) (kW i2)));refine zO (ae b1 (ae b2 au)) (by show 2<=sizeLine;decide) λt ht=>?_
  have x3:=Ext.lay x'.gh ht (.tup [nv (r.getD (2 * j) 0),nv (r.getD (2 * j+1) 0)]);have g3:ao G' t (.tup [nv (r.getD (2 * j) 0),nv (r.getD (2 * j+1) 0)]) D=none:=by
   rw[aw λz=>by rw[z,ht] at e1;cases e1];exact e2
  refine⟨_,x3.hh _ _ e1,by rw[bD,hal];exact big (by omega),as++[t],_,(x'.trans x3).wr hD g3 _,by rw[ah];simp,g3, ?_⟩;have hb:(cq r)[j]? =some ⟨r.getD (2 * j) 0,r.getD (2 * j+1) 0⟩:=by rw[Dj he,ai hj]
  rw[take_snoc hb];exact bF.snoc (e3.mono λ_ _ y=>x3.gg _ _ y) (show BQ _ _ _ from ah)
 ·intro D H' hD z0;obtain⟨as,G',x',e1,e2,e3⟩:=z0;rw[Ag (by omega)] at e3;exact q D _ H' (x'.keep hD e2 e1) ⟨as,ah,e3.mono λ_ _ y=>aG.upd e2 _ _ _ y⟩
def yJ(A:bU):Sp:=λvs H Q _=> ∃(G:Hp)(ca:Addr)(kind:Nat)(w f lo hi d c:Nat)(r b:List Nat)(e:Nat),vs=[.ref ca]/\aG G H/\K7 A G ca kind [w,f,lo,hi,d,c] [r,b] e/\r.length % 2=0/\r.length<=20/\Small b/\b.length<=300/\
 ∀(va:Addr)(G' H':Hp),Ext G H G' H'->dI A G' va ⟨⟨cq r,⟨lo,hi⟩,d,c⟩,b⟩->Q (.ref va) H'
def qA:fQ P0 w0 b0 T 8 70 ["call"] (yJ A):=by
 refine b8 (top 151) ["call","numbers","promise"] (T.p 70).1 λS H vs Q E hr h=>?_
 obtain⟨G,ca,kind,w,f,lo,hi,d,c,r,b,e,rfl,sG,co,he,hz,hsm,hbz,q⟩:=h;obtain⟨dx,ln,lr,ras,c1,c2,c3,c4⟩:=co.ex;obtain⟨r0,r1,rfl⟩:=KO (show ras.length=2 from c4.length);have c40:G r0=some (.lst (bZ r)):=by cases c4 with |cons y _=>exact y
 have c41:G r1=some (.lst (bZ b)):=by cases c4 with |cons _ z=>cases z with |cons y _=>exact y
 refine⟨_,(af (aT 1 S.nd (aF (pv 0)))
   (af (aT 2 S.nd (fF T.eS (eL T) hr (ab (aZ (pv 1) aA) (ab (aZ (pv 1) aA) (ab (aZ (pv 1) aA) (ab (aZ (pv 1) aA) ax))))))
   (aj (az (fF T.pR (vL T) hr (ab (fF T.vk (Bc T) hr (ab (aV (T.p 69) (sq T) hr (ab (aZ (aF (pv 0)) aA) ax)) (ab (pv 2) ax))) (ab (aZ (aF (pv 0)) aA) ax))))))), ?_⟩
 refine aL (bY (aC (aa rfl) (sG _ _ c1) T.eN T.eD (gM _ _ _ _)) ?_);dsimp only;have en:∀{σ:b6}(i n:Nat),σ[1]? =some (some (.ref ln))->[w,f,lo,hi,d,c][i]? =some n->Ev (jR (gY K) (bA 1) (tC (V.int (i:Int)))) σ H (nv n):=λi n s1 hi=>ay (aa s1) aH (bM (sG _ _ c2) (bG (jm hi)))
 refine aL (cA (ph (k:=⟨lo,hi,d,c⟩) sG (ae (en 2 lo rfl rfl) (ae (en 3 hi rfl rfl) (ae (en 4 d rfl rfl) (ae (en 5 c rfl rfl) au)))) λfa G1 H1 x1 hfa=>?_));dsimp only;have er:∀{σ:b6}{H':Hp}(i:Nat)(ra:Addr),aG G H'->σ[0]? =some (some (.ref ca))->[r0,r1][i]? =some ra->Ev (jR (gY K) (da K (bA 0) "rows") (tC (V.int (i:Int)))) σ H' (.ref ra):=λi ra sg s0 hi=>
  ay (aC (aa s0) (sg _ _ c1) T.eN T.jT (pW _ _ _ _)) aH (bM (sg _ _ c3) (bG (by rw[cU,hi];rfl)))
 have sG1:aG G H1:=x1.gg.trans x1.gh;refine aR (mP (aY (mP (aY (aS (ae (er 0 r0 sG1 rfl rfl) au) ⟨G1,r0,r,rfl,x1.gh,x1.gg _ _ c40,he,hz,λlb G2 H2 x2 hlb=>aY (cQ (aa rfl) (cV ?_))⟩)))));intro wa dxw hwa hdxw hnew;refine⟨wa,dxw,[.ref lb,.ref fa],rfl,rfl,ah,rfl, ?_⟩;rw[bS];have sW:aG H2 (ao (ao H2 dxw (.own wa)) wa (.ins A.nh dxw (FT [.ref lb,.ref fa]))):=(aG.upd hdxw _).trans (aG.upd (by rw[aw (Ne.symm hnew)];exact hwa) _);have x3:Ext G1 H1 (ao G2 wa (.ins A.nh dxw (pQ (.ref lb) (.ref fa)))) (ao (ao H2 dxw (.own wa)) wa (.ins A.nh dxw (FT [.ref lb,.ref fa]))):=(x2.trans (Ext.grow x2.gh sW)).keep (x2.hh.free hwa) (x2.gh.free hwa) ah;have g23:aG G2 (ao G2 wa (.ins A.nh dxw (pQ (.ref lb) (.ref fa)))):=aG.upd (x2.gh.free hwa) _;have word:kE A (ao G2 wa (.ins A.nh dxw (pQ (.ref lb) (.ref fa)))) wa ⟨cq r,⟨lo,hi⟩,d,c⟩:=⟨dxw,lb,fa,ah,hlb.mono g23,(hfa.mono x2.gg).mono g23⟩;generalize ao G2 wa (.ins A.nh dxw (pQ (.ref lb) (.ref fa)))=G3 at x3 g23 word;generalize ao (ao H2 dxw (.own wa)) wa (.ins A.nh dxw (FT [.ref lb,.ref fa]))=H3 at x3 sW;have x13:=x1.trans x3;refine aY (cQ (er 1 r1 (x13.gg.trans x13.gh) rfl rfl) (cV ?_));have bz:(cq r).length<=10:=by rw[gJ he];omega
 have mk:=GW (A:=A) (tl:=fZ (tC (.ref wa)) (fZ (tC (.ref r1)) jC)) (σ:=[]) (E:=E0) (v:=⟨⟨cq r,⟨lo,hi⟩,d,c⟩,b⟩) (Q:=Q) x13.gh (ae aH (ae aH au)) word (x13.gg _ _ c41) hbz bz hsm (λva G4 H4 x4 hv=>q va G4 H4 (x13.trans x4) hv);exact mk
end Wh
namespace L2
open PySem
def cP(h:za u σ H b)(hb:b=false)(k:s' D σ H):oR (yI u s rz) s' D σ H:=b7 h (λz=>by rw[hb] at z;cases z) λ_=>k
def jf(h:za u σ H b)(hb:b=true)(k:s { D with nx:=s' D } σ H):oR (yI u s rz) s' D σ H:=b7 h (λ_=>k) λz=>by rw[hb] at z;cases z
end L2
namespace Wh
open PySem PySem.Spec PyProof.Rows L2
open Kp212 (Known Bound Word Programs ROUND goodBound wordOf version calls callers)
variable {P0:Program} {w0:World} {K:bg} {mg:Str->Option Value} {b0:Heap} {A:bU} (T:Txt K mg A)
def AO(A:bU)(lo hi:Nat):Sp:=λvs H Q _=> ∃G N hp dc cas h ca kind nums rows e cl h' a,vs=[.ref hp,.ref ca]/\HC A G H N hp dc cas h/\i5 h/\K7 A G ca kind nums rows e/\dC kind nums rows cl/\lo<=kind/\kind<=hi/\aX (some h) cl=(some h',a)/\mH A G H N hp dc cas Q h' a
def p8:fQ P0 w0 b0 T 10 71 ["house","call"] (AO A 0 5):=by
 refine b8 (top 152) ["house","call","numbers"] (T.p 71).1 λS H vs Q E hr h=>?_
 obtain⟨G,N,hp,dc,cas,h,ca,kind,nums,rows,e,cl,h',a,rfl,x,ok,co,ak,k1,k2,hst,q⟩:=h;obtain⟨dx,ln,lr,ras,c1,c2,c3,c4⟩:=co.ex;have sG:=x.zM;have ekind:∀{σ:b6},σ[1]? =some (some (.ref ca))->Ev (da K (bA 1) "kind") σ H (nv kind):=λs1=>aC (aa s1) (sG _ _ c1) T.eN T.iX (lz _ _ _ _)
 have en:∀{σ:b6}(i n:Nat),σ[2]? =some (some (.ref ln))->nums[i]? =some n->Ev (jR (gY K) (bA 2) (tC (V.int (i:Int)))) σ H (nv n):=λi n s1 hi=>ay (aa s1) aH (bM (sG _ _ c2) (bG (jm hi)))
 refine⟨_,(af (aT 2 S.nd (aF (pv 1)))
   (af (aQ (aO bq (aF (pv 1)) (aP T.L1)) (aj (az (aV (T.p 56) (J3 T) hr (ab (pv 0) ax)))) aE)
   (af (aQ (aO bq (aF (pv 1)) (aP T.Jz)) (aj (az (aV (T.p 61) (GQ T) hr (ab (pv 0) (ab (aZ (pv 2) aA) (ab (aZ (pv 2) aA) (ab (aV (T.p 70) (qA T) hr (ab (pv 1) ax)) ax))))))) aE)
   (af (aQ (aO bq (aF (pv 1)) (aP T.KW)) (aj (az (aV (T.p 60) (J1 T) hr (ab (pv 0) (ab (aZ (pv 2) aA) (ab (aZ (pv 2) aA) (ab (aV (T.p 70) (qA T) hr (ab (pv 1) ax)) ax))))))) aE)
   (af (aQ (aO bq (aF (pv 1)) (aP T.Mt)) (aj (az (aV (T.p 64) (KD T) hr (ab (pv 0) (ab (aZ (pv 2) aA) (ab (aZ (pv 2) aA) ax)))))) aE)
   (af (aQ (aO bq (aF (pv 1)) (aP T.Mv)) (aj (az (aV (T.p 66) (KG T) hr (ab (pv 0) (ab (aZ (pv 2) aA) (ab (aZ (pv 2) aA) ax)))))) aE)
   (aj (az (aV (T.p 67) (KC T) hr (ab (pv 0) (ab (aZ (pv 2) aA) (ab (aZ (pv 2) aA) (ab (aZ (pv 2) aA) ax))))))))))))), ?_⟩
 refine aL (bY (aC (aa rfl) (sG _ _ c1) T.eN T.eD (gM _ _ _ _)) ?_);dsimp only;have et:∀{σ:b6}(n:Nat),σ[1]? =some (some (.ref ca))->za (qx (jR LW (da K (bA 1) "kind") (tC (V.int (n:Int))))) σ H (decide (kind=n)):=λn s1=>aD (ay (ekind s1) aH bX)
 induction ak
 all_goals try (exfalso;omega)
 case begin_=>
  cases hst;exact jf (et 0 rfl) rfl (aR (aS (ae (aa rfl) au) ⟨G,N,hp,dc,cas,h,rfl,x,q⟩))
 case define w f lo hi d c r b p1 p2 p3 p4=>
  rw[uB ok p3] at hst;cases hst;refine cP (et 0 rfl) rfl (jf (et 1 rfl) rfl (aR (mQ (aY (cQ (aa rfl) (aY (cQ (en 0 w rfl rfl) (aY (cQ (en 1 f rfl rfl) (aY (aS (ae (aa rfl) au) ⟨G,ca,1,w,f,lo,hi,d,c,r,b,e,rfl,sG,co,p1,p2,p3,p4,λva G' H' x' hv=>cV ?_⟩)))))))))));have x2:=x.ext x';exact⟨G',N,hp,h,w,f,va,_,rfl,x2.hw,x2.fr,ok,hv,by show(cq r).length<=1000;rw[gJ p1];omega,p3,(q.ext x').NZ x2 (Bz _ _ _ _)⟩
 case would w f lo hi d c r b p1 p2 p3 p4=>
  rw[xa ok p3] at hst;cases hst;refine cP (et 0 rfl) rfl (cP (et 1 rfl) rfl (jf (et 2 rfl) rfl (aR (mQ (aY (cQ (aa rfl) (aY (cQ (en 0 w rfl rfl) (aY (cQ (en 1 f rfl rfl) (aY (aS (ae (aa rfl) au) ⟨G,ca,2,w,f,lo,hi,d,c,r,b,e,rfl,sG,co,p1,p2,p3,p4,λva G' H' x' hv=>cV ?_⟩))))))))))));have x2:=x.ext x';obtain⟨dp,de,ks,pa,lv,a2,o2⟩:=x2.hw.ex;exact⟨G',hp,dp,de,ks,pa,lv,h,w,f,va,_,rfl,a2,ok.ps,hv,by show(cq r).length<=1000;rw[gJ p1];omega,p3,(q.ext x').toQ x2⟩
 case drop w f=>
  rw[step_drop] at hst;cases hst;exact cP (et 0 rfl) rfl (cP (et 1 rfl) rfl (cP (et 2 rfl) rfl (jf (et 3 rfl) rfl (aR (aS (ae (aa rfl) (ae (en 0 w rfl rfl) (ae (en 1 f rfl rfl) au))) ⟨G,N,hp,h,w,f,rfl,x.hw,x.fr,ok.ps,ok.log,q.NZ x (ES _ _ _)⟩)))))
 case back w f=>
  rw[zL ok] at hst;cases hst;exact cP (et 0 rfl) rfl (cP (et 1 rfl) rfl (cP (et 2 rfl) rfl (cP (et 3 rfl) rfl (jf (et 4 rfl) rfl (aR (aS (ae (aa rfl) (ae (en 0 w rfl rfl) (ae (en 1 f rfl rfl) au))) ⟨G,N,hp,h,w,f,rfl,x.hw,x.fr,ok.ps,ok.log,q.NZ x (F4 _ _ _)⟩))))))
 case give w f t=>
  rw[zK] at hst;cases hst;exact cP (et 0 rfl) rfl (cP (et 1 rfl) rfl (cP (et 2 rfl) rfl (cP (et 3 rfl) rfl (cP (et 4 rfl) rfl (aR (aS (ae (aa rfl) (ae (en 0 w rfl rfl) (ae (en 1 f rfl rfl) (ae (en 2 t rfl rfl) au)))) ⟨G,N,hp,h,w,f,t,rfl,x.hw,x.fr,ok.ps,q.NZ x (Ey _ _ _ _)⟩))))))
def qp:fQ P0 w0 b0 T 7 72 ["house","call"] (AO A 6 12):=by
 refine b8 (top 153) ["house","call","f"] (T.p 72).1 λS H vs Q E hr h=>?_
 obtain⟨G,N,hp,dc,cas,h,ca,kind,nums,rows,e,cl,h',a,rfl,x,ok,co,ak,k1,k2,hst,q⟩:=h;obtain⟨dx,ln,lr,ras,c1,c2,c3,c4⟩:=co.ex;have sG:=x.zM;obtain⟨dp,de,ks,pa,lv,a0,o0⟩:=x.hw.ex;have ekind:∀{σ:b6},σ[1]? =some (some (.ref ca))->Ev (da K (bA 1) "kind") σ H (nv kind):=λs1=>aC (aa s1) (sG _ _ c1) T.eN T.iX (lz _ _ _ _)
 have en:∀{σ:b6}(i n:Nat),σ[1]? =some (some (.ref ca))->nums[i]? =some n->Ev (jR (gY K) (da K (bA 1) "numbers") (tC (V.int (i:Int)))) σ H (nv n):=λi n s1 hi=>ay (aC (aa s1) (sG _ _ c1) T.eN T.eD (gM _ _ _ _)) aH (bM (sG _ _ c2) (bG (jm hi)))
 have er:∀{σ:b6}{H':Hp}(i:Nat)(ra:Addr),aG G H'->σ[1]? =some (some (.ref ca))->ras[i]? =some ra->Ev (jR (gY K) (da K (bA 1) "rows") (tC (V.int (i:Int)))) σ H' (.ref ra):=λi ra sg s0 hi=>
  ay (aC (aa s0) (sg _ _ c1) T.eN T.jT (pW _ _ _ _)) aH (bM (sg _ _ c3) (bG (by rw[cU,hi];rfl)))
 refine⟨_,(af (aQ (aO bq (aF (pv 1)) (aP T.KY)) (aj (az (aV (T.p 35) (J2 T) hr (ab (pv 0) (ab (aV (T.p 69) (sq T) hr (ab (aZ (aF (pv 1)) aA) ax)) (ab (aZ (aF (pv 1)) aA) ax)))))) aE)
   (af (aT 2 S.nd (aZ (aF (pv 1)) aA))
   (af (aQ (aO bq (aF (pv 1)) (aP T.Mo)) (aj (az (aV (T.p 36) (B6 T) hr (ab (pv 0) (ab (pv 2) ax))))) aE)
   (af (aQ (aO bq (aF (pv 1)) (aP T.Mu)) (aj (az (aV (T.p 37) (B9 T) hr (ab (pv 0) (ab (pv 2) ax))))) aE)
   (af (aQ (aO bq (aF (pv 1)) (aP T.L0)) (aj (az (aV (T.p 38) (yQ T) hr (ab (pv 0) (ab (pv 2) ax))))) aE)
   (af (aQ (aO bq (aF (pv 1)) (aP T.Ht)) (aj (az (aV (T.p 39) (vG T) hr (ab (pv 0) (ab (pv 2) ax))))) aE)
   (af (aQ (aO bq (aF (pv 1)) (aP T.EB)) (aj (az (aV (T.p 40) (tU T) hr (ab (pv 0) (ab (pv 2) ax))))) aE)
   (aj (az (aV (T.p 42) (xB T) hr (ab (pv 0) (ab (pv 2) (ab (aZ (aF (pv 1)) aA) ax))))))))))))), ?_⟩
 have et:∀{σ:b6}(n:Nat),σ[1]? =some (some (.ref ca))->za (qx (jR LW (da K (bA 1) "kind") (tC (V.int (n:Int))))) σ H (decide (kind=n)):=λn s1=>aD (ay (ekind s1) aH bX)
 induction ak
 all_goals try (exfalso;omega)
 case infer r b p1 p2 p3 p4=>
  have hs:aX (some h) (.infer (cq r) b)=(some h,xZ h (cq r) b):=rfl;rw[hs] at hst;cases hst;obtain⟨r0,r1,rfl⟩:=KO (show ras.length=2 from c4.length);have c40:G r0=some (.lst (bZ r)):=by cases c4 with |cons y _=>exact y
  have c41:G r1=some (.lst (bZ b)):=by cases c4 with |cons _ z=>cases z with |cons y _=>exact y
  refine jf (et 6 rfl) rfl (aR (mQ (aY (cQ (aa rfl) (aY (aS (ae (er 0 r0 sG rfl rfl) au) ⟨G,r0,r,rfl,sG,c40,p1,p2,λlb G' H' x' hb=>aY (cQ (er 1 r1 (x'.gg.trans x'.gh) rfl rfl) (cV ?_))⟩))))));have x2:=x.ext x';obtain⟨dp2,de2,ks2,pa2,lv2,a2,o2⟩:=x2.hw.ex;exact⟨G',hp,dp2,de2,ks2,pa2,lv2,h,lb,r1,cq r,b,rfl,a2,ok.ps,hb,x'.gg _ _ c41,by rw[gJ p1];omega,p4,p3,(q.ext x').toQ x2⟩
 case word f=>
  have hs:aX (some h) (.word f)=(some h,BZ h f):=rfl;rw[hs] at hst;cases hst;refine cP (et 6 rfl) rfl (aL (bY (en 0 f rfl rfl) ?_));dsimp only;exact jf (et 7 rfl) rfl (aR (aS (ae (aa rfl) (ae (aa rfl) au)) ⟨G,hp,dp,de,ks,pa,lv,h,f,rfl,a0,ok.ps,q.toQ x⟩))
 case body f=>
  have hs:aX (some h) (.body f)=(some h,Dk h f):=rfl;rw[hs] at hst;cases hst;refine cP (et 6 rfl) rfl (aL (bY (en 0 f rfl rfl) ?_));dsimp only;exact cP (et 7 rfl) rfl (jf (et 8 rfl) rfl (aR (aS (ae (aa rfl) (ae (aa rfl) au)) ⟨G,hp,dp,de,ks,pa,lv,h,f,rfl,a0,ok.ps,q.toQ x⟩)))
 case calls f=>
  have hs:aX (some h) (.calls f)=(some h,yt h f):=rfl;rw[hs] at hst;cases hst;refine cP (et 6 rfl) rfl (aL (bY (en 0 f rfl rfl) ?_));dsimp only;exact cP (et 7 rfl) rfl (cP (et 8 rfl) rfl (jf (et 9 rfl) rfl (aR (aS (ae (aa rfl) (ae (aa rfl) au)) ⟨G,hp,dp,de,ks,pa,lv,h,f,rfl,a0,ok.ps,q.toQ x⟩))))
 case callers f=>
  have hs:aX (some h) (.callers f)=(some h,pL h f):=rfl;rw[hs] at hst;cases hst;refine cP (et 6 rfl) rfl (aL (bY (en 0 f rfl rfl) ?_));dsimp only;exact cP (et 7 rfl) rfl (cP (et 8 rfl) rfl (cP (et 9 rfl) rfl (jf (et 10 rfl) rfl (aR (aS (ae (aa rfl) (ae (aa rfl) au)) ⟨G,hp,dp,de,ks,pa,lv,h,f,rfl,a0,ok.ps,q.toQ x⟩)))))
 case versions f=>
  have hs:aX (some h) (.versions f)=(some h,lX h f):=rfl;rw[hs] at hst;cases hst;refine cP (et 6 rfl) rfl (aL (bY (en 0 f rfl rfl) ?_));dsimp only;exact cP (et 7 rfl) rfl (cP (et 8 rfl) rfl (cP (et 9 rfl) rfl (cP (et 10 rfl) rfl (jf (et 11 rfl) rfl (aR (aS (ae (aa rfl) (ae (aa rfl) au)) ⟨G,hp,dp,de,ks,pa,lv,h,f,rfl,a0,ok.ps,q.toQ x⟩))))))
 case eval f ar p1 p2=>
  have hs:aX (some h) (.eval f ar)=(some h,D8 h f ar):=rfl;rw[hs] at hst;cases hst;obtain⟨r0,rfl⟩:=KP (show ras.length=1 from c4.length);have c40:G r0=some (.lst (bZ ar)):=by cases c4 with |cons y _=>exact y
  refine cP (et 6 rfl) rfl (aL (bY (en 0 f rfl rfl) ?_));dsimp only;exact cP (et 7 rfl) rfl (cP (et 8 rfl) rfl (cP (et 9 rfl) rfl (cP (et 10 rfl) rfl (cP (et 11 rfl) rfl (aR (aS (ae (aa rfl) (ae (aa rfl) (ae (er 0 r0 sG rfl rfl) au))) ⟨G,hp,dp,de,ks,pa,lv,h,f,r0,ar,rfl,a0,ok,sG _ _ c40,p1,by omega,q.toQ x⟩))))))
def qX:fQ P0 w0 b0 T 6 73 ["house","call"] (AO A 13 19):=by
 refine b8 (top 154) ["house","call","numbers"] (T.p 73).1 λS H vs Q E hr h=>?_
 obtain⟨G,N,hp,dc,cas,h,ca,kind,nums,rows,e,cl,h',a,rfl,x,ok,co,ak,k1,k2,hst,q⟩:=h;obtain⟨dx,ln,lr,ras,c1,c2,c3,c4⟩:=co.ex;have sG:=x.zM;have ekind:∀{σ:b6},σ[1]? =some (some (.ref ca))->Ev (da K (bA 1) "kind") σ H (nv kind):=λs1=>aC (aa s1) (sG _ _ c1) T.eN T.iX (lz _ _ _ _)
 have en:∀{σ:b6}{H':Hp}(i n:Nat),aG G H'->σ[2]? =some (some (.ref ln))->nums[i]? =some n->Ev (jR (gY K) (bA 2) (tC (V.int (i:Int)))) σ H' (nv n):=λi n sg s1 hi=>ay (aa s1) aH (bM (sg _ _ c2) (bG (jm hi)))
 have er:∀{σ:b6}{H':Hp}(i:Nat)(ra:Addr),aG G H'->σ[1]? =some (some (.ref ca))->ras[i]? =some ra->Ev (jR (gY K) (da K (bA 1) "rows") (tC (V.int (i:Int)))) σ H' (.ref ra):=λi ra sg s0 hi=>
  ay (aC (aa s0) (sg _ _ c1) T.eN T.jT (pW _ _ _ _)) aH (bM (sg _ _ c3) (bG (by rw[cU,hi];rfl)))
 refine⟨_,(af (aT 2 S.nd (aF (pv 1)))
   (af (aQ (aO bq (aF (pv 1)) (aP T.Nu)) (aj (az (aV (T.p 47) (CD T) hr (ab (pv 0) (ab (aZ (pv 2) aA) (ab (aZ (pv 2) aA) (ab (gZ (ab (aZ (pv 2) aA) (ab (aZ (pv 2) aA) ax))) (ab (aZ (pv 2) aA) (ab (aZ (pv 2) aA) ax))))))))) aE)
   (af (aQ (aO bq (aF (pv 1)) (aP T.Nt)) (aj (az (aV (T.p 50) (CC T) hr (ab (pv 0) (ab (aZ (pv 2) aA) (ab (aZ (pv 2) aA) (ab (aZ (pv 2) aA) (ab (aZ (aF (pv 1)) aA) ax)))))))) aE)
   (af (aQ (aO bq (aF (pv 1)) (aP T.Jy)) (aj (az (aV (T.p 51) (xD T) hr (ab (pv 0) (ab (aZ (pv 2) aA) (ab (aZ (pv 2) aA) (ab (aZ (pv 2) aA) ax))))))) aE)
   (af (aQ (aO bq (aF (pv 1)) (aP T.KZ)) (aj (az (aV (T.p 52) (yR T) hr (ab (pv 0) (ab (aZ (pv 2) aA) (ab (aZ (pv 2) aA) ax)))))) aE)
   (af (aQ (aO bq (aF (pv 1)) (aP T.Mr)) (aj (az (aV (T.p 53) (Ba T) hr (ab (pv 0) (ab (aZ (pv 2) aA) (ab (aZ (pv 2) aA) ax)))))) aE)
   (af (aQ (aO bq (aF (pv 1)) (aP T.Mq)) (aj (az (aV (T.p 54) (B7 T) hr (ab (pv 0) (ab (aZ (pv 2) aA) ax))))) aE)
   (aj (az (aV (T.p 55) (CB T) hr (ab (pv 0) (ab (aZ (pv 2) aA) ax)))))))))))), ?_⟩
 refine aL (bY (aC (aa rfl) (sG _ _ c1) T.eN T.eD (gM _ _ _ _)) ?_);dsimp only;have et:∀{σ:b6}(n:Nat),σ[1]? =some (some (.ref ca))->za (qx (jR LW (da K (bA 1) "kind") (tC (V.int (n:Int))))) σ H (decide (kind=n)):=λn s1=>aD (ay (ekind s1) aH bX)
 have h32:=ok.nc
 induction ak
 all_goals try (exfalso;omega)
 case put w k lo hi v m hhi=>
  refine jf (et 13 rfl) rfl (aR (mQ (aY (cQ (aa rfl) (aY (cQ (en 0 w sG rfl rfl) (aY (cQ (en 1 k sG rfl rfl) (aY (zO (ae (en 2 lo sG rfl rfl) (ae (en 3 hi sG rfl rfl) au)) (by show 2<=sizeLine;decide) λtb htb=>?_))))))))));have x':=Ext.lay sG htb (.tup [nv lo,nv hi]);have sg:=sG.trans (aG.upd htb (.tup [nv lo,nv hi]));exact aY (cQ (en 4 v sg rfl rfl) (aY (cQ (en 5 m sg rfl rfl) (cV ⟨_,N,hp,dc,cas,h,w,k,lo,hi,v,m,tb,h',a,rfl,x.ext x',h32,ah,hhi,hst,q.ext x'⟩))))
 case run w f t ks p1 p2=>
  obtain⟨r0,rfl⟩:=KP (show ras.length=1 from c4.length);have c40:G r0=some (.lst (bZ ks)):=by cases c4 with |cons y _=>exact y
  exact cP (et 13 rfl) rfl (jf (et 14 rfl) rfl (aR (aS (ae (aa rfl) (ae (en 0 w sG rfl rfl) (ae (en 1 f sG rfl rfl) (ae (en 2 t sG rfl rfl) (ae (er 0 r0 sG rfl rfl) au))))) ⟨G,N,hp,dc,cas,h,w,f,t,r0,ks,h',a,rfl,x,ok,sG _ _ c40,by omega,hst,q⟩)))
 case narrow w k m=>
  exact cP (et 13 rfl) rfl (cP (et 14 rfl) rfl (jf (et 15 rfl) rfl (aR (aS (ae (aa rfl) (ae (en 0 w sG rfl rfl) (ae (en 1 k sG rfl rfl) (ae (en 2 m sG rfl rfl) au)))) ⟨G,N,hp,dc,cas,h,w,k,m,h',a,rfl,x,h32,hst,q⟩))))
 case clear w k=>
  exact cP (et 13 rfl) rfl (cP (et 14 rfl) rfl (cP (et 15 rfl) rfl (jf (et 16 rfl) rfl (aR (aS (ae (aa rfl) (ae (en 0 w sG rfl rfl) (ae (en 1 k sG rfl rfl) au))) ⟨G,N,hp,dc,cas,h,w,k,h',a,rfl,x,h32,hst,q⟩)))))
 case read w k=>
  exact cP (et 13 rfl) rfl (cP (et 14 rfl) rfl (cP (et 15 rfl) rfl (cP (et 16 rfl) rfl (jf (et 17 rfl) rfl (aR (aS (ae (aa rfl) (ae (en 0 w sG rfl rfl) (ae (en 1 k sG rfl rfl) au))) ⟨G,N,hp,dc,cas,h,w,k,h',a,rfl,x,h32,hst,q⟩))))))
 case seen k=>
  exact cP (et 13 rfl) rfl (cP (et 14 rfl) rfl (cP (et 15 rfl) rfl (cP (et 16 rfl) rfl (cP (et 17 rfl) rfl (jf (et 18 rfl) rfl (aR (aS (ae (aa rfl) (ae (en 0 k sG rfl rfl) au)) ⟨G,N,hp,dc,cas,h,k,h',a,rfl,x,h32,hst,q⟩)))))))
 case how k=>
  exact cP (et 13 rfl) rfl (cP (et 14 rfl) rfl (cP (et 15 rfl) rfl (cP (et 16 rfl) rfl (cP (et 17 rfl) rfl (cP (et 18 rfl) rfl (aR (aS (ae (aa rfl) (ae (en 0 k sG rfl rfl) au)) ⟨G,N,hp,dc,cas,h,k,h',a,rfl,x,h32,hst,q⟩)))))))
def Bb:fQ P0 w0 b0 T 11 74 ["house","call"] (AO A 0 21):=by
 refine b8 (top 155) ["house","call"] (T.p 74).1 λS H vs Q E hr h=>?_
 obtain⟨G,N,hp,dc,cas,h,ca,kind,nums,rows,e,cl,h',a,rfl,x,ok,co,ak,k1,k2,hst,q⟩:=h;obtain⟨dx,ln,lr,ras,c1,c2,c3,c4⟩:=co.ex;have sG:=x.zM;have ekind:∀{σ:b6},σ[1]? =some (some (.ref ca))->Ev (da K (bA 1) "kind") σ H (nv kind):=λs1=>aC (aa s1) (sG _ _ c1) T.eN T.iX (lz _ _ _ _)
 refine⟨_,(af (aQ (aO rV (aF (pv 1)) (aP T.Ms)) (aj (az (aV (T.p 71) (p8 T) hr (ab (pv 0) (ab (pv 1) ax))))) aE)
   (af (aQ (aO rV (aF (pv 1)) (aP T.Bq)) (aj (az (aV (T.p 72) (qp T) hr (ab (pv 0) (ab (pv 1) ax))))) aE)
   (af (aQ (aO rV (aF (pv 1)) (aP T.Nw)) (aj (az (aV (T.p 73) (qX T) hr (ab (pv 0) (ab (pv 1) ax))))) aE)
   (af (aQ (aO bq (aF (pv 1)) (aP T.Nv)) (aj (az (aV (T.p 43) (yP T) hr (ab (pv 0) (ab (aZ (aF (pv 1)) aA) ax))))) aE)
   (aj (az (aV (T.p 44) (B8 T) hr (ab (pv 0) ax)))))))), ?_⟩
 refine b7 (aD (ay (ekind rfl) aH bo)) (λz=>?_) λz1=>?_
 ·simp at z;exact aR (aS (ae (aa rfl) (ae (aa rfl) au)) ⟨G,N,hp,dc,cas,h,ca,kind,nums,rows,e,cl,h',a,rfl,x,ok,co,ak,d8 _,by omega,hst,q⟩)
 refine b7 (aD (ay (ekind rfl) aH bo)) (λz=>?_) λz2=>?_
 ·simp at z z1;exact aR (aS (ae (aa rfl) (ae (aa rfl) au)) ⟨G,N,hp,dc,cas,h,ca,kind,nums,rows,e,cl,h',a,rfl,x,ok,co,ak,by omega,by omega,hst,q⟩)
 refine b7 (aD (ay (ekind rfl) aH bo)) (λz=>?_) λz3=>?_
 ·simp at z z2;exact aR (aS (ae (aa rfl) (ae (aa rfl) au)) ⟨G,N,hp,dc,cas,h,ca,kind,nums,rows,e,cl,h',a,rfl,x,ok,co,ak,by omega,by omega,hst,q⟩)
 simp at z3;have et:∀{σ:b6}(n:Nat),σ[1]? =some (some (.ref ca))->za (qx (jR LW (da K (bA 1) "kind") (tC (V.int (n:Int))))) σ H (decide (kind=n)):=λn s1=>aD (ay (ekind s1) aH bX)
 obtain⟨dp,de,ks,pa,lv,a0,o0⟩:=x.hw.ex
 induction ak
 all_goals try (exfalso;omega)
 case log k=>
  have hs:aX (some h) (.log k)=(some h,yk h k):=rfl;rw[hs] at hst;cases hst;have en:∀{σ:b6},σ[1]? =some (some (.ref ca))->Ev (jR (gY K) (da K (bA 1) "numbers") (tC (V.int 0))) σ H (nv k):=λs1=>ay (aC (aa s1) (sG _ _ c1) T.eN T.eD (gM _ _ _ _)) aH (bM (sG _ _ c2) (bG (j:=0) rfl))
  exact jf (et 20 rfl) rfl (aR (aS (ae (aa rfl) (ae (en rfl) au)) ⟨G,hp,dp,de,ks,pa,lv,h,k,rfl,a0,ok.ps,q.toQ x⟩))
 case many=>
  have hs:aX (some h) .many=(some h,Je h):=rfl;rw[hs] at hst;cases hst;exact cP (et 20 rfl) rfl (aR (aS (ae (aa rfl) au) ⟨G,hp,dp,de,ks,pa,lv,h,rfl,a0,q.toQ x⟩))
def Lg(ok:i5 h)(ak:dC kind nums rows cl):(aX (some h) cl).2.nums.length<=210:=by
 induction ak
 case begin_=>exact d8 _
 case define w f lo hi d c r b p1 p2 p3 p4=>rw[uB ok p3];exact d8 _
 case would w f lo hi d c r b p1 p2 p3 p4=>rw[xa ok p3];exact d8 _
 case drop=>rw[step_drop];exact d8 _
 case back=>rw[zL ok];exact d8 _
 case give=>rw[zK];exact d8 _
 case infer r b p1 p2 p3 p4=>
  show(xZ h (cq r) b).nums.length<=210;unfold xZ;split
  ·exact d8 _
  ·split
   ·exact d8 _
   ·show 4<=210;decide
 case word f=>
  show(BZ h f).nums.length<=210;unfold BZ bB;cases hv:version h.programs f with
  |none=>exact d8 _
  |some v=>
   have h4:=(cJ.mp (ok.ps.wX hv).word).1;have:=pairs_len v.word.params;unfold pairsOf at this;dsimp only;rw[dR,this];show 2 * v.word.params.length+4<=210;omega
 case body f=>
  show(Dk h f).nums.length<=210;unfold Dk bB;cases hv:version h.programs f with
  |none=>exact d8 _
  |some v=>have:=(ok.ps.wX hv).len;dsimp only;omega
 case calls f=>
  show(yt h f).nums.length<=210;unfold yt bB;cases hv:version h.programs f with
  |none=>exact d8 _
  |some v=>
   dsimp only;unfold calls;rw[hv];exact eY (wC _ _) (by simp[eJ])
 case callers f=>
  show(pL h f).nums.length<=210;unfold pL bB;cases hv:version h.programs f with
  |none=>exact d8 _
  |some v=>have:=vf h.programs f;dsimp only;omega
 case versions f=>
  show(lX h f).nums.length<=210;unfold lX;split
  ·exact d8 _
  ·show 1<=210;decide
 case eval f a p1 p2=>
  show(D8 h f a).nums.length<=210;unfold D8 bB;cases hv:version h.programs f with
  |none=>exact d8 _
  |some v=>
   dsimp only;split
   ·exact d8 _
   ·split
    ·show 2<=210;decide
    ·exact d8 _
 case put=>
  unfold aX;dsimp only;split<;>exact d8 _
 case run w f t ks p1 p2=>
  by_cases hr:kh h w f t ks=0
  ·obtain⟨ht,hk32,v,hv,hkl,hwin,hstep⟩:=Fl hr;obtain⟨p,hp',hvh⟩:=cw hv;obtain⟨r,s,hr1,hr2,_⟩:=ok.xn hv hkl hwin;rw[hstep r s p hr1 hp'];exact d8 _
  ·rw[IB hr];exact d8 _
 case narrow=>
  unfold aX;dsimp only;split
  ·exact d8 _
  ·split<;>exact d8 _
 case clear=>
  unfold aX;dsimp only;split
  ·exact d8 _
  ·split<;>exact d8 _
 case read=>
  unfold aX;dsimp only;split
  ·exact d8 _
  ·split
   ·exact d8 _
   ·show 1<=210;decide
 case seen=>
  unfold aX;dsimp only;split
  ·exact d8 _
  ·show 3<=210;decide
 case how k=>
  unfold aX;dsimp only;split
  ·exact d8 _
  ·have:=(ok.cells k).OP;cases hf:(bb h k).from_ with
   |nobody=>exact d8 _
   |put w=>show 1<=210;decide
   |run w f v ks=>
    rw[hf] at this;show([w,f,v]++ks).length<=210;have:=this.2.2.2.2;simp;omega
 case log k=>
  show(yk h k).nums.length<=210;unfold yk;split
  ·show 2<=210;decide
  ·exact d8 _
 case many=>show 1<=210;decide
def HG(ak:dC kind nums rows cl):K6 cl:=by
 induction ak<;>first |trivial |assumption
def JO(hc:wQ c=some cl)(hs:aX (some h) cl=(some h',a)):j4 (some h) (c :: r)=(((told a).length:Int) :: told a)++j4 (some h') r:=by
 rw[yo];have e:lT (some h) c=(some h',told a):=by
  unfold lT;rw[hc];dsimp only;rw[hs];rfl
 rw[e]
def Hw(h:qI cs=true):j4 none cs=j4 (some eB) cs:=by
 unfold qI at h;split at h
 ·rw[yo,yo];rfl
 ·cases h
def spT(K:bg):Sp:=λvs H Q _=> ∃(a:Addr)(ns:List Int),vs=[.ref a]/\cG K H a (ns.map V.int)/\iO ns=true/\(∀x∈ns,0<=x/\x<=4294967295)/\∀(H':Hp)(p:Addr),H' p=some (.lst ((oM ns).map V.int))->Q (.ref p) H'
def Kc(h:∀x∈ns,0<=x/\x<=4294967295):∃l:List Nat,ns=l.map gj/\ns.map V.int=bZ l:=by
 refine⟨ns.map Int.toNat, ?_, ?_⟩
 ·rw[zj]
  conv=>lhs;rw[<- List.map_id ns]
  exact zi λx hx=>by have:=h x hx;show x=((x.toNat:Nat):Int);omega
 ·show ns.map V.int=(ns.map Int.toNat).map nv;rw[zj];exact zi λx hx=>by have:=h x hx;show V.int x=V.int ((x.toNat:Nat):Int);rw[Int.toNat_of_nonneg this.1]
def Ek:fQ P0 w0 b0 T 12 75 ["calls"] (spT K):=by
 refine b8 (top 156) ["calls","house","given","at","call","answer"] (T.p 75).1 λS H vs Q E hr h=>?_
 obtain⟨la,ns,rfl,hla,hask,hrange,q⟩:=h;refine⟨_,(af (aT 1 S.nd (LX T.tf (yT T) hr))
   (af (aT 2 S.nd (b9 ax))
   (af (aT 3 S.nd aA)
   (af (oX PassesOwn.never (aO qz (pv 3) (cn T.cf (pv 0))) (af (aT 4 S.nd (aV (T.p 68) (Ej T) hr (ab (pv 0) (ab (pv 3) ax))))
   (af (aT 5 S.nd (aV (T.p 74) (Bb T) hr (ab (pv 1) (ab (pv 4) ax))))
   (af (cu (m9 (pv 2) (cn T.cf (pv 5))))
   (af (cu (Fx PySem.F.plainAttrs_list PySem.F.slot_list_extend PySem.F.type_list_extend zU (pv 2) (ab (pv 5) ax)))
   (aj (aT 3 S.nd (aF (pv 4)))))))))
   (aj (az (pv 2))))))), ?_⟩
 obtain⟨l,hns,hnv⟩:=Kc hrange;rw[hnv] at hla;obtain⟨cs0,hcalls,hcs300,hbeg,hask1,hdue⟩:=F6 hask;rw[Hw hbeg] at hdue;rw[hdue] at q;rw[hns] at hcalls;clear hask hdue hrange hnv;generalize hD0:j4 (some eB) cs0=due0 at q;refine aL (cA (qR au λhp dx hhp hdx hne=>?_));refine⟨λ_=>none,hp,dx,rfl,λb o e=>(by cases e),rfl,ah,λG1 H1 N1 dc1 cas1 g1 kp1 nn1 nm1 hc1=>⟨rfl, ?_⟩⟩;have mk1:∀b o,H b=some o->b≠hp/\ao (ao H dx (.own hp)) hp (.ins A.fL dx []) b=some o:=λb o e=>by
  have n1:=aJ e hhp;exact⟨n1,by rw[aw n1,aw (aJ e hdx)];exact e⟩
 have old1:∀b o,H b=some o->H1 b=some o:=λb o e=>kp1 b o (mk1 b o e).2 (mk1 b o e).1
 have new1:∀b,ao (ao H dx (.own hp)) hp (.ins A.fL dx []) b=none->H b=none:=λb z=>(iQ (iQ z).2).2
 dsimp only;refine aL (cA (dY (vs:=[]) au (d8 _) λlg hlg=>?_));dsimp only;have sg:=aG.upd hlg (.lst []);have hc2:=hc1.grow sg;have hlgH:H lg=none:=by
  cases z:H lg with
  |none=>rfl
  |some o=>rw[old1 lg o z] at hlg;cases hlg
 have lghp:lg≠hp:=λz=>by
  obtain⟨_,_,_,eo⟩:=hc1.obj;rw[z,eo] at hlg;cases hlg
 refine aL (bY aH ?_);dsimp only;refine aL (HZ (λm σ H'=> ∃(v4 v5:Option V)(at_:Nat)(acc:List Int)(cs:List (List (List Int)))(h:aU)(G':Hp)(N:Addr->Prop)(dc:Addr)(cas:List Addr),σ=[some (.ref la),some (.ref hp),some (.ref lg),some (nv at_),v4,v5]/\m=l.length - at_/\
   HC A G' H' N hp dc cas h/\i5 h/\Calls (l.map gj) at_ cs/\(∀c∈cs,qJ c=true)/\due0=acc++j4 (some h) cs/\acc.length+220 * cs.length<=66000/\H' lg=some (.lst (acc.map V.int))/\(¬N lg/\lg∉dc :: cas/\G' lg=none)/\
   (∀b o,H b=some o->H' b=some o)/\(∀b,N b->H b=none)/\∀b∈dc :: cas,H b=none)
  l.length ⟨none,none,0,[],cs0,eB,G1,N1,dc1,cas1,rfl,by simp,hc2,i5.empty,hcalls,hask1,by simp[hD0],by simp;omega,ah,⟨hc1.fr lg hlg,hc1.mw hlg,hc1.zM.free hlg⟩,λb o e=>sg _ _ (old1 b o e),λb z=>new1 b (nn1 b z),λb z=>new1 b (nm1 b z)⟩ ?_)
 intro m σ H' z0;obtain⟨v4,v5,at_,acc,cs,h,G',N,dc,cas,rfl,rfl,hc,ok,hcs,has,hd,hz,hlg',⟨nlg,mlg,glg⟩,old,newN,newC⟩:=z0;have hla':cG K H' la (bZ l):=hla.keep λu e=>old _ _ e
 have elen:Ev (Ke (Fq K) (fZ (bA 0) jC)) [some (.ref la),some (.ref hp),some (.ref lg),some (nv at_),v4,v5] H' (nv l.length):=by
  have:=dG (ae (aa (n:=0) (σ:=[some (V.ref la),some (V.ref hp),some (V.ref lg),some (nv at_),v4,v5]) rfl) au) (JN hla');rw[bD] at this;exact this
 refine⟨_,aD (ay (aa rfl) elen bo),λz=>?_,λz=>?_⟩
 ·have hlt:at_<l.length:=by simpa using z
  rcases hcs.step with⟨y,_⟩ | ⟨_,c,r,e,rfl,hca,hcr⟩
  ·rw[bD] at y;omega
  obtain⟨kind,nums,rows,ck,rfl⟩:=JV hca;obtain⟨cl,hcl,ak⟩:=K2 ck.shape (has _ (by simp));obtain⟨hlt1,hlt2⟩:=ck.lt;refine aL (cA (aS (ae (aa rfl) (ae (aa rfl) au)) ⟨G',la,at_,l,kind,nums,rows,e,rfl,hc.zM,hla',ck,λca G2 H2 x2 co=>?_⟩));dsimp only;obtain⟨h',hs1⟩:=GB (s:=some h) rfl (c:=cl);have hst:aX (some h) cl=(some h',(aX (some h) cl).2):=by rw[<- hs1]
  have hlen:=Lg ok ak;have hok':i5 h':=by
   have:=Kg (s:=some h) ok (HG ak);rw[hs1] at this;exact this
  generalize ha:(aX (some h) cl).2=a at hst hlen;have k21:kind<=21:=by have:=(xl ck.shape).1;omega
  refine aL (cA (aS (ae (aa rfl) (ae (aa rfl) au)) ⟨G2,N,hp,dc,cas,h,ca,kind,nums,rows,e,cl,h',a,rfl,hc.ext x2,ok,co,ak,d8 _,k21,hst,λl3 G3 H3 N3 dc3 cas3 g3 gn3 kp3 nn3 nm3 hc3 hl3 n3 m3 e3=>?_⟩));dsimp only;have hlg2:=x2.hh _ _ hlg';have hlg3:=kp3 lg _ hlg2 nlg lghp mlg;have nlg3:¬N3 lg:=λy=>by
   rcases nn3 lg y with w |w
   ·exact nlg w
   ·rw[hlg2] at w;cases w
  have mlg3:lg∉dc3 :: cas3:=λy=>by
   rcases nm3 lg y with w |w
   ·exact mlg w
   ·rw[hlg2] at w;cases w
  have glg3:G3 lg=none:=gn3 lg _ (x2.zT hlg' glg) hlg2;have nel:l3≠lg:=λy=>by rw[y,hlg2] at hl3;cases hl3
  have told_len:(told a).length<=211:=by unfold told;simp;omega
  have hz':acc.length+220 * (r.length+1)<=66000:=by simpa using hz
  refine aL (gX (rP (aa rfl) (ae (dO (n:=(told a).length) (aa rfl) e3 (by simp)) au) hlg3 (by rw[bD];exact big (by omega)) ?_));dsimp only;have e3':ao H3 lg (.lst (acc.map V.int++[nv (told a).length])) l3=some (.lst ((told a).map V.int)):=by rw[aw nel];exact e3
  refine aL (gX (LV (aa rfl) ah (aY (cQ (aa rfl) (cV ⟨lg,l3,_,_,rfl,rfl,ah,e3',by simp;exact HI (by omega), ?_⟩)))));dsimp only;rw[bS];have hc4:HC A G3 (ao H3 lg (.lst (acc.map V.int++[nv (told a).length]++(told a).map V.int))) N3 hp dc3 cas3 h':=by
   refine hc3.frame (hc3.zM.C3 glg3 _) λb o eb hb=>?_
   rw[aw]
   ·exact eb
   ·rintro rfl
    rcases hb with w |w |w
    ·exact nlg3 w
    ·exact lghp w
    ·exact mlg3 w
  obtain⟨dxc,lnc,lrc,rasc,c1,_⟩:=co.ex;refine bY (aC (aa rfl) (hc4.zM _ _ (g3 _ _ c1)) T.eN T.uR (F9 _ _ _ _)) ?_;have fr2:∀b,H2 b=none->H b=none:=λb y=>by
   cases w:H b with
   |none=>rfl
   |some o=>rw[x2.hh _ _ (old b o w)] at y;cases y
  refine⟨l.length - e,by omega,_,_,e,acc++(((told a).length:Int) :: told a),r,h',G3,N3,dc3,cas3,rfl,rfl,hc4,hok',hcr,λc hcm=>has c (cZ _ hcm), ?_, ?_, ?_,⟨nlg3,mlg3,glg3⟩,λb o eb=>?_,λb y=>?_,λb y=>?_⟩
  ·rw[hd,JO hcl hst,dW]
  ·simp;omega
  ·rw[ah];simp
  ·rw[aw (aJ eb hlgH)];refine kp3 b o (x2.hh _ _ (old b o eb)) (λw=>?_) (aJ eb hhp) λw=>?_
   ·rw[newN b w] at eb;cases eb
   ·rw[newC b w] at eb;cases eb
  ·rcases nn3 b y with w |w
   ·exact newN b w
   ·exact fr2 b w
  ·rcases nm3 b y with w |w
   ·exact newC b w
   ·exact fr2 b w
 ·have hge:¬at_<l.length:=by simpa using z
  rcases hcs.step with⟨_,rfl⟩ | ⟨y,_⟩
  ·dsimp only;refine bc (aa rfl) (q H' lg ?_);rw[hlg',hd,L7,qw]
  ·rw[bD] at y;exact aI y hge
end Wh
namespace Wh
open PySem PySem.Spec PyProof.Rows L2
variable {P0:Program} {w0:World} {K:bg} {mg:Str->Option Value} {b0:Heap} {A:bU} (T:Txt K mg A)
inductive AllP(K:bg):List (Str×Stmt)->Prop
 |nil:AllP K []
 |cons {n:Str} {st:Stmt} {r:List (Str×Stmt)} {f:Addr} {oc kV dc pm cd ct:Value} {od an:Option Addr} {sl:Array (Option Value)} (a:lV K mainGlobals n=some (some (.ref f)))
   (l:K.lookup f=some ⟨oc,od,.func (fm n n (j5 st) (gT st) (d7 st) .none kV dc pm an cd ct),sl⟩) (co:ka K cd n=true) (k:gr K (.ref f)=true) (h:AllP K r):AllP K ((n,st) :: r)
inductive HU(K:bg)(c:Addr):List Str->Prop
 |nil:HU K c []
 |cons {x:Str} {r:List Str} (a:eT K (.ref c) x=some none) (h:HU K c r):HU K c (x :: r)
inductive HS(K:bg):List (Str×Str×Stmt×List Str)->Prop
 |nil:HS K []
 |cons {n q:Str} {st:Stmt} {fs:List Str} {r:List (Str×Str×Stmt×List Str)} {c f:Addr} {oc kV dc pm cd ct:Value} {od an:Option Addr} {sl:Array (Option Value)} (a:lV K mainGlobals n=some (some (.ref c))) (b:eT K (.ref c) "__init__" =some (some (.ref f)))
   (i:PySem.W.isFn K (.ref f)=true) (l:K.lookup f=some ⟨oc,od,.func (fm "__init__" q (j5 st) (gT st) (d7 st) .none kV dc pm an cd ct),sl⟩) (co:ka K cd q=true) (k:gr K (.ref f)=true)
   (pg:jP K c Str.empty=true) (hd:jl K c=true) (po:lB K c=true) (sa:eT K (.ref c) "__setattr__" =some (some (.builtin "object.__setattr__"))) (mk:oJ K c=true) (kc:gr K (.ref c)=true)
   (na:HU K c fs) (h:HS K r):HS K ((n,q,st,fs) :: r)
inductive HR(K:bg):List (Str×Int)->Prop
 |nil:HR K []
 |cons {n:Str} {v:Int} {r:List (Str×Int)} {t:Tok} (a:lV K mainGlobals n=some (some (.int v t))) (h:HR K r):HR K ((n,v) :: r)
inductive HQ(K:bg):List Str->Prop
 |nil:HQ K []
 |cons {n:Str} {r:List Str} (a:lV K mainGlobals n=some none) (h:HQ K r):HQ K (n :: r)
def HU.get{K:bg}{c:Addr}{l:List Str}(a:HU K c l):∀x∈l,bf K c x:=by
 induction a with
 |nil=>intro x hx;simp at hx
 |cons a _ ih=>
  intro x hx
  rcases bp.mp hx with rfl |hx
  ·exact a
  ·exact ih x hx
section
variable {K:bg} {h:Heap} {mg:Str->Option Value} (X:K.In h) (G:h.Ns mainGlobals mg)
include X G
def AllP.get(a:AllP K l):∃(f:Nat->Addr)(d:Nat->FuncData),∀(i:Nat)(h:i<l.length),Gj K l[i].1 l[i].1 l[i].2 (f i) (d i)/\mg l[i].1=some (.ref (f i)):=by
 induction a with
 |nil=>exact⟨λ_=>0,λ_=>default,λi h=>by simp at h⟩
 | @cons n st r f oc kV dc pm cd ct od an sl a l co k _ ih=>
  obtain⟨f',d',ih⟩:=ih;refine⟨λi=>match i with |0=>f |i+1=>f' i,λi=>match i with |0=>fm n n (j5 st) (gT st) (d7 st) .none kV dc pm an cd ct |i+1=>d' i,λi h=>?_⟩;cases i with
  |zero=>exact⟨JB l co k,lW X G a⟩
  |succ i=>exact ih i (by simpa using h)
theorem HS.get(a:HS K l):∃(c f:Nat->Addr)(d:Nat->FuncData),∀(i:Nat)(h:i<l.length),Gj K "__init__" l[i].2.1 l[i].2.2.1 (f i) (d i)/\vW K (c i)/\Mk K (c i) (f i)/\mg l[i].1=some (.ref (c i))/\∀x∈l[i].2.2.2,bf K (c i) x:=by
 induction a with
 |nil=>exact⟨λ_=>0,λ_=>0,λ_=>default,λi h=>by simp at h⟩
 | @cons n q st fs r c f oc kV dc pm cd ct od an sl a b i l co k pg hd po sa mk kc na _ ih=>
  obtain⟨c',f',d',ih⟩:=ih;refine⟨λi=>match i with |0=>c |i+1=>c' i,λi=>match i with |0=>f |i+1=>f' i,λi=>match i with |0=>fm "__init__" q (j5 st) (gT st) (d7 st) .none kV dc pm an cd ct |i+1=>d' i,λj h=>?_⟩;cases j with
  |zero=>
   refine⟨JB l co k,⟨pg,hd,po,sa⟩,⟨mk,b,i,kc⟩,lW X G a,λx hx=>?_⟩;exact na.get x hx
  |succ j=>exact ih j (by simpa using h)
def HR.get(a:HR K l):∀(i:Nat)(h:i<l.length),∃t,mg l[i].1=some (.int l[i].2 t):=by
 induction a with
 |nil=>exact λi h=>by simp at h
 |cons a _ ih=>
  intro i h;cases i with
  |zero=>exact⟨_,lW X G a⟩
  |succ i=>exact ih i (by simpa using h)
def HQ.get(a:HQ K l):∀(i:Nat)(h:i<l.length),mg l[i]=none:=by
 induction a with
 |nil=>exact λi h=>by simp at h
 |cons a _ ih=>
  intro i h;cases i with
  |zero=>exact PySem.W.mg_none_of X G a
  |succ i=>exact ih i (by simpa using h)
def LI(hp:AllP K MR)(hc:HS K MT)(hg:HR K cT)(hn:HQ K bT)(jH:lV K mainGlobals "WHOLE_NUMBERS" =some (some (.ref p_WHOLE_NUMBERS)))(jD:K.lookup p_WHOLE_NUMBERS=some ⟨.type "tuple",od_WHOLE_NUMBERS,.seq i_WHOLE_NUMBERS on_WHOLE_NUMBERS,os_WHOLE_NUMBERS⟩)(v_WHOLE_NUMBERS:i_WHOLE_NUMBERS.size=22/\Vals [.int 0,.int 6,.int 6,.int 2,.int 2,.int 3,.int 0,.int 1,.int 1,.int 1,.int 1,.int 1,.int 1,.int 6,.int 3,.int 3,.int 2,.int 2,.int 1,.int 1,.int 1,.int 0] i_WHOLE_NUMBERS.toList)(EC:lV K mainGlobals "ROWS" =some (some (.ref p_ROWS)))(E9:K.lookup p_ROWS=some ⟨.type "tuple",od_ROWS,.seq i_ROWS on_ROWS,os_ROWS⟩)(v_ROWS:i_ROWS.size=22/\Vals [.int 0,.int 2,.int 2,.int 0,.int 0,.int 0,.int 2,.int 0,.int 0,.int 0,.int 0,.int 0,.int 1,.int 0,.int 1,.int 0,.int 0,.int 0,.int 0,.int 0,.int 0,.int 0] i_ROWS.toList):∃A:bU,Txt K mg A:=by
 obtain⟨f,d,hf⟩:=hp.get X G;obtain⟨c,fi,di,hk⟩:=hc.get X G;exact⟨⟨f,fi,c,d,di,p_WHOLE_NUMBERS,p_ROWS⟩,⟨hf,hk,hg.get X G,hn.get X G,lW X G jH,λH=>.inr ⟨_,_,_,jD,rfl,rfl,by rw[v_WHOLE_NUMBERS.1];decide,v_WHOLE_NUMBERS.2⟩,lW X G EC,λH=>.inr ⟨_,_,_,E9,rfl,rfl,by rw[v_ROWS.1];decide,v_ROWS.2⟩⟩⟩
end
def fin(hfa:mg "answers" =some (.ref fa))(tx:∃A:bU,Txt K mg A)
  :∃fd:FuncData,(∀(s:Shared)(us:List Value),us.length=(["calls"]:List Str).length->BindsTo s fd ⟨us,[]⟩ ((["calls"]:List Str).zip us))/\∀base:Heap,K.In base->base.Ns mainGlobals mg->nA P w K mg base HP 12 fa fd ["calls"] (spT K):=by
 obtain⟨A,T⟩:=tx;have e2:=hfa.symm.trans (T.p 75).2;cases e2;obtain⟨oc,od,kV,doc,pm,an,cdv,ct,osl,hfd,lk,hcd⟩:=(T.p 75).1.ex;refine⟨_,λs us hu=>?_,λbase _ _=>Ek T⟩;rw[hfd];exact match us,hu with | [_],_=>.of_eq rfl
end Wh
open PySem PySem.W PyProof.Rows
set_option maxRecDepth 100000 in
set_option maxHeartbeats 0 in
theorem PySem.Challenge.cw_wordhold_s01_answers_holds : PySem.Challenge.rw_wordhold_s01_answers.Holds := by
 refine Wh.hd ?_
 w_on;k_fillS
 refine L2.DJ (r:=PySem.Challenge.rw_wordhold_s01_answers) (k:=12) (CX:=L2.HP) (ps:=["calls"]) (sp:=Wh.spT) Wh.said rfl rfl ⟨rfl,by decide,by decide⟩ (λw h Y=>PySem.W.kIn_of Y) ?F ?S (λ_ _ _ _ z=>z)
 case F=>
  intro w mg fa h Y KX G hmg;refine Wh.fin hmg (Wh.LI KX G ?zp ?zc ?zg ?zn (by k_is) (by k_is) ⟨rfl,by repeat (first |exact .nil |refine .cons ⟨_,rfl⟩ ?_)⟩ (by k_is) (by k_is) ⟨rfl,by repeat (first |exact .nil |refine .cons ⟨_,rfl⟩ ?_)⟩)
  case zp=>
   repeat (refine .cons (by k_is) (by k_is) (by k_is) (by k_is) ?_)
   exact .nil
  case zc=>
   repeat (refine .cons (by k_is) (by k_is) (by k_is) (by k_is) (by k_is) (by k_is) (by k_is) (by k_is) (by k_is) (by k_is) (by k_is) (by k_is) (by repeat (first |exact .nil |refine .cons (by k_is) ?_)) ?_)
   exact .nil
  case zg=>
   repeat (refine .cons (by k_is) ?_)
   exact .nil
  case zn=>
   repeat (refine .cons (by k_is) ?_)
   exact .nil
 case S=>
  intro K H xs a hO hwi hask hx;cases hx with
  |cons h1 h2=>
   cases h2;cases h1 with
   |lst hs ha=>
    have e:=L2.FL a.1 _ ha;subst e;have q:((Codec.inLen 0 30000 a.1&&a.1.all (Codec.inInt 0 4294967295))&&true)=true:=hwi;rw[i6,i6] at q;refine⟨_,a.1,rfl,hs,hask,λx hx=>?_,λH' p hp=>.lst (L2.cG.of hp) (L2.FZ _)⟩;exact Codec.inInt_iff.mp (je.mp q.1.2 x hx)
