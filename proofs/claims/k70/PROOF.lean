import PyProof.Rows.All
import Wide.All
import OpenK.AllK
import Wide.FinOn
import Lean
import PyProof.EqAt
import PyProof.EqKinds
import PyProof.TupleCall
import PySem.Challenge.RW_balancehall_k70_names_at_the_desk
set_option Elab.async false
set_option linter.all false
set_option maxRecDepth 100000
namespace Tq
open PySem PySem.W
def pkO : Obj → Option Obj
  | ⟨_, _, .freed, _⟩ => none
  | o => some o
def pk : List Obj → Nat → List Nat → List (Option Obj)
  | [], _, _ => []
  | o :: os, i, as => match as with
    | [] => []
    | a :: r => match Nat.beq a i with
      | true => pkO o :: pk os (i + 1) r
      | false => pk os (i + 1) as
theorem pk_ok : ∀ (l : List Obj) (i : Nat) (as : List Nat), (pk l i as).length = as.length → ∀ p ∈ as.zip (pk l i as), i ≤ p.1 ∧ (l[p.1 - i]?).bind pkO = p.2
  | [], _, as, h, p, m => by
    cases as with
    | nil => cases m
    | cons a r => cases h
  | o :: os, i, [], _, p, m => by cases m
  | o :: os, i, a :: r, h, p, m => by
    have step : ∀ {q : Nat × Option Obj}, i + 1 ≤ q.1 ∧ (os[q.1 - (i + 1)]?).bind pkO = q.2 → i ≤ q.1 ∧ ((o :: os)[q.1 - i]?).bind pkO = q.2 := by
      intro q z
      have e : q.1 - i = q.1 - (i + 1) + 1 := by omega
      rw [e, List.getElem?_cons_succ]
      exact ⟨by omega, z.2⟩
    unfold pk at h m
    cases c : Nat.beq a i with
    | true =>
      have e := Nat.eq_of_beq_eq_true c
      subst e
      simp only [c] at h m
      rw [List.zip_cons_cons] at m
      cases m with
      | head => exact ⟨Nat.le_refl _, by simp⟩
      | tail _ m => exact step (pk_ok os (a + 1) r (by simpa using h) p m)
    | false =>
      simp only [c] at h m
      exact step (pk_ok os (i + 1) (a :: r) h p m)
theorem get_pk (h : Heap) (a : Addr) : h.get? a = (h.objs.toList[a]?).bind pkO := by
  unfold Heap.get?
  rw [Array.getElem?_toList]
  rcases h.objs[a]? with _ | ⟨_, _, d, _⟩
  · rfl
  · cases d <;> rfl
theorem map_pk {h : Heap} : ∀ {as : List Nat} {vs : List (Option Obj)}, vs.length = as.length → (∀ p ∈ as.zip vs, h.get? p.1 = p.2) → as.map h.get? = vs
  | [], [], _, _ => rfl
  | [], _ :: _, e, _ => by cases e
  | _ :: _, [], e, _ => by cases e
  | a :: as, v :: vs, e, z => by
    rw [List.map_cons, z (a, v) (.head _), map_pk (by simpa using e) fun p m => z p (.tail _ m)]
def hkP (K : Params → Frag) (as : List Addr) (e : ∀ P, as = (K P).map (·.1)) : Hook :=
  ⟨List (Option Obj), fun s => pk s.heap.objs.toList 0 as, fun w => (K w.params).map fun p => some p.2, InK K, fun w s x => InK.of e w s (by
    have n : (pk s.heap.objs.toList 0 as).length = as.length := by rw [x, e w.params, List.length_map, List.length_map]
    rw [← x]
    exact map_pk n fun p m => by rw [get_pk]; have z := pk_ok _ 0 as n p m; simpa using z.2), InK.keeps⟩
end Tq
open PySem PySem.W in
local macro_rules | `(tactic| o_head ($_ $K $a $e)) => `(tactic| o_head (Tq.hkP $K $a $e : PySem.W.Hook))
namespace PySem.W.Fast
theorem tw15412402029948182148:True:=⟨⟩
theorem tw591446666916823636:True:=⟨⟩
theorem tw15108091827853275497:True:=⟨⟩
theorem tw3728860534699260715:True:=⟨⟩
theorem tw456558751250109611:True:=⟨⟩
theorem tw2107134041426853528:True:=⟨⟩
theorem tw12473678870489309559:True:=⟨⟩
theorem tw18163816342888276967:True:=⟨⟩
theorem tw1527058338493124579:True:=⟨⟩
theorem tw1787088035691007353:True:=⟨⟩
theorem tw12523094529668122983:True:=⟨⟩
theorem tw16302348904258166648:True:=⟨⟩
theorem tw8802405519139835264:True:=⟨⟩
theorem tw14131606652430933155:True:=⟨⟩
theorem tw12192767756044437894:True:=⟨⟩
theorem tw575967444939881033:True:=⟨⟩
theorem tw2663134497348703037:True:=⟨⟩
theorem tw16986298993062932385:True:=⟨⟩
theorem tw16570314640802827425:True:=⟨⟩
theorem tw17183357390305326675:True:=⟨⟩
theorem tw17309534892975242661:True:=⟨⟩
theorem tw10178496311027736506:True:=⟨⟩
theorem tw1411697869148895566:True:=⟨⟩
theorem tw440956692364615142:True:=⟨⟩
theorem tw14604355409985696082:True:=⟨⟩
theorem tw18376161722512655678:True:=⟨⟩
theorem tw12562225430053024555:True:=⟨⟩
theorem tw8949174267666899705:True:=⟨⟩
theorem tw3575080291999242917:True:=⟨⟩
theorem tw10259262725625032809:True:=⟨⟩
theorem tw1457342176524471121:True:=⟨⟩
theorem tw5359060706715007468:True:=⟨⟩
theorem tw10843283545672867660:True:=⟨⟩
theorem tw5240928661740067087:True:=⟨⟩
theorem tw14315837904086471839:True:=⟨⟩
theorem tw10554858837440633656:True:=⟨⟩
theorem tw14243320514581461565:True:=⟨⟩
theorem tw6778926428608261763:True:=⟨⟩
theorem tw13774828664509289331:True:=⟨⟩
theorem tw16996622356710047186:True:=⟨⟩
theorem tw9224841968368721995:True:=⟨⟩
theorem tw14045901001655840600:True:=⟨⟩
theorem tw15276686779466845929:True:=⟨⟩
theorem tw17444380912093417342:True:=⟨⟩
theorem tw9611581114326341354:True:=⟨⟩
theorem tw9058503718905456102:True:=⟨⟩
theorem tw13786044934516861906:True:=⟨⟩
theorem tw7808419170863544587:True:=⟨⟩
theorem tw7527799060842075054:True:=⟨⟩
theorem tw2284003058682352818:True:=⟨⟩
theorem tw17745911149402944121:True:=⟨⟩
theorem tw4070085282449365194:True:=⟨⟩
theorem tw17889350590356337248:True:=⟨⟩
theorem tw273363789516299017:True:=⟨⟩
theorem tw11665238223047256610:True:=⟨⟩
theorem tw3285988034453864087:True:=⟨⟩
theorem tw699000978871944287:True:=⟨⟩
theorem tw2832255652678659300:True:=⟨⟩
theorem tw3539376292194373104:True:=⟨⟩
theorem tw9193899125452419992:True:=⟨⟩
theorem tw16460940162758306260:True:=⟨⟩
theorem tw3610657816103712492:True:=⟨⟩
theorem tw10738775926107536565:True:=⟨⟩
theorem tw10424499432791050705:True:=⟨⟩
theorem tw9419729269623698746:True:=⟨⟩
theorem tw363980548297943482:True:=⟨⟩
theorem tw16800565895970481958:True:=⟨⟩
theorem tw7361501258501102564:True:=⟨⟩
theorem tw6181454193412669305:True:=⟨⟩
theorem tw7695009453982673086:True:=⟨⟩
theorem tw10988807929511722779:True:=⟨⟩
theorem tw11689247888786627297:True:=⟨⟩
theorem tw11773098635804542204:True:=⟨⟩
theorem tw6247341840621711669:True:=⟨⟩
theorem tw2362677700205884696:True:=⟨⟩
theorem tw10499459367881675064:True:=⟨⟩
theorem tw1507609442733245862:True:=⟨⟩
theorem tw14413927796909644782:True:=⟨⟩
theorem tw2945675398594583472:True:=⟨⟩
theorem tw6465015541147542574:True:=⟨⟩
theorem tw15720503100798958080:True:=⟨⟩
theorem tw15818762297695432062:True:=⟨⟩
theorem tw8582187477388120129:True:=⟨⟩
theorem tw16515260837856088298:True:=⟨⟩
theorem tw6780842274522337327:True:=⟨⟩
theorem tw13481017679397412942:True:=⟨⟩
theorem tw15488259723039091345:True:=⟨⟩
theorem tw18142737713284077321:True:=⟨⟩
theorem tw15962388380679475239:True:=⟨⟩
theorem tw7780025478205423482:True:=⟨⟩
theorem tw1786534516008531591:True:=⟨⟩
theorem tw16235982984906279876:True:=⟨⟩
theorem tw711186632500370833:True:=⟨⟩
theorem tw14661304836092294630:True:=⟨⟩
theorem tw4948410537853147425:True:=⟨⟩
theorem tw6122326299920364318:True:=⟨⟩
theorem tw13459460083229767421:True:=⟨⟩
theorem tw463592959530538751:True:=⟨⟩
theorem tw16047008543113545896:True:=⟨⟩
theorem tw7042819068985650698:True:=⟨⟩
theorem tw3528013538013971682:True:=⟨⟩
theorem tw6670868379897800742:True:=⟨⟩
theorem tw7093863218451468290:True:=⟨⟩
theorem tw13692537068093904495:True:=⟨⟩
theorem tw16777037275384837385:True:=⟨⟩
theorem tw14476009228837146043:True:=⟨⟩
theorem tw5165780678010383114:True:=⟨⟩
theorem tw16991063383822159622:True:=⟨⟩
theorem tw14563784521288622120:True:=⟨⟩
theorem tw9031684834009893153:True:=⟨⟩
theorem tw10226805609177620437:True:=⟨⟩
theorem tw6799739093365534119:True:=⟨⟩
theorem tw17164213105356242031:True:=⟨⟩
theorem tw11353279410927302056:True:=⟨⟩
theorem tw18263524401328986939:True:=⟨⟩
theorem tw14906834545289960311:True:=⟨⟩
theorem tw15298685913979700106:True:=⟨⟩
theorem tw8906437052282915695:True:=⟨⟩
theorem tw3741209900485371430:True:=⟨⟩
theorem tw5352329410314296844:True:=⟨⟩
theorem tw5944185585537959212:True:=⟨⟩
theorem tw921443902135610818:True:=⟨⟩
theorem tw6823336974982378398:True:=⟨⟩
theorem tw16129142358301392319:True:=⟨⟩
theorem tw1061491778649283258:True:=⟨⟩
theorem tw7579231808319723037:True:=⟨⟩
theorem tw17766689825023519894:True:=⟨⟩
theorem tw15746284387460132304:True:=⟨⟩
theorem tw15375898591755259516:True:=⟨⟩
theorem tw15074475393331785957:True:=⟨⟩
theorem tw6232960330081865848:True:=⟨⟩
theorem tw5327956315839914263:True:=⟨⟩
theorem tw172442617530688986:True:=⟨⟩
theorem tw12482200487637181401:True:=⟨⟩
theorem tw16932411652607627525:True:=⟨⟩
theorem tw13617065567282735415:True:=⟨⟩
theorem tw9986986901789024330:True:=⟨⟩
theorem tw3036226440199092286:True:=⟨⟩
theorem tw7223284057912543708:True:=⟨⟩
theorem tw16554919039600049835:True:=⟨⟩
theorem tw319626174983564706:True:=⟨⟩
theorem tw16535138149300873911:True:=⟨⟩
theorem tw1982037657474956760:True:=⟨⟩
theorem tw10125371186571471670:True:=⟨⟩
theorem tw2443554949373459491:True:=⟨⟩
theorem tw14104320629716537131:True:=⟨⟩
theorem tw18418203492820227725:True:=⟨⟩
theorem tw8451159301273069271:True:=⟨⟩
theorem tw14665982175399632988:True:=⟨⟩
theorem tw14632326854445788308:True:=⟨⟩
theorem tw1356118886138156791:True:=⟨⟩
theorem tw13914457605311417299:True:=⟨⟩
theorem tw3948255085804589675:True:=⟨⟩
theorem tw17308650721659661244:True:=⟨⟩
theorem tw5103391593600234114:True:=⟨⟩
theorem tw17328441041215111611:True:=⟨⟩
theorem tw15266266958325024012:True:=⟨⟩
theorem tw6905815018968690950:True:=⟨⟩
theorem tw2055490960075332236:True:=⟨⟩
theorem tw13947416376621420635:True:=⟨⟩
theorem tw5810566510885588398:True:=⟨⟩
theorem tw6408112174060685847:True:=⟨⟩
theorem tw2011420231899099907:True:=⟨⟩
theorem tw2840067420705515552:True:=⟨⟩
theorem tw10357917505608397198:True:=⟨⟩
theorem tw6077499935447954906:True:=⟨⟩
theorem tw11489979085619262881:True:=⟨⟩
theorem tw9313678287823712741:True:=⟨⟩
theorem tw3019804113327870093:True:=⟨⟩
theorem tw16805604767622783124:True:=⟨⟩
theorem tw10671330749276878564:True:=⟨⟩
theorem tw9195766811606086320:True:=⟨⟩
theorem tw10918749618841968542:True:=⟨⟩
theorem tw8298672360417352168:True:=⟨⟩
theorem tw15991177162763749461:True:=⟨⟩
theorem tw18332061119468829467:True:=⟨⟩
theorem tw18441964724968404119:True:=⟨⟩
theorem tw9240435080546445376:True:=⟨⟩
theorem tw15931703023824590139:True:=⟨⟩
theorem tw3043594352750699216:True:=⟨⟩
theorem tw13232178177047767892:True:=⟨⟩
theorem tw15443653157089060641:True:=⟨⟩
theorem tw12489859137160638183:True:=⟨⟩
theorem tw6693344428973139976:True:=⟨⟩
theorem tw6380559417105911561:True:=⟨⟩
theorem tw12079855160537203001:True:=⟨⟩
theorem tw7147153481893051939:True:=⟨⟩
theorem tw4235142444101570902:True:=⟨⟩
theorem tw13058559202471719080:True:=⟨⟩
theorem tw1522351191509672948:True:=⟨⟩
theorem tw840321145893150550:True:=⟨⟩
theorem tw12311829100406865112:True:=⟨⟩
theorem tw8585629855265468073:True:=⟨⟩
theorem tw18161608736612452523:True:=⟨⟩
theorem tw12390868543204579307:True:=⟨⟩
theorem tw87338304871391789:True:=⟨⟩
theorem tw9562711888508895442:True:=⟨⟩
theorem tw4751848597997663058:True:=⟨⟩
theorem tw8258227809827101555:True:=⟨⟩
theorem tw2043623902123591976:True:=⟨⟩
theorem tw2859555724896202010:True:=⟨⟩
theorem tw8822675430000383945:True:=⟨⟩
theorem tw6658052466719814655:True:=⟨⟩
theorem tw1932568956964120650:True:=⟨⟩
theorem tw12512495765596893926:True:=⟨⟩
theorem tw17904689589185782356:True:=⟨⟩
theorem tw539165466725907729:True:=⟨⟩
theorem tw620968655799202722:True:=⟨⟩
theorem tw16152881816017590281:True:=⟨⟩
theorem tw7233395076408329293:True:=⟨⟩
theorem tw16154165155259212596:True:=⟨⟩
theorem tw13050829351276675497:True:=⟨⟩
theorem tw13767328395496309916:True:=⟨⟩
theorem tw12122416010224986445:True:=⟨⟩
theorem tw7283419110874587053:True:=⟨⟩
theorem tw3700853599767707752:True:=⟨⟩
theorem tw15113431946868946781:True:=⟨⟩
theorem tw283443089439488708:True:=⟨⟩
theorem tw7467753989346700087:True:=⟨⟩
theorem tw7340500726297525110:True:=⟨⟩
theorem tw5434740266287076646:True:=⟨⟩
theorem tw6789616505058805132:True:=⟨⟩
theorem tw17294580678671505419:True:=⟨⟩
theorem tw17517703777145792013:True:=⟨⟩
theorem tw4879163077045991948:True:=⟨⟩
theorem tw4364673132216959011:True:=⟨⟩
theorem tw11177609932149027781:True:=⟨⟩
theorem tw11807406346936085521:True:=⟨⟩
theorem tw2408222489217194150:True:=⟨⟩
theorem tw164912532435079990:True:=⟨⟩
theorem tw359321831430071410:True:=⟨⟩
theorem tw16567642348077699738:True:=⟨⟩
theorem tw9405881102905124555:True:=⟨⟩
theorem tw11634591063162302051:True:=⟨⟩
theorem tw15710695032850781734:True:=⟨⟩
theorem tw8664548691271325480:True:=⟨⟩
theorem tw7034210877552506758:True:=⟨⟩
theorem tw16998055447201575457:True:=⟨⟩
theorem tw17754988292827325677:True:=⟨⟩
theorem tw10825120023728660814:True:=⟨⟩
theorem tw10559147290554872940:True:=⟨⟩
theorem tw9425893862980610349:True:=⟨⟩
theorem tw18084742735986362504:True:=⟨⟩
theorem tw11992136843937911535:True:=⟨⟩
theorem tw12675066770706684073:True:=⟨⟩
theorem tw13279466509784814390:True:=⟨⟩
theorem tw5654228736289792557:True:=⟨⟩
theorem tw1500944073784527320:True:=⟨⟩
theorem tw8624135704834114526:True:=⟨⟩
theorem tw7385771191603038835:True:=⟨⟩
theorem tw834236281615135995:True:=⟨⟩
theorem tw4880151813386188469:True:=⟨⟩
theorem tw11448335492297295390:True:=⟨⟩
theorem tw13945243426200700453:True:=⟨⟩
theorem tw6305989005397019785:True:=⟨⟩
theorem tw11101267576278640254:True:=⟨⟩
theorem tw13709405085105275021:True:=⟨⟩
theorem tw375796720682275900:True:=⟨⟩
theorem tw17298728687398095427:True:=⟨⟩
theorem tw13272668960339457100:True:=⟨⟩
theorem tw13228637998752459741:True:=⟨⟩
theorem tw174213981138398411:True:=⟨⟩
theorem tw7277085803532977429:True:=⟨⟩
theorem tw11183994510384506652:True:=⟨⟩
theorem tw16721214569108483325:True:=⟨⟩
theorem tw5436536591853929335:True:=⟨⟩
theorem tw16241261766166887226:True:=⟨⟩
theorem tw4255601737307304906:True:=⟨⟩
theorem tw12994478621313973525:True:=⟨⟩
theorem tw11864481283852459449:True:=⟨⟩
theorem tw662836758025161823:True:=⟨⟩
theorem tw12250188158928933967:True:=⟨⟩
theorem tw2599633771588250269:True:=⟨⟩
theorem tw17206876262928393363:True:=⟨⟩
theorem tw5971646677994678968:True:=⟨⟩
theorem tw1076018541458514200:True:=⟨⟩
theorem tw17545792201896764469:True:=⟨⟩
theorem tw14406436989687428313:True:=⟨⟩
theorem tw13292332857021655163:True:=⟨⟩
theorem tw7792669780752057732:True:=⟨⟩
theorem tw13531598554029909817:True:=⟨⟩
theorem tw9478106052109146474:True:=⟨⟩
theorem tw12173054268481260082:True:=⟨⟩
theorem tw9009534156491715023:True:=⟨⟩
theorem tw3834278152298978124:True:=⟨⟩
theorem tw1887395961134126017:True:=⟨⟩
theorem tw16270939220064284248:True:=⟨⟩
theorem tw1499579060393644250:True:=⟨⟩
theorem tw18167886609372958265:True:=⟨⟩
theorem tw17264007790577797529:True:=⟨⟩
theorem tw13117136051585886845:True:=⟨⟩
theorem tw14204823869929384073:True:=⟨⟩
theorem tw261569087075202090:True:=⟨⟩
theorem tw1160264754289278182:True:=⟨⟩
theorem tw7063289189189765306:True:=⟨⟩
theorem tw9935233255782596753:True:=⟨⟩
theorem tw9267163648777415195:True:=⟨⟩
theorem tw11401068808991081857:True:=⟨⟩
theorem tw3762208554546127370:True:=⟨⟩
theorem tw10773652975930724052:True:=⟨⟩
theorem tw8660451916726372746:True:=⟨⟩
theorem tw17330311536267374677:True:=⟨⟩
theorem tw16949091766628581506:True:=⟨⟩
theorem tw18413439416196067265:True:=⟨⟩
theorem tw15693524333615233107:True:=⟨⟩
theorem tw15874829592854802753:True:=⟨⟩
theorem tw981816797675697407:True:=⟨⟩
theorem tw11055646618570814509:True:=⟨⟩
theorem tw16344324198316778561:True:=⟨⟩
theorem tw14995464108452608534:True:=⟨⟩
theorem tw6409949673440004677:True:=⟨⟩
theorem tw4543458493428819854:True:=⟨⟩
theorem tw6929076949109133105:True:=⟨⟩
theorem tw14090385409373060308:True:=⟨⟩
theorem tw10959281252901982836:True:=⟨⟩
theorem tw15442286158445312360:True:=⟨⟩
theorem tw16113817976569302998:True:=⟨⟩
theorem tw17046255065303635350:True:=⟨⟩
theorem tw11149769947533312824:True:=⟨⟩
theorem tw2721133407773851896:True:=⟨⟩
theorem tw16128354933151589658:True:=⟨⟩
theorem tw7492972669286414876:True:=⟨⟩
theorem tw985299984812179961:True:=⟨⟩
theorem tw6263593565387435112:True:=⟨⟩
theorem tw10083664870954640556:True:=⟨⟩
theorem tw18343445642506759245:True:=⟨⟩
theorem tw5741613392864049284:True:=⟨⟩
theorem tw13028135084144951093:True:=⟨⟩
theorem tw13378333089579043948:True:=⟨⟩
theorem tw3357435691127486661:True:=⟨⟩
theorem tw5600976116682438581:True:=⟨⟩
theorem tw14001247230269390771:True:=⟨⟩
theorem tw963363872215188785:True:=⟨⟩
theorem tw17497941776243628536:True:=⟨⟩
theorem tw15556859418065378706:True:=⟨⟩
theorem tw2684515012650411032:True:=⟨⟩
theorem tw6938226429006530355:True:=⟨⟩
theorem tw5072351160120850599:True:=⟨⟩
theorem tw13061045110418797061:True:=⟨⟩
theorem tw13087914102708680160:True:=⟨⟩
theorem tw13831351424849188340:True:=⟨⟩
theorem tw11739931472189197449:True:=⟨⟩
theorem tw13563583082654832532:True:=⟨⟩
theorem tw17024839750047706515:True:=⟨⟩
theorem tw13724643104766399953:True:=⟨⟩
theorem tw562675562846322780:True:=⟨⟩
theorem tw17076747114588981916:True:=⟨⟩
theorem tw1465344996612593478:True:=⟨⟩
theorem tw1892042795490359217:True:=⟨⟩
theorem tw6518244307001123763:True:=⟨⟩
theorem tw1246186251144729147:True:=⟨⟩
theorem tw14570085857232004119:True:=⟨⟩
theorem tw14948283937751298729:True:=⟨⟩
theorem tw3256133206382584525:True:=⟨⟩
theorem tw12697292465018504280:True:=⟨⟩
theorem tw7985139672901795112:True:=⟨⟩
theorem tw10168504299432429697:True:=⟨⟩
theorem tw15629118534068455703:True:=⟨⟩
theorem tw322956852078033774:True:=⟨⟩
theorem tw15278605949960004901:True:=⟨⟩
theorem tw16562205827157788010:True:=⟨⟩
theorem tw11411572957415168705:True:=⟨⟩
theorem tw1931886307303134250:True:=⟨⟩
theorem tw13753770256047743529:True:=⟨⟩
theorem tw974281344954412800:True:=⟨⟩
theorem tw15006530943746504190:True:=⟨⟩
theorem tw11983217826251664124:True:=⟨⟩
theorem tw1107560498601478883:True:=⟨⟩
theorem tw2712559557389219645:True:=⟨⟩
theorem tw7586320794767148349:True:=⟨⟩
theorem tw16463544327165588865:True:=⟨⟩
theorem tw6437772305543633778:True:=⟨⟩
theorem tw9900519664884561676:True:=⟨⟩
theorem tw17782623754215839479:True:=⟨⟩
theorem tw11658706123775237056:True:=⟨⟩
theorem tw173143747915732642:True:=⟨⟩
theorem tw5523571887937401617:True:=⟨⟩
theorem tw15570728455374225836:True:=⟨⟩
theorem tw4930695095499060896:True:=⟨⟩
theorem tw9998907336409617499:True:=⟨⟩
theorem tw10209893135388148663:True:=⟨⟩
theorem tw3913734201701513697:True:=⟨⟩
theorem tw3133436153273169145:True:=⟨⟩
theorem tw6904042868320053861:True:=⟨⟩
theorem tw987045966354572901:True:=⟨⟩
theorem tw4003386625023744766:True:=⟨⟩
theorem tw171366590638812472:True:=⟨⟩
theorem tw3907024656319693505:True:=⟨⟩
theorem tw14491397940077314058:True:=⟨⟩
theorem tw5817241815303200104:True:=⟨⟩
theorem tw4907316618643465367:True:=⟨⟩
theorem tw8236567321538149760:True:=⟨⟩
theorem tw17822450718165375184:True:=⟨⟩
theorem tw10230000700617361720:True:=⟨⟩
theorem tw15098822266063582555:True:=⟨⟩
theorem tw9289646308057276970:True:=⟨⟩
theorem tw482588781406350943:True:=⟨⟩
theorem tw7994562902384396108:True:=⟨⟩
theorem tw7364513994641629708:True:=⟨⟩
theorem tw16260925912512855970:True:=⟨⟩
theorem tw15256750456865044833:True:=⟨⟩
theorem tw15822362114795299532:True:=⟨⟩
theorem tw9909148498233599175:True:=⟨⟩
theorem tw15069076790561863201:True:=⟨⟩
theorem tw10914688305822425398:True:=⟨⟩
theorem tw9403578141333635667:True:=⟨⟩
theorem tw8094041998869912850:True:=⟨⟩
theorem tw10688059505977959039:True:=⟨⟩
theorem tw14148199650025652137:True:=⟨⟩
theorem tw10292563190655081119:True:=⟨⟩
theorem tw671726764031430844:True:=⟨⟩
theorem tw4611200908393531678:True:=⟨⟩
theorem tw3054087635244955916:True:=⟨⟩
theorem tw7275969713943708967:True:=⟨⟩
theorem tw7268786837490280794:True:=⟨⟩
theorem tw7906937730680247741:True:=⟨⟩
theorem tw13517266583193282974:True:=⟨⟩
theorem tw7509664740323264749:True:=⟨⟩
theorem tw5856264819112728020:True:=⟨⟩
theorem tw9961523598744190652:True:=⟨⟩
theorem tw9069822407734730701:True:=⟨⟩
theorem tw14124327702635868203:True:=⟨⟩
theorem tw10438299257326059778:True:=⟨⟩
theorem tw11088238441352580868:True:=⟨⟩
theorem tw10178279195965538740:True:=⟨⟩
theorem tw15822562301981042064:True:=⟨⟩
theorem tw4174049640664121235:True:=⟨⟩
theorem tw6826102141755232856:True:=⟨⟩
theorem tw17830953411015406513:True:=⟨⟩
theorem tw17682128554790600726:True:=⟨⟩
theorem tw5910731478065362957:True:=⟨⟩
theorem tw13410721110248125112:True:=⟨⟩
theorem tw16425057889491344684:True:=⟨⟩
theorem tw6743514565716447211:True:=⟨⟩
theorem tw9833375565585082287:True:=⟨⟩
theorem tw7350230886168056836:True:=⟨⟩
theorem tw14422072923620769420:True:=⟨⟩
theorem tw15964609209146670129:True:=⟨⟩
theorem tw17444010266883156889:True:=⟨⟩
theorem tw829143046149414128:True:=⟨⟩
theorem tw6106058372988661865:True:=⟨⟩
theorem tw10310332616933029506:True:=⟨⟩
theorem tw13693870472371493406:True:=⟨⟩
theorem tw11689571333043254220:True:=⟨⟩
theorem tw17162598796963906856:True:=⟨⟩
theorem tw7977549672665273203:True:=⟨⟩
theorem tw10102562476119604515:True:=⟨⟩
theorem tw4738987676439515428:True:=⟨⟩
theorem tw10528329575175989489:True:=⟨⟩
theorem tw16391737996100521912:True:=⟨⟩
theorem tw11636405052187859974:True:=⟨⟩
theorem tw1410845572575450181:True:=⟨⟩
theorem tw14664013538915446081:True:=⟨⟩
theorem tw16779771481524583042:True:=⟨⟩
theorem tw914831012822313769:True:=⟨⟩
theorem tw12277590336074484941:True:=⟨⟩
theorem tw15262214285431993015:True:=⟨⟩
theorem tw635749783926292892:True:=⟨⟩
theorem tw11684968763453306792:True:=⟨⟩
theorem tw4074945450301247791:True:=⟨⟩
theorem tw15889324608312700293:True:=⟨⟩
theorem tw11429753012899440513:True:=⟨⟩
theorem tw17921013222067826295:True:=⟨⟩
theorem tw3310211710763114205:True:=⟨⟩
theorem tw17178897200674954731:True:=⟨⟩
theorem tw17426253050614115887:True:=⟨⟩
theorem tw11016731713179036456:True:=⟨⟩
theorem tw17383400255125088082:True:=⟨⟩
theorem tw2709494981609601709:True:=⟨⟩
theorem tw2753177251917509520:True:=⟨⟩
theorem tw10739730180952657627:True:=⟨⟩
theorem tw4474980687375805942:True:=⟨⟩
theorem tw17332518857721784942:True:=⟨⟩
theorem tw8063849301607948182:True:=⟨⟩
theorem tw12418259020175671862:True:=⟨⟩
theorem tw7638029746692563511:True:=⟨⟩
theorem tw6611097233808086339:True:=⟨⟩
theorem tw14772901819337459859:True:=⟨⟩
theorem tw6537066009127036365:True:=⟨⟩
theorem tw17206450731099932050:True:=⟨⟩
theorem tw14801192987055932615:True:=⟨⟩
theorem tw17299010855461826998:True:=⟨⟩
theorem tw8016877248948876644:True:=⟨⟩
theorem tw182905923901357201:True:=⟨⟩
theorem tw222458587159506817:True:=⟨⟩
theorem tw10900322794384949508:True:=⟨⟩
theorem tw11100846869508143556:True:=⟨⟩
theorem tw5048515185927600058:True:=⟨⟩
theorem tw3558892032306533774:True:=⟨⟩
theorem tw513005606438955169:True:=⟨⟩
theorem tw11392790482888773011:True:=⟨⟩
theorem tw16605254171821909955:True:=⟨⟩
theorem tw11615437769533623045:True:=⟨⟩
theorem tw1527682920316557403:True:=⟨⟩
theorem tw14847229529956267866:True:=⟨⟩
theorem tw8410502130519771029:True:=⟨⟩
theorem tw6190388798503830724:True:=⟨⟩
theorem tw13294645775010018508:True:=⟨⟩
theorem tw11631105909110695692:True:=⟨⟩
theorem tw8914008921448317861:True:=⟨⟩
theorem tw6890056427489797719:True:=⟨⟩
theorem tw7535632274247941550:True:=⟨⟩
theorem tw15744562090704797835:True:=⟨⟩
theorem tw8910238888265124953:True:=⟨⟩
theorem tw11912097832835978016:True:=⟨⟩
theorem tw8850211027929678880:True:=⟨⟩
theorem tw16788798552034220971:True:=⟨⟩
theorem tw7892824384688744129:True:=⟨⟩
theorem tw11266972417652908969:True:=⟨⟩
theorem tw11205616927292864269:True:=⟨⟩
theorem tw15572676125050166621:True:=⟨⟩
theorem tw5685012889404086773:True:=⟨⟩
theorem tw17057413929423476231:True:=⟨⟩
theorem tw7349583704332860755:True:=⟨⟩
theorem tw14686636495580296451:True:=⟨⟩
theorem tw12944220621207166836:True:=⟨⟩
theorem tw7326574103108340045:True:=⟨⟩
theorem tw11686963771818812140:True:=⟨⟩
theorem tw12938226987065297314:True:=⟨⟩
theorem tw3528095371495406150:True:=⟨⟩
theorem tw11922447573509473452:True:=⟨⟩
theorem tw7866946042475468459:True:=⟨⟩
theorem tw7715333846864757483:True:=⟨⟩
theorem tw3157655322189342288:True:=⟨⟩
theorem tw13434714201406150082:True:=⟨⟩
theorem tw17970855819746949387:True:=⟨⟩
theorem tw2244945325512741758:True:=⟨⟩
theorem tw1636437973035628045:True:=⟨⟩
theorem tw10576078643999795911:True:=⟨⟩
theorem tw4321701954304440154:True:=⟨⟩
theorem tw7097895649412617562:True:=⟨⟩
theorem tw16542472340864777317:True:=⟨⟩
theorem tw15641323515649296801:True:=⟨⟩
theorem tw10158443189792357315:True:=⟨⟩
theorem tw17956174282920656353:True:=⟨⟩
theorem tw13498969387517174907:True:=⟨⟩
theorem tw14411837385340100582:True:=⟨⟩
theorem tw3783040918044280:True:=⟨⟩
theorem tw13122554635114498255:True:=⟨⟩
theorem tw2961557192639062826:True:=⟨⟩
theorem tw4344812326457667244:True:=⟨⟩
theorem tw4592465138720546093:True:=⟨⟩
theorem tw13910982485251209546:True:=⟨⟩
theorem tw7785981886933687848:True:=⟨⟩
theorem tw520324120003024646:True:=⟨⟩
theorem tw6116943059598056762:True:=⟨⟩
theorem tw16198070141962696792:True:=⟨⟩
theorem tw4254759905417533751:True:=⟨⟩
theorem tw6407965463261610824:True:=⟨⟩
theorem tw9072905308926727421:True:=⟨⟩
theorem tw10808764828536570775:True:=⟨⟩
theorem tw9513166324191642558:True:=⟨⟩
theorem tw6606803952758962380:True:=⟨⟩
theorem tw11885337044681347712:True:=⟨⟩
theorem tw14599097043566413667:True:=⟨⟩
theorem tw618615283218560754:True:=⟨⟩
theorem tw12956513119201107808:True:=⟨⟩
theorem tw4988513071445161680:True:=⟨⟩
theorem tw14957713862813709866:True:=⟨⟩
theorem tw2891392209409126275:True:=⟨⟩
theorem tw4911765688553384493:True:=⟨⟩
theorem tw7082421065770981631:True:=⟨⟩
theorem tw7921085658859955724:True:=⟨⟩
theorem tw2373543394765977276:True:=⟨⟩
theorem tw7943718689102667380:True:=⟨⟩
theorem tw18216714969784229048:True:=⟨⟩
theorem tw14743261847208913739:True:=⟨⟩
theorem tw9545677033634119560:True:=⟨⟩
theorem tw10421219047506012070:True:=⟨⟩
theorem tw7128859548047384487:True:=⟨⟩
theorem tw11003520499376964718:True:=⟨⟩
theorem tw10869830542240766839:True:=⟨⟩
theorem tw534318095337744627:True:=⟨⟩
theorem tw9180560549353654100:True:=⟨⟩
theorem tw222581928346876495:True:=⟨⟩
theorem tw12217414392946317694:True:=⟨⟩
theorem tw13290396134719557966:True:=⟨⟩
theorem tw10189033864390663457:True:=⟨⟩
theorem tw17307815235373297921:True:=⟨⟩
theorem tw15138787931238286840:True:=⟨⟩
theorem tw9384609303797726738:True:=⟨⟩
theorem tw8604257043265508281:True:=⟨⟩
theorem tw14919706941274836393:True:=⟨⟩
theorem tw3710899236078637123:True:=⟨⟩
theorem tw11414781468549529173:True:=⟨⟩
theorem tw4086363726205133295:True:=⟨⟩
theorem tw5172158033894542826:True:=⟨⟩
theorem tw11745529126279907247:True:=⟨⟩
theorem tw6825499980053702789:True:=⟨⟩
theorem tw11548625694933379407:True:=⟨⟩
theorem tw12533489583768084348:True:=⟨⟩
theorem tw16327672158970810664:True:=⟨⟩
theorem tw16437987333638243768:True:=⟨⟩
theorem tw18118960732438303261:True:=⟨⟩
theorem tw9067431137996129974:True:=⟨⟩
theorem tw11527875147610639215:True:=⟨⟩
theorem tw5413866021262110790:True:=⟨⟩
theorem tw14424504578027385112:True:=⟨⟩
theorem tw793130347288959169:True:=⟨⟩
theorem tw14339529208003565878:True:=⟨⟩
theorem tw12054055484724612415:True:=⟨⟩
theorem tw17809396691638616227:True:=⟨⟩
theorem tw7237551128066078379:True:=⟨⟩
theorem tw18388961925704979511:True:=⟨⟩
theorem tw15242628328667057500:True:=⟨⟩
theorem tw8422217079412130384:True:=⟨⟩
theorem tw10408277890615132480:True:=⟨⟩
theorem tw1086028094719868752:True:=⟨⟩
theorem tw3764671740020276169:True:=⟨⟩
theorem tw3628086784355740146:True:=⟨⟩
theorem tw15236108699327669378:True:=⟨⟩
theorem tw12845313675194734032:True:=⟨⟩
theorem tw12182866303423332723:True:=⟨⟩
theorem tw1861678185756540416:True:=⟨⟩
theorem tw3957629701008721424:True:=⟨⟩
theorem tw3195344898937274085:True:=⟨⟩
theorem tw8023496210655517471:True:=⟨⟩
theorem tw15580656591449547051:True:=⟨⟩
theorem tw229915819631643194:True:=⟨⟩
theorem tw2727684065509078607:True:=⟨⟩
theorem tw16859292252727642956:True:=⟨⟩
theorem tw16797841902574385279:True:=⟨⟩
theorem tw3822279972309481220:True:=⟨⟩
theorem tw12626630976004486890:True:=⟨⟩
theorem tw1798489981756054255:True:=⟨⟩
theorem tw5185328367744912481:True:=⟨⟩
theorem tw1429095196398108461:True:=⟨⟩
theorem tw15289047525537150635:True:=⟨⟩
theorem tw5651849674598910331:True:=⟨⟩
theorem tw12867728416774249363:True:=⟨⟩
theorem tw3578923988131111148:True:=⟨⟩
theorem tw3916154650032958175:True:=⟨⟩
theorem tw12904656035697260165:True:=⟨⟩
theorem tw16132416618578942699:True:=⟨⟩
theorem tw9232415169946334871:True:=⟨⟩
theorem tw3318668443297637561:True:=⟨⟩
theorem tw5745499909406077800:True:=⟨⟩
theorem tw2616584797838765094:True:=⟨⟩
theorem tw16159737532400126269:True:=⟨⟩
theorem tw17900667973644028587:True:=⟨⟩
theorem tw3959259936108219941:True:=⟨⟩
theorem tw7994811133207094303:True:=⟨⟩
theorem tw4027473891062512156:True:=⟨⟩
theorem tw17736150965050362191:True:=⟨⟩
theorem tw25446482529366263:True:=⟨⟩
theorem tw13597051612119993376:True:=⟨⟩
theorem tw16570655816154648405:True:=⟨⟩
theorem tw7033885769069035575:True:=⟨⟩
theorem tw163695159516085110:True:=⟨⟩
theorem tw8572766673584933412:True:=⟨⟩
theorem tw9809649108375484683:True:=⟨⟩
theorem tw13514882435798004652:True:=⟨⟩
theorem tw12783750587914696299:True:=⟨⟩
theorem tw11978600847418515111:True:=⟨⟩
theorem tw13753215715316257843:True:=⟨⟩
theorem tw2275575483964367031:True:=⟨⟩
theorem tw15454753715269785281:True:=⟨⟩
theorem tw3670247280269394975:True:=⟨⟩
theorem tw9552503058129630110:True:=⟨⟩
theorem tw15189194020820015670:True:=⟨⟩
theorem tw9272363280388292764:True:=⟨⟩
theorem tw15853475093317176409:True:=⟨⟩
theorem tw14354744343094910557:True:=⟨⟩
theorem tw2680209807505406750:True:=⟨⟩
theorem tw892925065853493074:True:=⟨⟩
theorem tw13284527500695403464:True:=⟨⟩
theorem tw12092635750267714463:True:=⟨⟩
theorem tw15758072252899994852:True:=⟨⟩
theorem tw131296072504910853:True:=⟨⟩
theorem tw14365043809502151569:True:=⟨⟩
theorem tw17232158506023650857:True:=⟨⟩
theorem tw12701355056226349933:True:=⟨⟩
theorem tw3343649271405819046:True:=⟨⟩
theorem tw2920665384278819756:True:=⟨⟩
theorem tw2299233272354304024:True:=⟨⟩
theorem tw16382564453632408998:True:=⟨⟩
theorem tw10808931265645727203:True:=⟨⟩
theorem tw5697853052144626633:True:=⟨⟩
theorem tw10773167370179511130:True:=⟨⟩
theorem tw14408285295731523403:True:=⟨⟩
theorem tw11219590272421074919:True:=⟨⟩
theorem tw13283709174802737673:True:=⟨⟩
theorem tw623393167126745931:True:=⟨⟩
theorem tw16322500210710719807:True:=⟨⟩
theorem tw1369928815381093443:True:=⟨⟩
theorem tw13479723464530289419:True:=⟨⟩
theorem tw9280695235260886411:True:=⟨⟩
theorem tw12870291100258304757:True:=⟨⟩
theorem tw852785141744434157:True:=⟨⟩
theorem tw16616180456404198723:True:=⟨⟩
theorem tw4076863867714203360:True:=⟨⟩
theorem tw11101490830900998463:True:=⟨⟩
theorem tw4760784216400123171:True:=⟨⟩
theorem tw5655332429124515980:True:=⟨⟩
theorem tw690706970909439662:True:=⟨⟩
theorem tw17285904917583305627:True:=⟨⟩
theorem tw9170526843170322994:True:=⟨⟩
theorem tw5266230898364520507:True:=⟨⟩
theorem tw5562141949237902475:True:=⟨⟩
theorem tw14726269932143946195:True:=⟨⟩
theorem tw15329939269000645752:True:=⟨⟩
theorem tw18021899943202104059:True:=⟨⟩
theorem tw8758104930039445516:True:=⟨⟩
theorem tw9813375126475462952:True:=⟨⟩
theorem tw1589190380818394744:True:=⟨⟩
theorem tw14113223640659395834:True:=⟨⟩
theorem tw13613410410397511270:True:=⟨⟩
theorem tw16036673980134197800:True:=⟨⟩
theorem tw4525628798758225912:True:=⟨⟩
theorem tw11361936957250251661:True:=⟨⟩
theorem tw13249235306303000136:True:=⟨⟩
theorem tw12428116396898843335:True:=⟨⟩
theorem tw13296098840183104006:True:=⟨⟩
theorem tw1937469806037057344:True:=⟨⟩
theorem tw4946957323633413106:True:=⟨⟩
theorem tw5159616916181145683:True:=⟨⟩
theorem tw7311971088483922093:True:=⟨⟩
theorem tw2351359136580117084:True:=⟨⟩
theorem tw9299718813006197732:True:=⟨⟩
theorem tw6793798084945537298:True:=⟨⟩
theorem tw39765813743702908:True:=⟨⟩
theorem tw12102388370634488220:True:=⟨⟩
theorem tw1839262402882918721:True:=⟨⟩
theorem tw678084613242916275:True:=⟨⟩
theorem tw7368937477807007525:True:=⟨⟩
theorem tw9363833089418762066:True:=⟨⟩
theorem tw10402844070324459780:True:=⟨⟩
theorem tw17297336889674355375:True:=⟨⟩
theorem tw6639259715123916314:True:=⟨⟩
theorem tw8454837203455393419:True:=⟨⟩
theorem tw17512176968507714544:True:=⟨⟩
theorem tw6598470774571000660:True:=⟨⟩
theorem tw12526683263387463141:True:=⟨⟩
theorem tw1315572522613727854:True:=⟨⟩
theorem tw12253995029390374576:True:=⟨⟩
theorem tw13342687158489663515:True:=⟨⟩
theorem tw651670462443325047:True:=⟨⟩
theorem tw17710913405590922262:True:=⟨⟩
theorem tw9749640348384189484:True:=⟨⟩
theorem tw7591402778804540754:True:=⟨⟩
end PySem.W.Fast
open PySem PySem.W PyProof.Rows in
set_option maxHeartbeats 0 in
open_top PySem.Challenge.hd for PySem.Challenge.rw_balancehall_k70_names_at_the_desk
set_option Elab.async false
set_option linter.all false
set_option maxRecDepth 100000
namespace L2
open PySem PySem.Spec PyProof.Rows
abbrev Key:=Sum Int Str
def qw:Key→Value→Bool
 | .inl k,v=>Value.isInt k v
 | .inr x,v=>Value.isStrOf x v
def Nt(w:World):Key→Int
 | .inl k=>hashInt k
 | .inr x=>hashStr w x
theorem cy:∀{k:Key} {v:Value},qw k v=true→(∃i t,k=Sum.inl i∧v=Value.int i t)∨(∃x t,k=Sum.inr x∧v=Value.str x t)
 | .inl i,v,h=>by
   obtain⟨t,e⟩:=Value.isInt_shape (k:=i) (v:=v) h
   exact .inl ⟨i,t,rfl,e⟩
 | .inr x,v,h=>by
   obtain⟨t,e⟩:=Value.isStrOf_shape (x:=x) (v:=v) h
   exact .inr ⟨x,t,rfl,e⟩
theorem Aw(i:Int)(t:Tok):qw (.inl i) (.int i t)=true:=by simp [qw,Value.isInt]
theorem Ax(x:Str)(t:Tok):qw (.inr x) (.str x t)=true:=by simp [qw,Value.isStrOf]
theorem JX(a b:Int):decide ((Sum.inl a:Key)=Sum.inl b)=(a==b):=by
 by_cases e:a=b
 ·subst e;simp
 ·have h:¬(Sum.inl a:Key)=Sum.inl b:=fun q=>e (Sum.inl.inj q)
  rw[decide_eq_false h]
  exact(beq_eq_false_iff_ne.mpr e).symm
theorem JY(a b:Str):decide ((Sum.inr a:Key)=Sum.inr b)=decide (a=b):=by
 by_cases e:a=b
 ·subst e;simp
 ·have h:¬(Sum.inr a:Key)=Sum.inr b:=fun q=>e (Sum.inr.inj q)
  rw[decide_eq_false h,decide_eq_false e]
theorem JZ(a:Int)(b:Str):decide ((Sum.inl a:Key)=Sum.inr b)=false:=decide_eq_false (fun q=>nomatch q)
theorem J0(a:Str)(b:Int):decide ((Sum.inr a:Key)=Sum.inl b)=false:=decide_eq_false (fun q=>nomatch q)
def b9(prog:Program)(w:World):PySem.KeyKind prog w Key where
 is:=qw
 hash:=Nt w
 inj:=fun v a b ha hb=>by
  rcases cy ha with ⟨i,t,rfl,rfl⟩ | ⟨x,t,rfl,rfl⟩
  ·rcases cy hb with ⟨j,u,rfl,e⟩ | ⟨y,u,rfl,e⟩
   ·injection e with e1 _;rw[e1]
   ·exact nomatch e
  ·rcases cy hb with ⟨j,u,rfl,e⟩ | ⟨y,u,rfl,e⟩
   ·exact nomatch e
   ·injection e with e1 _;rw[e1]
 byValue:=fun k v h=>by
  rcases cy h with ⟨i,t,rfl,rfl⟩ | ⟨x,t,rfl,rfl⟩<;>rfl
 pyHash:=fun hv h=>by
  rcases cy hv with ⟨i,t,rfl,rfl⟩ | ⟨x,t,rfl,rfl⟩
  ·exact wpAny_pyHash_int h
  ·exact wpAny_pyHash_str h
 eqBool:=fun hu hv h=>by
  rcases cy hu with ⟨i,t,rfl,rfl⟩ | ⟨x,t,rfl,rfl⟩
  ·rcases cy hv with ⟨j,u,rfl,rfl⟩ | ⟨y,u,rfl,rfl⟩
   ·rw[JX] at h;exact wpAny_eqBool_int h
   ·rw[JZ] at h;exact SeqAt.EqAt.int_str i t y u _ _ _ _ h
  ·rcases cy hv with ⟨j,u,rfl,rfl⟩ | ⟨y,u,rfl,rfl⟩
   ·rw[J0] at h;exact SeqAt.EqAt.str_int x t j u _ _ _ _ h
   ·rw[JY] at h;exact wpAny_eqBool_str h
 «strs» :=fun k x t v h=>by
  rcases cy h with ⟨i,u,rfl,e⟩ | ⟨y,u,rfl,e⟩
  ·exact nomatch e
  ·injection e with e1 _
   subst e1
   cases v<;>rfl
theorem uu(prog:Program)(w:World)(i:Int)(t:Tok):(b9 prog w).is (.inl i) (.int i t)=true:=Aw i t
theorem iU(prog:Program)(w:World)(x:Str)(t:Tok):(b9 prog w).is (.inr x) (.str x t)=true:=Ax x t
end L2
namespace L2
open PySem PySem.Spec PyProof.Rows
inductive V where
 |cJ|bl (b:Bool) |int (i:Int) |str (x:Str) |xa (b:Array UInt8) |Ij (b:UInt64) |ref (a:Addr) |ty (n:String)
 deriving DecidableEq
def RelV:V→Value→Prop
 | .cJ,u=>u=Value.none
 | .bl b,u=>u=Value.bool b
 | .int i,u=>∃t,u=Value.int i t
 | .str x,u=>∃t,u=Value.str x t
 | .xa b,u=>∃t,u=Value.bytes b t
 | .Ij b,u=>∃t,u=Value.float b t
 | .ref a,u=>u=Value.ref a
 | .ty n,u=>u=Value.type n
abbrev Vals:List V→List Value→Prop:=Paired RelV
theorem Vals.length{xs:List V}{us:List Value}(r:Vals xs us):xs.length=us.length:=Paired.length r
theorem Vals.get:∀{xs:List V} {us:List Value} {i:Nat} {x:V},Vals xs us→xs[i]? =some x→∃u,us[i]? =some u∧RelV x u
 |_,_,_,_, .nil,e=>by simp at e
 |_,_,0,_, .cons r _,e=>by simp at e;subst e;exact⟨_,rfl,r⟩
 |_,_,i+1,x, .cons _ t,e=>by
  obtain⟨u,h1,h2⟩:=Vals.get (i:=i) (x:=x) t (by simpa using e)
  exact⟨u,by simpa using h1,h2⟩
theorem Vals.set{x:V}{u:Value}(r:RelV x u):∀{xs:List V} {us:List Value} (i:Nat),Vals xs us→Vals (xs.set i x) (us.set i u)
 |_,_,_, .nil=> .nil
 |_,_,0, .cons _ t=> .cons r t
 |_,_,i+1, .cons q t=> .cons q (Vals.set r i t)
theorem Vals.append:∀{xs ys:List V} {us ws:List Value},Vals xs us→Vals ys ws→Vals (xs++ys) (us++ws)
 |_,_,_,_, .nil,s=>s
 |_,_,_,_, .cons r t,s=> .cons r (Vals.append t s)
theorem Vals.take:∀{xs:List V} {us:List Value} (n:Nat),Vals xs us→Vals (xs.take n) (us.take n)
 |_,_,0,_=> .nil
 |_,_,_+1, .nil=> .nil
 |_,_,n+1, .cons r t=> .cons r (Vals.take n t)
theorem Vals.drop:∀{xs:List V} {us:List Value} (n:Nat),Vals xs us→Vals (xs.drop n) (us.drop n)
 |_,_,0,r=>r
 |_,_,_+1, .nil=> .nil
 |_,_,n+1, .cons _ t=>Vals.drop n t
def fX:Option V→Option Value→Prop
 |some v,some u=>RelV v u
 |none,none=>True
 |_,_=>False
def KV{κ:Type}:List (κ×V)→List (κ×Value)→Prop:=Paired fun (p:κ×V) (q:κ×Value)=>p.1=q.1∧RelV p.2 q.2
def kV:Key→V
 | .inl i=> .int i
 | .inr x=> .str x
inductive HO where
 |lst (xs:List V)
 |tup (xs:List V)
 |dK (aL:List (Key×V)) |dT (aL:List (List Key×V))
 |set (S:Int→Bool) (n:Nat)
 |ins (C dx:Addr) (fs:List (Str×V))
 |own (x:Addr)
 |xd (fs:List (Str×V))
 |met (f x:Addr)
 |Ui (lo hi:Int)
 |xb (o:Obj) (u:HO)
 |J1 (ps:Array Value)
 |ext (φ:Heap→Prop)
abbrev Hp:=Addr→Option HO
def upd(H:Hp)(a:Addr)(o:HO):Hp:=fun b=>if b=a then some o else H b
theorem ai{H:Hp}{a:Addr}{o:HO}:upd H a o a=some o:=by unfold upd;rw[if_pos rfl]
theorem ah{H:Hp}{a b:Addr}{o:HO}(h:b≠a):upd H a o b=H b:=by unfold upd;rw[if_neg h]
theorem Fy{H:Hp}{a:Addr}{o u:HO}:upd (upd H a o) a u=upd H a u:=by
 funext b;unfold upd;split<;>rfl
theorem Ik{H:Hp}{a b:Addr}{o u:HO}(h:H a=some o)(h':H b=some u)(d:o≠u):a≠b:=by
 intro e;subst e;rw[h] at h';exact d (Option.some.inj h')
theorem af{H:Hp}{a b:Addr}{o:HO}(h:H a=some o)(h':H b=none):a≠b:=by
 intro e;subst e;rw[h] at h';cases h'
section
variable (P:Program)(w:World)
def cq(H:Hp)(h:Heap)(a:Addr):HO→Prop
 | .lst xs=>xs.length≤sizeLine∧∃(its:List Value) (n:Nat),Vals xs its∧h.get? a=some { cls:= .type "list",data:= .seq its.toArray n }
 | .tup xs=>xs.length≤sizeLine∧∃its:List Value,Vals xs its∧IsTup h a its.toArray
 | .dK aL=>aL.length≤sizeLine∧(a==sysModules)=false∧∃vs,KV aL vs∧h.DictOf (b9 P w) a vs
 | .dT aL=>aL.length≤sizeLine∧(a==sysModules)=false∧∃xs:List (List Key×Addr×Value),
   Paired (fun (p:List Key×V) (q:List Key×Addr×Value)=>p.1=q.1∧H q.2.1=some (.tup (p.1.map kV))∧RelV p.2 q.2.2) aL xs∧
   ∃o es ep,h.get? a=some o∧o.ExactDict∧o.data= .dict es ep∧es.toList=xs.map (entryOfKey (tupleKind (b9 P w)))∧(xs.map (·.1)).Nodup
 | .set S n=>h.SetOf (intKind P w) a S n
 | .ins C dx fs=>H dx=some (.own a)∧fs.length≤1000∧dx≠a∧h.get? a=some (PySem.W.instObj C dx)∧
   ∃mA,h.Ns1 dx mA∧(∀f,fX (fs.lookup f) (mA f))∧PySem.Within mA (fs.map (·.1))
 | .own _=>∃o,h.get? a=some o
 | .xd fs=>∃mA,h.Ns1 a mA∧∀f,fX (fs.lookup f) (mA f)
 | .Ui lo hi=>∃t u v,h.get? a=some { cls:= .type "range",data:= .fields #[.int lo t, .int hi u, .int 1 v] }
 | .xb o u=>h.get? a=some o∧cq H h a u
 | .J1 ps=>h.get? a=some { cls:= .none,data:= .fields ps }
 | .met f x=>h.get? a=some (PySem.W.methodObj (.ref f) (.ref x))
 | .ext φ=>φ h∧(∃o,h.get? a=some o)∧∀h1 h2:Heap,φ h1→(∀o,h1.get? a=some o→h2.get? a=some o)→φ h2
def iW(H:Hp)(h:Heap):Prop:=∀a o,H a=some o→cq P w H h a o
end
section
variable {P:Program}{w:World}{H H':Hp}{h h':Heap}{a:Addr}{o:HO}
theorem cq.lt(x:cq P w H h a o):a<h.objs.size:=by
 cases o with
 |lst xs=>obtain⟨_,_,_,_,e⟩:=x;exact Heap.lt_size e
 |tup xs=>obtain⟨_,_,_,p⟩:=x;exact p.lt
 |dK aL=>obtain⟨_,_,_,_,o,_,_,e,_⟩:=x;exact Heap.lt_size e
 |dT aL=>obtain⟨_,_,_,_,o,_,_,e,_⟩:=x;exact Heap.lt_size e
 |set S n=>obtain⟨o,_,_,_,e,_⟩:=x;exact Heap.lt_size e
 |ins C dx fs=>obtain⟨_,_,_,e,_⟩:=x;exact Heap.lt_size e
 |own y=>obtain⟨_,e⟩:=x;exact Heap.lt_size e
 |xd fs=>obtain⟨_,⟨_,_,_,e,_⟩,_⟩:=x;exact Heap.lt_size e
 |Ui lo hi=>obtain⟨_,_,_,e⟩:=x;exact Heap.lt_size e
 |xb ob u=>obtain⟨e,_⟩:=x;exact Heap.lt_size e
 |J1 ps=>exact Heap.lt_size (show h.get? a=some _ from x)
 |met f y=>exact Heap.lt_size (show h.get? a=some _ from x)
 |ext φ=>obtain⟨_,⟨_,e⟩,_⟩:=x;exact Heap.lt_size e
theorem Paired.J9{α β:Type}{F G:α→β→Prop}:∀{l₁:List α} {l₂:List β},Paired F l₁ l₂→(∀a b,F a b→G a b)→Paired G l₁ l₂
 |_,_, .nil,_=> .nil
 |_,_, .cons r t,f=> .cons (f _ _ r) (Paired.J9 t f)
theorem cq.qc(x:cq P w H h a o)(k:∀b u,(b=a∨H b=some (.own a))→h.get? b=some u→h'.get? b=some u)
  (ho:∀b,H b=some (.own a)→H' b=some (.own a)) (ht:∀b xs,H b=some (.tup xs)→H' b=some (.tup xs)):cq P w H' h' a o:=by
 induction o with
 |lst xs=>obtain⟨z,its,n,r,e⟩:=x;exact⟨z,its,n,r,k _ _ (.inl rfl) e⟩
 |tup xs=>obtain⟨z,its,r,ob,e,c⟩:=x;exact⟨z,its,r,ob,k _ _ (.inl rfl) e,c⟩
 |dK aL=>obtain⟨z,y,vs,r,ob,es,ep,e,c⟩:=x;exact⟨z,y,vs,r,ob,es,ep,k _ _ (.inl rfl) e,c⟩
 |dT aL=>
  obtain⟨z,y,xs,r,ob,es,ep,e,c⟩:=x
  exact⟨z,y,xs,Paired.J9 r fun p q z=>⟨z.1,ht _ _ z.2.1,z.2.2⟩,ob,es,ep,k _ _ (.inl rfl) e,c⟩
 |set S n=>obtain⟨ob,es,ep,t,e,c⟩:=x;exact⟨ob,es,ep,t,k _ _ (.inl rfl) e,c⟩
 |ins C dx fs=>
  obtain⟨d,z,ne,e,mA,⟨od,es,ep,e2,c⟩,r⟩:=x
  exact⟨ho _ d,z,ne,k _ _ (.inl rfl) e,mA,⟨od,es,ep,k _ _ (.inr d) e2,c⟩,r⟩
 |own y=>obtain⟨ob,e⟩:=x;exact⟨ob,k _ _ (.inl rfl) e⟩
 |xd fs=>obtain⟨mA,⟨od,es,ep,e,c⟩,r⟩:=x;exact⟨mA,⟨od,es,ep,k _ _ (.inl rfl) e,c⟩,r⟩
 |Ui lo hi=>obtain⟨t,u,v,e⟩:=x;exact⟨t,u,v,k _ _ (.inl rfl) e⟩
 |xb ob u ih=>obtain⟨e,q⟩:=x;exact⟨k _ _ (.inl rfl) e,ih q⟩
 |J1 ps=>
  have e:h.get? a=some { cls:= .none,data:= .fields ps }:=x
  show h'.get? a=some { cls:= .none,data:= .fields ps }
  exact k a _ (.inl rfl) e
 |met f y=>
  have e:h.get? a=some (PySem.W.methodObj (.ref f) (.ref y)):=x
  show h'.get? a=some (PySem.W.methodObj (.ref f) (.ref y))
  exact k a _ (.inl rfl) e
 |ext φ=>obtain⟨p,⟨o,e⟩,st⟩:=x;exact⟨st _ _ p fun o q=>k _ _ (.inl rfl) q,⟨o,k _ _ (.inl rfl) e⟩,st⟩
theorem iW.lt(x:iW P w H h)(e:H a=some o):a<h.objs.size:=(x a o e).lt
theorem iW.fresh(x:iW P w H h)(e:h.objs.size≤a):H a=none:=by
 cases q:H a with
 |none=>rfl
 |some u=>exact absurd (Nat.lt_of_lt_of_le (x.lt q) e) (Nat.lt_irrefl _)
theorem iW.kept(x:iW P w H h)(k:∀b u,h.get? b=some u→h'.get? b=some u):iW P w H h':=fun a o e=>
 (x a o e).qc (fun b u _ q=>k b u q) (fun _ q=>q) fun _ _ q=>q
theorem iW.laid(x:iW P w H h)(k:∀b u,h.get? b=some u→h'.get? b=some u)(hp:h.objs.size≤a)(new:cq P w (upd H a o) h' a o):iW P w (upd H a o) h':=fun b u e=>by
 have hn:=x.fresh hp
 by_cases hb:b=a
 ·subst hb;rw[ai] at e;cases e;exact new
 ·rw[ah hb] at e
  exact(x b u e).qc (fun c v _ q=>k c v q) (fun c q=>by rw[ah (af q hn)];exact q) fun c xs q=>by rw[ah (af q hn)];exact q
end
def Rd(H:Hp)(a:Addr)(u:HO):Prop:=H a=some u∨∃o,H a=some (.xb o u)
theorem Rd.ok{P:Program}{w:World}{H:Hp}{h:Heap}{a:Addr}{u:HO}(r:Rd H a u)(x:iW P w H h):cq P w H h a u:=by
 rcases r with r| ⟨o,r⟩
 ·exact x a u r
 ·obtain⟨_,q⟩:=x a _ r
  exact q
def Nu:Option HO→Prop
 |some (.lst _)=>True
 |some (.dK _)=>True
 |some (.dT _)=>True
 |some (.set _ _)=>True
 |some (.ins _ _ _)=>True
 |some (.ext _)=>True
 |_=>False
section
variable {P:Program}{w:World}{H:Hp}{h h':Heap}{x e:Addr}{o':HO}
theorem iW.write(ok:iW P w H h)(mu:Nu (H x))(he:e=x∨H e=some (.own x))(k:∀b u,b≠e→h.get? b=some u→h'.get? b=some u)(MY:∃u,h'.get? e=some u)
  (new:cq P w (upd H x o') h' x o'):iW P w (upd H x o') h':=fun b u q=>by
 have Nv:∀c y,H c=some (.own y)→c≠x:=fun c y r z=>by subst z;rw[r] at mu;exact mu
 have Uj:∀c xs,H c=some (.tup xs)→c≠x:=fun c xs r z=>by subst z;rw[r] at mu;exact mu
 by_cases hb:b=x
 ·subst hb;rw[ai] at q;cases q;exact new
 ·rw[ah hb] at q
  by_cases Ka:b=e
  ·have q':H b=some (.own x):=by
    rcases he with z|z
    ·exact absurd (Ka.trans z) hb
    ·rw[Ka];exact z
   rw[q] at q';cases q'
   obtain⟨v,hv⟩:=MY
   exact⟨v,by rw[Ka];exact hv⟩
  ·refine(ok b u q).qc (fun c v hc r=>k c v ?_ r) (fun c r=>by rw[ah (Nv c b r)];exact r) fun c xs r=>by rw[ah (Uj c xs r)];exact r
   rcases hc with rfl|hc
   ·exact Ka
   ·rintro rfl
    rcases he with z|z
    ·exact Nv c b hc z
    ·rw[hc] at z;cases z;exact hb rfl
end
structure Un(fs ex:List Addr)(H H':Hp)(h h':Heap):Prop where
 keep:∀b o,h.get? b=some o→H b=none→b∉fs→b∉ex→h'.get? b=some o
 slot:∀b o,h.get? b=some o→H b=none→b∈fs→b∉ex→∃sl,h'.get? b=some { o with slots:=sl }
 free:∀b o,h.get? b=some o→H b=none→b∉ex→H' b=none
 there:∀b o,h.get? b=some o→b∉ex→∃o',h'.get? b=some o'
 qd:∀b xs,H b=some (.tup xs)→H' b=some (.tup xs)
 oj:∀b o u,H b=some (.xb o u)→H' b=some (.xb o u)
 qe:∀b ps,H b=some (.J1 ps)→∃more,H' b=some (.J1 (ps++more))
section
variable {fs Fz ex ex':List Addr}{H H1 H2:Hp}{h h1 h2 h':Heap}{a x e:Addr}{o:HO}
theorem Un.any(u:Un fs ex H H1 h h1){b:Addr}{ob:Obj}(q:h.get? b=some ob)(n:H b=none)(hx:b∉ex):∃sl,h1.get? b=some { ob with slots:=sl }:=by
 by_cases hb:b∈fs
 ·exact u.slot b ob q n hb hx
 ·exact⟨ob.slots,u.keep b ob q n hb hx⟩
theorem Un.kept(k:∀b u,h.get? b=some u→h'.get? b=some u):Un fs ex H H h h':=
 ⟨fun b ob q _ _ _=>k b ob q,fun b ob q _ _ _=>⟨ob.slots,k b ob q⟩,fun _ _ _ n _=>n,fun b ob q _=>⟨ob,k b ob q⟩,fun _ _ q=>q,fun _ _ _ q=>q,fun _ ps q=>⟨#[],by rw[q];simp⟩⟩
theorem Un.refl:Un fs ex H H h h:=Un.kept fun _ _ q=>q
theorem Un.laid(k:∀b u,h.get? b=some u→h'.get? b=some u)(hp:h.objs.size≤a)(hn:H a=none):Un fs ex H (upd H a o) h h' where
 keep:=fun b u q _ _ _=>k b u q
 slot:=fun b u q _ _ _=>⟨u.slots,k b u q⟩
 free:=fun b u q n _=>by rw[ah (Nat.ne_of_lt (Nat.lt_of_lt_of_le (Heap.lt_size q) hp))];exact n
 there:=fun b u q _=>⟨u,k b u q⟩
 qd:=fun b xs q=>by rw[ah (af q hn)];exact q
 oj:=fun b u xs q=>by rw[ah (af q hn)];exact q
 qe:=fun b ps q=>⟨#[],by rw[ah (af q hn),q];simp⟩
theorem Un.write(mu:Nu (H x))(he:e=x∨H e=some (.own x))(k:∀b u,b≠e→h.get? b=some u→h'.get? b=some u)(MY:∃u,h'.get? e=some u):Un fs ex H (upd H x o) h h':=by
 have hx:∀b,H b=none→b≠x:=fun b n z=>by subst z;rw[n] at mu;exact mu
 have hb:∀b,H b=none→b≠e:=fun b n z=>by
  subst z
  rcases he with r|r
  ·exact hx b n r
  ·rw[n] at r;cases r
 have hm:∀b u,H b=some u→¬Nu (some u)→b≠x:=fun b u q nm z=>by subst z;rw[q] at mu;exact nm mu
 refine⟨fun b u q n _ _=>k b u (hb b n) q,fun b u q n _ _=>⟨u.slots,k b u (hb b n) q⟩,fun b u q n _=>by rw[ah (hx b n)];exact n,fun b u q _=>?_,
  fun b xs q=>by rw[ah (hm b _ q fun z=>z)];exact q,fun b u xs q=>by rw[ah (hm b _ q fun z=>z)];exact q,fun b ps q=>⟨#[],by rw[ah (hm b _ q fun z=>z),q];simp⟩⟩
 by_cases Ka:b=e
 ·subst Ka;exact MY
 ·exact⟨u,k b u Ka q⟩
end
def Tc(h:Heap)(H:Hp):List Addr:=(List.range h.objs.size).filter fun a=>(H a).isSome
def rZ(h:Heap)(H:Hp):Heap:=PySem.W.hideAll h (Tc h H)
theorem Ay(h:Heap)(H:Hp):(rZ h H).objs.size=h.objs.size:=PySem.W.hideAll_size _ _
theorem B9{h:Heap}{H:Hp}{b:Addr}{o:Obj}(e:h.get? b=some o)(n:H b=none):(rZ h H).get? b=some o:=
 PySem.W.hideAll_get _ e fun hm=>by
  have q:(H b).isSome=true:=(List.mem_filter.mp hm).2
  rw[n] at q;simp at q
theorem FA{h:Heap}{H:Hp}{b:Addr}{o:Obj}(e:(rZ h H).get? b=some o):h.get? b=some o∧H b=none:=by
 have e':h.get? b=some o:=PySem.W.of_hideAll (Tc h H) e
 refine⟨e',?_⟩
 cases q:H b with
 |none=>rfl
 |some x=>
  have hm:b∈Tc h H:=List.mem_filter.mpr ⟨List.mem_range.mpr (Heap.lt_size e'),by simp [q]⟩
  have z:(rZ h H).get? b=none:=PySem.W.hideAll_none (Tc h H) hm
  rw[z] at e;cases e
def FC(g h:Heap)(L:Addr):List (Addr×Obj):=(List.range h.objs.size).filterMap fun a=>if a=L∨(g.get? a).isSome=true then none else (h.get? a).map fun o=>(a,o)
def rest(g h:Heap)(L d:Addr):List (Addr×Obj):=(FC g h L).filter fun p=>decide (p.1≠d)
end L2
namespace L2
open PySem PySem.Spec PyProof.Rows
structure Mod(K:PySem.W.Frag)(mg:Str→Option Value)(base:Heap):Prop where
 B':K.In base
 glob:base.Ns mainGlobals mg
 blt:∃mb,base.Ns builtinsNs mb∧∀x:Str,x≠"__name__" →mb x=bootBuiltins x
 nolimit:base.NoLimit
structure Cx where
 prog:Program
 w:World
 K:PySem.W.Frag
 mg:Str→Option Value
 base:Heap
 A:Around
 N:List Str
 s₀:Shared
 H₀:Hp
 env:Env
 outer:List Env
 stack:List Env
 ex:List Addr
 fn:Str→Bool
 calm:Bool
 pn:List (Addr×Obj)
 xe:Value→Shared→Prop
def pY(l:List Env):List Addr:=l.filterMap (·.frame)
abbrev Cx.fs(X:Cx):List Addr:=pY X.outer
def Uk(sc:Scope)(x:Str):Prop:=sc.names.lookup x=some .local∨sc.names.lookup x=some .cell∨sc.names.lookup x=some .free
def Loc(sc:Scope)(x:Str):Prop:=sc.names.lookup x=some .local∨sc.names.lookup x=some .cell
def Look(env:Env)(h:Heap)(m:Str→Option Value)(x:Str)(u:Value):Prop:=
 (env.kindOf x=some .local∧m x=some u)∨((env.kindOf x=some .cell∨env.kindOf x=some .free)∧∃c,env.cells.lookup x=some c∧h.IsCell c (some u))
structure Cx.Ok(X:Cx):Prop where
 mod:Mod X.K X.mg X.base
 kind:X.env.scope.kind= .function
 glob:X.env.globals=mainGlobals
 blt:X.env.builtins=builtinsNs
 above:X.s₀.heap.objs.size≤X.env.locals
 inj:∀x y c,X.env.cells.lookup x=some c→X.env.cells.lookup y=some c→x=y
 has:∀x,(X.env.kindOf x=some .cell∨X.env.kindOf x=some .free)→∃c,X.env.cells.lookup x=some c
 FD:∀x c,X.fn x=true→X.env.cells.lookup x=some c→X.s₀.heap.objs.size≤c
 hd:X.calm=true→X.A.handled=none
 frames:X.A.frames=some X.stack
 Il:X.stack=X.outer∨(X.stack=X.env::X.outer∧X.env.frame=some X.env.locals)
 MZ:∀b∈X.ex,b≠X.env.locals∧∀x c,X.env.cells.lookup x=some c→c≠b
 bs:∀b o,X.base.get? b=some o→X.s₀.heap.get? b=some o∧X.H₀ b=none
 yL:X.base.objs.size≤X.s₀.heap.objs.size
 r8:∀b o,X.base.get? b=some o→b∉X.ex
 si:∀b∈X.ex,b∉X.fs
 iH:X.s₀.heap.FunFrames X.base X.outer
 B0:∀b∈X.fs,X.H₀ b=none
structure Inv(X:Cx)(pins:List (Addr×Obj))(σ:List (Option V))(H:Hp)(s:Shared):Prop where
 ok:X.Ok
 os:s.os=X.s₀.os
 bare:AllBare s.gens
 base:Un X.fs X.ex X.H₀ H X.s₀.heap s.heap
 loc:∃m,s.heap.Ns X.env.locals m∧∀(i:Nat) (x:Str) (v:V),X.N[i]? =some x→σ[i]? =some (some v)→Uk X.env.scope x→∃u,RelV v u∧Look X.env s.heap m x u
 cell:∀x c,X.env.cells.lookup x=some c→∃v,s.heap.IsCell c v
 free:H X.env.locals=none
 fH:∀x c,X.env.cells.lookup x=some c→H c=none
 pin:∀p∈X.pn++pins,s.heap.get? p.1=some p.2∧H p.1=none∧p.1≠X.env.locals∧p.1∉X.fs∧∀v,p.2.data≠ .cell v
 bF:iW X.prog X.w H s.heap
 len:σ.length=X.N.length
section
variable {X:Cx}{pins:List (Addr×Obj)}{σ:List (Option V)}{H H':Hp}{s:Shared}{h':Heap}
theorem Cx.Ok.Ul(ok:X.Ok){b:Addr}{o:Obj}(e:X.base.get? b=some o):b∉X.fs:=fun hb=>by
 have:=(ok.iH.mem hb).1
 rw[e] at this;cases this
theorem Inv.bs(I:Inv X pins σ H s):∀b o,X.base.get? b=some o→s.heap.get? b=some o∧H b=none:=fun b o e=>
 ⟨I.base.keep b o (I.ok.bs b o e).1 (I.ok.bs b o e).2 (I.ok.Ul e) (I.ok.r8 b o e),I.base.free b o (I.ok.bs b o e).1 (I.ok.bs b o e).2 (I.ok.r8 b o e)⟩
theorem Inv.bk(I:Inv X pins σ H s):∀b o,X.base.get? b=some o→s.heap.get? b=some o:=fun b o e=>(I.bs b o e).1
theorem Inv.mod(I:Inv X pins σ H s):Mod X.K X.mg X.base:=I.ok.mod
theorem Inv.fb(I:Inv X pins σ H s):X.K.In s.heap:=I.ok.mod.B'.keeps I.bk
theorem Inv.lt(I:Inv X pins σ H s):X.env.locals<s.heap.objs.size:=let ⟨_,hn,_⟩:=I.loc;hn.lt
theorem Inv.sz(I:Inv X pins σ H s):X.s₀.heap.objs.size≤s.heap.objs.size:=Nat.le_trans I.ok.above (Nat.le_of_lt I.lt)
theorem Inv.Um(I:Inv X pins σ H s){a:Addr}(h:s.heap.objs.size≤a):a∉X.fs:=fun hb=>by
 obtain⟨_,o,ho,_⟩:=I.ok.iH.mem hb
 exact absurd (Nat.lt_of_lt_of_le (Heap.lt_size ho) (Nat.le_trans I.sz h)) (Nat.lt_irrefl _)
theorem Inv.FE(I:Inv X pins σ H s):∀x c,X.env.cells.lookup x=some c→c≠X.env.locals:=fun x c e z=>by
 obtain⟨v,o,ho,hd⟩:=I.cell x c e
 obtain⟨m,⟨o',es,ep,FF,Im,_⟩,_⟩:=I.loc
 rw[z,FF] at ho;cases ho;rw[Im] at hd;cases hd
theorem Inv.iH(I:Inv X pins σ H s):s.heap.FunFrames X.base X.outer:=by
 have all:∀(l:List Env),(∀b∈pY l,b∈X.fs)→X.s₀.heap.FunFrames X.base l→s.heap.FunFrames X.base l:=by
  intro l
  induction l with
  |nil=>intro _ _;trivial
  |cons env r ih=>
   intro hs hl
   obtain⟨hk,⟨L,o,hf,hn,ho,hd⟩,hr⟩:=hl
   have hL:L∈X.fs:=hs L (by unfold pY;rw[List.filterMap_cons,hf];exact List.mem_cons_self)
   obtain⟨sl,e⟩:=I.base.slot L o ho (I.ok.B0 L hL) hL fun z=>I.ok.si L z hL
   exact⟨hk,⟨L,_,hf,hn,e,hd⟩,ih (fun b hb=>hs b (by unfold pY;rw[List.filterMap_cons,hf];exact List.mem_cons_of_mem _ hb)) hr⟩
 exact all X.outer (fun _ hb=>hb) I.ok.iH
theorem Inv.stack(I:Inv X pins σ H s):s.heap.FunFrames X.base X.stack:=by
 rcases I.ok.Il with e| ⟨e,hf⟩
 ·rw[e];exact I.iH
 ·rw[e]
  obtain⟨m,hn,_⟩:=I.loc
  refine .cons (by rw[I.ok.kind];decide) hf hn ?_ I.iH
  exact Heap.get?_none_of_le (Nat.le_trans I.ok.yL I.ok.above)
theorem Inv.sj(I:Inv X pins σ H s):∀b∈pY X.stack,b∈X.env.locals::X.fs:=fun b hb=>by
 rcases I.ok.Il with e| ⟨e,hf⟩
 ·rw[e] at hb;exact List.mem_cons_of_mem _ hb
 ·rw[e] at hb
  unfold pY at hb
  rw[List.filterMap_cons,hf] at hb
  exact hb
theorem Inv.sr(I:Inv X pins σ H s):∀b∈pY X.stack,H b=none:=fun b hb=>by
 rcases List.mem_cons.mp (I.sj b hb) with e|hb
 ·rw[e];exact I.free
 ·obtain⟨_,o,ho,_⟩:=I.ok.iH.mem hb
  exact I.base.free b o ho (I.ok.B0 b hb) fun z=>I.ok.si b z hb
theorem Inv.step{g':Array GenState}{t':Nat}{d':Drawn}{ch:List Addr}(I:Inv X pins σ H s)
  (B1:∀b∈ch,(b∈X.ex∨X.s₀.heap.objs.size≤b)∧b≠X.env.locals∧(∀x c,X.env.cells.lookup x=some c→c≠b)∧∀p∈X.pn++pins,p.1≠b)
  (keep:∀b o,b≠X.env.locals→b∉X.fs→b∉ch→s.heap.get? b=some o→H b=none→h'.get? b=some o)
  (slot:∀b o,b≠X.env.locals→b∈X.fs→b∉ch→s.heap.get? b=some o→H b=none→∃sl,h'.get? b=some { o with slots:=sl }) (free:∀b o,b∉ch→s.heap.get? b=some o→H b=none→H' b=none)
  (there:∀b o,b∉ch→s.heap.get? b=some o→∃o',h'.get? b=some o')
  (qd:∀b xs,H b=some (.tup xs)→H' b=some (.tup xs)) (oj:∀b o u,H b=some (.xb o u)→H' b=some (.xb o u)) (qe:∀b ps,H b=some (.J1 ps)→∃more,H' b=some (.J1 (ps++more)))
  (ns:∀m,s.heap.Ns X.env.locals m→h'.Ns X.env.locals m) (bF:iW X.prog X.w H' h') (hg:AllBare g'):
  Inv X pins σ H' { s with heap:=h',gens:=g',drawn:=d',toks:=t' }:=by
 have neL:∀b o,X.s₀.heap.get? b=some o→b≠X.env.locals:=fun b o e=>Nat.ne_of_lt (Nat.lt_of_lt_of_le (Heap.lt_size e) I.ok.above)
 have Td:∀b o,X.s₀.heap.get? b=some o→b∉X.ex→b∉ch:=fun b o e hx hb=>by
  rcases (B1 b hb).1 with z|z
  ·exact hx z
  ·exact absurd (Nat.lt_of_lt_of_le (Heap.lt_size e) z) (Nat.lt_irrefl _)
 have cellK:∀x c,X.env.cells.lookup x=some c→∀v,s.heap.IsCell c v→h'.IsCell c v:=fun x c e v ⟨o,ho,hd⟩=>by
  have Ca:c∉ch:=fun z=>(B1 c z).2.2.1 x c e rfl
  by_cases hc:c∈X.fs
  ·obtain⟨sl,q⟩:=slot c o (I.FE x c e) hc Ca ho (I.fH x c e)
   exact⟨_,q,hd⟩
  ·exact⟨o,keep c o (I.FE x c e) hc Ca ho (I.fH x c e),hd⟩
 refine⟨I.ok,I.os,hg,⟨fun b o e n hb hx=>?_,fun b o e n hb hx=>?_,fun b o e n hx=>?_,fun b o e hx=>?_,fun b xs e=>qd b xs (I.base.qd b xs e),fun b o xs e=>oj b o xs (I.base.oj b o xs e),fun b ps e=>?_⟩,?_,fun x c e=>?_,?_,fun x c e=>?_,fun p hp=>?_,bF,I.len⟩
 ·exact keep b o (neL b o e) hb (Td b o e hx) (I.base.keep b o e n hb hx) (I.base.free b o e n hx)
 ·obtain⟨sl,e1⟩:=I.base.slot b o e n hb hx
  obtain⟨Kb,e2⟩:=slot b _ (neL b o e) hb (Td b o e hx) e1 (I.base.free b o e n hx)
  exact⟨Kb,e2⟩
 ·obtain⟨o',e1⟩:=I.base.there b o e hx
  exact free b o' (Td b o e hx) e1 (I.base.free b o e n hx)
 ·obtain⟨o',e1⟩:=I.base.there b o e hx
  exact there b o' (Td b o e hx) e1
 ·obtain⟨m1,e1⟩:=I.base.qe b ps e
  obtain⟨m2,e2⟩:=qe b _ e1
  exact⟨m1++m2,by rw[e2,Array.append_assoc]⟩
 ·obtain⟨m,hn,hl⟩:=I.loc
  refine⟨m,ns m hn,fun i x v e1 e2 e3=>?_⟩
  obtain⟨u,r,l⟩:=hl i x v e1 e2 e3
  refine⟨u,r,?_⟩
  rcases l with l| ⟨k,c,e,z⟩
  ·exact .inl l
  ·exact .inr ⟨k,c,e,cellK x c e _ z⟩
 ·obtain⟨v,z⟩:=I.cell x c e
  exact⟨v,cellK x c e v z⟩
 ·obtain⟨m,⟨o,_,_,ho,_⟩,_⟩:=I.loc
  exact free _ o (fun z=>(B1 _ z).2.1 rfl) ho I.free
 ·obtain⟨v,o,ho,hd⟩:=I.cell x c e
  exact free c o (fun z=>(B1 c z).2.2.1 x c e rfl) ho (I.fH x c e)
 ·obtain⟨e,n,ne,nf,d⟩:=I.pin p hp
  have Ca:p.1∉ch:=fun z=>(B1 p.1 z).2.2.2 p hp rfl
  exact⟨keep p.1 p.2 ne nf Ca e n,free p.1 p.2 Ca e n,ne,nf,d⟩
theorem Inv.un{t':Nat}(I:Inv X pins σ H s)(u:Un X.fs [] H H' s.heap h')(bF:iW X.prog X.w H' h'):Inv X pins σ H' { s with heap:=h',toks:=t' }:=by
 obtain⟨m,⟨o,es,ep,ho,r⟩,_⟩:=id I.loc
 obtain⟨sl,hL⟩:=u.any ho I.free (by simp)
 exact I.step (g':=s.gens) (d':=s.drawn) (ch:=[]) (fun _ z=>nomatch z) (fun b o _ hb _ e n=>u.keep b o e n hb (by simp)) (fun b o _ hb _ e n=>u.slot b o e n hb (by simp)) (fun b o _ e n=>u.free b o e n (by simp)) (fun b o _ e=>u.there b o e (by simp)) u.qd u.oj u.qe (fun m' hm=>by
  obtain⟨o',Uo,Up,FF,r'⟩:=hm
  rw[ho] at FF;cases FF
  exact⟨_,Uo,Up,hL,r'⟩) bF I.bare
theorem Inv.call{g':Array GenState}{t':Nat}{d':Drawn}{ch:List Addr}(I:Inv X pins σ H s)(u:Un (pY X.stack) ch H H' s.heap h')(bF:iW X.prog X.w H' h')(hg:AllBare g')
  (B1:∀b∈ch,(b∈X.ex∨X.s₀.heap.objs.size≤b)∧b≠X.env.locals∧(∀x c,X.env.cells.lookup x=some c→c≠b)∧∀p∈X.pn++pins,p.1≠b):
  Inv X pins σ H' { s with heap:=h',gens:=g',drawn:=d',toks:=t' }:=by
 obtain⟨m,⟨o,es,ep,ho,r⟩,_⟩:=id I.loc
 obtain⟨sl,hL⟩:=u.any ho I.free fun z=>(B1 _ z).2.1 rfl
 exact I.step (ch:=ch) B1 (fun b o hL hb hc e n=>u.keep b o e n (fun z=>(List.mem_cons.mp (I.sj b z)).elim hL hb) hc) (fun b o _ _ hc e n=>u.any e n hc) (fun b o hc e n=>u.free b o e n hc) (fun b o hc e=>u.there b o e hc) u.qd u.oj u.qe (fun m' hm=>by
  obtain⟨o',Uo,Up,FF,r'⟩:=hm
  rw[ho] at FF;cases FF
  exact⟨_,Uo,Up,hL,r'⟩) bF hg
theorem Inv.turned{t':Nat}{it:Addr}(I:Inv X pins σ H s)(k:∀b o,b≠it→s.heap.get? b=some o→h'.get? b=some o)(hn:H it=none)(hL:it≠X.env.locals)
  (h1:it∈X.ex∨X.s₀.heap.objs.size≤it) (h2:∀x c,X.env.cells.lookup x=some c→c≠it) (h3:∀p∈X.pn++pins,p.1≠it):Inv X pins σ H { s with heap:=h',toks:=t' }:=by
 have nit:∀b u,H b=some u→b≠it:=fun b u e z=>by rw[z,hn] at e;cases e
 refine I.step (g':=s.gens) (d':=s.drawn) (ch:=[it]) (fun b hb=>?_) (fun b o _ _ hc e _=>k b o (fun z=>hc (by simp [z])) e) (fun b o _ _ hc e _=>⟨o.slots,k b o (fun z=>hc (by simp [z])) e⟩) (fun _ _ _ _ n=>n)
  (fun b o hc e=>⟨o,k b o (fun z=>hc (by simp [z])) e⟩) (fun _ _ e=>e) (fun _ _ _ e=>e) (fun b ps e=>⟨#[],by rw[e];simp⟩) (fun m hm=>?_) (fun b u e=>?_) I.bare
 ·have e:b=it:=by simpa using hb
  subst e
  exact⟨h1,hL,h2,h3⟩
 ·obtain⟨o,es,ep,ho,r⟩:=hm
  exact⟨o,es,ep,k _ o (Ne.symm hL) ho,r⟩
 ·refine(I.bF b u e).qc (fun c v hc q=>k c v ?_ q) (fun _ q=>q) fun _ _ q=>q
  rcases hc with z|z
  ·rw[z];exact nit b u e
  ·exact nit c _ z
theorem Inv.tok(I:Inv X pins σ H s)(t:Nat):Inv X pins σ H { s with toks:=t }:=I.un (h':=s.heap) (t':=t) Un.refl I.bF
theorem Inv.kept{t':Nat}(I:Inv X pins σ H s)(k:∀b u,s.heap.get? b=some u→h'.get? b=some u):Inv X pins σ H { s with heap:=h',toks:=t' }:=I.un (Un.kept k) (I.bF.kept k)
theorem Inv.laid{a:Addr}{o:HO}{t':Nat}(I:Inv X pins σ H s)(k:∀b u,s.heap.get? b=some u→h'.get? b=some u)(hp:s.heap.objs.size≤a)(new:cq X.prog X.w (upd H a o) h' a o):
  Inv X pins σ (upd H a o) { s with heap:=h',toks:=t' }:=I.un (Un.laid k hp (I.bF.fresh hp)) (I.bF.laid k hp new)
theorem Inv.write{x e:Addr}{o:HO}{t':Nat}(I:Inv X pins σ H s)(mu:Nu (H x))(he:e=x∨H e=some (.own x))(k:∀b u,b≠e→s.heap.get? b=some u→h'.get? b=some u)(MY:∃u,h'.get? e=some u)
  (new:cq X.prog X.w (upd H x o) h' x o):Inv X pins σ (upd H x o) { s with heap:=h',toks:=t' }:=I.un (Un.write mu he k MY) (I.bF.write mu he k MY new)
theorem Inv.nu{pins':List (Addr×Obj)}(I:Inv X pins σ H s)(h:∀p∈pins',s.heap.get? p.1=some p.2∧H p.1=none∧p.1≠X.env.locals∧p.1∉X.fs∧∀v,p.2.data≠ .cell v):Inv X pins' σ H s:=
 ⟨I.ok,I.os,I.bare,I.base,I.loc,I.cell,I.free,I.fH,fun p hp=>(List.mem_append.mp hp).elim (fun z=>I.pin p (List.mem_append_left _ z)) (h p),I.bF,I.len⟩
theorem om{N:List Str}(hN:N.Nodup){i j:Nat}{x:Str}(a:N[i]? =some x)(b:N[j]? =some x):i=j:=by
 obtain⟨h1,e1⟩:=List.getElem?_eq_some_iff.mp a
 obtain⟨h2,e2⟩:=List.getElem?_eq_some_iff.mp b
 exact(List.getElem_inj hN).mp (e1.trans e2.symm)
theorem qx{M:Model}{A:Around}{E:Value→Shared→Prop}{i:Nat}{x:Str}{v:V}{u:Value}{Q:Unit→Shared→Prop}(I:Inv X pins σ H s)(hN:X.N.Nodup)(hi:X.N[i]? =some x)(hx:Loc X.env.scope x)(r:RelV v u)
  (h:∀s',Inv X pins (σ.set i (some v)) H s'→(∃a,Heap.SameBut a s.heap s'.heap∧(a=X.env.locals∨X.env.cells.lookup x=some a))→Q () s') (hf:X.fn x=true∨X.env.scope.names.lookup x=some .local:=by first|exact .inl rfl|exact .inr rfl|assumption):wpAny M A (storeName X.env x u) Q E s:=by
 obtain⟨m,hn,hl⟩:=id I.loc
 have Kc:(X.env.scope.kind== .class||(X.env.scope.kind== .module&&X.env.locals != X.env.globals))=false:=by rw[I.ok.kind];rfl
 have hiσ:i<σ.length:=by rw[I.len];exact(List.getElem?_eq_some_iff.mp hi).1
 have FE:=I.FE
 have tracked:∀{a:Addr} {h':Heap},(∃o,s.heap.get? a=some o∧H a=none)→Heap.SameBut a s.heap h'→iW X.prog X.w H h':=fun {a h'} ha hs b ob e=>by
  obtain⟨_,_,Io⟩:=ha
  refine(I.bF b ob e).qc (fun c w' hc q=>(hs.2 c ?_).trans q) (fun _ q=>q) fun _ _ q=>q
  rintro rfl
  rcases hc with rfl|hc
  ·rw[Io] at e;cases e
  ·rw[Io] at hc;cases hc
 rcases hx with hk|hk
 ·refine wpAny_storeName_local hk hn (fun h' Az hs=>?_) Kc
  obtain⟨oL,_,_,hoL,_⟩:=id hn
  refine h _ ⟨I.ok,I.os,I.bare,⟨fun b o e n hb hx=>?_,fun b o e n hb hx=>?_,I.base.free,fun b o e hx=>?_,I.base.qd,I.base.oj,I.base.qe⟩,⟨_,Az,fun j y v' e1 e2 e3=>?_⟩,fun y c e=>?_,I.free,I.fH,fun p hp=>?_,tracked ⟨oL,hoL,I.free⟩ hs,by simpa using I.len⟩ ⟨_,hs, .inl rfl⟩
  ·exact(hs.2 b (Nat.ne_of_lt (Nat.lt_of_lt_of_le (Heap.lt_size e) I.ok.above))).trans (I.base.keep b o e n hb hx)
  ·obtain⟨sl,e1⟩:=I.base.slot b o e n hb hx
   exact⟨sl,(hs.2 b (Nat.ne_of_lt (Nat.lt_of_lt_of_le (Heap.lt_size e) I.ok.above))).trans e1⟩
  ·obtain⟨o',e1⟩:=I.base.there b o e hx
   exact⟨o',(hs.2 b (Nat.ne_of_lt (Nat.lt_of_lt_of_le (Heap.lt_size e) I.ok.above))).trans e1⟩
  ·by_cases hj:j=i
   ·subst hj
    rw[hi] at e1;cases e1
    rw[List.getElem?_set_self hiσ] at e2
    cases e2
    exact⟨u,r, .inl ⟨hk,by simp⟩⟩
   ·rw[List.getElem?_set_ne (Ne.symm hj)] at e2
    obtain⟨u',r',q⟩:=hl j y v' e1 e2 e3
    refine⟨u',r',?_⟩
    rcases q with ⟨k,e⟩ | ⟨k,c,e,z⟩
    ·refine .inl ⟨k,?_⟩
     have:y≠x:=fun e=>hj (om hN e1 (e▸hi))
     simp [this,e]
    ·exact .inr ⟨k,c,e,z.sameBut hs (FE y c e)⟩
  ·obtain⟨w',z⟩:=I.cell y c e
   exact⟨w',z.sameBut hs (FE y c e)⟩
  ·obtain⟨e,n,ne,nf,d⟩:=I.pin p hp
   exact⟨(hs.2 p.1 ne).trans e,n,ne,nf,d⟩
 ·have Uq:X.fn x=true:=by
   rcases hf with z|z
   ·exact z
   ·rw[z] at hk;cases hk
  obtain⟨c,hc⟩:=I.ok.has x (.inl hk)
  obtain⟨w',z⟩:=I.cell x c hc
  refine wpAny_storeName_cell I.ok.kind hk hc z (fun h' yN hs=>?_)
  obtain⟨oc,hoc,Ur⟩:=id z
  refine h { s with heap:=h' } ⟨I.ok,I.os,I.bare,⟨fun b o e n hb hx=>?_,fun b o e n hb hx=>?_,I.base.free,fun b o e hx=>?_,I.base.qd,I.base.oj,I.base.qe⟩,⟨m,hn.sameBut hs (Ne.symm (FE x c hc)),fun j y v' e1 e2 e3=>?_⟩,fun y c' e=>?_,I.free,I.fH,fun p hp=>?_,tracked ⟨oc,hoc,I.fH x c hc⟩ hs,by simpa using I.len⟩ ⟨c,hs, .inr hc⟩
  ·exact(hs.2 b (Nat.ne_of_lt (Nat.lt_of_lt_of_le (Heap.lt_size e) (I.ok.FD x c Uq hc)))).trans (I.base.keep b o e n hb hx)
  ·obtain⟨sl,e1⟩:=I.base.slot b o e n hb hx
   exact⟨sl,(hs.2 b (Nat.ne_of_lt (Nat.lt_of_lt_of_le (Heap.lt_size e) (I.ok.FD x c Uq hc)))).trans e1⟩
  ·obtain⟨o',e1⟩:=I.base.there b o e hx
   exact⟨o',(hs.2 b (Nat.ne_of_lt (Nat.lt_of_lt_of_le (Heap.lt_size e) (I.ok.FD x c Uq hc)))).trans e1⟩
  ·by_cases hj:j=i
   ·subst hj
    rw[hi] at e1;cases e1
    rw[List.getElem?_set_self hiσ] at e2
    cases e2
    exact⟨u,r, .inr ⟨.inl hk,c,hc,yN⟩⟩
   ·rw[List.getElem?_set_ne (Ne.symm hj)] at e2
    obtain⟨u',r',q⟩:=hl j y v' e1 e2 e3
    refine⟨u',r',?_⟩
    rcases q with q| ⟨k,c',e,z'⟩
    ·exact .inl q
    ·refine .inr ⟨k,c',e,z'.sameBut hs ?_⟩
     rintro rfl
     exact hj (om hN e1 (I.ok.inj _ _ _ e hc▸hi))
  ·by_cases Tf:c'=c
   ·subst Tf;exact⟨_,yN⟩
   ·obtain⟨w2,z2⟩:=I.cell y c' e
    exact⟨w2,z2.sameBut hs Tf⟩
  ·obtain⟨e,n,ne,nf,d⟩:=I.pin p hp
   refine⟨(hs.2 p.1 ?_).trans e,n,ne,nf,d⟩
   intro q
   rw[q,hoc] at e
   have q':oc=p.2:=Option.some.inj e
   exact d w' (by rw[←q'];exact Ur)
theorem store_ok{M:Model}{A:Around}{E:Value→Shared→Prop}{i:Nat}{x:Str}{v:V}{u:Value}{Q:Unit→Shared→Prop}(I:Inv X pins σ H s)(hN:X.N.Nodup)(hi:X.N[i]? =some x)(hx:Loc X.env.scope x)(r:RelV v u)
  (h:∀s',Inv X pins (σ.set i (some v)) H s'→Q () s') (hf:X.fn x=true∨X.env.scope.names.lookup x=some .local:=by first|exact .inl rfl|exact .inr rfl|assumption):wpAny M A (storeName X.env x u) Q E s:=
 qx I hN hi hx r (fun s' I' _=>h s' I') hf
theorem Inv.Cb{s':Shared}{ch:List Addr}(I:Inv X pins σ H s)(ho:s'.os=s.os)(u:Un (pY X.stack) ch H H' s.heap s'.heap)(bF:iW X.prog X.w H' s'.heap)(hg:AllBare s'.gens)
  (B1:∀b∈ch,(b∈X.ex∨X.s₀.heap.objs.size≤b)∧b≠X.env.locals∧(∀x c,X.env.cells.lookup x=some c→c≠b)∧∀p∈X.pn++pins,p.1≠b):Inv X pins σ H' s':=by
 obtain⟨h',g',d',t',o'⟩:=s'
 have e:o'=s.os:=ho
 subst e
 exact I.call (g':=g') (t':=t') (d':=d') u bF hg B1
end
abbrev XK:=Value→Option Addr→Hp→Prop
abbrev St:=List (Option V)
abbrev VK:=V→Hp→Prop
abbrev TE:=St→Hp→VK→Prop
abbrev TT:=St→Hp→(Bool→Hp→Prop)→Prop
abbrev TA:=St→Hp→(List V→Hp→Prop)→Prop
structure Ends where
 nx:St→Hp→Prop
 rt:VK
 bk:St→Hp→Prop:=fun _ _=>False
 ct:St→Hp→Prop:=fun _ _=>False
abbrev TS:=Ends→St→Hp→Prop
def EP(X:Cx)(pins:List (Addr×Obj))(σ:St)(Q:VK)(u:Value)(s':Shared):Prop:=∃v H',Inv X pins σ H' s'∧RelV v u∧Q v H'
def TP(X:Cx)(pins:List (Addr×Obj))(σ:St)(Q:Bool→Hp→Prop)(b:Bool)(s':Shared):Prop:=∃H',Inv X pins σ H' s'∧Q b H'
def AP(X:Cx)(pins:List (Addr×Obj))(σ:St)(Q:List V→Hp→Prop)(us:List Value)(s':Shared):Prop:=∃vs H',Inv X pins σ H' s'∧Vals vs us∧Q vs H'
def SP(X:Cx)(pins:List (Addr×Obj))(D:Ends)(f:Flow)(s':Shared):Prop:=
 match f with
 | .next=>∃σ' H',Inv X pins σ' H' s'∧D.nx σ' H'
 | .brk=>∃σ' H',Inv X pins σ' H' s'∧D.bk σ' H'
 | .cont=>∃σ' H',Inv X pins σ' H' s'∧D.ct σ' H'
 | .ret u=>∃v σ' H',Inv X pins σ' H' s'∧RelV v u∧D.rt v H'
def PE(X:Cx)(e:Expr)(t:TE):Prop:=
 ∀(pins:List (Addr×Obj)) (s:Shared) (σ:St) (H:Hp) (Q:VK),Inv X pins σ H s→t σ H Q→wpAny (model X.prog X.w) X.A (eval e X.env) (EP X pins σ Q) X.xe s
def PT(X:Cx)(e:Expr)(t:TT):Prop:=
 ∀(pins:List (Addr×Obj)) (s:Shared) (σ:St) (H:Hp) (Q:Bool→Hp→Prop),Inv X pins σ H s→t σ H Q→wpAny (model X.prog X.w) X.A (isTrue e X.env (eval e X.env)) (TP X pins σ Q) X.xe s
def PW(X:Cx)(e:Expr)(t:TT):Prop:=
 ∀(whole:Sem Value) (pins:List (Addr×Obj)) (s:Shared) (σ:St) (H:Hp) (Q:Bool→Hp→Prop),Inv X pins σ H s→t σ H Q→wpAny (model X.prog X.w) X.A (isTrue e X.env whole) (TP X pins σ Q) X.xe s
theorem PW.pt{X:Cx}{e:Expr}{t:TT}(h:PW X e t):PT X e t:=h _
def PA(X:Cx)(es:List Expr)(t:TA):Prop:=
 ∀(pos:Pos) (pins:List (Addr×Obj)) (s:Shared) (σ:St) (H:Hp) (Q:List V→Hp→Prop),Inv X pins σ H s→t σ H Q→wpAny (model X.prog X.w) X.A (spliced (backTo pos (starEach es X.env))) (AP X pins σ Q) X.xe s
def PS(X:Cx)(st:Stmt)(t:TS):Prop:=
 ∀(pins:List (Addr×Obj)) (s:Shared) (σ:St) (H:Hp) (D:Ends),Inv X pins σ H s→t D σ H→wpAny (model X.prog X.w) X.A (exec st X.env) (SP X pins D) X.xe s
def jV(X:Cx)(st:List Stmt)(t:TS):Prop:=
 ∀(pins:List (Addr×Obj)) (s:Shared) (σ:St) (H:Hp) (D:Ends),Inv X pins σ H s→t D σ H→wpAny (model X.prog X.w) X.A (execs st X.env) (SP X pins D) X.xe s
theorem bN{α:Type}{t:Sem α}{Q Q':α→Shared→Prop}{M:Model}{A:Around}{E:Value→Shared→Prop}{s:Shared}(h:wpAny M A t Q E s)(hQ:∀a s,Q a s→Q' a s):wpAny M A t Q' E s:=wpAny_mono h hQ fun _ _ x=>x
end L2
namespace L2
open PySem PySem.Spec PyProof.Rows
section
variable {X:Cx}
inductive RV(i:Nat)(σ:St)(H:Hp)(Q:VK):Prop
 |mk (v:V) (e:σ[i]? =some (some v)) (q:Q v H)
def Nw(i:Nat):TE:=fun σ H Q=>RV i σ H Q
def tC(v:V):TE:=fun _ H Q=>Q v H
theorem Kd{i:Nat}{x:Str}{pos:Pos}(hN:X.N[i]? =some x)(hv:Uk X.env.scope x)(hd:(x==("__debug__" :Str))=false:=by decide)(mZ:(x==("__classdict__" :Str))=false:=by decide):PE X (.Name x pos) (Nw i):=by
 intro pins s σ H Q I h
 obtain⟨v,e,h⟩:=h
 obtain⟨m,hn,hl⟩:=I.loc
 obtain⟨u,r,l⟩:=hl i x v hN e hv
 have fin:EP X pins σ Q u s:=⟨v,H,I,r,h⟩
 rcases l with ⟨hk,hm⟩ | ⟨hk,c,hc,Cc⟩
 ·exact wpAny_Name (wpAny_loadName_local I.ok.kind hk hn hm fin) hd
 ·rcases hk with hk|hk
  ·exact wpAny_Name (wpAny_loadName_cell I.ok.kind hk hc Cc fin) hd
  ·exact wpAny_Name (wpAny_loadName_free I.ok.kind hk hc Cc fin mZ) hd
theorem aq{i j pos}:PE X (.Constant (.int i) j pos) (tC (.int i)):=fun _ _ _ H _ I h=>wpAny_Constant_int ⟨.int i,H,I.tok _,⟨_,rfl⟩,h⟩
theorem jW{b j pos}:PE X (.Constant (.bool b) j pos) (tC (.bl b)):=fun _ _ _ H _ I h=>Constant_bool ⟨.bl b,H,I,rfl,h⟩
theorem xc{j pos}:PE X (.Constant .none j pos) (tC .cJ):=fun _ _ _ H _ I h=>Constant_none ⟨.cJ,H,I,rfl,h⟩
theorem aR{x j pos}:PE X (.Constant (.str x) j pos) (tC (.str x)):=fun _ _ _ H _ I h=>Calls.Constant_str ⟨.str x,H,I.tok _,⟨_,rfl⟩,h⟩
def Gl(X:Cx)(x:Str):Prop:=X.env.kindOf x=some .globalImplicit
theorem eQ{E:Value→Shared→Prop}{pins:List (Addr×Obj)}{s:Shared}{σ:St}{H:Hp}{x:Str}{u:Value}{pos:Pos}{Q:Value→Shared→Prop}(I:Inv X pins σ H s)(hg:Gl X x)(hm:X.mg x=some u)(h:Q u s)
  (hd:(x==("__debug__" :Str))=false:=by decide):wpAny (model X.prog X.w) X.A (eval (.Name x pos) X.env) Q E s:=
 Calls.Name_function_global I.ok.kind hg (Calls.loadGlobal_global (by rw[I.ok.glob];exact I.mod.glob.keeps I.bk) hm h) hd
theorem oo{E:Value→Shared→Prop}{pins:List (Addr×Obj)}{s:Shared}{σ:St}{H:Hp}{x:Str}{u:Value}{pos:Pos}{Q:Value→Shared→Prop}(I:Inv X pins σ H s)(hg:Gl X x)(hm:X.mg x=none)(hv:bootBuiltins x=some u)(h:Q u s)
  (hn:x≠"__name__" :=by decide) (hd:(x==("__debug__" :Str))=false:=by decide):wpAny (model X.prog X.w) X.A (eval (.Name x pos) X.env) Q E s:=by
 obtain⟨mb,h1,h2⟩:=I.mod.blt
 exact Calls.Name_function_global I.ok.kind hg (Calls.loadGlobal_builtin (by rw[I.ok.glob];exact I.mod.glob.keeps I.bk) hm (by rw[I.ok.blt];exact h1.keeps I.bk) ((h2 x hn).trans hv) h) hd
theorem aP{x:Str}{v:V}{u:Value}{pos:Pos}(hg:Gl X x)(hm:X.mg x=some u)(r:RelV v u)(hd:(x==("__debug__" :Str))=false:=by decide):PE X (.Name x pos) (tC v):=
 fun _ _ _ H _ I h=>eQ I hg hm ⟨v,H,I,r,h⟩ hd
theorem su{x:Str}{v:V}{u:Value}{pos:Pos}(hg:Gl X x)(hm:X.mg x=none)(hv:bootBuiltins x=some u)(r:RelV v u)(hn:x≠"__name__" :=by decide)(hd:(x==("__debug__" :Str))=false:=by decide):PE X (.Name x pos) (tC v):=
 fun _ _ _ H _ I h=>oo I hg hm hv ⟨v,H,I,r,h⟩ hn hd
variable {a b:Expr}{ta tb:TE}{pos:Pos}
def PC(X:Cx)(op:CmpOp)(a b:Expr)(t:TE):Prop:=
 ∀(pins:List (Addr×Obj)) (s:Shared) (σ:St) (H:Hp) (Q:VK),Inv X pins σ H s→t σ H Q→
  wpAny (model X.prog X.w) X.A (eval a X.env) (fun v s₁=>wpAny (model X.prog X.w) X.A (eval b X.env) (fun u s₂=>wpAny (model X.prog X.w) X.A (compareOp op v u) (EP X pins σ Q) X.xe s₂) X.xe s₁) X.xe s
theorem Cd(b:Expr){op:CmpOp}(h:op≠ .In)(h2:op≠ .NotIn):behindInMarks op b=false:=by
 have e1:(op==CmpOp.In)=false:=by cases op<;>first|rfl|exact absurd rfl h
 have e2:(op==CmpOp.NotIn)=false:=by cases op<;>first|rfl|exact absurd rfl h2
 cases b<;>simp [behindInMarks,e1,e2]
def Nx(ta:TE):TE:=fun σ H Q=>ta σ H fun x H1=>Q (.bl (!decide (x= .cJ))) H1
theorem RelV.Ce{x:V}{v:Value}(r:RelV x v):(v==Value.none)=decide (x= .cJ):=by
 cases x with
 |cJ=>cases r;rfl
 |bl _=>cases r;rfl
 |int _=>obtain⟨t,rfl⟩:=r;rfl
 |str _=>obtain⟨t,rfl⟩:=r;rfl
 |xa _=>obtain⟨t,rfl⟩:=r;rfl
 |Ij _=>obtain⟨t,rfl⟩:=r;rfl
 |ref _=>cases r;rfl
 |ty _=>cases r;rfl
theorem yO{j pos'}(ha:PE X a ta):PC X .IsNot a (.Constant .none j pos') (Nx ta):=by
 intro pins s σ H Q I h
 refine bN (ha pins s σ H _ I h) fun v s1 ⟨x,H1,I1,r1,q1⟩=>?_
 exact Constant_none (isnot_none_gen ⟨.bl _,H1,I1,by rw[r1.Ce];rfl,q1⟩)
def tB(t:TE):TT:=fun σ H Q=>t σ H fun x H1=>∃c,x= .bl c∧Q c H1
theorem lU{op:CmpOp}{t:TE}(h:PC X op a b t)(h1:behindInMarks op b=false:=by first|exact Cd _ (by decide) (by decide) |rfl):PT X (.Compare a [op] [b] pos) (tB t):=by
 intro pins s σ H Q I hw
 refine wpAny_isTrue_Compare1 (bN (h pins s σ H _ I hw) fun v s1 h1=>bN h1 fun u s2 h2=>bN h2 fun c s3 ⟨x,H1,I1,r1,q1⟩=>?_) h1
 obtain⟨d,rfl,q⟩:=q1
 cases r1
 exact wpAny_truthy_bool ⟨H1,I1,q⟩
theorem gv{e:Expr}{t:TE}(h:PE X e t)(he:∀whole,isTrue e X.env whole=(do let v←whole;standAt e.pos;holding [v] (truthy v)):=by intro _;rfl):PT X e (tB t):=by
 intro pins s σ H Q I hw
 refine isTrue_plain (bN (h pins s σ H _ I hw) fun v s1 ⟨x,H1,I1,r1,q1⟩=>?_) (he _)
 obtain⟨d,rfl,q⟩:=q1
 cases r1
 exact wpAny_truthy_bool ⟨H1,I1,q⟩
variable {tA Tg:TT}{rest:List Expr}
def Us(t u:TT):TT:=fun σ H Q=>t σ H fun c H1=>if c=true then u σ H1 Q else Q false H1
def tOr(t u:TT):TT:=fun σ H Q=>t σ H fun c H1=>if c=true then Q true H1 else u σ H1 Q
def Ut(t:TT):TT:=fun σ H Q=>t σ H fun c H1=>Q (!c) H1
theorem nv(ha:PT X a tA):PW X (.BoolOp .And [a] pos) tA:=by
 intro wh pins s σ H Q I h
 refine isTrue_and (bN (ha pins s σ H Q I h) fun c s1 e=>?_)
 cases c with
 |true=>exact isTrue_and_nil e
 |false=>exact e
theorem Cf(ha:PT X a tA):PW X (.BoolOp .Or [a] pos) tA:=by
 intro wh pins s σ H Q I h
 refine isTrue_or (bN (ha pins s σ H Q I h) fun c s1 e=>?_)
 cases c with
 |false=>exact isTrue_or_nil e
 |true=>exact e
theorem sv(ha:PT X a tA)(hb:PW X (.BoolOp .And (b::rest) pos) Tg):PW X (.BoolOp .And (a::b::rest) pos) (Us tA Tg):=by
 intro wh pins s σ H Q I h
 refine isTrue_and (bN (ha pins s σ H _ I h) fun c s1 ⟨H1,I1,q1⟩=>?_)
 cases c with
 |true=>exact hb wh pins s1 σ H1 Q I1 q1
 |false=>exact⟨H1,I1,q1⟩
theorem Ip(ha:PT X a tA)(hb:PW X (.BoolOp .Or (b::rest) pos) Tg):PW X (.BoolOp .Or (a::b::rest) pos) (tOr tA Tg):=by
 intro wh pins s σ H Q I h
 refine isTrue_or (bN (ha pins s σ H _ I h) fun c s1 ⟨H1,I1,q1⟩=>?_)
 cases c with
 |true=>exact⟨H1,I1,q1⟩
 |false=>exact hb wh pins s1 σ H1 Q I1 q1
theorem iX(ha:PT X a tA):PT X (.UnaryOp .Not a pos) (Ut tA):=by
 intro pins s σ H Q I h
 exact isTrue_not (ha pins s σ H (fun c H1=>Q (!c) H1) I h)
def Ny(ta tb:TE):TE:=fun σ H Q=>ta σ H fun x H1=>∃c,x= .bl c∧if c=true then tb σ H1 Q else Q (.bl false) H1
def Nz(ta:TE):TE:=fun σ H Q=>ta σ H fun x H1=>∃c,x= .bl c∧Q (.bl (!c)) H1
theorem oq{op}{t:TE}(h:PE X a t):PE X (.BoolOp op [a] pos) t:=fun pins s σ H Q I hw=>BoolOp_one (h pins s σ H Q I hw)
theorem lV(ha:PE X a ta)(hb:PE X (.BoolOp .And (b::rest) pos) tb):PE X (.BoolOp .And (a::b::rest) pos) (Ny ta tb):=by
 intro pins s σ H Q I h
 refine BoolOp_and (bN (ha pins s σ H _ I h) fun v s1 ⟨x,H1,I1,r1,q1⟩=>?_)
 obtain⟨c,rfl,q1⟩:=q1
 cases r1
 refine wpAny_truthy_bool ?_
 cases c with
 |true=>exact hb pins s1 σ H1 Q I1 q1
 |false=>exact⟨.bl false,H1,I1,rfl,q1⟩
theorem Ke(ha:PE X a ta):PE X (.UnaryOp .Not a pos) (Nz ta):=by
 intro pins s σ H Q I h
 refine UnaryOp_ (bN (ha pins s σ H _ I h) fun v s1 ⟨x,H1,I1,r1,q1⟩=>?_)
 obtain⟨c,rfl,q1⟩:=q1
 cases r1
 exact not_of (wpAny_truthy_bool ⟨.bl (!c),H1,I1,rfl,q1⟩)
def tIf(t:TT)(ta tb:TE):TE:=fun σ H Q=>t σ H fun c H1=>if c=true then ta σ H1 Q else tb σ H1 Q
theorem uv{c:Expr}(hc:PT X c tA)(ha:PE X a ta)(hb:PE X b tb):PE X (.IfExp c a b pos) (tIf tA ta tb):=by
 intro pins s σ H Q I h
 refine wpAny_IfExp (bN (hc pins s σ H _ I h) fun d s1 ⟨H1,I1,q1⟩=>?_)
 cases d with
 |true=>exact ha pins s1 σ H1 Q I1 q1
 |false=>exact hb pins s1 σ H1 Q I1 q1
end
end L2
namespace L2
open PySem PySem.Spec PyProof.Rows
def bR(K:PySem.W.Frag)(H:Hp)(a:Addr)(xs:List V):Prop:=
 Rd H a (.lst xs)∨
  ∃(o:Obj) (its:Array Value) (n:Nat),K.lookup a=some o∧o.cls= .type "list" ∧o.dict=none∧o.data= .seq its n∧its.size≤sizeLine∧Vals xs its.toList
def ku(K:PySem.W.Frag)(H:Hp)(a:Addr)(xs:List V):Prop:=
 Rd H a (.tup xs)∨
  ∃(o:Obj) (its:Array Value) (n:Nat),K.lookup a=some o∧o.cls= .type "tuple" ∧o.data= .seq its n∧its.size≤sizeLine∧Vals xs its.toList
def Uv:Value→Option V
 | .none=>some .cJ
 | .bool b=>some (.bl b)
 | .int i _=>some (.int i)
 | .str x _=>some (.str x)
 | .bytes b _=>some (.xa b)
 | .float b _=>some (.Ij b)
 | .ref a=>some (.ref a)
 | .type n=>some (.ty n)
 |_=>none
theorem RelV.abs{x:V}{u:Value}(r:RelV x u):Uv u=some x:=by
 cases x with
 |cJ=>cases r;rfl
 |bl _=>cases r;rfl
 |int _=>obtain⟨t,rfl⟩:=r;rfl
 |str _=>obtain⟨t,rfl⟩:=r;rfl
 |xa _=>obtain⟨t,rfl⟩:=r;rfl
 |Ij _=>obtain⟨t,rfl⟩:=r;rfl
 |ref _=>cases r;rfl
 |ty _=>cases r;rfl
theorem RelV.inj{x y:V}{u:Value}(r:RelV x u)(q:RelV y u):x=y:=Option.some.inj (r.abs.symm.trans q.abs)
theorem Vals.inj:∀{xs ys:List V} {us:List Value},Vals xs us→Vals ys us→xs=ys
 |_,_,_, .nil, .nil=>rfl
 |_,_,_, .cons r t, .cons r' t'=>by rw[r.inj r',Vals.inj t t']
section
variable {X:Cx}{pins:List (Addr×Obj)}{σ:St}{H:Hp}{s:Shared}{a:Addr}{xs ys:List V}
theorem bR.of{K:PySem.W.Frag}(h:H a=some (.lst xs)):bR K H a xs:= .inl (.inl h)
theorem ku.of{K:PySem.W.Frag}(h:H a=some (.tup xs)):ku K H a xs:= .inl (.inl h)
theorem Inv.list(I:Inv X pins σ H s)(h:bR X.K H a xs):∃its:List Value,Vals xs its∧PlainL s.heap a its.toArray∧xs.length≤sizeLine:=by
 rcases h with h| ⟨o,its,n,hk,hc,hd,hs,hz,r⟩
 ·obtain⟨z,its,n,r,e⟩:=h.ok I.bF
  exact⟨its,r,⟨_,n,e,rfl,rfl,rfl⟩,z⟩
 ·refine⟨its.toList,r,⟨o,n,I.fb a o hk,hc,hd,by simpa using hs⟩,?_⟩
  have e:=r.length
  simp only [Array.length_toList] at e
  omega
theorem Inv.tuple(I:Inv X pins σ H s)(h:ku X.K H a xs):∃its:List Value,Vals xs its∧IsTup s.heap a its.toArray∧xs.length≤sizeLine:=by
 rcases h with h| ⟨o,its,n,hk,hc,hs,hz,r⟩
 ·obtain⟨z,its,r,p⟩:=h.ok I.bF
  exact⟨its,r,p,z⟩
 ·refine⟨its.toList,r,⟨o,I.fb a o hk,hc,n,by simpa using hs⟩,?_⟩
  have e:=r.length
  simp only [Array.length_toList] at e
  omega
theorem Inv.uw(I:Inv X pins σ H s)(h:bR X.K H a xs)(h':bR X.K H a ys):xs=ys:=by
 obtain⟨its,r,⟨o,n,e,_,_,d⟩,_⟩:=I.list h
 obtain⟨its',r',⟨o',n',e',_,_,d'⟩,_⟩:=I.list h'
 rw[e] at e';cases e'
 rw[d] at d'
 injection d' with d1 _
 have:its=its':=by simpa using congrArg Array.toList d1
 subst this
 exact r.inj r'
theorem Inv.AA(I:Inv X pins σ H s)(h:ku X.K H a xs)(h':ku X.K H a ys):xs=ys:=by
 obtain⟨its,r,⟨o,e,_,n,d⟩,_⟩:=I.tuple h
 obtain⟨its',r',⟨o',e',_,n',d'⟩,_⟩:=I.tuple h'
 rw[e] at e';cases e'
 rw[d] at d'
 injection d' with d1 _
 have:its=its':=by simpa using congrArg Array.toList d1
 subst this
 exact r.inj r'
end
abbrev Cx.gH(X:Cx)(E:Value→Shared→Prop):Cx:={ X with xe:=E }
abbrev Cx.Cg(X:Cx):Cx:=X.gH fun _ _=>False
theorem Cx.Ok.gH{X:Cx}(ok:X.Ok)(E:Value→Shared→Prop):(X.gH E).Ok:=
 ⟨ok.mod,ok.kind,ok.glob,ok.blt,ok.above,ok.inj,ok.has,ok.FD,ok.hd,ok.frames,ok.Il,ok.MZ,ok.bs,ok.yL,ok.r8,ok.si,ok.iH,ok.B0⟩
theorem Cx.Ok.cZ{X:Cx}{E:Value→Shared→Prop}(ok:(X.gH E).Ok):X.Ok:=
 ⟨ok.mod,ok.kind,ok.glob,ok.blt,ok.above,ok.inj,ok.has,ok.FD,ok.hd,ok.frames,ok.Il,ok.MZ,ok.bs,ok.yL,ok.r8,ok.si,ok.iH,ok.B0⟩
section
variable {X:Cx}{pins:List (Addr×Obj)}{σ:St}{H:Hp}{s:Shared}{E:Value→Shared→Prop}
theorem Inv.gH(I:Inv X pins σ H s)(E:Value→Shared→Prop):Inv (X.gH E) pins σ H s:=⟨I.ok.gH E,I.os,I.bare,I.base,I.loc,I.cell,I.free,I.fH,I.pin,I.bF,I.len⟩
theorem Inv.cZ(I:Inv (X.gH E) pins σ H s):Inv X pins σ H s:=⟨I.ok.cZ,I.os,I.bare,I.base,I.loc,I.cell,I.free,I.fH,I.pin,I.bF,I.len⟩
theorem SP.cZ{D:Ends}{f:Flow}{s':Shared}(h:SP (X.gH E) pins D f s'):SP X pins D f s':=by
 cases f with
 |next=>obtain⟨σ',H',I,q⟩:=h;exact⟨σ',H',I.cZ,q⟩
 |brk=>obtain⟨σ',H',I,q⟩:=h;exact⟨σ',H',I.cZ,q⟩
 |cont=>obtain⟨σ',H',I,q⟩:=h;exact⟨σ',H',I.cZ,q⟩
 |ret u=>obtain⟨v,σ',H',I,r,q⟩:=h;exact⟨v,σ',H',I.cZ,r,q⟩
theorem jV.Cg{st:List Stmt}{t:TS}(h:jV X.Cg st t):jV X st t:=fun pins s σ H D I hw=>
 wpAny_mono (h pins s σ H D (I.gH _) hw) (fun _ _ q=>q.cZ) fun _ _ z=>False.elim z
end
section
variable {X:Cx}{st:Stmt}{rest:List Stmt}{t u:TS}{e:Expr}{te:TE}{pos:Pos}
def NA:TS:=fun D σ H=>D.nx σ H
def FG(t u:TS):TS:=fun D σ H=>t { D with nx:=u D } σ H
theorem ba:jV X [] NA:=fun _ _ σ H _ I h=>wpAny_execs_nil ⟨σ,H,I,h⟩
theorem aj(h1:PS X st t)(h2:jV X rest u):jV X (st::rest) (FG t u):=by
 intro pins s σ H D I h
 refine wpAny_execs_cons (bN (h1 pins s σ H { D with nx:=u D } I h) fun f s1 q=>?_)
 cases f with
 |next=>
  obtain⟨σ',H',I',q⟩:=q
  exact h2 pins s1 σ' H' D I' q
 |ret v=>exact q
 |brk=>exact q
 |cont=>exact q
theorem ao(h1:PS X st t):jV X [st] t:=by
 intro pins s σ H D I h
 refine wpAny_execs_cons (bN (h1 pins s σ H D I h) fun f s1 q=>?_)
 cases f with
 |next=>exact wpAny_execs_nil q
 |ret v=>exact q
 |brk=>exact q
 |cont=>exact q
theorem Inv.quiet{pins:List (Addr×Obj)}{σ:St}{H:Hp}{s:Shared}(I:Inv X pins σ H s):interactive X.env=false:=by simp [interactive,I.ok.kind]
def NB(te:TE):TS:=fun D σ H=>te σ H fun _ H1=>D.nx σ H1
theorem bC(he:PE X e te)(hs:swapsWith e none pos.line X.env=pure false:=by rfl):PS X (.Expr e pos) (NB te):=by
 intro pins s σ H D I h
 exact wpAny_Expr_any (bN (he pins s σ H _ I h) fun v s1 ⟨x,H1,I1,r1,q1⟩=>⟨σ,H1,I1,q1⟩) I.quiet hs
def Uw(te:TE):TS:=fun D σ H=>te σ H D.rt
theorem aH(he:PE X e te):PS X (.Return (some e) pos) (Uw te):=by
 intro pins s σ H D I h
 exact wpAny_Return_some (bN (he pins s σ H _ I h) fun v s1 ⟨x,H1,I1,r1,q1⟩=>⟨x,σ,H1,I1,r1,q1⟩)
def Kf(c:TT)(t u:TS):TS:=fun D σ H=>c σ H fun b H1=>if b=true then t D σ H1 else u D σ H1
theorem bM{c:Expr}{a b:List Stmt}{tc:TT}(hc:PT X c tc)(ha:jV X a t)(hb:jV X b u):PS X (.If c a b pos) (Kf tc t u):=by
 intro pins s σ H D I h
 refine wpAny_If (bN (hc pins s σ H _ I h) fun d s1 ⟨H1,I1,q1⟩=>?_)
 cases d with
 |true=>exact ha pins s1 σ H1 D I1 q1
 |false=>exact hb pins s1 σ H1 D I1 q1
def Kg:TS:=fun _ _ _=>False
theorem ux:PS X st Kg:=fun _ _ _ _ _ _ h=>h.elim
end
abbrev TG:=V→St→Hp→(St→Hp→Prop)→Prop
abbrev Iq:=List V→St→Hp→(St→Hp→Prop)→Prop
def PG(X:Cx)(target:Expr)(t:TG):Prop:=
 ∀(pins:List (Addr×Obj)) (s:Shared) (σ:St) (H:Hp) (v:V) (u:Value) (Q:St→Hp→Prop),Inv X pins σ H s→RelV v u→t v σ H Q→
  wpAny (model X.prog X.w) X.A (assign target X.env u) (fun _ s'=>∃σ' H',Inv X pins σ' H' s'∧Q σ' H') X.xe s
def M0(X:Cx)(ts:List Expr)(t:Iq):Prop:=
 ∀(pins:List (Addr×Obj)) (s:Shared) (σ:St) (H:Hp) (vs:List V) (us:List Value) (Q:St→Hp→Prop),Inv X pins σ H s→Vals vs us→t vs σ H Q→
  wpAny (model X.prog X.w) X.A (assignInOrder ((assignEach ts X.env).map (·.2)) us) (fun _ s'=>∃σ' H',Inv X pins σ' H' s'∧Q σ' H') X.xe s
abbrev Kh:=V→V→V→Hp→(Hp→Prop)→Prop
def ND(X:Cx)(t:Kh):Prop:=
 ∀(pins:List (Addr×Obj)) (s:Shared) (σ:St) (H:Hp) (o i v:V) (ov iv u:Value) (Q:Hp→Prop),Inv X pins σ H s→RelV o ov→RelV i iv→RelV v u→t o i v H Q→
  wpAny (model X.prog X.w) X.A (setItem ov iv u) (fun _ s'=>∃H',Inv X pins σ H' s'∧Q H') X.xe s
section
variable {X:Cx}{pos:Pos}
def kz(i:Nat):TG:=fun v σ H Q=>Q (σ.set i (some v)) H
theorem cK{i:Nat}{x:Str}(hN:X.N.Nodup)(hi:X.N[i]? =some x)(hx:Loc X.env.scope x)(hf:X.fn x=true∨X.env.scope.names.lookup x=some .local:=by first|exact .inl rfl|exact .inr rfl|assumption):PG X (.Name x pos) (kz i):=by
 intro pins s σ H v u Q I r h
 exact wpAny_assign_Name (store_ok I hN hi hx r (fun s' I'=>⟨_,H,I',h⟩) hf)
def Ux:Iq:=fun vs σ H Q=>vs=[]∧Q σ H
def NG(t:TG)(u:Iq):Iq:=fun vs σ H Q=>∃v r,vs=v::r∧t v σ H fun σ' H'=>u r σ' H' Q
theorem yP:M0 X [] Ux:=by
 intro pins s σ H vs us Q I r h
 obtain⟨e,h⟩:=h
 subst e
 cases r
 exact assignInOrder_nil ⟨σ,H,I,h⟩
theorem kA{e:Expr}{es:List Expr}{t:TG}{u:Iq}(h1:PG X e t)(h2:M0 X es u)
  (hs:(assignEach (e::es) X.env).map (·.2)=assign e X.env::(assignEach es X.env).map (·.2):=by rfl):M0 X (e::es) (NG t u):=by
 intro pins s σ H vs us Q I r h
 obtain⟨v,vr,e1,h⟩:=h
 subst e1
 cases r with
 |cons r rr=>
  rw[hs]
  refine assignInOrder_cons (bN (h1 pins s σ H _ _ _ I r h) fun _ s1 ⟨σ1,H1,I1,q1⟩=>?_)
  exact h2 pins s1 σ1 H1 _ _ Q I1 rr q1
def NH(K:PySem.W.Frag)(n:Nat)(t:Iq):TG:=fun v σ H Q=>∃a xs,v= .ref a∧ku K H a xs∧xs.length=n∧t xs σ H Q
theorem Ki{es:List Expr}{k:Nat}{t:Iq}{n:Nat}(hc:X.calm=true)(h:M0 X es t)
  (hn:(assignEach es X.env).length=n:=by rfl) (wV:(assignEach es X.env).findIdx? (·.1)=none:=by rfl):PG X (.Tuple es k pos) (NH X.K n t):=by
 intro pins s σ H v u Q I r hw
 obtain⟨a,xs,e1,hq,hl,hw⟩:=hw
 subst e1
 cases r
 obtain⟨its,rv,ht,hz⟩:=I.tuple hq
 refine assign_Tuple_tuple (I.ok.hd hc) ht (by simp [hn,←hl,rv.length]) wV fun h' hx=>?_
 have I1:Inv X pins σ H { s with heap:=h' }:=I.kept (t':=s.toks) fun b o e=>hx b o (Nat.ne_of_lt (Heap.lt_size e)) e
 exact h pins _ σ H xs _ Q I1 (by simpa using rv) hw
def Uy(to ti:TE)(t:Kh):TG:=fun v σ H Q=>to σ H fun o H1=>ti σ H1 fun i H2=>t o i v H2 fun H3=>Q σ H3
theorem Kj{o i:Expr}{to ti:TE}{t:Kh}(ho:PE X o to)(hi:PE X i ti)(hs:ND X t)
  (ha:∀v,assign (.Subscript o i pos) X.env v=(do
   let ov←holding [v] (eval o X.env)
   let iv←holding [v,ov] (eval i X.env)
   standAt pos
   holding [v,ov,iv] (setItem ov iv v)
   release [v,ov,iv] []):=by intro _;rfl):PG X (.Subscript o i pos) (Uy to ti t):=by
 intro pins s σ H v u Q I r h
 rw[ha]
 refine wpAny_bind (wpAny_holding (bN (ho pins s σ H _ I h) fun ov s1 ⟨x,H1,I1,r1,q1⟩=>?_))
 refine wpAny_bind (wpAny_holding (bN (hi pins s1 σ H1 _ I1 q1) fun iv s2 ⟨y,H2,I2,r2,q2⟩=>?_))
 refine wpAny_bind (wpAny_standAt (wpAny_bind (wpAny_holding (bN (hs pins s2 σ H2 x y v ov iv u _ I2 r1 r2 r q2) fun _ s3 ⟨H3,I3,q3⟩=>?_))))
 exact wpAny_release ⟨σ,H3,I3,q3⟩
def FH(te:TE)(g:TG):TS:=fun D σ H=>te σ H fun x H1=>g x σ H1 D.nx
theorem Kk{tg e:Expr}{te:TE}{g:TG}(he:PE X e te)(hg:PG X tg g)(hs:swapsWithSole [tg] e pos.line X.env=pure false:=by rfl)(hw:swappedStores [tg] e X.env=pure none:=by rfl)
  (h1:(assignEach [tg] X.env).map (·.2)=[assign tg X.env]:=by rfl):PS X (.Assign [tg] e pos) (FH te g):=by
 intro pins s σ H D I h
 refine wpAny_Assign_stores (bN (he pins s σ H _ I h) fun v s1 ⟨x,H1,I1,r1,q1⟩=>?_) hs hw
 rw[h1]
 exact bN (hg pins s1 σ H1 x v _ I1 r1 q1) fun _ s2 q=>q
theorem aQ{i:Nat}{x:Str}{e:Expr}{te:TE}{pos':Pos}(hN:X.N.Nodup)(hi:X.N[i]? =some x)(hx:Loc X.env.scope x)(he:PE X e te)(hs:swapsWith e (some (.Name x pos')) pos.line X.env=pure false:=by rfl)(hf:X.fn x=true∨X.env.scope.names.lookup x=some .local:=by first|exact .inl rfl|exact .inr rfl|assumption):
  PS X (.Assign [.Name x pos'] e pos) (FH te (kz i)):=by
 intro pins s σ H D I h
 refine wpAny_Assign_Name (bN (he pins s σ H _ I h) fun v s1 ⟨y,H1,I1,r1,q1⟩=>?_) hs
 exact store_ok I1 hN hi hx r1 (fun s2 I2=>⟨_,H1,I2,q1⟩) hf
end
section
variable {X:Cx}{pos:Pos}
def Kl(c:TT)(tb:TS):TS:=fun D σ H=>∃W:Nat→St→Hp→Prop,(∃m,W m σ H)∧∀m σ H,W m σ H→
 c σ H fun b H1=>if b=true then∃N:St→Hp→Prop,(∀σ' H',N σ' H'→∃m',m'<m∧W m' σ' H')∧tb { D with nx:=N,ct:=N,bk:=D.nx } σ H1 else D.nx σ H1
theorem gJ{c:Expr}{body:List Stmt}{tc:TT}{tb:TS}(hp:PassesOwn (model X.prog X.w) X.A X.env X.xe)(hc:PT X c tc)(hb:jV X body tb):PS X (.While c body [] pos) (Kl tc tb):=by
 intro pins s σ H D I h
 obtain⟨W,⟨m0,w0⟩,turn⟩:=h
 refine wpAny_While (codeAny_whileLoop (fun n s'=>∃σ' H',Inv X pins σ' H' s'∧W n σ' H') ?_ m0 ⟨σ,H,I,w0⟩)
 rintro n s1 ⟨σ1,H1,I1,w1⟩
 refine wpAny_passesOwn hp (bN (hc pins s1 σ1 H1 _ I1 (turn n σ1 H1 w1)) fun b s2 ⟨H2,I2,q2⟩=>?_)
 cases b with
 |true=>
  obtain⟨N,hN,q2⟩:=q2
  rw[if_pos rfl]
  refine wpAny_passesOwn hp (bN (hb pins s2 σ1 H2 _ I2 q2) fun f s3 q3=>?_)
  cases f with
  |next=>
   obtain⟨σ3,H3,I3,n3⟩:=q3
   obtain⟨m',hm,w3⟩:=hN σ3 H3 n3
   exact⟨m',hm,σ3,H3,I3,w3⟩
  |cont=>
   obtain⟨σ3,H3,I3,n3⟩:=q3
   obtain⟨m',hm,w3⟩:=hN σ3 H3 n3
   exact⟨m',hm,σ3,H3,I3,w3⟩
  |brk=>exact q3
  |ret v=>exact q3
 |false=>
  rw[if_neg Bool.false_ne_true]
  exact wpAny_execs_nil ⟨σ1,H2,I2,q2⟩
end
structure It where
 go:Nat→Hp→Prop
 yQ:Nat→Hp→V→Hp→Prop
 stop:Nat→Hp→Prop
def jL(X:Cx)(pins:List (Addr×Obj))(H:Hp)(b:Addr):Prop:=
 H b=none∧b≠X.env.locals∧b∉X.fs∧(b∈X.ex∨X.s₀.heap.objs.size≤b)∧(∀x c,X.env.cells.lookup x=some c→c≠b)∧∀p∈X.pn++pins,p.1≠b
theorem Inv.Ci{X:Cx}{pins:List (Addr×Obj)}{σ:St}{H H':Hp}{s:Shared}{b:Addr}(I:Inv X pins σ H s)(hb:s.heap.objs.size≤b)(hn:H' b=none):jL X pins H' b:=by
 refine⟨hn,Nat.ne_of_gt (Nat.lt_of_lt_of_le I.lt hb),I.Um hb, .inr (Nat.le_trans I.sz hb),fun x c e z=>?_,fun p hp z=>?_⟩
 ·obtain⟨v,q⟩:=I.cell x c e
  exact absurd (Nat.lt_of_lt_of_le q.lt (by rw[z];exact hb)) (Nat.lt_irrefl _)
 ·exact absurd (Nat.lt_of_lt_of_le (Heap.lt_size (I.pin p hp).1) (by rw[z];exact hb)) (Nat.lt_irrefl _)
structure Turn(P:Program)(w:World)(K:PySem.W.Frag)(tg:Expr)(J:It)(fp:List Addr)(it:Addr)(tn:Nat→Heap→Prop):Prop where
 mem:it∈fp
 obj:∀i h,tn i h→∀b∈fp,∃o,h.get? b=some o∧∀v,o.data≠ .cell v
 keep:∀i h h',tn i h→(∀b∈fp,∀o,h.get? b=some o→h'.get? b=some o)→tn i h'
 item:∀(X:Cx),X.prog=P→X.w=w→X.K=K→X.calm=true→∀(i:Nat) (pins:List (Addr×Obj)) (s:Shared) (σ:St) (H:Hp) (E:Value→Shared→Prop),Inv X pins σ H s→(∀b∈fp,jL X pins H b)→tn i s.heap→J.go i H→
  wpAny (model P w) X.A (pyNext (.ref it)) (fun r s1=>∃u,r=some u∧
   wpAny (model P w) X.A (letOwnedTupleGo tg (.ref it) u) (fun _ s2=>∃x H',Inv X pins σ H' s2∧RelV x u∧J.yQ i H x H'∧tn (i+1) s2.heap∧∀b∈fp,H' b=none) E s1) E s
 done:∀(X:Cx),X.prog=P→X.w=w→X.K=K→X.calm=true→∀(i:Nat) (pins:List (Addr×Obj)) (s:Shared) (σ:St) (H:Hp) (E:Value→Shared→Prop),Inv X pins σ H s→(∀b∈fp,jL X pins H b)→tn i s.heap→J.stop i H→
  wpAny (model P w) X.A (pyNext (.ref it)) (fun r s1=>r=none∧Inv X pins σ H s1) E s
 self:∀(A:Around) (i:Nat) (s:Shared) (Q:Value→Shared→Prop) (E:Value→Shared→Prop),tn i s.heap→Q (.ref it) s→wpAny (model P w) A (pyIter (.ref it)) Q E s
abbrev TI:=St→Hp→(It→Hp→Prop)→Prop
def PIE(X:Cx)(pins:List (Addr×Obj))(σ:St)(tg:Expr)(R:It→Hp→Prop)(Th:Value)(s2:Shared):Prop:=
 ∃(it:Addr) (fp:List Addr) (tn:Nat→Heap→Prop) (J:It) (H':Hp),Th= .ref it∧Inv X pins σ H' s2∧Turn X.prog X.w X.K tg J fp it tn∧tn 0 s2.heap∧(∀b∈fp,jL X pins H' b)∧R J H'
def PI(X:Cx)(tg iter:Expr)(wi:TI):Prop:=
 ∀(pins:List (Addr×Obj)) (s:Shared) (σ:St) (H:Hp) (R:It→Hp→Prop),Inv X pins σ H s→wi σ H R→
  wpAny (model X.prog X.w) X.A (eval iter X.env) (fun v s1=>wpAny (model X.prog X.w) X.A (pyIter v) (PIE X pins σ tg R) X.xe s1) X.xe s
theorem Cj{M:Model}{A:Around}{E:Value→Shared→Prop}{s:Shared}{tg:Expr}{it:Addr}{u:Value}{o:Obj}{n:String}{vs:Array Value}{Q:Unit→Shared→Prop}(ho:s.heap.get? it=some o)(hc:o.cls= .type n)(hd:o.data= .fields vs)
  (hn:["enumerate","zip","dict_itemiterator","dict_reverseitemiterator","odict_iterator","itertools.zip_longest","itertools.pairwise"].contains n=false) (hQ:Q () s):wpAny M A (letOwnedTupleGo tg (.ref it) u) Q E s:=by
 unfold letOwnedTupleGo
 cases tg<;>first
  |exact wpAny_pure hQ
  | (cases u<;>first
    |exact wpAny_pure hQ
    | (refine wpAny_bind (wpAny_load ho ?_)
       rw[hc,hd]
       show wpAny M A (if (["enumerate","zip","dict_itemiterator","dict_reverseitemiterator","odict_iterator","itertools.zip_longest","itertools.pairwise"].contains n&&vs[0]? ==some (rawInt _))=true then _ else _) Q E s
       rw[if_neg (by intro h;rw[hn,Bool.false_and] at h;cases h)]
       exact wpAny_pure hQ))
def Ck(K:PySem.W.Frag)(a:Addr):It:=
 ⟨fun i H=>∃xs x,bR K H a xs∧xs[i]? =some x,fun i H x H'=>H'=H∧∀xs,bR K H a xs→xs[i]? =some x,fun i H=>∃xs,bR K H a xs∧xs.length≤i⟩
def FI(lo:Int)(n:Nat):It:=⟨fun i _=>i<n,fun i H x H'=>H'=H∧x= .int (lo+i),fun i _=>n≤i⟩
theorem AB{P:Program}{w:World}{K:PySem.W.Frag}{tg:Expr}(a it:Addr):Turn P w K tg (Ck K a) [it] it (fun i h=>h.IsListIter it a i) where
 mem:=by simp
 obj:=fun i h st b hb=>by
  have e:b=it:=by simpa using hb
  subst e
  obtain⟨o,e,c,d⟩:=st
  exact⟨o,e,fun v z=>by rw[d] at z;cases z⟩
 keep:=fun i h h' st k=>st.at fun o e=>k it (by simp) o e
 item:=by
  intro X hP hw hK hc i pins s σ H E I hf st hg
  subst hP hw hK
  obtain⟨xs,x,hq,hx⟩:=hg
  obtain⟨its,rv,p,hz⟩:=I.list hq
  obtain⟨u,hu,ru⟩:=rv.get hx
  obtain⟨f0,f1,f2,f3,f4,f5⟩:=hf it (by simp)
  refine wpAny_pyNext_list_item st p.isList (x:=u) (by simpa using hu) fun h' Ir sb=>?_
  have I1:Inv X pins σ H { s with heap:=h' }:=I.turned (t':=s.toks) (fun b o hb e=>(sb.2 b hb).trans e) f0 f1 f3 f4 f5
  obtain⟨o,e,c,d⟩:=id Ir
  exact⟨u,rfl,Cj (s:={ s with heap:=h' }) e c d (by decide) ⟨x,H,I1,ru,⟨rfl,fun ys hy=>by rw[I.uw hy hq];exact hx⟩,Ir,fun b hb=>(hf b hb).1⟩⟩
 done:=by
  intro X hP hw hK hc i pins s σ H E I hf st hg
  subst hP hw hK
  obtain⟨xs,hq,hx⟩:=hg
  obtain⟨its,rv,p,hz⟩:=I.list hq
  obtain⟨f0,f1,f2,f3,f4,f5⟩:=hf it (by simp)
  have hl:=rv.length
  exact wpAny_pyNext_list_end (I.ok.hd hc) st p.isList (by simp;omega) fun h' eb=>⟨rfl,I.turned (t':=s.toks) (fun b o hb e=>eb b o hb e) f0 f1 f3 f4 f5⟩
 self:=fun _ _ _ _ _ st h=>wpAny_pyIter_listiter st h
theorem xf{P:Program}{w:World}{K:PySem.W.Frag}{tg:Expr}(it:Addr)(lo:Int)(n:Nat):Turn P w K tg (FI lo n) [it] it (fun i h=>IsRangeIter h it (lo+(i:Nat)*1) ((n:Int) - (i:Nat)) 1) where
 mem:=by simp
 obj:=fun i h st b hb=>by
  have e:b=it:=by simpa using hb
  subst e
  exact⟨_,st,fun v z=>by
   have z':Data.fields _=Data.cell v:=z
   cases z'⟩
 keep:=fun i h h' st k=>k it (by simp) _ st
 item:=by
  intro X hP hw hK hc i pins s σ H E I hf st hg
  subst hP hw hK
  obtain⟨f0,f1,f2,f3,f4,f5⟩:=hf it (by simp)
  have W:=Walks.range (prog:=X.prog) (w:=X.w) (I.ok.hd hc) it lo 1 n
  refine W.item i s _ _ hg st fun v h' tk hv Ir kk=>?_
  obtain⟨t,rfl⟩:=hv
  have I1:Inv X pins σ H { s with heap:=h',toks:=tk }:=I.turned (fun b o hb e=>kk b o (by simpa using hb) e) f0 f1 f3 f4 f5
  refine⟨_,rfl,Cj (s:={ s with heap:=h',toks:=tk }) (n:="range_iterator") Ir rfl rfl (by decide) ⟨.int (lo+i),H,I1,⟨t,?_⟩,⟨rfl,rfl⟩,Ir,fun b hb=>(hf b hb).1⟩⟩
  rw[Int.mul_one]
 done:=by
  intro X hP hw hK hc i pins s σ H E I hf st hg
  subst hP hw hK
  obtain⟨f0,f1,f2,f3,f4,f5⟩:=hf it (by simp)
  exact wpAny_pyNext_range_end (I.ok.hd hc) st (by have:n≤i:=hg;omega) fun h' eb=>⟨rfl,I.turned (t':=s.toks) (fun b o hb e=>eb b o hb e) f0 f1 f3 f4 f5⟩
 self:=fun _ _ _ _ _ st h=>wpAny_pyIter_rangeiter st h
end L2
namespace L2
open PySem PySem.Spec PyProof.Rows
section
variable {X:Cx}{tg:Expr}
def NI(K:PySem.W.Frag)(tl:TE):TI:=fun σ H R=>tl σ H fun x H1=>∃a,x= .ref a∧(∃xs,bR K H1 a xs)∧R (Ck K a) H1
theorem kB{l:Expr}{tl:TE}(hl:PE X l tl):PI X tg l (NI X.K tl):=by
 intro pins s σ H R I h
 refine bN (hl pins s σ H _ I h) fun v s1 ⟨x,H1,I1,r1,q1⟩=>?_
 obtain⟨a,e,⟨xs,hq⟩,q⟩:=q1
 subst e
 cases r1
 obtain⟨its,rv,p,hz⟩:=I1.list hq
 refine wpAny_pyIter_list p.isList ?_
 refine⟨s1.heap.objs.size,[s1.heap.objs.size],_,_,H1,rfl,I1.kept (t':=s1.toks) fun b o e=>Heap.get?_push_of_some _ e,AB a _,⟨_,Heap.get?_push_size _ rfl,rfl,rfl⟩,fun b hb=>?_,q⟩
 have e:b=s1.heap.objs.size:=by simpa using hb
 subst e
 exact I1.Ci (Nat.le_refl _) (I1.bF.fresh (Nat.le_refl _))
theorem Cm{pins:List (Addr×Obj)}{σ:St}{H:Hp}{s:Shared}{R:It→Hp→Prop}{E:Value→Shared→Prop}{lo hi:Int}{t u v:Tok}{tk:Nat}(I:Inv X pins σ H s)(h1: -(2^62)≤lo)(h2:lo<2^62)(h3: -(2^62)≤hi)(h4:hi<2^62)
  (q:R (FI lo (hi - lo).toNat) H):wpAny (model X.prog X.w) X.A (pyIter (.ref s.heap.objs.size)) (PIE X pins σ tg R) E { s with heap:=s.heap.push { cls:= .type "range",data:= .fields #[.int lo t, .int hi u, .int 1 v] },toks:=tk }:=by
 refine wpAny_pyIter_range (IsRange.new ..) (small_one h1 h2 h3 h4) ?_
 have I1:Inv X pins σ H { s with heap:=s.heap.push { cls:= .type "range",data:= .fields #[.int lo t, .int hi u, .int 1 v] },toks:=tk }:=I.kept fun b o e=>Heap.get?_push_of_some _ e
 refine⟨(s.heap.push { cls:= .type "range",data:= .fields #[.int lo t, .int hi u, .int 1 v] }).objs.size,[(s.heap.push { cls:= .type "range",data:= .fields #[.int lo t, .int hi u, .int 1 v] }).objs.size],_,_,H,rfl,
  I1.kept (t':=tk) fun b o e=>Heap.get?_push_of_some _ e,xf _ lo (hi - lo).toNat,?_,fun b hb=>?_,q⟩
 ·have e1:lo+((0 :Nat):Int)*1=lo:=by simp
  have e2:(((hi - lo).toNat:Nat):Int) - ((0 :Nat):Int)=Builtin.Range.rangeSize lo hi 1:=by rw[rangeSize_one];split<;>omega
  show IsRangeIter _ _ (lo+((0 :Nat):Int)*1) ((((hi - lo).toNat:Nat):Int) - ((0 :Nat):Int)) 1
  rw[e1,e2]
  exact Heap.get?_push_size _ rfl
 ·have e:b=(s.heap.push { cls:= .type "range",data:= .fields #[.int lo t, .int hi u, .int 1 v] }).objs.size:=by simpa using hb
  subst e
  exact I1.Ci (Nat.le_refl _) (I1.bF.fresh (Nat.le_refl _))
def NJ(ta:TA):TI:=fun σ H R=>ta σ H fun vs H1=>∃j:Int,vs=[.int j]∧ -(2^62)≤j∧j<2^62∧R (FI 0 j.toNat) H1
theorem gK{a:Expr}{ta:TA}{p pos:Pos}(hg:Gl X "range")(hm:X.mg "range" =none)(ha:PA X [a] ta)(hs:starEach [a] X.env=[(false,eval a X.env)]:=by rfl):PI X tg (.Call (.Name "range" p) [a] [] pos) (NJ ta):=by
 intro pins s σ H R I h
 refine Call_ (oo I hg hm boot_range (PyProof.Rows.callWith_type1 (bN (ha pos pins s σ H _ I h) fun us s1 ⟨vs,H1,I1,r1,q1⟩=>?_) hs rfl))
 obtain⟨j,e,q1,q2,q⟩:=q1
 subst e
 cases r1 with
 |cons r rr=>
  cases rr
  obtain⟨t,rfl⟩:=r
  exact call_range_1 (Cm I1 (by omega) (by omega) q1 q2 (by simpa using q))
def Uz(wi:TI)(g:TG)(tb:TS):TS:=fun D σ H=>wi σ H fun J H1=>∃W:Nat→Nat→St→Hp→Prop,(∃m,W 0 m σ H1)∧∀i m σ H,W i m σ H→
 (J.stop i H∧D.nx σ H)∨(J.go i H∧∃N:St→Hp→Prop,(∀σ' H',N σ' H'→∃m',m'<m∧W (i+1) m' σ' H')∧∀x H',J.yQ i H x H'→g x σ H' fun σ2 H2=>tb { D with nx:=N,ct:=N,bk:=D.nx } σ2 H2)
def ou(fp:List Addr)(h:Heap):List (Addr×Obj):=fp.filterMap fun b=>(h.get? b).map fun o=>(b,o)
theorem hZ{fp:List Addr}{h:Heap}{b:Addr}{o:Obj}(hb:b∈fp)(e:h.get? b=some o):(b,o)∈ou fp h:=List.mem_filterMap.mpr ⟨b,hb,by rw[e];rfl⟩
theorem AD{fp:List Addr}{h:Heap}{p:Addr×Obj}(hp:p∈ou fp h):p.1∈fp∧h.get? p.1=some p.2:=by
 obtain⟨b,hb,e⟩:=List.mem_filterMap.mp hp
 cases q:h.get? b with
 |none=>rw[q] at e;cases e
 |some o=>
  rw[q] at e
  have e':(b,o)=p:=Option.some.inj e
  subst e'
  exact⟨hb,q⟩
theorem Inv.pinned{pins:List (Addr×Obj)}{σ:St}{H:Hp}{s:Shared}{fp:List Addr}(I:Inv X pins σ H s)(hf:∀b∈fp,jL X pins H b)(ho:∀b∈fp,∃o,s.heap.get? b=some o∧∀v,o.data≠ .cell v):Inv X (pins++ou fp s.heap) σ H s:=
 I.nu fun p hp=>(List.mem_append.mp hp).elim (fun z=>I.pin p (List.mem_append_right _ z)) fun z=>by
   obtain⟨hb,e⟩:=AD z
   obtain⟨f0,f1,f2,_⟩:=hf p.1 hb
   obtain⟨o,e',d⟩:=ho p.1 hb
   rw[e] at e';cases e'
   exact⟨e,f0,f1,f2,d⟩
theorem Inv.dH{pins pl:List (Addr×Obj)}{σ:St}{H:Hp}{s:Shared}(I:Inv X (pins++pl) σ H s):Inv X pins σ H s:=I.nu fun p hp=>I.pin p (List.mem_append_right _ (List.mem_append_left _ hp))
theorem ow{iter:Expr}{body:List Stmt}{wi:TI}{g:TG}{tb:TS}{pos:Pos}(hp:PassesOwn (model X.prog X.w) X.A X.env X.xe)(hc:X.calm=true)(hi:PI X tg iter wi)(hg:PG X tg g)(hb:jV X body tb)
  (hs:∀x,foldedSetIterable iter X.env x=pure x:=by intro _;rfl):PS X (.For tg iter body [] pos) (Uz wi g tb):=by
 intro pins s σ H D I h
 refine wpAny_For (bN (hi pins s σ H _ I h) fun v s1 h1=>bN h1 fun Th s2 h2=>?_) hs
 obtain⟨it,fp,tn,J,H2,e,I2,T,FJ,f2,W,⟨m0,w0⟩,turn⟩:=h2
 subst e
 have xg:∀{H':Hp},(∀b∈fp,H' b=none)→∀b∈fp,jL X pins H' b:=fun hn b hb=>⟨hn b hb,(f2 b hb).2⟩
 refine codeAny_forLoop_any (fun n s'=>∃i σ' H',Inv X pins σ' H' s'∧tn i s'.heap∧(∀b∈fp,H' b=none)∧W i n σ' H') ?_ m0 ⟨0,σ,H2,I2,FJ,fun b hb=>(f2 b hb).1,w0⟩
 rintro n s3 ⟨i,σ3,H3,I3,Ti,fr3,w3⟩
 rcases turn i n σ3 H3 w3 with ⟨stop,qn⟩ | ⟨go,N,hN,step⟩
 ·refine wpAny_passesOwn hp (bN (T.done X rfl rfl rfl hc i pins s3 σ3 H3 X.xe I3 (xg fr3) Ti stop) fun r s4 ⟨hr,I4⟩=>?_)
  subst hr
  exact wpAny_execs_nil ⟨σ3,H3,I4,qn⟩
 ·refine wpAny_passesOwn hp (bN (T.item X rfl rfl rfl hc i pins s3 σ3 H3 X.xe I3 (xg fr3) Ti go) fun r s4 ⟨u,hr,h4⟩=>?_)
  subst hr
  refine wpAny_passesOwn hp (bN h4 fun _ s5 ⟨x,H5,I5,r5,y5,UA,UB⟩=>?_)
  have I5':=I5.pinned (xg UB) (T.obj _ _ UA)
  refine wpAny_passesOwn hp (bN (hg _ s5 σ3 H5 x u _ I5' r5 (step x H5 y5)) fun _ s6 ⟨σ6,H6,I6,q6⟩=>?_)
  refine wpAny_passesOwn hp (bN (hb _ s6 σ6 H6 _ I6 q6) fun f s7 q7=>?_)
  have again:∀{σ7:St} {H7:Hp},Inv X (pins++ou fp s5.heap) σ7 H7 s7→N σ7 H7→∃m,m<n∧∃i σ' H',Inv X pins σ' H' s7∧tn i s7.heap∧(∀b∈fp,H' b=none)∧W i m σ' H':=fun {σ7 H7} I7 n7=>by
   obtain⟨m',hm,w7⟩:=hN σ7 H7 n7
   refine⟨m',hm,i+1,σ7,H7,I7.dH,T.keep _ _ _ UA fun b hb o e=>(I7.pin (b,o) (List.mem_append_right _ (List.mem_append_right _ (hZ hb e)))).1,fun b hb=>?_,w7⟩
   obtain⟨o,e,d⟩:=T.obj _ _ UA b hb
   exact(I7.pin (b,o) (List.mem_append_right _ (List.mem_append_right _ (hZ hb e)))).2.1
  cases f with
  |next=>obtain⟨σ7,H7,I7,n7⟩:=q7;exact again I7 n7
  |cont=>obtain⟨σ7,H7,I7,n7⟩:=q7;exact again I7 n7
  |brk=>obtain⟨σ7,H7,I7,q7⟩:=q7;exact⟨σ7,H7,I7.dH,q7⟩
  |ret v=>obtain⟨x7,σ7,H7,I7,r7,q7⟩:=q7;exact⟨x7,σ7,H7,I7.dH,r7,q7⟩
end
theorem Cn{K:PySem.W.Frag}{a:Addr}{xs:List V}{g:TG}{tb:TS}{D:Ends}{σ:St}{H:Hp}(Pv:Nat→St→Hp→Prop)(h0:Pv 0 σ H)(hl:∀i σ H,i≤xs.length→Pv i σ H→bR K H a xs)
  (hs:∀i x σ H,xs[i]? =some x→Pv i σ H→g x σ H fun σ2 H2=>tb { D with nx:=Pv (i+1),ct:=Pv (i+1),bk:=D.nx } σ2 H2) (hd:∀σ H,Pv xs.length σ H→D.nx σ H):
  ∃W:Nat→Nat→St→Hp→Prop,(∃m,W 0 m σ H)∧∀i m σ H,W i m σ H→
   ((Ck K a).stop i H∧D.nx σ H)∨((Ck K a).go i H∧∃N:St→Hp→Prop,(∀σ' H',N σ' H'→∃m',m'<m∧W (i+1) m' σ' H')∧∀x H',(Ck K a).yQ i H x H'→g x σ H' fun σ2 H2=>tb { D with nx:=N,ct:=N,bk:=D.nx } σ2 H2):=by
 refine⟨fun i m σ H=>m=xs.length - i∧i≤xs.length∧Pv i σ H,⟨xs.length,by simp,Nat.zero_le _,h0⟩,?_⟩
 rintro i m σ H ⟨rfl,hi,p⟩
 have q:=hl i σ H hi p
 by_cases Iu:i<xs.length
 ·refine .inr ⟨⟨xs,xs[i],q,by simp [Iu]⟩,Pv (i+1),fun σ' H' p'=>⟨xs.length - (i+1),by omega,rfl,Iu,p'⟩,fun x H' y=>?_⟩
  obtain⟨e,y⟩:=y
  subst e
  exact hs i x σ _ (y xs q) p
 ·have e:i=xs.length:=by omega
  subst e
  exact .inl ⟨⟨xs,q,Nat.le_refl _⟩,hd σ H p⟩
theorem lW{lo:Int}{n:Nat}{g:TG}{tb:TS}{D:Ends}{σ:St}{H:Hp}(Pv:Nat→St→Hp→Prop)(h0:Pv 0 σ H)
  (hs:∀i σ H,i<n→Pv i σ H→g (.int (lo+i)) σ H fun σ2 H2=>tb { D with nx:=Pv (i+1),ct:=Pv (i+1),bk:=D.nx } σ2 H2) (hd:∀σ H,Pv n σ H→D.nx σ H):
  ∃W:Nat→Nat→St→Hp→Prop,(∃m,W 0 m σ H)∧∀i m σ H,W i m σ H→
   ((FI lo n).stop i H∧D.nx σ H)∨((FI lo n).go i H∧∃N:St→Hp→Prop,(∀σ' H',N σ' H'→∃m',m'<m∧W (i+1) m' σ' H')∧∀x H',(FI lo n).yQ i H x H'→g x σ H' fun σ2 H2=>tb { D with nx:=N,ct:=N,bk:=D.nx } σ2 H2):=by
 refine⟨fun i m σ H=>m=n - i∧i≤n∧Pv i σ H,⟨n,by simp,Nat.zero_le _,h0⟩,?_⟩
 rintro i m σ H ⟨rfl,hi,p⟩
 by_cases Iu:i<n
 ·refine .inr ⟨Iu,Pv (i+1),fun σ' H' p'=>⟨n - (i+1),by omega,rfl,Iu,p'⟩,fun x H' y=>?_⟩
  obtain⟨e,y⟩:=y
  subst e y
  exact hs i σ _ Iu p
 ·have e:i=n:=by omega
  subst e
  exact .inl ⟨Nat.le_refl _,hd σ H p⟩
end L2
namespace L2
open PySem PySem.Spec PyProof.Rows
abbrev R2:=V→V→Hp→VK→Prop
def nz(X:Cx)(f:Value→Value→Sem Value)(r:R2):Prop:=
 ∀(pins:List (Addr×Obj)) (s:Shared) (σ:St) (H:Hp) (x y:V) (v u:Value) (Q:VK),Inv X pins σ H s→RelV x v→RelV y u→r x y H Q→
  wpAny (model X.prog X.w) X.A (f v u) (EP X pins σ Q) X.xe s
def UC(X:Cx)(f:Value→Sem Value)(r:V→Hp→VK→Prop):Prop:=
 ∀(pins:List (Addr×Obj)) (s:Shared) (σ:St) (H:Hp) (x:V) (v:Value) (Q:VK),Inv X pins σ H s→RelV x v→r x H Q→
  wpAny (model X.prog X.w) X.A (f v) (EP X pins σ Q) X.xe s
def gL(X:Cx)(f:Value)(r:List V→Hp→VK→Prop):Prop:=
 ∀(pins:List (Addr×Obj)) (s:Shared) (σ:St) (H:Hp) (xs:List V) (us:List Value) (Q:VK),Inv X pins σ H s→Vals xs us→r xs H Q→
  wpAny (model X.prog X.w) X.A (call f us) (EP X pins σ Q) X.xe s
def UD(X:Cx)(r:V→Hp→(Bool→Hp→Prop)→Prop):Prop:=
 ∀(pins:List (Addr×Obj)) (s:Shared) (σ:St) (H:Hp) (x:V) (v:Value) (Q:Bool→Hp→Prop),Inv X pins σ H s→RelV x v→r x H Q→
  wpAny (model X.prog X.w) X.A (truthy v) (TP X pins σ Q) X.xe s
def Tj(r:R2)(ta tb:TE):TE:=fun σ H Q=>ta σ H fun x H1=>tb σ H1 fun y H2=>r x y H2 Q
def tUn(r:V→Hp→VK→Prop)(ta:TE):TE:=fun σ H Q=>ta σ H fun x H1=>r x H1 Q
inductive RI(C:Int→Int→Prop)(g:Int→Int→V)(x y:V)(H:Hp)(Q:VK):Prop
 |mk (i j:Int) (e:x= .int i) (f:y= .int j) (c:C i j) (q:Q (g i j) H)
def rI(C:Int→Int→Prop)(g:Int→Int→V):R2:=RI C g
inductive RJ(g:Int→Int→V)(x y:V)(H:Hp)(Q:VK):Prop
 |mk (i j:Int) (e:x= .int i) (f:y= .int j) (q:Q (g i j) H)
def Km(g:Int→Int→V):R2:=RJ g
def rU(g:Int→V):V→Hp→VK→Prop:=fun x H Q=>∃i,x= .int i∧Q (g i) H
section
variable {X:Cx}{a b c:Expr}{ta tb tc:TE}{pos:Pos}
theorem Kn(ha:PE X a ta)(hb:PE X b tb){pins:List (Addr×Obj)}{s:Shared}{σ:St}{H:Hp}{R:V→V→Hp→Prop}(I:Inv X pins σ H s)
  (h:ta σ H fun x H1=>tb σ H1 fun y H2=>R x y H2) {Q:Value→Shared→Prop} {f:Value→Value→Sem Value}
  (hf:∀v u s2 x y H2,Inv X pins σ H2 s2→RelV x v→RelV y u→R x y H2→wpAny (model X.prog X.w) X.A (f v u) Q X.xe s2):
  wpAny (model X.prog X.w) X.A (eval a X.env) (fun v s₁=>wpAny (model X.prog X.w) X.A (eval b X.env) (fun u s₂=>wpAny (model X.prog X.w) X.A (f v u) Q X.xe s₂) X.xe s₁) X.xe s:=by
 refine bN (ha pins s σ H _ I h) fun v s1 ⟨x,H1,I1,r1,q1⟩=>?_
 refine bN (hb pins s1 σ H1 _ I1 q1) fun u s2 ⟨y,H2,I2,r2,q2⟩=>?_
 exact hf v u s2 x y H2 I2 r1 r2 q2
theorem aB{op:Operator}{r:R2}(ho:nz X (binaryOp op) r)(ha:PE X a ta)(hb:PE X b tb):PE X (.BinOp a op b pos) (Tj r ta tb):=by
 intro pins s σ H Q I h
 exact wpAny_BinOp (Kn ha hb I h fun v u s2 x y H2 I2 rx ry q=>ho pins s2 σ H2 x y v u Q I2 rx ry q)
theorem Iv{op:UnaryOp}{r:V→Hp→VK→Prop}(ho:UC X (unaryOp op) r)(ha:PE X a ta):PE X (.UnaryOp op a pos) (tUn r ta):=by
 intro pins s σ H Q I h
 exact UnaryOp_ (bN (ha pins s σ H _ I h) fun v s1 ⟨x,H1,I1,r1,q1⟩=>ho pins s1 σ H1 x v Q I1 r1 q1)
theorem Tn{f:Value→Value→Sem Value}{C:Int→Int→Prop}{g:Int→Int→Int}
  (rule:∀(i j:Int) (t u:Tok) (s:Shared) (Q:Value→Shared→Prop) (E:Value→Shared→Prop),C i j→Q (.int (g i j) s.toks) { s with toks:=s.toks+1 }→wpAny (model X.prog X.w) X.A (f (.int i t) (.int j u)) Q E s):
  nz X f (rI C fun i j=> .int (g i j)):=by
 intro pins s σ H x y v u Q I rx ry h
 obtain⟨i,j,rfl,rfl,hc,q⟩:=h
 obtain⟨t,rfl⟩:=rx
 obtain⟨t',rfl⟩:=ry
 exact rule i j t t' s _ _ hc ⟨.int (g i j),H,I.tok _,⟨_,rfl⟩,q⟩
theorem NK{f:Value→Value→Sem Value}{g:Int→Int→Int}
  (rule:∀(i j:Int) (t u:Tok) (s:Shared) (Q:Value→Shared→Prop) (E:Value→Shared→Prop),Q (.int (g i j) s.toks) { s with toks:=s.toks+1 }→wpAny (model X.prog X.w) X.A (f (.int i t) (.int j u)) Q E s):
  nz X f (Km fun i j=> .int (g i j)):=by
 intro pins s σ H x y v u Q I rx ry h
 obtain⟨i,j,rfl,rfl,q⟩:=h
 obtain⟨t,rfl⟩:=rx
 obtain⟨t',rfl⟩:=ry
 exact rule i j t t' s _ _ ⟨.int (g i j),H,I.tok _,⟨_,rfl⟩,q⟩
theorem Ko{f:Value→Value→Sem Value}{g:Int→Int→Bool}
  (rule:∀(i j:Int) (t u:Tok) (s:Shared) (Q:Value→Shared→Prop) (E:Value→Shared→Prop),Q (.bool (g i j)) s→wpAny (model X.prog X.w) X.A (f (.int i t) (.int j u)) Q E s):
  nz X f (Km fun i j=> .bl (g i j)):=by
 intro pins s σ H x y v u Q I rx ry h
 obtain⟨i,j,rfl,rfl,q⟩:=h
 obtain⟨t,rfl⟩:=rx
 obtain⟨t',rfl⟩:=ry
 exact rule i j t t' s _ _ ⟨.bl (g i j),H,I,rfl,q⟩
def UE(i j:Int):Prop:=0<j∧j<1073741824
def Kp(i j:Int):Prop:=(-(2^64) <i∧i<2^64)∨(-(2^64) <j∧j<2^64)
theorem Kp.ok{i j:Int}(h:Kp i j):IntMulOk i j:=by
 rcases h with ⟨h1,h2⟩ | ⟨h1,h2⟩
 ·exact .of_left (intBits_le_64 h1 h2)
 ·exact .of_right (intBits_le_64 h1 h2)
theorem cL:nz X (binaryOp .Add) (Km fun i j=> .int (i+j)):=NK fun _ _ _ _ _ _ _ q=>add_int q
theorem xi:nz X (binaryOp .Sub) (Km fun i j=> .int (i - j)):=NK fun _ _ _ _ _ _ _ q=>sub_int q
theorem sx:nz X (binaryOp .Mult) (rI Kp fun i j=> .int (i*j)):=Tn fun _ _ _ _ _ _ _ hc q=>mul_int q hc.ok
theorem cC:nz X (binaryOp .FloorDiv) (rI UE fun i j=> .int (i/j)):=Tn fun i j _ _ _ _ _ hc q=>by
 have h1:(0 :Int) <j:=hc.1
 have h2:j<1073741824:=hc.2
 exact floordiv_int (by omega) (by rw[Int.fdiv_eq_ediv_of_nonneg i (by omega)];exact q) (.inl (PyProof.noPylong_small (by omega)))
theorem bO:nz X (binaryOp .Mod) (rI (fun _ j=>0<j) fun i j=> .int (i%j)):=Tn fun i j _ _ _ _ _ hc q=>by
 have h1:(0 :Int) <j:=hc
 exact mod_int' (by omega) (by rw[Int.fmod_eq_emod_of_nonneg i (by omega)];exact q)
theorem unI{f:Value→Sem Value}{g:Int→Int}
  (rule:∀(i:Int) (t:Tok) (s:Shared) (Q:Value→Shared→Prop) (E:Value→Shared→Prop),Q (.int (g i) s.toks) { s with toks:=s.toks+1 }→wpAny (model X.prog X.w) X.A (f (.int i t)) Q E s):
  UC X f (rU fun i=> .int (g i)):=by
 intro pins s σ H x v Q I rx h
 obtain⟨i,rfl,q⟩:=h
 obtain⟨t,rfl⟩:=rx
 exact rule i t s _ _ ⟨.int (g i),H,I.tok _,⟨_,rfl⟩,q⟩
theorem Co:UC X (unaryOp .USub) (rU fun i=> .int (-i)):=unI fun _ _ _ _ _ q=>neg_int q
end
def NL:V→V→Bool
 | .cJ, .cJ=>true| .cJ, .int _=>true| .int _, .cJ=>true| .cJ, .bl _=>true| .bl _, .cJ=>true| .cJ, .str _=>true| .str _, .cJ=>true
 | .int _, .int _=>true| .bl _, .bl _=>true| .str _, .str _=>true| .xa _, .xa _=>true
 | .int _, .str _=>true| .str _, .int _=>true| .bl _, .str _=>true| .str _, .bl _=>true
 |_,_=>false
def rEq:R2:=fun x y H Q=>NL x y=true∧Q (.bl (decide (x=y))) H
def rNe:R2:=fun x y H Q=>NL x y=true∧Q (.bl (!decide (x=y))) H
theorem yS{i j:Int}:decide (V.int i=V.int j)=(i==j):=by
 rw[Bool.eq_iff_iff]
 simp
theorem Cp{i j:Bool}:decide (V.bl i=V.bl j)=(i==j):=by
 rw[Bool.eq_iff_iff]
 simp
theorem yU{i j:Str}:decide (V.str i=V.str j)=(i==j):=by
 rw[Bool.eq_iff_iff]
 simp
theorem yV{i j:Array UInt8}:decide (V.xa i=V.xa j)=(i.toList==j.toList):=by
 rw[Bool.eq_iff_iff]
 cases i
 cases j
 simp
section
variable {X:Cx}{a b c:Expr}{ta tb tc:TE}{pos:Pos}
theorem bL{pins:List (Addr×Obj)}{σ:St}{H:Hp}{s:Shared}{Q:VK}{k k':Bool}(I:Inv X pins σ H s)(q:Q (.bl k) H)(e:k=k'):EP X pins σ Q (.bool k') s:=by
 subst e
 exact⟨.bl k,H,I,rfl,q⟩
theorem cI:nz X (compareOp .Eq) rEq:=by
 intro pins s σ H x y v u Q I rx ry h
 obtain⟨hs,q⟩:=h
 cases x with
 |cJ=>
  cases rx
  cases y with
  |cJ=>cases ry;exact PySem.EqNone.eq_none_none (bL I q (by simp))
  |bl j=>cases ry;exact PySem.EqNone.eq_none_bool (bL I q (by simp))
  |int j=>obtain⟨t',rfl⟩:=ry;exact PySem.EqNone.eq_none_int (bL I q (by simp))
  |str j=>obtain⟨t',rfl⟩:=ry;exact PySem.EqNone.eq_none_str (bL I q (by simp))
  |_=>exact absurd (show false=true from hs) Bool.false_ne_true
 |bl i=>
  cases rx
  cases y with
  |cJ=>cases ry;exact PySem.EqNone.eq_bool_none (bL I q (by simp))
  |bl j=>cases ry;exact eq_bool (bL I q Cp)
  |str j=>obtain⟨t',rfl⟩:=ry;exact PySem.EqMixed.eq_bool_str (bL I q (by simp))
  |_=>exact absurd (show false=true from hs) Bool.false_ne_true
 |int i=>
  obtain⟨t,rfl⟩:=rx
  cases y with
  |cJ=>cases ry;exact PySem.EqNone.eq_int_none (bL I q (by simp))
  |int j=>obtain⟨t',rfl⟩:=ry;exact eq_int (bL I q yS)
  |str j=>obtain⟨t',rfl⟩:=ry;exact PySem.EqMixed.eq_int_str (bL I q (by simp))
  |_=>exact absurd (show false=true from hs) Bool.false_ne_true
 |str i=>
  obtain⟨t,rfl⟩:=rx
  cases y with
  |cJ=>cases ry;exact PySem.EqNone.eq_str_none (bL I q (by simp))
  |bl j=>cases ry;exact PySem.EqMixed.eq_str_bool (bL I q (by simp))
  |int j=>obtain⟨t',rfl⟩:=ry;exact PySem.EqMixed.eq_str_int (bL I q (by simp))
  |str j=>obtain⟨t',rfl⟩:=ry;exact eq_str (bL I q yU)
  |_=>exact absurd (show false=true from hs) Bool.false_ne_true
 |xa i=>
  obtain⟨t,rfl⟩:=rx
  cases y with
  |xa j=>obtain⟨t',rfl⟩:=ry;exact PySem.W.eq_bytes (bL I q yV)
  |_=>exact absurd (show false=true from hs) Bool.false_ne_true
 |_=>cases y<;>exact absurd (show false=true from hs) Bool.false_ne_true
theorem yW:nz X (compareOp .NotEq) rNe:=by
 intro pins s σ H x y v u Q I rx ry h
 obtain⟨hs,q⟩:=h
 cases x with
 |cJ=>
  cases rx
  cases y with
  |cJ=>cases ry;exact PySem.EqNone.ne_none_none (bL I q (by simp))
  |bl j=>cases ry;exact PySem.EqNone.ne_none_bool (bL I q (by simp))
  |int j=>obtain⟨t',rfl⟩:=ry;exact PySem.EqNone.ne_none_int (bL I q (by simp))
  |str j=>obtain⟨t',rfl⟩:=ry;exact PySem.EqNone.ne_none_str (bL I q (by simp))
  |_=>exact absurd (show false=true from hs) Bool.false_ne_true
 |bl i=>
  cases rx
  cases y with
  |cJ=>cases ry;exact PySem.EqNone.ne_bool_none (bL I q (by simp))
  |bl j=>cases ry;exact ne_bool (bL I q (congrArg not Cp))
  |str j=>obtain⟨t',rfl⟩:=ry;exact PySem.EqMixed.ne_bool_str (bL I q (by simp))
  |_=>exact absurd (show false=true from hs) Bool.false_ne_true
 |int i=>
  obtain⟨t,rfl⟩:=rx
  cases y with
  |cJ=>cases ry;exact PySem.EqNone.ne_int_none (bL I q (by simp))
  |int j=>obtain⟨t',rfl⟩:=ry;exact ne_int (bL I q (congrArg not yS))
  |str j=>obtain⟨t',rfl⟩:=ry;exact PySem.EqMixed.ne_int_str (bL I q (by simp))
  |_=>exact absurd (show false=true from hs) Bool.false_ne_true
 |str i=>
  obtain⟨t,rfl⟩:=rx
  cases y with
  |cJ=>cases ry;exact PySem.EqNone.ne_str_none (bL I q (by simp))
  |bl j=>cases ry;exact PySem.EqMixed.ne_str_bool (bL I q (by simp))
  |int j=>obtain⟨t',rfl⟩:=ry;exact PySem.EqMixed.ne_str_int (bL I q (by simp))
  |str j=>obtain⟨t',rfl⟩:=ry;exact ne_str (bL I q (congrArg not yU))
  |_=>exact absurd (show false=true from hs) Bool.false_ne_true
 |xa i=>
  obtain⟨t,rfl⟩:=rx
  cases y with
  |xa j=>obtain⟨t',rfl⟩:=ry;exact PySem.W.ne_bytes (bL I q (congrArg not yV))
  |_=>exact absurd (show false=true from hs) Bool.false_ne_true
 |_=>cases y<;>exact absurd (show false=true from hs) Bool.false_ne_true
theorem yX:nz X (compareOp .Lt) (Km fun i j=> .bl (decide (i<j))):=Ko fun _ _ _ _ _ _ _ q=>lt_int q
theorem Cq:nz X (compareOp .LtE) (Km fun i j=> .bl (decide (i≤j))):=Ko fun _ _ _ _ _ _ _ q=>le_int q
theorem qy:nz X (compareOp .Gt) (Km fun i j=> .bl (decide (j<i))):=Ko fun _ _ _ _ _ _ _ q=>gt_int q
theorem bq(b:Expr){op:CmpOp}(h:op≠ .In:=by decide)(h2:op≠ .NotIn:=by decide):behindInMarks op b=false:=by
 have e1:(op==CmpOp.In)=false:=by cases op<;>first|rfl|exact absurd rfl h
 have e2:(op==CmpOp.NotIn)=false:=by cases op<;>first|rfl|exact absurd rfl h2
 cases b<;>simp [behindInMarks,e1,e2]
theorem jo{op:CmpOp}{r:R2}(ho:nz X (compareOp op) r)(ha:PE X a ta)(hb:PE X b tb)(hm:behindInMarks op b=false):PE X (.Compare a [op] [b] pos) (Tj r ta tb):=by
 intro pins s σ H Q I h
 exact wpAny_Compare1 (Kn ha hb I h fun v u s2 x y H2 I2 rx ry q=>ho pins s2 σ H2 x y v u Q I2 rx ry q) hm
def NM(t:TE):TT:=fun σ H Q=>t σ H fun x H'=>∃k,x= .bl k∧Q k H'
theorem bp{op:CmpOp}{r:R2}(ho:nz X (compareOp op) r)(ha:PE X a ta)(hb:PE X b tb)(hm:behindInMarks op b=false):PT X (.Compare a [op] [b] pos) (NM (Tj r ta tb)):=by
 intro pins s σ H Q I h
 refine wpAny_isTrue_Compare1 (bN (ha pins s σ H _ I h) fun v s1 ⟨x,H1,I1,r1,q1⟩=>bN (hb pins s1 σ H1 _ I1 q1) fun u s2 ⟨y,H2,I2,r2,q2⟩=>
  bN (ho pins s2 σ H2 x y v u _ I2 r1 r2 q2) fun c s3 ⟨z,H3,I3,r3,k,e,q3⟩=>?_) hm
 subst e
 cases r3
 exact wpAny_truthy_bool ⟨H3,I3,q3⟩
def Kq(r r':R2)(ta tb tc:TE):TE:=fun σ H Q=>ta σ H fun x H1=>tb σ H1 fun y H2=>r x y H2 fun z H3=>∃k,z= .bl k∧
 (if k=true then tc σ H3 fun w' H4=>r' y w' H4 Q else Q (.bl false) H3)
theorem kD{op UG:CmpOp}{r r':R2}(ho:nz X (compareOp op) r)(FF:nz X (compareOp UG) r')(ha:PE X a ta)(hb:PE X b tb)(hc:PE X c tc)
  (hm:lastMarks [op,UG] [b,c]=false:=by with_unfolding_all rfl):PE X (.Compare a [op,UG] [b,c] pos) (Kq r r' ta tb tc):=by
 intro pins s σ H Q I h
 refine Compare_chain (bN (ha pins s σ H _ I h) fun v s1 ⟨x,H1,I1,r1,q1⟩=>chain_link (bN (hb pins s1 σ H1 _ I1 q1) fun u s2 ⟨y,H2,I2,r2,q2⟩=>
  bN (ho pins s2 σ H2 x y v u _ I2 r1 r2 q2) fun d s3 ⟨z,H3,I3,r3,k,e,q3⟩=>?_)) hm
 subst e
 cases r3
 refine wpAny_truthy_bool ?_
 cases k with
 |false=>exact ite_ff ⟨.bl false,H3,I3,rfl,q3⟩
 |true=>exact ite_tt (chain_last (bN (hc pins s3 σ H3 _ I3 q3) fun w' s4 ⟨z',H4,I4,r4,q4⟩=>FF pins s4 σ H4 y z' u w' Q I4 r2 r4 q4))
def NO(K:PySem.W.Frag)(x:V)(H:Hp)(k:Bool):Prop:=
 match x with
 | .cJ=>k=false
 | .bl b=>k=b
 | .int i=>k=(i != 0)
 | .str y=>y.length≤sizeLine∧k=((y.length:Int) != 0)
 | .xa y=>y.size≤sizeLine∧k=((y.size:Int) != 0)
 | .ref p=>(∃xs,bR K H p xs∧k=!xs.isEmpty)∨(∃xs,ku K H p xs∧k=!xs.isEmpty)∨∃aL,H p=some (.dK aL)∧k=!aL.isEmpty
 |_=>False
theorem xj{κ:Type}{aL:List (κ×V)}{vs:List (κ×Value)}(r:KV aL vs):(!vs.isEmpty)=!aL.isEmpty:=by
 cases r<;>rfl
theorem oy{xs:List V}{its:List Value}(r:Vals xs its):(!its.toArray.isEmpty)=!xs.isEmpty:=by
 cases r<;>simp
theorem j5:(sizeLine:Nat) <2^63:=by rw[sizeLine_eq];decide
theorem Kr:UD X (fun x H Q=>∃k,NO X.K x H k∧Q k H):=by
 intro pins s σ H x v Q I rx h
 obtain⟨k,e,q⟩:=h
 have hl:=j5
 have hs:sizeLine=16777216:=sizeLine_eq
 cases x with
 |cJ=>
  cases rx
  have e':k=false:=e
  subst e'
  exact truthy_none ⟨H,I,q⟩
 |bl b=>
  cases rx
  have e':k=b:=e
  subst e'
  exact wpAny_truthy_bool ⟨H,I,q⟩
 |int i=>
  obtain⟨t,rfl⟩:=rx
  have e':k=(i != 0):=e
  subst e'
  exact PySem.P.truthy_int ⟨H,I,q⟩
 |str y=>
  obtain⟨t,rfl⟩:=rx
  obtain⟨hy,e'⟩:y.length≤sizeLine∧k=((y.length:Int) != 0):=e
  subst e'
  exact PySem.P.truthy_str (by omega) ⟨H,I.tok _,q⟩
 |xa y=>
  obtain⟨t,rfl⟩:=rx
  obtain⟨hy,e'⟩:y.size≤sizeLine∧k=((y.size:Int) != 0):=e
  subst e'
  exact PySem.W.truthy_bytes (by omega) ⟨H,I.tok _,q⟩
 |ref p=>
  cases rx
  have e':(∃xs,bR X.K H p xs∧k=!xs.isEmpty)∨(∃xs,ku X.K H p xs∧k=!xs.isEmpty)∨∃aL,H p=some (.dK aL)∧k=!aL.isEmpty:=e
  rcases e' with ⟨xs,hx,e'⟩ | ⟨xs,hx,e'⟩ | ⟨aL,hx,e'⟩
  ·subst e'
   obtain⟨its,r,pl,hz⟩:=I.list hx
   have hlen:=r.length
   exact wpAny_truthy_list pl.isList (by simp only [List.size_toArray];omega) ⟨H,I.tok _,by rw[oy r];exact q⟩
  ·subst e'
   obtain⟨its,r,pl,hz⟩:=I.tuple hx
   have hlen:=r.length
   exact truthy_tuple pl (by simp only [List.size_toArray];omega) ⟨H,I.tok _,by rw[oy r];exact q⟩
  ·subst e'
   obtain⟨hz,hS,vs,r,m⟩:aL.length≤sizeLine∧(p==sysModules)=false∧∃vs,KV aL vs∧s.heap.DictOf (b9 X.prog X.w) p vs:=I.bF p _ hx
   have hlen:aL.length=vs.length:=Paired.length r
   exact wpAny_truthy_dict hS m (by omega) ⟨H,I.tok _,by rw[xj r];exact q⟩
 |_=>exact(show False from e).elim
theorem uy(ha:PE X a ta)(he:∀whole,isTrue a X.env whole=(do let v←whole;standAt a.pos;holding [v] (truthy v))):
  PT X a (fun σ H Q=>ta σ H fun x H'=>∃k,NO X.K x H' k∧Q k H'):=by
 intro pins s σ H Q I h
 exact isTrue_plain (bN (ha pins s σ H _ I h) fun v s1 ⟨x,H1,I1,r1,q1⟩=>Kr pins s1 σ H1 x v Q I1 r1 q1) (he _)
theorem aD:nz X (binaryOp .Add) (fun x y H Q=>∃i j,x= .str i∧y= .str j∧i.length+j.length≤sizeLine∧Q (.str (i++j)) H):=by
 intro pins s σ H x y v u Q I rx ry h
 obtain⟨i,j,rfl,rfl,hz,q⟩:=h
 obtain⟨t,rfl⟩:=rx
 obtain⟨t',rfl⟩:=ry
 exact add_str (fun t' tk=>⟨.str (i++j),H,I.tok _,⟨_,rfl⟩,q⟩) hz
theorem vals1{x:V}{us:List Value}(r:Vals [x] us):∃u,us=[u]∧RelV x u:=by
 cases r with
 |cons r1 r2=>cases r2;exact⟨_,rfl,r1⟩
theorem vals2{x y:V}{us:List Value}(r:Vals [x,y] us):∃u w',us=[u,w']∧RelV x u∧RelV y w':=by
 cases r with
 |cons r1 r2=>
  cases r2 with
  |cons r3 r4=>cases r4;exact⟨_,_,rfl,r1,r3⟩
theorem Cr:gL X (.builtin "abs") (fun xs H Q=>∃i,xs=[.int i]∧Q (.int (if i<0 then -i else i)) H):=by
 intro pins s σ H xs us Q I r h
 obtain⟨i,rfl,q⟩:=h
 obtain⟨u,rfl,t,rfl⟩:=vals1 r
 exact call_abs_int fun u tk=>⟨.int (if i<0 then -i else i),H,I.tok _,⟨_,rfl⟩,q⟩
theorem AE(hc:X.calm=true):gL X (.builtin "max") (fun xs H Q=>∃i j,xs=[.int i, .int j]∧Q (.int (if j>i then j else i)) H):=by
 intro pins s σ H xs us Q I r h
 obtain⟨i,j,rfl,q⟩:=h
 obtain⟨u,w',rfl,⟨t,rfl⟩,⟨t',rfl⟩⟩:=vals2 r
 refine max_two_ints (I.ok.hd hc) fun h' tk k=>⟨_,H,I.kept k,?_,q⟩
 by_cases hj:j>i
 ·rw[if_pos hj,if_pos hj];exact⟨_,rfl⟩
 ·rw[if_neg hj,if_neg hj];exact⟨_,rfl⟩
theorem kE:gL X (.type "str") (fun xs H Q=>∃i,xs=[.int i]∧i.natAbs.log2<1920∧Q (.str (toString i)) H):=by
 intro pins s σ H xs us Q I r h
 obtain⟨i,rfl,hz,q⟩:=h
 obtain⟨u,rfl,t,rfl⟩:=vals1 r
 exact PySem.P.str_of_int hz ⟨.str _,H,I.tok _,⟨_,rfl⟩,q⟩
end
end L2
namespace L2
open PySem PySem.Spec PyProof.Rows
structure xk(h:Heap)(x dx C:Addr)(mA:Str→Option Value):Prop where
 obj:h.get? x=some (PySem.W.instObj C dx)
 ns:h.Ns1 dx mA
 ne:dx≠x
theorem lX{h:Heap}{dx:Addr}{mA:Str→Option Value}(n:h.Ns1 dx mA):∃od,h.get? dx=some od∧∀name,PySem.W.lookIn name od=some (mA name):=by
 obtain⟨o,es,ep,ho,hd,hk,_,hm⟩:=n
 refine⟨o,ho,fun name=>?_⟩
 have e:=hm name
 unfold nsFind findBy at e
 rw[←Array.find?_toList] at e
 unfold PySem.W.lookIn
 rw[hd]
 dsimp only
 split
 ·rename_i y q
  rw[q] at e
  exact congrArg some e
 ·rename_i q
  rw[q] at e
  have a:es.toList.any (·.refKey)=false:=by
   rw[List.any_eq_false]
   intro y hy
   obtain⟨z,t,UH⟩:=hk y (Array.mem_toList_iff.mp hy)
   simp [DictEntry.refKey,UH]
  have a':¬es.toList.any (·.refKey)=true:=by rw[a];exact Bool.false_ne_true
  rw[if_neg a']
  exact congrArg some e
theorem xk.look{h:Heap}{x dx C:Addr}{mA:Str→Option Value}(I:xk h x dx C mA):∃od,PySem.W.InstAt h x (PySem.W.instObj C dx) C (some od)∧∀name,PySem.W.lookIn name od=some (mA name):=
 let ⟨od,ho,hl⟩:=lX I.ns
 ⟨od,⟨I.obj,rfl,rfl,ho⟩,hl⟩
section
variable {prog:Program}{w:World}{A:Around}{E:Value→Shared→Prop}{s:Shared}{K:PySem.W.Frag}{x dx C f:Addr}{mA:Str→Option Value}{name:Str}{v:Value}
theorem get_map{expr:Bool}{Q:Value→Shared→Prop}(X:K.In s.heap)(I:xk s.heap x dx C mA)(hg:PySem.W.plainGet K C name=true)(hh:PySem.W.hasDictIn K C=true)
  (ha:PySem.W.findIn K (.ref C) name=some none) (hv:mA name=some v) (Ks:PySem.W.handedIn v=true) (h:Q v { s with toks:=s.toks+1 }):
  wpAny (model prog w) A (getAttr (.ref x) name expr) Q E s:=by
 obtain⟨od,J,hl⟩:=I.look
 exact PySem.W.get_value X J (PySem.W.plainGet_of hg).1 (PySem.W.findObj_own hh ha rfl (by rw[hl,hv])) Ks h
theorem Cs{pl:Sem Bool}{Q:Value×List Value→Shared→Prop}(X:K.In s.heap)(I:xk s.heap x dx C mA)(hg:PySem.W.plainGet K C name=true)
  (hf:PySem.W.findIn K (.ref C) name=some (some (.ref f))) (ht:PySem.W.isFn K (.ref f)=true) (hv:mA name=none) (h:Q (.ref f,[.ref x]) s):
  wpAny (model prog w) A (getMethod (.ref x) name pl) Q E s:=by
 obtain⟨od,J,hl⟩:=I.look
 exact PySem.W.method_fn X J (PySem.W.plainGet_of hg).1 (PySem.W.plainGet_of hg).2 hf (beq_iff_eq.mp ht) (by show (PySem.W.lookIn name od).map (·.isSome)=some false;rw[hl,hv];rfl) h
theorem FK{ns:List Str}{Q:Unit→Shared→Prop}(X:K.In s.heap)(I:xk s.heap x dx C mA)
  (hs:PySem.W.findIn K (.ref C) "__setattr__" =some (some (.builtin "object.__setattr__"))) (hp:PySem.W.plainOver K C=true) (ht:PySem.W.takerIn K C name=some none) (hh:PySem.W.hasDictIn K C=true)
  (hw:PySem.Within mA ns) (hsz:ns.length≤sizeLine)
  (h:∀h',xk h' x dx C (fun y=>if y=name then some v else mA y)→Heap.SameBut dx s.heap h'→Q () { s with heap:=h',toks:=s.toks+2 }):
  wpAny (model prog w) A (setAttr (.ref x) name v) Q E s:=by
 obtain⟨od,J,hl⟩:=I.look
 refine PySem.W.set_plain X J hs (PySem.W.osa_open (s:={ s with toks:=s.toks+1 }) (r:=none) X J hp ht fun b=>?_)
 obtain⟨cd,hc,Im⟩:=PySem.W.any_some hh
 have hx:s.heap.get? x=some ⟨.ref C,some dx, .plain,#[]⟩:=I.obj
 refine wpAny_bind (wpAny_pure (wpAny_bind (wpAny_bind (wpAny_loadPart hx (wpAny_bind (PySem.W.Looks.here (s:={ s with toks:=s.toks+1 }) (PySem.W.looks_clsIn X hc) ?_))))))
 rw[Im]
 refine wpAny_pure (a:=some dx) (wpAny_bind (wpAny_pure (wpAny_bind ?_)))
 refine wpAny_nsSet1 (s:={ s with toks:=s.toks+1 }) I.ns fun h' Iw AF=>?_
 obtain⟨oD,esD,epD,hoD,hdD,FL⟩:=Iw.count (PySem.Within.cons name v hw)
 refine wpAny_bind (wpAny_lookBehind hoD (by rw[hdD];exact pastItsLine_dict (Nat.le_trans FL (by rw[List.length_cons];omega))) ?_)
 exact wpAny_pure (h _ ⟨(AF.2 _ (Ne.symm I.ne)).trans I.obj,Iw,I.ne⟩ AF)
theorem Ct{R:Result→Shared→Prop}{vs:List Value}{kw:List (Str×Value)}(X:K.In s.heap)(hm:PySem.W.makesIn K C=true)
  (hi:PySem.W.findIn K (.ref C) "__init__" =some (some (.ref f))) (hf:PySem.W.typeIn K (.ref f)=some (.type "function"))
  (h:codeAny (model prog w) (A.under (.builtin "type.__call__" ⟨.ref C::vs,kw⟩)) (.call (.ref f) ⟨.ref (s.heap.objs.size+1)::vs,kw⟩) (PySem.W.InitBack (s.heap.objs.size+1) R)
   { s with heap:=(s.heap.push PySem.W.emptyDict).push (PySem.W.instObj C s.heap.objs.size) }):
  codeAny (model prog w) A (.call (.ref C) ⟨vs,kw⟩) R s:=by
 obtain⟨hh,g,d,t,os⟩:=s
 exact PySem.W.make_core (PySem.W.makes_of X hm) (PySem.W.looks_findIn X hi) (fun self=>PySem.W.bind_fn X self hf) (.inl rfl) h
end
def cW(f:Str)(v:V):List (Str×V)→List (Str×V)
 | []=>[(f,v)]
 | (g,x)::r=>if g=f then (g,v)::r else (g,x)::cW f v r
theorem aJ(f g:Str)(v:V):∀fs:List (Str×V),(cW f v fs).lookup g=if g=f then some v else fs.lookup g
 | []=>by
   show List.lookup g [(f,v)]=_
   by_cases h:g=f
   ·have hb:(g==f)=true:=beq_iff_eq.mpr h
    simp only [List.lookup,hb,if_pos h]
   ·have hb:(g==f)=false:=beq_eq_false_iff_ne.mpr h
    simp only [List.lookup,hb,if_neg h]
 | (k,x)::r=>by
   have ih:=aJ f g v r
   rw[show cW f v ((k,x)::r)=(if k=f then (k,v)::r else (k,x)::cW f v r) from rfl]
   by_cases hk:k=f
   ·rw[if_pos hk]
    by_cases h:g=k
    ·have hb:(g==k)=true:=beq_iff_eq.mpr h
     simp only [List.lookup,hb,if_pos (h.trans hk)]
    ·have hb:(g==k)=false:=beq_eq_false_iff_ne.mpr h
     simp only [List.lookup,hb,if_neg (fun e:g=f=>h (e.trans hk.symm))]
   ·rw[if_neg hk]
    by_cases h:g=k
    ·have hb:(g==k)=true:=beq_iff_eq.mpr h
     simp only [List.lookup,hb,if_neg (fun e:g=f=>hk (h.symm.trans e))]
    ·have hb:(g==k)=false:=beq_eq_false_iff_ne.mpr h
     simp only [List.lookup,hb]
     exact ih
theorem gN(f:Str)(v:V):∀fs:List (Str×V),f∈(cW f v fs).map (·.1)∧∀g,g∈fs.map (·.1)→g∈(cW f v fs).map (·.1)
 | []=>⟨by simp [cW],fun g h=>by simp at h⟩
 | (k,x)::r=>by
   obtain⟨i1,i2⟩:=gN f v r
   rw[show cW f v ((k,x)::r)=(if k=f then (k,v)::r else (k,x)::cW f v r) from rfl]
   by_cases hk:k=f
   ·rw[if_pos hk]
    subst hk
    exact⟨by simp,fun g h=>by simpa using h⟩
   ·rw[if_neg hk]
    refine⟨?_,fun g h=>?_⟩
    ·rw[List.map_cons]
     exact List.mem_cons_of_mem _ i1
    ·rw[List.map_cons] at h ⊢
     rcases List.mem_cons.mp h with e|e
     ·exact List.mem_cons.mpr (.inl e)
     ·exact List.mem_cons_of_mem _ (i2 g e)
theorem mG(f:Str)(v:V):∀fs:List (Str×V),(cW f v fs).length≤fs.length+1
 | []=>by simp [cW]
 | (k,x)::r=>by
   have ih:=mG f v r
   rw[show cW f v ((k,x)::r)=(if k=f then (k,v)::r else (k,x)::cW f v r) from rfl]
   by_cases hk:k=f
   ·rw[if_pos hk,List.length_cons,List.length_cons];omega
   ·rw[if_neg hk,List.length_cons,List.length_cons];omega
theorem fX.some_of{v:V}{o:Option Value}(r:fX (some v) o):∃u,o=some u∧RelV v u:=by
 cases o with
 |none=>exact(show False from r).elim
 |some u=>exact⟨u,rfl,r⟩
theorem fX.none_of{o:Option Value}(r:fX none o):o=none:=by
 cases o with
 |none=>rfl
 |some u=>exact(show False from r).elim
theorem qz{v:V}{u:Value}(r:RelV v u):PySem.W.handedIn u=true:=by
 cases v with
 |cJ=>cases (show u=Value.none from r);rfl
 |bl b=>cases (show u=Value.bool b from r);rfl
 |int i=>obtain⟨t,e⟩:=(show∃t,u=Value.int i t from r);cases e;rfl
 |str x=>obtain⟨t,e⟩:=(show∃t,u=Value.str x t from r);cases e;rfl
 |xa b=>obtain⟨t,e⟩:=(show∃t,u=Value.bytes b t from r);cases e;rfl
 |Ij b=>obtain⟨t,e⟩:=(show∃t,u=Value.float b t from r);cases e;rfl
 |ref a=>cases (show u=Value.ref a from r);rfl
 |ty n=>cases (show u=Value.type n from r);rfl
section
variable {P:Program}{w:World}{H H':Hp}{h h':Heap}{a C dx:Addr}{fs Fz:List (Str×V)}
theorem nB(bF:iW P w H h)(e:H a=some (.ins C dx fs)):∃mA,xk h a dx C mA∧(∀f,fX (fs.lookup f) (mA f))∧PySem.Within mA (fs.map (·.1))∧fs.length≤1000∧H dx=some (.own a):=by
 obtain⟨d,z,ne,ob,mA,n,r,q⟩:=(show cq P w H h a (.ins C dx fs) from bF a _ e)
 exact⟨mA,⟨ob,n,ne⟩,r,q,z,d⟩
end
structure qf(K:PySem.W.Frag)(C:Addr):Prop where
 pg:PySem.W.plainGet K C Str.empty=true
 hd:PySem.W.hasDictIn K C=true
 po:PySem.W.plainOver K C=true
 sa:PySem.W.findIn K (.ref C) "__setattr__" =some (some (.builtin "object.__setattr__"))
theorem qf.get{K:PySem.W.Frag}{C:Addr}(c:qf K C)(f:Str):PySem.W.plainGet K C f=true:=c.pg
def cu(K:PySem.W.Frag)(C:Addr)(f:Str):Prop:=PySem.W.findIn K (.ref C) f=some none
theorem cu.NP{K:PySem.W.Frag}{C:Addr}{f:Str}(n:cu K C f):PySem.W.takerIn K C f=some none:=by
 unfold PySem.W.takerIn
 rw[show PySem.W.findIn K (.ref C) f=some none from n]
 rfl
structure Meth(K:PySem.W.Frag)(C:Addr)(m:Str)(f:Addr):Prop where
 at_:PySem.W.findIn K (.ref C) m=some (some (.ref f))
 fn:PySem.W.isFn K (.ref f)=true
 kp:PySem.W.keepIn K (.ref f)=true
section
variable {X:Cx}{pins:List (Addr×Obj)}{σ:St}{H:Hp}{s:Shared}{a C dx:Addr}{fs:List (Str×V)}{f:Str}{v:V}{A:Around}{E:Value→Shared→Prop}
theorem oz{b:Bool}{Q:Value→Shared→Prop}(I:Inv X pins σ H s)(e:H a=some (.ins C dx fs))(c:qf X.K C)(n:cu X.K C f)(l:fs.lookup f=some v)
  (h:∀u s',Inv X pins σ H s'→RelV v u→Q u s'):wpAny (model X.prog X.w) A (getAttr (.ref a) f b) Q E s:=by
 obtain⟨mA,O,r,_,_,_⟩:=nB I.bF e
 obtain⟨u,hu,ru⟩:=fX.some_of (v:=v) (o:=mA f) (by rw[←l];exact r f)
 exact get_map I.fb O (c.get f) c.hd n hu (qz ru) (h u _ (I.tok _) ru)
theorem j6{m:Str}{g:Addr}{pl:Sem Bool}{Q:Value×List Value→Shared→Prop}(I:Inv X pins σ H s)(e:H a=some (.ins C dx fs))(c:qf X.K C)(k:Meth X.K C m g)(l:fs.lookup m=none)
  (h:Q (.ref g,[.ref a]) s):wpAny (model X.prog X.w) A (getMethod (.ref a) m pl) Q E s:=by
 obtain⟨mA,O,r,_,_,_⟩:=nB I.bF e
 have hn:mA m=none:=fX.none_of (by rw[←l];exact r m)
 exact Cs I.fb O (c.get m) k.at_ k.fn hn h
theorem oB{y:V}{u:Value}{Q:Unit→Shared→Prop}(I:Inv X pins σ H s)(e:H a=some (.ins C dx fs))(c:qf X.K C)(n:cu X.K C f)(hl:fs.length<1000)(ry:RelV y u)
  (h:∀s',Inv X pins σ (upd H a (.ins C dx (cW f y fs))) s'→Q () s'):wpAny (model X.prog X.w) A (setAttr (.ref a) f u) Q E s:=by
 obtain⟨mA,O,r,wi,_,ho⟩:=nB I.bF e
 have hz:(fs.map (·.1)).length≤sizeLine:=by rw[List.length_map,sizeLine_eq];omega
 refine FK I.fb O c.sa c.po n.NP c.hd wi hz fun h' O' sb=>h _ ?_
 have hd:∃o,h'.get? dx=some o:=let ⟨o,_,_,e',_⟩:=O'.ns;⟨o,e'⟩
 refine I.write (x:=a) (e:=dx) (by rw[e];exact True.intro) (.inr ho) (fun b q hb z=>(sb.2 b hb).trans z) hd ?_
 refine⟨by rw[ah O.ne];exact ho,?_,O.ne,O'.obj,_,O'.ns,fun g=>?_,fun g hg=>?_⟩
 ·have:=mG f y fs;omega
 ·show fX ((cW f y fs).lookup g) (if g=f then some u else mA g)
  rw[aJ]
  by_cases q:g=f
  ·rw[if_pos q,if_pos q];exact ry
  ·rw[if_neg q,if_neg q];exact r g
 ·by_cases q:g=f
  ·rw[q];exact(gN f y fs).1
  ·refine(gN f y fs).2 g (wi g fun z=>hg ?_)
   show (if g=f then some u else mA g)=none
   rw[if_neg q];exact z
theorem Inv.made(I:Inv X pins σ H s):Inv X pins σ (upd (upd H s.heap.objs.size (.own (s.heap.objs.size+1))) (s.heap.objs.size+1) (.ins C s.heap.objs.size []))
  { s with heap:=(s.heap.push PySem.W.emptyDict).push (PySem.W.instObj C s.heap.objs.size) }:=by
 have e1:(s.heap.push PySem.W.emptyDict).get? s.heap.objs.size=some PySem.W.emptyDict:=Heap.get?_push_size s.heap rfl
 have e2:((s.heap.push PySem.W.emptyDict).push (PySem.W.instObj C s.heap.objs.size)).get? (s.heap.objs.size+1)=some (PySem.W.instObj C s.heap.objs.size):=by
  have:=Heap.get?_push_size (s.heap.push PySem.W.emptyDict) (o:=PySem.W.instObj C s.heap.objs.size) rfl
  rwa [Heap.size_push] at this
 have e3:(s.heap.push PySem.W.emptyDict).Ns s.heap.objs.size (fun _=>none):=⟨PySem.W.emptyDict,#[],_,e1,rfl,(fun e he=>absurd he (by simp)),fun _=>rfl⟩
 have I1:=I.laid (a:=s.heap.objs.size) (o:= .own (s.heap.objs.size+1)) (h':=s.heap.push PySem.W.emptyDict) (t':=s.toks) (fun b u q=>Heap.get?_push_of_some _ q) (Nat.le_refl _) ⟨_,e1⟩
 refine I1.laid (a:=s.heap.objs.size+1) (o:= .ins C s.heap.objs.size []) (t':=s.toks) (fun b u q=>Heap.get?_push_of_some _ q) (Nat.le_of_eq (Heap.size_push _ _)) ?_
 have ne:s.heap.objs.size≠s.heap.objs.size+1:=Nat.ne_of_lt (Nat.lt_succ_self _)
 refine⟨by rw[ah ne,ai],Nat.zero_le _,ne,e2,fun _=>none,(Heap.Ns1.of_empty e3).at fun o q=>Heap.get?_push_of_some _ q,fun _=>True.intro,fun y hy=>absurd rfl hy⟩
theorem yY{prog:Program}{w:World}{env:Env}{e:Expr}{f:Str}{pos:Pos}{s:Shared}{Q:Value→Shared→Prop}(hb:attributeBase e f env (eval e env)=eval e env)
  (h:wpAny (model prog w) A (eval e env) (fun o s₁=>wpAny (model prog w) A (getAttr o f true) Q E s₁) E s):wpAny (model prog w) A (eval (.Attribute e f pos) env) Q E s:=
 Attribute_any_ h (by rw[arm_eval_Attribute,hb])
end
def UI(K:PySem.W.Frag)(ta:TE)(f:Str):TE:=fun σ H Q=>ta σ H fun x H1=>∃a C dx fs v,x= .ref a∧H1 a=some (.ins C dx fs)∧qf K C∧cu K C f∧fs.lookup f=some v∧Q v H1
def UJ(K:PySem.W.Frag)(ta tv:TE)(f:Str):TS:=fun D σ H=>tv σ H fun y H1=>ta σ H1 fun x H2=>∃a C dx fs,x= .ref a∧H2 a=some (.ins C dx fs)∧qf K C∧cu K C f∧fs.length<1000∧
 D.nx σ (upd H2 a (.ins C dx (cW f y fs)))
def NQ(X:Cx)(op:Operator)(rd:V→V→Hp→VK→Prop):Prop:=
 ∀(pins:List (Addr×Obj)) (s:Shared) (σ:St) (H:Hp) (x y:V) (u v:Value) (Q:VK),Inv X pins σ H s→RelV x u→RelV y v→rd x y H Q→wpAny (model X.prog X.w) X.A (inplaceOp op u v) (EP X pins σ Q) X.xe s
def FN(K:PySem.W.Frag)(ta tv:TE)(rd:V→V→Hp→VK→Prop)(f:Str):TS:=fun D σ H=>ta σ H fun x H1=>∃a C dx fs v,x= .ref a∧H1 a=some (.ins C dx fs)∧qf K C∧cu K C f∧fs.lookup f=some v∧
 tv σ H1 fun y H2=>rd v y H2 fun z H3=>∃dv Fz,H3 a=some (.ins C dv Fz)∧Fz.length<1000∧D.nx σ (upd H3 a (.ins C dv (cW f z Fz)))
section
variable {X:Cx}{o e value:Expr}{f:Str}{pos pos' AG:Pos}{ta tv:TE}
theorem bx(he:PE X e ta)(hb:attributeBase e f X.env (eval e X.env)=eval e X.env):PE X (.Attribute e f pos) (UI X.K ta f):=by
 intro pins s σ H Q I h
 refine yY hb (bN (he pins s σ H _ I h) fun u s1 ⟨x,H1,I1,rx,a,C,dx,fs,v,ex,ea,c,n,l,q⟩=>?_)
 subst ex
 obtain rfl:u=Value.ref a:=rx
 exact oz I1 ea c n l fun u' s2 I2 ru=>⟨v,H1,I2,ru,q⟩
theorem dz(ha:PE X o ta)(hv:PE X value tv)(hs:swapsWith value (some (.Attribute o f pos')) pos.line X.env=pure false):PS X (.Assign [.Attribute o f pos'] value pos) (UJ X.K ta tv f):=by
 intro pins s σ H D I h
 refine plainObj_wpAny_Assign_Attribute (bN (hv pins s σ H _ I h) fun u s1 ⟨y,H1,I1,ry,q⟩=>bN (ha pins s1 σ H1 _ I1 q) fun ov s2 ⟨x,H2,I2,rx,a,C,dx,fs,ex,ea,c,n,l,q2⟩=>?_) hs
 subst ex
 obtain rfl:ov=Value.ref a:=rx
 exact oB I2 ea c n l ry fun s3 I3=>⟨σ,_,I3,q2⟩
theorem jq{op:Operator}{rd:V→V→Hp→VK→Prop}(ha:PE X o ta)(hv:PE X value tv)(hop:NQ X op rd):PS X (.AugAssign (.Attribute o f AG) op value pos) (FN X.K ta tv rd f):=by
 intro pins s σ H D I h
 refine wpAny_AugAssign_AttributeAny (bN (ha pins s σ H _ I h) fun ov s1 ⟨x,H1,I1,rx,a,C,dx,fs,v,ex,ea,c,n,l,q⟩=>?_)
 subst ex
 obtain rfl:ov=Value.ref a:=rx
 refine oz I1 ea c n l fun u s2 I2 ru=>bN (hv pins s2 σ H1 _ I2 q) fun w3 s3 ⟨y,H2,I3,ry,q3⟩=>bN (hop pins s3 σ H2 v y u w3 _ I3 ru ry q3) fun w4 s4 ⟨z,H3,I4,rz,dv,Fz,ea',l',q4⟩=>?_
 exact oB I4 ea' c n l' rz fun s5 I5=>⟨σ,_,I5,q4⟩
def UK:V→V→Hp→VK→Prop:=fun x y H Q=>∃i j,x= .int i∧y= .int j∧Q (.int (i+j)) H
theorem sy:NQ X .Add UK:=by
 rintro pins s σ H x y u v Q I rx ry ⟨i,j,rfl,rfl,q⟩
 obtain⟨t,rfl⟩:=(show∃t,u=Value.int i t from rx)
 obtain⟨t',rfl⟩:=(show∃t',v=Value.int j t' from ry)
 exact PyProof.Rows.iadd_int ⟨.int (i+j),H,I.tok _,⟨_,rfl⟩,q⟩
end
section
variable {X:Cx}{pins:List (Addr×Obj)}{σ:St}{H:Hp}{s:Shared}{A:Around}{E:Value→Shared→Prop}{Q:Value→Shared→Prop}{c:Value}{b:Bool}
inductive lY(K:PySem.W.Frag)(H:Hp):V→Value→Prop where
 |cJ:lY K H .cJ (.type "NoneType")
 |bl (x:Bool):lY K H (.bl x) (.type "bool")
 |int (i:Int):lY K H (.int i) (.type "int")
 |str (x:Str):lY K H (.str x) (.type "str")
 |Ij (x:UInt64):lY K H (.Ij x) (.type "float")
 |lst {a:Addr} {xs:List V} (e:H a=some (.lst xs)):lY K H (.ref a) (.type "list")
 |xb {a:Addr} {o:Obj} {xs:List V} (e:H a=some (.xb o (.lst xs))):lY K H (.ref a) (.type "list")
 |tup {a:Addr} {xs:List V} (e:H a=some (.tup xs)):lY K H (.ref a) (.type "tuple")
 |dK {a:Addr} {aL:List (Key×V)} (e:H a=some (.dK aL)):lY K H (.ref a) (.type "dict")
 |dT {a:Addr} {aL:List (List Key×V)} (e:H a=some (.dT aL)):lY K H (.ref a) (.type "dict")
 |ins {a C dx:Addr} {fs:List (Str×V)} (e:H a=some (.ins C dx fs)) (cl:qf K C) (ha:PySem.W.findIn K (.ref C) "__class__" =some (some (.builtin "object.__class__")))
   (hn:PySem.W.specialIn K (.builtin "object.__class__") "__get__" =some (some (.builtin "getset_descriptor.__get__"))) (To:PySem.W.takesIn K (.builtin "object.__class__")=some true)
   (hm:PySem.W.mroIn K C (.type "object")=some true):lY K H (.ref a) (.ref C)
theorem AH{x:V}{u t:Value}(I:Inv X pins σ H s)(rx:RelV x u)(ty:lY X.K H x t)(e:PySem.W.kitOne X.K t c=some b)(h:∀tk,Q (.bool b) { s with toks:=tk }):
  wpAny (model X.prog X.w) A (call (.builtin "isinstance") [u,c]) Q E s:=by
 cases ty with
 |cJ=>cases (show u=Value.none from rx);exact PySem.W.kia_one PySem.W.kitx_none I.fb True.intro e (fun z=>nomatch z) h
 |bl y=>cases (show u=Value.bool y from rx);exact PySem.W.kia_one PySem.W.kitx_bool I.fb True.intro e (fun z=>nomatch z) h
 |int i=>obtain⟨t,q⟩:=(show∃t,u=Value.int i t from rx);cases q;exact PySem.W.kia_one PySem.W.kitx_int I.fb True.intro e (fun z=>nomatch z) h
 |str y=>obtain⟨t,q⟩:=(show∃t,u=Value.str y t from rx);cases q;exact PySem.W.kia_one PySem.W.kitx_str I.fb True.intro e (fun z=>nomatch z) h
 |Ij y=>obtain⟨t,q⟩:=(show∃t,u=Value.float y t from rx);cases q;exact PySem.W.kia_one PySem.W.kitx_float I.fb True.intro e (fun z=>nomatch z) h
 | @lst a xs ea=>
   cases (show u=Value.ref a from rx)
   obtain⟨_,_,n,_,h1⟩:=(show cq X.prog X.w H s.heap a (.lst xs) from I.bF a _ ea)
   exact PySem.W.kia_one PySem.W.kitx_list I.fb ⟨_,h1,rfl⟩ e (fun z=>nomatch z) h
 | @xb a ob xs ea=>
   cases (show u=Value.ref a from rx)
   obtain⟨_,_,_,n,_,h1⟩:=(show cq X.prog X.w H s.heap a (.xb ob (.lst xs)) from I.bF a _ ea)
   exact PySem.W.kia_one PySem.W.kitx_list I.fb ⟨_,h1,rfl⟩ e (fun z=>nomatch z) h
 | @tup a xs ea=>
   cases (show u=Value.ref a from rx)
   obtain⟨_,_,_,p⟩:=(show cq X.prog X.w H s.heap a (.tup xs) from I.bF a _ ea)
   obtain⟨o,h1,h2,_⟩:=p
   exact PySem.W.kia_one PySem.W.kitx_tuple I.fb ⟨o,h1,h2⟩ e (fun z=>nomatch z) h
 | @dK a aL ea=>
   cases (show u=Value.ref a from rx)
   obtain⟨_,_,vs,_,p⟩:=(show cq X.prog X.w H s.heap a (.dK aL) from I.bF a _ ea)
   obtain⟨o,es,ep,h1,h2,_⟩:=p
   exact PySem.W.kia_one PySem.W.kitx_dict I.fb ⟨o,h1,h2.1⟩ e (fun z=>nomatch z) h
 | @dT a aL ea=>
   cases (show u=Value.ref a from rx)
   obtain⟨_,_,xs,_,o,es,ep,h1,h2,_⟩:=(show cq X.prog X.w H s.heap a (.dT aL) from I.bF a _ ea)
   exact PySem.W.kia_one PySem.W.kitx_dict I.fb ⟨o,h1,h2.1⟩ e (fun z=>nomatch z) h
 | @ins a C dx fs ea cl ha hn To hm=>
   cases (show u=Value.ref a from rx)
   obtain⟨mA,O,_⟩:=nB I.bF ea
   obtain⟨od,J,_⟩:=O.look
   exact PySem.W.kia_one (PySem.W.kitx_own (cl.get _) cl.hd ha hn To hm) I.fb J e (fun z=>nomatch z) h
end
end L2
namespace L2
open PySem PySem.Spec PyProof.Rows
structure cf(k:Nat)(A:Around):Prop where
 hd:A.handled=none
 dp:A.depth+3*k+5<recursionLimit
 un:A.units+16*k+200<cLine
theorem cf.mono{j k:Nat}{A:Around}(r:cf k A)(h:j≤k):cf j A:=⟨r.hd,by have:=r.dp;omega,by have:=r.un;omega⟩
theorem cf.deeper{k:Nat}{A:Around}(r:cf (k+1) A)(env:Env):cf k (A.deeper env):=
 ⟨r.hd,by have:=r.dp;show A.depth+1+3*k+5<_;omega,by have:=r.un;show A.units+3+16*k+200<_;omega⟩
theorem xn{A:Around}{C:Addr}{us:List Value}{kw:List (Str×Value)}:(A.under (.builtin "type.__call__" ⟨.ref C::us,kw⟩)).depth=A.depth+1:=by
 first|rfl|simp [Around.under,Code.weight,Code.isCreation,Code.isGuard,Code.isCaller,Code.frames,Code.isFrame,guardIds]
theorem xo{A:Around}{C:Addr}{us:List Value}{kw:List (Str×Value)}:(A.under (.builtin "type.__call__" ⟨.ref C::us,kw⟩)).units=A.units+1:=by
 first|rfl|simp [Around.under,Code.cUnits,Code.frames,Code.isFrame]
theorem cf.make{k:Nat}{A:Around}(r:cf (k+1) A)(C:Addr)(us:List Value)(kw:List (Str×Value)):cf k (A.under (.builtin "type.__call__" ⟨.ref C::us,kw⟩)):=
 ⟨r.hd,by have:=r.dp;rw[xn];omega,by have:=r.un;rw[xo];omega⟩
theorem cf.depth{k:Nat}{A:Around}(r:cf k A):A.depth<recursionLimit:=by have:=r.dp;omega
theorem cf.units{k:Nat}{A:Around}(r:cf k A):A.units+64<cLine:=by have:=r.un;omega
def FO:TA:=fun _ H Q=>Q [] H
def NS(ta:TE)(tr:TA):TA:=fun σ H Q=>ta σ H fun x H1=>tr σ H1 fun xs H2=>Q (x::xs) H2
section
variable {X:Cx}{e:Expr}{es:List Expr}{te:TE}{t:TA}{pos:Pos}
theorem ak:PA X [] FO:=fun _ _ _ _ H Q I h=>Calls.spliced_nil ⟨[],H,I, .nil,h⟩
theorem aa(ha:PE X e te)(hr:PA X es t)(hs:starEach (e::es) X.env=(false,eval e X.env)::starEach es X.env:=by rfl):PA X (e::es) (NS te t):=by
 intro pos pins s σ H Q I h
 rw[hs]
 show wpAny _ _ (spliced ((false,eval e X.env)::backTo pos (starEach es X.env))) _ _ s
 refine Calls.spliced_cons (bN (ha pins s σ H _ I h) fun u s1 ⟨x,H1,I1,r1,q1⟩=>?_)
 exact bN (hr pos pins s1 σ H1 _ I1 q1) fun us s2 ⟨xs,H2,I2,r2,q2⟩=>⟨x::xs,H2,I2, .cons r1 r2,q2⟩
def UL(t:TA):TE:=fun σ H Q=>t σ H fun xs H1=>xs.length≤sizeLine∧∀p,H1 p=none→Q (.ref p) (upd H1 p (.tup xs))
def UM(t:TA):TE:=fun σ H Q=>t σ H fun xs H1=>xs.length≤sizeLine∧∀p,H1 p=none→Q (.ref p) (upd H1 p (.lst xs))
theorem xp{x1}(h:PA X es t):PE X (.Tuple es x1 pos) (UL t):=by
 intro pins s σ H Q I hq
 refine wpAny_Tuple_spliced (bN (h pos pins s σ H _ I hq) fun us s1 ⟨xs,H1,I1,r,z,q⟩=>⟨by rw[←r.length];exact z,?_⟩)
 have hf:H1 s1.heap.objs.size=none:=I1.bF.fresh (Nat.le_refl _)
 refine⟨.ref s1.heap.objs.size,upd H1 s1.heap.objs.size (.tup xs),I1.laid (t':=s1.toks) (fun b u e=>Heap.get?_push_of_some _ e) (Nat.le_refl _) ?_,rfl,q _ hf⟩
 exact⟨z,us,r,⟨_,Heap.get?_push_size _ rfl,rfl,_,rfl⟩⟩
theorem c9(h:PA X es t):PE X (.List es pos) (UM t):=by
 intro pins s σ H Q I hq
 refine wpAny_List_spliced (bN (h pos pins s σ H _ I hq) fun us s1 ⟨xs,H1,I1,r,z,q⟩=>⟨by rw[←r.length];exact z,?_⟩)
 have hf:H1 s1.heap.objs.size=none:=I1.bF.fresh (Nat.le_refl _)
 refine⟨.ref s1.heap.objs.size,upd H1 s1.heap.objs.size (.lst xs),I1.laid (t':=s1.toks) (fun b u e=>Heap.get?_push_of_some _ e) (Nat.le_refl _) ?_,rfl,q _ hf⟩
 exact⟨z,us,0,r,Heap.get?_push_size _ rfl⟩
end
abbrev Sp:=List V→Hp→VK→XK→Prop
abbrev uz:=List Env→Hp→Shared→XK→Value→Shared→Prop
structure sC(P:Program)(w:World)(K:PySem.W.Frag)(mg:Str→Option Value)(base:Heap)(A:Around)(outer:List Env)(s:Shared)(H:Hp):Prop where
 frames:A.frames=some outer
 mod:Mod K mg base
 bs:∀b o,base.get? b=some o→s.heap.get? b=some o∧H b=none
 yL:base.objs.size≤s.heap.objs.size
 iH:s.heap.FunFrames base outer
 B0:∀b∈pY outer,H b=none
 bF:iW P w H s.heap
 bare:AllBare s.gens
def CE(outer:List Env)(P:Program)(w:World)(H:Hp)(s:Shared)(Q:VK)(u:Value)(s':Shared):Prop:=
 ∃v H',s'.os=s.os∧AllBare s'.gens∧Un (pY outer) [] H H' s.heap s'.heap∧iW P w H' s'.heap∧RelV v u∧Q v H'
def CR(CX:uz)(outer:List Env)(P:Program)(w:World)(H:Hp)(s:Shared)(Q:VK)(E:XK)(r:Result)(s':Shared):Prop:=
 match r with
 | .ok (.ret u)=>CE outer P w H s Q u s'
 | .ok _=>False
 | .error e=>CX outer H s E e s'
structure dj(P:Program)(w:World)(K:PySem.W.Frag)(mg:Str→Option Value)(base:Heap)(CX:uz)(k:Nat)(f:Addr)(fd:FuncData)(ps:List Str)(sp:Sp):Prop where
 len:∀vs H Q E,sp vs H Q E→vs.length=ps.length
 run:∀(A:Around) (outer:List Env) (s:Shared) (H:Hp) (args:Args) (us:List Value) (vs:List V) (Q:VK) (E:XK),cf k A→sC P w K mg base A outer s H→BindsTo s fd args (ps.zip us)→Vals vs us→sp vs H Q E→
  codeAny (model P w) A (.call (.ref f) args) (CR CX outer P w H s Q E) s
theorem dj.mono{P:Program}{w:World}{K:PySem.W.Frag}{mg:Str→Option Value}{base:Heap}{CX:uz}{j k:Nat}{f:Addr}{fd:FuncData}{ps:List Str}{sp:Sp}(F:dj P w K mg base CX j f fd ps sp)(h:j≤k):
  dj P w K mg base CX k f fd ps sp:=⟨F.len,fun A outer s H args us vs Q E hr=>F.run A outer s H args us vs Q E (hr.mono h)⟩
theorem sC.make{P:Program}{w:World}{K:PySem.W.Frag}{mg:Str→Option Value}{base:Heap}{A:Around}{outer:List Env}{s:Shared}{H:Hp}(e:sC P w K mg base A outer s H)(C:Addr)(us:List Value)(kw:List (Str×Value)):
  sC P w K mg base (A.under (.builtin "type.__call__" ⟨.ref C::us,kw⟩)) outer s H:=⟨by first|exact e.frames| (simpa [Around.under,Code.envs,Code.isFrame,pushEnvs] using e.frames),e.mod,e.bs,e.yL,e.iH,e.B0,e.bF,e.bare⟩
section
variable {X:Cx}{pins:List (Addr×Obj)}{σ:St}{H:Hp}{s s':Shared}
theorem Inv.Cu(I:Inv X pins σ H s):sC X.prog X.w X.K X.mg X.base X.A X.stack s H:=
 ⟨I.ok.frames,I.ok.mod,I.bs,Nat.le_trans I.ok.yL I.sz,I.stack,I.sr,I.bF,I.bare⟩
theorem Inv.after{Q:VK}{u:Value}(I:Inv X pins σ H s)(h:CE X.stack X.prog X.w H s Q u s'):EP X pins σ Q u s':=by
 obtain⟨v,H',os,bare,un,bF,r,q⟩:=h
 obtain⟨hh,g,d,t,os'⟩:=s'
 obtain rfl:os'=s.os:=os
 exact⟨v,H',I.call (h':=hh) (g':=g) (d':=d) (t':=t) (ch:=[]) un bF bare (fun b z=>absurd z (by simp)),r,q⟩
end
def NT(sp:Sp)(iS:List V)(E:XK)(t:TA):TE:=fun σ H Q=>t σ H fun vs H1=>sp (vs++iS) H1 Q E
def NU(C:Addr)(m:Str)(sp:Sp)(iS:List V)(E:XK)(ta:TE)(t:TA):TE:=fun σ H Q=>ta σ H fun x H1=>∃a dx fs,x= .ref a∧H1 a=some (.ins C dx fs)∧fs.lookup m=none∧
 t σ H1 fun vs H2=>sp (x::(vs++iS)) H2 Q E
def Iy(C:Addr)(sp:Sp)(iS:List V)(E:XK)(t:TA):TE:=fun σ H Q=>t σ H fun vs H1=>∀x dx,H1 x=none→H1 dx=none→dx≠x→
 sp (.ref x::(vs++iS)) (upd (upd H1 dx (.own x)) x (.ins C dx [])) (fun v H2=>v= .cJ∧Q (.ref x) H2) E
def Binds(K:PySem.W.Frag)(fd:FuncData)(ps:List Str)(ds:List Value):Prop:=
 ∀(s:Shared) (us:List Value),K.In s.heap→(us++ds).length=ps.length→BindsTo s fd ⟨us,[]⟩ (ps.zip (us++ds))
theorem Binds.all{K:PySem.W.Frag}{fd:FuncData}{ps:List Str}(h:∀us:List Value,us.length=ps.length→bindArgs fd ⟨us,[]⟩=pure (ps.zip us)):Binds K fd ps []:=fun s us _ hl=>by
 rw[List.append_nil] at hl ⊢
 exact .of_eq (h us hl)
def Passes(CX:uz)(X:Cx)(E:XK):Prop:=∀(pins:List (Addr×Obj)) (σ:St) (H:Hp) (s:Shared) (e:Value) (s':Shared),Inv X pins σ H s→CX X.stack H s E e s'→X.xe e s'
section
variable {X:Cx}{CX:uz}{k:Nat}{f C:Addr}{fd:FuncData}{ps:List Str}{sp:Sp}{iS:List V}{ds:List Value}{E:XK}{x m:Str}{p pos apos:Pos}{e o:Expr}{es:List Expr}{ta:TE}{t:TA}
theorem xq{pins:List (Addr×Obj)}{σ:St}{H:Hp}{s:Shared}{Q:VK}{us:List Value}{vs:List V}(F:dj X.prog X.w X.K X.mg X.base CX k f fd ps sp)(hr:cf k X.A)(hb:Binds X.K fd ps ds)(hd:Vals iS ds)(hx:Passes CX X E)
  (I:Inv X pins σ H s) (r:Vals vs us) (h:sp (vs++iS) H Q E):wpAny (model X.prog X.w) X.A (call (.ref f) us) (EP X pins σ Q) X.xe s:=by
 have r2:Vals (vs++iS) (us++ds):=r.append hd
 have hl:(us++ds).length=ps.length:=by rw[←r2.length];exact F.len _ _ _ _ h
 refine wpAny_call (codeAny_mono (F.run X.A X.stack s H ⟨us,[]⟩ (us++ds) (vs++iS) Q E hr I.Cu (hb s us I.fb hl) r2 h) fun r s' hq=>?_)
 cases r with
 |error e=>exact hx pins σ H s e s' I hq
 |ok fl=>
  cases fl with
  |ret u=>exact I.after hq
  |next=>exact False.elim hq
  |brk=>exact False.elim hq
  |cont=>exact False.elim hq
theorem aX(F:dj X.prog X.w X.K X.mg X.base CX k f fd ps sp)(hr:cf k X.A)(hg:Gl X x)(hm:X.mg x=some (.ref f))(hk:PySem.W.keepIn X.K (.ref f)=true)(hb:Binds X.K fd ps ds)(hd:Vals iS ds)(hx:Passes CX X E)
  (ha:PA X (e::es) t) (xr:(x==("__debug__" :Str))=false:=by decide) (he:starEach (e::es) X.env=(false,eval e X.env)::starEach es X.env:=by rfl) (kr:(backTo pos (starEach es X.env)).any (·.1)=false:=by rfl):
  PE X (.Call (.Name x p) (e::es) [] pos) (NT sp iS E t):=by
 intro pins s σ H Q I h
 refine wpAny_Call_Name_kw (eQ I hg hm ?_ xr)
 refine PySem.W.callWith_K (h₀:=X.base) I.ok.mod.B' hk (bN (ha pos pins s σ H _ I h) fun us s1 ⟨vs,H1,I1,r,q⟩=>⟨I1.fb,?_⟩) he kr
 exact xq F hr hb hd hx I1 r q
theorem bT{pl:Sem Bool}(he:PE X o ta)(c:qf X.K C)(hm:Meth X.K C m f)(F:dj X.prog X.w X.K X.mg X.base CX k f fd ps sp)(hr:cf k X.A)(hb:Binds X.K fd ps ds)(hd:Vals iS ds)(hx:Passes CX X E)
  (ht:eval (.Call (.Attribute o m apos) [] [] pos) X.env=(do
   let ov←eval o X.env
   standAt apos.atName
   let (f,first)←holding [ov] (getMethod ov m pl)
   callWith pos f first (backTo pos (starEach [] X.env)) (backToKw pos (keywordEach [] X.env))):=by rfl):
  PE X (.Call (.Attribute o m apos) [] [] pos) (NU C m sp iS E ta FO):=by
 intro pins s σ H Q I h
 refine PySem.W.methodCall_KW (pl:=pl) (bN (he pins s σ H _ I h) fun u s1 ⟨x,H1,I1,rx,a,dx,fs,ex,ea,l,q⟩=>?_) ht
 subst ex
 obtain rfl:u=Value.ref a:=rx
 refine j6 I1 ea c hm l ?_
 exact PySem.W.callWith_K0 (first:=[.ref a]) I1.fb hm.kp (xq (us:=[.ref a]) (vs:=[.ref a]) F hr hb hd hx I1 (.cons rfl .nil) q)
structure Mk(K:PySem.W.Frag)(C f:Addr):Prop where
 makes:PySem.W.makesIn K C=true
 init:PySem.W.findIn K (.ref C) "__init__" =some (some (.ref f))
 fn:PySem.W.isFn K (.ref f)=true
 kp:PySem.W.keepIn K (.ref C)=true
theorem uA{pins:List (Addr×Obj)}{σ:St}{H:Hp}{s:Shared}{Q:VK}{us:List Value}{vs:List V}(M:Mk X.K C f)(F:dj X.prog X.w X.K X.mg X.base CX k f fd ps sp)(hr:cf (k+1) X.A)(hb:Binds X.K fd ps ds)(hd:Vals iS ds)
  (hx:Passes CX X E) (I:Inv X pins σ H s) (r:Vals vs us)
  (h:∀x dx,H x=none→H dx=none→dx≠x→sp (.ref x::(vs++iS)) (upd (upd H dx (.own x)) x (.ins C dx [])) (fun v H2=>v= .cJ∧Q (.ref x) H2) E):
  wpAny (model X.prog X.w) X.A (call (.ref C) us) (EP X pins σ Q) X.xe s:=by
 have hq:=h (s.heap.objs.size+1) s.heap.objs.size (I.bF.fresh (Nat.le_succ _)) (I.bF.fresh (Nat.le_refl _)) (Nat.ne_of_lt (Nat.lt_succ_self _))
 have I2:=Inv.made (C:=C) I
 have r2:Vals (V.ref (s.heap.objs.size+1)::(vs++iS)) (Value.ref (s.heap.objs.size+1)::(us++ds)):= .cons rfl (r.append hd)
 have hl:(Value.ref (s.heap.objs.size+1)::us++ds).length=ps.length:=by
  have e:=r2.length
  rw[F.len _ _ _ _ hq] at e
  exact e.symm
 refine wpAny_call (Ct (f:=f) I.fb M.makes M.init (beq_iff_eq.mp M.fn) (codeAny_mono (F.run _ X.stack _ _ ⟨Value.ref (s.heap.objs.size+1)::us,[]⟩ (Value.ref (s.heap.objs.size+1)::(us++ds)) _ _ E (hr.make C us [])
  (I2.Cu.make C us []) (hb _ (Value.ref (s.heap.objs.size+1)::us) I2.fb hl) r2 hq) fun r s' jM=>?_))
 cases r with
 |error e=>exact hx pins σ _ _ e s' I2 jM
 |ok fl=>
  cases fl with
  |ret u=>
   obtain⟨v,H',I3,rv,ev,q3⟩:=I2.after jM
   subst ev
   exact⟨rv,⟨V.ref (s.heap.objs.size+1),H',I3,rfl,q3⟩⟩
  |next=>exact False.elim jM
  |brk=>exact False.elim jM
  |cont=>exact False.elim jM
theorem fZ(M:Mk X.K C f)(F:dj X.prog X.w X.K X.mg X.base CX k f fd ps sp)(hr:cf (k+1) X.A)(hg:Gl X x)(hm:X.mg x=some (.ref C))(hb:Binds X.K fd ps ds)(hd:Vals iS ds)(hx:Passes CX X E)
  (ha:PA X (e::es) t) (xr:(x==("__debug__" :Str))=false:=by decide) (he:starEach (e::es) X.env=(false,eval e X.env)::starEach es X.env:=by rfl) (kr:(backTo pos (starEach es X.env)).any (·.1)=false:=by rfl):
  PE X (.Call (.Name x p) (e::es) [] pos) (Iy C sp iS E t):=by
 intro pins s σ H Q I h
 refine wpAny_Call_Name_kw (eQ I hg hm ?_ xr)
 refine PySem.W.callWith_K (h₀:=X.base) I.ok.mod.B' M.kp (bN (ha pos pins s σ H _ I h) fun us s1 ⟨vs,H1,I1,r,q⟩=>⟨I1.fb,?_⟩) he kr
 exact uA M F hr hb hd hx I1 r q
theorem oC(M:Mk X.K C f)(F:dj X.prog X.w X.K X.mg X.base CX k f fd ps sp)(hr:cf (k+1) X.A)(hg:Gl X x)(hm:X.mg x=some (.ref C))(hb:Binds X.K fd ps ds)(hd:Vals iS ds)(hx:Passes CX X E)
  (xr:(x==("__debug__" :Str))=false:=by decide):PE X (.Call (.Name x p) [] [] pos) (Iy C sp iS E FO):=by
 intro pins s σ H Q I h
 refine wpAny_Call_Name_kw (eQ I hg hm ?_ xr)
 exact PySem.W.callWith_K0 I.fb M.kp (uA (us:=[]) M F hr hb hd hx I .nil h)
end
section
variable {X:Cx}{CX:uz}{k:Nat}{f C:Addr}{fd:FuncData}{ps ks:List Str}{sp:Sp}{E:XK}{x m:Str}{p pos apos kpos:Pos}{e o:Expr}{es:List Expr}{kws:List Keyword}{te ta:TE}{t tk:TA}{nm:Option Str}
variable {g:List Value→List Value→List Value}{gV:List V→List V→List V}
end
structure az(N P:List Str)(sc:Scope):Prop where
 kind:sc.kind= .function
 co:sc.isCoroutine=false
 gen:sc.isGenerator=false
 nd:N.Nodup
 pre:N.take P.length=P
 par:∀x∈P,sc.names.lookup x=some .local∨sc.names.lookup x=some .cell
 Kt:∀y∈sc.names,y.2≠ .free
theorem qA{kindOf:Str→Option NameKind}{x:Str}:∀{binds:List (Str×Value)} {m:Str→Option Value},(∀v,(x,v)∉binds)→bindL kindOf binds m x=m x
 | [],_,_=>rfl
 | (n,v)::r,m,h=>by
   unfold bindL
   rw[qA fun w hw=>h w (List.mem_cons_of_mem _ hw)]
   split
   ·have:x≠n:=by rintro rfl;exact h v List.mem_cons_self
    simp [this]
   ·rfl
theorem qB{kindOf:Str→Option NameKind}{x:Str}:∀{binds:List (Str×Value)} {m:Str→Option Value},(∀v,(x,v)∉binds)→bindC kindOf binds m x=m x
 | [],_,_=>rfl
 | (n,v)::r,m,h=>by
   unfold bindC
   rw[qB fun w hw=>h w (List.mem_cons_of_mem _ hw)]
   split
   ·rfl
   ·have:x≠n:=by rintro rfl;exact h v List.mem_cons_self
    simp [this]
theorem qC{kindOf:Str→Option NameKind}{x:Str}{v:Value}:∀{P:List Str} {vs:List Value} {i:Nat} {m:Str→Option Value},P.Nodup→P[i]? =some x→vs[i]? =some v→kindOf x=some .local→
  bindL kindOf (P.zip vs) m x=some v
 | [],_,_,_,_,h,_,_=>by simp at h
 |_::_,[],_,_,_,_,h,_=>by simp at h
 |p::P,w::vs,0,m,nd,h1,h2,hk=>by
  simp at h1 h2;subst h1;subst h2
  show bindL kindOf ((p,w)::P.zip vs) m p=_
  unfold bindL
  rw[qA fun v hv=>(List.nodup_cons.mp nd).1 (List.of_mem_zip hv).1,if_pos hk]
  simp
 |p::P,w::vs,i+1,m,nd,h1,h2,hk=>by
  show bindL kindOf ((p,w)::P.zip vs) m x=_
  unfold bindL
  exact qC (i:=i) (List.nodup_cons.mp nd).2 (by simpa using h1) (by simpa using h2) hk
theorem qD{kindOf:Str→Option NameKind}{x:Str}{v:Value}:∀{P:List Str} {vs:List Value} {i:Nat} {m:Str→Option Value},P.Nodup→P[i]? =some x→vs[i]? =some v→kindOf x≠some .local→
  bindC kindOf (P.zip vs) m x=some v
 | [],_,_,_,_,h,_,_=>by simp at h
 |_::_,[],_,_,_,_,h,_=>by simp at h
 |p::P,w::vs,0,m,nd,h1,h2,hk=>by
  simp at h1 h2;subst h1;subst h2
  show bindC kindOf ((p,w)::P.zip vs) m p=_
  unfold bindC
  rw[qB fun v hv=>(List.nodup_cons.mp nd).1 (List.of_mem_zip hv).1,if_neg hk]
  simp
 |p::P,w::vs,i+1,m,nd,h1,h2,hk=>by
  show bindC kindOf ((p,w)::P.zip vs) m x=_
  unfold bindC
  exact qD (i:=i) (List.nodup_cons.mp nd).2 (by simpa using h1) (by simpa using h2) hk
def start(N:List Str)(vs:List V):St:=vs.map some++List.replicate (N.length - vs.length) none
def fI(CX:uz)(P:Program)(w:World)(K:PySem.W.Frag)(mg:Str→Option Value)(base:Heap)(N:List Str)(qual:Str)(scope:Scope)(f:Addr)(cd:Value)(A:Around)(outer:List Env)(s:Shared)(H:Hp)(E:XK):Cx where
 prog:=P
 w:=w
 K:=K
 mg:=mg
 base:=base
 A:=A.deeper (envOfC qual scope s.heap.objs.size f cd)
 N:=N
 s₀:=s
 H₀:=H
 env:=envOfC qual scope s.heap.objs.size f cd
 outer:=outer
 stack:=envOfC qual scope s.heap.objs.size f cd::outer
 ex:=[]
 calm:=true
 fn:=fun _=>true
 pn:=[]
 xe:=fun e s'=>wpAny (model P w) (A.deeper (envOfC qual scope s.heap.objs.size f cd)) («leaving» (envOfC qual scope s.heap.objs.size f cd) e) (fun _ NV=>CX outer H s E e NV) (fun e' NV=>CX outer H s E e' NV) s'
theorem uF{sc:Scope}{n:Nat}{x:Str}(h:sc.names.lookup x=some .cell):∃c,(cellsFrom n sc.names []).lookup x=some c:=by
 have q:=PySem.W.cellsFrom_some sc.names n [] (.inl h)
 exact Option.isSome_iff_exists.mp q
theorem qF{CX:uz}{P:Program}{w:World}{K:PySem.W.Frag}{mg:Str→Option Value}{base:Heap}{N ps:List Str}{qual:Str}{scope:Scope}{f:Addr}{cd:Value}{A:Around}{outer:List Env}{s s1:Shared}{H:Hp}{E:XK}{us:List Value}{vs:List V}
  (S:az N ps scope) (hd:A.handled=none) (e0:sC P w K mg base A outer s H) (hl:vs.length=ps.length) (r:Vals vs us)
  (x:InCallC s s.heap.objs.size (bindL (envOfC qual scope s.heap.objs.size f cd).kindOf (ps.zip us) fun _=>none) (cellsFrom (s.heap.objs.size+1) scope.names []) (bindC (envOfC qual scope s.heap.objs.size f cd).kindOf (ps.zip us) fun _=>none) s1):
  Inv (fI CX P w K mg base N qual scope f cd A outer s H E) [] (start N vs) H s1:=by
 have kr:ps.length≤N.length:=by have:=congrArg List.length S.pre;rw[List.length_take] at this;omega
 obtain⟨h1,tk,rfl,hk⟩:=x.done
 have NW:∀b:Addr,b∉(fI CX P w K mg base N qual scope f cd A outer s H E).ex:=fun b z=>absurd (show b∈([]:List Addr) from z) (by simp)
 refine⟨⟨e0.mod,S.kind,rfl,rfl,Nat.le_refl _,fun y z c h1 h2=>?_,fun y hy=>?_,fun y c _ h=>?_,fun _=>hd,Around.frames_deeper e0.frames, .inr ⟨rfl,rfl⟩,fun b z=>absurd z (NW b),e0.bs,e0.yL,fun b _ _=>NW b,fun b z=>absurd z (NW b),e0.iH,e0.B0⟩,
  rfl,e0.bare,Un.kept hk,⟨_,x.toInCall.ns,fun i y v h1 h2 h3=>?_⟩,fun y c h=>⟨_,x.cell y c h⟩,e0.bF.fresh (Nat.le_refl _),fun y c h=>?_,fun p hp=>absurd (show p∈([]:List (Addr×Obj)) from hp) (by simp),e0.bF.kept hk,?_⟩
 ·exact name_of_addr x.apart (PySem.mem_of_lookup h1) (PySem.mem_of_lookup h2)
 ·have hy:scope.names.lookup y=some .cell∨scope.names.lookup y=some .free:=hy
  rcases hy with hy|hy
  ·exact uF hy
  ·exact absurd rfl (S.Kt _ (PySem.mem_of_lookup hy))
 ·exact Nat.le_of_lt (x.above y c (PySem.mem_of_lookup h))
 ·have hi:i<vs.length:=by
   unfold start at h2
   by_cases hi:i<vs.length
   ·exact hi
   ·rw[List.getElem?_append_right (by simpa using hi)] at h2
    rw[List.getElem?_replicate] at h2
    split at h2<;>cases h2
  have ha:vs[i]? =some v:=by
   unfold start at h2
   rw[List.getElem?_append_left (by simpa using hi),List.getElem?_map] at h2
   cases e:vs[i]? with
   |none=>rw[e] at h2;cases h2
   |some a=>rw[e] at h2;cases h2;rfl
  obtain⟨u,hu,rv⟩:=r.get ha
  have hp:ps[i]? =some y:=by
   rw[←S.pre,List.getElem?_take_of_lt (by omega)];exact h1
  have ndP:ps.Nodup:=by rw[←S.pre];exact S.nd.sublist (List.take_sublist _ _)
  refine⟨u,rv,?_⟩
  rcases S.par y (List.mem_of_getElem? hp) with k|k
  ·exact .inl ⟨k,qC ndP hp hu k⟩
  ·obtain⟨c,e⟩:=uF (n:=s.heap.objs.size+1) k
   refine .inr ⟨.inl k,c,e,?_⟩
   have q:=x.cell y c e
   rw[qD ndP hp hu (by show scope.names.lookup y≠_;rw[k];decide)] at q
   exact q
 ·exact e0.bF.fresh (Nat.le_of_lt (x.above y c (PySem.mem_of_lookup h)))
 ·unfold start
  show _=N.length
  rw[List.length_append,List.length_map,List.length_replicate]
  omega
theorem fn_of{CX:uz}{P:Program}{w:World}{K:PySem.W.Frag}{mg:Str→Option Value}{base:Heap}{k:Nat}{f:Addr}{name qual:Str}{params:Arguments}{body:List Stmt}{scope:Scope}{dV kV doc pm br ct oc:Value}{an od:Option Addr}
  {nD:Array (Option Value)} {N ps:List Str} {sp:Sp} (lk:K.lookup f=some ⟨oc,od, .func (PySem.W.fnOf name qual params body scope dV kV doc pm an br ct),nD⟩) (mZ:PySem.W.codeIn K br qual=true) (S:az N ps scope)
  (len:∀vs H Q E,sp vs H Q E→vs.length=ps.length)
  (cS:∀(A:Around) (outer:List Env) (s:Shared) (H:Hp) (vs:List V) (Q:VK) (E:XK),cf k (A.deeper (envOfC qual scope s.heap.objs.size f br))→sp vs H Q E→
   ∃t,jV (fI CX P w K mg base N qual scope f br A outer s H E) body t∧t { nx:=fun _ H'=>Q .cJ H',rt:=Q } (start N vs) H):
  dj P w K mg base CX (k+1) f (PySem.W.fnOf name qual params body scope dV kV doc pm an br ct) ps sp:=by
 refine⟨len,fun A outer s H args us vs Q E hr e0 hb r uH=>?_⟩
 have hl:=len _ _ _ _ uH
 have KX:K.In s.heap:=e0.mod.B'.keeps fun b o e=>(e0.bs b o e).1
 have lim:s.heap.NoLimit:=e0.mod.nolimit.keeps fun b o e=>(e0.bs b o e).1
 have Cv:∀y∈ps.zip us,scope.names.lookup y.1=some .local∨(scope.names.lookup y.1=some .cell∧((cellsFrom (s.heap.objs.size+1) scope.names []).lookup y.1).isSome=true):=fun⟨n,v⟩ hy=>by
  rcases S.par n (List.of_mem_zip hy).1 with q|q
  ·exact .inl q
  ·exact .inr ⟨q,PySem.W.cellsFrom_some _ _ _ (.inl q)⟩
 refine codeAny_call_function hr.depth (KX _ _ lk) rfl S.co S.gen rfl (PySem.W.codeRec_of KX mZ) (hb _ _ _ _ ?_)
 refine wpAny_newFunctionEnv_cells S.kind Cv fun env he s1 x=>?_
 subst he
 refine⟨lim.keeps x.toInCall.keep,codeAny_func ?_⟩
 obtain⟨t,ht,hq⟩:=cS A outer s H vs Q E (hr.deeper _) uH
 have I:Inv (fI CX P w K mg base N qual scope f br A outer s H E) [] (start N vs) H s1:=qF S hr.hd e0 hl r x
 refine wpAny_mono (ht [] s1 (start N vs) H _ I hq) (fun fl s' hs=>?_) fun e s' hs=>hs
 have fin:∀{σ':St} {H':Hp} {v:V} {u:Value},Inv (fI CX P w K mg base N qual scope f br A outer s H E) [] σ' H' s'→RelV v u→Q v H'→CE outer P w H s Q u s':=
  fun {σ' H' v u} J rv q=>⟨v,H',J.os,J.bare,J.base,J.bF,rv,q⟩
 cases fl with
 |ret u=>
  obtain⟨v,σ',H',J,rv,q⟩:=hs
  exact fin J rv q
 |next=>
  obtain⟨σ',H',J,q⟩:=hs
  exact fin (v:=V.cJ) (u:=Value.none) J rfl q
 |brk=>
  obtain⟨_,_,_,q⟩:=hs
  exact False.elim q
 |cont=>
  obtain⟨_,_,_,q⟩:=hs
  exact False.elim q
end L2
namespace L2
open PySem PySem.Spec PyProof.Rows
section
variable {X:Cx}{x:Str}{p pos:Pos}{e:Expr}{es:List Expr}{t:TA}{id T:String}{r:List V→Hp→VK→Prop}
def tCB(r:List V→Hp→VK→Prop)(t:TA):TE:=fun σ H Q=>t σ H fun vs H1=>r vs H1 Q
theorem bw(hc:gL X (.builtin id) r)(hg:Gl X x)(hm:X.mg x=none)(hv:bootBuiltins x=some (.builtin id))(ha:PA X (e::es) t)(hn:x≠"__name__" :=by decide)(xr:(x==("__debug__" :Str))=false:=by decide)
  (he:starEach (e::es) X.env=(false,eval e X.env)::starEach es X.env:=by rfl) (kr:(backTo pos (starEach es X.env)).any (·.1)=false:=by rfl):PE X (.Call (.Name x p) (e::es) [] pos) (tCB r t):=by
 intro pins s σ H Q I h
 refine wpAny_Call_Name_kw (oo I hg hm hv ?_ hn xr)
 exact PyProof.Rows.callWith_builtin1 (bN (ha pos pins s σ H _ I h) fun us s1 ⟨vs,H1,I1,r1,q1⟩=>hc pins s1 σ H1 vs us Q I1 r1 q1) he kr
theorem dW(hc:gL X (.type T) r)(hg:Gl X x)(hm:X.mg x=none)(hv:bootBuiltins x=some (.type T))(ha:PA X (e::es) t)(hn:x≠"__name__" :=by decide)(xr:(x==("__debug__" :Str))=false:=by decide)
  (he:starEach (e::es) X.env=(false,eval e X.env)::starEach es X.env:=by rfl) (kr:(backTo pos (starEach es X.env)).any (·.1)=false:=by rfl):PE X (.Call (.Name x p) (e::es) [] pos) (tCB r t):=by
 intro pins s σ H Q I h
 refine wpAny_Call_Name_kw (oo I hg hm hv ?_ hn xr)
 exact PyProof.Rows.callWith_type1 (bN (ha pos pins s σ H _ I h) fun us s1 ⟨vs,H1,I1,r1,q1⟩=>hc pins s1 σ H1 vs us Q I1 r1 q1) he kr
end
end L2
namespace L2
open PySem PySem.Spec PyProof.Rows
section
variable {κ:Type}[DecidableEq κ]
def b4(aL:List (κ×V))(k:κ):Option V:=(aL.find? fun kv=>decide (kv.1=k)).map (·.2)
def putK(aL:List (κ×V))(k:κ)(v:V):List (κ×V):=
 if (aL.any fun kv=>decide (kv.1=k))=true then aL.map (fun kv=>if kv.1=k then (kv.1,v) else kv) else aL++[(k,v)]
def dX(aL:List (κ×V))(k:κ):List (κ×V):=aL.filter fun kv=>decide (kv.1≠k)
theorem b7{p:κ×V}{r:List (κ×V)}{k:κ}(e:p.1=k):b4 (p::r) k=some p.2:=by simp [b4,List.find?_cons,e]
theorem bZ{p:κ×V}{r:List (κ×V)}{k:κ}(e:¬p.1=k):b4 (p::r) k=b4 r k:=by simp [b4,List.find?_cons,e]
theorem kF(k:κ):∀aL:List (κ×V),(aL.any fun kv=>decide (kv.1=k))=(b4 aL k).isSome
 | []=>rfl
 |p::r=>by
  rw[List.any_cons]
  by_cases e:p.1=k
  ·simp only [b7 e,decide_eq_true e,Bool.true_or,Option.isSome_some]
  ·rw[bZ e,decide_eq_false e,Bool.false_or];exact kF k r
theorem uJ(k j:κ)(y:V):∀aL:List (κ×V),b4 (aL.map fun kv=>if kv.1=k then (kv.1,y) else kv) j=(b4 aL j).map fun x=>if j=k then y else x
 | []=>rfl
 |p::r=>by
  have ih:=uJ k j y r
  rw[List.map_cons]
  by_cases h:p.1=k
  ·rw[if_pos h]
   by_cases e:p.1=j
   ·rw[b7 (p:=(p.1,y)) e,b7 e,Option.map_some,if_pos (e.symm.trans h)]
   ·rw[bZ (p:=(p.1,y)) e,bZ e,ih]
  ·rw[if_neg h]
   by_cases e:p.1=j
   ·rw[b7 (p:=p) e,b7 e,Option.map_some,if_neg (fun z=>h (e.trans z))]
   ·rw[bZ (p:=p) e,bZ e,ih]
theorem qG(k j:κ)(y:V):∀aL:List (κ×V),b4 aL k=none→b4 (aL++[(k,y)]) j=if j=k then some y else b4 aL j
 | [],_=>by
   by_cases e:k=j
   ·rw[if_pos e.symm];exact b7 (p:=(k,y)) e
   ·rw[if_neg (fun z=>e z.symm)];exact bZ (p:=(k,y)) e
 |p::r,hn=>by
  rw[List.cons_append]
  have hk:¬p.1=k:=fun z=>by rw[b7 z] at hn;cases hn
  rw[bZ hk] at hn
  have ih:=qG k j y r hn
  by_cases e:p.1=j
  ·rw[b7 e,b7 e,if_neg (fun z=>hk (e.trans z))]
  ·rw[bZ e,bZ e,ih]
theorem uO(aL:List (κ×V))(k j:κ)(y:V):b4 (putK aL k y) j=if j=k then some y else b4 aL j:=by
 unfold putK
 by_cases a:(aL.any fun kv=>decide (kv.1=k))=true
 ·rw[if_pos a,uJ]
  rw[kF] at a
  by_cases e:j=k
  ·obtain⟨x,hx⟩:=Option.isSome_iff_exists.mp a
   rw[if_pos e,e,hx,Option.map_some,if_pos rfl]
  ·rw[if_neg e]
   cases b4 aL j with
   |none=>rfl
   |some x=>rw[Option.map_some,if_neg e]
 ·rw[if_neg a]
  refine qG k j y aL ?_
  rw[kF] at a
  cases q:b4 aL k with
  |none=>rfl
  |some x=>rw[q] at a;exact(a rfl).elim
theorem mH(aL:List (κ×V))(k:κ)(v:V):(putK aL k v).length≤aL.length+1:=by
 unfold putK
 split
 ·rw[List.length_map];omega
 ·rw[List.length_append,List.length_cons,List.length_nil];omega
theorem fX.fA{o:Option V}{u:Option Value}(r:fX o u):o.isSome=u.isSome:=by
 cases o with
 |none=>cases u with
  |none=>rfl
  |some _=>exact(show False from r).elim
 |some _=>cases u with
  |none=>exact(show False from r).elim
  |some _=>rfl
theorem KV.val{aL:List (κ×V)}{vs:List (κ×Value)}(r:KV aL vs)(k:κ):fX (b4 aL k) (valueAt vs k):=by
 unfold KV at r
 induction r with
 |nil=>exact True.intro
 | @cons p q ps qs h t ih=>
   obtain⟨h1,h2⟩:=h
   by_cases e:p.1=k
   ·have e':q.1=k:=h1.symm.trans e
    have b:valueAt (q::qs) k=some q.2:=by simp [valueAt,List.find?_cons,e']
    rw[b7 e,b];exact h2
   ·have e':¬q.1=k:=fun z=>e (h1.trans z)
    have b:valueAt (q::qs) k=valueAt qs k:=by simp [valueAt,List.find?_cons,e']
    rw[bZ e,b];exact ih
theorem KV.any{aL:List (κ×V)}{vs:List (κ×Value)}(r:KV aL vs)(k:κ):(aL.any fun kv=>decide (kv.1=k))=vs.any fun kv=>decide (kv.1=k):=by
 unfold KV at r
 induction r with
 |nil=>rfl
 |cons h t ih=>rw[List.any_cons,List.any_cons,ih,h.1]
theorem KV.Ku{aL:List (κ×V)}{vs:List (κ×Value)}(r:KV aL vs)(k:κ){y:V}{u:Value}(ry:RelV y u):
  KV (aL.map fun kv=>if kv.1=k then (kv.1,y) else kv) (vs.map fun kv=>if kv.1=k then (kv.1,u) else kv):=by
 unfold KV at r ⊢
 induction r with
 |nil=>exact .nil
 | @cons p q ps qs h t ih=>
   rw[List.map_cons,List.map_cons]
   refine .cons ?_ ih
   obtain⟨h1,h2⟩:=h
   by_cases e:p.1=k
   ·rw[if_pos e,if_pos (h1.symm.trans e)];exact⟨h1,ry⟩
   ·rw[if_neg e,if_neg (fun z=>e (h1.trans z))];exact⟨h1,h2⟩
theorem KV.put{aL:List (κ×V)}{vs:List (κ×Value)}(r:KV aL vs)(k:κ){y:V}{u:Value}(ry:RelV y u):KV (putK aL k y) (stored vs k u):=by
 unfold putK stored
 rw[r.any k]
 by_cases e:(vs.any fun kv=>decide (kv.1=k))=true
 ·rw[if_pos e,if_pos e];exact r.Ku k ry
 ·rw[if_neg e,if_neg e];exact Paired.snoc r ⟨rfl,ry⟩
theorem KV.drop{aL:List (κ×V)}{vs:List (κ×Value)}(r:KV aL vs)(k:κ):KV (dX aL k) (without vs k):=by
 unfold KV at r ⊢
 unfold dX without
 induction r with
 |nil=>exact .nil
 | @cons p q ps qs h t ih=>
   obtain⟨h1,h2⟩:=h
   rw[List.filter_cons,List.filter_cons]
   by_cases e:p.1=k
   ·have a:¬decide (p.1≠k)=true:=by simp [e]
    have b:¬decide (q.1≠k)=true:=by simp [h1.symm.trans e]
    rw[if_neg a,if_neg b];exact ih
   ·have e':¬q.1=k:=fun z=>e (h1.trans z)
    have a:decide (p.1≠k)=true:=by simp [e]
    have b:decide (q.1≠k)=true:=by simp [e']
    rw[if_pos a,if_pos b];exact .cons ⟨h1,h2⟩ ih
theorem KV.length{aL:List (κ×V)}{vs:List (κ×Value)}(r:KV aL vs):aL.length=vs.length:=Paired.length r
theorem Cw(aL:List (κ×V))(k:κ):(dX aL k).length≤aL.length:=List.length_filter_le _ _
end
theorem mI{P:Program}{w:World}{k:Key}{u:Value}(r:RelV (kV k) u):(b9 P w).is k u=true:=by
 cases k with
 |inl i=>obtain⟨t,e⟩:=(show∃t,u=Value.int i t from r);subst e;exact uu P w i t
 |inr x=>obtain⟨t,e⟩:=(show∃t,u=Value.str x t from r);subst e;exact iU P w x t
theorem items_are{P:Program}{w:World}:∀{ks:List Key} {us:List Value},Vals (ks.map kV) us→ItemsAre (b9 P w) ks us
 | [],_,r=>by rw[List.map_nil] at r;cases r;exact .nil
 |k::ks,_,r=>by
  rw[List.map_cons] at r
  cases r with
  |cons h t=>exact .cons (mI h) (items_are t)
abbrev KT(H:Hp):List (List Key×V)→List (List Key×Addr×Value)→Prop:=Paired fun p q=>p.1=q.1∧H q.2.1=some (.tup (p.1.map kV))∧RelV p.2 q.2.2
theorem KT.val{H:Hp}{aL:List (List Key×V)}{xs:List (List Key×Addr×Value)}(r:KT H aL xs)(k:List Key):fX (b4 aL k) ((atKey xs k).map (·.2)):=by
 induction r with
 |nil=>exact True.intro
 | @cons p q ps qs h t ih=>
   obtain⟨h1,_,h2⟩:=h
   by_cases e:p.1=k
   ·have e':q.1=k:=h1.symm.trans e
    have b:atKey (q::qs) k=some q.2:=by simp [atKey,List.find?_cons,e']
    rw[b7 e,b];exact h2
   ·have e':¬q.1=k:=fun z=>e (h1.trans z)
    have b:atKey (q::qs) k=atKey qs k:=by simp [atKey,List.find?_cons,e']
    rw[bZ e,b];exact ih
theorem KT.Ku{H:Hp}{aL:List (List Key×V)}{xs:List (List Key×Addr×Value)}(r:KT H aL xs)(k:List Key){y:V}{u:Value}(ry:RelV y u):
  KT H (aL.map fun kv=>if kv.1=k then (kv.1,y) else kv) (xs.map (putAt k u)):=by
 induction r with
 |nil=>exact .nil
 | @cons p q ps qs h t ih=>
   rw[List.map_cons,List.map_cons]
   refine .cons ?_ ih
   obtain⟨h1,h2,h3⟩:=h
   unfold putAt
   by_cases e:p.1=k
   ·rw[if_pos e,if_pos (h1.symm.trans e)];exact⟨h1,h2,ry⟩
   ·rw[if_neg e,if_neg (fun z=>e (h1.trans z))];exact⟨h1,h2,h3⟩
theorem KT.put{H:Hp}{aL:List (List Key×V)}{xs:List (List Key×Addr×Value)}(r:KT H aL xs)(k:List Key){b:Addr}{y:V}{u:Value}(hb:H b=some (.tup (k.map kV)))(ry:RelV y u):
  KT H (putK aL k y) (storedH xs k b u):=by
 have e:(aL.any fun kv=>decide (kv.1=k))=(atKey xs k).isSome:=by
  rw[kF,(r.val k).fA,Option.isSome_map]
 unfold putK storedH
 rw[e]
 by_cases q:(atKey xs k).isSome=true
 ·rw[if_pos q,if_pos q];exact r.Ku k ry
 ·rw[if_neg q,if_neg q];exact Paired.snoc r ⟨rfl,hb,ry⟩
theorem KT.keeps{H H':Hp}{aL:List (List Key×V)}{xs:List (List Key×Addr×Value)}(r:KT H aL xs)(ht:∀b ys,H b=some (.tup ys)→H' b=some (.tup ys)):KT H' aL xs:=
 Paired.J9 r fun _ _ z=>⟨z.1,ht _ _ z.2.1,z.2.2⟩
section
variable {P:Program}{w:World}{H:Hp}{h:Heap}{a:Addr}
theorem Iz{u:HO}(ok:iW P w H h)(e:Rd H a u):cq P w H h a u:=e.ok ok
theorem qH{aL:List (Key×V)}(ok:iW P w H h)(e:Rd H a (.dK aL)):aL.length≤sizeLine∧(a==sysModules)=false∧∃vs,KV aL vs∧h.DictOf (b9 P w) a vs:=
 show cq P w H h a (.dK aL) from Iz ok e
theorem IA{aL:List (Key×V)}(ok:iW P w H h)(e:H a=some (.dK aL)):aL.length≤sizeLine∧(a==sysModules)=false∧∃vs,KV aL vs∧h.DictOf (b9 P w) a vs:=qH ok (.inl e)
theorem key_of{ks:List Key}(ok:iW P w H h)(e:H a=some (.tup (ks.map kV))):(tupleKind (b9 P w)).is h ks a:=by
 obtain⟨_,its,r,o,h1,h2,n,h3⟩:=(show cq P w H h a (.tup (ks.map kV)) from ok a _ e)
 exact⟨o,its.toArray,n,h1,h2,h3,by simpa using items_are r⟩
theorem qI{aL:List (List Key×V)}(ok:iW P w H h)(e:Rd H a (.dT aL)):aL.length≤sizeLine∧(a==sysModules)=false∧
  ∃xs,KT H aL xs∧h.DictOfH (tupleKind (b9 P w)) a xs:=by
 obtain⟨z,y,xs,r,o,es,ep,h1,h2,h3,h4,h5⟩:=(show cq P w H h a (.dT aL) from Iz ok e)
 refine⟨z,y,xs,r,o,es,ep,h1,h2,h3,h4,fun x hx=>?_,h5⟩
 have all:∀{l:List (List Key×V)} {m:List (List Key×Addr×Value)},KT H l m→∀x∈m,(tupleKind (b9 P w)).is h x.1 x.2.1:=by
  intro l m q
  induction q with
  |nil=>intro x hx;exact nomatch hx
  | @cons p q ps qs hq t ih=>
    intro x hx
    rcases List.mem_cons.mp hx with e|hx
    ·subst e
     exact key_of ok (by rw[←hq.1];exact hq.2.1)
    ·exact ih x hx
 exact all r x hx
theorem NY{aL:List (List Key×V)}(ok:iW P w H h)(e:H a=some (.dT aL)):aL.length≤sizeLine∧(a==sysModules)=false∧
  ∃xs,KT H aL xs∧h.DictOfH (tupleKind (b9 P w)) a xs:=qI ok (.inl e)
end
def jN(H:Hp)(a:Addr)(y:V)(r:Option V):Prop:=
 (∃aL k,Rd H a (.dK aL)∧y=kV k∧r=b4 aL k)∨∃aL k b,Rd H a (.dT aL)∧y= .ref b∧H b=some (.tup (k.map kV))∧r=b4 aL k
def AI(H:Hp)(a:Addr)(y v:V)(H':Hp):Prop:=
 (∃aL k,H a=some (.dK aL)∧y=kV k∧aL.length<sizeLine∧H'=upd H a (.dK (putK aL k v)))∨
 ∃aL k b,H a=some (.dT aL)∧y= .ref b∧H b=some (.tup (k.map kV))∧aL.length<sizeLine∧H'=upd H a (.dT (putK aL k v))
theorem jN.k{H:Hp}{a:Addr}{aL:List (Key×V)}{k:Key}(e:H a=some (.dK aL)):jN H a (kV k) (b4 aL k):= .inl ⟨aL,k, .inl e,rfl,rfl⟩
theorem AI.k{H:Hp}{a:Addr}{aL:List (Key×V)}{k:Key}{v:V}(e:H a=some (.dK aL))(hl:aL.length<sizeLine):AI H a (kV k) v (upd H a (.dK (putK aL k v))):= .inl ⟨aL,k,e,rfl,hl,rfl⟩
section
variable {X:Cx}{pins:List (Addr×Obj)}{σ:St}{H:Hp}{s:Shared}{a:Addr}{y v:V}{u r:Value}{o:Option V}{A:Around}{E:Value→Shared→Prop}
theorem Inv.big(I:Inv X pins σ H s):sysModules<s.heap.objs.size:=by
 have h:mainGlobals<s.heap.objs.size:=(I.mod.glob.keeps I.bk).lt
 exact Nat.lt_trans (by decide) h
theorem AJ{Q:Value→Shared→Prop}(hu:A.units+1<cLine)(I:Inv X pins σ H s)(g:jN H a y (some v))(ry:RelV y u)(h:∀w' s',Inv X pins σ H s'→RelV v w'→Q w' s'):
  wpAny (model X.prog X.w) A (getItem (.ref a) u) Q E s:=by
 rcases g with ⟨aL,k,e,ey,l⟩ | ⟨aL,k,b,e,ey,eb,l⟩
 ·subst ey
  obtain⟨z,hd,vs,rel,dd⟩:=qH I.bF e
  obtain⟨w',hw,qJ⟩:=fX.some_of (v:=v) (o:=valueAt vs k) (by rw[l];exact rel.val k)
  exact wpAny_getItem_of (mI ry) dd.mapOf hw (h w' _ (I.tok _) qJ)
 ·subst ey
  cases (show u=Value.ref b from ry)
  obtain⟨z,hd,xs,rel,dd⟩:=qI I.bF e
  obtain⟨w',hw,qJ⟩:=fX.some_of (v:=v) (o:=(atKey xs k).map (·.2)) (by rw[l];exact rel.val k)
  obtain⟨p,hp,hp2⟩:=Option.map_eq_some_iff.mp hw
  refine wpAny_getItem_heap (tupleKind_room_in1 hu) (key_of I.bF eb) dd hp ?_
  rw[hp2]
  exact h w' _ (I.tok _) qJ
theorem UN{Q:Value→Shared→Prop}(hu:A.units+1<cLine)(I:Inv X pins σ H s)(g:jN H a y o)(ry:RelV y u)(h:∀s',Inv X pins σ H s'→Q (.bool o.isSome) s'):
  wpAny (model X.prog X.w) A (compareOp .In u (.ref a)) Q E s:=by
 rcases g with ⟨aL,k,e,ey,l⟩ | ⟨aL,k,b,e,ey,eb,l⟩
 ·subst ey
  obtain⟨z,hd,vs,rel,dd⟩:=qH I.bF e
  refine wpAny_in_of (mI ry) hd dd.mapOf ?_
  rw[←(rel.val k).fA,←l]
  exact h _ (I.tok _)
 ·subst ey
  cases (show u=Value.ref b from ry)
  obtain⟨z,hd,xs,rel,dd⟩:=qI I.bF e
  refine wpAny_in_heap (tupleKind_room_in1 hu) (key_of I.bF eb) hd dd ?_
  have q:=(rel.val k).fA
  rw[Option.isSome_map] at q
  rw[←q,←l]
  exact h _ (I.tok _)
theorem FP{Q:Value→Shared→Prop}(hu:A.units+1<cLine)(I:Inv X pins σ H s)(g:jN H a y o)(ry:RelV y u)(h:∀s',Inv X pins σ H s'→Q (.bool (!o.isSome)) s'):
  wpAny (model X.prog X.w) A (compareOp .NotIn u (.ref a)) Q E s:=by
 rcases g with ⟨aL,k,e,ey,l⟩ | ⟨aL,k,b,e,ey,eb,l⟩
 ·subst ey
  obtain⟨z,hd,vs,rel,dd⟩:=qH I.bF e
  refine wpAny_notIn_of (mI ry) hd dd.mapOf ?_
  rw[←(rel.val k).fA,←l]
  exact h _ (I.tok _)
 ·subst ey
  cases (show u=Value.ref b from ry)
  obtain⟨z,hd,xs,rel,dd⟩:=qI I.bF e
  refine wpAny_notIn_heap (tupleKind_room_in1 hu) (key_of I.bF eb) hd dd ?_
  have q:=(rel.val k).fA
  rw[Option.isSome_map] at q
  rw[←q,←l]
  exact h _ (I.tok _)
theorem sD{h':Heap}{t':Nat}{ob:HO}(I:Inv X pins σ H s)(mu:Nu (H a))(hs:Heap.SameBut a s.heap h')(he:∃q,h'.get? a=some q)(new:cq X.prog X.w (upd H a ob) h' a ob):
  Inv X pins σ (upd H a ob) { s with heap:=h',toks:=t' }:=
 I.write (x:=a) (e:=a) mu (.inl rfl) (fun b q hb z=>(hs.2 b hb).trans z) he new
theorem Cy{P:Program}{w:World}{H':Hp}{h':Heap}{aL:List (Key×V)}{vs:List (Key×Value)}(z:aL.length≤sizeLine)(hd:(a==sysModules)=false)(rel:KV aL vs)(dd:h'.DictOf (b9 P w) a vs):
  cq P w H' h' a (.dK aL):=⟨z,hd,vs,rel,dd⟩
theorem AK{H':Hp}{Q:Unit→Shared→Prop}(hu:A.units+1<cLine)(I:Inv X pins σ H s)(g:AI H a y v H')(ry:RelV y u)(rv:RelV v r)(h:∀s',Inv X pins σ H' s'→Q () s'):
  wpAny (model X.prog X.w) A (setItem (.ref a) u r) Q E s:=by
 rcases g with ⟨aL,k,e,ey,l,eH⟩ | ⟨aL,k,b,e,ey,eb,l,eH⟩
 ·subst ey eH
  obtain⟨z,hd,vs,rel,dd⟩:=IA I.bF e
  have hz:vs.length≤sizeLine:=by rw[←rel.length];exact z
  have hl:(putK aL k v).length≤sizeLine:=by have:=mH aL k v;omega
  refine wpAny_setItem_pairs (hsz:=hz) (mI ry) dd fun h' IB hs=>h _ ?_
  have he:∃q,h'.get? a=some q:=let ⟨q,_,_,hq,_⟩:=IB;⟨q,hq⟩
  exact sD I (by rw[e];exact True.intro) hs he (Cy hl hd (rel.put k rv) IB)
 ·subst ey eH
  cases (show u=Value.ref b from ry)
  obtain⟨z,hd,xs,rel,dd⟩:=NY I.bF e
  have hz:xs.length≤sizeLine:=by rw[←Paired.length rel];exact z
  have hl:(putK aL k v).length≤sizeLine:=by have:=mH aL k v;omega
  refine wpAny_setItem_heap (hsz:=hz) (tupleKind_room_in1 hu) (key_of I.bF eb) dd fun h' IB hs=>h _ ?_
  obtain⟨q,es,ep,hq,h2,h3,h4,_,h5⟩:=IB
  refine sD I (by rw[e];exact True.intro) hs ⟨q,hq⟩ ⟨hl,hd,_,(rel.put k eb rv).keeps fun c ys ec=>?_,q,es,ep,hq,h2,h3,h4,h5⟩
  rw[ah (Ik ec e (fun z=>nomatch z))]
  exact ec
end
section
variable {X:Cx}{pins:List (Addr×Obj)}{σ:St}{H:Hp}{s:Shared}{a:Addr}{aL:List (Key×V)}{k:Key}{u:Value}{A:Around}{E:Value→Shared→Prop}
theorem NZ{v:V}{more:List Value}{Q:Value→Shared→Prop}(I:Inv X pins σ H s)(e:H a=some (.dK aL))(ry:RelV (kV k) u)(l:b4 aL k=some v)(hm:more=[]∨∃x,more=[x])
  (h:∀w' s',Inv X pins σ (upd H a (.dK (dX aL k))) s'→RelV v w'→Q w' s'):wpAny (model X.prog X.w) A (call (.builtin "dict.pop") (.ref a::u::more)) Q E s:=by
 obtain⟨z,hd,vs,rel,dd⟩:=IA I.bF e
 obtain⟨w',hw,qJ⟩:=fX.some_of (v:=v) (o:=valueAt vs k) (by rw[←l];exact rel.val k)
 have hp:(keyPart u).isSome=true:=by
  cases k with
  |inl i=>obtain⟨t,q⟩:=(show∃t,u=Value.int i t from ry);subst q;rfl
  |inr x=>obtain⟨t,q⟩:=(show∃t,u=Value.str x t from ry);subst q;rfl
 have ha:argsOk "dict.pop" ⟨.ref a::u::more,[]⟩:=by
  rcases hm with q| ⟨x,q⟩
  ·subst q;exact PySem.F.args_dict_pop_2 _ _
  ·subst q;exact PySem.F.args_dict_pop_3 _ _ _
 refine call_meetsIn PySem.F.slot_dict_pop dd.typeIs PySem.F.entry_dict_pop ha (meets_dict_pop_there (b9 X.prog X.w) a (mI ry) more hm hp)
  ⟨vs,w',dd,by rw[←rel.length];exact z,hw,fun h' IB hs=>h w' _ ?_ qJ⟩
 have he:∃q,h'.get? a=some q:=let ⟨q,_,_,hq,_⟩:=IB;⟨q,hq⟩
 exact sD I (by rw[e];exact True.intro) hs he (Cy (Nat.le_trans (Cw aL k) z) hd (rel.drop k) IB)
end
def Kv(i:Expr):Prop:=∀ov iv,subscripted i false ov iv=operate [ov,iv] (getItem ov iv)
theorem yZ{prog:Program}{w:World}{A:Around}{E:Value→Shared→Prop}{s:Shared}{env:Env}{value slice:Expr}{pos:Pos}{T id:String}{Q:Value→Shared→Prop}
  (hl:typeLookup (.type T) "__getitem__" =pure (some (.builtin id))) (hs:Kv slice)
  (h:wpAny (model prog w) A (eval value env) (fun o s₁=>wpAny (model prog w) A (eval slice env) (fun i s₂=>s₂.TypeIs o T∧wpAny (model prog w) A (getItem o i) Q E s₂) E s₁) E s):
  wpAny (model prog w) A (eval (.Subscript value slice pos) env) Q E s:=by
 refine Subscript_ (wpAny_mono h (fun o s₁ h₁=>wpAny_mono h₁ (fun i s₂ h₂=>?_) fun _ _ x=>x) fun _ _ x=>x)
 obtain⟨hT,h₂⟩:=h₂
 unfold subscriptTail
 refine wpAny_bind ?_
 rw[getitemInPython_of_ne hT.not_modules]
 refine wpAny_bind (wpAny_specialOf hT hl ?_)
 have fin:wpAny (model prog w) A (subscripted slice false o i) (fun r s₃=>wpAny (model prog w) A (letTemporaryGo value o r >>= fun _=>pure r) Q E s₃) E s₂:=by
  rw[hs o i]
  exact wpAny_operating (wpAny_mono h₂ (fun r s₃ h₃=>wpAny_bind (wpAny_letTemporaryGo (wpAny_pure h₃))) fun _ _ x=>x)
 first
  |exact wpAny_pure (wpAny_bind fin)
  |exact wpAny_bind (wpAny_pure (wpAny_bind fin))
  |exact wpAny_bind fin
theorem uQ{X:Cx}{pins:List (Addr×Obj)}{σ:St}{H:Hp}{s:Shared}{a:Addr}{y:V}{o:Option V}(I:Inv X pins σ H s)(g:jN H a y o):s.TypeIs (.ref a) "dict" :=by
 rcases g with ⟨aL,k,e,_,_⟩ | ⟨aL,k,b,e,_,_,_⟩
 ·obtain⟨_,_,vs,_,dd⟩:=qH I.bF e
  exact dd.typeIs
 ·obtain⟨_,_,xs,_,dd⟩:=qI I.bF e
  exact dd.typeIs
def N0(td ty:TE):TE:=fun σ H Q=>td σ H fun x H1=>ty σ H1 fun y H2=>∃a v,x= .ref a∧jN H2 a y (some v)∧Q v H2
def UO(ty td:TE):TE:=fun σ H Q=>ty σ H fun y H1=>td σ H1 fun x H2=>∃a o,x= .ref a∧jN H2 a y o∧Q (.bl o.isSome) H2
def FQ(ty td:TE):TE:=fun σ H Q=>ty σ H fun y H1=>td σ H1 fun x H2=>∃a o,x= .ref a∧jN H2 a y o∧Q (.bl (!o.isSome)) H2
def N2(td ty tv:TE):TS:=fun D σ H=>tv σ H fun v H1=>td σ H1 fun x H2=>ty σ H2 fun y H3=>∃a H4,x= .ref a∧AI H3 a y v H4∧D.nx σ H4
section
variable {X:Cx}{o i e value:Expr}{pos pos' AG:Pos}{td ty tv:TE}
theorem y3(hu:X.A.units+1<cLine)(ho:PE X o td)(hi:PE X i ty)(hs:Kv i):PE X (.Subscript o i pos) (N0 td ty):=by
 intro pins s σ H Q I h
 refine yZ PySem.F.slot_dict_getitem.lookup hs (bN (ho pins s σ H _ I h) fun u s1 ⟨x,H1,I1,rx,q1⟩=>bN (hi pins s1 σ H1 _ I1 q1) fun iv s2 ⟨y,H2,I2,ry,a,v,ex,g,q2⟩=>?_)
 subst ex
 obtain rfl:u=Value.ref a:=rx
 exact⟨uQ I2 g,AJ hu I2 g ry fun w' s3 I3 qJ=>⟨v,H2,I3,qJ,q2⟩⟩
theorem Kw(hu:X.A.units+1<cLine)(hi:PE X i ty)(ho:PE X o td):PC X .In i o (UO ty td):=by
 intro pins s σ H Q I h
 refine bN (hi pins s σ H _ I h) fun iv s1 ⟨y,H1,I1,ry,q1⟩=>bN (ho pins s1 σ H1 _ I1 q1) fun u s2 ⟨x,H2,I2,rx,a,ov,ex,g,q2⟩=>?_
 subst ex
 obtain rfl:u=Value.ref a:=rx
 exact UN hu I2 g ry fun s3 I3=>⟨.bl ov.isSome,H2,I3,rfl,q2⟩
theorem qK(hu:X.A.units+1<cLine)(hi:PE X i ty)(ho:PE X o td):PC X .NotIn i o (FQ ty td):=by
 intro pins s σ H Q I h
 refine bN (hi pins s σ H _ I h) fun iv s1 ⟨y,H1,I1,ry,q1⟩=>bN (ho pins s1 σ H1 _ I1 q1) fun u s2 ⟨x,H2,I2,rx,a,ov,ex,g,q2⟩=>?_
 subst ex
 obtain rfl:u=Value.ref a:=rx
 exact FP hu I2 g ry fun s3 I3=>⟨.bl (!ov.isSome),H2,I3,rfl,q2⟩
theorem y4(hu:X.A.units+1<cLine)(ho:PE X o td)(hi:PE X i ty)(hv:PE X value tv)(hs:swapsWith value (some (.Subscript o i pos')) pos.line X.env=pure false):
  PS X (.Assign [.Subscript o i pos'] value pos) (N2 td ty tv):=by
 intro pins s σ H D I h
 refine wpAny_Assign_Subscript (bN (hv pins s σ H _ I h) fun r s1 ⟨v,H1,I1,rv,q1⟩=>bN (ho pins s1 σ H1 _ I1 q1) fun u s2 ⟨x,H2,I2,rx,q2⟩=>bN (hi pins s2 σ H2 _ I2 q2) fun iv s3 ⟨y,H3,I3,ry,a,H4,ex,g,q3⟩=>?_) hs
 subst ex
 obtain rfl:u=Value.ref a:=rx
 exact AK hu I3 g ry rv fun s4 I4=>⟨σ,H4,I4,q3⟩
end
theorem Cz{P:Program}{w:World}{H:Hp}(h:Heap)(hb:sysModules<h.objs.size):cq P w H (h.push { cls:= .type "dict",data:= .dict #[] }) h.objs.size (.dK []):=
 ⟨Nat.zero_le _,beq_eq_false_iff_ne.mpr (Ne.symm (Nat.ne_of_lt hb)),[], .nil,Heap.DictOf.new h⟩
def Kx:TE:=fun _ H Q=>∀p,H p=none→Q (.ref p) (upd H p (.dK []))
section
variable {X:Cx}{pos:Pos}
theorem kG:PE X (.Dict [] [] pos) Kx:=fun pins s σ H Q I h=>
 wpAny_Dict_empty ⟨.ref s.heap.objs.size,_,I.laid (a:=s.heap.objs.size) (o:= .dK []) (t':=s.toks) (fun _ _ q=>Heap.get?_push_of_some _ q) (Nat.le_refl _) (Cz s.heap I.big),rfl,h _ (I.bF.fresh (Nat.le_refl _))⟩
end
structure M1(X:Cx)(o:Expr)(m:Str)(apos:Pos)(e:Expr)(iI:Pos):Prop where
 base:attributeBase o m X.env (eval o X.env)=eval o X.env
 few:((backTo iI (starEach [e] X.env)).all (fun x=>!x.1)&&(backToKw iI (keywordEach [] X.env)).all (fun x=>x.1.isSome)
  &&decide (([e]:List Expr).length+([]:List Keyword).length+(if ([]:List Keyword).isEmpty then 0 else 1) <30))=true
 line:(apos.endLine==iI.line)=true
 trees:backTo iI (starEach [e] X.env)=[(false,eval e X.env)]
def IsD(H:Hp)(a:Addr):Prop:=(∃aL,Rd H a (.dK aL))∨∃aL,Rd H a (.dT aL)
theorem Ky{X:Cx}{pins:List (Addr×Obj)}{σ:St}{H:Hp}{s:Shared}{a:Addr}(I:Inv X pins σ H s)(d:IsD H a):
  s.TypeIs (.ref a) "dict" ∧(∀b,Value.ref a= .ref b→∃ob,s.heap.get? b=some ob∧ob.dict=none)∧(a==sysModules)=false:=by
 rcases d with ⟨aL,e⟩ | ⟨aL,e⟩
 ·obtain⟨_,hd,vs,_,dd⟩:=qH I.bF e
  refine⟨dd.typeIs,fun b q=>?_,hd⟩
  cases q
  obtain⟨ob,_,_,h1,h2,_⟩:=dd
  exact⟨ob,h1,h2.2.1⟩
 ·obtain⟨_,hd,xs,_,dd⟩:=qI I.bF e
  refine⟨dd.typeIs,fun b q=>?_,hd⟩
  cases q
  obtain⟨ob,_,_,h1,h2,_⟩:=dd
  exact⟨ob,h1,h2.2.1⟩
section
variable {X:Cx}{pins:List (Addr×Obj)}{σ:St}{H:Hp}{s:Shared}{a:Addr}{y d:V}{u r:Value}{o:Option V}{A:Around}{E:Value→Shared→Prop}
end
def Kz(td ty:TE):TE:=fun σ H Q=>td σ H fun x H1=>∃a,x= .ref a∧IsD H1 a∧ty σ H1 fun y H2=>∃aL k v,H2 a=some (.dK aL)∧y=kV k∧b4 aL k=some v∧Q v (upd H2 a (.dK (dX aL k)))
section
variable {X:Cx}{o e f:Expr}{apos iI:Pos}{td ty tx:TE}
theorem uR(ho:PE X o td)(he:PE X e ty)(m:M1 X o "pop" apos e iI):PE X (.Call (.Attribute o "pop" apos) [e] [] iI) (Kz td ty):=by
 intro pins s σ H Q I h
 refine wpAny_Call_method m.base m.few m.line PySem.F.plainAttrs_dict PySem.F.slot_dict_pop PySem.F.type_dict_pop (bN (ho pins s σ H _ I h) fun u s1 ⟨x,H1,I1,rx,a,ex,d,q1⟩=>?_)
 subst ex
 obtain rfl:u=Value.ref a:=rx
 obtain⟨t1,t2,_⟩:=Ky I1 d
 refine⟨t1,t2,?_⟩
 rw[m.trees]
 refine Calls.callWith_builtin rfl (Calls.evalArgs_plain (Calls.spliced_cons (bN (he pins s1 σ H1 _ I1 q1) fun iv s2 ⟨y,H2,I2,ry,aL,k,v,ea,ey,l,q2⟩=>Calls.spliced_nil ?_)))
 subst ey
 exact NZ I2 ea ry l (.inl rfl) fun w' s3 I3 qJ=>⟨v,_,I3,qJ,q2⟩
end
section
variable {X:Cx}{pins:List (Addr×Obj)}{σ:St}{H:Hp}{s:Shared}{a:Addr}{aL:List (Key×V)}{A:Around}{E:Value→Shared→Prop}
end
section
variable {X:Cx}{pins:List (Addr×Obj)}{σ:St}{H:Hp}{s:Shared}{a:Addr}{y:V}{u:Value}{A:Around}{E:Value→Shared→Prop}
end
end L2
namespace HT
open PySem PyProof.Rows
section
open PySem.SeqAt
open PySem.AutoSeq1 (wpAny_loadPart')
open PySem.MeetsSeq PySem.MeetsSeq2 PySem.MeetsSeq3
end
section
variable {prog:Program}{w:World}{A:Around}{E:Value→Shared→Prop}{s:Shared}
def uU(n d:Nat):Option Int→Nat
 |none=>d
 |some v=>if v<0 then (v+(n:Int)).toNat else min v.toNat n
theorem uV(n d:Nat):uU n d none=d:=rfl
theorem y7(n d k:Nat):uU n d (some (k:Int))=min k n:=by
 show (if (k:Int) <0 then ((k:Int)+(n:Int)).toNat else min (k:Int).toNat n)=min k n
 rw[if_neg (by omega),Int.toNat_natCast]
end
end HT
namespace L2
open PySem PySem.Spec PyProof.Rows
abbrev TO:=St→Hp→(Option Int→Hp→Prop)→Prop
def PO(X:Cx)(e:Option Expr)(t:TO):Prop:=
 ∀(pins:List (Addr×Obj)) (s:Shared) (σ:St) (H:Hp) (Q:Option Int→Hp→Prop),Inv X pins σ H s→t σ H Q→
  wpAny (model X.prog X.w) X.A (evalPart e X.env) (fun u s'=>∃o H',Inv X pins σ H' s'∧IsPart u o∧Q o H') X.xe s
def FR:TO:=fun _ H Q=>Q none H
def N3(t:TE):TO:=fun σ H Q=>t σ H fun x H1=>∃i,x= .int i∧Q (some i) H1
theorem intsAre_of{ns:List Int}:∀{us:List Value},Vals (ns.map V.int) us→IntsAre us ns:=by
 induction ns with
 |nil=>intro us r;rw[List.map_nil] at r;cases r;exact .nil
 |cons n ns ih=>
  intro us r
  rw[List.map_cons] at r
  cases r with
  |cons r1 r2=>
   obtain⟨t,e⟩:=r1
   subst e
   exact .cons n t (ih r2)
section
variable {X:Cx}{e:Expr}{te:TE}{lo hi:Option Expr}{tl th:TO}{pos p2:Pos}
theorem ia:PO X none FR:=by
 intro pins s σ H Q I h
 rw[evalPart_none]
 exact wpAny_pure ⟨none,H,I, .none,h⟩
theorem cg(h:PE X e te):PO X (some e) (N3 te):=by
 intro pins s σ H Q I hw
 rw[evalPart_some]
 refine bN (h pins s σ H _ I hw) fun u s1 ⟨x,H1,I1,r1,q1⟩=>?_
 obtain⟨i,rfl,q⟩:=q1
 obtain⟨t,rfl⟩:=r1
 exact⟨some i,H1,I1, .int i t,q⟩
def UP(X:Cx)(r:V→Option Int→Option Int→Hp→VK→Prop):Prop:=
 ∀(pins:List (Addr×Obj)) (s:Shared) (σ:St) (H:Hp) (x:V) (v vl vu:Value) (lo hi:Option Int) (sl:Addr) (Q:VK),Inv X pins σ H s→RelV x v→s.heap.IsSliceOf sl vl vu .none→IsPart vl lo→IsPart vu hi→r x lo hi H Q→
  ∃T id,typeLookup (.type T) "__getitem__" =pure (some (.builtin id))∧s.TypeIs v T∧wpAny (model X.prog X.w) X.A (getItem v (.ref sl)) (EP X pins σ Q) X.xe s
def tSl(r:V→Option Int→Option Int→Hp→VK→Prop)(te:TE)(tl th:TO):TE:=fun σ H Q=>te σ H fun x H1=>tl σ H1 fun l H2=>th σ H2 fun u H3=>r x l u H3 Q
theorem cE{r:V→Option Int→Option Int→Hp→VK→Prop}(hr:UP X r)(he:PE X e te)(hl:PO X lo tl)(hu:PO X hi th):PE X (.Subscript e (.Slice lo hi none p2) pos) (tSl r te tl th):=by
 intro pins s σ H Q I h
 refine Subscript_ (bN (he pins s σ H _ I h) fun v s1 ⟨x,H1,I1,r1,q1⟩=>?_)
 refine wpAny_Slice (bN (hl pins s1 σ H1 _ I1 q1) fun vl s2 ⟨l,H2,I2,pl,q2⟩=>bN (hu pins s2 σ H2 _ I2 q2) fun vu s3 ⟨u,H3,I3,pu,q3⟩=>?_)
 rw[evalPart_none]
 refine wpAny_pure ?_
 have I4:Inv X pins σ H3 { s3 with heap:=s3.heap.push { cls:= .type "slice",data:= .fields #[vl,vu, .none] } }:=I3.kept (t':=s3.toks) fun b ob q=>Heap.get?_push_of_some _ q
 obtain⟨T,id,hT,ht,hg⟩:=hr pins { s3 with heap:=s3.heap.push { cls:= .type "slice",data:= .fields #[vl,vu, .none] } } σ H3 x v vl vu l u s3.heap.objs.size Q I4 r1 (Heap.IsSliceOf.new ..) pl pu q3
 show wpAny (model X.prog X.w) X.A (subscriptTail e (.Slice lo hi none p2) v (.ref s3.heap.objs.size)) (EP X pins σ Q) X.xe { s3 with heap:=s3.heap.push { cls:= .type "slice",data:= .fields #[vl,vu, .none] } }
 exact tail_any (ops:=[.ref s3.heap.objs.size,v]) ht hT hg (by with_unfolding_all rfl)
def iY(xs:List V)(lo hi:Option Int):List V:=(xs.drop (HT.uU xs.length 0 lo)).take (HT.uU xs.length xs.length hi - HT.uU xs.length 0 lo)
theorem mJ(xs:List V)(lo hi:Option Int):(iY xs lo hi).length≤xs.length:=by
 unfold iY
 rw[List.length_take,List.length_drop]
 omega
end
end L2
namespace L2
open PySem PySem.Spec PyProof.Rows
def Fp(n:Nat)(i:Int):Option Nat:=if 0≤i then (if i<n then some i.toNat else none) else if -(n:Int)≤i then some (i+n).toNat else none
def nE{α:Type}(xs:List α)(i:Int):Option α:=(Fp xs.length i).bind fun j=>xs[j]?
theorem y8{n:Nat}{i:Int}{j:Nat}(h:Fp n i=some j):seqIndex? i n=some j∧j<n∧ -(n:Int)≤i∧i<n:=by
 unfold Fp at h
 by_cases h0:0≤i
 ·rw[if_pos h0] at h
  by_cases h1:i<n
  ·rw[if_pos h1] at h
   have e:i.toNat=j:=Option.some.inj h
   exact⟨by rw[seqIndex_of h0 h1,e],by omega,by omega,h1⟩
  ·rw[if_neg h1] at h;cases h
 ·rw[if_neg h0] at h
  by_cases h1: -(n:Int)≤i
  ·rw[if_pos h1] at h
   have e:(i+n).toNat=j:=Option.some.inj h
   exact⟨by rw[seqIndex_neg (by omega) h1,e],by omega,h1,by omega⟩
  ·rw[if_neg h1] at h;cases h
theorem sE{α:Type}{xs:List α}{i:Int}{v:α}(h:nE xs i=some v):∃j,seqIndex? i xs.length=some j∧xs[j]? =some v∧j<xs.length∧ -(xs.length:Int)≤i∧i<xs.length:=by
 unfold nE at h
 cases e:Fp xs.length i with
 |none=>rw[e] at h;cases h
 |some j=>
  rw[e] at h
  obtain⟨h1,h2,h3,h4⟩:=y8 e
  exact⟨j,h1,h,h2,h3,h4⟩
theorem fh{α:Type}{xs:List α}{j:Nat}{v:α}(h:xs[j]? =some v):nE xs (j:Int)=some v:=by
 have hj:j<xs.length:=(List.getElem?_eq_some_iff.mp h).1
 have e:Fp xs.length (j:Int)=some j:=by
  unfold Fp
  rw[if_pos (by omega),if_pos (by omega)];simp
 unfold nE;rw[e];exact h
def FT(b:Expr):Prop:=∀o i,subscripted b false o i=operate [o,i] (getItem o i)
def Tp(X:Cx)(r:R2):Prop:=
 ∀(value slice:Expr) (pins:List (Addr×Obj)) (s:Shared) (σ:St) (H:Hp) (x y:V) (v u:Value) (Q:VK),Inv X pins σ H s→RelV x v→RelV y u→r x y H Q→
  subscripted slice false v u=operate [v,u] (getItem v u)→wpAny (model X.prog X.w) X.A (subscriptTail value slice v u) (EP X pins σ Q) X.xe s
def N4(X:Cx)(id:String)(r:V→List V→Hp→VK→Prop):Prop:=
 ∀(pins:List (Addr×Obj)) (s:Shared) (σ:St) (H:Hp) (x:V) (xs:List V) (v:Value) (us:List Value) (Q:VK),Inv X pins σ H s→RelV x v→Vals xs us→r x xs H Q→
  wpAny (model X.prog X.w) X.A (call (.builtin id) (v::us)) (EP X pins σ Q) X.xe s
section
variable {X:Cx}{a b:Expr}{ta tb:TE}{pos:Pos}
theorem bz{r:R2}(hr:Tp X r)(ha:PE X a ta)(hb:PE X b tb)(hs:FT b):PE X (.Subscript a b pos) (Tj r ta tb):=by
 intro pins s σ H Q I h
 exact Subscript_ (Kn ha hb I h fun v u s2 x y H2 I2 rx ry q=>hr a b pins s2 σ H2 x y v u Q I2 rx ry q (hs _ _))
def UQ(K:PySem.W.Frag):R2:=fun x y H Q=>∃p xs i v,x= .ref p∧y= .int i∧bR K H p xs∧nE xs i=some v∧Q v H
def UR(K:PySem.W.Frag):R2:=fun x y H Q=>∃p xs i v,x= .ref p∧y= .int i∧ku K H p xs∧nE xs i=some v∧Q v H
def US:R2:=fun x y H Q=>∃z i c,x= .str z∧y= .int i∧z.length≤sizeLine∧nE z.cps.toList i=some c∧Q (.str ⟨#[c]⟩) H
theorem bu:Tp X (UQ X.K):=by
 intro value slice pins s σ H x y v u Q I rx ry h hs
 obtain⟨p,xs,i,z,rfl,rfl,hq,he,q⟩:=h
 cases rx
 obtain⟨t,rfl⟩:=ry
 obtain⟨its,r,pl,hz⟩:=I.list hq
 obtain⟨j,h1,h2,h3,h4,h5⟩:=sE he
 obtain⟨w,ew,qJ⟩:=r.get h2
 have hl:=r.length
 have hn:=j5
 have fin:EP X pins σ Q w s:=⟨z,H,I,qJ,q⟩
 by_cases h0:0≤i
 ·have hj:i.toNat=j:=by
   rw[seqIndex_of h0 h5] at h1
   exact Option.some.inj h1
  exact item_listR pl.isList h0 (by omega) (by rw[hj];simpa using ew) fin hs
 ·have hj:(i+(its.toArray.size:Int)).toNat=j:=by
   rw[seqIndex_neg (by omega) h4] at h1
   rw[List.size_toArray,←hl]
   exact Option.some.inj h1
  exact subscriptTail_builtinR (x:=w) pl.isList.typeIs slot_list_getitem.lookup
   (wpAny_getItem_list_neg (Q:=fun r s'=>r=w∧EP X pins σ Q r s') pl.isList (by omega) (by rw[List.size_toArray]<;>omega) (by omega) (by rw[hj];simpa using ew) ⟨rfl,fin⟩) hs
theorem lZ:Tp X (UR X.K):=by
 intro value slice pins s σ H x y v u Q I rx ry h hs
 obtain⟨p,xs,i,z,rfl,rfl,hq,he,q⟩:=h
 cases rx
 obtain⟨t,rfl⟩:=ry
 obtain⟨its,r,pl,hz⟩:=I.tuple hq
 obtain⟨j,h1,h2,h3,h4,h5⟩:=sE he
 obtain⟨w,ew,qJ⟩:=r.get h2
 have hl:=r.length
 have hn:=j5
 have fin:EP X pins σ Q w s:=⟨z,H,I,qJ,q⟩
 exact subscriptTail_builtinR (x:=w) pl.typeIs slot_tuple_getitem.lookup
  (getItem_tuple (j:=j) (Q:=fun r s'=>r=w∧EP X pins σ Q r s') pl (by omega) (by omega) (by rw[List.size_toArray,←hl];exact h1) (by simpa using ew) ⟨rfl,fin⟩) hs
theorem ib:Tp X US:=by
 intro value slice pins s σ H x y v u Q I rx ry h hs
 obtain⟨z,i,c,rfl,rfl,hz,he,q⟩:=h
 obtain⟨t,rfl⟩:=rx
 obtain⟨t',rfl⟩:=ry
 obtain⟨j,h1,h2,h3,h4,h5⟩:=sE he
 have hl:z.cps.toList.length=z.length:=by simp [Str.length]
 rw[hl] at h1 h4 h5
 have hn:=j5
 exact tail_any (typeIs_str s z t) slot_str_getitem.lookup (getItem_str (c:=c) (by
  have e1:decide (i< -(2^63 :Int))=false:=decide_eq_false (by omega)
  have e2:decide (i≥2^63)=false:=decide_eq_false (by omega)
  rw[e1,e2,Bool.or_false]) (by rw[h1];simpa using h2) ⟨.str ⟨#[c]⟩,H,I.tok _,⟨_,rfl⟩,q⟩) hs
theorem xu(its:List Value)(n j:Nat)(u:Value):Obj.mapSeq (·.setIfInBounds j u) { cls:= .type "list",data:= .seq its.toArray n }={ cls:= .type "list",data:= .seq (its.set j u).toArray n }:=by
 simp [Obj.mapSeq]
theorem Inv.lst{pins:List (Addr×Obj)}{σ:St}{H:Hp}{s:Shared}{p:Addr}{xs:List V}(I:Inv X pins σ H s)(h:H p=some (.lst xs)):
  ∃(its:List Value) (n:Nat),Vals xs its∧s.heap.get? p=some { cls:= .type "list",data:= .seq its.toArray n }∧xs.length≤sizeLine:=by
 obtain⟨z,its,n,r,e⟩:=I.bF p _ h
 exact⟨its,n,r,e,z⟩
theorem Inv.KA{pins:List (Addr×Obj)}{σ:St}{H:Hp}{s:Shared}{p:Addr}{xs ys:List V}{its its':List Value}{n n':Nat}{f:Obj→Obj}(I:Inv X pins σ H s)(h:H p=some (.lst xs))
  (ho:s.heap.get? p=some { cls:= .type "list",data:= .seq its.toArray n }) (hf:f { cls:= .type "list",data:= .seq its.toArray n }={ cls:= .type "list",data:= .seq its'.toArray n' }) (r:Vals ys its') (hz:ys.length≤sizeLine) (t:Nat):
  Inv X pins σ (upd H p (.lst ys)) { s with heap:=s.heap.update p f,toks:=t }:=by
 have e:(s.heap.update p f).get? p=some { cls:= .type "list",data:= .seq its'.toArray n' }:=by
  rw[Heap.get?_update_self f ho (by rw[hf]<;>rfl),hf]
 refine I.write (x:=p) (e:=p) (by rw[h];trivial) (.inl rfl) (fun b u hb q=>(Heap.get?_update_other _ _ (Ne.symm hb)).trans q) ⟨_,e⟩ ?_
 exact⟨hz,its',n',r,e⟩
def N6:V→V→V→Hp→(Hp→Prop)→Prop:=fun o i v H Q=>∃p xs k j,o= .ref p∧i= .int k∧H p=some (.lst xs)∧Fp xs.length k=some j∧Q (upd H p (.lst (xs.set j v)))
theorem set_list:ND X N6:=by
 intro pins s σ H o i v ov iv u Q I ro ri rv h
 obtain⟨p,xs,k,j,rfl,rfl,hp,hj,q⟩:=h
 cases ro
 obtain⟨t,rfl⟩:=ri
 obtain⟨its,n,r,ho,hz⟩:=I.lst hp
 obtain⟨h1,h2,h3,h4⟩:=y8 hj
 have hl:=r.length
 have hn:=j5
 have I':Inv X pins σ (upd H p (.lst (xs.set j v))) { s with heap:=s.heap.update p (Obj.mapSeq (·.setIfInBounds j u)) }:=
  I.KA hp ho (xu its n j u) (r.set rv j) (by rw[List.length_set];exact hz) s.toks
 by_cases h0:0≤k
 ·have hk:k.toNat=j:=by
   rw[seqIndex_of h0 h4] at h1
   exact Option.some.inj h1
  exact PySem.W.ki_setAt ho h0 (by omega) (by rw[List.size_toArray,←hl];exact h4) (by rw[hk];exact⟨_,I',q⟩)
 ·have hk:(k+(its.toArray.size:Int)).toNat=j:=by
   rw[seqIndex_neg (by omega) h3] at h1
   rw[List.size_toArray,←hl]
   exact Option.some.inj h1
  exact PySem.W.ki_setBack ho (by omega) (by rw[List.size_toArray,←hl];exact h3) (by omega) (by rw[hk];exact⟨_,I',q⟩)
theorem slice_bounds(lo hi:Option Int)(n:Nat):(sliceBounds lo hi none n).1=((HT.uU n 0 lo:Nat):Int)∧(sliceBounds lo hi none n).2.1=((HT.uU n n hi:Nat):Int)∧(sliceBounds lo hi none n).2.2=1:=by
 refine⟨?_,?_,rfl⟩
 ·cases lo with
  |none=>simp [sliceBounds,HT.uU]
  |some i=>
   simp only [sliceBounds,HT.uU,Option.getD_none,show (1 :Int) >0 by decide,if_true]
   by_cases h:i<0
   ·simp only [h,if_true]<;>omega
   ·simp only [h,if_false]<;>omega
 ·cases hi with
  |none=>simp [sliceBounds,HT.uU]
  |some i=>
   simp only [sliceBounds,HT.uU,Option.getD_none,show (1 :Int) >0 by decide,if_true]
   by_cases h:i<0
   ·simp only [h,if_true]<;>omega
   ·simp only [h,if_false]<;>omega
theorem qg(its:List Value)(lo hi:Option Int):slicePick its.toArray lo hi none=((its.drop (HT.uU its.length 0 lo)).take (HT.uU its.length its.length hi - HT.uU its.length 0 lo)).toArray:=by
 obtain⟨h1,h2,h3⟩:=slice_bounds lo hi its.toArray.size
 unfold slicePick
 rw[h1,h2,h3]
 simp only [sliceRange_one,pick_run,List.size_toArray]<;>rfl
def UT(K:PySem.W.Frag):V→Option Int→Option Int→Hp→VK→Prop:=fun x lo hi H Q=>∃a xs,x= .ref a∧bR K H a xs∧∀p,H p=none→Q (.ref p) (upd H p (.lst (iY xs lo hi)))
theorem jr:UP X (UT X.K):=by
 intro pins s σ H x v vl vu lo hi sl Q I rx hs pl pu h
 obtain⟨a,xs,rfl,hx,q⟩:=h
 cases rx
 obtain⟨its,r,ht,hz⟩:=I.list hx
 have hlen:=r.length
 refine⟨"list",_,slot_list_getitem.lookup,ht.isList.typeIs,?_⟩
 refine wpAny_getItem_list_slice ht.isList hs pl pu .none (by simp) ?_ (by rw[List.size_toArray]<;>omega)
 rw[qg,←hlen]
 refine⟨.ref s.heap.objs.size,_,I.laid (t':=s.toks) (o:= .lst (iY xs lo hi)) (fun b ob q=>Heap.get?_push_of_some _ q) (Nat.le_refl _) ?_,rfl,q _ (I.bF.fresh (Nat.le_refl _))⟩
 exact⟨Nat.le_trans (mJ xs lo hi) hz,_,0,(r.drop (HT.uU xs.length 0 lo)).take (HT.uU xs.length xs.length hi - HT.uU xs.length 0 lo),Heap.get?_push_size _ rfl⟩
theorem cM:gL X (.builtin "len") (fun xs H Q=>∃p ys,xs=[.ref p]∧(bR X.K H p ys∨ku X.K H p ys)∧Q (.int ys.length) H):=by
 intro pins s σ H xs us Q I r h
 obtain⟨p,ys,rfl,hq,q⟩:=h
 obtain⟨u,rfl,rx⟩:=vals1 r
 cases rx
 have hn:=j5
 rcases hq with hq|hq
 ·obtain⟨its,r',pl,hz⟩:=I.list hq
  have hlen:=r'.length
  exact Calls.call_len_list pl.isList (by simp only [List.size_toArray]<;>omega) ⟨.int ys.length,H,I.tok _,⟨s.toks+1,by rw[List.size_toArray,hlen]⟩,q⟩
 ·obtain⟨its,r',pl,hz⟩:=I.tuple hq
  have hlen:=r'.length
  exact len_tuple pl (by simp only [List.size_toArray]<;>omega) ⟨.int ys.length,H,I.tok _,⟨s.toks+1,by rw[List.size_toArray,hlen]⟩,q⟩
theorem dk:gL X (.builtin "len") (fun xs H Q=>∃z,xs=[.str z]∧z.length≤sizeLine∧Q (.int z.length) H):=by
 intro pins s σ H xs us Q I r h
 obtain⟨z,rfl,hz,q⟩:=h
 obtain⟨u,rfl,t,rfl⟩:=vals1 r
 have hn:=j5
 exact len_str (by omega) ⟨.int z.length,H,I.tok _,⟨_,rfl⟩,q⟩
theorem d7:gL X (.type "list") (fun xs H Q=>∃p ys,xs=[.ref p]∧(bR X.K H p ys∨ku X.K H p ys)∧∀l,H l=none→Q (.ref l) (upd H l (.lst ys))):=by
 intro pins s σ H xs us Q I r h
 obtain⟨p,ys,rfl,hq,q⟩:=h
 obtain⟨u,rfl,rx⟩:=vals1 r
 cases rx
 have fin:∀(its:List Value),Vals ys its→ys.length≤sizeLine→∀(h':Heap) (c':Nat),(∀b o',s.heap.get? b=some o'→h'.get? b=some o')→
   h'.get? s.heap.objs.size=some { cls:= .type "list",dict:=none,data:= .seq its.toArray c',slots:=#[] }→EP X pins σ Q (.ref s.heap.objs.size) { s with heap:=h' }:=fun its r' hz h' c' kp e=>
  ⟨.ref s.heap.objs.size,_,I.laid (t':=s.toks) kp (Nat.le_refl _) (show cq X.prog X.w _ h' _ (.lst ys) from ⟨hz,its,c',r',e⟩),rfl,q _ (I.bF.fresh (Nat.le_refl _))⟩
 rcases hq with hq|hq
 ·obtain⟨its,r',pl,hz⟩:=I.list hq
  have hlen:=r'.length
  obtain⟨o,ho,hc,n,hd⟩:=pl.isList
  exact call_list_seq p (.inl rfl) ho hc hd (fun h' c' kp e=>fin its r' hz h' c' kp e) (by simp only [List.size_toArray]<;>omega)
 ·obtain⟨its,r',pl,hz⟩:=I.tuple hq
  have hlen:=r'.length
  obtain⟨o,ho,hc,n,hd⟩:=pl
  exact call_list_seq p (.inr rfl) ho hc hd (fun h' c' kp e=>fin its r' hz h' c' kp e) (by simp only [List.size_toArray]<;>omega)
def tyV(K:PySem.W.Frag)(T:String)(x:V)(H:Hp):Prop:=match x with
 | .str _=>T="str"
 | .int _=>T="int"
 | .ref p=>(T="list" ∧∃xs,bR K H p xs)∨(T="tuple" ∧∃o,K.lookup p=some o∧o.cls= .type "tuple" ∧o.dict=none)∨
   (T="dict" ∧((∃aL,H p=some (.dK aL))∨∃aL,H p=some (.dT aL)))∨(T="set" ∧∃S n,H p=some (.set S n))
 |_=>False
theorem KC{pins:List (Addr×Obj)}{σ:St}{H:Hp}{s:Shared}{T:String}{x:V}{v:Value}(I:Inv X pins σ H s)(r:RelV x v)(ty:tyV X.K T x H):
  s.TypeIs v T∧∀a,v= .ref a→∃ob,s.heap.get? a=some ob∧ob.dict=none:=by
 cases x with
 |str z=>
  obtain⟨t,rfl⟩:=r
  cases (show T="str" from ty)
  exact⟨typeIs_str s z t,fun _ e=>nomatch e⟩
 |int i=>
  obtain⟨t,rfl⟩:=r
  cases (show T="int" from ty)
  exact⟨typeIs_int s i t,fun _ e=>nomatch e⟩
 |ref p=>
  cases r
  rcases ty with ⟨rfl,xs,hq⟩ | ⟨rfl,o,hk,hc,hd⟩ | ⟨rfl,hk⟩ | ⟨rfl,S,n,hk⟩
  ·obtain⟨its,_,pl,_⟩:=I.list hq
   refine⟨pl.isList.typeIs,fun a e=>?_⟩
   cases e
   obtain⟨o,n,e,c,hd,_⟩:=pl
   exact⟨o,e,hd⟩
  ·refine⟨⟨o,I.fb p o hk,hc⟩,fun a e=>?_⟩
   cases e
   exact⟨o,I.fb _ o hk,hd⟩
  ·have z:∃o,s.heap.get? p=some o∧o.ExactDict:=by
    rcases hk with ⟨aL,hk⟩ | ⟨aL,hk⟩
    ·obtain⟨_,_,_,_,o,_,_,e,ex,_⟩:=I.bF p _ hk
     exact⟨o,e,ex⟩
    ·obtain⟨_,_,_,_,o,_,_,e,ex,_⟩:=I.bF p _ hk
     exact⟨o,e,ex⟩
   obtain⟨o,e,ex⟩:=z
   refine⟨⟨o,e,ex.1⟩,fun a e2=>?_⟩
   cases e2
   exact⟨o,e,ex.2.1⟩
  ·obtain⟨o,_,_,_,e,ex,_⟩:=I.bF p _ hk
   refine⟨⟨o,e,ex.1⟩,fun a e2=>?_⟩
   cases e2
   exact⟨o,e,ex.2.1⟩
 |_=>exact False.elim ty
def tBM(K:PySem.W.Frag)(T:String)(r:V→List V→Hp→VK→Prop)(to:TE)(t:TA):TE:=fun σ H Q=>to σ H fun x H1=>tyV K T x H1∧t σ H1 fun xs H2=>r x xs H2 Q
variable {o e:Expr}{es:List Expr}{to:TE}{t:TA}{name:Str}{apos iI:Pos}{T id:String}{r:V→List V→Hp→VK→Prop}
theorem gQ(pa:PlainAttrs T)(slot:Slot T name id)(hty:typeOf (.builtin id)=pure (.type "method_descriptor"))(hm:N4 X id r)(ho:PE X o to)(ha:PA X (e::es) t)
  (N7:attributeBase o name X.env (eval o X.env)=eval o X.env:=by rfl)
  (UU:((backTo iI (starEach (e::es) X.env)).all (fun x=>!x.1)&&(backToKw iI (keywordEach [] X.env)).all (fun x=>x.1.isSome)
   &&decide ((e::es).length+([]:List Keyword).length+(if ([]:List Keyword).isEmpty then 0 else 1) <30))=true:=by rfl)
  (N8:(apos.endLine==iI.line)=true:=by rfl) (hs:starEach (e::es) X.env=(false,eval e X.env)::starEach es X.env:=by rfl) (KD:(backTo iI (starEach es X.env)).any (·.1)=false:=by rfl):
  PE X (.Call (.Attribute o name apos) (e::es) [] iI) (tBM X.K T r to t):=by
 intro pins s σ H Q I h
 refine wpAny_Call_method_late N7 UU N8 rfl (bN (ho pins s σ H _ I h) fun v s1 ⟨x,H1,I1,r1,ty,q1⟩=>?_)
 obtain⟨h1,h2⟩:=KC I1 r1 ty
 refine⟨T,id,pa,slot,hty,h1,h2,?_⟩
 have hA:=ha iI pins s1 σ H1 _ I1 q1
 rw[hs] at hA ⊢
 refine Calls.callWith_builtin (by show (false||(backTo iI (starEach es X.env)).any (·.1))=false;rw[KD]<;>rfl) (Calls.evalArgs_plain ?_)
 exact bN hA fun us s2 ⟨vs,H2,I2,r2,q2⟩=>hm pins s2 σ H2 x vs v us Q I2 r1 r2 q2
end
end L2
namespace L2
open PySem PySem.Spec PyProof.Rows
def MtM(X:Cx)(id:String)(r:V→List V→Hp→VK→Prop):Prop:=
 ∀(pins:List (Addr×Obj)) (s:Shared) (σ:St) (H:Hp) (x:V) (xs:List V) (v:Value) (us:List Value) (Q:VK),Inv X pins σ H s→RelV x v→Vals xs us→r x xs H Q→
  wpAny (model X.prog X.w) X.A (call (.builtin id) (v::us)) (EP X pins σ Q) X.xe s
theorem Vals.one:∀{x:V} {us:List Value},Vals [x] us→∃u,us=[u]∧RelV x u
 |_,_, .cons r .nil=>⟨_,rfl,r⟩
section
variable {X:Cx}{pins:List (Addr×Obj)}{σ:St}{H:Hp}{s:Shared}{l b:Addr}{xs ys zs:List V}
theorem Inv.UW{its its':List Value}{n:Nat}{f:Array Value→Array Value}{t':Nat}(I:Inv X pins σ H s)(hH:H l=some (.lst xs))
  (e:s.heap.get? l=some { cls:= .type "list",data:= .seq its.toArray n }) (hf:f its.toArray=its'.toArray) (hv:Vals ys its') (hz:ys.length≤sizeLine):
  Inv X pins σ (upd H l (.lst ys)) { s with heap:=s.heap.update l (Obj.mapSeq f),toks:=t' }:=by
 have q:=PySem.IsL.update e f
 rw[hf] at q
 refine I.write (x:=l) (e:=l) (by rw[hH];exact trivial) (.inl rfl) (fun b' u hb hu=>(Heap.get?_update_other s.heap (Obj.mapSeq f) (Ne.symm hb)).trans hu) ⟨_,q⟩ ?_
 exact⟨hz,its',_,hv,q⟩
theorem Inv.FU{its:List Value}{t':Nat}(I:Inv X pins σ H s)(hv:Vals ys its)(hz:ys.length≤sizeLine):
  Inv X pins σ (upd H s.heap.objs.size (.lst ys)) { s with heap:=s.heap.push { cls:= .type "list",data:= .seq its.toArray },toks:=t' }:=
 I.laid (fun _ _ q=>Heap.get?_push_of_some _ q) (Nat.le_refl _) ⟨hz,its,0,hv,Heap.get?_push_size _ rfl⟩
theorem Inv.fresh(I:Inv X pins σ H s):H s.heap.objs.size=none:=I.bF.fresh (Nat.le_refl _)
theorem Inv.KG(I:Inv X pins σ H s)(hH:H l=some (.lst xs)):xs.length≤sizeLine∧∃(its:List Value) (n:Nat),Vals xs its∧xs.length=its.length∧s.heap.get? l=some { cls:= .type "list",data:= .seq its.toArray n }:=by
 obtain⟨z,its,n,r,e⟩:=I.bF l _ hH
 exact⟨z,its,n,r,r.length,e⟩
end
section
variable {X:Cx}
def FV:V→List V→Hp→VK→Prop:=fun x vs H Q=>∃l xs y,x= .ref l∧vs=[y]∧H l=some (.lst xs)∧xs.length<sizeLine∧Q .cJ (upd H l (.lst (xs++[y])))
theorem eD:MtM X "list.append" FV:=by
 intro pins s σ H x vs v us Q I rx rv h
 obtain⟨l,xs,y,rfl,rfl,hH,hz,q⟩:=h
 cases rx
 obtain⟨u,rfl,ru⟩:=rv.one
 obtain⟨z,its,n,r,hl,e⟩:=I.KG hH
 refine call_meets F.slot_list_append ⟨_,e,rfl⟩ F.entry_list_append (F.args_list_append_2 _ _) (PySem.list_append l its.toArray n u (by rw[List.size_toArray];omega)) ⟨e,?_⟩
 refine⟨.cJ,_,I.UW (its':=its++[u]) hH e (by simp) (r.append (.cons ru .nil)) ?_,rfl,q⟩
 rw[List.length_append,List.length_singleton]
 omega
def UX:R2:=fun x y H Q=>∃l b xs zs,x= .ref l∧y= .ref b∧H l=some (.lst xs)∧H b=some (.lst zs)∧xs.length+zs.length≤sizeLine∧∀p,H p=none→Q (.ref p) (upd H p (.lst (xs++zs)))
theorem KH:nz X (binaryOp .Add) UX:=by
 intro pins s σ H x y v u Q I rx ry h
 obtain⟨l,b,xs,zs,rfl,rfl,hH,hB,hz,q⟩:=h
 cases rx
 cases ry
 obtain⟨z,its,n,r,hl,e⟩:=I.KG hH
 obtain⟨z2,N9,n2,r2,IC,e2⟩:=I.KG hB
 refine PySem.P.add_list e e2 ?_ (by rw[List.size_toArray,List.size_toArray];omega)
 have ea:its.toArray++N9.toArray=(its++N9).toArray:=by simp
 rw[ea]
 exact⟨.ref _,_,I.FU (t':=s.toks) (r.append r2) (by rw[List.length_append];omega),rfl,q _ I.fresh⟩
end
section
variable {prog:Program}{w:World}{A:Around}{E:Value→Shared→Prop}{s:Shared}
end
section
variable {X:Cx}
end
end L2
namespace Att
open PySem PySem.W PySem.Calls PyProof.Rows
theorem m9{P:Params}{h:Heap}:∀(ns:List Int) (vs:List Value),WellAll P h vs (ns.map WData.int)→IntsAre vs ns:=by
 intro ns
 induction ns with
 |nil=>
  intro vs w
  rw[List.map_nil] at w
  cases w
  exact .nil
 |cons n ns ih=>
  intro vs w
  rw[List.map_cons] at w
  cases w with
  |cons a b=>
   cases a
   exact .cons _ _ (ih _ b)
theorem AL{l:OpenLaw}{n:Nat}(hn:l.most=some n){P:Params}{h:Heap}{args:List WData}{vals:List Value}
  (FW:l.row.toRowW.claim.pre args=true) (UY:WellAll P h vals args):
  ∃a vs ns,vals=[Value.ref a]∧args=[WData.list (ns.map WData.int)]∧h.get? a=some { cls:= .type "list",data:= .seq vs.toArray }∧IntsAre vs ns∧ns.length≤n:=by
 have hsh:WShape.hasAll [] args [.list .int]=true:=(pre_splitW FW).1
 have hc:l.pre.holds [] { args:=args }=true:=(pre_splitW FW).2
 obtain⟨d,r,rfl,h1,h2⟩:=hasAllW_cons hsh
 obtain rfl:=hasAllW_nil h2
 obtain⟨xs,rfl,h3⟩:=hasW_list h1
 obtain⟨ns,rfl⟩:=items_int h3
 have hlen:ns.length≤n:=by
  unfold OpenLaw.pre at hc
  have h4:(WTm.not (.lt (.lit (.int (n:Int))) (.len (.arg 0)))).holds [] { args:=[.list (ns.map .int)] }=true:=by
   have h4:=(holds_andW hc).1
   rw[hn] at h4
   exact h4
  have h5:=condW_of h4 (w_not (w_lt w_lit (w_len_list (w_arg rfl))))
  rw[List.length_map] at h5
  refine Nat.le_of_not_lt fun q=>?_
  have q':(n:Int) < ((ns.length:Nat):Int):=by omega
  first
   | (rw[decide_eq_true q'] at h5;exact absurd h5 (by decide))
   | (simp at h5;omega)
 cases UY with
 |cons w1 w2=>
  cases w2
  cases w1 with
  |list ho UZ=>exact⟨_,_,ns,rfl,rfl,ho,m9 ns _ UZ,hlen⟩
theorem AM(l:OpenLaw)(args:List WData):l.row.toRowW.claim.post args (.bool true) args=true:=
 postW_of (r:=l.row.toRowW) (X:=(true==true))
  (show WShape.has [] (.bool true) .bool=true by first|rfl|decide|simp [WShape.has,WShape.arms,WShape.armsAll])
  (show (WTm.eq .res (.lit (.bool true))).value [] { args:=args,res:=some (.bool true),after:=args }=some (.bool (true==true)) from w_eq_bool (w_res rfl) w_lit) rfl
theorem uW{l:OpenLaw}{n:Nat}{q:Program}{loose:List Str}{XP:(Str→Option Value)→Heap→Prop}{YP:World→Heap→Prop}{d:DefRec}
  (hn:l.most=some n) (Oa:d.params.defaults=[])
  (call:∀(w:World) (s₀ s₁:Shared) (mg mb:Str→Option Value) (fa:Addr) (o:Obj) (pm cd doc:Value) (a:Addr) (vs:List Value) (ns:List Int),
   Ground q loose [] XP w s₀ mg mb s₁.heap→YP w s₁.heap→
   s₁.heap.get? fa=some o→o.data= .func (docDef d.name d.params d.body d.scope pm cd doc)→s₁.heap.CodeRec cd d.name→mg d.name=some (.ref fa)→
   s₁.heap.get? a=some { cls:= .type "list",data:= .seq vs.toArray }→IntsAre vs ns→ns.length≤n→s₁.gens=#[]→
   codeAny (model l.prog w) callerA (.call (.ref fa) ⟨[.ref a],[]⟩) (fun r s'=>r= .ok (.ret (.bool true))∧OldK s₁.heap s'.heap∧s'.os=s₁.os∧AllBare s'.gens) s₁):
  WalkO q loose XP YP l.row.toRowW d [] (fun f vs=>PySem.call f vs):=by
 intro w s₀ s₁ mg mb G Y fa o pm cd doc dV kV ho hd mZ hD Ob hg args vals as FW hlay hrd UY ID
 obtain rfl:dV= .none:=Dflts.none hD Oa
 obtain rfl:kV= .none:=Dflts.noKw hD
 obtain⟨a,vs,ns,rfl,rfl,KI,hints,hlen⟩:=AL hn FW UY
 refine enter_call (codeAny_mono (call w s₀ s₁ mg mb fa o pm cd doc a vs ns G Y ho (fd_plain hd) mZ Ob KI hints hlen hg) fun r s' hq=>?_)
 obtain⟨rfl,h2,h3,h4⟩:=hq
 exact⟨.inl ⟨.bool true, .bool true,[],rfl,fun _=>rfl, .bool true,AM l _,fun _=>⟨List.Pairwise.nil,fun _ hm=>(nomatch hm)⟩⟩,h2,h3,h4⟩
section
variable {prog:Program}{w:World}{A:Around}{E:Value→Shared→Prop}{s:Shared}{K:Frag}
end
end Att
namespace L2
open PySem PySem.Spec PyProof.Rows
theorem qN:∀{vs:List Value} {ns:List Int},IntsAre vs ns→Vals (ns.map V.int) vs
 |_,_, .nil=> .nil
 |_,_, .cons n t h=> .cons ⟨t,rfl⟩ (qN h)
def KJ(H:Hp):Prop:=∀b,H b=none∨∃o xs,H b=some (.xb o (.lst xs))
theorem CA{P:Program}{w:World}{K:PySem.W.Frag}{mg mb:Str→Option Value}{CX:uz}{k:Nat}{fa a:Addr}{fd:FuncData}{x:Str}{sp:Sp}{s₁:Shared}{vs:List Value}{ns:List Int}
  (KX:K.In s₁.heap) (IE:s₁.heap.Ns mainGlobals mg) (hb:s₁.heap.Ns builtinsNs mb) (hbb:∀x:Str,x≠"__name__" →mb x=bootBuiltins x) (KN:s₁.heap.NoLimit) (hg:s₁.gens=#[])
  (ha:s₁.heap.get? a=some { cls:= .type "list",data:= .seq vs.toArray }) (hi:IntsAre vs ns) (hl:ns.length≤sizeLine) (hr:cf k callerA)
  (F:∀base:Heap,K.In base→base.Ns mainGlobals mg→dj P w K mg base CX k fa fd [x] sp) (Oc:∀(s:Shared) (u:Value),BindsTo s fd ⟨[u],[]⟩ [(x,u)])
  (uH:∀H:Hp,KJ H→bR K H a (ns.map V.int)→sp [.ref a] H (fun v _=>v= .bl true) fun _ _ _=>False)
  (U0:∀H e s',CX [] H s₁ (fun _ _ _=>False) e s'→False):
  codeAny (model P w) callerA (.call (.ref fa) ⟨[.ref a],[]⟩) (fun r s'=>r= .ok (.ret (.bool true))∧OldK s₁.heap s'.heap∧s'.os=s₁.os∧AllBare s'.gens) s₁:=by
 have rv:=qN hi
 have U1:=hi.length
 have core:∀H:Hp,KJ H→bR K H a (ns.map V.int)→iW P w H s₁.heap→(∀b,H b≠none→b=a)→(H a≠none→K.lookup a=none)→
   codeAny (model P w) callerA (.call (.ref fa) ⟨[.ref a],[]⟩) (fun r s'=>r= .ok (.ret (.bool true))∧OldK s₁.heap s'.heap∧s'.os=s₁.os∧AllBare s'.gens) s₁:=by
  intro H hO hS bF hA hK
  have base_of:∀{b:Addr} {o:Obj},s₁.heap.get? b=some o→H b=none→(rZ s₁.heap H).get? b=some o:=fun e n=>B9 e n
  have NW:∀{b:Addr} {o:Obj} {es:Array DictEntry} {ep:Nat},s₁.heap.get? b=some o→o.data= .dict es ep→H b=none:=fun {b o es ep} e d=>by
   cases q:H b with
   |none=>rfl
   |some u=>
    have e':b=a:=hA b (by rw[q];simp)
    subst e'
    rw[ha] at e;cases e
    have d':Data.seq vs.toArray _=Data.dict es ep:=d
    cases d'
  have Tq:∀{b:Addr} {m:Str→Option Value},s₁.heap.Ns b m→(rZ s₁.heap H).Ns b m:=fun {b m} ⟨o,es,ep,e,d,r⟩=>⟨o,es,ep,base_of e (NW e d),d,r⟩
  have hKb:K.In (rZ s₁.heap H):=fun b o e=>base_of (KX b o e) (by
   cases q:H b with
   |none=>rfl
   |some u=>
    have e':b=a:=hA b (by rw[q];simp)
    subst e'
    rw[hK (by rw[q];simp)] at e;cases e)
  have hM:Mod K mg (rZ s₁.heap H):=⟨hKb,Tq IE,⟨mb,Tq hb,hbb⟩,let ⟨mc,h1,h2⟩:=KN;⟨mc,Tq h1,h2⟩⟩
  have e0:sC P w K mg (rZ s₁.heap H) callerA [] s₁ H:=⟨rfl,hM,fun b o e=>FA e,Nat.le_of_eq (Ay _ _),trivial,fun b hb=>absurd (show b∈([]:List Addr) from hb) (by simp),bF, .of_eq hg⟩
  refine codeAny_mono ((F _ hKb (Tq IE)).run callerA [] s₁ H ⟨[.ref a],[]⟩ [.ref a] [.ref a] _ _ hr e0 (Oc s₁ (.ref a)) (.cons rfl .nil) (uH H hO hS)) fun r s' h=>?_
  cases r with
  |error e=>exact(U0 H e s' h).elim
  |ok fl=>
   cases fl with
   |next=>exact False.elim h
   |brk=>exact False.elim h
   |cont=>exact False.elim h
   |ret u=>
    obtain⟨v,H',os,bare,un,U2,r',q⟩:=h
    have q':v= .bl true:=q
    subst q'
    obtain rfl:u=Value.bool true:=r'
    refine⟨rfl,OldK.of_keep fun b o e=>?_,os,bare⟩
    cases q:H b with
    |none=>exact un.keep b o e q (by intro z;exact absurd (show b∈([]:List Addr) from z) (by simp)) (by simp)
    |some u=>
     rcases hO b with z| ⟨ob,xs,z⟩
     ·rw[q] at z;cases z
     ·have z2:=un.oj b ob _ z
      obtain⟨e1,_⟩:=bF b _ z
      obtain⟨e2,_⟩:=U2 b _ z2
      rw[e] at e1;cases e1
      exact e2
 cases hk:K.lookup a with
 |some o=>
  have e:=KX a o hk
  rw[ha] at e
  cases e
  refine core (fun _=>none) (fun _=> .inl rfl) (.inr ⟨_,vs.toArray,_,hk,rfl,rfl,rfl,by rw[List.size_toArray,U1];exact hl,by simpa using rv⟩) (fun b u z=>by have z':(none:Option HO)=some u:=z;cases z') (fun b z=>absurd rfl z) fun z=>absurd rfl z
 |none=>
  refine core (fun b=>if b=a then some (.xb { cls:= .type "list",data:= .seq vs.toArray } (.lst (ns.map V.int))) else none) (fun b=>?_) (.inl (.inr ⟨{ cls:= .type "list",data:= .seq vs.toArray },if_pos rfl⟩)) (fun b u z=>?_) (fun b z=>?_) fun _=>hk
  ·by_cases hb:b=a
   ·exact .inr ⟨_,_,if_pos hb⟩
   ·exact .inl (if_neg hb)
  ·by_cases hb:b=a
   ·have z':=(if_pos hb).symm.trans z
    cases z'
    subst hb
    exact⟨ha,by rw[List.length_map];exact hl,vs,_,rv,ha⟩
   ·have z':=(if_neg hb).symm.trans z
    cases z'
  ·by_cases hb:b=a
   ·exact hb
   ·exact absurd (if_neg hb) z
end L2
namespace L2
open PySem PySem.Spec PyProof.Rows
theorem FX{l:PySem.W.OpenLaw}{n k:Nat}{q:Program}{loose:List Str}{XP:(Str→Option Value)→Heap→Prop}{YP:World→Heap→Prop}{d:DefRec}{K:Params→PySem.W.Frag}{CX:World→uz}{sp:World→Sp}{x:Str}
  (hn:l.most=some n) (Iw:n≤sizeLine) (Oa:d.params.defaults=[]) (hr:cf k callerA)
  (hY:∀(w:World) (h:Heap),YP w h→(K w.params).In h)
  (F:∀(w:World) (mg:Str→Option Value) (fa:Addr) (h:Heap),(K w.params).In h→h.Ns mainGlobals mg→mg d.name=some (.ref fa)→
   ∃fd:FuncData,(∀(s:Shared) (u:Value),BindsTo s fd ⟨[u],[]⟩ [(x,u)])∧
    ∀base:Heap,(K w.params).In base→base.Ns mainGlobals mg→dj l.prog w (K w.params) mg base (CX w) k fa fd [x] (sp w))
  (uH:∀(w:World) (H:Hp) (a:Addr) (ns:List Int),ns.length≤n→KJ H→bR (K w.params) H a (ns.map V.int)→sp w [.ref a] H (fun v _=>v= .bl true) fun _ _ _=>False)
  (U0:∀(w:World) (H:Hp) (s:Shared) (e:Value) (s':Shared),CX w [] H s (fun _ _ _=>False) e s'→False):
  PySem.W.WalkO q loose XP YP l.row.toRowW d [] (fun f vs=>PySem.call f vs):=by
 refine Att.uW hn Oa fun w s₀ s₁ mg mb fa o pm cd doc a vs ns G Y ho hd mZ Ob KI hints hlen hg=>?_
 have KX:=hY w _ Y
 obtain⟨fd,hb,hF⟩:=F w mg fa _ KX G.T.g Ob
 exact CA KX G.T.g G.T.b G.T.builtins G.T.nolimit hg KI hints (Nat.le_trans hlen Iw) hr hF hb (fun H hO hS=>uH w H a ns hlen hO hS) fun H e s'=>U0 w H s₁ e s'
end L2
namespace L2
open PySem PySem.Spec PyProof.Rows
def inClass(s:Stmt)(j:Nat):Stmt:=match s with
 | .ClassDef _ _ _ body _ _ _ _ _ _ _=>body.getD j (.Pass ⟨0,0,0,0⟩)
 |_=> .Pass ⟨0,0,0,0⟩
def bH(s:Stmt):Arguments:=match s with
 | .FunctionDef _ a _ _ _ _ _ _ _ _=>a
 |_=>{ posonlyargs:=[],args:=[],vararg:=none,kwonlyargs:=[],kw_defaults:=[],kwarg:=none,defaults:=[] }
def bh(s:Stmt):List Stmt:=match s with
 | .FunctionDef _ _ b _ _ _ _ _ _ _=>b
 |_=>[]
def ag(s:Stmt):Scope:=match s with
 | .FunctionDef _ _ _ _ _ _ sc _ _ _=>sc
 |_=>{ kind:= .function,names:=[],isGenerator:=false,isCoroutine:=false }
abbrev js:uz:=fun _ _ _ _ _ _=>False
abbrev E0:XK:=fun _ _ _=>False
theorem aV{X:Cx}:Passes js X E0:=fun _ _ _ _ _ _ _ h=>h.elim
structure y9(K:PySem.W.Frag)(x qual:Str)(st:Stmt)(f:Addr)(fd:FuncData):Prop where
 ex:∃(oc:Value) (od:Option Addr) (kV doc pm:Value) (an:Option Addr) (br ct:Value) (nD:Array (Option Value)),
  fd=PySem.W.fnOf x qual (bH st) (bh st) (ag st) .none kV doc pm an br ct∧K.lookup f=some ⟨oc,od, .func fd,nD⟩∧PySem.W.codeIn K br qual=true
 kp:PySem.W.keepIn K (.ref f)=true
section
variable {P:Program}{w:World}{K:PySem.W.Frag}{mg:Str→Option Value}{base:Heap}
theorem y9.ok{x qual:Str}{st:Stmt}{f:Addr}{fd:FuncData}{N ps:List Str}{k:Nat}{sp:Sp}(F:y9 K x qual st f fd)(S:az N ps (ag st))(len:∀vs H Q E,sp vs H Q E→vs.length=ps.length)
  (cS:∀(br:Value) (A:Around) (outer:List Env) (s:Shared) (H:Hp) (vs:List V) (Q:VK) (E:XK),cf k (A.deeper (envOfC qual (ag st) s.heap.objs.size f br))→sp vs H Q E→
   ∃t,jV (fI js P w K mg base N qual (ag st) f br A outer s H E).Cg (bh st) t∧t { nx:=fun _ H'=>Q .cJ H',rt:=Q } (start N vs) H):dj P w K mg base js (k+1) f fd ps sp:=by
 obtain⟨oc,od,kV,doc,pm,an,br,ct,nD,rfl,lk,mZ⟩:=F.ex
 refine fn_of lk mZ S len fun A outer s H vs Q E hr uH=>?_
 obtain⟨t,h,q⟩:=cS br A outer s H vs Q E hr uH
 exact⟨t,h.Cg,q⟩
theorem y9.binds{x qual:Str}{st:Stmt}{f:Addr}{fd:FuncData}{ps:List Str}(F:y9 K x qual st f fd)
  (h:∀(kV doc pm:Value) (an:Option Addr) (br ct:Value) (us:List Value),us.length=ps.length→bindArgs (PySem.W.fnOf x qual (bH st) (bh st) (ag st) .none kV doc pm an br ct) ⟨us,[]⟩=pure (ps.zip us)):Binds K fd ps []:=by
 obtain⟨oc,od,kV,doc,pm,an,br,ct,nD,rfl,lk,mZ⟩:=F.ex
 exact .all (h kV doc pm an br ct)
theorem KO{x qual:Str}{st:Stmt}{f:Addr}{oc:Value}{od an:Option Addr}{nD:Array (Option Value)}{kV doc pm br ct:Value}(l:K.lookup f=some ⟨oc,od, .func (PySem.W.fnOf x qual (bH st) (bh st) (ag st) .none kV doc pm an br ct),nD⟩)
  (c:PySem.W.codeIn K br qual=true) (k:PySem.W.keepIn K (.ref f)=true):y9 K x qual st f (PySem.W.fnOf x qual (bH st) (bh st) (ag st) .none kV doc pm an br ct):=⟨⟨oc,od,kV,doc,pm,an,br,ct,nD,rfl,l,c⟩,k⟩
end
theorem kH{A:Around}{k:Nat}(hr:cf k A):A.units+1<cLine:=Nat.lt_of_le_of_lt (Nat.add_le_add_left (by decide:1≤64) _) hr.units
theorem qO{n:Nat}(h:n≤1000):n<sizeLine:=Nat.lt_of_le_of_lt h (by decide)
section
variable {X:Cx}
theorem pv(i:Nat){x:Str}{pos:Pos}(hN:X.N[i]? =some x:=by rfl)(hv:Uk X.env.scope x:=by first|exact Or.inl rfl|exact Or.inr (Or.inl rfl) |exact Or.inr (Or.inr rfl))(hd:(x==("__debug__" :Str))=false:=by decide)
  (mZ:(x==("__classdict__" :Str))=false:=by decide):PE X (.Name x pos) (Nw i):=Kd hN hv hd mZ
end
theorem dm{A B:Prop}(h:B):if false=true then A else B:=by
 rw[if_neg Bool.false_ne_true]
 exact h
theorem eG{A B:Prop}(h:A):if true=true then A else B:=by
 rw[if_pos rfl]
 exact h
theorem nh{c A B:Prop}[Decidable c](h1:c→A)(h2:¬c→B):if c then A else B:=by
 by_cases h:c
 ·rw[if_pos h]
  exact h1 h
 ·rw[if_neg h]
  exact h2 h
theorem Od{c A B:Prop}[Decidable c](hc:c)(h:B):if (!decide c)=true then A else B:=by
 rw[decide_eq_true hc]
 exact dm h
def aG(H H':Hp):Prop:=∀b o,H b=some o→H' b=some o
theorem aG.refl(H:Hp):aG H H:=fun _ _ h=>h
theorem aG.trans{H H1 H2:Hp}(a:aG H H1)(b:aG H1 H2):aG H H2:=fun c o h=>b c o (a c o h)
theorem aG.free{H H':Hp}(e:aG H H'){l:Addr}(h:H' l=Option.none):H l=Option.none:=by
 cases q:H l with
 |none=>rfl
 |some o=>
  rw[e l o q] at h
  cases h
theorem aG.seq{K:PySem.W.Frag}{H H':Hp}{a:Addr}{xs:List V}(e:aG H H')(h:bR K H a xs):bR K H' a xs:=by
 rcases h with (h| ⟨o,h⟩) |h
 ·exact .inl (.inl (e _ _ h))
 ·exact .inl (.inr ⟨o,e _ _ h⟩)
 ·exact .inr h
section
variable {κ:Type}[DecidableEq κ]
theorem AN{p:κ×V}{r:List (κ×V)}{k:κ}(e:p.1=k):dX (p::r) k=dX r k:=by
 unfold dX
 rw[List.filter_cons,if_neg (by simp [e])]
theorem qP{p:κ×V}{r:List (κ×V)}{k:κ}(e:¬p.1=k):dX (p::r) k=p::dX r k:=by
 unfold dX
 rw[List.filter_cons,if_pos (by simp [e])]
theorem uX:∀{aL:List (κ×V)} {k:κ},¬k∈aL.map (·.1)→dX aL k=aL
 | [],_,_=>rfl
 |p::r,k,h=>by
  have h':¬k∈r.map (·.1):=fun m=>by
   obtain⟨q,hq,e⟩:=List.mem_map.mp m
   exact h (List.mem_map.mpr ⟨q,List.mem_cons.mpr (Or.inr hq),e⟩)
  rw[qP fun e=>h (List.mem_map.mpr ⟨p,List.mem_cons.mpr (Or.inl rfl),e⟩),uX h']
theorem ju:∀{aL:List (κ×V)} {k:κ},(aL.map (·.1)).Nodup→k∈aL.map (·.1)→(dX aL k).length+1=aL.length
 | [],_,_,m=>by simp at m
 |p::r,k,h,m=>by
  have h:(p.1::r.map (·.1)).Nodup:=h
  have m:k=p.1∨k∈r.map (·.1):=List.mem_cons.mp m
  obtain⟨h1,h2⟩:=List.nodup_cons.mp h
  by_cases e:p.1=k
  ·subst e
   rw[AN rfl,uX h1]
   all_goals rfl
  ·have m':k∈r.map (·.1):=m.resolve_left fun z=>e z.symm
   have q:=ju h2 m'
   rw[qP e,List.length_cons,List.length_cons]
   omega
end
end L2
namespace L2
open PySem PySem.Spec PyProof.Rows
section
variable {X:Cx}{pins:List (Addr×Obj)}{σ:St}{H:Hp}{s:Shared}{a:Addr}{u u':HO}
def NF(X:Cx)(a:Addr):Prop:=∀o z,X.H₀ a≠some (.xb o z)
end
section
variable {X:Cx}{tg:Expr}
end
def FY:V→Option Value
 | .ty n=>some (.type n)
 | .ref a=>some (.ref a)
 |_=>none
theorem mK{X:Cx}:gL X (.builtin "isinstance") (fun xs H Q=>∃x c cv t b,xs=[x,c]∧FY c=some cv∧lY X.K H x t∧PySem.W.kitOne X.K t cv=some b∧Q (.bl b) H):=by
 intro pins s σ H xs us Q I r h
 obtain⟨x,c,cv,t,b,rfl,hc,ty,e,q⟩:=h
 obtain⟨u,v,rfl,ru,rv⟩:=vals2 r
 have hv:v=cv:=by
  cases c<;>simp only [FY,Option.some.injEq,reduceCtorEq] at hc
  ·cases (show v=Value.ref _ from rv);exact hc
  ·cases (show v=Value.type _ from rv);exact hc
 subst hv
 exact AH I ru ty e fun tk=>⟨.bl b,H,I.tok tk,rfl,q⟩
section
variable {X:Cx}
end
end L2
namespace L2
open PySem PySem.Spec PyProof.Rows
def qQ(X:Cx)(pins:List (Addr×Obj))(N:List Str)(scope:Scope)(cl:List (Str×Addr))(fp:List Addr)(s:Shared)(H:Hp):Cx where
 prog:=X.prog
 w:=X.w
 K:=X.K
 mg:=X.mg
 base:=X.base
 A:=X.A
 N:=N
 s₀:=s
 H₀:=H
 env:=compEnvC scope cl s.heap.objs.size X.env
 outer:=X.stack
 stack:=X.stack
 ex:=fp
 fn:=fun _=>false
 calm:=X.calm
 pn:=X.pn++pins
 xe:=fun _ _=>False
structure Oe(X:Cx)(N:List Str)(fr:List (Option Nat))(scope:Scope)(cl:List (Str×Addr)):Prop where
 Of:closureFor scope X.env=pure cl
 kind:scope.kind= .function
 sG:∀y∈scope.names,y.2≠ .cell
 names:∀y∈scope.names,y.2= .local→scope.names.lookup y.1=some .local
 cells:∀x c,cl.lookup x=some c→X.env.cells.lookup x=some c
 has:∀x,((relabel scope X.env).names.lookup x=some .cell∨(relabel scope X.env).names.lookup x=some .free)→∃c,cl.lookup x=some c
 len:fr.length=N.length
 out:∀(i j:Nat) (x:Str),N[i]? =some x→fr[i]? =some (some j)→X.N[j]? =some x∧X.env.kindOf x=some .cell∧((relabel scope X.env).names.lookup x=some .cell∨(relabel scope X.env).names.lookup x=some .free)
end L2
namespace L2
open PySem PySem.Spec PyProof.Rows
def l0(env:Env):List (Str×NameKind)→List (Str×Addr)→List (Str×Addr)
 | [],cs=>cs
 | (n,k)::r,cs=>l0 env r (if (k== .free)=true then (n,(env.cells.lookup n).getD 0)::cs else cs)
def uY(scope:Scope)(env:Env):List (Str×Addr):=l0 env scope.names []
theorem za{env:Env}:∀{names:List (Str×NameKind)} (cs:List (Str×Addr)),(∀y∈names,y.2= .free→∃c,env.cells.lookup y.1=some c)→
  (forIn names cs fun (x:Str×NameKind) cs=>match x with
   | (name,kind)=>if (kind==NameKind.free)=true then do let c←cellOf env name;pure (ForInStep.yield ((name,c)::cs)) else pure (ForInStep.yield cs):Sem (List (Str×Addr)))=pure (l0 env names cs)
 | [],cs,_=>rfl
 | (n,k)::r,cs,h=>by
   rw[List.forIn_cons]
   dsimp only
   have ih:=fun cs=>za (env:=env) (names:=r) cs fun y hy=>h y (List.mem_cons_of_mem _ hy)
   by_cases hk:(k==NameKind.free)=true
   ·obtain⟨c,hc⟩:=h (n,k) (List.mem_cons_self ..) (by simpa using hk)
    rw[if_pos hk,show l0 env ((n,k)::r) cs=l0 env r ((n,c)::cs) by rw[l0,if_pos hk,hc];rfl]
    have e:cellOf env n=pure c:=by unfold cellOf;rw[hc]
    rw[e]
    exact ih _
   ·rw[if_neg hk,show l0 env ((n,k)::r) cs=l0 env r cs by rw[l0,if_neg hk]]
    exact ih _
theorem FZ{scope:Scope}{env:Env}(h:∀y∈scope.names,y.2= .free→∃c,env.cells.lookup y.1=some c):closureFor scope env=pure (uY scope env):=by
 have t:=za (env:=env) [] h
 have e:closureFor scope env=((forIn scope.names ([]:List (Str×Addr)) fun (x:Str×NameKind) cs=>match x with
   | (name,kind)=>if (kind==NameKind.free)=true then do let c←cellOf env name;pure (ForInStep.yield ((name,c)::cs)) else pure (ForInStep.yield cs)) >>= fun cs=>pure cs:Sem (List (Str×Addr))):=rfl
 rw[e,t]
 rfl
theorem oE{env:Env}:∀{names:List (Str×NameKind)} {cs:List (Str×Addr)},(∀y∈names,y.2= .free→∃c,env.cells.lookup y.1=some c)→(∀x c,cs.lookup x=some c→env.cells.lookup x=some c)→∀x c,(l0 env names cs).lookup x=some c→env.cells.lookup x=some c
 | [],_,_,hc,x,c,h=>hc x c h
 | (n,k)::r,cs,hn,hc,x,c,h=>by
   rw[l0] at h
   refine oE (names:=r) (fun y hy=>hn y (List.mem_cons_of_mem _ hy)) (fun x c h=>?_) x c h
   by_cases hk:(k==NameKind.free)=true
   ·rw[if_pos hk] at h
    obtain⟨c',yN⟩:=hn (n,k) (List.mem_cons_self ..) (by simpa using hk)
    rw[List.lookup_cons] at h
    cases e:x==n with
    |true=>
     rw[e] at h
     have ex:x=n:=by simpa using e
     subst ex
     rw[yN] at h ⊢
     exact h
    |false=>
     rw[e] at h
     exact hc x c h
   ·rw[if_neg hk] at h
    exact hc x c h
theorem uZ{env:Env}:∀{names:List (Str×NameKind)} {cs:List (Str×Addr)} {x:Str},((x,NameKind.free)∈names∨∃c,cs.lookup x=some c)→∃c,(l0 env names cs).lookup x=some c
 | [],_,_,h=>h.elim (fun z=>by cases z) fun z=>z
 | (n,k)::r,cs,x,h=>by
   rw[l0]
   refine uZ (names:=r) ?_
   by_cases hk:(k==NameKind.free)=true
   ·rw[if_pos hk,List.lookup_cons]
    cases e:x==n with
    |true=>exact .inr ⟨_,rfl⟩
    |false=>
     rcases h with h|h
     ·rcases List.mem_cons.mp h with z|z
      ·cases z
       simp at e
      ·exact .inl z
     ·exact .inr h
   ·rw[if_neg hk]
    rcases h with h|h
    ·rcases List.mem_cons.mp h with z|z
     ·cases z
      exact absurd rfl hk
     ·exact .inl z
    ·exact .inr h
theorem iZ{env:Env}(x:Str):∀names:List (Str×NameKind),
  (names.map fun (y:Str×NameKind)=>match y with
   | (n,k)=>if (k==NameKind.free&&env.scope.kind== .function&&env.kindOf n==some .cell)=true then (n,NameKind.cell) else (n,k)).lookup x
   =(names.lookup x).map fun k=>if (k==NameKind.free&&env.scope.kind== .function&&env.kindOf x==some .cell)=true then NameKind.cell else k
 | []=>rfl
 | (n,k)::r=>by
   have ih:=iZ (env:=env) x r
   rw[List.map_cons,List.lookup_cons]
   by_cases e:(x==n)=true
   ·have ex:x=n:=by simpa using e
    subst ex
    dsimp only
    by_cases hc:(k==NameKind.free&&env.scope.kind== .function&&env.kindOf x==some .cell)=true
    ·rw[if_pos hc,List.lookup_cons,beq_self_eq_true]
     dsimp only [Option.map]
     rw[if_pos hc]
    ·rw[if_neg hc,List.lookup_cons,beq_self_eq_true]
     dsimp only [Option.map]
     rw[if_neg hc]
   ·have e':(x==n)=false:=by simpa using e
    dsimp only
    by_cases hc:(k==NameKind.free&&env.scope.kind== .function&&env.kindOf n==some .cell)=true
    ·rw[if_pos hc,List.lookup_cons,e']
     exact ih
    ·rw[if_neg hc,List.lookup_cons,e']
     exact ih
structure F0(sc scope:Scope)(NX N:List Str)(fr:List (Option Nat)):Prop where
 Og:sc.kind= .function
 kind:scope.kind= .function
 sG:∀y∈scope.names,y.2≠ .cell
 names:∀y∈scope.names,y.2= .local→scope.names.lookup y.1=some .local
 free:∀y∈scope.names,y.2= .free→sc.names.lookup y.1=some .cell
 len:fr.length=N.length
 out:((List.range N.length).all fun i=>match fr[i]? with
  |some (some j)=>(match N[i]? with
   |some x=>(NX[j]? ==some x)&&(scope.names.lookup x==some .free)
   |none=>false)
  |_=>true)=true
theorem l5{names:List (Str×NameKind)}{x:Str}{k:NameKind}(h:names.lookup x=some k):(x,k)∈names:=PySem.mem_of_lookup h
theorem F0.blk{X:Cx}{sc scope:Scope}{NX N:List Str}{fr:List (Option Nat)}(B:F0 sc scope NX N fr)(e1:X.env.scope=sc)(e2:X.N=NX)(ok:X.Ok):Oe X N fr scope (uY scope X.env):=by
 subst e1 e2
 have fc:∀y∈scope.names,y.2= .free→∃c,X.env.cells.lookup y.1=some c:=fun y hy hf=>ok.has y.1 (.inl (B.free y hy hf))
 have lk:∀x,(relabel scope X.env).names.lookup x=(scope.names.lookup x).map fun k=>if (k==NameKind.free&&X.env.scope.kind== .function&&X.env.kindOf x==some .cell)=true then NameKind.cell else k:=fun x=>iZ x scope.names
 have KP:∀x,scope.names.lookup x=some .free→(relabel scope X.env).names.lookup x=some .cell:=fun x hx=>by
  have hk:X.env.kindOf x=some .cell:=B.free (x, .free) (l5 hx) rfl
  rw[lk,hx,Option.map_some,hk,B.Og]
  rfl
 refine⟨FZ fc,B.kind,B.sG,B.names,fun x c h=>oE fc (fun x c h=>by cases h) x c h,fun x h=>uZ (.inl ?_),B.len,fun i j x h1 h2=>?_⟩
 ·rw[lk] at h
  cases e:scope.names.lookup x with
  |none=>rw[e] at h;rcases h with h|h<;>cases h
  |some k=>
   rw[e,Option.map_some] at h
   have hm:=l5 e
   cases k with
   |free=>exact hm
   |cell=>exact absurd rfl (B.sG _ hm)
   |_=>rcases h with h|h<;>simp at h
 ·have hi:i<N.length:=(List.getElem?_eq_some_iff.mp h1).1
  have:=List.all_eq_true.mp B.out i (List.mem_range.mpr hi)
  rw[h2] at this
  dsimp only at this
  rw[h1] at this
  dsimp only at this
  rw[Bool.and_eq_true] at this
  have a1:X.N[j]? =some x:=by simpa using this.1
  have a2:scope.names.lookup x=some .free:=by simpa using this.2
  exact⟨a1,B.free (x, .free) (l5 a2) rfl, .inl (KP x a2)⟩
end L2
namespace L2
open PySem PySem.Spec PyProof.Rows
def startB(fr:List (Option Nat))(σ:St):St:=fr.map fun o=>o.bind fun j=>(σ[j]?).join
theorem xw{fr:List (Option Nat)}{σ:St}{i:Nat}{v:V}(h:(startB fr σ)[i]? =some (some v)):∃j,fr[i]? =some (some j)∧σ[j]? =some (some v):=by
 unfold startB at h
 rw[List.getElem?_map] at h
 cases e:fr[i]? with
 |none=>rw[e] at h;cases h
 |some o=>
  rw[e] at h
  cases o with
  |none=>cases h
  |some j=>
   have h':(σ[j]?).join=some v:=Option.some.inj h
   cases q:σ[j]? with
   |none=>rw[q] at h';cases h'
   |some z=>rw[q] at h';exact⟨j,rfl,by rw[q];exact congrArg some h'⟩
section
variable {X:Cx}{pins:List (Addr×Obj)}{σ:St}{H:Hp}{s:Shared}{N:List Str}{fr:List (Option Nat)}{scope:Scope}{cl:List (Str×Addr)}{fp:List Addr}
theorem CB(B:Oe X N fr scope cl)(I:Inv X pins σ H s)(f:∀b∈fp,jL X pins H b∧b<s.heap.objs.size):(qQ X pins N scope cl fp s H).Ok where
 mod:=I.mod
 kind:=B.kind
 glob:=I.ok.glob
 blt:=I.ok.blt
 above:=Nat.le_refl _
 inj:=fun x y c h1 h2=>I.ok.inj x y c (B.cells x c h1) (B.cells y c h2)
 has:=fun x h=>B.has x h
 FD:=fun x c h=>by cases h
 hd:=I.ok.hd
 frames:=I.ok.frames
 Il:= .inl rfl
 MZ:=fun b hb=>⟨Nat.ne_of_lt (f b hb).2,fun x c h=>(f b hb).1.2.2.2.2.1 x c (B.cells x c h)⟩
 bs:=I.bs
 yL:=Nat.le_trans I.ok.yL I.sz
 r8:=fun b o e hb=>by
  rcases (f b hb).1.2.2.2.1 with h|h
  ·exact I.ok.r8 b o e h
  ·exact absurd (Nat.lt_of_lt_of_le (Heap.lt_size e) (Nat.le_trans I.ok.yL h)) (Nat.lt_irrefl _)
 si:=fun b hb h=>by
  rcases List.mem_cons.mp (I.sj b h) with z|z
  ·exact(f b hb).1.2.1 z
  ·exact(f b hb).1.2.2.1 z
 iH:=I.stack
 B0:=I.sr
theorem AO{h1:Heap}{t1:Nat}(B:Oe X N fr scope cl)(I:Inv X pins σ H s)(f:∀b∈fp,jL X pins H b∧b<s.heap.objs.size)(IE:h1.Ns s.heap.objs.size fun _=>none)
  (KQ:∀b o,s.heap.get? b=some o→h1.get? b=some o):Inv (qQ X pins N scope cl fp s H) [] (startB fr σ) H { s with heap:=h1,toks:=t1 }:=by
 obtain⟨m,hm,hl⟩:=I.loc
 refine⟨CB B I f,rfl,I.bare,Un.kept KQ,⟨_,IE,fun i x v e1 e2 _=>?_⟩,fun x c h=>?_,I.bF.fresh (Nat.le_refl _),fun x c h=>I.fH x c (B.cells x c h),fun p hp=>?_,I.bF.kept KQ,?_⟩
 ·obtain⟨j,ej,es⟩:=xw e2
  obtain⟨o1,o2,o3⟩:=B.out i j x e1 ej
  obtain⟨u,ru,L⟩:=hl j x v o1 es (.inr (.inl o2))
  refine⟨u,ru, .inr ⟨o3,?_⟩⟩
  obtain⟨c,hc⟩:=B.has x o3
  rcases L with ⟨k1,_⟩ | ⟨_,c',yN,cc⟩
  ·rw[o2] at k1;cases k1
  ·rw[B.cells x c hc] at yN
   cases yN
   exact⟨c,hc,cc.keeps KQ⟩
 ·obtain⟨v,hv⟩:=I.cell x c (B.cells x c h)
  exact⟨v,hv.keeps KQ⟩
 ·have IF:p∈X.pn++pins:=by rw[List.append_nil] at hp;exact hp
  obtain⟨p1,p2,p3,p4,p5⟩:=I.pin p IF
  exact⟨KQ _ _ p1,p2,Nat.ne_of_lt (Heap.lt_size p1),fun z=>(List.mem_cons.mp (I.sj _ z)).elim p3 p4,p5⟩
 ·show (startB fr σ).length=N.length
  unfold startB
  rw[List.length_map,B.len]
end
def M3(X:Cx)(cs:List Expr)(t:TT):Prop:=
 ∀(pins:List (Addr×Obj)) (s:Shared) (σ:St) (H:Hp) (Q:Bool→Hp→Prop),Inv X pins σ H s→t σ H Q→
  wpAny (model X.prog X.w) X.A (forIn cs true fun c r=>if r=true then do let ok←isTrue c X.env (eval c X.env);pure (ForInStep.yield ok) else pure (ForInStep.yield r)) (TP X pins σ Q) X.xe s
def U3:TT:=fun _ H Q=>Q true H
theorem f6{X:Cx}:M3 X [] U3:=fun pins s σ H Q I h=>by
 rw[List.forIn_nil]
 exact wpAny_pure ⟨H,I,h⟩
section
variable {prog:Program}{w:World}{A:Around}{R:Result→Shared→Prop}{s:Shared}
theorem comp_loop{elt tg iter:Expr}{ifs:List Expr}{scope:Scope}{pos:Pos}{it acc:Value}{env:Env}(J:Nat→Shared→Prop)
  (turn:∀n s,J n s→wpAny (model prog w) A (pyNext it) (fun r s₁=>match r with
   |none=>R (.ok .next) s₁
   |some v=>wpAny (model prog w) A (letOwnedTupleGo tg it v) (fun _ sg=>wpAny (model prog w) A (assign tg env v) (fun _ s₂=>
     wpAny (model prog w) A (forIn ifs true fun c r=>if r=true then do let ok←isTrue c env (eval c env);pure (ForInStep.yield ok) else pure (ForInStep.yield r)) (fun ok s₃=>
      if ok=true then wpAny (model prog w) A (eval elt env) (fun x s₄=>wpAny (model prog w) A (call (.builtin "list.append") [acc,x]) (fun _ s₅=>∃m,m<n∧J m s₅) (fun _ _=>False) s₄) (fun _ _=>False) s₃
      else∃m,m<n∧J m s₃) (fun _ _=>False) s₂) (fun _ _=>False) sg) (fun _ _=>False) s₁) (fun _ _=>False) s)
  (n:Nat) (h:J n s):codeAny (model prog w) A (.compLoop (.ListComp elt [⟨tg,iter,ifs,0⟩] scope pos) 0 it acc env) R s:=by
 refine codeAny_loop rfl J (fun n s hJ=>?_) n h
 show wpAny _ A ((compTurn (.ListComp elt [⟨tg,iter,ifs,0⟩] scope pos) 0 it acc env).onRaise (fun x=>do noteFrame x env;theTreesLotGoes x)) _ _ s
 refine wpAny_noted ?_
 rw[compTurn_list]
 have no:∀{P:Value→Shared→Prop} (a:Value) (s:Shared),(fun (_:Value) (_:Shared)=>False) a s→P a s:=fun _ _ z=>False.elim z
 refine wpAny_bind (wpAny_standAt (wpAny_bind (wpAny_mono (turn n s hJ) (fun r s₁ h₁=>?_) no)))
 cases r with
 |none=>exact wpAny_pure h₁
 |some v=>
  refine wpAny_bind (wpAny_mono h₁ (fun _ sg hg=>?_) no)
  refine wpAny_bind (wpAny_mono hg (fun _ s₂ h₂=>wpAny_bind (wpAny_mono h₂ (fun ok s₃ h₃=>?_) no)) no)
  cases ok with
  |false=>exact wpAny_pure ⟨rfl,h₃⟩
  |true=>exact wpAny_bind (wpAny_bind (wpAny_mono h₃ (fun x s₄ h₄=>wpAny_bind (wpAny_mono h₄ (fun _ s₅ h₅=>wpAny_pure (wpAny_pure ⟨rfl,h₅⟩)) no)) no))
end
def IG(wi:TI)(fr:List (Option Nat))(g:TG)(tt:TT)(te:TE):TE:=fun σ H Q=>wi σ H fun J H1=>∀D,H1 D=none→∃W:Nat→Nat→St→Hp→Prop,(∃m,W 0 m (startB fr σ) (upd H1 D (.lst [])))∧∀i m σ H,W i m σ H→
 (J.stop i H∧Q (.ref D) H)∨(J.go i H∧∀x H2,J.yQ i H x H2→g x σ H2 fun σ3 H3=>tt σ3 H3 fun b H4=>if b=true
   then te σ3 H4 fun y H5=>∃ys,H5 D=some (.lst ys)∧ys.length<sizeLine∧∃m',m'<m∧W (i+1) m' σ3 (upd H5 D (.lst (ys++[y])))
   else∃m',m'<m∧W (i+1) m' σ3 H4)
section
variable {X:Cx}{elt tg iter:Expr}{ifs:List Expr}{scope:Scope}{pos:Pos}{N:List Str}{fr:List (Option Nat)}{cl:List (Str×Addr)}{wi:TI}{g:TG}{tt:TT}{te:TE}
theorem F1(B:Oe X N fr scope cl)(hc:X.calm=true)
  (hg:∀pins fp s H,PG (qQ X pins N scope cl fp s H) tg g) (ht:∀pins fp s H,M3 (qQ X pins N scope cl fp s H) ifs tt) (he:∀pins fp s H,PE (qQ X pins N scope cl fp s H) elt te)
  {pins:List (Addr×Obj)} {s3:Shared} {σ:St} {H3:Hp} {Q:VK} {it D:Addr} {fp:List Addr} {tn:Nat→Heap→Prop} {J:It} (I3:Inv X pins σ H3 s3) (T:Turn X.prog X.w X.K tg J fp it tn) (Ti:tn 0 s3.heap) (f3:∀b∈fp,jL X pins H3 b∧b<s3.heap.objs.size)
  {W:Nat→Nat→St→Hp→Prop} {m0:Nat} (w0:W 0 m0 (startB fr σ) H3)
  (turn:∀i m σ H,W i m σ H→(J.stop i H∧Q (.ref D) H)∨(J.go i H∧∀x H2,J.yQ i H x H2→g x σ H2 fun σ3 H3=>tt σ3 H3 fun b H4=>if b=true
    then te σ3 H4 fun y H5=>∃ys,H5 D=some (.lst ys)∧ys.length<sizeLine∧∃m',m'<m∧W (i+1) m' σ3 (upd H5 D (.lst (ys++[y])))
    else∃m',m'<m∧W (i+1) m' σ3 H4))
  {R:Result→Shared→Prop} (hR:∀s' H',Inv X pins σ H' s'→jL X pins H' s3.heap.objs.size→(∃m,s'.heap.Ns s3.heap.objs.size m)→Q (.ref D) H'→R (.ok .next) s')
  {h₁:Heap} {t1:Nat} (IE:h₁.Ns s3.heap.objs.size fun _=>none) (Oh:∀b o,s3.heap.get? b=some o→h₁.get? b=some o):
  codeAny (model X.prog X.w) X.A (.compLoop (.ListComp elt [⟨tg,iter,ifs,0⟩] scope pos) 0 (.ref it) (.ref D) (compEnvC scope cl s3.heap.objs.size X.env)) R { s3 with heap:=h₁,toks:=t1 }:=by
 have Ib:=AO (t1:=t1) B I3 f3 IE Oh
 have xg:∀{H':Hp},(∀b∈fp,H' b=none)→∀b∈fp,jL (qQ X pins N scope cl fp s3 H3) [] H' b:=fun hn b hb=>
  ⟨hn b hb,Nat.ne_of_lt (f3 b hb).2,(CB B I3 f3).si b hb, .inl hb,fun x c h=>(f3 b hb).1.2.2.2.2.1 x c (B.cells x c h),fun p hp=>(f3 b hb).1.2.2.2.2.2 p (by rw[List.append_nil] at hp;exact hp)⟩
 refine comp_loop (fun n s'=>∃i σ' H',Inv (qQ X pins N scope cl fp s3 H3) [] σ' H' s'∧tn i s'.heap∧(∀b∈fp,H' b=none)∧W i n σ' H') ?_ m0
  ⟨0,_,_,Ib,T.keep _ _ _ Ti fun b _ o e=>Oh b o e,fun b hb=>(f3 b hb).1.1,w0⟩
 rintro n s4 ⟨i,σ4,H4,I4,st4,fr4,w4⟩
 rcases turn i n σ4 H4 w4 with ⟨stop,qn⟩ | ⟨go,step⟩
 ·refine bN (T.done (qQ X pins N scope cl fp s3 H3) rfl rfl rfl hc i [] s4 σ4 H4 _ I4 (xg fr4) st4 stop) fun r s5 ⟨hr,I5⟩=>?_
  subst hr
  have J5:Inv X pins σ H4 s5:=I3.Cb (ch:=fp) I5.os I5.base I5.bF I5.bare fun b hb=>⟨(f3 b hb).1.2.2.2.1,(f3 b hb).1.2.1,(f3 b hb).1.2.2.2.2.1,(f3 b hb).1.2.2.2.2.2⟩
  obtain⟨mm,Ts,_⟩:=I5.loc
  exact hR s5 H4 J5 (I3.Ci (Nat.le_refl _) I5.free) ⟨mm,Ts⟩ qn
 ·refine bN (T.item (qQ X pins N scope cl fp s3 H3) rfl rfl rfl hc i [] s4 σ4 H4 _ I4 (xg fr4) st4 go) fun r s5 ⟨u,hr,h5⟩=>?_
  subst hr
  refine bN h5 fun _ s6 ⟨x,H6,I6,r6,y6,U4,fr6⟩=>?_
  have I6':=I6.pinned (xg fr6) (T.obj _ _ U4)
  have back:∀{s7:Shared} {σ7:St} {H7:Hp} {m':Nat},Inv (qQ X pins N scope cl fp s3 H3) ([]++ou fp s6.heap) σ7 H7 s7→m'<n→W (i+1) m' σ7 H7→
    ∃m,m<n∧∃i σ' H',Inv (qQ X pins N scope cl fp s3 H3) [] σ' H' s7∧tn i s7.heap∧(∀b∈fp,H' b=none)∧W i m σ' H':=fun {s7 σ7 H7 m'} I7 hm w7=>by
   refine⟨m',hm,i+1,σ7,H7,I7.dH,T.keep _ _ _ U4 fun b hb o e=>(I7.pin (b,o) (List.mem_append_right _ (List.mem_append_right _ (hZ hb e)))).1,fun b hb=>?_,w7⟩
   obtain⟨o,e,d⟩:=T.obj _ _ U4 b hb
   exact(I7.pin (b,o) (List.mem_append_right _ (List.mem_append_right _ (hZ hb e)))).2.1
  refine bN (hg _ _ _ _ _ s6 σ4 H6 x u _ I6' r6 (step x H6 y6)) fun _ s7 ⟨σ7,H7,I7,q7⟩=>?_
  refine bN (ht _ _ _ _ _ s7 σ7 H7 _ I7 q7) fun ok s8 ⟨H8,I8,q8⟩=>?_
  cases ok with
  |false=>
   rw[if_neg (by decide)] at q8 ⊢
   obtain⟨m',hm,w8⟩:=q8
   exact back I8 hm w8
  |true=>
   rw[if_pos rfl] at q8 ⊢
   refine bN (he _ _ _ _ _ s8 σ7 H8 _ I8 q8) fun y s9 ⟨v9,H9,I9,r9,ys,hD9,hl9,m',hm,w9⟩=>?_
   refine bN (eD _ s9 σ7 H9 (.ref D) [v9] _ [y] (fun _ H'=>W (i+1) m' σ7 H') I9 rfl (.cons r9 .nil) ⟨_,ys,v9,rfl,rfl,hD9,hl9,w9⟩) fun _ s10 ⟨_,U5,I10,_,q10⟩=>?_
   exact back I10 hm q10
theorem u5(B:Oe X N fr scope cl)(hc:X.calm=true)
  (hg:∀pins fp s H,PG (qQ X pins N scope cl fp s H) tg g) (ht:∀pins fp s H,M3 (qQ X pins N scope cl fp s H) ifs tt) (he:∀pins fp s H,PE (qQ X pins N scope cl fp s H) elt te)
  {pins:List (Addr×Obj)} {s2:Shared} {σ:St} {H2:Hp} {Q:VK} {E:Value→Shared→Prop} {it:Addr} {fp:List Addr} {tn:Nat→Heap→Prop} {J:It} (I2:Inv X pins σ H2 s2) (T:Turn X.prog X.w X.K tg J fp it tn) (FJ:tn 0 s2.heap) (f2:∀b∈fp,jL X pins H2 b)
  (q:∀D,H2 D=none→∃W:Nat→Nat→St→Hp→Prop,(∃m,W 0 m (startB fr σ) (upd H2 D (.lst [])))∧∀i m σ H,W i m σ H→
   (J.stop i H∧Q (.ref D) H)∨(J.go i H∧∀x H2,J.yQ i H x H2→g x σ H2 fun σ3 H3=>tt σ3 H3 fun b H4=>if b=true
     then te σ3 H4 fun y H5=>∃ys,H5 D=some (.lst ys)∧ys.length<sizeLine∧∃m',m'<m∧W (i+1) m' σ3 (upd H5 D (.lst (ys++[y])))
     else∃m',m'<m∧W (i+1) m' σ3 H4))
  {RR:Value→Addr→Result→Shared→Prop}
  (hRR:∀D C s' H',Inv X pins σ H' s'→jL X pins H' C→(∃m,s'.heap.Ns C m)→Q (.ref D) H'→RR (.ref D) C (.ok .next) s'):
  wpAny (model X.prog X.w) X.A (newList []) (fun acc s₃=>wpAny (model X.prog X.w) X.A (newFunctionEnv scope X.env.globals cl [] X.env.qual none .none (some X.env)) (fun Oi s₄=>
   codeAny (model X.prog X.w) X.A (.compStart (.ListComp elt [⟨tg,iter,ifs,0⟩] scope pos) 0 (.ref it) acc { Oi with scope:=relabel scope X.env }) (RR acc Oi.locals) s₄) E s₃) E s2:=by
 have hD:H2 s2.heap.objs.size=none:=I2.bF.fresh (Nat.le_refl _)
 obtain⟨W,⟨m0,w0⟩,turn⟩:=q s2.heap.objs.size hD
 have I3:=I2.FU (ys:=[]) (its:=[]) (t':=s2.toks) .nil (by decide)
 have lt2:∀b∈fp,b<s2.heap.objs.size:=fun b hb=>by
  obtain⟨o,e,_⟩:=T.obj _ _ FJ b hb
  exact Heap.lt_size e
 refine wpAny_newObj_type (wpAny_newFunctionEnv B.sG (by intro y hy;simp at hy) (fun h₁ IE KQ=>?_) B.kind)
 have up2:∀b o,s2.heap.get? b=some o→(s2.heap.push { cls:= .type "list",data:= .seq ([]:List Value).toArray }).get? b=some o:=fun b o e=>Heap.get?_push_of_some _ e
 have Oh:∀b o,(s2.heap.push { cls:= .type "list",data:= .seq ([]:List Value).toArray }).get? b=some o→h₁.get? b=some o:=fun b o e=>KQ.extBut b o (Nat.ne_of_lt (Heap.lt_size e)) (Heap.get?_push_of_some _ e)
 have f3:∀b∈fp,jL X pins (upd H2 s2.heap.objs.size (.lst [])) b∧b< (s2.heap.push { cls:= .type "list",data:= .seq ([]:List Value).toArray }).objs.size:=fun b hb=>by
  refine⟨⟨?_,(f2 b hb).2⟩,?_⟩
  ·rw[ah (Nat.ne_of_lt (lt2 b hb))]
   exact(f2 b hb).1
  ·rw[Heap.size_push]
   exact Nat.lt_succ_of_lt (lt2 b hb)
 have fin:=F1 (iter:=iter) (pos:=pos) (D:=s2.heap.objs.size) (t1:=s2.toks) (R:=RR (.ref s2.heap.objs.size) (s2.heap.push { cls:= .type "list",data:= .seq ([]:List Value).toArray }).objs.size) B hc hg ht he I3 T (T.keep _ _ _ FJ fun b _ o e=>up2 b o e) f3 w0 turn
  (fun s' H' J' f m q=>hRR _ _ s' H' J' f m q) IE Oh
 exact codeAny_compStart_list fin (T.self _ 0 _ _ _ (T.keep _ _ _ FJ fun b _ o e=>Oh b o (up2 b o e)) fin)
theorem ic{sc:Scope}{NX:List Str}(S:F0 sc scope NX N fr)(e1:X.env.scope=sc)(e2:X.N=NX)(hc:X.calm=true)(hi:PI X tg iter wi)
  (hg:∀pins fp s H,PG (qQ X pins N scope (uY scope X.env) fp s H) tg g) (ht:∀pins fp s H,M3 (qQ X pins N scope (uY scope X.env) fp s H) ifs tt) (he:∀pins fp s H,PE (qQ X pins N scope (uY scope X.env) fp s H) elt te)
  (hs:∀x,foldedSetIterable iter X.env x=pure x:=by intro _;rfl):PE X (.ListComp elt [⟨tg,iter,ifs,0⟩] scope pos) (IG wi fr g tt te):=by
 intro pins s σ H Q I h
 have B:=S.blk e1 e2 I.ok
 rw[eval_ListComp]
 refine wpAny_comprehension_free (use:=none) rfl hs B.Of B.kind B.names (bN (hi pins s σ H _ I h) fun v s1 h1=>bN h1 fun Th s2 h2=>?_)
 obtain⟨it,fp,tn,J,H2,e,I2,T,FJ,f2,q⟩:=h2
 subst e
 refine u5 (RR:=fun acc C=>compPost (model X.prog X.w) X.A X.xe none (EP X pins σ Q) acc C) B hc hg ht he I2 T FJ f2 q ?_
 intro D C s' H' J' fC ⟨m,hm⟩ qn
 refine⟨m,hm,fun h' F2=>⟨.ref D,H',?_,rfl,qn⟩⟩
 obtain⟨f0,f1,_,f3,f4,f5⟩:=fC
 exact J'.turned (t':=s'.toks) (fun b o hb e=>(F2.2 b hb).trans e) f0 f1 f3 f4 f5
end
end L2
namespace PySem
namespace F
end F
section
variable {prog:Program}{w:World}{K:Type}[DecidableEq K]{knd:KeyKind prog w K}{A:Around}{E:Value→Shared→Prop}{s:Shared}
end
end PySem
namespace PySem
section
variable {prog:Program}{w:World}{K:Type}[DecidableEq K]{knd:KeyKind prog w K}{A:Around}{E:Value→Shared→Prop}{s:Shared}
end
end PySem
namespace L2
open PySem PySem.Spec PyProof.Rows
end L2
namespace L2
open PySem PySem.Spec PyProof.Rows
structure CC(K:PySem.W.Frag)(x qual:Str)(st:Stmt)(f:Addr)(fd:FuncData)(dV:Value):Prop where
 ex:∃(oc:Value) (od:Option Addr) (kV doc pm:Value) (an:Option Addr) (br ct:Value) (nD:Array (Option Value)),
  fd=PySem.W.fnOf x qual (bH st) (bh st) (ag st) dV kV doc pm an br ct∧K.lookup f=some ⟨oc,od, .func fd,nD⟩∧PySem.W.codeIn K br qual=true
 kp:PySem.W.keepIn K (.ref f)=true
section
variable {P:Program}{w:World}{K:PySem.W.Frag}{mg:Str→Option Value}{base:Heap}
theorem CC.ok{x qual:Str}{st:Stmt}{f:Addr}{fd:FuncData}{dV:Value}{N ps:List Str}{k:Nat}{sp:Sp}(F:CC K x qual st f fd dV)(S:az N ps (ag st))(len:∀vs H Q E,sp vs H Q E→vs.length=ps.length)
  (cS:∀(br:Value) (A:Around) (outer:List Env) (s:Shared) (H:Hp) (vs:List V) (Q:VK) (E:XK),cf k (A.deeper (envOfC qual (ag st) s.heap.objs.size f br))→sp vs H Q E→
   ∃t,jV (fI js P w K mg base N qual (ag st) f br A outer s H E).Cg (bh st) t∧t { nx:=fun _ H'=>Q .cJ H',rt:=Q } (start N vs) H):dj P w K mg base js (k+1) f fd ps sp:=by
 obtain⟨oc,od,kV,doc,pm,an,br,ct,nD,rfl,lk,mZ⟩:=F.ex
 refine fn_of lk mZ S len fun A outer s H vs Q E hr uH=>?_
 obtain⟨t,h,q⟩:=cS br A outer s H vs Q E hr uH
 exact⟨t,h.Cg,q⟩
theorem kI{x qual:Str}{st:Stmt}{f:Addr}{oc dV:Value}{od an:Option Addr}{nD:Array (Option Value)}{kV doc pm br ct:Value}(l:K.lookup f=some ⟨oc,od, .func (PySem.W.fnOf x qual (bH st) (bh st) (ag st) dV kV doc pm an br ct),nD⟩)
  (c:PySem.W.codeIn K br qual=true) (k:PySem.W.keepIn K (.ref f)=true):CC K x qual st f (PySem.W.fnOf x qual (bH st) (bh st) (ag st) dV kV doc pm an br ct) dV:=⟨⟨oc,od,kV,doc,pm,an,br,ct,nD,rfl,l,c⟩,k⟩
def Def(K:PySem.W.Frag)(mg:Str→Option Value)(x q:Str)(st:Stmt)(ps:List Str):Prop:=∃f fd,y9 K x q st f fd∧Binds K fd ps []∧mg x=some (.ref f)
structure Cal(P:Program)(w:World)(K:PySem.W.Frag)(mg:Str→Option Value)(base:Heap)(k:Nat)(x:Str)(ps:List Str)(sp:Sp)(f:Addr)(fd:FuncData):Prop where
 ok:dj P w K mg base js k f fd ps sp
 kp:PySem.W.keepIn K (.ref f)=true
 b:Binds K fd ps []
 g:mg x=some (.ref f)
def bI(P:Program)(w:World)(K:PySem.W.Frag)(mg:Str→Option Value)(base:Heap)(k:Nat)(x:Str)(ps:List Str)(sp:Sp):Prop:=∃f fd,Cal P w K mg base k x ps sp f fd
theorem Def.fW{x q:Str}{st:Stmt}{N ps:List Str}{k:Nat}{sp:Sp}(D:Def K mg x q st ps)(S:az N ps (ag st))(len:∀vs H Q E,sp vs H Q E→vs.length=ps.length)
  (cS:∀(f:Addr) (br:Value) (A:Around) (outer:List Env) (s:Shared) (H:Hp) (vs:List V) (Q:VK) (E:XK),cf k (A.deeper (envOfC q (ag st) s.heap.objs.size f br))→sp vs H Q E→
   ∃t,jV (fI js P w K mg base N q (ag st) f br A outer s H E).Cg (bh st) t∧t { nx:=fun _ H'=>Q .cJ H',rt:=Q } (start N vs) H):bI P w K mg base (k+1) x ps sp:=by
 obtain⟨f,fd,F,b,g⟩:=D
 exact⟨f,fd,F.ok S len (cS f),F.kp,b,g⟩
def bP(K:PySem.W.Frag)(C:Addr)(m q:Str)(st:Stmt)(ps:List Str):Prop:=∃f fd,y9 K m q st f fd∧Binds K fd ps []∧Meth K C m f
structure U6(P:Program)(w:World)(K:PySem.W.Frag)(mg:Str→Option Value)(base:Heap)(k:Nat)(C:Addr)(m:Str)(ps:List Str)(sp:Sp)(f:Addr)(fd:FuncData):Prop where
 ok:dj P w K mg base js k f fd ps sp
 m:Meth K C m f
 b:Binds K fd ps []
def dw(P:Program)(w:World)(K:PySem.W.Frag)(mg:Str→Option Value)(base:Heap)(k:Nat)(C:Addr)(m:Str)(ps:List Str)(sp:Sp):Prop:=∃f fd,U6 P w K mg base k C m ps sp f fd
theorem bP.fW{C:Addr}{m q:Str}{st:Stmt}{N ps:List Str}{k:Nat}{sp:Sp}(D:bP K C m q st ps)(S:az N ps (ag st))(len:∀vs H Q E,sp vs H Q E→vs.length=ps.length)
  (cS:∀(f:Addr) (br:Value) (A:Around) (outer:List Env) (s:Shared) (H:Hp) (vs:List V) (Q:VK) (E:XK),cf k (A.deeper (envOfC q (ag st) s.heap.objs.size f br))→sp vs H Q E→
   ∃t,jV (fI js P w K mg base N q (ag st) f br A outer s H E).Cg (bh st) t∧t { nx:=fun _ H'=>Q .cJ H',rt:=Q } (start N vs) H):dw P w K mg base (k+1) C m ps sp:=by
 obtain⟨f,fd,F,b,g⟩:=D
 exact⟨f,fd,F.ok S len (cS f),g,b⟩
def i5(K:PySem.W.Frag)(C:Addr)(q:Str)(st:Stmt)(ps:List Str)(ds:List Int):Prop:=∃f fd dV,CC K "__init__" q st f fd dV∧Mk K C f∧∀j,j≤ds.length→∃us,Vals ((ds.drop j).map V.int) us∧Binds K fd ps us
structure U7(P:Program)(w:World)(K:PySem.W.Frag)(mg:Str→Option Value)(base:Heap)(k:Nat)(C:Addr)(ps:List Str)(ds:List Int)(sp:Sp)(f:Addr)(fd:FuncData):Prop where
 ok:dj P w K mg base js k f fd ps sp
 m:Mk K C f
 b:∀j,j≤ds.length→∃us,Vals ((ds.drop j).map V.int) us∧Binds K fd ps us
def eU(P:Program)(w:World)(K:PySem.W.Frag)(mg:Str→Option Value)(base:Heap)(k:Nat)(C:Addr)(ps:List Str)(ds:List Int)(sp:Sp):Prop:=∃f fd,U7 P w K mg base k C ps ds sp f fd
theorem i5.fW{C:Addr}{q:Str}{st:Stmt}{N ps:List Str}{ds:List Int}{k:Nat}{sp:Sp}(D:i5 K C q st ps ds)(S:az N ps (ag st))(len:∀vs H Q E,sp vs H Q E→vs.length=ps.length)
  (cS:∀(f:Addr) (br:Value) (A:Around) (outer:List Env) (s:Shared) (H:Hp) (vs:List V) (Q:VK) (E:XK),cf k (A.deeper (envOfC q (ag st) s.heap.objs.size f br))→sp vs H Q E→
   ∃t,jV (fI js P w K mg base N q (ag st) f br A outer s H E).Cg (bh st) t∧t { nx:=fun _ H'=>Q .cJ H',rt:=Q } (start N vs) H):eU P w K mg base (k+1) C ps ds sp:=by
 obtain⟨f,fd,dV,F,g,b⟩:=D
 exact⟨f,fd,F.ok S len (cS f),g,b⟩
end
theorem aG.new{H:Hp}{p:Addr}{o:HO}(h:H p=none):aG H (upd H p o):=fun b q e=>by
 rw[ah (af e h)];exact e
end L2
namespace L2
open PySem
theorem eI:bootBuiltins "len" =some (.builtin "len"):=PySem.boot_len
theorem cn:bootBuiltins "isinstance" =some (.builtin "isinstance"):=by decide+kernel
theorem KR:bootBuiltins "int" =some (.type "int"):=by decide+kernel
theorem xx:bootBuiltins "str" =some (.type "str"):=by decide+kernel
theorem F3:bootBuiltins "bool" =some (.type "bool"):=by decide+kernel
theorem kJ:bootBuiltins "list" =some (.type "list"):=by decide+kernel
theorem KS:bootBuiltins "sum" =some (.builtin "sum"):=by decide+kernel
theorem ie{c A B:Prop}[Decidable c](hc:c)(h:A):if decide c=true then A else B:=by
 rw[if_pos (decide_eq_true hc)];exact h
theorem iJ{c A B:Prop}[Decidable c](hc:¬c)(h:B):if decide c=true then A else B:=by
 rw[if_neg (by rw[decide_eq_false hc];decide)];exact h
theorem sH{α:Type}{xs:List α}{i:Int}(h0:0≤i)(h1:i<xs.length):∃v,v∈xs∧nE xs i=some v:=by
 have hl:i.toNat<xs.length:=by omega
 refine⟨xs[i.toNat],List.getElem_mem hl,?_⟩
 have:=fh (List.getElem?_eq_getElem hl)
 rwa [Int.toNat_of_nonneg h0] at this
theorem bj(x y:Str):(x++y).length=x.length+y.length:=by
 show (x.cps++y.cps).size=_
 rw[Array.size_append];rfl
theorem AQ{n:Int}(h1:0≤n)(h2:n<2^64):n.natAbs.log2<1920:=by
 by_cases h:n.natAbs=0
 ·rw[h];decide
 ·have:=(Nat.log2_lt h (k:=64)).mpr (by omega)
  omega
end L2
namespace L2
open PySem PySem.Spec PyProof.Rows
section
variable {K:PySem.W.Frag}
theorem i6{T:String}:PySem.W.kitOne K (.type T) (.type T)=some true:=by
 unfold PySem.W.kitOne
 rw[if_pos (by simp)]
theorem KU{T U:String}{b:Bool}(h1:(Value.type T==Value.type U)=false)(h2:PySem.W.kitMeta U=true)(h3:(fastBuiltinMro T).map (·.contains (Value.type U))=some b):PySem.W.kitOne K (.type T) (.type U)=some b:=by
 unfold PySem.W.kitOne
 rw[if_neg (by rw[h1];decide)]
 unfold PySem.W.kitCls
 dsimp only
 rw[if_pos h2]
 exact h3
theorem ig:PySem.W.kitOne K (.type "int") (.type "bool")=some false:=KU (by decide+kernel) (by decide+kernel) (by decide+kernel)
end
end L2
namespace L2
open PySem PySem.Spec PyProof.Rows
section
variable {X:Cx}{elt tg iter:Expr}{ifs:List Expr}{scope:Scope}{pos F4 py:Pos}{N:List Str}{fr:List (Option Nat)}{wi:TI}{g:TG}{tt:TT}{te:TE}
theorem F5{i:Nat}{y:Str}{sc:Scope}{NX:List Str}(hN:X.N.Nodup)(hi':X.N[i]? =some y)(hy:Loc X.env.scope y)(S:F0 sc scope NX N fr)(e1:X.env.scope=sc)(e2:X.N=NX)(hc:X.calm=true)(hi:PI X tg iter wi)
  (hg:∀pins fp s H,PG (qQ X pins N scope (uY scope X.env) fp s H) tg g) (ht:∀pins fp s H,M3 (qQ X pins N scope (uY scope X.env) fp s H) ifs tt) (he:∀pins fp s H,PE (qQ X pins N scope (uY scope X.env) fp s H) elt te)
  (hsw:swapsWith (.ListComp elt [⟨tg,iter,ifs,0⟩] scope pos) (some (.Name y py)) F4.line X.env=pure true:=by rfl) (hs:∀x,foldedSetIterable iter X.env x=pure x:=by intro _;rfl)
  (hf:X.fn y=true∨X.env.scope.names.lookup y=some .local:=by first|exact .inl rfl|exact .inr rfl|assumption):
  PS X (.Assign [.Name y py] (.ListComp elt [⟨tg,iter,ifs,0⟩] scope pos) F4) (FH (IG wi fr g tt te) (kz i)):=by
 intro pins s σ H D I h
 have B:=S.blk e1 e2 I.ok
 rw[exec_Assign_Name_used _ _ _ _ hsw]
 refine wpAny_bind (wpAny_standAt (wpAny_bind ?_))
 show wpAny _ X.A (do let _←comprehension (.ListComp elt [⟨tg,iter,ifs,0⟩] scope pos) scope X.env _ (newList []) false (eval iter X.env) (some (assign (.Name y py) X.env))) _ _ s
 refine wpAny_bind (wpAny_mono (wpAny_comprehension_free (use:=some (assign (.Name y py) X.env)) (Q:=fun _ s'=>SP X pins D .next s') rfl hs B.Of B.kind B.names (bN (hi pins s σ H _ I h) fun v s1 h1=>bN h1 fun Th s2 h2=>?_)) (fun _ s' hq=>wpAny_pure (wpAny_pure hq)) fun _ _ e=>e)
 obtain⟨it,fp,tn,J,H2,e,I2,T,FJ,f2,q⟩:=h2
 subst e
 refine u5 (Q:=fun v H'=>kz i v σ H' D.nx) (RR:=fun acc C=>compPost (model X.prog X.w) X.A X.xe (some (assign (.Name y py) X.env)) (fun _ s'=>SP X pins D .next s') acc C) B hc hg ht he I2 T FJ f2 q ?_
 intro D' C s' H' J' fC ⟨m,hm⟩ qn
 obtain⟨f0,f1,_,f3,f4,f5⟩:=fC
 show wpAny _ X.A (assign (.Name y py) X.env (.ref D')) _ _ _
 refine wpAny_assign_Name (qx J' hN hi' hy (v:= .ref D') rfl (fun NV J'' ⟨a,sb,ha⟩=>?_) hf)
 have hCa:C≠a:=by
  rcases ha with z|z
  ·rw[z];exact f1
  ·exact fun w'=>f4 _ _ z w'.symm
 refine⟨m,hm.sameBut sb hCa,fun h' F2=>⟨_,H',?_,qn⟩⟩
 exact J''.turned (t':=NV.toks) (fun b o hb e=>(F2.2 b hb).trans e) f0 f1 f3 f4 f5
end
theorem l6{K:PySem.W.Frag}{a D:Addr}{xs:List V}{g:TG}{tt:TT}{te:TE}{Q:Hp→Prop}{σ:St}{H:Hp}(Pv:Nat→St→Hp→Prop)(h0:Pv 0 σ H)(hl:∀i σ H,i≤xs.length→Pv i σ H→bR K H a xs)
  (hs:∀i x σ H,xs[i]? =some x→Pv i σ H→∀N:St→Hp→Prop,(∀σ' H',Pv (i+1) σ' H'→N σ' H')→g x σ H fun σ3 H3=>tt σ3 H3 fun b H4=>if b=true then te σ3 H4 fun y H5=>∃ys,H5 D=some (.lst ys)∧ys.length<sizeLine∧N σ3 (upd H5 D (.lst (ys++[y]))) else N σ3 H4)
  (hd:∀σ H,Pv xs.length σ H→Q H):
  ∃W:Nat→Nat→St→Hp→Prop,(∃m,W 0 m σ H)∧∀i m σ H,W i m σ H→((Ck K a).stop i H∧Q H)∨((Ck K a).go i H∧∀x H2,(Ck K a).yQ i H x H2→g x σ H2 fun σ3 H3=>tt σ3 H3 fun b H4=>if b=true
   then te σ3 H4 fun y H5=>∃ys,H5 D=some (.lst ys)∧ys.length<sizeLine∧∃m',m'<m∧W (i+1) m' σ3 (upd H5 D (.lst (ys++[y])))
   else∃m',m'<m∧W (i+1) m' σ3 H4):=by
 refine⟨fun i m σ H=>m+i=xs.length∧Pv i σ H,⟨xs.length,rfl,h0⟩,?_⟩
 rintro i m σ H ⟨hm,hp⟩
 have sq:=hl i σ H (by omega) hp
 by_cases hi:i<xs.length
 ·refine .inr ⟨⟨xs,xs[i],sq,List.getElem?_eq_getElem hi⟩,?_⟩
  rintro x H2 ⟨rfl,hx⟩
  exact hs i x σ H2 (hx xs sq) hp _ fun σ' H' q=>⟨m - 1,by omega,by omega,q⟩
 ·have e:i=xs.length:=by omega
  subst e
  exact .inl ⟨⟨xs,sq,Nat.le_refl _⟩,hd σ H hp⟩
theorem zb{X:Cx}{es:List Expr}{k:Nat}{pos:Pos}{t:Iq}(K:PySem.W.Frag)(n:Nat)(hK:X.K=K)(hc:X.calm=true)(h:M0 X es t)(hn:(assignEach es X.env).length=n:=by rfl)(wV:(assignEach es X.env).findIdx? (·.1)=none:=by rfl):PG X (.Tuple es k pos) (NH K n t):=by
 subst hK
 exact Ki hc h hn wV
end L2
namespace L2
open PySem PySem.Spec PyProof.Rows
section
variable {X:Cx}
def U8(t u:TE):TE:=fun σ H Q=>t σ H Q∨u σ H Q
theorem KW{e:Expr}{t u:TE}(h:PE X e t)(h':PE X e u):PE X e (U8 t u):=fun pins s σ H Q I q=>
 q.elim (fun z=>h pins s σ H Q I z) fun z=>h' pins s σ H Q I z
theorem CD(hc:X.calm=true):gL X (.builtin "sum") (fun xs H Q=>∃p,∃ns:List Int,xs=[.ref p]∧bR X.K H p (ns.map V.int)∧Q (.int ns.sum) H):=by
 intro pins s σ H xs us Q I r h
 obtain⟨p,ns,rfl,hS,q⟩:=h
 obtain⟨u,rfl,ru⟩:=vals1 r
 cases ru
 obtain⟨its,rv,pl,hz⟩:=I.list hS
 have hi:IntsAre its ns:=intsAre_of rv
 obtain⟨ys,hy⟩:=hi.allInts.items
 have hl:s.heap.IsList p (intItems ys):=hy▸pl.isList
 refine sum_intListG (I.ok.hd hc) hl fun h' tk t' hk=>?_
 have e1:ns=ys.toList.map (·.1):=by
  rw[←nums_intItems,←hy]
  exact(show numsOf its.toArray.toList=ns from hi.numsOf).symm
 have e2:preSum (numAt ys) ys.size=ns.sum:=by rw[preSum_eq,List.take_of_length_le (by simp),e1]
 exact⟨.int ns.sum,H,I.kept hk,⟨_,by rw[e2]⟩,q⟩
theorem oG:∀{xs:List Str} {us:List Value},Vals (xs.map V.str) us→StrsAre us xs
 | [],_, .nil=> .nil
 |x::r,_, .cons h t=>by
  obtain⟨tk,e⟩:=(show∃t,_=Value.str x t from h)
  subst e
  exact .cons x tk (oG t)
def rJoin(K:PySem.W.Frag):V→List V→Hp→VK→Prop:=fun x vs H Q=>∃z l,∃ys:List Str,x= .str z∧vs=[.ref l]∧bR K H l (ys.map V.str)∧(ys.map (·.length)).sum+ys.length*z.length≤16777216∧Q (.str (Txt.join z ys)) H
theorem nG:N4 X "str.join" (rJoin X.K):=by
 intro pins s σ H x vs v us Q I rx rv h
 obtain⟨z,l,ys,rfl,rfl,hS,hz,q⟩:=h
 obtain⟨t,e⟩:=(show∃t,v=Value.str z t from rx)
 subst e
 obtain⟨u,rfl,ru⟩:=rv.one
 cases ru
 obtain⟨its,r,p,_⟩:=I.list hS
 exact join_list p.isList (by simpa using oG r) hz fun t' k=>⟨.str (Txt.join z ys),H,I.tok k,⟨t',rfl⟩,q⟩
mutual
inductive Fq(K:PySem.W.Frag)(H:Hp):V→PyData→Prop where
 |cJ:Fq K H .cJ .none
 |bl (b:Bool):Fq K H (.bl b) (.bool b)
 |int (i:Int):Fq K H (.int i) (.int i)
 |str (x:Str):Fq K H (.str x) (.str x)
 |lst {a:Addr} {xs:List V} {ds:List PyData} (h:bR K H a xs) (t:xy K H xs ds):Fq K H (.ref a) (.list ds)
 |tup {a:Addr} {xs:List V} {ds:List PyData} (h:ku K H a xs) (t:xy K H xs ds):Fq K H (.ref a) (.tuple ds)
inductive xy(K:PySem.W.Frag)(H:Hp):List V→List PyData→Prop where
 |nil:xy K H [] []
 |cons {x:V} {d:PyData} {xs:List V} {ds:List PyData} (h:Fq K H x d) (t:xy K H xs ds):xy K H (x::xs) (d::ds)
end
mutual
theorem oH{pins:List (Addr×Obj)}{σ:St}{H:Hp}{s:Shared}(I:Inv X pins σ H s){x:V}{d:PyData}(h:Fq X.K H x d){u:Value}(r:RelV x u):∃as,Reads s.heap u d as:=by
 cases h with
 |cJ=>cases (show u=Value.none from r);exact⟨_, .none⟩
 |bl b=>cases (show u=Value.bool b from r);exact⟨_, .bool b⟩
 |int i=>obtain⟨t,rfl⟩:=(show∃t,u=Value.int i t from r);exact⟨_, .int i t⟩
 |str y=>obtain⟨t,rfl⟩:=(show∃t,u=Value.str y t from r);exact⟨_, .str y t⟩
 | @lst a xs ds hS t=>
   cases (show u=Value.ref a from r)
   obtain⟨its,rv,p,_⟩:=I.list hS
   obtain⟨o,ho,hc,n,hd⟩:=p.isList
   obtain⟨as,ra⟩:=i7 I t rv
   exact⟨_, .list ho hc hd (by simpa using ra)⟩
 | @tup a xs ds hS t=>
   cases (show u=Value.ref a from r)
   obtain⟨its,rv,p,_⟩:=I.tuple hS
   obtain⟨o,ho,hc,n,hd⟩:=p
   obtain⟨as,ra⟩:=i7 I t rv
   exact⟨_, .tuple ho hc hd (by simpa using ra)⟩
theorem i7{pins:List (Addr×Obj)}{σ:St}{H:Hp}{s:Shared}(I:Inv X pins σ H s){xs:List V}{ds:List PyData}(h:xy X.K H xs ds){us:List Value}(r:Vals xs us):∃as,ReadsAll s.heap us ds as:=by
 cases h with
 |nil=>cases r;exact⟨_, .nil⟩
 |cons h t=>
  cases r with
  |cons r1 r2=>
   obtain⟨as,ra⟩:=oH I h r1
   obtain⟨bs,rb⟩:=i7 I t r2
   exact⟨_, .cons ra rb⟩
end
def U9(neg:Bool)(K:PySem.W.Frag):R2:=fun x y H Q=>∃d e,Fq K H x d∧Fq K H y e∧SeqAt.shaped d=true∧SeqAt.shaped e=true∧Q (.bl (neg^^PyData.eqv d e)) H
theorem KY(hu:X.A.units+64<cLine):nz X (compareOp .NotEq) (U9 true X.K):=by
 intro pins s σ H x y v u Q I rx ry h
 obtain⟨d,e,hd,he,sd,se,q⟩:=h
 obtain⟨as,ra⟩:=oH I hd rx
 obtain⟨bs,rb⟩:=oH I he ry
 exact SeqAt.compareNe_shaped ra rb sd se hu ⟨.bl (!PyData.eqv d e),H,I,rfl,by simpa using q⟩
end
end L2
namespace L2
open PySem PySem.Spec PyProof.Rows
section
variable {X:Cx}
end
theorem zd{tt:TT}{A B r:TS}{D:Ends}{σ:St}{H:Hp}(Pm:St→Hp→Prop)(h:∀N:St→Hp→Prop,(∀σ' H',Pm σ' H'→N σ' H')→Kf tt A B { D with nx:=N } σ H)(hr:∀σ' H',Pm σ' H'→r D σ' H'):FG (Kf tt A B) r D σ H:=h _ hr
section
variable {X:Cx}{pins:List (Addr×Obj)}{σ:St}{H:Hp}{s:Shared}{h':Heap}
theorem Inv.F6{t':Nat}{ch:List Addr}{T:Addr}{o:HO}(I:Inv X pins σ H s)(k:∀b u,b∉ch→s.heap.get? b=some u→h'.get? b=some u)(hf:∀b∈ch,jL X pins H b)
  (hT:s.heap.objs.size≤T) (new:cq X.prog X.w (upd H T o) h' T o):Inv X pins σ (upd H T o) { s with heap:=h',toks:=t' }:=by
 have hn:=I.bF.fresh hT
 have Ca:∀b u,H b=some u→b∉ch:=fun b u e z=>by rw[(hf b z).1] at e;cases e
 refine I.step (g':=s.gens) (d':=s.drawn) (ch:=ch) (fun b hb=>⟨(hf b hb).2.2.2.1,(hf b hb).2.1,(hf b hb).2.2.2.2.1,(hf b hb).2.2.2.2.2⟩)
  (fun b u _ _ hc e _=>k b u hc e) (fun b u _ _ hc e _=>⟨u.slots,k b u hc e⟩) (fun b u _ e n=>?_) (fun b u hc e=>⟨u,k b u hc e⟩)
  (fun b xs e=>by rw[ah (af e hn)];exact e) (fun b u v e=>by rw[ah (af e hn)];exact e) (fun b ps e=>⟨#[],by rw[ah (af e hn),e];simp⟩) (fun m hm=>?_) (fun b u e=>?_) I.bare
 ·rw[ah (Nat.ne_of_lt (Nat.lt_of_lt_of_le (Heap.lt_size e) hT))];exact n
 ·obtain⟨u,es,ep,ho,r⟩:=hm
  exact⟨u,es,ep,k _ u (fun z=>(hf _ z).2.1 rfl) ho,r⟩
 ·by_cases hb:b=T
  ·subst hb;rw[ai] at e;cases e;exact new
  ·rw[ah hb] at e
   refine(I.bF b u e).qc (fun c v hc q=>k c v ?_ q) (fun c q=>by rw[ah (af q hn)];exact q) fun c xs q=>by rw[ah (af q hn)];exact q
   rcases hc with z|z
   ·rw[z];exact Ca b u e
   ·exact Ca c _ z
theorem Inv.F7{t':Nat}{ch:List Addr}(I:Inv X pins σ H s)(k:∀b u,b∉ch→s.heap.get? b=some u→h'.get? b=some u)(hf:∀b∈ch,jL X pins H b):Inv X pins σ H { s with heap:=h',toks:=t' }:=by
 have Ca:∀b u,H b=some u→b∉ch:=fun b u e z=>by rw[(hf b z).1] at e;cases e
 refine I.step (g':=s.gens) (d':=s.drawn) (ch:=ch) (fun b hb=>⟨(hf b hb).2.2.2.1,(hf b hb).2.1,(hf b hb).2.2.2.2.1,(hf b hb).2.2.2.2.2⟩)
  (fun b u _ _ hc e _=>k b u hc e) (fun b u _ _ hc e _=>⟨u.slots,k b u hc e⟩) (fun b u _ e n=>n) (fun b u hc e=>⟨u,k b u hc e⟩)
  (fun b xs e=>e) (fun b u v e=>e) (fun b ps e=>⟨#[],by rw[e];simp⟩) (fun m hm=>?_) (fun b u e=>?_) I.bare
 ·obtain⟨u,es,ep,ho,r⟩:=hm
  exact⟨u,es,ep,k _ u (fun z=>(hf _ z).2.1 rfl) ho,r⟩
 ·refine(I.bF b u e).qc (fun c v hc q=>k c v ?_ q) (fun _ q=>q) fun _ _ q=>q
  rcases hc with z|z
  ·rw[z];exact Ca b u e
  ·exact Ca c _ z
end
theorem j7{h:Heap}{a b:Addr}{o u:Obj}(e:h.get? a=some o)(e':h.get? b=some u)(n:o.cls≠u.cls):a≠b:=fun z=>by
 subst z;rw[e] at e';cases e';exact n rfl
theorem neN{m n:Nat}(h:m<n∨n<m):(m:Addr)≠n:=fun z=>by
 have:m=n:=z
 omega
structure Oj(z TI TO i1 i2:Addr):Prop where
 TIz:TI≠z
 TOz:TO≠z
 i1z:i1≠z
 i2z:i2≠z
 TITO:TI≠TO
 TIi1:TI≠i1
 TIi2:TI≠i2
 TOi1:TO≠i1
 TOi2:TO≠i2
 i12:i1≠i2
theorem KZ:bootBuiltins "zip" =some (.type "zip"):=by decide+kernel
theorem K0:bootBuiltins "abs" =some (.builtin "abs"):=by decide+kernel
theorem u6(ns:List Int)(lo hi:Option Int):∃ms:List Int,iY (ns.map V.int) lo hi=ms.map V.int∧ms.length≤ns.length:=by
 have h:∀x∈iY (ns.map V.int) lo hi,∃i,x=V.int i:=fun x hx=>by
  have:x∈ns.map V.int:=List.mem_of_mem_drop (List.mem_of_mem_take hx)
  obtain⟨i,_,e⟩:=List.mem_map.mp this
  exact⟨i,e.symm⟩
 have hl:=mJ (ns.map V.int) lo hi
 rw[List.length_map] at hl
 generalize iY (ns.map V.int) lo hi=l at h hl
 refine⟨l.map fun v=>match v with| .int i=>i|_=>0,?_,by rw[List.length_map];exact hl⟩
 rw[List.map_map]
 clear hl
 induction l with
 |nil=>rfl
 |cons x r ih=>
  obtain⟨i,rfl⟩:=h x (List.mem_cons_self ..)
  rw[List.map_cons,←ih fun y hy=>h y (List.mem_cons_of_mem _ hy)]
  rfl
theorem K1(xs:List V)(k:Nat):iY xs none (some (k:Int))=xs.take k:=by
 unfold iY
 rw[HT.uV,HT.y7,List.drop_zero,Nat.sub_zero]
 rcases Nat.le_total k xs.length with h|h
 ·rw[Nat.min_eq_left h]
 ·rw[Nat.min_eq_right h,List.take_length,List.take_of_length_le h]
theorem xA(xs:List V)(k:Nat):iY xs (some (k:Int)) none=xs.drop k:=by
 unfold iY
 rw[HT.uV,HT.y7]
 rcases Nat.le_total k xs.length with h|h
 ·rw[Nat.min_eq_left h]
  exact List.take_of_length_le (by rw[List.length_drop];exact Nat.le_refl _)
 ·rw[Nat.min_eq_right h,List.drop_length,List.drop_of_length_le h]
  exact List.take_nil
end L2
namespace L2
open PySem PySem.Spec PyProof.Rows
section
variable {K:PySem.W.Frag}{g:TG}{tt:TT}{te:TE}{tb:TS}{D:Ends}
theorem nH{J:It}{L:Addr}{Q:Hp→Prop}{σ:St}{H:Hp}(n:Nat)(H0:Hp)(S:St→Prop)(Pv:Nat→List V→Prop)(hgo:∀i H',i<n→aG H0 H'→J.go i H')(Ol:∀H',aG H0 H'→J.stop n H')
  (K2:H0 L=none) (hσ:S σ) (h0:aG H0 H) (hL:H L=some (.lst [])) (p0:Pv 0 []) (hz:n≤sizeLine) (hl:∀i ys,Pv i ys→ys.length≤i)
  (turn:∀i σ H' ys,i<n→S σ→aG H0 H'→H' L=some (.lst ys)→Pv i ys→∀(N:St→V→Hp→Prop) (M:St→Hp→Prop),(∀σ3 y H5,S σ3→aG H0 H5→H5 L=some (.lst ys)→Pv (i+1) (ys++[y])→N σ3 y H5)→
   ∀x H2,J.yQ i H' x H2→g x σ H2 fun σ3 H3=>tt σ3 H3 fun b H4=>if b=true then te σ3 H4 fun y H5=>N σ3 y H5 else M σ3 H4)
  (fin:∀H' ys,aG H0 H'→H' L=some (.lst ys)→Pv n ys→Q H'):
  ∃W:Nat→Nat→St→Hp→Prop,(∃m,W 0 m σ H)∧∀i m σ H,W i m σ H→(J.stop i H∧Q H)∨(J.go i H∧∀x H2,J.yQ i H x H2→g x σ H2 fun σ3 H3=>tt σ3 H3 fun b H4=>if b=true
   then te σ3 H4 fun y H5=>∃ys,H5 L=some (.lst ys)∧ys.length<sizeLine∧∃m',m'<m∧W (i+1) m' σ3 (upd H5 L (.lst (ys++[y])))
   else∃m',m'<m∧W (i+1) m' σ3 H4):=by
 refine⟨fun i m σ H=>m+i=n∧S σ∧aG H0 H∧∃ys,H L=some (.lst ys)∧Pv i ys,⟨n,rfl,hσ,h0,[],hL,p0⟩,?_⟩
 rintro i m σ H ⟨hm,hs,ze,ys,Om,hp⟩
 by_cases hi:i<n
 ·refine .inr ⟨hgo i H hi ze,fun x H2 hy=>turn i σ H ys hi hs ze Om hp _ _ (fun σ3 y H5 k1 k2 k3 k4=>?_) x H2 hy⟩
  refine⟨ys,k3,by have:=hl i ys hp;omega,m - 1,by omega,by omega,k1,fun b o e=>?_,ys++[y],ai,k4⟩
  rw[ah (af e K2)];exact k2 b o e
 ·have e:i=n:=by omega
  subst e
  exact .inl ⟨Ol H ze,fin H ys ze Om hp⟩
theorem CF{a L:Addr}{xs:List V}{Q:Hp→Prop}{σ:St}{H:Hp}(H0:Hp)(S:St→Prop)(Pv:Nat→List V→Prop)(ha:bR K H0 a xs)
  (K2:H0 L=none) (hσ:S σ) (h0:aG H0 H) (hL:H L=some (.lst [])) (p0:Pv 0 []) (hz:xs.length≤sizeLine) (hl:∀i ys,Pv i ys→ys.length≤i)
  (turn:∀i x σ H' ys,xs[i]? =some x→S σ→aG H0 H'→H' L=some (.lst ys)→Pv i ys→∀(N:St→V→Hp→Prop) (M:St→Hp→Prop),(∀σ3 y H5,S σ3→aG H0 H5→H5 L=some (.lst ys)→Pv (i+1) (ys++[y])→N σ3 y H5)→
   g x σ H' fun σ3 H3=>tt σ3 H3 fun b H4=>if b=true then te σ3 H4 fun y H5=>N σ3 y H5 else M σ3 H4)
  (fin:∀H' ys,aG H0 H'→H' L=some (.lst ys)→Pv xs.length ys→Q H'):
  ∃W:Nat→Nat→St→Hp→Prop,(∃m,W 0 m σ H)∧∀i m σ H,W i m σ H→((Ck K a).stop i H∧Q H)∨((Ck K a).go i H∧∀x H2,(Ck K a).yQ i H x H2→g x σ H2 fun σ3 H3=>tt σ3 H3 fun b H4=>if b=true
   then te σ3 H4 fun y H5=>∃ys,H5 L=some (.lst ys)∧ys.length<sizeLine∧∃m',m'<m∧W (i+1) m' σ3 (upd H5 L (.lst (ys++[y])))
   else∃m',m'<m∧W (i+1) m' σ3 H4):=
 nH xs.length H0 S Pv (fun i H' hi e=>⟨xs,xs[i],e.seq ha,List.getElem?_eq_getElem hi⟩) (fun H' e=>⟨xs,e.seq ha,Nat.le_refl _⟩) K2 hσ h0 hL p0 hz hl
  (fun i σ H' ys _ hs e k p N M hN x H2 hy=>by
   obtain⟨rfl,hx⟩:=hy
   exact turn i x σ H2 ys (hx xs (e.seq ha)) hs e k p N M hN) fin
theorem u7{lo:Int}{n:Nat}{L:Addr}{Q:Hp→Prop}{σ:St}{H:Hp}(H0:Hp)(S:St→Prop)(Pv:Nat→List V→Prop)
  (K2:H0 L=none) (hσ:S σ) (h0:aG H0 H) (hL:H L=some (.lst [])) (p0:Pv 0 []) (hz:n≤sizeLine) (hl:∀i ys,Pv i ys→ys.length≤i)
  (turn:∀i σ H' ys,i<n→S σ→aG H0 H'→H' L=some (.lst ys)→Pv i ys→∀(N:St→V→Hp→Prop) (M:St→Hp→Prop),(∀σ3 y H5,S σ3→aG H0 H5→H5 L=some (.lst ys)→Pv (i+1) (ys++[y])→N σ3 y H5)→
   g (.int (lo+i)) σ H' fun σ3 H3=>tt σ3 H3 fun b H4=>if b=true then te σ3 H4 fun y H5=>N σ3 y H5 else M σ3 H4)
  (fin:∀H' ys,aG H0 H'→H' L=some (.lst ys)→Pv n ys→Q H'):
  ∃W:Nat→Nat→St→Hp→Prop,(∃m,W 0 m σ H)∧∀i m σ H,W i m σ H→((FI lo n).stop i H∧Q H)∨((FI lo n).go i H∧∀x H2,(FI lo n).yQ i H x H2→g x σ H2 fun σ3 H3=>tt σ3 H3 fun b H4=>if b=true
   then te σ3 H4 fun y H5=>∃ys,H5 L=some (.lst ys)∧ys.length<sizeLine∧∃m',m'<m∧W (i+1) m' σ3 (upd H5 L (.lst (ys++[y])))
   else∃m',m'<m∧W (i+1) m' σ3 H4):=
 nH n H0 S Pv (fun i H' hi e=>hi) (fun H' e=>Nat.le_refl _) K2 hσ h0 hL p0 hz hl
  (fun i σ H' ys hi hs e k p N M hN x H2 hy=>by
   obtain⟨rfl,rfl⟩:=hy
   exact turn i σ H2 ys hi hs e k p N M hN) fin
end
end L2
namespace L2
open PySem PySem.Spec PyProof.Rows
section
variable {X:Cx}{pins:List (Addr×Obj)}{σ:St}{H:Hp}{s:Shared}{N:List Str}{fr:List (Option Nat)}{scope:Scope}{fp:List Addr}
end
section
variable {X:Cx}{elt tg iter:Expr}{ifs:List Expr}{scope:Scope}{pos F4 py:Pos}{N:List Str}{fr:List (Option Nat)}{wi:TI}{g:TG}{tt:TT}{te:TE}
end
section
variable {X:Cx}{tg:Expr}(K:PySem.W.Frag)
end
end L2
namespace L2
open PySem PySem.Spec PyProof.Rows
section
variable {K:PySem.W.Frag}{g:TG}{tt:TT}{te:TE}
end
mutual
theorem u9:∀d:PyData,d.canLay0=true→PyData.eqv d d=true
 | .none,_=>by simp [PyData.eqv]
 | .bool _,_=>by simp [PyData.eqv]
 | .int _,_=>by simp [PyData.eqv]
 | .str _,_=>by simp [PyData.eqv]
 | .list xs,h=>by rw[PyData.eqv];exact i8 xs (by simpa [PyData.canLay0] using h)
 | .tuple xs,h=>by rw[PyData.eqv];exact i8 xs (by simpa [PyData.canLay0] using h)
 | .dict _,h=>by simp [PyData.canLay0] at h
theorem i8:∀xs:List PyData,PyData.canLayAll0 xs=true→PyData.eqvAll xs xs=true
 | [],_=>by simp [PyData.eqvAll]
 |x::xs,h=>by
  have h':x.canLay0=true∧PyData.canLayAll0 xs=true:=by simpa [PyData.canLayAll0] using h
  rw[PyData.eqvAll,u9 x h'.1,i8 xs h'.2];rfl
end
section
variable {X:Cx}(K:PySem.W.Frag)
end
end L2
namespace L2
open PySem PySem.Spec PyProof.Rows
section
variable {K:PySem.W.Frag}{g:TG}{tt:TT}{te:TE}
end
end L2
namespace L2
open PySem PySem.Spec PyProof.Rows
theorem K3:bootBuiltins "max" =some (.builtin "max"):=by decide+kernel
section
variable {X:Cx}
end
end L2
namespace L2
open PySem PySem.Spec PyProof.Rows
section
variable {X:Cx}
end
end L2
namespace L2
open PySem PySem.Spec PyProof.Rows PySem.W
section
variable {O:KeyOrd}{k:Nat→O.α}{n:Nat}{I:Shared→Prop}{cmp:Nat→Nat→(Bool→Shared→Prop)→Shared→Prop}
end
end L2
namespace PySem.SeqAt
open AutoSeq1 (wpAny_loadPart')
open MeetsSeq MeetsSeq2 MeetsSeq3
def F8(e c:Nat→Bool):List Nat→Bool
 | []=>false
 |j::r=>if e j=true then F8 e c r else c j
end PySem.SeqAt
namespace L2
open PySem PySem.Spec PyProof.Rows PySem.SeqAt PySem.W
@[reducible] def U':KeyOrd where
  α:=List Int
  blt a b:=decide (a<b)
  irrefl a:=by simp
  trans a b c h1 h2:=by simp only [decide_eq_true_eq] at*;exact List.lt_trans h1 h2
  negTrans a b c h:=by
   simp only [decide_eq_true_eq] at*
   by_cases Va:a<b
   ·exact .inl Va
   ·exact .inr (List.lt_of_le_of_lt (List.not_lt.mp Va) h)
  total a b h1 h2:=by simp only [decide_eq_false_iff_not] at*;exact List.le_antisymm (List.not_lt.mp h2) (List.not_lt.mp h1)
theorem F9:∀(xs ys:List Int) (d:Nat) (f g:Nat→Int),xs.length=ys.length→(∀j,j<xs.length→f (d+j)=xs.getD j 0)→(∀j,j<xs.length→g (d+j)=ys.getD j 0)→
  F8 (fun j=>f j==g j) (fun j=>decide (f j<g j)) (List.range' d xs.length)=decide (xs<ys)
 | [],[],d,f,g,_,_,_=>by simp [F8]
 |x::xs,y::ys,d,f,g,hl,hf,hg=>by
  have h0:=hf 0 (by simp)
  have g0:=hg 0 (by simp)
  simp at h0 g0
  have ih:=F9 xs ys (d+1) f g (by simpa using hl) (fun j hj=>by
   have:=hf (j+1) (by simp;omega)
   rw[show d+1+j=d+(j+1) by omega,this];simp) (fun j hj=>by
   have:=hg (j+1) (by simp;omega)
   rw[show d+1+j=d+(j+1) by omega,this];simp)
  rw[List.length_cons,List.range'_succ,F8,ih,h0,g0]
  by_cases e:x=y
  ·subst e
   rw[if_pos (by simp)]
   simp [List.cons_lt_cons_iff]
  ·rw[if_neg (by simpa using e)]
   simp [List.cons_lt_cons_iff,e]
section
variable {prog:Program}{w:World}{A:Around}{E:Value→Shared→Prop}{s:Shared}
end
section
variable {X:Cx}
end
end L2
namespace L2
open PySem PySem.Spec PyProof.Rows
section
variable {X:Cx}
end
theorem CG:bootBuiltins "all" =some (.builtin "all"):=by decide+kernel
theorem AR(bs:List Bool):(List.range bs.length).all (fun i=>bs.getD i false)=bs.all id:=by
 induction bs with
 |nil=>rfl
 |cons b bs ih=>
  rw[List.length_cons,List.range_succ_eq_map,List.all_cons,List.all_map,List.all_cons]
  congr 1
theorem va{X:Cx}(hc:X.calm=true):gL X (.builtin "all") (fun xs H Q=>∃p,∃bs:List Bool,xs=[.ref p]∧bR X.K H p (bs.map V.bl)∧Q (.bl (bs.all id)) H):=by
 intro pins s σ H xs us Q I r h
 obtain⟨p,bs,rfl,hS,q⟩:=h
 obtain⟨u,rfl,ru⟩:=vals1 r
 cases ru
 obtain⟨its,rv,pl,hz⟩:=I.list hS
 have ll:=rv.length
 rw[List.length_map] at ll
 obtain⟨o,ho,_⟩:=pl.isList
 have hI:p≠s.heap.objs.size:=Nat.ne_of_lt (Heap.lt_size ho)
 refine call_all_walk (wpAny_pyIter_list pl.isList ?_)
 refine⟨s.heap.objs.size,_,_,_,_,_,fun i=>bs.getD i false,rfl,Walks.list (A:=X.A.in1) (show X.A.in1.handled=none from I.ok.hd hc) s.heap.objs.size p hI its.toArray,⟨⟨_,Heap.get?_push_size _ rfl,rfl,rfl⟩,pl.isList.push _⟩,?_,fun h' tk hk=>?_⟩
 ·intro i v s' Q' E' hP hq
  have hP:its[i]? =some v:=by simpa using hP
  have Oo:i<bs.length:=by rw[ll];exact(List.getElem?_eq_some_iff.mp hP).1
  obtain⟨u,hu,ru⟩:=rv.get (i:=i) (x:=V.bl bs[i]) (by rw[List.getElem?_map,List.getElem?_eq_getElem Oo];rfl)
  rw[hP] at hu
  cases hu
  cases ru
  have e:bs.getD i false=bs[i]:=by rw[List.getD_eq_getElem?_getD,List.getElem?_eq_getElem Oo];rfl
  have hq:Q' (bs.getD i false) s':=hq
  rw[e] at hq
  exact wpAny_truthy_bool hq
 ·have e:(List.range its.toArray.size).all (fun i=>bs.getD i false)=bs.all id:=by
   rw[←AR bs,ll];simp
  rw[e]
  exact⟨.bl _,H,I.kept fun b o q=>hk b o (fun z=>by
   have z:b=s.heap.objs.size:=by simpa using z
   exact absurd (Heap.lt_size q) (by rw[z];exact Nat.lt_irrefl _)) (Heap.get?_push_of_some _ q),rfl,q⟩
end L2
namespace L2
open PySem PySem.Spec PyProof.Rows
section
variable {K:PySem.W.Frag}{g:TG}{tt:TT}{te:TE}
end
section
variable {X:Cx}
end
end L2
namespace L2
open PySem PySem.Spec PyProof.Rows
section
variable {K:PySem.W.Frag}{g:TG}{tt:TT}{te:TE}
end
section
variable {X:Cx}
end
end L2
namespace PySem.W
open PySem PySem.Calls PyProof.Rows PyProof.V PySem.Spec
section
variable {prog:Program}{w:World}{A:Around}{E:Value→Shared→Prop}{s:Shared}{T:String}{r d:Addr}{n:Nat}{P:Nat→Value→Prop}{OK:Heap→Prop}
end
end PySem.W
namespace L2
open PySem PySem.Spec PyProof.Rows PySem.W
section
variable {X:Cx}
end
end L2
namespace L2
open PySem PySem.Spec PyProof.Rows
section
variable {X:Cx}
end
end L2
namespace L2
open PySem PySem.Spec PyProof.Rows
section
variable {X:Cx}
theorem fB:nz X (compareOp .LtE) (fun x y H Q=>∃i j,x= .str i∧y= .str j∧Q (.bl (!decide (j.cps.toList<i.cps.toList))) H):=by
 intro pins s σ H x y v u Q I rx ry h
 obtain⟨i,j,rfl,rfl,q⟩:=h
 obtain⟨t,rfl⟩:=(show∃t,v=Value.str i t from rx)
 obtain⟨t',rfl⟩:=(show∃t,u=Value.str j t from ry)
 exact PySem.P.le_str ⟨.bl _,H,I,rfl,q⟩
theorem AS:gL X (.type "int") (fun xs H Q=>∃x n,xs=[.str x]∧PySem.intText? x=some n∧x.length≤640∧Q (.int n) H):=by
 intro pins s σ H xs us Q I r h
 obtain⟨x,n,rfl,hn,hl,q⟩:=h
 obtain⟨u,rfl,ru⟩:=vals1 r
 obtain⟨t,rfl⟩:=(show∃t,u=Value.str x t from ru)
 exact PySem.W.KIN.call_text hn hl ⟨.int n,H,I.tok _,⟨_,rfl⟩,q⟩
def Vb:V→Option Int→Option Int→Hp→VK→Prop:=fun x lo hi H Q=>∃y,x= .str y∧y.length≤sizeLine∧Q (.str (Txt.slice y lo hi)) H
theorem j8:UP X Vb:=by
 intro pins s σ H x v vl vu lo hi sl Q I rx hs pl pu h
 obtain⟨y,rfl,hz,q⟩:=h
 obtain⟨t,rfl⟩:=(show∃t,v=Value.str y t from rx)
 refine⟨"str",_,F.slot_str_getitem.lookup,typeIs_str _ _ _,?_⟩
 cases pl with
 |none=>cases pu with
  |none=>exact wpAny_getItem_str_slice (l:=none) (u:=none) (st:=none) hs rfl (post_val_or_str ⟨Nat.le_trans (Txt.slice_le y _ _) hz,fun t' k=>⟨.str _,H,I.tok k,⟨t',rfl⟩,q⟩⟩)
  |int j uj=>exact wpAny_getItem_str_slice (l:=none) (u:=some (j,uj)) (st:=none) hs rfl (post_val_or_str ⟨Nat.le_trans (Txt.slice_le y _ _) hz,fun t' k=>⟨.str _,H,I.tok k,⟨t',rfl⟩,q⟩⟩)
 |int i ui=>cases pu with
  |none=>exact wpAny_getItem_str_slice (l:=some (i,ui)) (u:=none) (st:=none) hs rfl (post_val_or_str ⟨Nat.le_trans (Txt.slice_le y _ _) hz,fun t' k=>⟨.str _,H,I.tok k,⟨t',rfl⟩,q⟩⟩)
  |int j uj=>exact wpAny_getItem_str_slice (l:=some (i,ui)) (u:=some (j,uj)) (st:=none) hs rfl (post_val_or_str ⟨Nat.le_trans (Txt.slice_le y _ _) hz,fun t' k=>⟨.str _,H,I.tok k,⟨t',rfl⟩,q⟩⟩)
end
def Oq(x:Str):It:=⟨fun i _=>i<x.length,fun i H v H'=>H'=H∧∃c,x.cps[i]? =some c∧v= .str ⟨#[c]⟩,fun i _=>x.length≤i⟩
theorem CH{P:Program}{w:World}{K:PySem.W.Frag}{tg:Expr}(it:Addr)(x:Str)(t:Tok):
  Turn P w K tg (Oq x) [it] it (fun i h=>h.IsStrIter it "str_ascii_iterator" x t i) where
 mem:=by simp
 obj:=fun i h st b hb=>by
  have e:b=it:=by simpa using hb
  subst e
  obtain⟨o,e,c,d⟩:=st
  exact⟨o,e,fun v z=>by rw[d] at z;cases z⟩
 keep:=fun i h h' st k=>let ⟨o,ho,r⟩:=st;⟨o,k it (by simp) o ho,r⟩
 item:=by
  intro X hP hw hK hc i pins s σ H E I hf st hg
  subst hP hw hK
  have hg:i<x.cps.size:=hg
  obtain⟨f0,f1,f2,f3,f4,f5⟩:=hf it (by simp)
  refine wpAny_pyNext_ascii_item st (Array.getElem?_eq_getElem hg) fun h' Ir sb=>?_
  have I1:Inv X pins σ H { s with heap:=h',toks:=s.toks+1 }:=I.turned (t':=s.toks+1) (fun b o hb e=>(sb.2 b hb).trans e) f0 f1 f3 f4 f5
  obtain⟨oi,e,c,d⟩:=id Ir
  exact⟨_,rfl,Cj (s:={ s with heap:=h',toks:=s.toks+1 }) e c d (by decide) ⟨.str ⟨#[x.cps[i]]⟩,H,I1,⟨_,rfl⟩,⟨rfl,_,Array.getElem?_eq_getElem hg,rfl⟩,Ir,fun b hb=>(hf b hb).1⟩⟩
 done:=by
  intro X hP hw hK hc i pins s σ H E I hf st hg
  subst hP hw hK
  have hg:x.cps.size≤i:=hg
  obtain⟨f0,f1,f2,f3,f4,f5⟩:=hf it (by simp)
  exact wpAny_pyNext_ascii_end (I.ok.hd hc) st (Array.getElem?_eq_none hg) fun h' eb=>⟨rfl,I.turned (t':=s.toks) (fun b o hb e=>eb b o hb e) f0 f1 f3 f4 f5⟩
 self:=fun _ _ _ _ _ st h=>wpAny_pyIter_striter_ascii st h
section
variable {X:Cx}{tg:Expr}
def Vc(tl:TE):TI:=fun σ H R=>tl σ H fun v H1=>∃x,v= .str x∧x.cps.all (· <128)=true∧R (Oq x) H1
theorem CI{l:Expr}{tl:TE}(hl:PE X l tl):PI X tg l (Vc tl):=by
 intro pins s σ H R I h
 refine bN (hl pins s σ H _ I h) fun v s1 ⟨y,H1,I1,r1,x,e,ha,q⟩=>?_
 subst e
 obtain⟨t,rfl⟩:=(show∃t,v=Value.str x t from r1)
 refine wpAny_pyIter_ascii ha ?_
 refine⟨s1.heap.objs.size,[s1.heap.objs.size],_,_,_,rfl,I1.kept (t':=s1.toks) fun b o e=>Heap.get?_push_of_some _ e,CH _ x t,?_,fun b hb=>?_,q⟩
 ·exact⟨_,Heap.get?_push_size _ rfl,rfl,rfl⟩
 ·have e:b=s1.heap.objs.size:=by simpa using hb
  subst e
  exact I1.Ci (Nat.le_refl _) (I1.bF.fresh (Nat.le_refl _))
end
theorem F'{x:Str}{g:TG}{tb:TS}{D:Ends}{σ:St}{H:Hp}(Pv:Nat→St→Hp→Prop)(h0:Pv 0 σ H)
  (hs:∀i c σ H,x.cps[i]? =some c→Pv i σ H→g (.str ⟨#[c]⟩) σ H fun σ2 H2=>tb { D with nx:=Pv (i+1),ct:=Pv (i+1),bk:=D.nx } σ2 H2) (hd:∀σ H,Pv x.length σ H→D.nx σ H):
  ∃W:Nat→Nat→St→Hp→Prop,(∃m,W 0 m σ H)∧∀i m σ H,W i m σ H→
   ((Oq x).stop i H∧D.nx σ H)∨((Oq x).go i H∧∃N:St→Hp→Prop,(∀σ' H',N σ' H'→∃m',m'<m∧W (i+1) m' σ' H')∧∀v H',(Oq x).yQ i H v H'→g v σ H' fun σ2 H2=>tb { D with nx:=N,ct:=N,bk:=D.nx } σ2 H2):=by
 refine⟨fun i m σ H=>m+i=x.length∧Pv i σ H,⟨x.length,rfl,h0⟩,?_⟩
 rintro i m σ H ⟨hm,p⟩
 by_cases hi:i<x.length
 ·refine .inr ⟨hi,Pv (i+1),fun σ' H' q=>⟨m - 1,by omega,by omega,q⟩,?_⟩
  rintro v H' ⟨rfl,c,hc,rfl⟩
  exact hs i c σ _ hc p
 ·have e:i=x.length:=by omega
  subst e
  exact .inl ⟨Nat.le_refl _,hd σ H p⟩
end L2
namespace L2
open PySem PySem.Spec PyProof.Rows
section
variable {X:Cx}
end
end L2
namespace PySem.W
open PySem PySem.Calls PyProof.Rows PyProof.V PySem.Spec
section
variable {prog:Program}{w:World}{A:Around}{E:Value→Shared→Prop}{s:Shared}{T:String}{r d:Addr}{n:Nat}{P:Nat→Value→Prop}{OK:Heap→Prop}
end
end PySem.W
namespace L2
open PySem PySem.Spec PyProof.Rows PySem.W
section
variable {X:Cx}
end
section
variable {X:Cx}{pins:List (Addr×Obj)}{σ:St}{H:Hp}{s:Shared}{a b:Addr}{aL more:List (Key×V)}{A:Around}{E:Value→Shared→Prop}
end
section
variable {X:Cx}{o e:Expr}{apos iI:Pos}{td ty:TE}
end
end L2
namespace L2
open PySem PySem.Spec PyProof.Rows
end L2
namespace L2
open PySem PySem.Spec PyProof.Rows
end L2
namespace L2
open PySem PySem.Spec PyProof.Rows PySem.W
section
variable {X:Cx}
end
end L2
namespace L2
open PySem PySem.Spec PyProof.Rows
end L2
namespace L2
open PySem PySem.Spec PyProof.Rows
section
variable {X:Cx}
theorem oI:nz X (binaryOp .FloorDiv) (rI (fun _ j=>0<j∧j<18446744073709551616) fun i j=> .int (i/j)):=Tn fun i j _ _ _ _ _ hc q=>by
 have h1:(0 :Int) <j:=hc.1
 have h2:j<18446744073709551616:=hc.2
 refine floordiv_int (by omega) (by rw[Int.fdiv_eq_ediv_of_nonneg i (by omega)];exact q) (.inl (PyProof.noPylong_of_log2 ?_))
 have:=(Nat.log2_lt (n:=j.natAbs) (by omega) (k:=64)).mpr (by omega)
 omega
end
end L2
namespace L2
open PySem PySem.Spec PyProof.Rows
section
variable {X:Cx}
end
end L2
namespace L2
open PySem PySem.Spec PyProof.Rows
section
variable {X:Cx}
end
end L2
namespace PySem
structure Heap.j9(h:Heap)(e:Addr)(tb:Option Addr):Prop where
 ex:∃oe vs,h.get? e=some oe∧oe.data= .fields vs∧vs[1]? =some (tb.elim Value.none Value.ref)
 tr:∀T,tb=some T→T≠e∧∃oT ts,h.get? T=some oT∧oT.data= .fields ts∧3<ts.size
structure Heap.Moved(fs:List Addr)(e:Addr)(tb:Option Addr)(h h':Heap):Prop where
 keep:∀b o,h.get? b=some o→b≠e→tb≠some b→b∉fs→h'.get? b=some o
 slot:∀b o,h.get? b=some o→b≠e→tb≠some b→∃sl,h'.get? b=some { o with slots:=sl }
 self:∀o,h.get? e=some o→∃vs,h'.get? e=some { o with data:= .fields vs }
 ent:∀b o,tb=some b→b≠e→h.get? b=some o→∃o',h'.get? b=some o'
 size:h.objs.size≤h'.objs.size
 ctx:∀o vs,h.get? e=some o→o.data= .fields vs→∃AU,h'.get? e=some { o with data:= .fields AU }∧AU[2]? =vs[2]?
theorem Heap.Moved.there{fs:List Addr}{e:Addr}{tb:Option Addr}{h h':Heap}(m:Heap.Moved fs e tb h h')(b:Addr)(o:Obj)(q:h.get? b=some o):∃o',h'.get? b=some o':=by
 by_cases be:b=e
 ·subst be
  obtain⟨vs,z⟩:=m.self o q
  exact⟨_,z⟩
 ·by_cases bt:tb=some b
  ·exact m.ent b o bt be q
  ·obtain⟨sl,z⟩:=m.slot b o q be bt
   exact⟨_,z⟩
theorem Heap.Moved.refl{fs:List Addr}{e:Addr}{tb:Option Addr}{h:Heap}(x:h.j9 e tb):Heap.Moved fs e tb h h:=
 ⟨fun _ _ q _ _ _=>q,fun _ o q _ _=>⟨o.slots,q⟩,fun o q=>by
  obtain⟨oe,vs,he,hd,_⟩:=x.ex
  rw[q] at he
  cases he
  exact⟨vs,by rw[q,←hd]⟩,fun _ o _ _ q=>⟨o,q⟩,Nat.le_refl _,fun o vs q d=>⟨vs,by rw[q,←d],rfl⟩⟩
theorem Heap.Moved.trans{fs:List Addr}{e:Addr}{tb tb':Option Addr}{h h1 h2:Heap}(x:Heap.Moved fs e tb h h1)(y:Heap.Moved fs e tb' h1 h2)(n:∀T,tb'=some T→tb=some T∨h.objs.size≤T):Heap.Moved fs e tb h h2 where
 keep:=fun b o q be bt bf=>y.keep b o (x.keep b o q be bt bf) be (fun z=>(n b z).elim bt fun w=>absurd (Heap.lt_size q) (Nat.not_lt.mpr w)) bf
 slot:=fun b o q be bt=>by
  obtain⟨sl,z⟩:=x.slot b o q be bt
  obtain⟨Kb,z'⟩:=y.slot b _ z be (fun z=>(n b z).elim bt fun w=>absurd (Heap.lt_size q) (Nat.not_lt.mpr w))
  exact⟨Kb,z'⟩
 self:=fun o q=>by
  obtain⟨vs,z⟩:=x.self o q
  obtain⟨AU,z'⟩:=y.self _ z
  exact⟨AU,z'⟩
 ent:=fun b o _ be q=>by
  obtain⟨o1,z⟩:=x.there b o q
  exact y.there b o1 z
 size:=Nat.le_trans x.size y.size
 ctx:=fun o vs q d=>by
  obtain⟨v1,z1,c1⟩:=x.ctx o vs q d
  obtain⟨v2,z2,c2⟩:=y.ctx _ v1 z1 rfl
  exact⟨v2,z2,c2.trans c1⟩
theorem Heap.Moved.mono{fs Fz:List Addr}{e:Addr}{tb:Option Addr}{h h':Heap}(x:Heap.Moved fs e tb h h')(k:∀b∈fs,b∈Fz):Heap.Moved Fz e tb h h':=
 ⟨fun b o q be bt bf=>x.keep b o q be bt fun z=>bf (k b z),x.slot,x.self,x.ent,x.size,x.ctx⟩
theorem kK{o:Obj}{vs:Array Value}(hd:o.data= .fields vs)(f:Array Value→Array Value):o.mapFields f={ o with data:= .fields (f vs) }:=by
 obtain⟨a,b,c,d⟩:=o
 cases hd
 rfl
section
variable {M:Model}{A:Around}{E:Value→Shared→Prop}{s:Shared}
theorem vb{base:Heap}{env:Env}{outer:List Env}{L e:Addr}{oe:Obj}{vs:Array Value}{Vd:Value}{nx:Bool}{Q:Unit→Shared→Prop}(fr:A.frames=some (env::outer))(fl:s.heap.FunFrames base (env::outer))(hL:env.frame=some L)
  (xe:s.heap.get? e=some oe) (xd:oe.data= .fields vs) (xs:1<vs.size)
  (k:∀h' T,h'.j9 e (some T)→s.heap.objs.size≤T→Heap.Moved ((env::outer).filterMap (·.frame)) e none s.heap h'→Q () { s with heap:=h' }):
  wpAny M A (do let a←frameOf env;let pl←entryPlaceOf L nx;let b←EntryCells.newEntry Vd a .none (rawInt L) .none pl;setField (.ref e) 1 b) Q E s:=by
 have ene:e∉(env::outer).filterMap (·.frame):=fun z=>by
  obtain⟨_,o,q,nf⟩:=fl.mem z
  rw[xe] at q
  cases q
  exact nf vs xd
 refine wpAny_bind (wpAny_frameOf_fun fr fl hL fun g1 so=>?_)
 refine wpAny_bind (wpAny_entryPlaceOf fun pl ok=>?_)
 unfold EntryCells.newEntry newFields
 refine wpAny_bind (wpAny_newObj_type ?_ (ok.sizeOk5 _ _ _ _ _))
 have e1:g1.get? e=some oe:=(so.2.1 e ene).trans xe
 generalize hO:({ cls:= .type "traceback",dict:=none,data:= .fields ([Vd, .ref L, .none,rawInt L, .none]++(if pl.isEmpty then List.replicate 6 Value.none else pl)).toArray }:Obj)=ob
 have e2:=Heap.get?_push_of_some (h:=g1) ob e1
 refine wpAny_setField e2 xd xs ?_
 have Te:g1.objs.size≠e:=Nat.ne_of_gt (Heap.lt_size e1)
 have nf:ob.isFreed=false:=by rw[←hO];rfl
 have eT:(g1.push ob).get? g1.objs.size=some ob:=Heap.get?_push_size g1 nf
 have e3:=Heap.get?_update_self (Obj.mapFields (·.setIfInBounds 1 (Value.ref g1.objs.size))) e2 (Obj.isFreed_of_fields (Obj.data_mapFields xd _))
 refine k _ g1.objs.size ⟨⟨_,_,e3,Obj.data_mapFields xd _,by simp [xs]⟩,fun T z=>?_⟩ (Nat.le_of_eq so.1.symm) ⟨fun b o q be _ bf=>?_,fun b o q be _=>?_,fun o q=>?_,fun b o z=>(by cases z),?_,fun o us q d=>?_⟩
 ·cases z
  refine⟨Te,ob,([Vd, .ref L, .none,rawInt L, .none]++(if pl.isEmpty then List.replicate 6 Value.none else pl)).toArray,?_,by rw[←hO],by simp only [List.size_toArray,List.length_append,List.length_cons,List.length_nil];omega⟩
  rw[Heap.get?_update_other _ _ (Ne.symm Te)]
  exact eT
 ·rw[Heap.get?_update_other _ _ (Ne.symm be)]
  exact Heap.get?_push_of_some _ ((so.2.1 b bf).trans q)
 ·obtain⟨sl,z⟩:=so.2.2 b o q
  refine⟨sl,?_⟩
  rw[Heap.get?_update_other _ _ (Ne.symm be)]
  exact Heap.get?_push_of_some _ z
 ·rw[xe] at q
  cases q
  exact⟨_,e3.trans (by rw[kK xd])⟩
 ·show s.heap.objs.size≤((g1.push ob).update e _).objs.size
  rw[Heap.size_after_update,Heap.size_push,←so.1]
  exact Nat.le_succ _
 ·rw[xe] at q
  cases q
  rw[xd] at d
  cases d
  exact⟨_,e3.trans (by rw[kK xd]),by simp⟩
theorem eK{e:Addr}{tb fr:Option Addr}{Q:Unit→Shared→Prop}(x:s.heap.j9 e tb)(k:∀h',h'.j9 e tb→Heap.Moved [] e tb s.heap h'→Q () { s with heap:=h' }):wpAny M A (setFlight (.ref e) fr) Q E s:=by
 obtain⟨oe,vs,he,hd,h1⟩:=x.ex
 unfold setFlight
 refine wpAny_bind (wpAny_field he hd h1 ?_)
 cases tb with
 |none=>
  rw[if_neg (by decide)]
  exact wpAny_pure (k _ x (.refl x))
 |some T=>
  obtain⟨ne,oT,ts,hT,dT,sz⟩:=x.tr T rfl
  rw[if_pos (show ((some T).elim Value.none Value.ref != Value.none)=true from by simp)]
  generalize (fr.elim Value.none fun f=>rawInt f)=v3
  refine wpAny_setField hT dT sz ?_
  have AV:(s.heap.update T (Obj.mapFields (·.setIfInBounds 3 v3))).get? e=some oe:=(Heap.get?_update_other _ _ ne).trans he
  have Tt:=Heap.get?_update_self (Obj.mapFields (·.setIfInBounds 3 v3)) hT (Obj.isFreed_of_fields (Obj.data_mapFields dT _))
  refine k _ ⟨⟨oe,vs,AV,hd,h1⟩,fun T' z=>?_⟩ ⟨fun b o q _ bt _=>?_,fun b o q _ bt=>⟨o.slots,?_⟩,fun o q=>?_,fun b o z _ _=>?_,?_,fun o us q d=>?_⟩
  ·cases z
   exact⟨ne,_,_,Tt,Obj.data_mapFields dT _,by simp [sz]⟩
  ·exact(Heap.get?_update_other _ _ fun z=>bt (by rw[z])).trans q
  ·exact(Heap.get?_update_other _ _ fun z=>bt (by rw[z])).trans q
  ·rw[he] at q
   cases q
   exact⟨vs,by rw[AV,←hd]⟩
  ·cases z
   exact⟨_,Tt⟩
  ·show s.heap.objs.size≤(s.heap.update T _).objs.size
   rw[Heap.size_after_update]
   exact Nat.le_refl _
  ·rw[he] at q
   cases q
   exact⟨us,by rw[AV,←d],rfl⟩
theorem kL{base:Heap}{env:Env}{outer:List Env}{L e:Addr}{tb:Option Addr}{Q:Unit→Shared→Prop}(fr:A.frames=some (env::outer))(fl:s.heap.FunFrames base (env::outer))(hL:env.frame=some L)(x:s.heap.j9 e tb)
  (k:∀h' T,h'.j9 e (some T)→tb=some T∨s.heap.objs.size≤T→Heap.Moved ((env::outer).filterMap (·.frame)) e tb s.heap h'→Q () { s with heap:=h' }):wpAny M A (noteFrame (.ref e) env) Q E s:=by
 obtain⟨oe,vs,he,hd,h1⟩:=id x.ex
 have sz1:1<vs.size:=(Array.getElem?_eq_some_iff.mp h1).1
 unfold noteFrame
 simp only [hL]
 refine wpAny_bind (wpAny_field he hd h1 ?_)
 cases tb with
 |none=>
  rw[if_neg (by decide)]
  exact vb fr fl hL he hd sz1 fun h' T a b c=>k h' T a (.inr b) c
 |some T=>
  obtain⟨ne,oT,ts,hT,dT,sz⟩:=x.tr T rfl
  rw[if_pos (show ((some T).elim Value.none Value.ref != Value.none)=true from by simp)]
  have h3:ts[3]? =some ts[3]:=Array.getElem?_eq_getElem sz
  refine wpAny_bind (wpAny_field hT dT h3 ?_)
  by_cases c:(ts[3]==rawInt L)=true
  ·rw[if_pos c]
   exact wpAny_pure (k _ T x (.inl rfl) (.refl x))
  ·rw[if_neg c]
   refine wpAny_bind (wpAny_setField hT dT sz ?_)
   have ot:∀b,b≠T→(s.heap.update T (Obj.mapFields (·.setIfInBounds 3 Value.none))).get? b=s.heap.get? b:=fun b z=>Heap.get?_update_other _ _ (Ne.symm z)
   have Tt:=Heap.get?_update_self (Obj.mapFields (·.setIfInBounds 3 Value.none)) hT (Obj.isFreed_of_fields (Obj.data_mapFields dT _))
   have zs:(s.heap.update T (Obj.mapFields (·.setIfInBounds 3 Value.none))).objs.size=s.heap.objs.size:=Heap.size_after_update ..
   refine vb (s:={ s with heap:=s.heap.update T (Obj.mapFields (·.setIfInBounds 3 Value.none)) }) fr (fl.of_keeps fun b o q nf=>⟨o,(ot b fun z=>?_).trans q,rfl⟩) hL ((ot e (Ne.symm ne)).trans he) hd sz1 fun h' T' a b c=>k h' T' a (.inr (by rw[←zs];exact b)) ?_
   ·rw[z,hT] at q
    cases q
    exact nf ts dT
   ·refine⟨fun b o q be bt bf=>c.keep b o ((ot b fun z=>bt (by rw[z])).trans q) be (fun z=>by cases z) bf,fun b o q be bt=>c.slot b o ((ot b fun z=>bt (by rw[z])).trans q) be fun z=>(by cases z),fun o q=>c.self o ((ot e (Ne.symm ne)).trans q),fun b o z be q=>?_,?_,fun o us q d=>c.ctx o us ((ot e (Ne.symm ne)).trans q) d⟩
    ·cases z
     exact c.there _ _ Tt
    ·rw[←zs]
     exact c.size
theorem CJ{base:Heap}{env:Env}{outer:List Env}{L e:Addr}{tb:Option Addr}{Q:Unit→Shared→Prop}(fr:A.frames=some (env::outer))(fl:s.heap.FunFrames base (env::outer))(hL:env.frame=some L)(x:s.heap.j9 e tb)
  (k:∀h' T,h'.j9 e (some T)→tb=some T∨s.heap.objs.size≤T→Heap.Moved ((env::outer).filterMap (·.frame)) e tb s.heap h'→Q () { s with heap:=h' }):wpAny M A («leaving» env (.ref e)) Q E s:=by
 unfold «leaving»
 refine wpAny_bind (kL fr fl hL x fun h1 T a b c=>eK (s:={ s with heap:=h1 }) a fun h2 a' c'=>k h2 T a' b (c.trans (c'.mono fun _ z=>absurd z (by simp)) fun T' z=>?_))
 cases z
 exact b
theorem zf{env:Env}{e T:Addr}{Q:Unit→Shared→Prop}(x:s.heap.j9 e (some T))(k:∀h',h'.j9 e (some T)→Heap.Moved [] e (some T) s.heap h'→Q () { s with heap:=h' }):
  wpAny M A (do
   if (←field (.ref e) 1)== .none then unsupported "frame.own-activation:exception-without-traceback"
   setFlight (.ref e) env.frame) Q E s:=by
 obtain⟨oe,vs,he,hd,h1⟩:=id x.ex
 refine wpAny_bind (wpAny_field he hd h1 ?_)
 rw[if_neg (by simp)]
 exact eK x k
end
end PySem
namespace PySem.W
open PySem PySem.Calls PyProof.Rows PySem.Builtin PySem.Builtin.ObjectAttr
abbrev pZ:List Value:=[.type "ValueError", .type "Exception", .type "BaseException", .type "object"]
structure cH(K:Frag)(C HE f:Addr):Prop where
 obj:∃(nm q:Str) (N:Addr) (bs:List Value) (sn:List Str) (sub:List Value) (ab:Bool) (col:Option Bool) (dd:Option Addr) (k0 k1 k2 k3 k5:Option Value),
  K.lookup C=some (excClassObj nm q C N bs (.ref HE::pZ) true sn sub ab col dd k0 k1 k2 k3 k5 "ValueError.__new__")
 init:findIn K (.ref C) "__init__" =some (some (.ref f))
 fn:typeIn K (.ref f)=some (.type "function")
 sa:findIn K (.ref C) "__setattr__" =some (some (.builtin "object.__setattr__"))
 ga:findIn K (.ref C) "__getattribute__" =some (some (.builtin "BaseException.__getattribute__"))
 gh:findIn K (.ref C) "__getattr__" =some none
theorem f7{C HE:Addr}{T:String}{b:Bool}(h:pZ.contains (.type T)=b):(Value.ref C:: .ref HE::pZ).contains (.type T)=b:=by
 rw[List.contains_cons,List.contains_cons,h]
 rfl
section
variable {prog:Program}{w:World}{A:Around}{E:Value→Shared→Prop}{R:Result→Shared→Prop}{h:Heap}{g:Array GenState}{d:Drawn}{t:Nat}{os:OsState}
variable {nm q:Str}{C N HE:Addr}{bs:List Value}{sn:List Str}{sub:List Value}{ab:Bool}{col:Option Bool}{dd:Option Addr}{k0 k1 k2 k3 k5:Option Value}
abbrev jO(vs:List Value):Obj:={ cls:= .type "tuple",data:= .seq vs.toArray }
abbrev i9(C t:Addr):Obj:={ cls:= .ref C,data:= .fields #[.ref t, .none, .none, .none, .bool false, .none] }
theorem sI{M:Model}{rest:List Value}{Q:Unit→Shared→Prop}(kC:h.get? C=some (excClassObj nm q C N bs (.ref HE::pZ) true sn sub ab col dd k0 k1 k2 k3 k5 "ValueError.__new__"))
  (z:Q () ⟨h,g,d,t,os⟩):wpAny M A (checkBuiltinCall "ValueError.__new__" ⟨.ref C::rest,[]⟩) Q E ⟨h,g,d,t,os⟩:=by
 have F:=PySem.F.excBase_ValueError
 have c1:(Value.ref C:: .ref HE::pZ).contains (.type "ValueError")=true:=f7 (by decide+kernel)
 have f0:=F.noStar
 simp only [checkBuiltinCall,F.newKind,F.newSplit,F.newRow]
 repeat (first|refine wpAny_loadPart_at kC ?_| (refine wpAny_isSubtype_exc kC ?_;rw[c1]) |refine wpAny_staticBase_exc kC ?_|refine wpAny_madeBy_exc kC ?_|simp only [bne_self_eq_false,Bool.false_eq_true,if_false] |wp_step)
 exact z
theorem K4{rest:List Value}(kC:h.get? C=some (excClassObj nm q C N bs (.ref HE::pZ) true sn sub ab col dd k0 k1 k2 k3 k5 "ValueError.__new__"))
  (z:R (.ok (.ret (.ref (h.objs.size+1)))) ⟨(h.push (jO rest)).push (i9 C h.objs.size),g,d,t,os⟩) (hz:rest.length≤sizeLine):
  codeAny (model prog w) A (.builtin "ValueError.__new__" ⟨.ref C::rest,[]⟩) R ⟨h,g,d,t,os⟩:=by
 have F:=PySem.F.excBase_ValueError
 have f0:=F.ends
 have c1:(Value.ref C:: .ref HE::pZ).contains (.type "ValueError")=true:=f7 (by decide+kernel)
 have c2:(Value.ref C:: .ref HE::pZ).contains (.type "AttributeError")=false:=f7 (by decide+kernel)
 have c3:(Value.ref C:: .ref HE::pZ).contains (.type "NameError")=false:=f7 (by decide+kernel)
 refine codeAny_builtinAt F.entry ?_
 unfold Builtin.«BaseException.__new__»
 refine wpAt_bind ?_
 show wpAt _ _ _ (stack >>= _) _ _ _
 refine wpAt_bind (wpAt_stack fun p below=>wpAt_of_wpAny ?_)
 wp_walk
 refine wpAt_of_wpAny ?_
 rw[F.owner]
 repeat (first|with_reducible refine wpAny_madeHere_exc F.canon kC ?_|with_reducible refine wpAny_loadPart_at kC ?_| (with_reducible refine wpAny_isSubtype_exc kC ?_;first|rw[c1] |rw[c2] |rw[c3]) |wp_step)
 show R _ _
 rw[Heap.size_push]
 exact z
end
section
variable {prog:Program}{w:World}{A:Around}{E:Value→Shared→Prop}{R:Result→Shared→Prop}{s:Shared}{K:Frag}{C HE f:Addr}
theorem zg{vs:List Value}(X:K.In s.heap)(Z:cH K C HE f)(hz:vs.length≤sizeLine)
  (k:codeAny (model prog w) (A.under (.builtin "type.__call__" ⟨.ref C::vs,[]⟩)) (.call (.ref f) ⟨.ref (s.heap.objs.size+1)::vs,[]⟩) (InitBack (s.heap.objs.size+1) R) { s with heap:=(s.heap.push (jO vs)).push (i9 C s.heap.objs.size) }):
  codeAny (model prog w) A (.call (.ref C) ⟨vs,[]⟩) R s:=by
 obtain⟨hp,g,d,t,os⟩:=s
 obtain⟨nm,q,N,bs,sn,sub,ab,col,dd,k0,k1,k2,k3,k5,hK⟩:=Z.obj
 have kC:=X _ _ hK
 have F:=PySem.F.excBase_ValueError
 have f1:=tc_lookup
 have f2:=tc_bind (.ref C)
 have hT:(⟨hp,g,d,t,os⟩:Shared).TypeIs (.ref C) "type" :=⟨_,kC,rfl⟩
 refine codeAny_of_tree ?_
 show wpAny _ _ (callAny (.ref C) _) _ _ _
 repeat (any_goals (first|assumption|with_reducible refine wpAny_loadPart_at kC ?_|wp_step))
 refine⟨rfl,?_⟩
 refine codeAny_call_builtin_at (Code.quiet_builtin _ (by decide+kernel)) entry_typeCall (wpAny_check_type_call_sub kC ?_)
 repeat (first|with_reducible refine wpAny_loadPart_at kC ?_|with_reducible refine wpAny_madeBy_exc kC ?_|wp_step)
 refine codeAny_call_builtin_code (Code.quiet_builtin _ F.quiet) (sI kC ?_)
 refine K4 kC ?_ hz
 show wpAny _ _ _ _ _ _
 have keeps:∀b o,hp.get? b=some o→((hp.push (jO vs)).push (i9 C hp.objs.size)).get? b=some o:=fun b o e=>Heap.get?_push_of_some _ (Heap.get?_push_of_some _ e)
 have kC1:=keeps _ _ kC
 have X1:K.In ((hp.push (jO vs)).push (i9 C hp.objs.size)):=fun b o e=>keeps b o (X b o e)
 have eg:((hp.push (jO vs)).push (i9 C hp.objs.size)).get? (hp.objs.size+1)=some (i9 C hp.objs.size):=by heap_get
 have c0:(Value.ref C:: .ref HE::pZ).contains (.ref C)=true:=by simp
 unfold isInstance
 repeat (first|with_reducible refine wpAny_loadPart_at eg ?_|wp_step)
 show wpAny _ _ (isSubtype (.ref C) (.ref C)) _ _ _
 refine wpAny_isSubtype_exc kC1 ?_
 rw[c0]
 repeat (first|with_reducible refine wpAny_loadPart_at eg ?_|wp_step)
 show wpAny _ _ (typeLookup (.ref C) _) _ _ _
 refine looks_findIn X1 Z.init _ _ _ _ (fun _ _ e=>e) ?_
 refine wpAny_holding (wpAny_bind (bind_fn X1 _ Z.fn _ _ _ _ (fun _ _ e=>e) ?_))
 refine wpAny_bind (wpAny_call (codeAny_mono k fun r s' y=>?_))
 cases r with
 |error z=>exact y
 |ok fl=>
  cases fl with
  |ret u=>
   obtain⟨eu,y⟩:=y
   subst eu
   exact wpAny_pure (wpAny_pure y)
  |next=>exact y.elim
  |brk=>exact y.elim
  |cont=>exact y.elim
end
section
variable {prog:Program}{w:World}{A:Around}{E:Value→Shared→Prop}{R:Result→Shared→Prop}{s:Shared}{K:Frag}{C HE f e:Addr}{ox:Obj}{od:Option Obj}{vs:Array Value}{name:Str}{v:Value}{tk:Tok}
theorem cH.cd(Z:cH K C HE f):∃cd,clsIn K C=some cd∧cd.mro= .ref C:: .ref HE::pZ∧cd.hasDict=true:=by
 obtain⟨nm,q,N,bs,sn,sub,ab,col,dd,k0,k1,k2,k3,k5,hK⟩:=Z.obj
 exact⟨_,by unfold clsIn;rw[hK],rfl,rfl⟩
theorem cH.mro(Z:cH K C HE f){T:String}{b:Bool}(h:pZ.contains (.type T)=b):mroIn K C (.type T)=some b:=by
 obtain⟨cd,a,m,_⟩:=Z.cd
 unfold mroIn
 rw[a,Option.bind_some,m,f7 h]
 rfl
theorem CK(X:K.In s.heap)(Z:cH K C HE f)(I:InstAt s.heap e ox C od)(ht:takerIn K C name=some none)
  (k:∀b,wpAny (model prog w) A.in1 (storeInOwnDict (.ref e) (.ref C) (.str name tk) name v b)
   (fun fin s'=>match fin with| .done f=>R (.ok f) s'| .again c'=>c'.quiet=true∧codeAny (model prog w) A c' R s') (fun e s'=>R (.error e) s') s):
  codeAny (model prog w) A (.call (.builtin "object.__setattr__") ⟨[.ref e, .str name tk,v],[]⟩) R s:=by
 have SO:=PySem.F.store_object
 obtain⟨cd,hc,hm,_⟩:=Z.cd
 have sub:Looks (model prog w) s.heap (isInstance (.ref e) (.type "object")) true:=I.type.andThen (looks_mroIn X (Z.mro (by decide+kernel)))
 refine codeAny_call_builtin SO.slot.plain SO.entry (@check_slot (model prog w) _ _ s "object.__setattr__" "object" "__setattr__" (.ref e) [.str name tk,v] [] _ SO.kind SO.split sub (SO.args (.ref e) (.str name tk) v) ?_)
 obtain⟨attr,ha,hr⟩:=Option.bind_eq_some_iff.mp ht
 have lm:Looks (model prog w) s.heap (mroOf (.ref C)) cd.mro:=(looks_clsIn X hc).andThen .now
 have l3:Looks (model prog w) s.heap (storeTaker? attr) none:=by
  cases attr with
  |none=>exact .now
  |some a=>
   obtain⟨b,hb,eb⟩:=Option.map_eq_some_iff.mp hr
   refine(looks_takesIn X hb).andThen ?_
   cases b with
   |true=>cases eb
   |false=>exact .now
 rw[osa_eq,refuse_eq]
 refine wpAny_bind (wpAny_bind (I.type.here (wpAny_bind (lm.here ?_))))
 rw[hm,refuseLoop_ref,refuseLoop_ref,PySem.F.store_ValueError.passes]
 exact wpAny_pure (wpAny_bind (I.type.here (wpAny_bind ((looks_findIn X ha).here (wpAny_bind (l3.here (k _)))))))
theorem Ga{Q:Unit→Shared→Prop}(X:K.In s.heap)(Z:cH K C HE f)(ht:takerIn K C name=some none)(hx:s.heap.get? e=some ox)(hc:ox.cls= .ref C)(hd:ox.data= .fields vs)(hn:ox.dict=none)
  (k:∀h' Ve,h'.get? e=some { ox with dict:=some s.heap.objs.size }→h'.Ns1 s.heap.objs.size (fun y=>if y=name then some v else none)→(∀b o,b≠e→s.heap.get? b=some o→h'.get? b=some o)→Q () { s with heap:=h',toks:=Ve }):
  wpAny (model prog w) A (setAttr (.ref e) name v) Q E s:=by
 have I:InstAt s.heap e ox C none:=⟨hx,hc,by unfold notCls;rw[hd],by rw[hn];trivial⟩
 obtain⟨cd,mZ,_,hh⟩:=Z.cd
 refine set_plain X I Z.sa (CK (s:={ s with toks:=s.toks+1 }) X Z I ht fun b=>?_)
 obtain⟨oc,M4,Tu,nD⟩:=ox
 dsimp only at hc hd hn
 subst hc hd hn
 refine wpAny_bind (wpAny_pure (wpAny_bind (wpAny_bind (wpAny_loadPart hx (wpAny_bind (Looks.here (s:={ s with toks:=s.toks+1 }) (looks_clsIn X mZ) ?_))))))
 rw[hh]
 have xs:e≠s.heap.objs.size:=Nat.ne_of_lt (Heap.lt_size hx)
 rw[if_neg (by decide)]
 have hx1:=Heap.get?_push_of_some (h:=s.heap) { cls:= .type "dict",data:= .dict #[] } hx
 refine wpAny_bind (wpAny_alloc' (wpAny_bind (wpAny_update' hx1 (wpAny_pure ?_))))
 generalize hG:(s.heap.push { cls:= .type "dict",data:= .dict #[] }).update e (fun o=>{ cls:=o.cls,dict:=some s.heap.objs.size,data:=o.data,slots:=o.slots })=G
 have gd:G.get? s.heap.objs.size=some { cls:= .type "dict",data:= .dict #[] }:=by
  rw[←hG]
  exact(Heap.get?_update_ne _ _ _ _ (Ne.symm xs)).trans (Heap.get?_push_at rfl rfl)
 have gx:G.get? e=some { cls:= .ref C,dict:=some s.heap.objs.size,data:= .fields vs,slots:=nD }:=by
  rw[←hG]
  exact Heap.get?_update_self _ hx1 rfl
 have go:∀b o,b≠e→s.heap.get? b=some o→G.get? b=some o:=fun b o be q=>by
  rw[←hG]
  exact(Heap.get?_update_ne _ _ _ _ be).trans (Heap.get?_push_of_some _ q)
 have gn:G.Ns s.heap.objs.size (fun _=>none):=⟨_,#[],_,gd,rfl,fun y hy=>absurd hy (by simp),fun _=>rfl⟩
 show wpAny _ _ (storeInDict s.heap.objs.size (.str name s.toks) name v) _ _ { s with heap:=G,toks:=s.toks+1 }
 unfold storeInDict newKeyGuard
 refine wpAny_bind (wpAny_pure (wpAny_bind (wpAny_nsSet1 (s:={ s with heap:=G,toks:=s.toks+1 }) (Heap.Ns1.of_empty gn) fun h' n2 s2=>?_)))
 obtain⟨o2,e2,p2,q2,d2,c2⟩:=n2.count (PySem.Within.cons name v PySem.Within.nil)
 refine wpAny_bind (wpAny_lookBehind q2 (by rw[d2];exact pastItsLine_dict (Nat.le_trans c2 (by rw[List.length_cons,List.length_nil,sizeLine_eq];omega))) ?_)
 exact wpAny_pure (k _ _ ((s2.2 e xs).trans gx) n2 fun b o be q=>(s2.2 b (Nat.ne_of_lt (Heap.lt_size q))).trans (go b o be q))
theorem Gb{Q:Unit→Shared→Prop}{dx:Addr}{mA:Str→Option Value}{ns:List Str}(X:K.In s.heap)(Z:cH K C HE f)(ht:takerIn K C name=some none)(hx:s.heap.get? e=some ox)(hc:ox.cls= .ref C)(hd:ox.data= .fields vs)(hn:ox.dict=some dx)
  (N1:s.heap.Ns1 dx mA) (hw:PySem.Within mA ns) (hsz:ns.length≤1000)
  (k:∀h',h'.Ns1 dx (fun y=>if y=name then some v else mA y)→Heap.SameBut dx s.heap h'→Q () { s with heap:=h',toks:=s.toks+2 }):
  wpAny (model prog w) A (setAttr (.ref e) name v) Q E s:=by
 obtain⟨oD,ed,pd,hod,dD,_⟩:=id N1
 have I:InstAt s.heap e ox C (some oD):=⟨hx,hc,by unfold notCls;rw[hd],by rw[hn];exact hod⟩
 obtain⟨cd,mZ,_,hh⟩:=Z.cd
 refine set_plain X I Z.sa (CK (s:={ s with toks:=s.toks+1 }) X Z I ht fun b=>?_)
 obtain⟨oc,M4,Tu,nD⟩:=ox
 dsimp only at hc hd hn
 subst hc hd hn
 refine wpAny_bind (wpAny_pure (wpAny_bind (wpAny_bind (wpAny_loadPart hx (wpAny_bind (Looks.here (s:={ s with toks:=s.toks+1 }) (looks_clsIn X mZ) ?_))))))
 rw[hh]
 refine wpAny_pure (a:=some dx) (wpAny_bind (wpAny_pure (wpAny_bind ?_)))
 refine wpAny_nsSet1 (s:={ s with toks:=s.toks+1 }) N1 fun h' n2 s2=>?_
 obtain⟨o2,e2,p2,q2,d2,c2⟩:=n2.count (PySem.Within.cons name v hw)
 refine wpAny_bind (wpAny_lookBehind q2 (by rw[d2];exact pastItsLine_dict (Nat.le_trans c2 (by rw[List.length_cons,sizeLine_eq];omega))) ?_)
 exact wpAny_pure (k _ n2 s2)
theorem K5{Q:Value→Shared→Prop}{expr:Bool}(X:K.In s.heap)(Z:cH K C HE f)(I:InstAt s.heap e ox C od)(hf:findObj K C od name=some (.value v))(hh:handedIn v=true)(k:Q v { s with toks:=s.toks+1 }):
  wpAny (model prog w) A (getAttr (.ref e) name expr) Q E s:=by
 have T0:=I.type (M:=model prog w)
 have SG:=PySem.F.attr_ValueError.ga
 refine wpAny_bind (wpAny_mkText (wpAny_holding (wpAny_bind (T0 _ _ _ _ (fun _ _ y=>y) (wpAny_bind (looks_findIn X Z.ga _ _ _ _ (fun _ _ y=>y) ?_))))))
 dsimp only
 rw[show (onTheHeap (Value.ref C)&&Value.builtin "BaseException.__getattribute__" ==Value.builtin "object.__getattribute__")=false from by rw[show (Value.builtin "BaseException.__getattribute__" ==Value.builtin "object.__getattribute__")=false from by decide+kernel,Bool.and_false],if_neg (by decide)]
 refine wpAny_bind (looks_hook X (show (if onTheHeap (Value.ref C) then findIn K (.ref C) "__getattr__" else some none)=some none from Z.gh) _ _ _ _ (fun _ _ y=>y) (wpAny_bind (wpAny_attempt (wpAny_holding ?_))))
 unfold callGetattribute
 rw[show (expr&&onTheHeap (Value.builtin "BaseException.__getattribute__"))=false from Bool.and_false _,if_neg (by decide)]
 unfold boundAndCalled
 rw[SG.bind]
 refine wpAny_bind (wpAny_pure ?_)
 show wpAny _ _ (call (.builtin "BaseException.__getattribute__") [.ref e, .str name s.toks]) _ _ _
 refine wpAny_call (codeAny_call_builtin SG.plain PySem.F.entry_bexc_ga ?_)
 refine @check_slot (model prog w) _ _ { s with toks:=s.toks+1 } "BaseException.__getattribute__" "BaseException" "__getattribute__" (.ref e) [.str name s.toks] [] _ (by decide+kernel) (by decide+kernel) (T0.andThen (looks_mroIn X (Z.mro (by decide+kernel)))) (PySem.F.args_bexc_ga _ _) ?_
 have l1:=looks_find (M:=model prog w) X I hf
 unfold Builtin.«object.__getattribute__»
 refine wpAny_bind (wpAny_of_eq (a:=(Value.ref e,[Value.str name s.toks])) rfl ?_)
 refine wpAny_bind (wpAny_pure (a:=name) (wpAny_bind (T0 _ _ _ _ (fun _ _ y=>y) (wpAny_bind (l1 _ _ _ _ (fun _ _ y=>y) (wpAny_pure ?_))))))
 show wpAny _ _ (handedOut v) _ _ _
 rw[handedOut_of hh]
 exact wpAny_pure k
end
section
variable {M:Model}{A:Around}{E:Value→Shared→Prop}{s:Shared}{K:Frag}{env:Env}
theorem CL{x:Sem Value}{Q:Flow→Shared→Prop}(ha:A.handled=none)
  (k:wpAny M A x (fun v s1=>∃e oe vs C HE f,v= .ref e∧K.In s1.heap∧cH K C HE f∧s1.heap.get? e=some oe∧oe.cls= .ref C∧oe.data= .fields vs∧vs[1]? =some .none∧E (.ref e) s1) E s):wpAny M A (raiseStmt env (some x) none) Q E s:=by
 unfold raiseStmt
 refine wpAny_bind (wpAny_mono k (fun v s1 y=>?_) fun _ _ y=>y)
 obtain⟨e,oe,vs,C,HE,f,rfl,X,Z,he,hc,hd,h1,hE⟩:=y
 have cB:(Value.ref C:: .ref HE::pZ).contains (.type "BaseException")=true:=f7 (by decide+kernel)
 obtain⟨nm,q,N,bs,sn,sub,ab,col,dd,k0,k1,k2,k3,k5,hK⟩:=Z.obj
 have kC:=X _ _ hK
 obtain⟨hp,g,d,tk,os⟩:=s1
 obtain⟨oc,M4,Tu,nD⟩:=oe
 dsimp only at hc hd
 subst hc hd
 repeat (first|with_reducible refine wpAny_loadPart_at he ?_|with_reducible refine wpAny_loadPart_at kC ?_| (with_reducible refine wpAny_isSubtype_exc kC ?_;rw[cB]) |wp_step)
 rw[h1]
 refine wpAny_pure ?_
 rw[if_neg (by decide)]
 exact wpAny_pure (wpAny_raiseNew_none ha hE)
end
section
variable {prog:Program}{w:World}{A:Around}{E:Value→Shared→Prop}{s:Shared}{K:Frag}{C HE f e:Addr}{ox:Obj}{vs:Array Value}
theorem CM{us:List Value}{Q:Value→Shared→Prop}(X:K.In s.heap)(Z:cH K C HE f)(hx:s.heap.get? e=some ox)(hc:ox.cls= .ref C)(hd:ox.data= .fields vs)(h0:0<vs.size)(hz:us.length≤sizeLine)
  (k:∀h',h'.get? e=some { ox with data:= .fields (vs.setIfInBounds 0 (.ref s.heap.objs.size)) }→(∀b o,b≠e→s.heap.get? b=some o→h'.get? b=some o)→Q .none { s with heap:=h' }):
  wpAny (model prog w) A (call (.builtin "ValueError.__init__") (.ref e::us)) Q E s:=by
 have F:=PySem.F.excBase_ValueError
 obtain⟨nm,q,N,bs,sn,sub,ab,col,dd,k0,k1,k2,k3,k5,hK⟩:=Z.obj
 have kC:=X _ _ hK
 have c1:(Value.ref C:: .ref HE::pZ).contains (.type "ValueError")=true:=f7 (by decide+kernel)
 obtain⟨hp,g,d,t,os⟩:=s
 obtain⟨oc,M4,Tu,nD⟩:=ox
 dsimp only at hc hd
 subst hc hd
 refine wpAny_call (codeAny_call_builtin F.init.plain F.initEntry ?_)
 have f0:=F.noStar
 simp only [checkBuiltinCall,F.initKind,F.initSplit,F.initRow]
 repeat (first|with_reducible refine wpAny_loadPart_at hx ?_|with_reducible refine wpAny_loadPart_at kC ?_| (with_reducible refine wpAny_isSubtype_exc kC ?_;rw[c1]) |wp_step)
 refine wpAny_onRaise ?_
 rw[show∀(a b:String) (n:Nat),Bind.check ⟨.positional,"*","ValueError", .self,[⟨"args", .varPos,false⟩]⟩ a b n (List.map (fun x=>x.fst) ({ pos:=Value.ref e::us }:Args).kw)=pure () from fun a b n=>check_star_args _ _ _ _ _ _]
 refine wpAny_pure ?_
 wp_walk
 rw[show vs[0]? =some vs[0] from Array.getElem?_eq_getElem h0]
 refine wpAny_pure (wpAny_bind (wpAny_setField (Heap.get?_push_of_some _ hx) rfl h0 ?_))
 generalize hG:((hp.push (jO us)).update e (Obj.mapFields (·.setIfInBounds 0 (Value.ref hp.objs.size))))=G
 have gx:G.get? e=some { cls:= .ref C,dict:=M4,data:= .fields (vs.setIfInBounds 0 (.ref hp.objs.size)),slots:=nD }:=by
  rw[←hG]
  exact Heap.get?_update_self (Obj.mapFields (·.setIfInBounds 0 (Value.ref hp.objs.size))) (Heap.get?_push_of_some (jO us) hx) rfl
 have go:∀b o,b≠e→hp.get? b=some o→G.get? b=some o:=fun b o be q=>by
  rw[←hG]
  exact(Heap.get?_update_other _ _ (Ne.symm be)).trans (Heap.get?_push_of_some _ q)
 have fin:=k G gx go
 generalize vs[0]=v0
 cases v0 with
 |ref a=>
  dsimp only
  repeat wp_step
  exact fin
 |_=>exact wpAny_pure (wpAny_pure fin)
end
end PySem.W
namespace L2
open PySem PySem.Spec PyProof.Rows
class fJ where
 vc:Addr→Prop
variable [fJ]
def wW(dx:Addr)(fs:List (Str×V)):HO:= .ext fun h=>∃mA,h.Ns1 dx mA∧(∀f,fX (fs.lookup f) (mA f))∧PySem.Within mA (fs.map (·.1))
def oJ(e C:Addr)(dx:Option Addr):HO:= .ext fun h=>∃o vs,h.get? e=some o∧o.cls= .ref C∧o.dict=dx∧o.data= .fields vs∧vs[1]? =some .none∧vs[2]? =some .none∧vs.size=6
def lT(e C:Addr)(dx:Option Addr):HO:= .ext fun h=>∃o vs,h.get? e=some o∧o.cls= .ref C∧o.dict=dx∧o.data= .fields vs∧(vs[2]? =some .none∨fJ.vc C)
section
variable {P:Program}{w:World}{H:Hp}{h:Heap}{e C dx:Addr}{od:Option Addr}{o:Obj}{vs:Array Value}
theorem zh(he:h.get? e=some o)(hc:o.cls= .ref C)(hd:o.dict=od)(hf:o.data= .fields vs)(h2:vs[2]? =some .none∨fJ.vc C):cq P w H h e (lT e C od):=
 ⟨⟨o,vs,he,hc,hd,hf,h2⟩,⟨o,he⟩,fun _ _ ⟨o,vs,a,b⟩ k=>⟨o,vs,k _ a,b⟩⟩
theorem zj(he:h.get? e=some o)(hc:o.cls= .ref C)(hd:o.dict=od)(hf:o.data= .fields vs)(h1:vs[1]? =some .none)(h2:vs[2]? =some .none∧vs.size=6):cq P w H h e (oJ e C od):=
 ⟨⟨o,vs,he,hc,hd,hf,h1,h2⟩,⟨o,he⟩,fun _ _ ⟨o,vs,a,b⟩ k=>⟨o,vs,k _ a,b⟩⟩
theorem IH{fs:List (Str×V)}{mA:Str→Option Value}(n:h.Ns1 dx mA)(r:∀f,fX (fs.lookup f) (mA f))(wi:PySem.Within mA (fs.map (·.1))):cq P w H h dx (wW dx fs):=by
 obtain⟨o,es,ep,ho,z⟩:=id n
 exact⟨⟨mA,n,r,wi⟩,⟨o,ho⟩,fun _ _ ⟨m,⟨o,es,ep,ho,z⟩,r⟩ k=>⟨m,⟨o,es,ep,k _ ho,z⟩,r⟩⟩
theorem oK(ok:iW P w H h)(q:H e=some (lT e C od)):∃o vs,h.get? e=some o∧o.cls= .ref C∧o.dict=od∧o.data= .fields vs:=let ⟨o,vs,a,b,c,d,_⟩:=(ok e _ q).1;⟨o,vs,a,b,c,d⟩
theorem xB(ok:iW P w H h)(q:H e=some (lT e C od)):∃o vs,h.get? e=some o∧o.cls= .ref C∧o.dict=od∧o.data= .fields vs∧(vs[2]? =some .none∨fJ.vc C):=(ok e _ q).1
theorem oM(ok:iW P w H h)(q:H e=some (oJ e C od)):∃o vs,h.get? e=some o∧o.cls= .ref C∧o.dict=od∧o.data= .fields vs∧vs[1]? =some .none∧vs[2]? =some .none∧vs.size=6:=(ok e _ q).1
theorem xC{fs:List (Str×V)}(ok:iW P w H h)(q:H dx=some (wW dx fs)):∃mA,h.Ns1 dx mA∧(∀f,fX (fs.lookup f) (mA f))∧PySem.Within mA (fs.map (·.1)):=(ok dx _ q).1
end
structure gR(X:Cx)(T:Addr):Prop where
 above:X.s₀.heap.objs.size≤T
 loc:T≠X.env.locals
 cell:∀x c,X.env.cells.lookup x=some c→c≠T
 pn:∀p∈X.pn,p.1≠T
section
variable {X:Cx}{pins:List (Addr×Obj)}{σ:St}{H:Hp}{s:Shared}{e C:Addr}{od tb:Option Addr}{h':Heap}{ER:St→XK}{v:Value}
theorem Inv.II(I:Inv X pins σ H s){T:Addr}(h:s.heap.objs.size≤T):gR X T:=by
 refine⟨Nat.le_trans I.sz h,fun z=>?_,fun x c q z=>?_,fun p hp z=>?_⟩
 ·subst z
  exact absurd I.lt (Nat.not_lt.mpr h)
 ·obtain⟨_,o,ho,_⟩:=I.cell x c q
  subst z
  exact absurd (Heap.lt_size ho) (Nat.not_lt.mpr h)
 ·have q:=(I.pin p (List.mem_append_left _ hp)).1
  rw[z] at q
  exact absurd (Heap.lt_size q) (Nat.not_lt.mpr h)
def f9(X:Cx)(ER:St→XK)(v:Value)(s:Shared):Prop:=
 ∃e C dx σ H tb,v= .ref e∧Inv X [] σ H s∧H e=some (lT e C dx)∧s.heap.j9 e tb∧(∀T,tb=some T→H T=none∧gR X T)∧ER σ (.ref C) dx H
def Lets(X:Cx)(ER:St→XK):Prop:=∀v s,f9 X ER v s→X.xe v s
theorem gR.cZ{E:Value→Shared→Prop}{T:Addr}(n:gR (X.gH E) T):gR X T:=⟨n.above,n.loc,n.cell,n.pn⟩
theorem f9.cZ{E:Value→Shared→Prop}(z:f9 (X.gH E) ER v s):f9 X ER v s:=by
 obtain⟨e,C,dx,σ,H,tb,ev,I,he,fl,ht,hE⟩:=z
 exact⟨e,C,dx,σ,H,tb,ev,I.cZ,he,fl,fun T q=>⟨(ht T q).1,(ht T q).2.cZ⟩,hE⟩
theorem oN:Lets (X.gH (f9 X ER)) ER:=fun _ _ z=>z.cZ
theorem Inv.ve(I:Inv X pins σ H s):Inv X [] σ H s:=I.nu fun p hp=>absurd hp (by simp)
theorem Inv.moved(I:Inv X [] σ H s)(he:H e=some (lT e C od))(ht:∀T,tb=some T→H T=none∧gR X T)(m:Heap.Moved (pY X.stack) e tb s.heap h'):Inv X [] σ H { s with heap:=h' }:=by
 have ne:∀b,H b=none→b≠e:=fun b n z=>by
  subst z
  rw[he] at n
  cases n
 refine I.Cb (s':={ s with heap:=h' }) (H':=H) (ch:=tb.toList) rfl ⟨fun b o q n hb hx=>m.keep b o q (ne b n) (fun z=>hx (by rw[z];simp)) hb,fun b o q n hb hx=>m.slot b o q (ne b n) fun z=>hx (by rw[z];simp),fun _ _ _ n _=>n,fun b o q _=>m.there b o q,
  fun _ _ q=>q,fun _ _ _ q=>q,fun _ ps q=>⟨#[],by simpa using q⟩⟩ (fun a o q=>?_) I.bare fun b hb=>?_
 ·by_cases ae:a=e
  ·subst ae
   rw[he] at q
   cases q
   obtain⟨o,vs,h1,h2,h3,h4,h5⟩:=xB I.bF he
   obtain⟨AU,z,c⟩:=m.ctx o vs h1 h4
   exact zh z h2 h3 rfl (by rw[c];exact h5)
  ·refine(I.bF a o q).qc (fun b u hb z=>?_) (fun _ q=>q) fun _ _ q=>q
   have qR:∃o',H b=some o':=by
    rcases hb with hb|hb
    ·exact⟨o,by rw[hb];exact q⟩
    ·exact⟨_,hb⟩
   obtain⟨o',qR⟩:=qR
   refine m.keep b u z (fun z=>?_) (fun z=>?_) fun z=>?_
   ·rcases hb with hb|hb
    ·exact ae (hb.symm.trans z)
    ·rw[z,he] at hb
     cases hb
   ·rw[(ht b z).1] at qR
    cases qR
   ·rw[I.sr b z] at qR
    cases qR
 ·have z:tb=some b:=by
   cases tb with
   |none=>simp at hb
   |some T=>simp at hb;rw[hb]
  obtain⟨_,n⟩:=ht b z
  exact⟨.inr n.above,Ne.symm (Ne.symm n.loc),n.cell,by simpa using n.pn⟩
def AW(X:Cx):Prop:=X.stack=X.env::X.outer∧X.env.frame=some X.env.locals
theorem gS(hs:AW X)(I:Inv X pins σ H s):X.A.frames=some (X.env::X.outer)∧s.heap.FunFrames X.base (X.env::X.outer):=by
 refine⟨by rw[I.ok.frames,hs.1],?_⟩
 rw[←hs.1]
 exact I.stack
theorem oO(I:Inv X [] σ H s){tb:Option Addr}{T:Addr}(ht:∀T,tb=some T→H T=none∧gR X T)(b:tb=some T∨s.heap.objs.size≤T):∀T',some T=some T'→H T'=none∧gR X T':=fun T' z=>by
 cases z
 rcases b with b|b
 ·exact ht T b
 ·exact⟨I.bF.fresh b,I.II b⟩
theorem AX(hs:AW X):PassesOwn (model X.prog X.w) X.A X.env (f9 X ER):=by
 intro v s' z
 obtain⟨e,C,dx,σ,H,tb,ev,I,he,fl,ht,hE⟩:=z
 subst ev
 obtain⟨fr,ff⟩:=gS hs I
 refine kL fr ff hs.2 fl fun h1 T a b m=>?_
 have m1:Heap.Moved (pY X.stack) e tb s'.heap h1:=by unfold pY;rw[hs.1];exact m
 have I1:=I.moved he ht m1
 have t1:=oO I ht b
 refine zf (s:={ s' with heap:=h1 }) a fun h2 a2 m2=>?_
 exact⟨e,C,dx,σ,H,some T,rfl,I1.moved he t1 (m2.mono fun _ z=>absurd z (by simp)),he,a2,t1,hE⟩
end
def ug(P:Program)(w:World):uz:=fun outer H s E v s'=>
 ∃e C dx H' tb,v= .ref e∧s'.os=s.os∧AllBare s'.gens∧Un (pY outer) [] H H' s.heap s'.heap∧iW P w H' s'.heap∧H' e=some (lT e C dx)∧s'.heap.j9 e tb∧(∀T,tb=some T→H' T=none∧s.heap.objs.size≤T)∧E (.ref C) dx H'
section
variable {P:Program}{w:World}{K:PySem.W.Frag}{mg:Str→Option Value}{base:Heap}{N ps:List Str}{qual:Str}{scope:Scope}{f:Addr}{cd:Value}{A:Around}{outer:List Env}{s s':Shared}{H:Hp}{E:XK}{v:Value}
theorem vf(z:f9 (fI (ug P w) P w K mg base N qual scope f cd A outer s H E) (fun _=>E) v s'):(fI (ug P w) P w K mg base N qual scope f cd A outer s H E).xe v s':=by
 obtain⟨e,C,dx,σ,H',tb,ev,I,he,fl,ht,hE⟩:=z
 subst ev
 obtain⟨fr,ff⟩:=gS (X:=fI (ug P w) P w K mg base N qual scope f cd A outer s H E) ⟨rfl,rfl⟩ I
 refine CJ fr ff rfl fl fun h1 T a b m=>?_
 have I1:=I.moved he ht m
 have t1:=oO I ht b
 have hB:=I.base
 have ne:∀b,H' b=none→b≠e:=fun b n z=>by
  subst z
  rw[he] at n
  cases n
 have nt:∀b o,s.heap.get? b=some o→tb≠some b:=fun b o q z=>absurd (Heap.lt_size q) (Nat.not_lt.mpr (ht b z).2.above)
 refine⟨e,C,dx,H',some T,rfl,I.os,I.bare,⟨fun b o q n hb hx=>?_,fun b o q n hb hx=>?_,hB.free,fun b o q hx=>?_,hB.qd,hB.oj,hB.qe⟩,I1.bF,he,a,fun T' z=>⟨(t1 T' z).1,(t1 T' z).2.above⟩,hE⟩
 ·refine m.keep b o (hB.keep b o q n hb hx) (ne b (hB.free b o q n hx)) (nt b o q) fun z=>?_
  rcases List.mem_cons.mp (show b∈s.heap.objs.size::pY outer from z) with z|z
  ·exact absurd (Heap.lt_size q) (by rw[z];exact Nat.lt_irrefl _)
  ·exact hb z
 ·obtain⟨sl,z⟩:=hB.slot b o q n hb hx
  obtain⟨Kb,z'⟩:=m.slot b _ z (ne b (hB.free b o q n hx)) (nt b o q)
  exact⟨Kb,z'⟩
 ·obtain⟨o',z⟩:=hB.there b o q hx
  exact m.there b o' z
def IJ(P:Program)(w:World)(K:PySem.W.Frag)(mg:Str→Option Value)(base:Heap)(N:List Str)(qual:Str)(scope:Scope)(f:Addr)(cd:Value)(A:Around)(outer:List Env)(s:Shared)(H:Hp)(E:XK):Cx:=
 (fI (ug P w) P w K mg base N qual scope f cd A outer s H E).gH (f9 (fI (ug P w) P w K mg base N qual scope f cd A outer s H E) fun _=>E)
theorem aO:Lets (IJ P w K mg base N qual scope f cd A outer s H E) (fun _=>E):=fun _ _ z=>z.cZ
theorem j':PassesOwn (model P w) (IJ P w K mg base N qual scope f cd A outer s H E).A (IJ P w K mg base N qual scope f cd A outer s H E).env (IJ P w K mg base N qual scope f cd A outer s H E).xe:=AX (X:=fI (ug P w) P w K mg base N qual scope f cd A outer s H E) ⟨rfl,rfl⟩
theorem Gd{st:List Stmt}{t:TS}(h:jV (IJ P w K mg base N qual scope f cd A outer s H E) st t):jV (fI (ug P w) P w K mg base N qual scope f cd A outer s H E) st t:=fun pins s1 σ H1 D I hw=>
 wpAny_mono (h pins s1 σ H1 D (I.gH _) hw) (fun _ _ q=>q.cZ) fun _ _ z=>vf z
theorem y9.K6{x:Str}{st:Stmt}{fd:FuncData}{k:Nat}{sp:Sp}(F:y9 K x qual st f fd)(S:az N ps (ag st))(len:∀vs H Q E,sp vs H Q E→vs.length=ps.length)
  (cS:∀(br:Value) (A:Around) (outer:List Env) (s:Shared) (H:Hp) (vs:List V) (Q:VK) (E:XK),cf k (A.deeper (envOfC qual (ag st) s.heap.objs.size f br))→sp vs H Q E→
   ∃t,jV (IJ P w K mg base N qual (ag st) f br A outer s H E) (bh st) t∧t { nx:=fun _ H'=>Q .cJ H',rt:=Q } (start N vs) H):dj P w K mg base (ug P w) (k+1) f fd ps sp:=by
 obtain⟨oc,od,kV,doc,pm,an,br,ct,nD,rfl,lk,mZ⟩:=F.ex
 refine fn_of lk mZ S len fun A outer s H vs Q E hr uH=>?_
 obtain⟨t,h,q⟩:=cS br A outer s H vs Q E hr uH
 exact⟨t,Gd h,q⟩
end
section
variable {X:Cx}{pins:List (Addr×Obj)}{σ:St}{H:Hp}{s s':Shared}{ER:St→XK}{v:Value}
theorem AY(L:Lets X ER)(I:Inv X pins σ H s)(h:ug X.prog X.w X.stack H s (ER σ) v s'):X.xe v s':=by
 obtain⟨e,C,dx,H',tb,ev,os,bare,un,bF,he,fl,ht,hE⟩:=h
 have I1:Inv X pins σ H' s':=I.Cb os un bF bare fun b z=>absurd z (by simp)
 exact L v s' ⟨e,C,dx,σ,H',tb,ev,I1.ve,he,fl,fun T z=>⟨(ht T z).1,I.II (ht T z).2⟩,hE⟩
end
section
variable {X:Cx}{k:Nat}{f C:Addr}{fd:FuncData}{ps:List Str}{sp:Sp}{iS:List V}{ds:List Value}{ER:St→XK}{x m:Str}{p pos apos:Pos}{e o:Expr}{es:List Expr}{ta:TE}{t:TA}
def K7(sp:Sp)(iS:List V)(ER:St→XK)(t:TA):TE:=fun σ H Q=>t σ H fun vs H1=>sp (vs++iS) H1 Q (ER σ)
def CN(C:Addr)(m:Str)(sp:Sp)(iS:List V)(ER:St→XK)(ta:TE)(t:TA):TE:=fun σ H Q=>ta σ H fun x H1=>∃a dx fs,x= .ref a∧H1 a=some (.ins C dx fs)∧fs.lookup m=none∧
 t σ H1 fun vs H2=>sp (x::(vs++iS)) H2 Q (ER σ)
theorem nI{pins:List (Addr×Obj)}{σ:St}{H:Hp}{s:Shared}{Q:VK}{us:List Value}{vs:List V}(F:dj X.prog X.w X.K X.mg X.base (ug X.prog X.w) k f fd ps sp)(hr:cf k X.A)(hb:Binds X.K fd ps ds)(hd:Vals iS ds)(L:Lets X ER)
  (I:Inv X pins σ H s) (r:Vals vs us) (h:sp (vs++iS) H Q (ER σ)):wpAny (model X.prog X.w) X.A (call (.ref f) us) (EP X pins σ Q) X.xe s:=by
 have r2:Vals (vs++iS) (us++ds):=r.append hd
 have hl:(us++ds).length=ps.length:=by rw[←r2.length];exact F.len _ _ _ _ h
 refine wpAny_call (codeAny_mono (F.run X.A X.stack s H ⟨us,[]⟩ (us++ds) (vs++iS) Q (ER σ) hr I.Cu (hb s us I.fb hl) r2 h) fun r s' hq=>?_)
 cases r with
 |error e=>exact AY L I hq
 |ok fl=>
  cases fl with
  |ret u=>exact I.after hq
  |next=>exact False.elim hq
  |brk=>exact False.elim hq
  |cont=>exact False.elim hq
theorem vg(F:dj X.prog X.w X.K X.mg X.base (ug X.prog X.w) k f fd ps sp)(hr:cf k X.A)(hg:Gl X x)(hm:X.mg x=some (.ref f))(hk:PySem.W.keepIn X.K (.ref f)=true)(hb:Binds X.K fd ps ds)(hd:Vals iS ds)(L:Lets X ER)
  (ha:PA X (e::es) t) (xr:(x==("__debug__" :Str))=false:=by decide) (he:starEach (e::es) X.env=(false,eval e X.env)::starEach es X.env:=by rfl) (kr:(backTo pos (starEach es X.env)).any (·.1)=false:=by rfl):
  PE X (.Call (.Name x p) (e::es) [] pos) (K7 sp iS ER t):=by
 intro pins s σ H Q I h
 refine wpAny_Call_Name_kw (eQ I hg hm ?_ xr)
 refine PySem.W.callWith_K (h₀:=X.base) I.ok.mod.B' hk (bN (ha pos pins s σ H _ I h) fun us s1 ⟨vs,H1,I1,r,q⟩=>⟨I1.fb,?_⟩) he kr
 exact nI F hr hb hd L I1 r q
theorem bA{pl:Sem Bool}(he:PE X o ta)(c:qf X.K C)(hm:Meth X.K C m f)(F:dj X.prog X.w X.K X.mg X.base (ug X.prog X.w) k f fd ps sp)(hr:cf k X.A)(hb:Binds X.K fd ps ds)(hd:Vals iS ds)(L:Lets X ER)(ha:PA X (e::es) t)
  (wV:starEach (e::es) X.env=(false,eval e X.env)::starEach es X.env:=by rfl) (kr:(backTo pos (starEach es X.env)).any (·.1)=false:=by rfl)
  (ht:eval (.Call (.Attribute o m apos) (e::es) [] pos) X.env=(do
   let ov←eval o X.env
   standAt apos.atName
   let (f,first)←holding [ov] (getMethod ov m pl)
   callWith pos f first (backTo pos (starEach (e::es) X.env)) (backToKw pos (keywordEach [] X.env))):=by rfl):
  PE X (.Call (.Attribute o m apos) (e::es) [] pos) (CN C m sp iS ER ta t):=by
 intro pins s σ H Q I h
 refine PySem.W.methodCall_KW (pl:=pl) (bN (he pins s σ H _ I h) fun u s1 ⟨x,H1,I1,rx,a,dx,fs,ex,ea,l,q⟩=>?_) ht
 subst ex
 obtain rfl:u=Value.ref a:=rx
 refine j6 I1 ea c hm l ?_
 refine PySem.W.callWith_K (first:=[.ref a]) (h₀:=X.base) I.ok.mod.B' hm.kp (bN (ha pos pins s1 σ H1 _ I1 q) fun us s2 ⟨vs,H2,I2,r,q2⟩=>⟨I2.fb,?_⟩) wV kr
 exact nI (us:= .ref a::us) (vs:= .ref a::vs) F hr hb hd L I2 (.cons rfl r) q2
theorem bU{pl:Sem Bool}(he:PE X o ta)(c:qf X.K C)(hm:Meth X.K C m f)(F:dj X.prog X.w X.K X.mg X.base (ug X.prog X.w) k f fd ps sp)(hr:cf k X.A)(hb:Binds X.K fd ps ds)(hd:Vals iS ds)(L:Lets X ER)
  (ht:eval (.Call (.Attribute o m apos) [] [] pos) X.env=(do
   let ov←eval o X.env
   standAt apos.atName
   let (f,first)←holding [ov] (getMethod ov m pl)
   callWith pos f first (backTo pos (starEach [] X.env)) (backToKw pos (keywordEach [] X.env))):=by rfl):
  PE X (.Call (.Attribute o m apos) [] [] pos) (CN C m sp iS ER ta FO):=by
 intro pins s σ H Q I h
 refine PySem.W.methodCall_KW (pl:=pl) (bN (he pins s σ H _ I h) fun u s1 ⟨x,H1,I1,rx,a,dx,fs,ex,ea,l,q⟩=>?_) ht
 subst ex
 obtain rfl:u=Value.ref a:=rx
 refine j6 I1 ea c hm l ?_
 exact PySem.W.callWith_K0 (first:=[.ref a]) I1.fb hm.kp (nI (us:=[.ref a]) (vs:=[.ref a]) F hr hb hd L I1 (.cons rfl .nil) q)
def CO(C:Addr)(sp:Sp)(t:TA):TE:=fun σ H Q=>t σ H fun vs H1=>vs.length≤100∧∀x,H1 x=none→sp (.ref x::vs) (upd H1 x (oJ x C none)) (fun v H2=>v= .cJ∧Q (.ref x) H2) E0
theorem AZ{HE:Addr}{pins:List (Addr×Obj)}{σ:St}{H:Hp}{s:Shared}{Q:VK}{us:List Value}{vs:List V}(Z:PySem.W.cH X.K C HE f)(F:dj X.prog X.w X.K X.mg X.base js k f fd ps sp)(hr:cf (k+1) X.A)(hb:Binds X.K fd ps [])
  (I:Inv X pins σ H s) (r:Vals vs us) (hz:vs.length≤100) (h:∀x,H x=none→sp (.ref x::vs) (upd H x (oJ x C none)) (fun v H2=>v= .cJ∧Q (.ref x) H2) E0):
  wpAny (model X.prog X.w) X.A (call (.ref C) us) (EP X pins σ Q) X.xe s:=by
 have hq:=h (s.heap.objs.size+1) (I.bF.fresh (Nat.le_succ _))
 have e2:((s.heap.push (PySem.W.jO us)).push (PySem.W.i9 C s.heap.objs.size)).get? (s.heap.objs.size+1)=some (PySem.W.i9 C s.heap.objs.size):=by
  have:=Heap.get?_push_size (s.heap.push (PySem.W.jO us)) (o:=PySem.W.i9 C s.heap.objs.size) rfl
  rwa [Heap.size_push] at this
 have I2:Inv X pins σ (upd H (s.heap.objs.size+1) (oJ (s.heap.objs.size+1) C none)) { s with heap:=(s.heap.push (PySem.W.jO us)).push (PySem.W.i9 C s.heap.objs.size) }:=
  I.laid (a:=s.heap.objs.size+1) (t':=s.toks) (fun b u q=>Heap.get?_push_of_some _ (Heap.get?_push_of_some _ q)) (Nat.le_succ _) (zj e2 rfl rfl rfl rfl ⟨rfl,rfl⟩)
 have r2:Vals (V.ref (s.heap.objs.size+1)::vs) (Value.ref (s.heap.objs.size+1)::us):= .cons rfl r
 have hl:(Value.ref (s.heap.objs.size+1)::us++[]).length=ps.length:=by
  have e:=r2.length
  rw[F.len _ _ _ _ hq] at e
  rw[List.append_nil]
  exact e.symm
 have Ot:us.length≤sizeLine:=by
  rw[←r.length]
  exact Nat.le_trans hz (by rw[sizeLine_eq];decide)
 have M5:=hb { s with heap:=(s.heap.push (PySem.W.jO us)).push (PySem.W.i9 C s.heap.objs.size) } (Value.ref (s.heap.objs.size+1)::us) I2.fb hl
 rw[List.append_nil] at M5
 refine wpAny_call (PySem.W.zg I.fb Z Ot (codeAny_mono (F.run _ X.stack _ _ ⟨Value.ref (s.heap.objs.size+1)::us,[]⟩ (Value.ref (s.heap.objs.size+1)::us) _ _ E0 (hr.make C us []) (I2.Cu.make C us []) M5 r2 hq) fun r s' jM=>?_))
 cases r with
 |error e=>exact False.elim jM
 |ok fl=>
  cases fl with
  |ret u=>
   obtain⟨v,H',I3,rv,ev,q3⟩:=I2.after jM
   subst ev
   exact⟨rv,⟨V.ref (s.heap.objs.size+1),H',I3,rfl,q3⟩⟩
  |next=>exact False.elim jM
  |brk=>exact False.elim jM
  |cont=>exact False.elim jM
theorem fK{HE:Addr}(Z:PySem.W.cH X.K C HE f)(F:dj X.prog X.w X.K X.mg X.base js k f fd ps sp)(hr:cf (k+1) X.A)(hg:Gl X x)(hm:X.mg x=some (.ref C))(hk:PySem.W.keepIn X.K (.ref C)=true)(hb:Binds X.K fd ps [])
  (ha:PA X (e::es) t) (xr:(x==("__debug__" :Str))=false:=by decide) (he:starEach (e::es) X.env=(false,eval e X.env)::starEach es X.env:=by rfl) (kr:(backTo pos (starEach es X.env)).any (·.1)=false:=by rfl):
  PE X (.Call (.Name x p) (e::es) [] pos) (CO C sp t):=by
 intro pins s σ H Q I h
 refine wpAny_Call_Name_kw (eQ I hg hm ?_ xr)
 refine PySem.W.callWith_K (h₀:=X.base) I.ok.mod.B' hk (bN (ha pos pins s σ H _ I h) fun us s1 ⟨vs,H1,I1,r,q⟩=>⟨I1.fb,?_⟩) he kr
 exact AZ Z F hr hb I1 r q.1 q.2
def K8(K:PySem.W.Frag)(te:TE)(ER:St→XK):TS:=fun _ σ H=>te σ H fun v H1=>∃e C HE f dx,v= .ref e∧PySem.W.cH K C HE f∧H1 e=some (oJ e C dx)∧ER σ (.ref C) dx (upd H1 e (lT e C dx))
theorem fL{ex:Expr}{te:TE}(hc:X.calm=true)(L:Lets X ER)(he:PE X ex te):PS X (.Raise (some ex) none pos) (K8 X.K te ER):=by
 intro pins s σ H D I h
 rw[arm_exec_Raise]
 refine wpAny_bind (wpAny_standAt (PySem.W.CL (K:=X.K) (I.ok.hd hc) (wpAny_bind (bN (he pins s σ H _ I h) fun u s1 ⟨v,H1,I1,rv,e,C,HE,f,dx,ev,Z,hx,q⟩=>wpAny_bind (wpAny_standAt (wpAny_pure ?_))))))
 subst ev
 obtain rfl:u=Value.ref e:=rv
 obtain⟨o,vs,h1,h2,h3,h4,h5,h6⟩:=oM I1.bF hx
 refine⟨e,o,vs,C,HE,f,rfl,I1.fb,Z,h1,h2,h4,h5,L _ _ ⟨e,C,dx,σ,_,none,rfl,?_,ai,⟨⟨o,vs,h1,h4,h5⟩,fun T z=>by cases z⟩,fun T z=>(by cases z),q⟩⟩
 have J:=I1.ve.write (x:=e) (e:=e) (o:=lT e C dx) (h':=s1.heap) (t':=s1.toks) (by rw[hx];exact True.intro) (.inl rfl) (fun _ _ _ q=>q) ⟨o,h1⟩ (zh h1 h2 h3 h4 (.inl h6.1))
 exact J
end
end L2
namespace L2
open PySem PySem.Spec PyProof.Rows
variable [fJ]
theorem CP{H:Hp}{e:Addr}{o:HO}(h:H e=some o):upd H e o=H:=by
 funext b
 by_cases z:b=e
 ·subst z
  rw[ai,h]
 ·rw[ah z]
section
variable {X:Cx}{x f:Str}{a b o value ex:Expr}{ta tb tv:TE}{p pos apos pos':Pos}
structure IK(K:PySem.W.Frag)(HE:Addr):Prop where
 sp:PySem.W.specialIn K (.ref HE) "__getattribute__" =some (some (.builtin "type.__getattribute__"))
 rd:PySem.W.readsIn K HE (.type "type")=true
 fc:PySem.W.findCls K (.ref HE) (.type "type") "__init__" =some (.val (.builtin "ValueError.__init__"))
def K9(K:PySem.W.Frag)(ta tb:TE):TE:=fun σ H Q=>ta σ H fun v H1=>tb σ H1 fun _ H2=>∃e C HE f dx,v= .ref e∧PySem.W.cH K C HE f∧H2 e=some (oJ e C dx)∧Q .cJ H2
theorem i'{HE:Addr}{pl:Sem Bool}(hg:Gl X x)(hm:X.mg x=some (.ref HE))(B:IK X.K HE)(ha:PE X a ta)(hb:PE X b tb)(hd:(x==("__debug__" :Str))=false:=by decide)
  (wV:starEach [a,b] X.env=(false,eval a X.env)::starEach [b] X.env:=by rfl) (Vf:starEach [b] X.env=(false,eval b X.env)::starEach [] X.env:=by rfl) (kr:(backTo pos (starEach [b] X.env)).any (·.1)=false:=by rfl)
  (ht:eval (.Call (.Attribute (.Name x p) "__init__" apos) [a,b] [] pos) X.env=(do
   let ov←eval (.Name x p) X.env
   standAt apos.atName
   let (f,first)←holding [ov] (getMethod ov "__init__" pl)
   callWith pos f first (backTo pos (starEach [a,b] X.env)) (backToKw pos (keywordEach [] X.env))):=by rfl):
  PE X (.Call (.Attribute (.Name x p) "__init__" apos) [a,b] [] pos) (K9 X.K ta tb):=by
 intro pins s σ H Q I h
 refine PySem.W.methodCall_KW (pl:=pl) (eQ I hg hm ?_ hd) ht
 refine PySem.W.method_cls I.fb B.sp (PySem.W.cls_value I.fb B.rd B.fc rfl ?_)
 have I0:=I.tok (s.toks+1)
 refine PyProof.Rows.callWith_builtin1 (bN (aa ha (aa hb ak Vf) wV pos pins _ σ H (fun vs H2=>match vs with| [v,_]=>∃e C HE f dx,v=V.ref e∧PySem.W.cH X.K C HE f∧H2 e=some (oJ e C dx)∧Q .cJ H2|_=>False) I0 h) fun us s1 ⟨vs,H2,I2,r,q⟩=>?_) wV kr
 match vs,q with
 | [v,u],q=>
   obtain⟨e,C,HE,f,dx,e1,Z,hx,q⟩:=q
   subst e1
   obtain⟨u1,u2,rfl,r1,r2⟩:=vals2 r
   obtain rfl:u1=Value.ref e:=r1
   obtain⟨ob,vs,h1,h2,h3,h4,h5,h6⟩:=oM I2.bF hx
   have sz:1<vs.size:=(Array.getElem?_eq_some_iff.mp h5).1
   refine PySem.W.CM I2.fb Z h1 h2 h4 (by omega) (by rw[sizeLine_eq,List.length_cons,List.length_nil];decide) fun h' g1 g2=>⟨.cJ,H2,?_,rfl,q⟩
   have J:=I2.write (x:=e) (e:=e) (o:=oJ e C dx) (h':=h') (t':=s1.toks) (by rw[hx];exact True.intro) (.inl rfl) (fun b o be q=>g2 b o be q) ⟨_,g1⟩ (zj g1 h2 h3 rfl (by rw[Array.getElem?_setIfInBounds_ne (by decide)];exact h5) ⟨by rw[Array.getElem?_setIfInBounds_ne (by decide)];exact h6.1,by rw[Array.size_setIfInBounds];exact h6.2⟩)
   rw[CP hx] at J
   exact J
def Ou(K:PySem.W.Frag)(ta tv:TE)(f:Str):TS:=fun D σ H=>tv σ H fun y H1=>ta σ H1 fun v H2=>∃e C HE g,v= .ref e∧PySem.W.cH K C HE g∧PySem.W.takerIn K C f=some none∧
 ((H2 e=some (oJ e C none)∧∀dx,H2 dx=none→dx≠e→D.nx σ (upd (upd H2 dx (wW dx [(f,y)])) e (oJ e C (some dx))))∨
  ∃dx fs,H2 e=some (oJ e C (some dx))∧H2 dx=some (wW dx fs)∧fs.length<1000∧D.nx σ (upd H2 dx (wW dx (cW f y fs))))
theorem kM(ha:PE X o ta)(hv:PE X value tv)(hs:swapsWith value (some (.Attribute o f pos')) pos.line X.env=pure false):PS X (.Assign [.Attribute o f pos'] value pos) (Ou X.K ta tv f):=by
 intro pins s σ H D I h
 refine plainObj_wpAny_Assign_Attribute (bN (hv pins s σ H _ I h) fun u s1 ⟨y,H1,I1,ry,q⟩=>bN (ha pins s1 σ H1 _ I1 q) fun ov s2 ⟨x,H2,I2,rx,e,C,HE,g,ex,Z,tk,q2⟩=>?_) hs
 subst ex
 obtain rfl:ov=Value.ref e:=rx
 rcases q2 with ⟨hx,q2⟩ | ⟨dx,fs,hx,hd,hl,q2⟩
 ·obtain⟨ob,vs,h1,h2,h3,h4,h5,h6⟩:=oM I2.bF hx
  refine PySem.W.Ga I2.fb Z tk h1 h2 h4 h3 fun h' Ve g1 g2 g3=>?_
  have ne:s2.heap.objs.size≠e:=Nat.ne_of_gt (Heap.lt_size h1)
  have fr:=I2.bF.fresh (Nat.le_refl s2.heap.objs.size)
  generalize hN:s2.heap.objs.size=n at g1 g2 ne fr
  have at':∀b o,H2 b=some o→b≠e→upd (upd H2 n (wW n [(f,y)])) e (oJ e C (some n)) b=some o:=fun b o q be=>by
   rw[ah be,ah (af q fr)]
   exact q
  refine⟨σ,upd (upd H2 n (wW n [(f,y)])) e (oJ e C (some n)),I2.un (h':=h') (t':=Ve) ⟨fun b o q nn _ _=>g3 b o (fun z=>?_) q,fun b o q nn _ _=>⟨o.slots,g3 b o (fun z=>?_) q⟩,fun b o q nn _=>?_,fun b o q _=>?_,fun b xs q=>at' b _ q fun z=>?_,fun b o u q=>at' b _ q fun z=>?_,fun b ps q=>⟨#[],?_⟩⟩ fun b o q=>?_,q2 n fr ne⟩
  ·rw[z,hx] at nn;cases nn
  ·rw[z,hx] at nn;cases nn
  ·rw[ah (fun z=>by rw[z,hx] at nn;cases nn),ah (fun z=>by rw[z,←hN] at q;exact absurd (Heap.lt_size q) (Nat.lt_irrefl _))]
   exact nn
  ·by_cases be:b=e
   ·subst be
    exact⟨_,g1⟩
   ·exact⟨o,g3 b o be q⟩
  ·rw[z,hx] at q;cases q
  ·rw[z,hx] at q;cases q
  ·rw[Array.append_empty]
   exact at' b _ q fun z=>by rw[z,hx] at q;cases q
  ·by_cases be:b=e
   ·subst be
    rw[ai] at q
    cases q
    exact zj g1 h2 rfl h4 h5 h6
   ·rw[ah be] at q
    by_cases bn:b=n
    ·subst bn
     rw[ai] at q
     cases q
     refine IH g2 (fun g=>?_) fun g hg=>?_
     ·by_cases eg:g=f
      ·subst eg
       simp only [List.lookup,beq_self_eq_true,if_true]
       exact ry
      ·have e1:(g==f)=false:=by simpa using eg
       simp only [List.lookup,e1,if_neg eg]
       exact True.intro
     ·by_cases eg:g=f
      ·simp [eg]
      ·exact absurd (if_neg eg) hg
    ·rw[ah bn] at q
     refine(I2.bF b o q).qc (fun c u hc z=>g3 c u (fun ce=>?_) z) (fun c z=>at' c _ z fun ce=>?_) fun c xs z=>at' c _ z fun ce=>?_
     ·rcases hc with hc|hc
      ·exact be (hc.symm.trans ce)
      ·rw[ce,hx] at hc;cases hc
     ·rw[ce,hx] at z;cases z
     ·rw[ce,hx] at z;cases z
 ·obtain⟨ob,vs,h1,h2,h3,h4,h5,h6⟩:=oM I2.bF hx
  obtain⟨mA,n1,r1,w1⟩:=xC I2.bF hd
  have hz:(fs.map (·.1)).length≤1000:=by rw[List.length_map];omega
  refine PySem.W.Gb I2.fb Z tk h1 h2 h4 h3 n1 w1 hz fun h' g1 sb=>⟨σ,_,?_,q2⟩
  have Im:∃o,h'.get? dx=some o:=let ⟨o,_,_,e',_⟩:=g1;⟨o,e'⟩
  refine I2.write (x:=dx) (e:=dx) (t':=s2.toks+2) (by rw[hd];exact True.intro) (.inl rfl) (fun b q hb z=>(sb.2 b hb).trans z) Im (IH g1 (fun g=>?_) fun g hg=>?_)
  ·rw[aJ]
   by_cases q:g=f
   ·rw[if_pos q,if_pos q];exact ry
   ·rw[if_neg q,if_neg q];exact r1 g
  ·by_cases q:g=f
   ·rw[q];exact(gN f y fs).1
   ·exact(gN f y fs).2 g (w1 g fun z=>hg (by rw[if_neg q];exact z))
def IL(K:PySem.W.Frag)(ta:TE)(f:Str):TE:=fun σ H Q=>ta σ H fun v H1=>∃e C HE g dx fs y,v= .ref e∧PySem.W.cH K C HE g∧PySem.W.findIn K (.ref C) f=some none∧H1 e=some (lT e C (some dx))∧H1 dx=some (wW dx fs)∧fs.lookup f=some y∧Q y H1
theorem nJ(he:PE X ex ta)(hb:attributeBase ex f X.env (eval ex X.env)=eval ex X.env):PE X (.Attribute ex f pos) (IL X.K ta f):=by
 intro pins s σ H Q I h
 refine yY hb (bN (he pins s σ H _ I h) fun u s1 ⟨x,H1,I1,rx,e,C,HE,g,dx,fs,y,ex,Z,fi,hx,hd,l,q⟩=>?_)
 subst ex
 obtain rfl:u=Value.ref e:=rx
 obtain⟨ob,vs,h1,h2,h3,h4⟩:=oK I1.bF hx
 obtain⟨mA,n1,r1,w1⟩:=xC I1.bF hd
 obtain⟨od,ho,hl⟩:=lX n1
 obtain⟨u,hu,ru⟩:=fX.some_of (v:=y) (o:=mA f) (by rw[←l];exact r1 f)
 obtain⟨cd,mZ,_,hh⟩:=Z.cd
 have J:PySem.W.InstAt s1.heap e ob C (some od):=⟨h1,h2,by unfold PySem.W.notCls;rw[h4],by rw[h3];exact ho⟩
 exact PySem.W.K5 I1.fb Z J (PySem.W.findObj_own (by unfold PySem.W.hasDictIn;rw[mZ];exact hh) fi rfl (by rw[hl,hu])) (qz ru) ⟨y,H1,I1.tok _,ru,q⟩
def Vg(ta:TE):TE:=fun σ H Q=>ta σ H fun v H1=>(∃i,v= .int i∧i.natAbs.log2<1920∧Q (.str (toString i)) H1)∨∃y,v= .str y∧y.length≤sizeLine∧Q (.str y) H1
theorem oP(he:PE X ex ta):PE X (.FormattedValue ex (-1) none pos) (Vg ta):=by
 intro pins s σ H Q I h
 refine FormattedValue_plain (bN (he pins s σ H _ I h) fun u s1 ⟨v,H1,I1,rv,q⟩=>?_)
 rcases q with ⟨i,rfl,hi,q⟩ | ⟨y,rfl,hy,q⟩
 ·obtain⟨t,rfl⟩:=rv
  exact formatField_int_small hi ⟨.str (toString i),H1,I1.tok _,⟨_,rfl⟩,q⟩
 ·obtain⟨t,rfl⟩:=rv
  exact formatField_str (fun t' tk=>⟨.str y,H1,I1.tok tk,⟨_,rfl⟩,q⟩) hy
def PF(X:Cx)(es:List Expr)(t:Str→TE):Prop:=
 ∀(acc:Str) (pins:List (Addr×Obj)) (s:Shared) (σ:St) (H:Hp) (Q:VK),Inv X pins σ H s→t acc σ H Q→wpAny (model X.prog X.w) X.A (joinParts acc (evalEach es X.env)) (EP X pins σ Q) X.xe s
def Ov:Str→TE:=fun acc _ H Q=>acc.length≤sizeLine∧Q (.str acc) H
def La(te:TE)(t:Str→TE):Str→TE:=fun acc σ H Q=>te σ H fun v H1=>∃y,v= .str y∧(acc++y).length≤sizeLine∧t (acc++y) σ H1 Q
theorem oQ:PF X [] Ov:=fun acc pins s σ H Q I h=>joinParts_nil ⟨.str acc,H,I.tok _,⟨_,rfl⟩,h.2⟩ h.1
theorem dn{es:List Expr}{t:Str→TE}(he:PE X ex ta)(hr:PF X es t)(hs:evalEach (ex::es) X.env=eval ex X.env::evalEach es X.env:=by rfl):PF X (ex::es) (La ta t):=by
 intro acc pins s σ H Q I h
 rw[hs]
 refine joinParts_cons (bN (he pins s σ H _ I h) fun u s1 ⟨v,H1,I1,rv,y,ev,hz,q⟩=>?_)
 subst ev
 obtain⟨t',rfl⟩:=rv
 exact⟨hz,hr (acc++y) pins s1 σ H1 Q I1 q⟩
theorem kN{v1 v2:Expr}{es:List Expr}{t:Str→TE}(h:PF X (v1::v2::es) t):PE X (.JoinedStr (v1::v2::es) pos) (t Str.empty):=fun pins s σ H Q I hw=>JoinedStr_many (h Str.empty pins s σ H Q I hw)
end
end L2
namespace PySem.W
open PySem PySem.Calls PyProof.Rows
structure vh(K:Frag)(PC:Addr):Prop where
 obj:∃(nm q:Str) (N:Addr) (bs bm:List Value) (hd:Bool) (sn:List Str) (sub:List Value) (ab:Bool) (col:Option Bool) (dd:Option Addr) (k0 k1 k2 k3 k5:Option Value) (Tv:String),
  K.lookup PC=some (excClassObj nm q PC N bs bm hd sn sub ab col dd k0 k1 k2 k3 k5 Tv)∧bm.contains (.type "BaseException")=true
theorem cH.par{K:Frag}{C HE f:Addr}(Z:cH K C HE f):vh K C:=by
 obtain⟨nm,q,N,bs,sn,sub,ab,col,dd,k0,k1,k2,k3,k5,hK⟩:=Z.obj
 exact⟨nm,q,N,bs,_,_,sn,sub,ab,col,dd,k0,k1,k2,k3,k5,_,hK,by rw[List.contains_cons,show pZ.contains (.type "BaseException")=true from by decide+kernel,Bool.or_true]⟩
theorem oR{M:Model}{A:Around}{E:Value→Shared→Prop}{s:Shared}{K:Frag}{C HE f e PC:Addr}{ox:Obj}{b:Bool}{Q:Bool→Shared→Prop}(X:K.In s.heap)(Z:cH K C HE f)(Y:vh K PC)(hx:s.heap.get? e=some ox)(hc:ox.cls= .ref C)
  (hm:mroIn K C (.ref PC)=some b) (k:Q b s):wpAny M A (excMatches (.ref e) (.ref PC)) Q E s:=by
 obtain⟨nm,q,N,bs,sn,sub,ab,col,dd,k0,k1,k2,k3,k5,hK⟩:=Z.obj
 obtain⟨nm',q',N',bs',bm,Im,sn',sub',ab',col',IB,k0',k1',k2',k3',k5',Tv,hP,hB⟩:=Y.obj
 obtain⟨cd,mZ,em,_⟩:=Z.cd
 have cb:(Value.ref C:: .ref HE::pZ).contains (.ref PC)=b:=by
  unfold mroIn at hm
  rw[mZ,Option.bind_some,em] at hm
  exact Option.some.inj hm
 have kC:=X _ _ hK
 have kP:=X _ _ hP
 have cB:(Value.ref PC::bm).contains (.type "BaseException")=true:=by rw[List.contains_cons,hB,Bool.or_true]
 have ft:=tc_notTuple
 obtain⟨hp,g,d,tk,os⟩:=s
 unfold excMatches
 repeat (first| (with_reducible refine wpAny_loadPart_at hx ?_;rw[hc]) |with_reducible refine wpAny_loadPart_at kP ?_| (with_reducible refine wpAny_isSubtype_exc kP ?_;rw[cB]) | (with_reducible refine wpAny_isSubtype_exc kC ?_;rw[cb]) |wp_step)
 cases b<;>(wp_walk;exact k)
end PySem.W
namespace L2
open PySem PySem.Spec PyProof.Rows
variable [fJ]
abbrev Cx.pinned(X:Cx)(pn:List (Addr×Obj)):Cx:={ X with pn:=X.pn++pn }
abbrev Cx.mark(X:Cx)(e:Addr):Cx:={ X with A:=X.A.mark (some (.ref e)),calm:=false,xe:=fun _ _=>False }
section
variable {X:Cx}{pins pn:List (Addr×Obj)}{σ:St}{H:Hp}{s:Shared}{ER:St→XK}{v:Value}{D:Ends}{fl:Flow}
theorem Cx.Ok.pinned(ok:X.Ok):(X.pinned pn).Ok:=⟨ok.mod,ok.kind,ok.glob,ok.blt,ok.above,ok.inj,ok.has,ok.FD,ok.hd,ok.frames,ok.Il,ok.MZ,ok.bs,ok.yL,ok.r8,ok.si,ok.iH,ok.B0⟩
theorem Cx.Ok.dH(ok:(X.pinned pn).Ok):X.Ok:=⟨ok.mod,ok.kind,ok.glob,ok.blt,ok.above,ok.inj,ok.has,ok.FD,ok.hd,ok.frames,ok.Il,ok.MZ,ok.bs,ok.yL,ok.r8,ok.si,ok.iH,ok.B0⟩
theorem Inv.Vh(I:Inv X pins σ H s):Inv (X.pinned pins) [] σ H s:=⟨I.ok.pinned,I.os,I.bare,I.base,I.loc,I.cell,I.free,I.fH,fun p hp=>I.pin p (by simpa using hp),I.bF,I.len⟩
theorem Inv.CQ(I:Inv (X.pinned pn) pins σ H s):Inv X pn σ H s:=⟨I.ok.dH,I.os,I.bare,I.base,I.loc,I.cell,I.free,I.fH,fun p hp=>I.pin p (List.mem_append_left _ hp),I.bF,I.len⟩
theorem SP.dH(h:SP (X.pinned pn) pins D fl s):SP X pn D fl s:=by
 cases fl with
 |next=>obtain⟨σ',H',I,q⟩:=h;exact⟨σ',H',I.CQ,q⟩
 |brk=>obtain⟨σ',H',I,q⟩:=h;exact⟨σ',H',I.CQ,q⟩
 |cont=>obtain⟨σ',H',I,q⟩:=h;exact⟨σ',H',I.CQ,q⟩
 |ret u=>obtain⟨v,σ',H',I,r,q⟩:=h;exact⟨v,σ',H',I.CQ,r,q⟩
theorem f9.dH(z:f9 (X.pinned pn) ER v s):f9 X ER v s:=by
 obtain⟨e,C,dx,σ,H,tb,ev,I,he,fl,ht,hE⟩:=z
 exact⟨e,C,dx,σ,H,tb,ev,I.CQ.ve,he,fl,fun T q=>⟨(ht T q).1,(ht T q).2.above,(ht T q).2.loc,(ht T q).2.cell,fun p hp=>(ht T q).2.pn p (List.mem_append_left _ hp)⟩,hE⟩
theorem vi(L:Lets X ER):Lets (X.pinned pn) ER:=fun v s z=>L v s z.dH
theorem Ge:Lets X (fun _ _ _ _=>False):=fun _ _ ⟨_,_,_,_,_,_,_,_,_,_,_,z⟩=>z.elim
theorem Inv.mark(I:Inv X pins σ H s)(e:Addr):Inv (X.mark e) pins σ H s:=
 ⟨⟨I.ok.mod,I.ok.kind,I.ok.glob,I.ok.blt,I.ok.above,I.ok.inj,I.ok.has,I.ok.FD,fun z=>(by cases z),I.ok.frames,I.ok.Il,I.ok.MZ,I.ok.bs,I.ok.yL,I.ok.r8,I.ok.si,I.ok.iH,I.ok.B0⟩,I.os,I.bare,I.base,I.loc,I.cell,I.free,I.fH,I.pin,I.bF,I.len⟩
theorem Inv.unmark{e:Addr}(I:Inv (X.mark e) pins σ H s)(ok:X.Ok):Inv X pins σ H s:=⟨ok,I.os,I.bare,I.base,I.loc,I.cell,I.free,I.fH,I.pin,I.bF,I.len⟩
def PH(X:Cx)(hs:List ExceptHandler)(th:Ends→St→XK):Prop:=
 ∀(s:Shared) (σ:St) (H:Hp) (D:Ends) (e C:Addr) (dx:Option Addr) (T:Addr),Inv X [] σ H s→H e=some (lT e C dx)→s.heap.j9 e (some T)→H T=none→gR X T→th D σ (.ref C) dx H→
  wpAny (model X.prog X.w) X.A (handleBy (.ref e) X.env hs) (SP X [] D) X.xe s
theorem CS(L:Lets X ER):PH X [] (fun _=>ER):=by
 intro s σ H D e C dx T I he fl hT nT hE
 refine wpAny_handleBy_nil ?_
 obtain⟨oe,vs,h1,h2,h3⟩:=id fl.ex
 unfold PySem.passOn
 refine wpAny_bind (wpAny_field h1 h2 h3 ?_)
 rw[if_neg (by simp)]
 have ht:∀T',some T=some T'→H T'=none∧gR X T':=fun T' z=>by cases z;exact⟨hT,nT⟩
 refine wpAny_bind (eK fl fun h' a m=>wpAny_throw (L _ _ ⟨e,C,dx,σ,H,some T,rfl,I.moved he ht (m.mono fun _ z=>absurd z (by simp)),he,a,ht,hE⟩))
def Ow(K:PySem.W.Frag)(PC:Addr)(i:Nat)(ts:TS)(tr:Ends→St→XK):Ends→St→XK:=fun D σ cv dx H=>
 ∃C HE f b,cv= .ref C∧PySem.W.cH K C HE f∧PySem.W.mroIn K C (.ref PC)=some b∧
  if b=true then∀e,H e=some (lT e C dx)→ts { D with nx:=fun σ1 H1=>D.nx (σ1.set i none) H1,bk:=fun σ1 H1=>D.bk (σ1.set i none) H1,ct:=fun σ1 H1=>D.ct (σ1.set i none) H1 } (σ.set i (some (.ref e))) H else tr D σ cv dx H
theorem name_goes{i:Nat}{n:Str}{pos:Pos}{Q:Unit→Shared→Prop}{A:Around}{E:Value→Shared→Prop}(I:Inv X pins σ H s)(hN:X.N.Nodup)(hi:X.N[i]? =some n)(hl:X.env.scope.names.lookup n=some .local)
  (k:∀s',Inv X pins (σ.set i none) H s'→Q () s'):wpAny (model X.prog X.w) A (do bindName X.env n .none;unbindBehindTheSuite X.env n pos) Q E s:=by
 have Kc:(X.env.scope.kind== .class||(X.env.scope.kind== .module&&X.env.locals != X.env.globals))=false:=by rw[I.ok.kind];rfl
 refine wpAny_bind (wpAny_bindName (store_ok I hN hi (.inl hl) (v:= .cJ) rfl (fun s1 J=>?_) (.inr hl)))
 have hii:i<σ.length:=by rw[I.len];exact(List.getElem?_eq_some_iff.mp hi).1
 obtain⟨m,hn,ID⟩:=id J.loc
 obtain⟨u,_,lk⟩:=ID i n .cJ hi (by rw[List.getElem?_set_self hii]) (.inl hl)
 have hmn:(m n).isSome=true:=by
  rcases lk with ⟨_,z⟩ | ⟨z,_⟩
  ·rw[z];rfl
  ·rcases z with z|z
   ·have:X.env.scope.names.lookup n=some .cell:=z
    rw[hl] at this;cases this
   ·have:X.env.scope.names.lookup n=some .free:=z
    rw[hl] at this;cases this
 unfold unbindBehindTheSuite
 refine wpAny_onRaise ?_
 unfold unbindName
 refine wpAny_bind (wpAny_point (wpAny_bind ?_))
 unfold deleteName
 have kl:X.env.kindOf n=some .local:=hl
 simp only [kl,Kc]
 rw[if_neg (by decide)]
 refine wpAny_bind (wpAny_nsDel_keeps hn fun h2 v2 Iw sb=>?_)
 rw[hmn]
 refine wpAny_pure (wpAny_point (k _ ?_))
 obtain⟨oL,_,_,hoL,_⟩:=id hn
 have lo:∀b o,X.s₀.heap.get? b=some o→b≠X.env.locals:=fun b o q=>Nat.ne_of_lt (Nat.lt_of_lt_of_le (Heap.lt_size q) J.ok.above)
 refine⟨J.ok,J.os,J.bare,⟨fun b o e nn hb hx=>(sb.2 b (lo b o e)).trans (J.base.keep b o e nn hb hx),fun b o e nn hb hx=>?_,J.base.free,fun b o e hx=>?_,J.base.qd,J.base.oj,J.base.qe⟩,⟨_,Iw,fun j y v' e1 e2 e3=>?_⟩,fun y c e=>?_,J.free,J.fH,fun p hp=>?_,fun b ob e=>?_,by simpa using I.len⟩
 ·obtain⟨sl,e1⟩:=J.base.slot b o e nn hb hx
  exact⟨sl,(sb.2 b (lo b o e)).trans e1⟩
 ·obtain⟨o',e1⟩:=J.base.there b o e hx
  exact⟨o',(sb.2 b (lo b o e)).trans e1⟩
 ·by_cases hj:j=i
  ·subst hj
   rw[List.getElem?_set_self hii] at e2
   cases e2
  ·rw[List.getElem?_set_ne (Ne.symm hj)] at e2
   obtain⟨u',r',q⟩:=ID j y v' e1 (by rw[List.getElem?_set_ne (Ne.symm hj)];exact e2) e3
   refine⟨u',r',?_⟩
   rcases q with ⟨k,e⟩ | ⟨k,c,e,z⟩
   ·refine .inl ⟨k,?_⟩
    have:y≠n:=fun e=>hj (om hN e1 (e▸hi))
    simp [this,e]
   ·exact .inr ⟨k,c,e,z.sameBut sb (J.FE y c e)⟩
 ·obtain⟨w',z⟩:=J.cell y c e
  exact⟨w',z.sameBut sb (J.FE y c e)⟩
 ·obtain⟨e,nn,ne,nf,d⟩:=J.pin p hp
  exact⟨(sb.2 p.1 ne).trans e,nn,ne,nf,d⟩
 ·refine(J.bF b ob e).qc (fun c w' hc q=>(sb.2 c ?_).trans q) (fun _ q=>q) fun _ _ q=>q
  rintro rfl
  rcases hc with rfl|hc
  ·rw[J.free] at e;cases e
  ·rw[J.free] at hc;cases hc
theorem Ox{x n:Str}{np pos:Pos}{b0:Stmt}{ja:List Stmt}{rest:List ExceptHandler}{PC:Addr}{i:Nat}{ts:TS}{tr:Ends→St→XK}(hg:Gl X x)(hm:X.mg x=some (.ref PC))(Y:PySem.W.vh X.K PC)(hN:X.N.Nodup)(hi:X.N[i]? =some n)
  (hl:X.env.scope.names.lookup n=some .local) (Lb:∀e,jV (X.mark e) (b0::ja) ts) (hr:PH X rest tr) (hd:(x==("__debug__" :Str))=false:=by decide):
  PH X (.ExceptHandler (some (.Name x np)) (some n) (b0::ja) pos::rest) (Ow X.K PC i ts tr):=by
 intro s σ H D e C dx T I he fl hT nT hE
 obtain⟨C',HE,f,b,ec,Z,mb,hE⟩:=hE
 cases ec
 obtain⟨o,vs,o1,o2,o3,o4⟩:=oK I.bF he
 have ht:∀T',some T=some T'→H T'=none∧gR X T':=fun T' z=>by cases z;exact⟨hT,nT⟩
 refine wpAny_handleBy_cons (codeAny_handlers_test (eQ (X:=X.mark e) (I.mark e) hg hm (PySem.W.oR I.fb Z Y o1 o2 mb ?_) hd)) (by intro z;cases z)
 cases b with
 |false=>exact hr s σ H D e C dx T I he fl hT nT hE
 |true=>
  have hE:=hE e he
  refine codeAny_handlers_suite_as (eK fl fun h1 a m=>?_)
  have I1:=I.moved he ht (m.mono fun _ z=>absurd z (by simp))
  refine store_ok I1 hN hi (.inl hl) (v:= .ref e) rfl (fun s2 I2=>?_) (.inr hl)
  refine wpAny_mono (Lb e [] s2 _ H _ (I2.mark e) hE) (fun f s3 q=>?_) fun _ _ z=>False.elim z
  cases f with
  |next=>
   obtain⟨σ',H',I3,q⟩:=q
   exact name_goes (I3.unmark I.ok) hN hi hl fun s4 I4=>⟨_,H',I4,q⟩
  |brk=>
   obtain⟨σ',H',I3,q⟩:=q
   exact name_goes (I3.unmark I.ok) hN hi hl fun s4 I4=>⟨_,H',I4,q⟩
  |cont=>
   obtain⟨σ',H',I3,q⟩:=q
   exact name_goes (I3.unmark I.ok) hN hi hl fun s4 I4=>⟨_,H',I4,q⟩
  |ret u=>
   obtain⟨v,σ',H',I3,r,q⟩:=q
   exact name_goes (I3.unmark I.ok) hN hi hl fun s4 I4=>⟨v,_,H',I4,r,q⟩
def Oy(tb:(St→XK)→TS)(th:Ends→St→XK):TS:=fun D σ H=>tb (th D) D σ H
theorem zk{body:List Stmt}{h0:ExceptHandler}{hs:List ExceptHandler}{pos:Pos}{tb:(St→XK)→TS}{th:Ends→St→XK}(fm:AW X)(hb:∀pn ER',jV ((X.pinned pn).gH (f9 (X.pinned pn) ER')) body (tb ER'))(hh:∀pn,PH (X.pinned pn) (h0::hs) th):
  PS X (.Try body (h0::hs) [] [] pos) (Oy tb th):=by
 intro pins s σ H D I h
 have fin:∀{f s1},SP (X.pinned pins) [] D f s1→SP X pins D f s1:=fun q=>q.dH
 refine wpAny_Try_except (wpAny_mono (hb pins (th D) [] s σ H D (I.Vh.gH _) h) (fun f s1 q=>?_) fun v s1 z=>?_)
 ·have q:=fin q.cZ
  cases f with
  |next=>exact wpAny_execs_nil q
  |brk=>exact q
  |cont=>exact q
  |ret u=>exact q
 ·obtain⟨e,C,dx,σ1,H1,tb,ev,I1,he,fl,ht,hE⟩:=z
  subst ev
  have Vi:AW (X.pinned pins):=fm
  obtain⟨fr,ff⟩:=gS Vi I1
  refine kL fr ff Vi.2 fl fun h2 T a b m=>?_
  have m1:Heap.Moved (pY (X.pinned pins).stack) e tb s1.heap h2:=by unfold pY;rw[Vi.1];exact m
  have I2:=I1.moved he ht m1
  have t1:=oO I1 ht b
  refine eK (s:={ s1 with heap:=h2 }) a fun h3 a3 m3=>?_
  have I3:=I2.moved he t1 (m3.mono fun _ z=>absurd z (by simp))
  exact bN (hh pins _ σ1 H1 D e C dx T I3 he a3 (t1 T rfl).1 (t1 T rfl).2 hE) fun f s4 q=>fin q
end
end L2
namespace L2
open PySem PySem.Spec PyProof.Rows
section
variable {X:Cx}{tg:Expr}
end
section
variable {K:PySem.W.Frag}{g:TG}{tt:TT}{te:TE}
end
end L2
namespace L2
open PySem PySem.Spec PyProof.Rows PySem.W
section
variable {X:Cx}
end
end L2
namespace L2
open PySem PySem.Spec PyProof.Rows
section
variable {P:Program}{w:World}{K:PySem.W.Frag}{mg:Str→Option Value}{base:Heap}
def Gf(K:PySem.W.Frag)(C:Addr)(q:Str)(st:Stmt)(ps:List Str):Prop:=∃f fd dV,CC K "__init__" q st f fd dV∧Mk K C f∧Binds K fd ps []∧Binds K fd ps [.none]
structure Vj(P:Program)(w:World)(K:PySem.W.Frag)(mg:Str→Option Value)(base:Heap)(CX:uz)(k:Nat)(C:Addr)(ps:List Str)(sp:Sp)(f:Addr)(fd:FuncData):Prop where
 ok:dj P w K mg base CX k f fd ps sp
 m:Mk K C f
 b0:Binds K fd ps []
 b1:Binds K fd ps [.none]
def CT(P:Program)(w:World)(K:PySem.W.Frag)(mg:Str→Option Value)(base:Heap)(CX:uz)(k:Nat)(C:Addr)(ps:List Str)(sp:Sp):Prop:=∃f fd,Vj P w K mg base CX k C ps sp f fd
theorem Gf.fW{C:Addr}{q:Str}{st:Stmt}{N ps:List Str}{k:Nat}{sp:Sp}(D:Gf K C q st ps)(S:az N ps (ag st))(len:∀vs H Q E,sp vs H Q E→vs.length=ps.length)
  (cS:∀(f:Addr) (br:Value) (A:Around) (outer:List Env) (s:Shared) (H:Hp) (vs:List V) (Q:VK) (E:XK),cf k (A.deeper (envOfC q (ag st) s.heap.objs.size f br))→sp vs H Q E→
   ∃t,jV (fI js P w K mg base N q (ag st) f br A outer s H E).Cg (bh st) t∧t { nx:=fun _ H'=>Q .cJ H',rt:=Q } (start N vs) H):CT P w K mg base js (k+1) C ps sp:=by
 obtain⟨f,fd,dV,F,g,b0,b1⟩:=D
 exact⟨f,fd,F.ok S len (cS f),g,b0,b1⟩
theorem Vk:Vals [V.cJ] [Value.none]:= .cons rfl .nil
end
end L2
namespace PySem.W
open PySem PySem.Spec PySem.Calls PyProof.Rows
section
variable {prog:Program}{w:World}{A:Around}{E:Value→Shared→Prop}{s:Shared}{K:Frag}{e C HE f:Addr}{ox:Obj}{od:Option Obj}
theorem vj{name:Str}{a g:Value}(hc:(clsIn K C).isSome=true)(ha:findIn K (.ref C) name=some (some a))(hg:specialIn K a "__get__" =some (some g))(ht:takesIn K a=some true):findObj K C od name=some (.bind g a):=by
 obtain⟨cd,hc⟩:=Option.isSome_iff_exists.mp hc
 unfold findObj
 rw[hc,Option.bind_some,ha,Option.bind_some]
 simp [hg,ht]
theorem CU{Q:Option Value→Shared→Prop}(X:K.In s.heap)(Z:cH K C HE f)(I:InstAt s.heap e ox C od)(hf:findObj K C od "__class__" =some (.bind (.builtin "getset_descriptor.__get__") (.builtin "object.__class__")))
  (h:Q (some (.ref C)) { s with toks:=s.toks+1 }):wpAny (model prog w) A (getAttr? (.ref e) "__class__") Q E s:=by
 have T0:=I.type (M:=model prog w)
 have SG:=PySem.F.attr_ValueError.ga
 unfold getAttr? getAttrBy? getAttrBy
 refine wpAny_bind (wpAny_mkText (wpAny_bind (wpAny_attempt (wpAny_holding (wpAny_bind (T0 _ _ _ _ (fun _ _ y=>y) (wpAny_bind (looks_findIn X Z.ga _ _ _ _ (fun _ _ y=>y) ?_))))))))
 dsimp only
 rw[show (onTheHeap (Value.ref C)&&Value.builtin "BaseException.__getattribute__" ==Value.builtin "object.__getattribute__")=false from by rw[show (Value.builtin "BaseException.__getattribute__" ==Value.builtin "object.__getattribute__")=false from by decide+kernel,Bool.and_false],if_neg (by decide)]
 refine wpAny_bind (looks_hook X (show (if onTheHeap (Value.ref C) then findIn K (.ref C) "__getattr__" else some none)=some none from Z.gh) _ _ _ _ (fun _ _ y=>y) (wpAny_bind (wpAny_attempt (wpAny_holding ?_))))
 unfold callGetattribute
 rw[show (false&&onTheHeap (Value.builtin "BaseException.__getattribute__"))=false from rfl,if_neg (by decide)]
 unfold boundAndCalled
 rw[SG.bind]
 refine wpAny_bind (wpAny_pure ?_)
 show wpAny _ _ (call (.builtin "BaseException.__getattribute__") [.ref e, .str "__class__" s.toks]) _ _ _
 refine wpAny_call (codeAny_call_builtin SG.plain PySem.F.entry_bexc_ga ?_)
 refine @check_slot (model prog w) _ _ { s with toks:=s.toks+1 } "BaseException.__getattribute__" "BaseException" "__getattribute__" (.ref e) [.str "__class__" s.toks] [] _ (by decide+kernel) (by decide+kernel) (T0.andThen (looks_mroIn X (Z.mro (by decide+kernel)))) (PySem.F.args_bexc_ga _ _) ?_
 have l1:=looks_find (M:=model prog w) X I hf
 unfold Builtin.«object.__getattribute__»
 refine wpAny_bind (wpAny_of_eq (a:=(Value.ref e,[Value.str "__class__" s.toks])) rfl ?_)
 refine wpAny_bind (wpAny_pure (a:=("__class__" :Str)) (wpAny_bind (T0 _ _ _ _ (fun _ _ y=>y) (wpAny_bind (l1 _ _ _ _ (fun _ _ y=>y) ?_)))))
 show wpAny _ _ (holding [Value.builtin "object.__class__"] (call (.builtin "getset_descriptor.__get__") [.builtin "object.__class__", .ref e, .ref C]) >>= ret) _ _ _
 refine wpAny_bind (wpAny_holding (wpAny_call (class_get (s:={ s with toks:=s.toks+1 }) (ox:=ox) (od:=od) X I (Z.mro (by decide+kernel)) ?_)))
 refine wpAny_pure ?_
 show wpAny _ _ (handedOut (Value.ref C)) _ _ _
 rw[handedOut_of rfl]
 exact wpAny_pure (wpAny_pure h)
theorem CV(Z:cH K C HE f)(ha:findIn K (.ref C) "__class__" =some (some (.builtin "object.__class__")))(hn:specialIn K (.builtin "object.__class__") "__get__" =some (some (.builtin "getset_descriptor.__get__")))(To:takesIn K (.builtin "object.__class__")=some true):
  KitX K (.ref e) (.ref C) (fun h=>InstAt h e ox C od) where
 ty:=fun _ _ _ I=>I.type
 it:=fun _ _ X _=>by
  obtain⟨cdD,FL,_⟩:=Z.cd
  unfold clsIn at FL
  split at FL
  ·rename_i c' d' cd' Kb ho
   intro A' Q' E' s' k q
   unfold isType loadHead
   exact wpAny_bind (wpAny_loadPart (k _ _ (X _ _ ho)) (wpAny_pure q))
  ·cases FL
 ne:=fun h tp dd its n sl X htp=>by
  obtain⟨cdD,FL,_⟩:=Z.cd
  refine Bool.eq_false_iff.mpr fun q=>?_
  have e:C=tp:=Value.ref.inj (beq_iff_eq.mp q)
  subst e
  unfold clsIn at FL
  split at FL
  ·rename_i c' d' cd' Kb ho
   have z:=(X _ _ ho).symm.trans htp
   cases z
  ·cases FL
 ca:=fun X I k=>CU X Z I (vj (by obtain⟨cd,hc,_⟩:=Z.cd;rw[hc];rfl) ha hn To) k
end
end PySem.W
namespace L2
open PySem PySem.Spec PyProof.Rows
variable [fJ]
def Oz(H:Hp)(e C:Addr):Prop:=H e=some (lT e C none)∨∃dx fs,H e=some (lT e C (some dx))∧H dx=some (wW dx fs)
structure XIs(K:PySem.W.Frag)(C:Addr):Prop where
 cls:PySem.W.findIn K (.ref C) "__class__" =some (some (.builtin "object.__class__"))
 get:PySem.W.specialIn K (.builtin "object.__class__") "__get__" =some (some (.builtin "getset_descriptor.__get__"))
 takes:PySem.W.takesIn K (.builtin "object.__class__")=some true
theorem dq{X:Cx}:gL X (.builtin "isinstance") (fun xs H Q=>∃e c cv C HE f b,xs=[.ref e,c]∧FY c=some cv∧PySem.W.cH X.K C HE f∧XIs X.K C∧Oz H e C∧PySem.W.kitOne X.K (.ref C) cv=some b∧Q (.bl b) H):=by
 intro pins s σ H xs us Q I r h
 obtain⟨e,c,cv,C,HE,f,b,rfl,hc,Z,Y,hE,ek,q⟩:=h
 obtain⟨u,v,rfl,ru,rv⟩:=vals2 r
 have hv:v=cv:=by
  cases c<;>simp only [FY,Option.some.injEq,reduceCtorEq] at hc
  ·cases (show v=Value.ref _ from rv);exact hc
  ·cases (show v=Value.type _ from rv);exact hc
 subst hv
 cases (show u=Value.ref e from ru)
 have J:∃ob od,PySem.W.InstAt s.heap e ob C od:=by
  rcases hE with hx| ⟨dx,fs,hx,hd⟩
  ·obtain⟨ob,vs,h1,h2,h3,h4⟩:=oK I.bF hx
   exact⟨ob,none,h1,h2,by unfold PySem.W.notCls;rw[h4],by rw[h3];trivial⟩
  ·obtain⟨ob,vs,h1,h2,h3,h4⟩:=oK I.bF hx
   obtain⟨mA,n1,r1,w1⟩:=xC I.bF hd
   obtain⟨od,ho,hl⟩:=lX n1
   exact⟨ob,some od,h1,h2,by unfold PySem.W.notCls;rw[h4],by rw[h3];exact ho⟩
 obtain⟨ob,od,J⟩:=J
 exact PySem.W.kia_one (PySem.W.CV Z Y.cls Y.get Y.takes) I.fb J ek (fun z=>nomatch z) fun tk=>⟨.bl b,H,I.tok tk,rfl,q⟩
end L2
namespace zm
open PySem PySem.Spec PySem.Builtin PySem.Builtin.Str
theorem CW{prog:Program}{w:World}{A:Around}{E:Value→Shared→Prop}{s:Shared}{x y:Str}{t u:Tok}{Q:Value→Shared→Prop}(hy:(y.length==0)=false)(hsz:x.length+2≤sizeLine)
  (h:∀l k,l.map (·.1)=Txt.split x y→Q (.ref s.heap.objs.size) { s with heap:=s.heap.push { cls:= .type "list",data:= .seq (strValues l).toArray },toks:=k }):
  wpAny (model prog w) A (call (.builtin "str.split") [.str x t, .str y u]) Q E s:=by
 have hn:(partsBetween x (occurrences x y 0 x.length (x.length+1)) y.length).length≤sizeLine:=by
  have e1:=StrLaws.occ_length_le x y 0 x.length (x.length+1)
  rw[length_partsBetween];omega
 cases h1:(decide (x.length<y.length)||decide (strKind x<strKind y))
 ·cases hf:(occurrences x y 0 x.length (x.length+1)).isEmpty
  ·refine call_meets F.slot_str_split (typeIs_str _ _ _) F.entry_str_split (F.args_str_split_2 _ _) (meets_str_split_sep x y t u h1 hy hf (by omega) hn) ?_
   show wants Q E _ { s with toks:=_,heap:=s.heap.push { cls:= .type "list",data:= .seq (strsFrom s.toks (partsBetween x (occurrences x y 0 x.length (x.length+1)) y.length)).toArray } }
   rw[strsFrom_eq]
   exact h (numbered s.toks _) _ ((numbered_texts _ _).trans ((if_neg (ne_true_of_eq_false h1)).trans (if_neg (ne_true_of_eq_false hf))).symm)
  ·exact call_meets F.slot_str_split (typeIs_str _ _ _) F.entry_str_split (F.args_str_split_2 _ _) (meets_str_split_not_found x y t u h1 hy hf)
    (h [(x,t)] s.toks ((if_neg (ne_true_of_eq_false h1)).trans (if_pos hf)).symm)
 ·exact call_meets F.slot_str_split (typeIs_str _ _ _) F.entry_str_split (F.args_str_split_2 _ _) (meets_str_split_cannot_occur x y t u h1)
   (h [(x,t)] s.toks (if_pos h1).symm)
end zm
namespace L2
open PySem PySem.Spec PyProof.Rows
section
variable {X:Cx}
theorem qh:bootBuiltins "ValueError" =some (.type "ValueError"):=by decide+kernel
theorem l7:∀(l:List (Str×Tok)),Vals ((l.map (·.1)).map V.str) (strValues l)
 | []=> .nil
 |p::r=> .cons ⟨p.2,rfl⟩ (l7 r)
def Lc:V→List V→Hp→VK→Prop:=fun x vs H Q=>∃z y:Str,x= .str z∧vs=[.str y]∧(y.length==0)=false∧z.length+2≤sizeLine∧(Txt.split z y).length≤sizeLine∧∀l,H l=none→Q (.ref l) (upd H l (.lst ((Txt.split z y).map V.str)))
theorem CY:N4 X "str.split" Lc:=by
 intro pins s σ H x vs v us Q I rx rv h
 obtain⟨z,y,rfl,rfl,hy,hz,hl,q⟩:=h
 obtain⟨t,e⟩:=(show∃t,v=Value.str z t from rx)
 subst e
 obtain⟨u,rfl,ru⟩:=rv.one
 obtain⟨t2,e⟩:=(show∃t,u=Value.str y t from ru)
 subst e
 refine zm.CW hy hz fun l k e=>?_
 have hv:=l7 l
 rw[e] at hv
 exact⟨.ref _,_,I.FU hv (by rw[List.length_map];exact hl),rfl,q _ I.fresh⟩
end
variable [fJ]
section
variable {X:Cx}
theorem Ld(K:PySem.W.Frag)(hK:X.K=K){x n:Str}{np pos:Pos}{b0:Stmt}{ja:List Stmt}{rest:List ExceptHandler}{PC:Addr}{i:Nat}{ts:TS}{tr:Ends→St→XK}(hg:Gl X x)(hm:X.mg x=some (.ref PC))(Y:PySem.W.vh K PC)(hN:X.N.Nodup)(hi:X.N[i]? =some n)
  (hl:X.env.scope.names.lookup n=some .local) (Lb:∀e,jV (X.mark e) (b0::ja) ts) (hr:PH X rest tr) (hd:(x==("__debug__" :Str))=false:=by decide):
  PH X (.ExceptHandler (some (.Name x np)) (some n) (b0::ja) pos::rest) (Ow K PC i ts tr):=by
 subst hK
 exact Ox hg hm Y hN hi hl Lb hr hd
end
section
variable {P:Program}{w:World}{K:PySem.W.Frag}{mg:Str→Option Value}{base:Heap}
structure Vl(P:Program)(w:World)(K:PySem.W.Frag)(mg:Str→Option Value)(base:Heap)(k:Nat)(x:Str)(ps:List Str)(sp:Sp)(f:Addr)(fd:FuncData):Prop where
 ok:dj P w K mg base (ug P w) k f fd ps sp
 kp:PySem.W.keepIn K (.ref f)=true
 b:Binds K fd ps []
 g:mg x=some (.ref f)
def gT(P:Program)(w:World)(K:PySem.W.Frag)(mg:Str→Option Value)(base:Heap)(k:Nat)(x:Str)(ps:List Str)(sp:Sp):Prop:=∃f fd,Vl P w K mg base k x ps sp f fd
structure OA(P:Program)(w:World)(K:PySem.W.Frag)(mg:Str→Option Value)(base:Heap)(k:Nat)(C:Addr)(m:Str)(ps:List Str)(sp:Sp)(f:Addr)(fd:FuncData):Prop where
 ok:dj P w K mg base (ug P w) k f fd ps sp
 m:Meth K C m f
 b:Binds K fd ps []
def aW(P:Program)(w:World)(K:PySem.W.Frag)(mg:Str→Option Value)(base:Heap)(k:Nat)(C:Addr)(m:Str)(ps:List Str)(sp:Sp):Prop:=∃f fd,OA P w K mg base k C m ps sp f fd
theorem Def.fj{x q:Str}{st:Stmt}{N ps:List Str}{k:Nat}{sp:Sp}(D:Def K mg x q st ps)(S:az N ps (ag st))(len:∀vs H Q E,sp vs H Q E→vs.length=ps.length)
  (cS:∀(f:Addr) (br:Value) (A:Around) (outer:List Env) (s:Shared) (H:Hp) (vs:List V) (Q:VK) (E:XK),cf k (A.deeper (envOfC q (ag st) s.heap.objs.size f br))→sp vs H Q E→
   ∃t,jV (IJ P w K mg base N q (ag st) f br A outer s H E) (bh st) t∧t { nx:=fun _ H'=>Q .cJ H',rt:=Q } (start N vs) H):gT P w K mg base (k+1) x ps sp:=by
 obtain⟨f,fd,F,b,g⟩:=D
 exact⟨f,fd,F.K6 S len (cS f),F.kp,b,g⟩
theorem bP.fj{C:Addr}{m q:Str}{st:Stmt}{N ps:List Str}{k:Nat}{sp:Sp}(D:bP K C m q st ps)(S:az N ps (ag st))(len:∀vs H Q E,sp vs H Q E→vs.length=ps.length)
  (cS:∀(f:Addr) (br:Value) (A:Around) (outer:List Env) (s:Shared) (H:Hp) (vs:List V) (Q:VK) (E:XK),cf k (A.deeper (envOfC q (ag st) s.heap.objs.size f br))→sp vs H Q E→
   ∃t,jV (IJ P w K mg base N q (ag st) f br A outer s H E) (bh st) t∧t { nx:=fun _ H'=>Q .cJ H',rt:=Q } (start N vs) H):aW P w K mg base (k+1) C m ps sp:=by
 obtain⟨f,fd,F,b,g⟩:=D
 exact⟨f,fd,F.K6 S len (cS f),g,b⟩
def kd(K:PySem.W.Frag)(mg:Str→Option Value)(x:Str)(C HE:Addr)(q:Str)(st:Stmt)(ps:List Str):Prop:=∃f fd,y9 K "__init__" q st f fd∧PySem.W.cH K C HE f∧Binds K fd ps []∧mg x=some (.ref C)∧PySem.W.keepIn K (.ref C)=true
structure OB(P:Program)(w:World)(K:PySem.W.Frag)(mg:Str→Option Value)(base:Heap)(k:Nat)(x:Str)(C HE:Addr)(ps:List Str)(sp:Sp)(f:Addr)(fd:FuncData):Prop where
 ok:dj P w K mg base js k f fd ps sp
 z:PySem.W.cH K C HE f
 b:Binds K fd ps []
 g:mg x=some (.ref C)
 kp:PySem.W.keepIn K (.ref C)=true
def eW(P:Program)(w:World)(K:PySem.W.Frag)(mg:Str→Option Value)(base:Heap)(k:Nat)(x:Str)(C HE:Addr)(ps:List Str)(sp:Sp):Prop:=∃f fd,OB P w K mg base k x C HE ps sp f fd
theorem kd.fW{x q:Str}{C HE:Addr}{st:Stmt}{N ps:List Str}{k:Nat}{sp:Sp}(D:kd K mg x C HE q st ps)(S:az N ps (ag st))(len:∀vs H Q E,sp vs H Q E→vs.length=ps.length)
  (cS:∀(f:Addr) (br:Value) (A:Around) (outer:List Env) (s:Shared) (H:Hp) (vs:List V) (Q:VK) (E:XK),cf k (A.deeper (envOfC q (ag st) s.heap.objs.size f br))→sp vs H Q E→
   ∃t,jV (fI js P w K mg base N q (ag st) f br A outer s H E).Cg (bh st) t∧t { nx:=fun _ H'=>Q .cJ H',rt:=Q } (start N vs) H):eW P w K mg base (k+1) x C HE ps sp:=by
 obtain⟨f,fd,F,Z,b,g,kp⟩:=D
 exact⟨f,fd,F.ok S len (cS f),Z,b,g,kp⟩
end
end L2
namespace zm
open PySem PySem.Spec PySem.Calls PyProof.Rows
section
variable {prog:Program}{w:World}{A:Around}{I:Addr}{fp wr:List Addr}{n:Nat}{P:Nat→Value→Prop}{St:Nat→Heap→Prop}
end
section
variable {prog:Program}{w:World}{A:Around}{E:Value→Shared→Prop}{s:Shared}{l:Addr}{xs:Array (Int×Tok)}{d:Value}
end
end zm
namespace L2
open PySem PySem.Spec PyProof.Rows
section
variable {X:Cx}
end
end L2
namespace L2
open PySem PySem.Spec
section
variable {X:Cx}
end
end L2
namespace L2
open PySem PySem.Spec
theorem cD{K:PySem.W.Frag}{C P:Addr}(h1:PySem.W.isClsIn K P=true)(h2:PySem.W.typeIn K (.ref P)=some (.type "type"))(h3:PySem.W.mroIn K C (.ref P)=some false)(h4:PySem.W.mroIn K C (.ref C)=some true):PySem.W.kitOne K (.ref C) (.ref P)=some false:=by
 have mL:¬(Value.ref C==Value.ref P)=true:=fun e=>by
  have e:Value.ref C=Value.ref P:=by simpa using e
  rw[←e,h4] at h3
  cases h3
 unfold PySem.W.kitOne
 rw[if_neg mL]
 unfold PySem.W.kitCls
 dsimp only
 rw[if_pos (by rw[show (PySem.W.clsIn K P).isSome=true from h1,h2,Bool.true_and];decide+kernel)]
 exact h3
theorem nK{K:PySem.W.Frag}{C HE f:Addr}(Z:PySem.W.cH K C HE f):PySem.W.kitOne K (.ref C) (.type "ValueError")=some true:=by
 unfold PySem.W.kitOne
 rw[if_neg (by simp)]
 unfold PySem.W.kitCls
 dsimp only
 rw[if_pos (by decide+kernel)]
 exact Z.mro (by decide+kernel)
theorem kO{K:PySem.W.Frag}(v:Value):PySem.W.kitOne K v v=some true:=by
 unfold PySem.W.kitOne
 rw[if_pos (by simp)]
end L2
namespace L2
open PySem PySem.Spec PyProof.Rows
theorem Vm{p:List Value→Prop}(us:List Value)(e:us.length=1)(h:∀a,p [a]):p us:=by
 cases us with
 |nil=>cases e
 |cons a us=>cases us with
  |nil=>exact h a
  |cons b us=>simp at e
theorem ln2{p:List Value→Prop}(us:List Value)(e:us.length=2)(h:∀a b,p [a,b]):p us:=by
 cases us with
 |nil=>cases e
 |cons a us=>exact Vm (p:=fun us=>p (a::us)) us (by simpa using e) (h a)
theorem Vn{p:List Value→Prop}(us:List Value)(e:us.length=3)(h:∀a b c,p [a,b,c]):p us:=by
 cases us with
 |nil=>cases e
 |cons a us=>exact ln2 (p:=fun us=>p (a::us)) us (by simpa using e) (h a)
theorem ln4{p:List Value→Prop}(us:List Value)(e:us.length=4)(h:∀a b c d,p [a,b,c,d]):p us:=by
 cases us with
 |nil=>cases e
 |cons a us=>exact Vn (p:=fun us=>p (a::us)) us (by simpa using e) (h a)
theorem ln5{p:List Value→Prop}(us:List Value)(e:us.length=5)(h:∀a b c d e,p [a,b,c,d,e]):p us:=by
 cases us with
 |nil=>cases e
 |cons a us=>exact ln4 (p:=fun us=>p (a::us)) us (by simpa using e) (h a)
section
variable {K:PySem.W.Frag}{h:Heap}{mg:Str→Option Value}{x m q:Str}{st:Stmt}{ps:List Str}{f C HE:Addr}
def dR(K:PySem.W.Frag)(x q:Str)(st:Stmt)(f:Addr):Prop:=(∃fd,y9 K x q st f fd)∧PySem.W.isFn K (.ref f)=true
def BB(x q:Str)(st:Stmt)(ps:List Str)(kV doc pm:Value)(an:Option Addr)(br ct:Value)(us:List Value):Prop:=bindArgs (PySem.W.fnOf x q (bH st) (bh st) (ag st) .none kV doc pm an br ct) ⟨us,[]⟩=pure (ps.zip us)
def BA(x q:Str)(st:Stmt)(ps:List Str):Prop:=∀(kV doc pm:Value) (an:Option Addr) (br ct:Value) (us:List Value),us.length=ps.length→BB x q st ps kV doc pm an br ct us
theorem jP{p0:Str}(h:∀(kV doc pm:Value) (an:Option Addr) (br ct u0:Value),BB x q st [p0] kV doc pm an br ct [u0]):BA x q st [p0]:=fun kV doc pm an br ct us hl=>Vm (p:=BB x q st [p0] kV doc pm an br ct) us hl (h kV doc pm an br ct)
theorem p6{p0 p1:Str}(h:∀(kV doc pm:Value) (an:Option Addr) (br ct u0 u1:Value),BB x q st [p0,p1] kV doc pm an br ct [u0,u1]):BA x q st [p0,p1]:=fun kV doc pm an br ct us hl=>ln2 (p:=BB x q st [p0,p1] kV doc pm an br ct) us hl (h kV doc pm an br ct)
theorem ba3{p0 p1 p2:Str}(h:∀(kV doc pm:Value) (an:Option Addr) (br ct u0 u1 u2:Value),BB x q st [p0,p1,p2] kV doc pm an br ct [u0,u1,u2]):BA x q st [p0,p1,p2]:=fun kV doc pm an br ct us hl=>Vn (p:=BB x q st [p0,p1,p2] kV doc pm an br ct) us hl (h kV doc pm an br ct)
theorem ba4{p0 p1 p2 p3:Str}(h:∀(kV doc pm:Value) (an:Option Addr) (br ct u0 u1 u2 u3:Value),BB x q st [p0,p1,p2,p3] kV doc pm an br ct [u0,u1,u2,u3]):BA x q st [p0,p1,p2,p3]:=fun kV doc pm an br ct us hl=>ln4 (p:=BB x q st [p0,p1,p2,p3] kV doc pm an br ct) us hl (h kV doc pm an br ct)
theorem ba5{p0 p1 p2 p3 p4:Str}(h:∀(kV doc pm:Value) (an:Option Addr) (br ct u0 u1 u2 u3 u4:Value),BB x q st [p0,p1,p2,p3,p4] kV doc pm an br ct [u0,u1,u2,u3,u4]):BA x q st [p0,p1,p2,p3,p4]:=fun kV doc pm an br ct us hl=>ln5 (p:=BB x q st [p0,p1,p2,p3,p4] kV doc pm an br ct) us hl (h kV doc pm an br ct)
theorem dI{N P:List Str}{sc:Scope}(a:sc.kind= .function:=by rfl)(b:sc.isCoroutine=false:=by rfl)(c:sc.isGenerator=false:=by rfl)(d:N.Nodup:=by decide+kernel)(e:N.take P.length=P:=by rfl)(f:∀x∈P,sc.names.lookup x=some .local∨sc.names.lookup x=some .cell:=by decide+kernel)(g:∀y∈sc.names,y.2≠ .free:=by decide+kernel):az N P sc:=⟨a,b,c,d,e,f,g⟩
theorem cA(X:K.In h)(G:h.Ns mainGlobals mg)(a:PySem.W.nsIn K mainGlobals x=some (some (.ref f)))(l:dR K x q st f)(b:BA x q st ps):Def K mg x q st ps:=by
 obtain⟨⟨fd,F⟩,_⟩:=l
 exact⟨f,fd,F,F.binds b,PySem.W.mg_of X G a⟩
theorem de(a:PySem.W.findIn K (.ref C) m=some (some (.ref f)))(l:dR K m q st f)(b:BA m q st ps):bP K C m q st ps:=by
 obtain⟨⟨fd,F⟩,i⟩:=l
 exact⟨f,fd,F,F.binds b,⟨a,i,F.kp⟩⟩
theorem CZ(k:PySem.W.makesIn K C=true)(a:PySem.W.findIn K (.ref C) "__init__" =some (some (.ref f)))(kc:PySem.W.keepIn K (.ref C)=true)(l:dR K "__init__" q st f)(b:BA "__init__" q st ps):i5 K C q st ps []:=by
 obtain⟨⟨fd,F⟩,i⟩:=l
 exact⟨f,fd, .none,⟨F.ex,F.kp⟩,⟨k,a,i,kc⟩,fun j _=>⟨[],by rw[List.drop_nil];exact .nil,F.binds b⟩⟩
theorem vk(Z:PySem.W.cH K C HE f)(g:mg x=some (.ref C))(kc:PySem.W.keepIn K (.ref C)=true)(l:dR K "__init__" q st f)(b:BA "__init__" q st ps):kd K mg x C HE q st ps:=by
 obtain⟨⟨fd,F⟩,i⟩:=l
 exact⟨f,fd,F,Z,F.binds b,g,kc⟩
end
end L2
namespace L2
open PySem PySem.Spec PyProof.Rows PySem.W PySem.Calls
section
variable {prog:Program}{w:World}{κ:Type}[DecidableEq κ]{knd:KeyKind prog w κ}{A:Around}{E:Value→Shared→Prop}{s:Shared}{d it:Addr}{i ep:Nat}{aL:List (κ×Value)}
end
section
variable {X:Cx}
end
end L2
namespace L2
open PySem PySem.Spec PyProof.Rows
end L2
namespace L2
open PySem PySem.Spec
variable [fJ]
theorem C0{X:Cx}{f:Str}{ex:Expr}{ta:TE}{pos:Pos}(K:PySem.W.Frag)(hK:X.K=K)(he:PE X ex ta)(hb:attributeBase ex f X.env (eval ex X.env)=eval ex X.env):PE X (.Attribute ex f pos) (IL K ta f):=by
 subst hK
 exact nJ he hb
end L2
namespace L2
open PySem PySem.Spec PyProof.Rows PySem.W
section
variable {X:Cx}
end
end L2
namespace L2
open PySem PySem.Spec PyProof.Rows
variable [fJ]
section
variable {prog:Program}{w:World}{A:Around}{R:Result→Shared→Prop}{s:Shared}
end
section
variable {X:Cx}{elt tg iter:Expr}{ifs:List Expr}{scope:Scope}{pos:Pos}{N:List Str}{fr:List (Option Nat)}{cl:List (Str×Addr)}{wi:TI}{g:TG}{tt:TT}{te:TE}
variable {teX:(St→XK)→TE}{ER:St→XK}
variable {F4 py:Pos}
end
end L2
namespace L2
open PySem PySem.Spec PyProof.Rows
section
variable {X:Cx}{e o:Expr}{es:List Expr}{t:TA}{ta:TE}{x m:Str}{ps:List Str}{sp:Sp}{f C:Addr}{fd:FuncData}{k n:Nat}{p apos pos:Pos}
end
end L2
namespace L2
open PySem
theorem Tw{p:Nat→Prop}(a:p 0)(b:p 1)(j:Nat)(h:j≤1):p j:=by
 cases j with
 |zero=>exact a
 |succ j=>cases j with
  |zero=>exact b
  |succ j=>omega
theorem bn1{K:PySem.W.Frag}{fd:FuncData}{ps:List Str}{ds:List Value}(l:ps.length=1+ds.length)(h:∀s a,K.In s.heap→BindsTo s fd ⟨[a],[]⟩ (ps.zip ([a]++ds))):Binds K fd ps ds:=fun s us hk hl=>Vm (p:=fun us=>BindsTo s fd ⟨us,[]⟩ (ps.zip (us++ds))) us (by rw[List.length_append] at hl;omega) fun a=>h s a hk
theorem OC{K:PySem.W.Frag}{fd:FuncData}{ps:List Str}{ds:List Value}(l:ps.length=2+ds.length)(h:∀s a b,K.In s.heap→BindsTo s fd ⟨[a,b],[]⟩ (ps.zip ([a,b]++ds))):Binds K fd ps ds:=fun s us hk hl=>ln2 (p:=fun us=>BindsTo s fd ⟨us,[]⟩ (ps.zip (us++ds))) us (by rw[List.length_append] at hl;omega) fun a b=>h s a b hk
theorem Tx{K:PySem.W.Frag}{fd:FuncData}{ps:List Str}{ds:List Value}(l:ps.length=3+ds.length)(h:∀s a b c,K.In s.heap→BindsTo s fd ⟨[a,b,c],[]⟩ (ps.zip ([a,b,c]++ds))):Binds K fd ps ds:=fun s us hk hl=>Vn (p:=fun us=>BindsTo s fd ⟨us,[]⟩ (ps.zip (us++ds))) us (by rw[List.length_append] at hl;omega) fun a b c=>h s a b c hk
end L2
namespace L2
open PySem PySem.Spec PyProof.Rows
section
variable {X:Cx}{o:Expr}{to:TE}{apos iI:Pos}
theorem zo(a:Array Nat):∀(n:Nat) (acc:Array Nat),((List.replicate n a).foldl (·++·) acc).size=acc.size+a.size*n
 |0,acc=>by simp
 |n+1,acc=>by
  rw[List.replicate_succ,List.foldl_cons,zo a n,Array.size_append,Nat.mul_succ]
  omega
end
end L2
namespace L2
open PySem PySem.Spec PyProof.Rows
section
variable {X:Cx}
end
end L2
namespace PySem
section
variable {prog:Program}{w:World}{A:Around}{E:Value→Shared→Prop}{s:Shared}
end
namespace F
end F
section
variable {prog:Program}{w:World}{K:Type}[DecidableEq K]{knd:KeyKind prog w K}{A:Around}{E:Value→Shared→Prop}{s:Shared}
end
end PySem
namespace L2
open PySem PySem.Spec PyProof.Rows
end L2
namespace PySem.W
open PySem PySem.Calls PyProof.Rows
section
variable {prog:Program}{w:World}{A:Around}{E:Value→Shared→Prop}{s:Shared}{K:Frag}{env:Env}
theorem qi:entryFor table "proto.unchain" =some Builtin.«proto.unchain» :=entryFor_of_tree (by kernel_rfl)
theorem A1{x c:Sem Value}{Q:Flow→Shared→Prop}{e':Addr}(ha:A.handled=some (.ref e'))
  (k:wpAny (model prog w) A x (fun v s1=>wpAny (model prog w) A c (fun u s2=>u= .none∧∃e oe vs C HE f Vo AU,v= .ref e∧e≠e'∧K.In s2.heap∧cH K C HE f∧s2.heap.get? e=some oe∧oe.cls= .ref C∧oe.data= .fields vs∧vs[1]? =some .none∧vs.size=6∧
   s2.heap.get? e'=some Vo∧Vo.data= .fields AU∧AU[2]? =some .none∧
   ∀h',h'.get? e=some { oe with data:= .fields (((vs.setIfInBounds 3 .none).setIfInBounds 4 (.bool true)).setIfInBounds 2 (.ref e')) }→(∀b o,b≠e→s2.heap.get? b=some o→h'.get? b=some o)→h'.objs.size=s2.heap.objs.size→E (.ref e) { s2 with heap:=h' }) E s1) E s):
  wpAny (model prog w) A (raiseStmt env (some x) (some c)) Q E s:=by
 unfold raiseStmt
 refine wpAny_bind (wpAny_mono k (fun v s1 y=>?_) fun _ _ y=>y)
 refine wpAny_bind (wpAny_holding (wpAny_mono y (fun u s2 y=>wpAny_bind (wpAny_pure ?_)) fun _ _ y=>y))
 obtain⟨rfl,e,oe,vs,C,HE,f,Vo,AU,rfl,ne,X,Z,he,hc,hd,h1,hz,AV,Im,h2',hE⟩:=y
 have cB:(Value.ref C:: .ref HE::pZ).contains (.type "BaseException")=true:=f7 (by decide+kernel)
 obtain⟨nm,q,N,bs,sn,sub,ab,col,dd,k0,k1,k2,k3,k5,hK⟩:=Z.obj
 have kC:=X _ _ hK
 obtain⟨hp,g,d,tk,os⟩:=s2
 obtain⟨oc,M4,Tu,nD⟩:=oe
 dsimp only at hc hd
 subst hc hd
 refine wpAny_bind (wpAny_holding ?_)
 repeat (first|with_reducible refine wpAny_loadPart_at he ?_|with_reducible refine wpAny_loadPart_at kC ?_| (with_reducible refine wpAny_isSubtype_exc kC ?_;rw[cB]) |wp_step)
 have nC:C≠e:=fun z=>by
  rw[z,he] at kC
  cases kC
 generalize hG:(hp.update e (Obj.mapFields fun x=>x.setIfInBounds 3 Value.none)).update e (Obj.mapFields fun x=>x.setIfInBounds 4 (Value.bool true))=G
 have g0:=Heap.get?_update_self (Obj.mapFields (·.setIfInBounds 3 Value.none)) he (Obj.isFreed_of_fields (Obj.data_mapFields rfl _))
 have ge:G.get? e=some { cls:= .ref C,dict:=M4,data:= .fields ((vs.setIfInBounds 3 .none).setIfInBounds 4 (.bool true)),slots:=nD }:=by
  rw[←hG]
  exact Heap.get?_update_self (Obj.mapFields (·.setIfInBounds 4 (Value.bool true))) g0 (Obj.isFreed_of_fields (Obj.data_mapFields rfl _))
 have go:∀b o,b≠e→hp.get? b=some o→G.get? b=some o:=fun b o be q=>by
  rw[←hG]
  exact(Heap.get?_update_other _ _ (Ne.symm be)).trans ((Heap.get?_update_other _ _ (Ne.symm be)).trans q)
 have gz:G.objs.size=hp.objs.size:=by
  rw[←hG,Heap.size_after_update,Heap.size_after_update]
 have gC:=go _ _ nC kC
 have ge':=go _ _ (Ne.symm ne) AV
 repeat (first|with_reducible refine wpAny_loadPart_at ge ?_|with_reducible refine wpAny_loadPart_at gC ?_|wp_step)
 rw[show ((vs.setIfInBounds 3 Value.none).setIfInBounds 4 (Value.bool true))[1]? =some .none from by rw[Array.getElem?_setIfInBounds_ne (by decide),Array.getElem?_setIfInBounds_ne (by decide)];exact h1]
 refine wpAny_pure ?_
 rw[if_neg (by decide)]
 refine wpAny_pure ?_
 unfold raiseNew
 refine wpAny_bind (wpAny_handled ?_)
 rw[ha]
 dsimp only
 rw[if_pos (show (Value.ref e' != Value.ref e)=true from by simp [Ne.symm ne])]
 refine wpAny_bind (wpAny_holding (wpAny_runValue (codeAny_builtin qi ?_)))
 unfold Builtin.«proto.unchain»
 dsimp only
 refine wpAny_bind (wpAny_field ge' Im h2' ?_)
 rw[if_pos (by decide)]
 refine wpAny_pure ?_
 show wpAny (model prog w) A (do
  setField (.ref e) 2 (Value.ref e')
  throw (Value.ref e)) Q E _
 refine wpAny_bind (wpAny_setField ge rfl (by rw[Array.size_setIfInBounds,Array.size_setIfInBounds,hz];decide) (wpAny_throw ?_))
 refine hE _ ?_ (fun b o be q=>(Heap.get?_update_other _ _ (Ne.symm be)).trans (go b o be q)) (by rw[Heap.size_after_update];exact gz)
 exact Heap.get?_update_self (Obj.mapFields (·.setIfInBounds 2 (Value.ref e'))) ge (Obj.isFreed_of_fields (Obj.data_mapFields rfl _))
end
end PySem.W
namespace L2
open PySem PySem.Spec PyProof.Rows
variable [fJ]
section
variable {P:Program}{w:World}{K:PySem.W.Frag}{mg:Str→Option Value}{base:Heap}
structure zq(P:Program)(w:World)(K:PySem.W.Frag)(mg:Str→Option Value)(base:Heap)(k:Nat)(f:Addr)(fd:FuncData)(ps:List Str)(sp:Sp):Prop where
 len:∀vs H Q E,sp vs H Q E→vs.length=ps.length
 run:∀(e:Addr) (A:Around) (outer:List Env) (s:Shared) (H:Hp) (args:Args) (us:List Value) (vs:List V) (Q:VK) (E:XK),cf k A→sC P w K mg base A outer s H→BindsTo s fd args (ps.zip us)→Vals vs us→sp vs H Q E→
  codeAny (model P w) (A.mark (some (.ref e))) (.call (.ref f) args) (CR js outer P w H s Q E) s
theorem y9.okH{x qual:Str}{st:Stmt}{f:Addr}{fd:FuncData}{N ps:List Str}{k:Nat}{sp:Sp}(F:y9 K x qual st f fd)(S:az N ps (ag st))(len:∀vs H Q E,sp vs H Q E→vs.length=ps.length)
  (cS:∀(e:Addr) (br:Value) (A:Around) (outer:List Env) (s:Shared) (H:Hp) (vs:List V) (Q:VK) (E:XK),cf k (A.deeper (envOfC qual (ag st) s.heap.objs.size f br))→sp vs H Q E→
   ∃t,jV ((fI js P w K mg base N qual (ag st) f br A outer s H E).mark e) (bh st) t∧t { nx:=fun _ H'=>Q .cJ H',rt:=Q } (start N vs) H):zq P w K mg base (k+1) f fd ps sp:=by
 obtain⟨oc,od,kV,doc,pm,an,br,ct,nD,rfl,lk,mZ⟩:=F.ex
 refine⟨len,fun e A outer s H args us vs Q E hr e0 hb r uH=>?_⟩
 have hl:=len _ _ _ _ uH
 have KX:K.In s.heap:=e0.mod.B'.keeps fun b o e=>(e0.bs b o e).1
 have lim:s.heap.NoLimit:=e0.mod.nolimit.keeps fun b o e=>(e0.bs b o e).1
 have Cv:∀y∈ps.zip us,(ag st).names.lookup y.1=some .local∨((ag st).names.lookup y.1=some .cell∧((cellsFrom (s.heap.objs.size+1) (ag st).names []).lookup y.1).isSome=true):=fun⟨n,v⟩ hy=>by
  rcases S.par n (List.of_mem_zip hy).1 with q|q
  ·exact .inl q
  ·exact .inr ⟨q,PySem.W.cellsFrom_some _ _ _ (.inl q)⟩
 refine codeAny_call_function (A:=A.mark (some (.ref e))) hr.depth (KX _ _ lk) rfl S.co S.gen rfl (PySem.W.codeRec_of KX mZ) (hb _ _ _ _ ?_)
 refine wpAny_newFunctionEnv_cells S.kind Cv fun env he s1 x=>?_
 subst he
 refine⟨lim.keeps x.toInCall.keep,codeAny_func ?_⟩
 obtain⟨t,ht,hq⟩:=cS e br A outer s H vs Q E (hr.deeper _) uH
 have I:Inv (fI js P w K mg base N qual (ag st) f br A outer s H E) [] (start N vs) H s1:=qF S hr.hd e0 hl r x
 refine wpAny_mono (ht [] s1 (start N vs) H _ (I.mark e) hq) (fun fl s' hs=>?_) fun e s' hs=>False.elim hs
 have fin:∀{σ':St} {H':Hp} {v:V} {u:Value},Inv ((fI js P w K mg base N qual (ag st) f br A outer s H E).mark e) [] σ' H' s'→RelV v u→Q v H'→CE outer P w H s Q u s':=
  fun {σ' H' v u} J rv q=>⟨v,H',J.os,J.bare,J.base,J.bF,rv,q⟩
 cases fl with
 |ret u=>
  obtain⟨v,σ',H',J,rv,q⟩:=hs
  exact fin J rv q
 |next=>
  obtain⟨σ',H',J,q⟩:=hs
  exact fin (v:=V.cJ) (u:=Value.none) J rfl q
 |brk=>
  obtain⟨_,_,_,q⟩:=hs
  exact False.elim q
 |cont=>
  obtain⟨_,_,_,q⟩:=hs
  exact False.elim q
structure OD(P:Program)(w:World)(K:PySem.W.Frag)(mg:Str→Option Value)(base:Heap)(k:Nat)(x:Str)(C HE:Addr)(ps:List Str)(sp:Sp)(f:Addr)(fd:FuncData):Prop where
 ok:zq P w K mg base k f fd ps sp
 z:PySem.W.cH K C HE f
 b:Binds K fd ps []
 g:mg x=some (.ref C)
 kp:PySem.W.keepIn K (.ref C)=true
def xD(P:Program)(w:World)(K:PySem.W.Frag)(mg:Str→Option Value)(base:Heap)(k:Nat)(x:Str)(C HE:Addr)(ps:List Str)(sp:Sp):Prop:=∃f fd,OD P w K mg base k x C HE ps sp f fd
theorem kd.Vp{x q:Str}{C HE:Addr}{st:Stmt}{N ps:List Str}{k:Nat}{sp:Sp}(D:kd K mg x C HE q st ps)(S:az N ps (ag st))(len:∀vs H Q E,sp vs H Q E→vs.length=ps.length)
  (cS:∀(f e:Addr) (br:Value) (A:Around) (outer:List Env) (s:Shared) (H:Hp) (vs:List V) (Q:VK) (E:XK),cf k (A.deeper (envOfC q (ag st) s.heap.objs.size f br))→sp vs H Q E→
   ∃t,jV ((fI js P w K mg base N q (ag st) f br A outer s H E).mark e) (bh st) t∧t { nx:=fun _ H'=>Q .cJ H',rt:=Q } (start N vs) H):xD P w K mg base (k+1) x C HE ps sp:=by
 obtain⟨f,fd,F,Z,b,g,kp⟩:=D
 exact⟨f,fd,F.okH S len (cS f),Z,b,g,kp⟩
end
end L2
namespace L2
open PySem PySem.Spec PyProof.Rows
variable [fJ]
section
variable {X Y:Cx}{k:Nat}{f C:Addr}{fd:FuncData}{ps:List Str}{sp:Sp}{ER:St→XK}{x:Str}{p pos:Pos}{e:Expr}{es:List Expr}{t:TA}{A0:Around}{e':Addr}
theorem A2{HE:Addr}{pins:List (Addr×Obj)}{σ:St}{H:Hp}{s:Shared}{Q:VK}{us:List Value}{vs:List V}(hA:Y.A=A0.mark (some (.ref e')))(Z:PySem.W.cH Y.K C HE f)(F:zq Y.prog Y.w Y.K Y.mg Y.base k f fd ps sp)(hr:cf (k+1) A0)(hb:Binds Y.K fd ps [])
  (I:Inv Y pins σ H s) (r:Vals vs us) (hz:vs.length≤100) (h:∀x,H x=none→sp (.ref x::vs) (upd H x (oJ x C none)) (fun v H2=>v= .cJ∧Q (.ref x) H2) E0):
  wpAny (model Y.prog Y.w) Y.A (call (.ref C) us) (EP Y pins σ Q) Y.xe s:=by
 have hq:=h (s.heap.objs.size+1) (I.bF.fresh (Nat.le_succ _))
 have e2:((s.heap.push (PySem.W.jO us)).push (PySem.W.i9 C s.heap.objs.size)).get? (s.heap.objs.size+1)=some (PySem.W.i9 C s.heap.objs.size):=by
  have:=Heap.get?_push_size (s.heap.push (PySem.W.jO us)) (o:=PySem.W.i9 C s.heap.objs.size) rfl
  rwa [Heap.size_push] at this
 have I2:Inv Y pins σ (upd H (s.heap.objs.size+1) (oJ (s.heap.objs.size+1) C none)) { s with heap:=(s.heap.push (PySem.W.jO us)).push (PySem.W.i9 C s.heap.objs.size) }:=
  I.laid (a:=s.heap.objs.size+1) (t':=s.toks) (fun b u q=>Heap.get?_push_of_some _ (Heap.get?_push_of_some _ q)) (Nat.le_succ _) (zj e2 rfl rfl rfl rfl ⟨rfl,rfl⟩)
 have r2:Vals (V.ref (s.heap.objs.size+1)::vs) (Value.ref (s.heap.objs.size+1)::us):= .cons rfl r
 have hl:(Value.ref (s.heap.objs.size+1)::us++[]).length=ps.length:=by
  have e:=r2.length
  rw[F.len _ _ _ _ hq] at e
  rw[List.append_nil]
  exact e.symm
 have Ot:us.length≤sizeLine:=by
  rw[←r.length]
  exact Nat.le_trans hz (by rw[sizeLine_eq];decide)
 have M5:=hb { s with heap:=(s.heap.push (PySem.W.jO us)).push (PySem.W.i9 C s.heap.objs.size) } (Value.ref (s.heap.objs.size+1)::us) I2.fb hl
 rw[List.append_nil] at M5
 have e0:=I2.Cu
 rw[hA] at e0 ⊢
 have e0':sC Y.prog Y.w Y.K Y.mg Y.base A0 Y.stack { s with heap:=(s.heap.push (PySem.W.jO us)).push (PySem.W.i9 C s.heap.objs.size) } (upd H (s.heap.objs.size+1) (oJ (s.heap.objs.size+1) C none)):=⟨e0.frames,e0.mod,e0.bs,e0.yL,e0.iH,e0.B0,e0.bF,e0.bare⟩
 refine wpAny_call (PySem.W.zg I.fb Z Ot (codeAny_mono (F.run e' (A0.under (.builtin "type.__call__" ⟨.ref C::us,[]⟩)) Y.stack _ _ ⟨Value.ref (s.heap.objs.size+1)::us,[]⟩ (Value.ref (s.heap.objs.size+1)::us) _ _ E0 (hr.make C us []) (e0'.make C us []) M5 r2 hq) fun r s' jM=>?_))
 cases r with
 |error e=>exact False.elim jM
 |ok fl=>
  cases fl with
  |ret u=>
   obtain⟨v,H',I3,rv,ev,q3⟩:=I2.after jM
   subst ev
   exact⟨rv,⟨V.ref (s.heap.objs.size+1),H',I3,rfl,q3⟩⟩
  |next=>exact False.elim jM
  |brk=>exact False.elim jM
  |cont=>exact False.elim jM
theorem C1{HE:Addr}(hA:Y.A=A0.mark (some (.ref e')))(Z:PySem.W.cH Y.K C HE f)(F:zq Y.prog Y.w Y.K Y.mg Y.base k f fd ps sp)(hr:cf (k+1) A0)(hg:Gl Y x)(hm:Y.mg x=some (.ref C))(hk:PySem.W.keepIn Y.K (.ref C)=true)(hb:Binds Y.K fd ps [])
  (ha:PA Y (e::es) t) (xr:(x==("__debug__" :Str))=false:=by decide) (he:starEach (e::es) Y.env=(false,eval e Y.env)::starEach es Y.env:=by rfl) (kr:(backTo pos (starEach es Y.env)).any (·.1)=false:=by rfl):
  PE Y (.Call (.Name x p) (e::es) [] pos) (CO C sp t):=by
 intro pins s σ H Q I h
 refine wpAny_Call_Name_kw (eQ I hg hm ?_ xr)
 refine PySem.W.callWith_K (h₀:=Y.base) I.ok.mod.B' hk (bN (ha pos pins s σ H _ I h) fun us s1 ⟨vs,H1,I1,r,q⟩=>⟨I1.fb,?_⟩) he kr
 exact A2 hA Z F hr hb I1 r q.1 q.2
def zr(K:PySem.W.Frag)(e':Addr)(te:TE)(ER:St→XK):TS:=fun _ σ H=>te σ H fun v H1=>∃e C HE f dx C' dv,v= .ref e∧PySem.W.cH K C HE f∧H1 e=some (oJ e C dx)∧fJ.vc C∧e≠e'∧H1 e'=some (lT e' C' dv)∧¬fJ.vc C'∧ER σ (.ref C) dx (upd H1 e (lT e C dx))
theorem A3{ex:Expr}{te:TE}{cj:Nat}{cp:Pos}(hA:Y.A.handled=some (.ref e'))(L:Lets Y ER)(he:PE Y ex te):PS Y (.Raise (some ex) (some (.Constant .none cj cp)) pos) (zr Y.K e' te ER):=by
 intro pins s σ H D I h
 rw[arm_exec_Raise]
 refine wpAny_bind (wpAny_standAt (PySem.W.A1 (K:=Y.K) hA (wpAny_bind (bN (he pins s σ H _ I h) fun u s1 ⟨v,H1,I1,rv,e,C,HE,f,dx,C',dv,ev,Z,hx,lC,ne,OE,nl,q⟩=>wpAny_bind (wpAny_standAt (wpAny_pure ?_))))))
 subst ev
 obtain rfl:u=Value.ref e:=rv
 refine wpAny_bind (bN (xc (X:=Y) (j:=cj) (pos:=cp) pins s1 σ H1 (fun w H2=>w= .cJ∧H2=H1) I1 ⟨rfl,rfl⟩) fun u2 s2 ⟨w2,H2,I2,rw2,ew,eH⟩=>wpAny_bind (wpAny_standAt (wpAny_pure ?_)))
 subst ew eH
 obtain⟨o,vs,h1,h2,h3,h4,h5,h6⟩:=oM I2.bF hx
 obtain⟨o',AU,g1,g2,g3,g4,g5⟩:=xB I2.bF OE
 refine⟨rw2,e,o,vs,C,HE,f,o',AU,rfl,ne,I2.fb,Z,h1,h2,h4,h5,h6.2,g1,g4,g5.resolve_right nl,fun h' k1 k2 k3=>L _ _ ⟨e,C,dx,σ,_,none,rfl,?_,ai,⟨⟨_,_,k1,rfl,?_⟩,fun T z=>by cases z⟩,fun T z=>(by cases z),q⟩⟩
 ·have J:=I2.ve.write (x:=e) (e:=e) (o:=lT e C dx) (h':=h') (t':=s2.toks) (by rw[hx];exact True.intro) (.inl rfl) (fun b u be q=>k2 b u be q) ⟨_,k1⟩ (zh k1 h2 h3 rfl (.inr lC))
  exact J
 ·rw[Array.getElem?_setIfInBounds_ne (by decide),Array.getElem?_setIfInBounds_ne (by decide),Array.getElem?_setIfInBounds_ne (by decide)]
  exact h5
theorem xE(K:PySem.W.Frag)(hK:Y.K=K){ex:Expr}{te:TE}{cj:Nat}{cp:Pos}(hA:Y.A.handled=some (.ref e'))(L:Lets Y ER)(he:PE Y ex te):PS Y (.Raise (some ex) (some (.Constant .none cj cp)) pos) (zr K e' te ER):=by
 subst hK
 exact A3 hA L he
end
section
variable {X:Cx}{pins:List (Addr×Obj)}{σ:St}{H:Hp}{s:Shared}{ER:St→XK}
def xfH(e C:Addr)(dx:Option Addr)(p:Array Value→Prop):HO:= .ext fun h=>∃o vs,h.get? e=some o∧o.cls= .ref C∧o.dict=dx∧o.data= .fields vs∧p vs
theorem OF{P:Program}{w:World}{h:Heap}{e C:Addr}{od:Option Addr}{o:Obj}{vs:Array Value}{p:Array Value→Prop}(he:h.get? e=some o)(hc:o.cls= .ref C)(hd:o.dict=od)(hf:o.data= .fields vs)(hp:p vs):cq P w H h e (xfH e C od p):=
 ⟨⟨o,vs,he,hc,hd,hf,hp⟩,⟨o,he⟩,fun _ _ ⟨o,vs,a,b⟩ k=>⟨o,vs,k _ a,b⟩⟩
theorem xF{i:Nat}{n:Str}{pos:Pos}{Q:Unit→Shared→Prop}{A:Around}{E:Value→Shared→Prop}{e C T:Addr}{dx:Option Addr}(I:Inv X [] σ H s)(he:H e=some (lT e C dx))(fl:s.heap.j9 e (some T))(hT:H T=none)(nT:gR X T)(hN:X.N.Nodup)(hi:X.N[i]? =some n)(hl:X.env.scope.names.lookup n=some .local)
  (k:∀s',Inv X [] (σ.set i none) H s'→s'.heap.j9 e (some T)→Q () s'):wpAny (model X.prog X.w) A (do bindName X.env n .none;unbindBehindTheSuite X.env n pos) Q E s:=by
 obtain⟨o,vs,h1,h2,h3,h4,h5⟩:=xB I.bF he
 obtain⟨oe,vs2,f1,f2,f3⟩:=fl.ex
 rw[h1] at f1
 cases f1
 rw[h4] at f2
 cases f2
 obtain⟨neT,oT,ts,t1,t2,t3⟩:=fl.tr T rfl
 have J:=I.write (x:=e) (e:=e) (o:=xfH e C dx fun vs=>vs[1]? =some (.ref T)∧(vs[2]? =some .none∨fJ.vc C)) (h':=s.heap) (t':=s.toks) (by rw[he];exact True.intro) (.inl rfl) (fun _ _ _ q=>q) ⟨o,h1⟩ (OF h1 h2 h3 h4 ⟨f3,h5⟩)
 have J2:=J.nu (pins':=[(T,oT)]) fun p hp=>by
  have ep:p=(T,oT):=by simpa using hp
  subst ep
  refine⟨t1,by rw[ah neT];exact hT,nT.loc,fun z=>?_,fun v z=>by rw[t2] at z;cases z⟩
  obtain⟨_,ob,q,nf⟩:=I.ok.iH.mem z
  exact absurd (Heap.lt_size q) (Nat.not_lt.mpr nT.above)
 refine name_goes J2 hN hi hl fun s' J3=>?_
 obtain⟨o',AU,g1,g2,g3,g4,g5,g6⟩:=(J3.bF e _ ai).1
 have pT:=(J3.pin (T,oT) (by simp)).1
 refine k s' ?_ ⟨⟨o',AU,g1,g4,g5⟩,fun T' z=>?_⟩
 ·have J4:=J3.ve.write (x:=e) (e:=e) (o:=lT e C dx) (h':=s'.heap) (t':=s'.toks) (by rw[ai];exact True.intro) (.inl rfl) (fun _ _ _ q=>q) ⟨o',g1⟩ (zh g1 g2 g3 g4 g6)
  rw[Fy,CP he] at J4
  exact J4
 ·cases z
  exact⟨neT,oT,ts,pT,t2,t3⟩
def IM(K:PySem.W.Frag)(PC:Addr)(i:Nat)(ts:Addr→TS)(tr:Ends→St→XK):Ends→St→XK:=fun D σ cv dx H=>
 ∃C HE f b,cv= .ref C∧PySem.W.cH K C HE f∧PySem.W.mroIn K C (.ref PC)=some b∧
  if b=true then∀e,H e=some (lT e C dx)→ts e { D with nx:=fun σ1 H1=>D.nx (σ1.set i none) H1,bk:=fun σ1 H1=>D.bk (σ1.set i none) H1,ct:=fun σ1 H1=>D.ct (σ1.set i none) H1 } (σ.set i (some (.ref e))) H else tr D σ cv dx H
theorem Le{x n:Str}{np pos:Pos}{b0:Stmt}{ja:List Stmt}{rest:List ExceptHandler}{PC:Addr}{i:Nat}{ts:Addr→TS}{tr:Ends→St→XK}(fm:AW X)(L:Lets X ER)(hg:Gl X x)(hm:X.mg x=some (.ref PC))(Y:PySem.W.vh X.K PC)(hN:X.N.Nodup)(hi:X.N[i]? =some n)
  (hl:X.env.scope.names.lookup n=some .local) (Lb:∀e,jV ((X.mark e).gH (f9 (X.mark e) fun σ1=>ER (σ1.set i none))) (b0::ja) (ts e)) (hr:PH X rest tr) (hd:(x==("__debug__" :Str))=false:=by decide):
  PH X (.ExceptHandler (some (.Name x np)) (some n) (b0::ja) pos::rest) (IM X.K PC i ts tr):=by
 intro s σ H D e C dx T I he fl hT nT hE
 obtain⟨C',HE,f,b,ec,Z,mb,hE⟩:=hE
 cases ec
 obtain⟨o,vs,o1,o2,o3,o4⟩:=oK I.bF he
 have ht:∀T',some T=some T'→H T'=none∧gR X T':=fun T' z=>by cases z;exact⟨hT,nT⟩
 refine wpAny_handleBy_cons (codeAny_handlers_test (eQ (X:=X.mark e) (I.mark e) hg hm (PySem.W.oR I.fb Z Y o1 o2 mb ?_) hd)) (by intro z;cases z)
 cases b with
 |false=>exact hr s σ H D e C dx T I he fl hT nT hE
 |true=>
  have hE:=hE e he
  refine codeAny_handlers_suite_as (eK fl fun h1 a m=>?_)
  have I1:=I.moved he ht (m.mono fun _ z=>absurd z (by simp))
  refine store_ok I1 hN hi (.inl hl) (v:= .ref e) rfl (fun s2 I2=>?_) (.inr hl)
  refine wpAny_mono (Lb e [] s2 _ H _ ((I2.mark e).gH _) hE) (fun f s3 q=>?_) fun v s3 z=>?_
  ·have q:=q.cZ
   cases f with
   |next=>
    obtain⟨σ',H',I3,q⟩:=q
    exact name_goes (I3.unmark I.ok) hN hi hl fun s4 I4=>⟨_,H',I4,q⟩
   |brk=>
    obtain⟨σ',H',I3,q⟩:=q
    exact name_goes (I3.unmark I.ok) hN hi hl fun s4 I4=>⟨_,H',I4,q⟩
   |cont=>
    obtain⟨σ',H',I3,q⟩:=q
    exact name_goes (I3.unmark I.ok) hN hi hl fun s4 I4=>⟨_,H',I4,q⟩
   |ret u=>
    obtain⟨v,σ',H',I3,r,q⟩:=q
    exact name_goes (I3.unmark I.ok) hN hi hl fun s4 I4=>⟨v,_,H',I4,r,q⟩
  ·obtain⟨e2,C2,jv,σ2,H2,tb,ev,J,M6,fl2,ht2,Vq⟩:=z
   subst ev
   obtain⟨fr,ff⟩:=gS (X:=X.mark e) fm J
   refine kL fr ff fm.2 fl2 fun h3 T3 a3 b3 m3=>?_
   have m3':Heap.Moved (pY (X.mark e).stack) e2 tb s3.heap h3:=by unfold pY;rw[show (X.mark e).stack=X.env::X.outer from fm.1];exact m3
   have J3:=J.moved M6 ht2 m3'
   have t3:=oO J ht2 b3
   refine xF (X:=X.mark e) (s:={ s3 with heap:=h3 }) J3 M6 a3 (t3 T3 rfl).1 (t3 T3 rfl).2 hN hi hl fun s4 J4 fl4=>?_
   unfold PySem.passOn
   obtain⟨oe,ws,q1,q2,q3⟩:=id fl4.ex
   refine wpAny_bind (wpAny_field q1 q2 q3 ?_)
   rw[if_neg (by simp)]
   refine wpAny_bind (eK fl4 fun h5 a5 m5=>wpAny_throw ?_)
   have J5:=J4.moved M6 t3 (m5.mono fun _ z=>absurd z (by simp))
   obtain⟨UB,ff5⟩:=gS (X:=X.mark e) fm J5
   refine kL (s:={ s4 with heap:=h5 }) UB ff5 fm.2 a5 fun h6 T6 a6 b6 m6=>?_
   have m6':Heap.Moved (pY (X.mark e).stack) e2 (some T3) h5 h6:=by unfold pY;rw[show (X.mark e).stack=X.env::X.outer from fm.1];exact m6
   have J6:=J5.moved M6 t3 m6'
   have t6:=oO J5 t3 b6
   refine zf (s:={ s4 with heap:=h6 }) a6 fun h7 a7 m7=>?_
   have J7:=J6.moved M6 t6 (m7.mono fun _ z=>absurd z (by simp))
   exact L _ _ ⟨e2,C2,jv,_,H2,some T6,rfl,J7.unmark I.ok,M6,a7,fun T' z=>⟨(t6 T' z).1,(t6 T' z).2.above,(t6 T' z).2.loc,(t6 T' z).2.cell,(t6 T' z).2.pn⟩,Vq⟩
theorem Gg(K:PySem.W.Frag)(hK:X.K=K){x n:Str}{np pos:Pos}{b0:Stmt}{ja:List Stmt}{rest:List ExceptHandler}{PC:Addr}{i:Nat}{ts:Addr→TS}{tr:Ends→St→XK}(fm:AW X)(L:Lets X ER)(hg:Gl X x)(hm:X.mg x=some (.ref PC))(Y:PySem.W.vh K PC)(hN:X.N.Nodup)(hi:X.N[i]? =some n)
  (hl:X.env.scope.names.lookup n=some .local) (Lb:∀e,jV ((X.mark e).gH (f9 (X.mark e) fun σ1=>ER (σ1.set i none))) (b0::ja) (ts e)) (hr:PH X rest tr) (hd:(x==("__debug__" :Str))=false:=by decide):
  PH X (.ExceptHandler (some (.Name x np)) (some n) (b0::ja) pos::rest) (IM K PC i ts tr):=by
 subst hK
 exact Le fm L hg hm Y hN hi hl Lb hr hd
end
instance (priority:=low) Tz:fJ:=⟨fun _=>True⟩
end L2
namespace L2
open PySem PySem.Spec PyProof.Rows
section
variable {X:Cx}{o:Expr}{to:TE}{apos iI:Pos}
def OG:R2:=fun x y H Q=>∃(z:List Nat) (n:Nat),x= .str ⟨z.toArray⟩∧y= .int (n:Int)∧2≤n∧n≤400∧z≠[]∧z.length≤20∧Q (.str ⟨(List.replicate n z).flatten.toArray⟩) H
theorem vm(z:List Nat):∀(n:Nat) (acc:List Nat),(List.replicate n z.toArray).foldl (·++·) acc.toArray=(acc++(List.replicate n z).flatten).toArray
 |0,acc=>by simp
 |n+1,acc=>by
  rw[List.replicate_succ,List.foldl_cons,show acc.toArray++z.toArray=(acc++z).toArray by simp,vm z n,List.append_assoc,List.replicate_succ]
  rfl
theorem zt:nz X (binaryOp .Mult) OG:=by
 intro pins s σ H x y v u Q I rx ry h
 obtain⟨z,n,rfl,rfl,n1,n2,z0,z1,q⟩:=h
 obtain⟨t,rfl⟩:=(show∃t,v=Value.str ⟨z.toArray⟩ t from rx)
 obtain⟨t2,rfl⟩:=(show∃t,u=Value.int _ t from ry)
 have big:(10000 :Nat)≤sizeLine:=by decide
 have zl:(⟨z.toArray⟩:Str).length=z.length:=rfl
 have zp:=List.length_pos_iff.mpr z0
 have hzn:z.length*n≤8000:=Nat.mul_le_mul z1 n2
 have e1:((n:Int)==1||(⟨z.toArray⟩:Str).length==0)=false:=by
  have h1:((n:Int)==1)=false:=by simp only [beq_eq_false_iff_ne];omega
  have h2:((⟨z.toArray⟩:Str).length==0)=false:=by simp only [beq_eq_false_iff_ne];omega
  rw[h1,h2];rfl
 have ef:(List.replicate n z.toArray).foldl (·++·) #[]=(List.replicate n z).flatten.toArray:=by
  have:=vm z n []
  rwa [List.nil_append] at this
 refine PySem.P.mul_str (by rw[decide_eq_false (by omega),decide_eq_false (by omega)];rfl) (fun _ _=>?_) (fun _ _=>?_) ?_
 ·have hd:(20 :Int)≤(2^63 - 1) /(n:Int):=by
   rw[Int.le_ediv_iff_mul_le (by omega)]
   omega
  omega
 ·unfold Builtin.Str.tooLong
  rw[Int.toNat_natCast]
  simp only [decide_eq_false_iff_not]
  rw[zl]
  omega
 ·rw[if_neg (by omega),if_neg (by rw[e1];simp),Int.toNat_natCast]
  rw[←ef] at q
  refine⟨?_,⟨.str _,H,I.tok _,⟨_,rfl⟩,q⟩⟩
  show ((List.replicate n z.toArray).foldl (·++·) #[]).size≤sizeLine
  rw[zo]
  show 0+z.length*n≤sizeLine
  omega
end
end L2
namespace L2
open PySem PySem.Spec PyProof.Rows
def vn(P:Program)(w:World)(K:PySem.W.Frag)(a:Addr)(aL:List (Key×V)):Prop:=∀h:Heap,K.In h→(a==sysModules)=false∧∃vs,KV aL vs∧h.DictOf (b9 P w) a vs
section
variable {X:Cx}{o i:Expr}{pos:Pos}{td ty:TE}
def OH(P:Program)(w:World)(K:PySem.W.Frag)(td ty:TE):TE:=fun σ H Q=>td σ H fun x H1=>ty σ H1 fun y H2=>∃a aL k v,x= .ref a∧vn P w K a aL∧y=kV k∧b4 aL k=some v∧Q v H2
def Gh(P:Program)(w:World)(K:PySem.W.Frag)(ty td:TE):TE:=fun σ H Q=>ty σ H fun y H1=>td σ H1 fun x H2=>∃a aL k,x= .ref a∧vn P w K a aL∧y=kV k∧Q (.bl (!(b4 aL k).isSome)) H2
theorem zu(ho:PE X o td)(hi:PE X i ty)(hs:Kv i):PE X (.Subscript o i pos) (OH X.prog X.w X.K td ty):=by
 intro pins s σ H Q I h
 refine yZ PySem.F.slot_dict_getitem.lookup hs (bN (ho pins s σ H _ I h) fun u s1 ⟨x,H1,I1,rx,q1⟩=>bN (hi pins s1 σ H1 _ I1 q1) fun iv s2 ⟨y,H2,I2,ry,a,aL,k,v,ex,g,ey,l,q2⟩=>?_)
 subst ex ey
 obtain rfl:u=Value.ref a:=rx
 obtain⟨hd,vs,rel,dd⟩:=g _ I2.fb
 obtain⟨w',hw,qJ⟩:=fX.some_of (v:=v) (o:=valueAt vs k) (by rw[←l];exact rel.val k)
 exact⟨dd.typeIs,wpAny_getItem_of (mI ry) dd.mapOf hw ⟨v,H2,I2.tok _,qJ,q2⟩⟩
theorem A4(hi:PE X i ty)(ho:PE X o td):PC X .NotIn i o (Gh X.prog X.w X.K ty td):=by
 intro pins s σ H Q I h
 refine bN (hi pins s σ H _ I h) fun iv s1 ⟨y,H1,I1,ry,q1⟩=>bN (ho pins s1 σ H1 _ I1 q1) fun u s2 ⟨x,H2,I2,rx,a,aL,k,ex,g,ey,q2⟩=>?_
 subst ex ey
 obtain rfl:u=Value.ref a:=rx
 obtain⟨hd,vs,rel,dd⟩:=g _ I2.fb
 refine wpAny_notIn_of (mI ry) hd dd.mapOf ?_
 rw[←(rel.val k).fA]
 exact⟨.bl (!(b4 aL k).isSome),H2,I2.tok _,rfl,q2⟩
end
section
variable {X:Cx}{o e:Expr}{es:List Expr}{pos:Pos}{te:TE}{t:TA}{E:XK}
def C3(Fs:Addr→Sp→Prop)(E:XK)(te:TE)(t:TA):TE:=fun σ H Q=>te σ H fun x H0=>∃f sp,x= .ref f∧Fs f sp∧t σ H0 fun vs H1=>sp (vs++[]) H1 Q E
theorem C4{Fs:Addr→Sp→Prop}(hF:∀f sp,Fs f sp→∃(k:Nat) (fd:FuncData) (ps:List Str),dj X.prog X.w X.K X.mg X.base js k f fd ps sp∧cf k X.A∧PySem.W.keepIn X.K (.ref f)=true∧Binds X.K fd ps [])(hx:Passes js X E)(ho:PE X o te)(ha:PA X (e::es) t)
  (wV:starEach (e::es) X.env=(false,eval e X.env)::starEach es X.env:=by rfl) (kr:(backTo pos (starEach es X.env)).any (·.1)=false:=by rfl)
  (he:eval (.Call o (e::es) [] pos) X.env=(do callWith pos (←eval o X.env) [] (backTo pos (starEach (e::es) X.env)) (backToKw pos (keywordEach [] X.env))):=by rfl):PE X (.Call o (e::es) [] pos) (C3 Fs E te t):=by
 intro pins s σ H Q I h
 refine Call_ (bN (ho pins s σ H _ I h) fun u s1 ⟨x,H1,I1,rx,f,sp,ex,hf,q1⟩=>?_) he
 subst ex
 obtain rfl:u=Value.ref f:=rx
 obtain⟨k,fd,ps,F,hr,hk,hb⟩:=hF f sp hf
 refine PySem.W.callWith_K (h₀:=X.base) I1.ok.mod.B' hk (bN (ha pos pins s1 σ H1 _ I1 q1) fun us s2 ⟨vs,H2,I2,r,q⟩=>⟨I2.fb,?_⟩) wV kr
 exact xq F hr hb .nil hx I2 r q
end
section
variable [fJ]{X:Cx}{o e:Expr}{es:List Expr}{pos:Pos}{te:TE}{t:TA}{ER:St→XK}
def zv(Fs:Addr→Sp→Prop)(ER:St→XK)(te:TE)(t:TA):TE:=fun σ H Q=>te σ H fun x H0=>∃f sp,x= .ref f∧Fs f sp∧t σ H0 fun vs H1=>sp (vs++[]) H1 Q (ER σ)
theorem A5{Fs:Addr→Sp→Prop}(hF:∀f sp,Fs f sp→∃(k:Nat) (fd:FuncData) (ps:List Str),dj X.prog X.w X.K X.mg X.base (ug X.prog X.w) k f fd ps sp∧cf k X.A∧PySem.W.keepIn X.K (.ref f)=true∧Binds X.K fd ps [])(L:Lets X ER)(ho:PE X o te)(ha:PA X (e::es) t)
  (wV:starEach (e::es) X.env=(false,eval e X.env)::starEach es X.env:=by rfl) (kr:(backTo pos (starEach es X.env)).any (·.1)=false:=by rfl)
  (he:eval (.Call o (e::es) [] pos) X.env=(do callWith pos (←eval o X.env) [] (backTo pos (starEach (e::es) X.env)) (backToKw pos (keywordEach [] X.env))):=by rfl):PE X (.Call o (e::es) [] pos) (zv Fs ER te t):=by
 intro pins s σ H Q I h
 refine Call_ (bN (ho pins s σ H _ I h) fun u s1 ⟨x,H1,I1,rx,f,sp,ex,hf,q1⟩=>?_) he
 subst ex
 obtain rfl:u=Value.ref f:=rx
 obtain⟨k,fd,ps,F,hr,hk,hb⟩:=hF f sp hf
 refine PySem.W.callWith_K (h₀:=X.base) I1.ok.mod.B' hk (bN (ha pos pins s1 σ H1 _ I1 q1) fun us s2 ⟨vs,H2,I2,r,q⟩=>⟨I2.fb,?_⟩) wV kr
 exact nI F hr hb .nil L I2 r q
end
end L2
namespace zm
open PySem PySem.Spec PySem.Builtin PySem.Builtin.Str
theorem A6{prog:Program}{w:World}{A:Around}{E:Value→Shared→Prop}{s:Shared}{x y:Str}{k:Int}{t u v:Tok}{Q:Value→Shared→Prop}(hk:(decide (k< -(2^63 :Int))||decide (k≥2^63))=false)(hy:(y.length==0)=false)(hsz:x.length≤sizeLine)(hn:(Txt.splitMax x y k).length≤sizeLine)
  (h:∀l n,l.map (·.1)=Txt.splitMax x y k→Q (.ref s.heap.objs.size) { s with heap:=s.heap.push { cls:= .type "list",data:= .seq (strValues l).toArray },toks:=n }):
  wpAny (model prog w) A (call (.builtin "str.split") [.str x t, .str y u, .int k v]) Q E s:=by
 cases h1:(decide (x.length<y.length)||decide (strKind x<strKind y))
 ·cases hf:(occurrences x y 0 x.length (limitOf x k)).isEmpty
  ·have e:Txt.splitMax x y k=partsBetween x (occurrences x y 0 x.length (limitOf x k)) y.length:=(if_neg (ne_true_of_eq_false h1)).trans (if_neg (ne_true_of_eq_false hf))
   rw[e] at hn h
   refine call_meets F.slot_str_split (typeIs_str _ _ _) F.entry_str_split (F.args_str_split_3 _ _ _) (meets_str_split_sep_max x y k t u v hk h1 hy hf hsz hn) ?_
   show wants Q E _ { s with toks:=_,heap:=s.heap.push { cls:= .type "list",data:= .seq (strsFrom s.toks (partsBetween x (occurrences x y 0 x.length (limitOf x k)) y.length)).toArray } }
   rw[strsFrom_eq]
   exact h (numbered s.toks _) _ (numbered_texts _ _)
  ·exact call_meets F.slot_str_split (typeIs_str _ _ _) F.entry_str_split (F.args_str_split_3 _ _ _) (meets_str_split_max_not_found x y k t u v hk h1 hy hf)
    (h [(x,t)] s.toks ((if_neg (ne_true_of_eq_false h1)).trans (if_pos hf)).symm)
 ·exact call_meets F.slot_str_split (typeIs_str _ _ _) F.entry_str_split (F.args_str_split_3 _ _ _) (meets_str_split_max_cannot_occur x y k t u v hk h1)
   (h [(x,t)] s.toks (if_pos h1).symm)
end zm
namespace L2
open PySem PySem.Spec PyProof.Rows
def Gi:V→List V→Hp→VK→Prop:=fun x vs H Q=>∃(z y:Str) (k:Int),x= .str z∧vs=[.str y, .int k]∧(y.length==0)=false∧0≤k∧k<2^63∧z.length≤sizeLine∧(Txt.splitMax z y k).length≤sizeLine∧∀l,H l=none→Q (.ref l) (upd H l (.lst ((Txt.splitMax z y k).map V.str)))
theorem A7{X:Cx}:N4 X "str.split" Gi:=by
 intro pins s σ H x vs v us Q I rx rv h
 obtain⟨z,y,k,rfl,rfl,hy,k0,k1,hz,hl,q⟩:=h
 obtain⟨t,rfl⟩:=(show∃t,v=Value.str z t from rx)
 obtain⟨u,u2,rfl,ru,ru2⟩:=vals2 rv
 obtain⟨t2,rfl⟩:=(show∃t,u=Value.str y t from ru)
 obtain⟨t3,rfl⟩:=(show∃t,u2=Value.int k t from ru2)
 refine zm.A6 (by rw[decide_eq_false (by omega),decide_eq_false (by omega)];rfl) hy hz hl fun l n e=>?_
 have hv:=l7 l
 rw[e] at hv
 exact⟨.ref _,_,I.FU hv (by rw[List.length_map];exact hl),rfl,q _ I.fresh⟩
end L2
namespace zm
open PySem PySem.Spec
section
variable {prog:Program}{w:World}{A:Around}{E:Value→Shared→Prop}{s:Shared}{it t l:Addr}{i k:Nat}{xs ys:Array Value}{x y a b:Value}
theorem oS{Q:Value→Shared→Prop}(g:s.heap.IsTupleIter it t i)(gt:s.heap.IsTuple t xs)(gx:xs[i]? =some x)
  (q:∀h',h'.IsTupleIter it t (i+1)→Heap.SameBut it s.heap h'→Q x { s with heap:=h' }):wpAny (model prog w) A (Builtin.SmallTypes.nextOf (.ref it)) Q E s:=by
 obtain⟨o,e,c,d⟩:=id g
 obtain⟨o2,e2,_,_,d2⟩:=gt
 unfold Builtin.SmallTypes.nextOf
 refine wpAny_bind (wpAny_callSpecial?_slot (name:=Str.ofString "__next__") g.typeIs F.slot_tuple_iterator_next (wpAny_call_entry F.slot_tuple_iterator_next g.typeIs F.entry_tuple_iterator_next (wpAny_bind (m:=field (.ref it) 0) (wpAny_field e d (x:= .ref t) rfl ?_)) (F.args_tuple_iterator_next_1 _)))
 show wpAny _ _ (if (Value.ref t==Value.none)=true then _ else _) _ _ _
 refine(if_neg (c:=(Value.ref t==Value.none)=true) Bool.false_ne_true).symm▸?_
 refine wpAny_bind (m:=field (.ref it) 1) (wpAny_field e d (x:= .int i 0) rfl (wpAny_bind (m:=seqItems? (.ref t)) (wpAny_seqItems e2 d2 ?_)))
 simp only [Int.toNat_natCast,gx]
 exact wpAny_bind (wpAny_setField e d (by simp) (wpAny_pure ⟨x,rfl,wpAny_pure (q _ ⟨_,Heap.get?_update_self _ e (Obj.isFreed_of_fields (Obj.data_mapFields d _)),(Obj.cls_mapFields ..).trans c,by rw[Obj.data_mapFields d];simp [rawInt]⟩ (Heap.SameBut.update ..))⟩))
theorem A8{Q:Value→Shared→Prop}(hh:A.handled=none)(g:s.heap.IsTupleIter it t i)(gt:s.heap.IsTuple t xs)(gx:xs[i]? =none)
  (q:∀h' e,Heap.ExtBut it s.heap h'→(∃o,h'.get? e=some o∧o.cls= .type "StopIteration")→E (.ref e) { s with heap:=h' }):wpAny (model prog w) A (Builtin.SmallTypes.nextOf (.ref it)) Q E s:=by
 obtain⟨o,e,c,d⟩:=id g
 obtain⟨o2,e2,_,_,d2⟩:=gt
 unfold Builtin.SmallTypes.nextOf
 refine wpAny_bind (wpAny_callSpecial?_slot (name:=Str.ofString "__next__") g.typeIs F.slot_tuple_iterator_next (wpAny_call_entry F.slot_tuple_iterator_next g.typeIs F.entry_tuple_iterator_next (wpAny_bind (m:=field (.ref it) 0) (wpAny_field e d (x:= .ref t) rfl ?_)) (F.args_tuple_iterator_next_1 _)))
 show wpAny _ _ (if (Value.ref t==Value.none)=true then _ else _) _ _ _
 refine(if_neg (c:=(Value.ref t==Value.none)=true) Bool.false_ne_true).symm▸?_
 refine wpAny_bind (m:=field (.ref it) 1) (wpAny_field e d (x:= .int i 0) rfl (wpAny_bind (m:=seqItems? (.ref t)) (wpAny_seqItems e2 d2 ?_)))
 simp only [Int.toNat_natCast,gx]
 refine wpAny_bind (wpAny_rule (wpAny_bind (wpAny_setField e d (by simp) (wpAny_bind (m:=newExc (.type "StopIteration") []) ?_))))
 simp only [newExc,newTuple]
 refine wpAny_bind (wpAny_newObj_type (wpAny_bind (m:=firstArgMember _ _) (wpAny_of_eq (a:=Value.none) (by first|rfl| (simp only [firstArgMember];rfl)) (wpAny_newObj_type ?_ (by size_fits)))) (by size_fits))
 simp only [raiseNew]
 refine wpAny_bind (wpAny_handled ?_)
 first|rw[show A.in1.handled=none from hh] |rw[hh]
 exact wpAny_bind (wpAny_pure (wpAny_throw (q _ _ (((Heap.SameBut.update ..).extBut.push _).push _) ⟨_,Heap.get?_push_size _ rfl,rfl⟩)))
end
end zm
namespace zm
open PySem PySem.Spec
section
variable {prog:Program}{w:World}{A:Around}{E:Value→Shared→Prop}{s:Shared}{z TI TO i1 i2 t l:Addr}{k:Nat}{xs ys:Array Value}{x y a b:Value}
theorem A9{Q:Option Value→Shared→Prop}(D:ZipApart z TI TO i1 i2 t l)(gz:IsZip s.heap z TI TO .none)(gI:IsPair s.heap TI (.ref i1) (.ref i2))(gO:IsPair s.heap TO a b)
  (g1:s.heap.IsTupleIter i1 t k) (g2:s.heap.IsListIter i2 l k) (gt:s.heap.IsTuple t xs) (gl:s.heap.IsList l ys) (gx:xs[k]? =some x) (gy:ys[k]? =some y)
  (q:∀h',IsZip h' z TI TO (rawInt s.heap.objs.size)→IsPair h' TO x y→h'.IsTupleIter i1 t (k+1)→h'.IsListIter i2 l (k+1)→IsPair h' s.heap.objs.size x y→
   (∀c o,c≠z→c≠TO→c≠i1→c≠i2→s.heap.get? c=some o→h'.get? c=some o)→Q (some (.ref s.heap.objs.size)) { s with heap:=h' }):wpAny (model prog w) A (pyNext (.ref z)) Q E s:=by
 have ty:s.TypeIs (.ref z) "zip" :=⟨_,gz,rfl⟩
 unfold pyNext
 refine wpAny_bind (wpAny_attempt (wpAny_callSpecial?_slot (name:=Str.ofString "__next__") ty F.slot_zip_next (wpAny_call_entry F.slot_zip_next ty F.entry_zip_next ?_ (F.args_zip_next_1 _))))
 refine wpAny_bind (m:=field (.ref z) 2) (wpAny_field gz rfl (x:= .bool false) rfl (wpAny_bind (m:=field (.ref z) 3) (wpAny_field gz rfl (x:= .ref TI) rfl (wpAny_bind (wpAny_seqItems gI rfl (wpAny_bind (m:=Builtin.SmallTypes.ownedTupleIsFree (.ref z)) ?_))))))
 unfold Builtin.SmallTypes.ownedTupleIsFree
 refine wpAny_bind (wpAny_field gz rfl (x:= .none) rfl (wpAny_pure ?_))
 simp only [if_true]
 refine wpAny_bind (wpAny_rule (wpAny_bind (wpAny_field gz rfl (x:= .ref TO) rfl (wpAny_bind (wpAny_setField_rec gz (by simp) fun m1 z1 e1=>wpAny_bind ?_)))))
 have z1:IsZip m1 z TI TO .ellipsis:=z1
 simp only [List.zipIdx_cons,List.zipIdx_nil,List.forIn_cons,List.forIn_nil]
 refine wpAny_bind (wpAny_bind (wpAny_onRaise (wpAny_bind (m:=Builtin.SmallTypes.nextOf (.ref i1)) (oS (g1.extBut e1.extBut D.i1z) (gt.extBut e1.extBut D.l1z) gx fun m2 n1 e2=>wpAny_pure ?_))))
 have o2:IsPair m2 TO a b:=e2.extBut _ _ D.TOi1 (e1.extBut _ _ D.TOz gO)
 refine wpAny_bind (wpAny_seqItems o2 rfl (wpAny_bind (wpAny_updateSeq_pair o2 fun m3 o3 e3=>wpAny_bind (wpAny_letGo (wpAny_pure ?_)))))
 have o3:IsPair m3 TO x b:=o3
 refine wpAny_bind (wpAny_bind (wpAny_onRaise (wpAny_bind (m:=Builtin.SmallTypes.nextOf (.ref i2)) (wpAny_nextOf_list_item (((g2.extBut e1.extBut D.i2z).extBut e2.extBut D.i12.symm).extBut e3.extBut D.TOi2.symm) (((gl.extBut e1.extBut D.l2z).extBut e2.extBut D.l2i1).extBut e3.extBut D.l2TO) gy fun m4 n2 e4=>wpAny_pure ?_))))
 have o4:IsPair m4 TO x b:=e4.extBut _ _ D.TOi2 o3
 refine wpAny_bind (wpAny_seqItems o4 rfl (wpAny_bind (wpAny_updateSeq_pair o4 fun m5 o5 e5=>wpAny_bind (wpAny_letGo (wpAny_pure (wpAny_pure ?_))))))
 have o5:IsPair m5 TO x y:=o5
 have sz:m5.objs.size=s.heap.objs.size:=by rw[e5.1,e4.1,e3.1,e2.1,e1.1]
 have z5:IsZip m5 z TI TO .ellipsis:=e5.extBut _ _ D.TOz.symm (e4.extBut _ _ D.i2z.symm (e3.extBut _ _ D.TOz.symm (e2.extBut _ _ D.i1z.symm z1)))
 have p1:m5.IsTupleIter i1 t (k+1):=((n1.extBut e3.extBut D.TOi1.symm).extBut e4.extBut D.i12).extBut e5.extBut D.TOi1.symm
 have p2:m5.IsListIter i2 l (k+1):=n2.extBut e5.extBut D.TOi2.symm
 have lt:=Heap.lt_size z5
 refine wpAny_bind (wpAny_seqItems o5 rfl (wpAny_bind (wpAny_newTuple (wpAny_bind (m:=Builtin.SmallTypes.ownedTupleHandOut (.ref z) (.ref m5.objs.size)) ?_))))
 unfold Builtin.SmallTypes.ownedTupleHandOut
 have z6:IsZip (m5.push { cls:= .type "tuple",data:= .seq #[x,y] }) z TI TO .ellipsis:=Heap.get?_push_of_some _ z5
 refine wpAny_bind (wpAny_setField_rec z6 (by simp) fun m7 z7 e7=>?_)
 have z7:IsZip m7 z TI TO (rawInt m5.objs.size):=z7
 refine wpAny_setField_rec z7 (by simp) fun m8 z8 e8=>?_
 have z8:IsZip m8 z TI TO (rawInt m5.objs.size):=z8
 have up:∀c o,c≠z→m5.get? c=some o→m8.get? c=some o:=fun c o n e=>e8.extBut _ _ n (e7.extBut _ _ n (Heap.get?_push_of_some _ e))
 have t8:IsPair m8 m5.objs.size x y:=e8.extBut _ _ (Nat.ne_of_gt lt) (e7.extBut _ _ (Nat.ne_of_gt lt) (Heap.get?_push_size _ rfl))
 rw[sz] at z8 t8
 refine wpAny_pure ⟨_,rfl,wpAny_pure ?_⟩
 show Q (some (.ref m5.objs.size)) _
 rw[sz]
 exact q m8 z8 (up _ _ D.TOz o5) (p1.at fun o e=>up _ o D.i1z e) (p2.at fun o e=>up _ o D.i2z e) t8 fun c o a1 a2 a3 a4 e=>up c o a1 (e5.extBut _ _ a2 (e4.extBut _ _ a4 (e3.extBut _ _ a2 (e2.extBut _ _ a3 (e1.extBut _ _ a1 e)))))
theorem C5{Q:Option Value→Shared→Prop}(hh:A.handled=none)(D:ZipApart z TI TO i1 i2 t l)(gz:IsZip s.heap z TI TO .none)(gI:IsPair s.heap TI (.ref i1) (.ref i2))(gO:IsPair s.heap TO a b)
  (g1:s.heap.IsTupleIter i1 t k) (g2:s.heap.IsListIter i2 l k) (gt:s.heap.IsTuple t xs) (gl:s.heap.IsList l ys) (ge:xs[k]? =none∨ys[k]? =none)
  (q:∀h',(∀c o,c≠z→c≠TO→c≠i1→c≠i2→s.heap.get? c=some o→h'.get? c=some o)→Q none { s with heap:=h' }):wpAny (model prog w) A (pyNext (.ref z)) Q E s:=by
 have ty:s.TypeIs (.ref z) "zip" :=⟨_,gz,rfl⟩
 unfold pyNext
 have fin:∀(h':Heap) (e:Addr),(∀c o,c≠z→c≠TO→c≠i1→c≠i2→s.heap.get? c=some o→h'.get? c=some o)→(∃o,h'.get? e=some o∧o.cls= .type "StopIteration")→
   wpAny (model prog w) A (isInstance (.ref e) (.type "StopIteration") >>= fun r=>if r=true then pure none else throw (.ref e)) Q E { s with heap:=h' }:=fun h' e hk ⟨o,eo,c⟩=>wpAny_bind (wpAny_isInstance (T:="StopIteration") (b:=true) ⟨o,eo,c⟩ isSubtype_stop (wpAny_pure (q _ hk)))
 refine wpAny_bind (wpAny_attempt (wpAny_callSpecial?_slot (name:=Str.ofString "__next__") ty F.slot_zip_next (wpAny_call_entry F.slot_zip_next ty F.entry_zip_next ?_ (F.args_zip_next_1 _))))
 refine wpAny_bind (m:=field (.ref z) 2) (wpAny_field gz rfl (x:= .bool false) rfl (wpAny_bind (m:=field (.ref z) 3) (wpAny_field gz rfl (x:= .ref TI) rfl (wpAny_bind (wpAny_seqItems gI rfl (wpAny_bind (m:=Builtin.SmallTypes.ownedTupleIsFree (.ref z)) ?_))))))
 unfold Builtin.SmallTypes.ownedTupleIsFree
 refine wpAny_bind (wpAny_field gz rfl (x:= .none) rfl (wpAny_pure ?_))
 simp only [if_true]
 refine wpAny_bind (wpAny_rule (wpAny_bind (wpAny_field gz rfl (x:= .ref TO) rfl (wpAny_bind (wpAny_setField_rec gz (by simp) fun m1 z1 e1=>wpAny_bind ?_)))))
 have z1:IsZip m1 z TI TO .ellipsis:=z1
 simp only [List.zipIdx_cons,List.zipIdx_nil,List.forIn_cons,List.forIn_nil]
 refine wpAny_bind (wpAny_bind (wpAny_onRaise (wpAny_bind (m:=Builtin.SmallTypes.nextOf (.ref i1)) ?_)))
 cases gx:xs[k]? with
 |none=>
  refine A8 hh (g1.extBut e1.extBut D.i1z) (gt.extBut e1.extBut D.l1z) gx fun m2 e e2 ⟨o,eo,c⟩=>?_
  have z2:IsZip m2 z TI TO .ellipsis:=e2 _ _ D.i1z.symm z1
  have n:e≠z:=fun r=>by subst r;rw[z2] at eo;cases eo;simp at c
  exact wpAny_setField_rec z2 (by simp) fun m3 _ e3=>fin m3 e (fun c o a1 _ a3 _ r=>e3.extBut _ _ a1 (e2 _ _ a3 (e1.extBut _ _ a1 r))) ⟨o,e3.extBut _ _ n eo,c⟩
 |some x=>
  have gy:ys[k]? =none:=by rcases ge with h|h;rw[gx] at h;cases h;exact h
  refine oS (g1.extBut e1.extBut D.i1z) (gt.extBut e1.extBut D.l1z) gx fun m2 n1 e2=>wpAny_pure ?_
  have o2:IsPair m2 TO a b:=e2.extBut _ _ D.TOi1 (e1.extBut _ _ D.TOz gO)
  refine wpAny_bind (wpAny_seqItems o2 rfl (wpAny_bind (wpAny_updateSeq_pair o2 fun m3 o3 e3=>wpAny_bind (wpAny_letGo (wpAny_pure ?_)))))
  refine wpAny_bind (wpAny_bind (wpAny_onRaise (wpAny_bind (m:=Builtin.SmallTypes.nextOf (.ref i2)) (wpAny_nextOf_list_end hh (((g2.extBut e1.extBut D.i2z).extBut e2.extBut D.i12.symm).extBut e3.extBut D.TOi2.symm) (((gl.extBut e1.extBut D.l2z).extBut e2.extBut D.l2i1).extBut e3.extBut D.l2TO) gy fun m4 e e4 ⟨o,eo,c⟩=>?_))))
  have z4:IsZip m4 z TI TO .ellipsis:=e4 _ _ D.i2z.symm (e3.extBut _ _ D.TOz.symm (e2.extBut _ _ D.i1z.symm z1))
  have n:e≠z:=fun r=>by subst r;rw[z4] at eo;cases eo;simp at c
  exact wpAny_setField_rec z4 (by simp) fun m5 _ e5=>fin m5 e (fun c o a1 a2 a3 a4 r=>e5.extBut _ _ a1 (e4 _ _ a4 (e3.extBut _ _ a2 (e2.extBut _ _ a3 (e1.extBut _ _ a1 r))))) ⟨o,e5.extBut _ _ n eo,c⟩
abbrev zpH(h:Heap)(t l:Addr):Heap:=((((h.push { cls:= .type "tuple_iterator",data:= .fields #[.ref t, .int 0 0] }).push { cls:= .type "list_iterator",data:= .fields #[.ref l, .int 0 0] }).push { cls:= .type "tuple",data:= .seq #[.ref h.objs.size, .ref (h.objs.size+1)] }).push { cls:= .type "tuple",data:= .seq #[.none, .none] }).push { cls:= .type "zip",data:= .fields #[.none, .bool false, .bool false, .ref (h.objs.size+2), .ref (h.objs.size+3)] }
theorem Gj(t l:Addr)(xs ys:Array Value):Meets (Builtin.«zip.__new__» ⟨[.type "zip", .ref t, .ref l],[]⟩) (fun _ R s=>s.heap.IsTuple t xs∧s.heap.IsList l ys∧R (.ok (.ret (.ref (s.heap.objs.size+4)))) { s with heap:=zpH s.heap t l }):=
 .of_wp fun prog w A R s h=>by
  obtain⟨hp,g,d,tk,os⟩:=s
  obtain⟨h1,h2,h⟩:=h
  have hsub:=sub_zip
  have L1:Heap.IsTuple (Shared.heap ⟨hp,g,d,tk,os⟩) t xs:=h1
  have L2:Heap.IsList (Shared.heap ⟨hp.push { cls:= .type "tuple_iterator",data:= .fields #[.ref t, .int 0 0] },g,d,tk,os⟩) l ys:=Heap.IsList.push h2 _
  wp_walk using wpAny_pyIter_tuple L1,wpAny_pyIter_list L2
  simp only [Heap.size_push]
  exact⟨_,rfl,h⟩
theorem Ba{Q:Value→Shared→Prop}(gt:s.heap.IsTuple t xs)(gl:s.heap.IsList l ys)
  (q:∀h',IsZip h' (s.heap.objs.size+4) (s.heap.objs.size+2) (s.heap.objs.size+3) .none→IsPair h' (s.heap.objs.size+2) (.ref s.heap.objs.size) (.ref (s.heap.objs.size+1))→IsPair h' (s.heap.objs.size+3) .none .none→
   h'.IsTupleIter s.heap.objs.size t 0→h'.IsListIter (s.heap.objs.size+1) l 0→(∀c o,s.heap.get? c=some o→h'.get? c=some o)→Q (.ref (s.heap.objs.size+4)) { s with heap:=h' }):wpAny (model prog w) A (call (.type "zip") [.ref t, .ref l]) Q E s:=by
 refine callType_new F.called_zip (by decide) (F.typeCall_zip_2 _ _) (F.newCall_zip_2 _ _) (fun obj=>F.args_object_init_3 obj _ _) F.entry_zip_new (Gj t l xs ys) ⟨gt,gl,?_⟩
 have up:∀{h:Heap} {c:Addr} {o} (u:Obj),h.get? c=some o→(h.push u).get? c=some o:=fun u e=>Heap.get?_push_of_some _ e
 have at':∀{h:Heap} {n:Nat} {u:Obj},u.isFreed=false→h.objs.size=n→(h.push u).get? n=some u:=fun f e=>by subst e;exact Heap.get?_push_size _ f
 have g5:(zpH s.heap t l).get? (s.heap.objs.size+4)=some _:=at' rfl (by simp only [Heap.size_push])
 exact⟨⟨_,g5,rfl⟩,q _ g5 (up _ (up _ (at' rfl (by simp only [Heap.size_push])))) (up _ (at' rfl (by simp only [Heap.size_push]))) ⟨_,up _ (up _ (up _ (up _ (at' rfl rfl)))),rfl,rfl⟩ ⟨_,up _ (up _ (up _ (at' rfl (by simp only [Heap.size_push])))),rfl,rfl⟩
  fun c o e=>up _ (up _ (up _ (up _ (up _ e))))⟩
end
end zm
namespace L2
open PySem PySem.Spec PyProof.Rows
def C6(K:PySem.W.Frag)(a b:Addr):It:=
 ⟨fun i H=>∃xs ys x y,ku K H a xs∧bR K H b ys∧xs[i]? =some x∧ys[i]? =some y,
  fun i H v H'=>∃p x y,H p=none∧H'=upd H p (.tup [x,y])∧v= .ref p∧(∀xs,ku K H a xs→xs[i]? =some x)∧∀ys,bR K H b ys→ys[i]? =some y,
  fun i H=>∃xs ys,ku K H a xs∧bR K H b ys∧(xs.length≤i∨ys.length≤i)⟩
theorem zw{h:Heap}{z TI TO i1 i2 l1 l2:Addr}{f0 a b:Value}{k1 k2:Nat}{ys:Array Value}{o1:Obj}(F:Oj z TI TO i1 i2)(hz:IsZip h z TI TO f0)(B2:IsPair h TO a b)(h1:h.IsTupleIter i1 l1 k1)(h2:h.IsListIter i2 l2 k2)
  (q1:h.get? l1=some o1) (c1:o1.cls= .type "tuple") (nT:l1≠TO) (e2:h.IsList l2 ys):ZipApart z TI TO i1 i2 l1 l2:=by
 obtain⟨o2,q2,c2,_⟩:=e2
 obtain⟨u1,r1,d1,_⟩:=h1
 obtain⟨u2,r2,d2,_⟩:=h2
 have d:∀{n m:String},n≠m→Value.type n≠Value.type m:=fun h q=>by cases q;exact h rfl
 exact⟨F.TIz,F.TOz,F.i1z,F.i2z,F.TITO,F.TIi1,F.TIi2,F.TOi1,F.TOi2,F.i12,
  j7 q1 hz (by rw[c1];exact d (by decide)),nT,j7 q1 r1 (by rw[c1,d1];exact d (by decide)),j7 q1 r2 (by rw[c1,d2];exact d (by decide)),
  j7 q2 hz (by rw[c2];exact d (by decide)),j7 q2 B2 (by rw[c2];exact d (by decide)),j7 q2 r1 (by rw[c2,d1];exact d (by decide)),j7 q2 r2 (by rw[c2,d2];exact d (by decide))⟩
theorem Bb{P:Program}{w:World}{K:PySem.W.Frag}{elts:List Expr}{x1}{AG:Pos}(l1 l2 z TI TO i1 i2:Addr)(F:Oj z TI TO i1 i2)(nT:l1≠TO):
  Turn P w K (.Tuple elts x1 AG) (C6 K l1 l2) [z,TI,TO,i1,i2] z (fun i h=>IsZip h z TI TO .none∧IsPair h TI (.ref i1) (.ref i2)∧(∃a b,IsPair h TO a b)∧h.IsTupleIter i1 l1 i∧h.IsListIter i2 l2 i) where
 mem:=by simp
 obj:=fun i h st b hb=>by
  obtain⟨hz,Gk,⟨a,c,B2⟩,⟨o1,e1,c1,d1⟩,⟨o2,e2,c2,d2⟩⟩:=st
  simp only [List.mem_cons,List.not_mem_nil,or_false] at hb
  rcases hb with e|e|e|e|e
  ·subst e;exact⟨_,hz,fun v q=>by cases q⟩
  ·subst e;exact⟨_,Gk,fun v q=>by cases q⟩
  ·subst e;exact⟨_,B2,fun v q=>by cases q⟩
  ·subst e;exact⟨o1,e1,fun v q=>by rw[d1] at q;cases q⟩
  ·subst e;exact⟨o2,e2,fun v q=>by rw[d2] at q;cases q⟩
 keep:=fun i h h' st k=>by
  obtain⟨hz,Gk,⟨a,c,B2⟩,h1,h2⟩:=st
  exact⟨k z (by simp) _ hz,k TI (by simp) _ Gk,⟨a,c,k TO (by simp) _ B2⟩,h1.at fun o e=>k i1 (by simp) o e,h2.at fun o e=>k i2 (by simp) o e⟩
 item:=by
  intro X hP hw hK hc i pins s σ H E I hf st hg
  subst hP hw hK
  obtain⟨xs,ys,x,y,vo,Gm,hx,hy⟩:=hg
  obtain⟨hz,Gk,⟨a,c,B2⟩,h1,h2⟩:=st
  obtain⟨its,rv,⟨o1,q1,c1,n1,d1⟩,hz1⟩:=I.tuple vo
  obtain⟨jts,qJ,p',hz2⟩:=I.list Gm
  obtain⟨u,hu,ru⟩:=rv.get hx
  obtain⟨v,hv,rv'⟩:=qJ.get hy
  have D:=zw F hz B2 h1 h2 q1 c1 nT p'.isList
  refine zm.A9 D hz Gk B2 h1 h2 ⟨o1,q1,c1,n1,d1⟩ p'.isList (x:=u) (y:=v) (by simpa using hu) (by simpa using hv) fun h' a1 a2 a3 a4 a5 hk=>⟨_,rfl,?_⟩
  refine wpAny_letOwnedTupleGo_zip (s:={ s with heap:=h' }) a1 fun Vr b1 b2=>?_
  have up:∀e o,e≠z→h'.get? e=some o→Vr.get? e=some o:=fun e o n q=>b2.extBut _ _ n q
  have ne:∀{e:Addr} {o},s.heap.get? e=some o→s.heap.objs.size≠e:=fun q=>Nat.ne_of_gt (Heap.lt_size q)
  have Vs:IsPair Vr s.heap.objs.size u v:=up _ _ (ne hz) a5
  have I1:Inv X pins σ (upd H s.heap.objs.size (.tup [x,y])) { s with heap:=Vr,toks:=s.toks }:=by
   refine I.F6 (ch:=[z,TI,TO,i1,i2]) (fun b o hb e=>?_) hf (Nat.le_refl _) ⟨by show 2≤sizeLine;decide,[u,v], .cons ru (.cons rv' .nil),⟨_,Vs,rfl,_,rfl⟩⟩
   simp only [List.mem_cons,List.not_mem_nil,or_false,not_or] at hb
   exact up _ _ hb.1 (hk b o hb.1 hb.2.2.1 hb.2.2.2.1 hb.2.2.2.2 e)
  refine⟨.ref s.heap.objs.size,_,I1,rfl,⟨_,x,y,I.bF.fresh (Nat.le_refl _),rfl,rfl,fun zs hz=>by rw[I.AA hz vo];exact hx,fun zs hz=>by rw[I.uw hz Gm];exact hy⟩,?_,fun b hb=>?_⟩
  ·exact⟨b1,up _ _ F.TIz (hk _ _ F.TIz F.TITO F.TIi1 F.TIi2 Gk),⟨_,_,up _ _ F.TOz a2⟩,a3.at fun o e=>up _ _ F.i1z e,a4.at fun o e=>up _ _ F.i2z e⟩
  ·have qR:=hb
   rw[ah ?_]
   ·exact(hf b hb).1
   ·simp only [List.mem_cons,List.not_mem_nil,or_false] at hb
    obtain⟨o1,e1,_⟩:=h1
    obtain⟨o2,e2,_⟩:=h2
    rcases hb with e|e|e|e|e
    ·rw[e];exact Ne.symm (ne hz)
    ·rw[e];exact Ne.symm (ne Gk)
    ·rw[e];exact Ne.symm (ne B2)
    ·rw[e];exact Ne.symm (ne e1)
    ·rw[e];exact Ne.symm (ne e2)
 done:=by
  intro X hP hw hK hc i pins s σ H E I hf st hg
  subst hP hw hK
  obtain⟨xs,ys,vo,Gm,hl⟩:=hg
  obtain⟨hz,Gk,⟨a,c,B2⟩,h1,h2⟩:=st
  obtain⟨its,rv,⟨o1,q1,c1,n1,d1⟩,hz1⟩:=I.tuple vo
  obtain⟨jts,qJ,p',hz2⟩:=I.list Gm
  have D:=zw F hz B2 h1 h2 q1 c1 nT p'.isList
  have l1:=rv.length
  have l2:=qJ.length
  refine zm.C5 (I.ok.hd hc) D hz Gk B2 h1 h2 ⟨o1,q1,c1,n1,d1⟩ p'.isList ?_ fun h' hk=>⟨rfl,I.F7 (t':=s.toks) (ch:=[z,TI,TO,i1,i2]) (fun b o hb e=>?_) hf⟩
  ·rcases hl with hl|hl
   ·exact .inl (by simp;omega)
   ·exact .inr (by simp;omega)
  ·simp only [List.mem_cons,List.not_mem_nil,or_false,not_or] at hb
   exact hk b o hb.1 hb.2.2.1 hb.2.2.2.1 hb.2.2.2.2 e
 self:=fun _ _ _ _ _ st h=>wpAny_pyIter_zip st.1 h
def OI(K:PySem.W.Frag)(ta:TA):TI:=fun σ H R=>ta σ H fun vs H1=>∃a b,vs=[.ref a, .ref b]∧(∃xs,ku K H1 a xs)∧(∃ys,bR K H1 b ys)∧R (C6 K a b) H1
theorem Gn{X:Cx}{elts:List Expr}{x1}{AG:Pos}{a b:Expr}{ta:TA}{p pos:Pos}(hg:Gl X "zip")(hm:X.mg "zip" =none)(ha:PA X [a,b] ta)(hs:starEach [a,b] X.env=[(false,eval a X.env),(false,eval b X.env)]:=by rfl)
  (AF:starEach [b] X.env=[(false,eval b X.env)]:=by rfl):PI X (.Tuple elts x1 AG) (.Call (.Name "zip" p) [a,b] [] pos) (OI X.K ta):=by
 intro pins s σ H R I h
 refine Call_ (oo I hg hm KZ (PyProof.Rows.callWith_type1 (bN (ha pos pins s σ H _ I h) fun us s1 ⟨vs,H1,I1,r1,q1⟩=>?_) (by rw[hs,AF]) (by rw[AF];rfl)))
 obtain⟨l1,l2,e,⟨xs,vo⟩,⟨ys,Gm⟩,q⟩:=q1
 subst e
 obtain⟨u,v,rfl,r,r'⟩:=vals2 r1
 cases r
 cases r'
 obtain⟨its,rv,⟨o1,g1,c1,n1,d1⟩,hz1⟩:=I1.tuple vo
 obtain⟨jts,qJ,pl',hz2⟩:=I1.list Gm
 have lt:=Heap.lt_size g1
 refine zm.Ba ⟨o1,g1,c1,n1,d1⟩ pl'.isList fun h' a1 a2 a3 a4 a5 hk=>wpAny_pyIter_zip (s:={ s1 with heap:=h' }) a1 ?_
 refine⟨_,[s1.heap.objs.size+4,s1.heap.objs.size+2,s1.heap.objs.size+3,s1.heap.objs.size,s1.heap.objs.size+1],_,_,H1,rfl,I1.kept (t':=s1.toks) hk,
  Bb l1 l2 (s1.heap.objs.size+4) (s1.heap.objs.size+2) (s1.heap.objs.size+3) s1.heap.objs.size (s1.heap.objs.size+1) ⟨neN (by omega),neN (by omega),neN (by omega),neN (by omega),neN (by omega),neN (by omega),neN (by omega),neN (by omega),neN (by omega),neN (by omega)⟩ (Nat.ne_of_lt (Nat.lt_of_lt_of_le lt (Nat.le_add_right _ _))),
  ⟨a1,a2,⟨_,_,a3⟩,a4,a5⟩,fun b hb=>?_,q⟩
 have qR:s1.heap.objs.size≤b:=by
  simp only [List.mem_cons,List.not_mem_nil,or_false] at hb
  rcases hb with e|e|e|e|e<;>rw[e]<;>first|exact Nat.le_refl _|exact Nat.le_add_right _ _
 exact I1.Ci qR (I1.bF.fresh qR)
end L2
namespace L2
open PySem PySem.Spec PyProof.Rows
def IP(P:Program)(w:World)(K:PySem.W.Frag)(mg:Str→Option Value)(base:Heap)(CX:uz)(k:Nat)(f:Addr)(sp:Sp):Prop:=∃(fd:FuncData) (ps:List Str),dj P w K mg base CX k f fd ps sp∧PySem.W.keepIn K (.ref f)=true∧Binds K fd ps []
section
variable {X:Cx}{o e:Expr}{es:List Expr}{pos:Pos}{te:TE}{t:TA}{E:XK}{k:Nat}
theorem C7(P:Program)(w:World)(K:PySem.W.Frag)(mg:Str→Option Value)(base:Heap)(h1:X.prog=P)(h2:X.w=w)(h3:X.K=K)(h4:X.mg=mg)(h5:X.base=base)(hr:cf k X.A)(hx:Passes js X E)(ho:PE X o te)(ha:PA X (e::es) t)
  (wV:starEach (e::es) X.env=(false,eval e X.env)::starEach es X.env:=by rfl) (kr:(backTo pos (starEach es X.env)).any (·.1)=false:=by rfl)
  (he:eval (.Call o (e::es) [] pos) X.env=(do callWith pos (←eval o X.env) [] (backTo pos (starEach (e::es) X.env)) (backToKw pos (keywordEach [] X.env))):=by rfl):PE X (.Call o (e::es) [] pos) (C3 (IP P w K mg base js k) E te t):=by
 subst h1 h2 h3 h4 h5
 exact C4 (fun f sp ⟨fd,ps,F,kp,b⟩=>⟨k,fd,ps,F,hr,kp,b⟩) hx ho ha wV kr he
end
section
variable [fJ]{X:Cx}{o e:Expr}{es:List Expr}{pos:Pos}{te:TE}{t:TA}{ER:St→XK}{k:Nat}
theorem Bc(P:Program)(w:World)(K:PySem.W.Frag)(mg:Str→Option Value)(base:Heap)(h1:X.prog=P)(h2:X.w=w)(h3:X.K=K)(h4:X.mg=mg)(h5:X.base=base)(hr:cf k X.A)(L:Lets X ER)(ho:PE X o te)(ha:PA X (e::es) t)
  (wV:starEach (e::es) X.env=(false,eval e X.env)::starEach es X.env:=by rfl) (kr:(backTo pos (starEach es X.env)).any (·.1)=false:=by rfl)
  (he:eval (.Call o (e::es) [] pos) X.env=(do callWith pos (←eval o X.env) [] (backTo pos (starEach (e::es) X.env)) (backToKw pos (keywordEach [] X.env))):=by rfl):PE X (.Call o (e::es) [] pos) (zv (IP P w K mg base (ug P w) k) ER te t):=by
 subst h1 h2 h3 h4 h5
 exact A5 (fun f sp ⟨fd,ps,F,kp,b⟩=>⟨k,fd,ps,F,hr,kp,b⟩) L ho ha wV kr he
end
section
variable {P:Program}{w:World}{K:PySem.W.Frag}{mg:Str→Option Value}{base:Heap}{k:Nat}{x:Str}{ps:List Str}{sp:Sp}{f:Addr}
theorem bI.dyn(c:bI P w K mg base k x ps sp)(g:mg x=some (.ref f)):IP P w K mg base js k f sp:=by
 obtain⟨f',fd,C⟩:=c
 obtain rfl:f=f':=by have:=g.symm.trans C.g;injection this with z;injection z
 exact⟨fd,ps,C.ok,C.kp,C.b⟩
theorem gT.dyn[fJ](c:gT P w K mg base k x ps sp)(g:mg x=some (.ref f)):IP P w K mg base (ug P w) k f sp:=by
 obtain⟨f',fd,C⟩:=c
 obtain rfl:f=f':=by have:=g.symm.trans C.g;injection this with z;injection z
 exact⟨fd,ps,C.ok,C.kp,C.b⟩
theorem IP.mono{CX:uz}{j:Nat}(d:IP P w K mg base CX j f sp)(h:j≤k):IP P w K mg base CX k f sp:=by
 obtain⟨fd,ps,F,r⟩:=d
 exact⟨fd,ps,F.mono h,r⟩
end
section
variable {K:PySem.W.Frag}{g:TG}{tt:TT}{te:TE}
theorem C8{a c L:Addr}{xs zs:List V}{Q:Hp→Prop}{σ:St}{H:Hp}(H0:Hp)(S:St→Prop)(Pv:Nat→List V→Prop)(ha:∀H,ku K H a xs)(hc:bR K H0 c zs)
  (K2:H0 L=none) (hσ:S σ) (h0:aG H0 H) (hL:H L=some (.lst [])) (p0:Pv 0 []) (hz:min xs.length zs.length≤sizeLine) (hl:∀i ys,Pv i ys→ys.length≤i)
  (turn:∀i x z p σ H' ys,xs[i]? =some x→zs[i]? =some z→H' p=none→S σ→aG H0 H'→H' L=some (.lst ys)→Pv i ys→∀(N:St→V→Hp→Prop) (M:St→Hp→Prop),(∀σ3 y H5,S σ3→aG H0 H5→H5 L=some (.lst ys)→Pv (i+1) (ys++[y])→N σ3 y H5)→
   g (.ref p) σ (upd H' p (.tup [x,z])) fun σ3 H3=>tt σ3 H3 fun b H4=>if b=true then te σ3 H4 fun y H5=>N σ3 y H5 else M σ3 H4)
  (fin:∀H' ys,aG H0 H'→H' L=some (.lst ys)→Pv (min xs.length zs.length) ys→Q H'):
  ∃W:Nat→Nat→St→Hp→Prop,(∃m,W 0 m σ H)∧∀i m σ H,W i m σ H→((C6 K a c).stop i H∧Q H)∨((C6 K a c).go i H∧∀x H2,(C6 K a c).yQ i H x H2→g x σ H2 fun σ3 H3=>tt σ3 H3 fun b H4=>if b=true
   then te σ3 H4 fun y H5=>∃ys,H5 L=some (.lst ys)∧ys.length<sizeLine∧∃m',m'<m∧W (i+1) m' σ3 (upd H5 L (.lst (ys++[y])))
   else∃m',m'<m∧W (i+1) m' σ3 H4):=
 nH (min xs.length zs.length) H0 S Pv
  (fun i H' hi e=>⟨xs,zs,xs[i]'(by omega),zs[i]'(by omega),ha H',e.seq hc,List.getElem?_eq_getElem _,List.getElem?_eq_getElem _⟩) (fun H' e=>⟨xs,zs,ha H',e.seq hc,by omega⟩) K2 hσ h0 hL p0 hz hl
  (fun i σ H' ys _ hs e k p N M hN v H2 hy=>by
   obtain⟨t,x,z,ht,rfl,rfl,hx,TB⟩:=hy
   exact turn i x z t σ H' ys (hx xs (ha H')) (TB zs (e.seq hc)) ht hs e k p N M hN) fin
end
end L2
namespace L2
open PySem PySem.Spec PyProof.Rows
def Gp:V→List V→Hp→VK→Prop:=fun x vs H Q=>∃(z y:Str) (i:Nat) (r:List Nat),x= .str z∧vs=[.str y]∧Builtin.Str.occurrences z y 0 z.length 1=i::r∧Q (.int i) H
theorem Bd{X:Cx}:N4 X "str.index" Gp:=by
 intro pins s σ H x vs v us Q I rx rv h
 obtain⟨z,y,i,r,rfl,rfl,ho,q⟩:=h
 obtain⟨t,rfl⟩:=(show∃t,v=Value.str z t from rx)
 obtain⟨u,rfl,ru⟩:=rv.one
 obtain⟨t2,rfl⟩:=(show∃t,u=Value.str y t from ru)
 exact SC.index ho ⟨.int _,H,I.tok _,⟨_,rfl⟩,q⟩
end L2
namespace L2
open PySem PySem.Spec PyProof.Rows
inductive mM(w:World):List DictEntry→List (Key×V)→Prop
 |nil:mM w [] []
 |cons {x:Str} {t:Tok} {f:Addr} {h:Int} {es:List DictEntry} {aL:List (Key×V)} (hh:h=Nt w (.inr x)) (r:mM w es aL):mM w (⟨h, .str x t, .ref f⟩::es) ((.inr x, .ref f)::aL)
theorem mM.out{P:Program}{w:World}{es:List DictEntry}{aL:List (Key×V)}(h:mM w es aL):(∀e∈es,∃k,(b9 P w).is k e.key=true∧e.hash=(b9 P w).hash k)∧∃vs,KV aL vs∧Pairs (b9 P w) es vs∧vs.map (·.1)=aL.map (·.1):=by
 induction h with
 |nil=>exact⟨(fun e he=>by cases he),[],Paired.nil,Pairs.nil,rfl⟩
 | @cons x t f h es aL hh r ih=>
   obtain⟨i1,vs,i2,i3,i4⟩:=ih
   refine⟨fun e he=>?_,(.inr x, .ref f)::vs,Paired.cons ⟨rfl,rfl⟩ i2,Pairs.cons (iU P w x t) rfl i3,by rw[List.map_cons,List.map_cons,i4]⟩
   rcases List.mem_cons.mp he with rfl|he
   ·exact⟨.inr x,iU P w x t,hh⟩
   ·exact i1 e he
theorem vp{P:Program}{w:World}{K:PySem.W.Frag}{a:Addr}{es:Array DictEntry}{ep:Nat}{aL:List (Key×V)}(hl:K.lookup a=some ⟨.type "dict",none, .dict es ep,#[]⟩)(hs:(a==sysModules)=false)(he:mM w es.toList aL)(hn:(aL.map (·.1)).Nodup):vn P w K a aL:=fun h hi=>by
 obtain⟨i1,vs,i2,i3,i4⟩:=he.out (P:=P)
 exact⟨hs,vs,i2,_,es,ep,hi a _ hl,⟨rfl,rfl,rfl⟩,rfl,fun e m=>i1 e (Array.mem_toList_iff.mpr m),i3,by rw[i4];exact hn⟩
end L2
namespace L2
open PySem PySem.Spec PyProof.Rows PySem.W
section
variable {prog:Program}{w:World}{A:Around}{E:Value→Shared→Prop}{κ:SortKind}{it:Array Keyed}{O:KeyOrd}{k:Nat→O.α}{n:Nat}{I:Shared→Prop}{s:Shared}{st:SortSt}
end
end L2
namespace L2
open PySem PySem.Spec PyProof.Rows PySem.W
section
variable {prog:Program}{w:World}{A:Around}{E:Value→Shared→Prop}{κ:SortKind}{it:Array Keyed}{O:KeyOrd}{k:Nat→O.α}{n:Nat}{I:Shared→Prop}{s:Shared}{st:SortSt}
abbrev Ar:=Array Keyed
end
end L2
namespace L2
open PySem PySem.Spec PyProof.Rows PySem.W
section
variable {O:KeyOrd}{k:Nat→O.α}
def le(k:Nat→O.α)(x y:Nat):Prop:=O.kle (k x) (k y)
theorem le_of_lt{x y:Nat}(h:O.blt (k x) (k y)=true):le k x y:=KeyOrd.kle_of_klt h
end
section
variable {it:Array Keyed}
def ar(it:Array Keyed)(l:List Nat):Ar:=(l.map (kas_item it)).toArray
end
section
variable {prog:Program}{w:World}{A:Around}{E:Value→Shared→Prop}{κ:SortKind}{it:Array Keyed}{O:KeyOrd}{k:Nat→O.α}{n:Nat}{I:Shared→Prop}{s:Shared}{st:SortSt}
theorem el{l:List Nat}{i:Nat}{Q:Keyed→SortSt→Shared→Prop}(hi:i<l.length)(q:Q (kas_item it (l.getD i 0)) st s):kasC (model prog w) A E (elem' (ar it l) i) Q st s:=by
 rw[elem'_eq]
 have e:(ar it l)[i]? =some (kas_item it (l.getD i 0)):=by
  simp [ar,List.getD,hi]
 rw[e]
 exact kasC_pure q
end
end L2
namespace L2
open PySem PySem.Spec PyProof.Rows PySem.W
section
variable {prog:Program}{w:World}{A:Around}{E:Value→Shared→Prop}{κ:SortKind}{it:Array Keyed}{O:KeyOrd}{k:Nat→O.α}{n:Nat}{I:Shared→Prop}{s:Shared}{st:SortSt}{la lb:List Nat}
end
end L2
namespace L2
open PySem PySem.Spec PyProof.Rows PySem.W
abbrev D1:=Option Ar×Nat×Nat×Ar×Nat×Nat
abbrev D2:=Option Ar×Nat×Nat×Ar×Nat×Nat×Nat
abbrev D3:=Option Ar×Nat×Nat×Ar×Nat
end L2
namespace L2
open PySem PySem.Spec PyProof.Rows PySem.W
section
variable {O:KeyOrd}{k:Nat→O.α}
end
section
variable {it:Array Keyed}
end
section
variable {prog:Program}{w:World}{A:Around}{E:Value→Shared→Prop}{κ:SortKind}{it:Array Keyed}{O:KeyOrd}{k:Nat→O.α}{n:Nat}{I:Shared→Prop}{s:Shared}{st:SortSt}{la lb:List Nat}
end
end L2
namespace L2
open PySem PySem.Spec PyProof.Rows PySem.W
section
variable {prog:Program}{w:World}{A:Around}{E:Value→Shared→Prop}{κ:SortKind}{it:Array Keyed}{O:KeyOrd}{k:Nat→O.α}{n:Nat}{I:Shared→Prop}{s:Shared}{st:SortSt}{la lb:List Nat}
end
end L2
namespace L2
open PySem PySem.Spec PyProof.Rows PySem.W
section
variable {prog:Program}{w:World}{A:Around}{E:Value→Shared→Prop}{κ:SortKind}{it:Array Keyed}{O:KeyOrd}{k:Nat→O.α}{n:Nat}{I:Shared→Prop}{s:Shared}{st:SortSt}
end
end L2
namespace L2
open PySem PySem.Spec PyProof.Rows PySem.W
section
variable {prog:Program}{w:World}{A:Around}{E:Value→Shared→Prop}{κ:SortKind}{it:Array Keyed}{O:KeyOrd}{k:Nat→O.α}{n:Nat}{I:Shared→Prop}{s:Shared}
end
end L2
namespace L2
open PySem PySem.Spec PyProof.Rows PySem.W
end L2
namespace L2
open PySem PySem.Spec PyProof.Rows PySem.W
section
variable {it:Array Keyed}
end
section
variable {prog:Program}{w:World}{A:Around}{E:Value→Shared→Prop}{κ:SortKind}{it:Array Keyed}{O:KeyOrd}{k:Nat→O.α}{n:Nat}{I:Shared→Prop}{s:Shared}{pd:Array (Nat×Nat×Nat)}{g:Nat}
end
end L2
namespace L2
open PySem PySem.Spec PyProof.Rows PySem.W
section
variable {it:Array Keyed}
end
section
variable {prog:Program}{w:World}{A:Around}{E:Value→Shared→Prop}{κ:SortKind}{it:Array Keyed}{O:KeyOrd}{k:Nat→O.α}{n:Nat}{I:Shared→Prop}{s:Shared}{pd:Array (Nat×Nat×Nat)}{g:Nat}
end
end L2
namespace L2
open PySem PySem.Spec PyProof.Rows PySem.W
end L2
namespace L2
open PySem PySem.Spec PyProof.Rows PySem.W
section
variable {O:KeyOrd}{k:Nat→O.α}
end
section
variable {prog:Program}{w:World}{A:Around}{E:Value→Shared→Prop}{κ:SortKind}{it:Array Keyed}{O:KeyOrd}{k:Nat→O.α}{n:Nat}{I:Shared→Prop}{s:Shared}{pd:Array (Nat×Nat×Nat)}{g:Nat}
end
end L2
namespace L2
open PySem PySem.Spec PyProof.Rows PySem.SeqAt PySem.W
section
variable {prog:Program}{w:World}{A:Around}{E:Value→Shared→Prop}{s:Shared}
end
section
variable {X:Cx}
end
end L2
namespace L2
open PySem PySem.Spec PyProof.Rows PySem.SeqAt PySem.W
@[reducible] def Vt:KeyOrd where
  α:=Int
  blt a b:=decide (a<b)
  irrefl a:=by simp
  trans a b c h1 h2:=by simp only [decide_eq_true_eq] at*;omega
  negTrans a b c h:=by simp only [decide_eq_true_eq] at*;omega
  total a b h1 h2:=by simp only [decide_eq_false_iff_not] at*;omega
section
variable {prog:Program}{w:World}{A:Around}{E:Value→Shared→Prop}{s:Shared}
end
section
variable {X:Cx}
end
end L2
set_option maxHeartbeats 4000000
namespace Vu
open PySem L2
def top(i:Nat):Stmt:=PySem.Challenge.pw_balancehall_k70_names_at_the_desk.main.body.getD i (.Pass ⟨0,0,0,0⟩)
abbrev sJ:Stmt:=inClass (top 3) 0
abbrev Gq:Stmt:=inClass (top 4) 0
abbrev Gs:Stmt:=inClass (top 5) 0
abbrev sM:Stmt:=inClass (top 6) 0
abbrev Gu:Stmt:=inClass (top 10) 0
abbrev gU:Stmt:=inClass (top 28) 0
abbrev sN:Stmt:=inClass (top 28) 1
abbrev eL:Stmt:=inClass (top 29) 0
abbrev jw:Stmt:=inClass (top 29) 1
abbrev eM:Stmt:=inClass (top 30) 0
abbrev gc:Stmt:=inClass (top 30) 1
abbrev eN:Stmt:=inClass (top 39) 0
abbrev kQ:Stmt:=inClass (top 39) 1
abbrev sO:Stmt:=inClass (top 40) 0
abbrev zx:Stmt:=inClass (top 40) 1
abbrev zy:Stmt:=inClass (top 40) 2
abbrev kR:Stmt:=inClass (top 40) 3
abbrev nL:Stmt:=inClass (top 40) 5
abbrev ij:Stmt:=inClass (top 40) 6
abbrev kS:Stmt:=inClass (top 40) 7
abbrev oU:Stmt:=inClass (top 40) 8
abbrev jx:Stmt:=inClass (top 40) 9
abbrev sP:Stmt:=inClass (top 40) 10
abbrev nM:Stmt:=inClass (top 40) 11
abbrev kT:Stmt:=inClass (top 40) 12
abbrev kU:Stmt:=inClass (top 40) 13
abbrev sQ:Stmt:=inClass (top 54) 0
abbrev nN:Stmt:=inClass (top 54) 1
abbrev sR:Stmt:=inClass (top 55) 0
abbrev nO:Stmt:=inClass (top 55) 1
abbrev kW:Stmt:=inClass (top 55) 2
abbrev nP:Stmt:=inClass (top 55) 3
abbrev dt:Stmt:=inClass (top 109) 0
abbrev nQ:Stmt:=inClass (top 130) 0
abbrev sS:Stmt:=inClass (top 130) 1
abbrev Gv:Stmt:=inClass (top 130) 2
abbrev sT:Stmt:=top 19
abbrev sU:Stmt:=top 20
abbrev nR:Stmt:=top 21
abbrev gf:Stmt:=top 22
abbrev jy:Stmt:=top 24
abbrev kX:Stmt:=top 37
abbrev fk:Stmt:=top 38
abbrev ik:Stmt:=top 48
abbrev fM:Stmt:=top 49
abbrev kY:Stmt:=top 56
abbrev kZ:Stmt:=top 93
abbrev sV:Stmt:=top 97
abbrev k7:Stmt:=top 99
abbrev nS:Stmt:=top 100
abbrev jb:Stmt:=top 101
abbrev k8:Stmt:=top 102
abbrev il:Stmt:=top 116
abbrev lh:Stmt:=top 117
abbrev lj:Stmt:=top 118
abbrev zz:Stmt:=top 132
abbrev nU:Stmt:=top 133
abbrev oV:Stmt:=top 134
abbrev lu:Stmt:=top 135
abbrev nV:Stmt:=top 136
abbrev jc:Stmt:=top 137
abbrev jz:Stmt:=top 138
abbrev nW:Stmt:=top 139
abbrev zA:Stmt:=top 140
abbrev qj:Stmt:=top 141
theorem nkc:¬(("kind" :Str)="count"):=by decide+kernel
def vq(k:Str)(n:Int):List (Str×V):=cW "count" (.int n) (cW "kind" (.str k) [])
theorem Be(k:Str)(n:Int):(vq k n).lookup ("kind" :Str)=some (.str k):=by
 unfold vq
 rw[aJ,if_neg nkc,aJ,if_pos rfl]
theorem xG(k:Str)(n:Int):(vq k n).lookup ("count" :Str)=some (.int n):=by
 unfold vq
 rw[aJ,if_pos rfl]
theorem Gw(k:Str)(n:Int){m:Str}(h1:¬m="count")(h2:¬m="kind"):(vq k n).lookup m=none:=by
 unfold vq
 rw[aJ,if_neg h1,aJ,if_neg h2]
 all_goals rfl
def fN(C:Addr)(H:Hp)(p:Addr)(k:Str)(n:Int):Prop:=∃dx,H p=some (.ins C dx (vq k n))
theorem fN.same{C:Addr}{H H':Hp}{p:Addr}{k:Str}{n:Int}(a:fN C H p k n)(e:aG H H'):fN C H' p k n:=let ⟨dx,h⟩:=a;⟨dx,e _ _ h⟩
def eY(n:Int):Str:=if n=1 then "" else (toString n:Str)
theorem xH:∀n:Nat,n<1000→(eY (n:Int)).length≤3:=by decide+kernel
theorem lz{n:Int}(h:1≤n)(h':n≤999):(eY n).length≤3:=by
 have:=xH n.toNat (by omega)
 rwa [Int.toNat_of_nonneg (by omega)] at this
def jn(ys:List Str):Str:=Str.join ⟨#[]⟩ ys
theorem join_eq(ys:List Str):Txt.join "" ys=jn ys:=by
 have h:=PyProof.Rows.join_closes (sep:="") (sep':=⟨#[]⟩) (ys:=ys) (by decide+kernel)
 unfold jn
 simpa using h
theorem zB(x:Str)(r:List Str):jn (x::r)=x++jn r:=PyProof.Rows.join_nil_cons x r
theorem zC:∀{ys:List Str} {b:Nat},(∀y∈ys,y.length≤b)→(ys.map (·.length)).sum≤ys.length*b
 | [],_,_=>Nat.zero_le _
 |y::r,b,h=>by
  rw[List.map_cons,List.sum_cons,List.length_cons,Nat.succ_mul]
  have h1:=h y (List.mem_cons_self ..)
  have h2:=zC (ys:=r) (b:=b) fun z hz=>h z (List.mem_cons_of_mem _ hz)
  omega
theorem Vv:¬(("parts" :Str)="count"):=by decide+kernel
def lB(l:Addr)(n:Int):List (Str×V):=cW "count" (.int n) (cW "parts" (.ref l) [])
theorem mN(l:Addr)(n:Int):(lB l n).lookup ("parts" :Str)=some (.ref l):=by
 unfold lB
 rw[aJ,if_neg Vv,aJ,if_pos rfl]
theorem mO(l:Addr)(n:Int):(lB l n).lookup ("count" :Str)=some (.int n):=by
 unfold lB
 rw[aJ,if_pos rfl]
theorem vt(l:Addr)(n:Int){m:Str}(h1:¬m="count")(h2:¬m="parts"):(lB l n).lookup m=none:=by
 unfold lB
 rw[aJ,if_neg h1,aJ,if_neg h2]
 all_goals rfl
def l8:Sp:=fun vs H Q _=>∃n:Int,vs=[.int n]∧1≤n∧n≤999∧Q (.str (eY n)) H
def C9(C:Addr):Sp:=fun vs H Q _=>∃(p dx:Addr) (k:Str) (n:Int),vs=[.ref p, .str k, .int n]∧H p=some (.ins C dx [])∧∀H',H' p=some (.ins C dx (vq k n))→(∀b o,H b=some o→b≠p→H' b=some o)→Q .cJ H'
def sW(C:Addr):Sp:=fun vs H Q _=>∃(p:Addr) (k:Str) (n:Int),vs=[.ref p]∧fN C H p k n∧k.length≤3∧1≤n∧n≤999∧Q (.str (k++eY n)) H
structure vv(K:PySem.W.Frag)(mg:Str→Option Value)(C:Addr):Prop where
 ip:qf K C
 zD:cu K C "kind"
 vw:cu K C "count"
 Lf:mg "Atom" =some (.ref C)
 gg:mg "len" =none
 zE:mg "str" =none
 OJ:mg "int" =none
 Dc:mg "bool" =none
 jA:mg "range" =none
 cm:mg "isinstance" =none
 k1:PySem.W.kitOne K (.type "int") (.type "int")=some true
 k2:PySem.W.kitOne K (.type "int") (.type "bool")=some false
 k3:PySem.W.kitOne K (.type "dict") (.type "dict")=some true
 k4:PySem.W.kitOne K (.type "str") (.type "str")=some true
 k6:PySem.W.kitOne K (.type "list") (.type "list")=some true
theorem gi{x y:Str}(h:x.cps.toList=y.cps.toList):x=y:=by
 cases x;cases y
 congr 1
 exact Array.toList_inj.mp h
theorem Gx(a b n:Nat):Builtin.Str.strSliceIndices (some (a:Int)) (some (b:Int)) 1 n=Builtin.Str.strSliceIndices (some (a:Int)) (some ((min b n:Nat):Int)) 1 n:=by
 have h2:¬((b:Int) <0):=by omega
 have h3:¬(((min b n:Nat):Int) <0):=by omega
 have e2:max (0 :Int) (min (b:Int) (n:Int))=max (0 :Int) (min ((min b n:Nat):Int) (n:Int)):=by omega
 simp only [Builtin.Str.strSliceIndices,h2,h3,if_false,e2,show ((1 :Int) >0)=True from by simp,if_true]
theorem gW(x:Str){a b:Nat}(Va:a≤b)(ha:a≤x.length):(Txt.slice x (some (a:Int)) (some (b:Int))).cps.toList=(x.cps.toList.drop a).take (b - a):=by
 have hm:a≤min b x.length:=by omega
 have hb:min b x.length≤x.length:=by omega
 have h1:=StrLaws.sliced_plain x hm hb
 have h2:=StrLaws.strSliceIndices_plain hm hb
 have hl:x.cps.toList.length=x.length:=by simp [Str.length]
 unfold Txt.slice
 rw[Gx]
 split
 ·rename_i h
  have h:(Builtin.Str.strSliceIndices (some (a:Int)) (some ((min b x.length:Nat):Int)) 1 x.length).length=x.length:=by simpa using h
  rw[h2,List.length_map,List.length_range] at h
  by_cases hz:x.length=0
  ·have:x.cps.toList=[]:=List.length_eq_zero_iff.mp (by omega)
   rw[this];simp
  ·have e:a=0:=by omega
   subst e
   rw[List.drop_zero,List.take_of_length_le (by omega)]
 ·show (List.filterMap _ _).toArray.toList=_
  rw[h1,List.take_eq_take_iff,List.length_drop,hl]
  omega
def fq(x:Str)(p:Nat):Str:=⟨((x.cps.toList.drop p).take 1).toArray⟩
theorem qS(x:Str){p:Nat}(hp:p≤x.length):Txt.slice x (some (p:Int)) (some ((p:Int)+1))=fq x p:=by
 apply gi
 have:=gW x (a:=p) (b:=p+1) (by omega) hp
 rw[Nat.add_sub_cancel_left] at this
 exact this
def inR(lo hi:Nat)(s:Str):Bool:=match s.cps.toList with
 | [c]=>decide (lo≤c)&&decide (c≤hi)
 |_=>false
theorem Lg(lo:Nat)(s:Str)(h:s.cps.toList.length≤1):(!decide (s.cps.toList< [lo]))=(match s.cps.toList with| [c]=>decide (lo≤c) |_=>false):=by
 match hh:s.cps.toList,h with
 | [],_=>simp
 | [c],_=>
   have:([c] < [lo])↔c<lo:=by simp [List.cons_lt_cons_iff]
   by_cases hc:c<lo
   ·rw[decide_eq_true (this.mpr hc)];simp;omega
   ·rw[decide_eq_false (fun z=>hc (this.mp z))];simp;omega
 |_::_::_,h=>simp at h
theorem Lh(hi:Nat)(s:Str)(h:s.cps.toList.length≤1):(!decide ([hi] <s.cps.toList))=(match s.cps.toList with| [c]=>decide (c≤hi) |_=>true):=by
 match hh:s.cps.toList,h with
 | [],_=>simp
 | [c],_=>
   have:([hi] < [c])↔hi<c:=by simp [List.cons_lt_cons_iff]
   by_cases hc:hi<c
   ·rw[decide_eq_true (this.mpr hc)];simp;omega
   ·rw[decide_eq_false (fun z=>hc (this.mp z))];simp;omega
 |_::_::_,h=>simp at h
theorem lD(x:Str)(p:Nat):(fq x p).cps.toList.length≤1:=by
 unfold fq
 simp
 omega
def Not(f:Nat→Bool)(l:List Nat):Prop:=∀c,l.head? =some c→f c=false
def cR(c:Nat):Bool:=decide (48≤c)&&decide (c≤57)
def fe(c:Nat):Bool:=decide (97≤c)&&decide (c≤122)
def je(c:Nat):Bool:=decide (65≤c)&&decide (c≤90)
def bG(n:Int):List Nat:=(eY n).cps.toList
theorem gw:bG 1=[]:=by decide+kernel
theorem fO{n:Nat}(h:n≠1):bG (n:Int)=(Nat.toDigits 10 n).map Char.toNat:=by
 unfold bG eY
 rw[if_neg (by omega)]
 exact PySem.W.KIN.signs_num n
theorem fu(n:Nat):(bG (n:Int)).all cR=true:=by
 by_cases h:n=1
 ·subst h;rw[show ((1 :Nat):Int)=1 from rfl,gw];rfl
 ·rw[fO h,List.all_eq_true]
  intro c hc
  obtain⟨ch,B1,e⟩:=List.mem_map.mp hc
  have r:=PyProof.Rows.digit_range (Nat.isDigit_of_mem_toDigits (by decide) (by decide) B1)
  rw[←e]
  simp only [cR,Bool.and_eq_true,decide_eq_true_eq]
  exact r
theorem Dd(n:Nat):Nat.toDigits 10 n≠[]:=by
 intro e
 have h:=PySem.toDigits_len_ge 10 n
 rw[e] at h
 exact absurd h (by decide)
theorem De:∀n:Nat,n≠0→(Nat.toDigits 10 n).head? ≠some '0' :=by
 intro n
 induction n using Nat.strongRecOn with
 |_ m ih=>
  intro h0
  by_cases h:m<10
  ·rw[Nat.toDigits_of_lt_base h]
   have:∀m:Nat,m<10→m≠0→[Nat.digitChar m].head? ≠some '0' :=by decide
   exact this m h h0
  ·have hm:m%10<10:=Nat.mod_lt m (by decide)
   have t:Nat.toDigits 10 (m/10)++Nat.toDigits 10 (m%10)=Nat.toDigits 10 (10*(m/10)+m%10):=Nat.toDigits_append_toDigits (by decide) (by omega) hm
   rw[Nat.div_add_mod] at t
   have:=ih (m/10) (by omega) (by omega)
   rw[←t]
   cases hh:Nat.toDigits 10 (m/10) with
   |nil=>exact absurd hh (Dd _)
   |cons c r=>
    rw[hh] at this
    exact this
theorem lE(n:Nat)(h0:n≠0):(bG (n:Int)).head? ≠some 48:=by
 by_cases h:n=1
 ·subst h;rw[show ((1 :Nat):Int)=1 from rfl,gw];simp
 ·rw[fO h,List.head?_map]
  intro z
  cases e:(Nat.toDigits 10 n).head? with
  |none=>rw[e] at z;cases z
  |some c=>
   rw[e] at z
   have z:c.toNat=48:=by simpa using z
   have:c='0' :=by
    apply Char.ext
    apply UInt32.toNat_inj.mp
    exact z
   exact De n h0 (by rw[e,this])
theorem nX(n:Nat):bG (n:Int)≠[49]:=by
 by_cases h:n=1
 ·subst h;rw[show ((1 :Nat):Int)=1 from rfl,gw];simp
 ·rw[fO h]
  intro z
  have:=PySem.W.KIN.val_back n
  rw[z] at this
  exact h this.symm
theorem Gy(n:Nat)(h:bG (n:Int)=[]):n=1:=by
 by_cases e:n=1
 ·exact e
 ·rw[fO e] at h
  exact absurd (List.map_eq_nil_iff.mp h) (Dd n)
theorem qT{n:Nat}{k:Nat}(hk:0<k)(h:n<10^k):(eY (n:Int)).length≤k:=by
 unfold eY
 split
 ·exact Nat.zero_le _
 ·rw[PySem.ofString_length]
  show (Nat.repr n).length≤k
  rw[Nat.length_repr_le_iff hk]
  exact h
theorem Gz(n:Nat)(h:n<10^12)(h1:n≠1):PySem.intText? (eY (n:Int))=some (n:Int):=by
 have hd:PySem.NumText.AllDigits (eY (n:Int)).cps.toList:=by
  intro c hc
  have:=List.all_eq_true.mp (fu n) c hc
  simpa only [cR,Bool.and_eq_true,decide_eq_true_eq] using this
 have mL:(eY (n:Int)).cps.toList≠[]:=fun z=>h1 (Gy n z)
 have e:=PySem.intText_digits hd mL (Nat.le_trans (qT (by decide) h) (by decide))
 rw[show (eY (n:Int)).cps.toList=_ from fO h1,PySem.W.KIN.val_back] at e
 exact e
instance Vw (k:Key) (K:List Key):Decidable (k∈K):=decidable_of_iff ((K.any fun x=>decide (x=k))=true) (by simp)
theorem Vx:¬(("text" :Str)="place"):=by decide+kernel
def fP(x:Str)(p:Nat):List (Str×V):=cW "place" (.int p) (cW "text" (.str x) [])
theorem fQ(x:Str)(p:Nat):(fP x p).lookup ("text" :Str)=some (.str x):=by
 unfold fP
 rw[aJ,if_neg Vx,aJ,if_pos rfl]
theorem bb(x:Str)(p:Nat):(fP x p).lookup ("place" :Str)=some (.int p):=by
 unfold fP
 rw[aJ,if_pos rfl]
theorem aI(x:Str)(p:Nat){m:Str}(h1:¬m="place")(h2:¬m="text"):(fP x p).lookup m=none:=by
 unfold fP
 rw[aJ,if_neg h1,aJ,if_neg h2]
 all_goals rfl
theorem jB(x:Str)(p q:Nat):cW "place" (.int q) (fP x p)=fP x q:=by
 unfold fP
 simp only [cW,if_neg Vx,if_true]
theorem jC(x:Str)(p:Nat):(fP x p).length<1000:=by
 unfold fP
 simp only [cW,if_neg Vx]
 show 2<1000
 decide
def cT(R:Addr)(H:Hp)(r:Addr)(x:Str)(p:Nat):Prop:=∃dx,H r=some (.ins R dx (fP x p))
def Kept(r:Addr)(H H':Hp):Prop:=∀b o,H b=some o→b≠r→H' b=some o
theorem Kept.refl(r:Addr)(H:Hp):Kept r H H:=fun _ _ h _=>h
theorem Kept.trans{r:Addr}{H H' bQ:Hp}(h:Kept r H H')(h':Kept r H' bQ):Kept r H bQ:=fun b o e n=>h' b o (h b o e n) n
theorem Kept.of{r:Addr}{H H':Hp}(h:aG H H'):Kept r H H':=fun b o e _=>h b o e
def GA(lo hi:Nat):Sp:=fun vs H Q _=>∃s:Str,vs=[.str s]∧s.cps.toList.length≤1∧Q (.bl (inR lo hi s)) H
def zF(R:Addr):Sp:=fun vs H Q _=>∃(r dx:Addr) (x:Str),vs=[.ref r, .str x]∧H r=some (.ins R dx [])∧∀H',cT R H' r x 0→Kept r H H'→Q .cJ H'
def iq(R:Addr):Sp:=fun vs H Q _=>∃(r:Addr) (x:Str) (p:Nat),vs=[.ref r]∧cT R H r x p∧p≤x.length∧x.length≤1000∧Q (.str (fq x p)) H
def uh(k:List Nat):Prop:=∃c r,k=c::r∧je c=true∧r.all fe=true∧r.length≤2
structure qk(K:PySem.W.Frag)(mg:Str→Option Value)(C R:Addr)(uK uN:Tok):Prop extends vv K mg C where
 aw:qf K R
 jD:cu K R "text"
 bE:cu K R "place"
 oW:mg "LONGEST_KIND" =some (.int 3 uK)
 ni:mg "LONGEST_COUNT" =some (.int 3 uN)
section
seal jV PS PE PT PW PA PG M0 PI PC M3
variable [fJ]{P:Program}{w:World}{K:PySem.W.Frag}{mg:Str→Option Value}{base:Heap}{C R G Pc Fo:Addr}{uK uN uB uE uM:Tok}
theorem GB:az ["sign"] ["sign"] (ag sT):=dI
theorem GC:az ["sign"] ["sign"] (ag sU):=dI
theorem Df:az ["sign"] ["sign"] (ag nR):=dI
theorem xI(lo hi:Nat)(s:Str)(h:s.cps.toList.length≤1):(if (!decide (s.cps.toList< [lo]))=true then (!decide ([hi] <s.cps.toList)) else false)=inR lo hi s:=by
 rw[Lg lo s h,Lh hi s h]
 unfold inR
 match hh:s.cps.toList,h with
 | [],_=>rfl
 | [c],_=>
   show (if decide (lo≤c)=true then decide (c≤hi) else false)=(decide (lo≤c)&&decide (c≤hi))
   cases decide (lo≤c)<;>rfl
 |_::_::_,h=>simp at h
theorem Dg(D:Def K mg "is_great" "is_great" sT ["sign"]):bI P w K mg base 1 "is_great" ["sign"] (GA 65 90):=by
 refine D.fW GB (fun vs H Q E h=>?_) (fun f br A outer s H vs Q E hr h=>?_)
 ·obtain⟨n,rfl,_⟩:=h
  rfl
 ·obtain⟨x,rfl,hl,q⟩:=h
  refine⟨_,(ao
     (aH (kD fB fB aR (pv 0) aR))),?_⟩
  rw[←xI 65 90 x hl] at q
  have e1:("A" :Str).cps.toList=[65]:=by decide+kernel
  have e2:("Z" :Str).cps.toList=[90]:=by decide+kernel
  refine⟨_,rfl,_,_,rfl,rfl,_,rfl,?_⟩
  rw[e1]
  cases hh:(!decide (x.cps.toList< [65])) with
  |false=>rw[hh] at q;exact dm q
  |true=>rw[hh] at q;exact eG ⟨_,_,rfl,rfl,by rw[e2];exact q⟩
theorem Dh(D:Def K mg "is_small" "is_small" sU ["sign"]):bI P w K mg base 1 "is_small" ["sign"] (GA 97 122):=by
 refine D.fW GC (fun vs H Q E h=>?_) (fun f br A outer s H vs Q E hr h=>?_)
 ·obtain⟨n,rfl,_⟩:=h
  rfl
 ·obtain⟨x,rfl,hl,q⟩:=h
  refine⟨_,(ao
     (aH (kD fB fB aR (pv 0) aR))),?_⟩
  rw[←xI 97 122 x hl] at q
  have e1:("a" :Str).cps.toList=[97]:=by decide+kernel
  have e2:("z" :Str).cps.toList=[122]:=by decide+kernel
  refine⟨_,rfl,_,_,rfl,rfl,_,rfl,?_⟩
  rw[e1]
  cases hh:(!decide (x.cps.toList< [97])) with
  |false=>rw[hh] at q;exact dm q
  |true=>rw[hh] at q;exact eG ⟨_,_,rfl,rfl,by rw[e2];exact q⟩
theorem Bf(D:Def K mg "is_figure" "is_figure" nR ["sign"]):bI P w K mg base 1 "is_figure" ["sign"] (GA 48 57):=by
 refine D.fW Df (fun vs H Q E h=>?_) (fun f br A outer s H vs Q E hr h=>?_)
 ·obtain⟨n,rfl,_⟩:=h
  rfl
 ·obtain⟨x,rfl,hl,q⟩:=h
  refine⟨_,(ao
     (aH (kD fB fB aR (pv 0) aR))),?_⟩
  rw[←xI 48 57 x hl] at q
  have e1:("0" :Str).cps.toList=[48]:=by decide+kernel
  have e2:("9" :Str).cps.toList=[57]:=by decide+kernel
  refine⟨_,rfl,_,_,rfl,rfl,_,rfl,?_⟩
  rw[e1]
  cases hh:(!decide (x.cps.toList< [48])) with
  |false=>rw[hh] at q;exact dm q
  |true=>rw[hh] at q;exact eG ⟨_,_,rfl,rfl,by rw[e2];exact q⟩
theorem GD:az ["self","text"] ["self","text"] (ag sO):=dI
theorem Di(D:i5 K R "Reader.__init__" sO ["self","text"] [])(T:qk K mg C R uK uN):eU P w K mg base 1 R ["self","text"] [] (zF R):=by
 refine D.fW GD (fun vs H Q E h=>?_) (fun f br A outer s H vs Q E hr h=>?_)
 ·obtain⟨r,dx,x,rfl,_⟩:=h
  rfl
 ·obtain⟨r,dx,x,rfl,hp,q⟩:=h
  refine⟨_,(aj
     (dz (pv 0) (pv 1) rfl)
    (ao
     (dz (pv 0) aq rfl))),?_⟩
  refine⟨_,rfl,_,rfl,r,R,dx,[],rfl,hp,T.aw,T.jD,(by show 0<1000;decide),_,rfl,r,R,dx,_,rfl,ai,T.aw,T.bE,(by show 1<1000;decide),?_⟩
  refine q _ ⟨dx,ai⟩ fun b o e hb=>?_
  rw[ah hb,ah hb]
  exact e
theorem Li:az ["self"] ["self"] (ag zx):=dI
theorem GF(D:bP K R "sign" "Reader.sign" zx ["self"])(T:qk K mg C R uK uN):dw P w K mg base 1 R "sign" ["self"] (iq R):=by
 refine D.fW Li (fun vs H Q E h=>?_) (fun f br A outer s H vs Q E hr h=>?_)
 ·obtain⟨r,x,p,rfl,_⟩:=h
  rfl
 ·obtain⟨r,x,p,rfl,⟨dx,hR⟩,hp,hx,q⟩:=h
  have big:(1000 :Nat)≤sizeLine:=by decide
  refine⟨_,(ao
     (aH (cE j8 (bx (pv 0) rfl) (cg (bx (pv 0) rfl)) (cg (aB cL (bx (pv 0) rfl) aq))))),?_⟩
  rw[←qS x hp] at q
  exact⟨_,rfl,r,R,dx,_,_,rfl,hR,T.aw,T.jD,fQ _ _,_,rfl,r,R,dx,_,_,rfl,hR,T.aw,T.bE,bb _ _,_,rfl,_,rfl,r,R,dx,_,_,rfl,hR,T.aw,T.bE,bb _ _,_,_,rfl,rfl,_,rfl,x,rfl,by omega,q⟩
theorem Lj:az ["self","sign"] ["self","sign"] (ag zy):=dI
theorem qU:az ["self","signs","sign"] ["self","signs"] (ag kR):=dI
theorem oX{n:Int}(h1:1≤n)(h2:n<10^12):∃m:Nat,n=(m:Int)∧m<10^12∧m≠0:=⟨n.toNat,by omega,by omega,by omega⟩
theorem l9:az ["self","longest","begin","written"] ["self","longest"] (ag kT):=dI
theorem Dj:az ["self"] ["self"] (ag nM):=dI
theorem aY{r a:Addr}{H H':Hp}{o:HO}(k:Kept r H H')(hr:H' r=some o)(h:H' a=none):H a=none:=by
 cases hh:H a with
 |none=>rfl
 |some o'=>
  by_cases e:a=r
  ·rw[e,hr] at h;cases h
  ·rw[k a o' hh e] at h;cases h
theorem GG{f:Nat→Bool}{l post:List Nat}(h1:∀c∈l,f c=false)(h2:Not f post):Not f (l++post):=by
 cases l with
 |nil=>exact h2
 |cons c r=>
  intro d hd
  have e:c=d:=by simpa using hd
  rw[←e]
  exact h1 c (List.mem_cons_self ..)
theorem Dl{n:Int}(h1:1≤n)(h2:n≤999):∀c∈bG n,fe c=false:=by
 intro c hc
 obtain⟨m,rfl,m1,m0⟩:=oX h1 (by omega)
 have:=List.all_eq_true.mp (fu m) c hc
 simp only [cR,fe,Bool.and_eq_true,decide_eq_true_eq] at*
 simp
 omega
theorem sX:az ["self","begin","kind"] ["self"] (ag sP):=dI
inductive Tr where
 |one (k:List Nat) (n:Int)
 |gr (ts:List Tr) (n:Int)
def dA:Nat→Tr→List Nat
 |_, .one k n=>k++bG n
 |0, .gr _ _=>[]
 |d+1, .gr ts n=>40::(ts.flatMap (dA d)++41::bG n)
def vx:Nat→Tr→Prop
 |_, .one k n=>uh k∧1≤n∧n≤999
 |0, .gr _ _=>False
 |d+1, .gr ts n=>ts≠[]∧(∀t∈ts,vx d t)∧1≤n∧n≤999
def eO(C G:Addr):Nat→Hp→Addr→Tr→Prop
 |_,H,p, .one k n=>fN C H p ⟨k.toArray⟩ n
 |0,_,_, .gr _ _=>False
 |d+1,H,p, .gr ts n=>∃dx l ps,H p=some (.ins G dx (lB l n))∧H l=some (.lst (ps.map V.ref))∧Paired (eO C G d H) ps ts
def Lk(C G:Addr)(d:Nat)(H H':Hp)(a:Addr)(t:Tr):Prop:=∀bQ,(∀b o,H b=none→H' b=some o→bQ b=some o)→eO C G d bQ a t
def Vy(C G L:Addr)(d:Nat)(H H':Hp)(a:Addr)(t:Tr):Prop:=∀bQ,(∀b o,H b=none→b≠L→H' b=some o→bQ b=some o)→eO C G d bQ a t
def OL(C G:Addr)(d:Nat)(H H':Hp)(l:Addr)(ts:List Tr):Prop:=H l=none∧∃ps,H' l=some (.lst (ps.map V.ref))∧∀bQ,(∀b o,H b=none→H' b=some o→bQ b=some o)→Paired (eO C G d bQ) ps ts
def Stop(post:List Nat):Prop:=Not cR post∧Not fe post∧Not je post∧Not (fun c=>decide (c=40)) post
structure sY(K:PySem.W.Frag)(mg:Str→Option Value)(C R G:Addr)(uK uN uB uE uM:Tok):Prop extends qk K mg C R uK uN where
 fv:qf K G
 qV:cu K G "parts"
 qW:cu K G "count"
 GH:mg "Group" =some (.ref G)
 eR:mg "GROUP_BEGIN" =some (.str "(" uB)
 mP:mg "GROUP_END" =some (.str ")" uE)
 jf:mg "MOST_GROUPS_AROUND" =some (.int 3 uM)
theorem M7:("(" :Str)=⟨#[40]⟩:=by decide+kernel
theorem e41:(")" :Str)=⟨#[41]⟩:=by decide+kernel
theorem sZ{d:Nat}{t:Tr}(h:vx d t):∃c r,dA d t=c::r∧((je c=true∧∃k n,t= .one k n)∨(c=40∧∃ts n,t= .gr ts n)):=by
 cases t with
 |one k n=>
  have h:uh k∧1≤n∧n≤999:=by cases d<;>exact h
  obtain⟨⟨c,r,rfl,hc,_⟩,_⟩:=h
  have e:dA d (.one (c::r) n)=c::(r++bG n):=by cases d<;>rfl
  exact⟨c,_,e, .inl ⟨hc,_,_,rfl⟩⟩
 |gr ts n=>
  cases d with
  |zero=>exact h.elim
  |succ d=>exact⟨40,_,rfl, .inr ⟨rfl,_,_,rfl⟩⟩
theorem GI:az ["self","around"] ["self","around"] (ag oU):=dI
def lG(X:Addr):Sp:=fun vs H Q _=>∃(p dx l:Addr) (c:Int) (xs:List V),vs=[.ref p, .ref l, .int c]∧H p=some (.ins X dx [])∧H l=some (.lst xs)∧
 ∀n H',H n=none→H' p=some (.ins X dx (lB n c))→H' n=some (.lst xs)→(∀b o,H b=some o→b≠p→H' b=some o)→Q .cJ H'
theorem dY{H:Hp}{a b m:Addr}{o o':HO}(h:(upd (upd H a o) b o') m=none):H m=none:=by
 by_cases e:m=b
 ·rw[e,ai] at h;cases h
 ·rw[ah e] at h
  by_cases e':m=a
  ·rw[e',ai] at h;cases h
  ·rwa [ah e'] at h
theorem Ll(l:List Nat):Stop (41::l):=by
 refine⟨?_,?_,?_,?_⟩<;>(intro c hc;have e:41=c:=by simpa using hc)<;>subst e<;>decide
theorem oY:az ["self","around","parts"] ["self","around"] (ag jx):=dI
theorem vy{d:Nat}:∀{ts:List Tr},(∀t∈ts,vx d t)→ts.length≤(ts.flatMap (dA d)).length
 | [],_=>Nat.le_refl _
 |t::ts,h=>by
  obtain⟨c,r,e,_⟩:=sZ (h t (List.mem_cons_self ..))
  have:=vy (d:=d) (ts:=ts) fun u hu=>h u (List.mem_cons_of_mem _ hu)
  rw[List.flatMap_cons,List.length_append,e,List.length_cons,List.length_cons]
  omega
theorem list_at{α:Type}{l:List α}{i:Nat}(h:i<l.length):l=l.take i++l[i]::l.drop (i+1):=by
 conv=>lhs;rw[←List.take_append_drop i l]
 congr 1
 exact List.drop_eq_getElem_cons h
theorem oZ{d:Nat}{ts:List Tr}{post:List Nat}(h:∀t∈ts,vx d t)(hs:Stop post):Not cR (ts.flatMap (dA d)++post)∧Not fe (ts.flatMap (dA d)++post):=by
 cases ts with
 |nil=>exact⟨hs.1,hs.2.1⟩
 |cons t ts=>
  obtain⟨c,r,e,hc⟩:=sZ (h t (List.mem_cons_self ..))
  have hc:je c=true∨c=40:=hc.elim (fun z=> .inl z.1) fun z=> .inr z.1
  rw[List.flatMap_cons,e]
  refine⟨fun b hb=>?_,fun b hb=>?_⟩<;>have eb:c=b:=by simpa using hb
  ·subst eb
   rcases hc with hc|rfl
   ·simp only [je,cR,Bool.and_eq_true,decide_eq_true_eq] at*
    simp
    omega
   ·decide
  ·subst eb
   rcases hc with hc|rfl
   ·simp only [je,fe,Bool.and_eq_true,decide_eq_true_eq] at*
    simp
    omega
   ·decide
theorem b5{α β:Type}{p q:α→β→Prop}(h:∀a b,p a b→q a b):∀{as:List α} {bs:List β},Paired p as bs→Paired q as bs
 |_,_, .nil=> .nil
 |_,_, .cons x t=> .cons (h _ _ x) (b5 h t)
theorem gj{α β:Type}{p:α→β→Prop}{a:α}{b:β}(x:p a b):∀{as:List α} {bs:List β},Paired p as bs→Paired p (as++[a]) (bs++[b])
 |_,_, .nil=> .cons x .nil
 |_,_, .cons y t=> .cons y (gj x t)
theorem vz:az ["self","around","parts"] ["self","around"] (ag kS):=dI
def jQ(n:Int):List Nat:=if n=0 then [] else 94::(bG (if n<0 then -n else n)++[if 0<n then 43 else 45])
def Vz(post:List Nat):Prop:=post=[]∨∃r,post=32::r
theorem Vz.stop{post:List Nat}(h:Vz post):Stop post:=by
 rcases h with rfl| ⟨r,rfl⟩
 ·refine⟨?_,?_,?_,?_⟩<;>(intro c hc;cases hc)
 ·refine⟨?_,?_,?_,?_⟩<;>(intro c hc;have e:32=c:=by simpa using hc)<;>subst e<;>decide
structure OM(K:PySem.W.Frag)(mg:Str→Option Value)(C R:Addr)(uK uN uC uP uI:Tok):Prop extends qk K mg C R uK uN where
 gA:mg "CHARGE_MARK" =some (.str "^" uC)
 Dm:mg "PLUS" =some (.str "+" uP)
 tf:mg "MINUS" =some (.str "-" uI)
theorem TC:("^" :Str)=⟨#[94]⟩:=by decide+kernel
theorem e43:("+" :Str)=⟨#[43]⟩:=by decide+kernel
theorem TF:("-" :Str)=⟨#[45]⟩:=by decide+kernel
theorem qX:az ["self","count"] ["self"] (ag kU):=dI
theorem VA:¬(("pieces" :Str)="charge"):=by decide+kernel
def mQ(l:Addr)(n:Int):List (Str×V):=cW "charge" (.int n) (cW "pieces" (.ref l) [])
theorem lH(l:Addr)(n:Int):(mQ l n).lookup ("pieces" :Str)=some (.ref l):=by
 unfold mQ
 rw[aJ,if_neg VA,aJ,if_pos rfl]
theorem tj(l:Addr)(n:Int):(mQ l n).lookup ("charge" :Str)=some (.int n):=by
 unfold mQ
 rw[aJ,if_pos rfl]
theorem vA(l:Addr)(n:Int){m:Str}(h1:¬m="charge")(h2:¬m="pieces"):(mQ l n).lookup m=none:=by
 unfold mQ
 rw[aJ,if_neg h1,aJ,if_neg h2]
 all_goals rfl
def tq(X:Addr):Sp:=fun vs H Q _=>∃(p dx l:Addr) (c:Int) (xs:List V),vs=[.ref p, .ref l, .int c]∧H p=some (.ins X dx [])∧H l=some (.lst xs)∧
 ∀n H',H n=none→H' p=some (.ins X dx (mQ n c))→H' n=some (.lst xs)→(∀b o,H b=some o→b≠p→H' b=some o)→Q .cJ H'
abbrev iG:=Int×List Tr
def kg(C G Pc:Addr)(d:Nat)(H:Hp)(p:Addr)(x:iG):Prop:=∃dx l ps,H p=some (.ins Pc dx (lB l x.1))∧H l=some (.lst (ps.map V.ref))∧Paired (eO C G d H) ps x.2
def o6(C G Pc Fo:Addr)(d:Nat)(H:Hp)(f:Addr)(xs:List iG)(n:Int):Prop:=∃dx l ps,H f=some (.ins Fo dx (mQ l n))∧H l=some (.lst (ps.map V.ref))∧Paired (kg C G Pc d H) ps xs
def ON(C G Pc L:Addr)(d:Nat)(H H':Hp)(p:Addr)(x:iG):Prop:=∀bQ,(∀b o,H b=none→b≠L→H' b=some o→bQ b=some o)→kg C G Pc d bQ p x
def OO(C G Pc Fo:Addr)(d:Nat)(H H':Hp)(f:Addr)(xs:List iG)(n:Int):Prop:=∀bQ,(∀b o,H b=none→H' b=some o→bQ b=some o)→o6 C G Pc Fo d bQ f xs n
def kh(d:Nat)(x:iG):List Nat:=bG x.1++x.2.flatMap (dA d)
def dJ(d:Nat)(xs:List iG):List Nat:=xs.flatMap fun x=>46::kh d x
def wL(d:Nat):List iG→Int→List Nat
 | [],_=>[101,94,45]
 |x::r,n=>x.2.flatMap (dA d)++(dJ d r++jQ n)
def K6(d:Nat)(x:iG):Prop:=x.2≠[]∧(∀t∈x.2,vx d t)∧1≤x.1∧x.1≤999
def Bh(d:Nat):List iG→Int→Prop
 | [],n=>n= -1
 |x::r,n=>x.1=1∧(∀y∈x::r,K6 d y)∧ -999≤n∧n≤999
structure ql(K:PySem.W.Frag)(mg:Str→Option Value)(C R G Pc Fo:Addr)(uK uN uB uE uM uC uP uI uD uL uT:Tok):Prop extends sY K mg C R G uK uN uB uE uM,OM K mg C R uK uN uC uP uI where
 dP:qf K Pc
 bV:qf K Fo
 qY:cu K Pc "parts"
 qZ:cu K Pc "count"
 ki:cu K Fo "pieces"
 o7:cu K Fo "charge"
 zG:mg "Piece" =some (.ref Pc)
 q9:mg "Formula" =some (.ref Fo)
 o8:mg "ChangeReader" =some (.ref R)
 jg:mg "PIECE_DOT" =some (.str "." uD)
 kj:mg "ELECTRON" =some (.str "e^-" uL)
 o9:mg "LONGEST_TEXT" =some (.int 400 uT)
 n_list:mg "list" =none
 IQ:mg "abs" =none
theorem eE:("e^-" :Str)=⟨#[101,94,45]⟩:=by decide+kernel
theorem vB:az ["self"] ["self"] (ag ij):=dI
theorem zH(n:Int):jQ n=[]∨∃r,jQ n=94::r:=by
 unfold jQ
 split
 ·exact .inl rfl
 ·exact .inr ⟨_,rfl⟩
theorem rf{c:Nat}{l:List Nat}(h:c=46∨c=94):Stop (c::l):=by
 refine⟨?_,?_,?_,?_⟩<;>(intro b hb;have e:c=b:=by simpa using hb)<;>subst e<;>rcases h with rfl|rfl<;>decide
theorem Bi(d:Nat)(xs:List iG)(n:Int){post:List Nat}(hpo:Vz post):Stop (dJ d xs++(jQ n++post)):=by
 cases xs with
 |nil=>
  show Stop (jQ n++post)
  rcases zH n with e| ⟨r,e⟩
  ·rw[e];exact hpo.stop
  ·rw[e];exact rf (.inr rfl)
 |cons x r=>exact rf (.inl rfl)
theorem zI(d:Nat):∀xs:List iG,xs.length≤(dJ d xs).length
 | []=>Nat.le_refl _
 |y::r=>by
  have ih:=zI d r
  show r.length+1≤(46::kh d y++dJ d r).length
  rw[List.length_append,List.length_cons]
  omega
theorem TJ:("." :Str)=⟨#[46]⟩:=by decide+kernel
theorem pb:az ["self","pieces","count"] ["self"] (ag nL):=dI
theorem Bj:az ["text"] ["text"] (ag kX):=dI
theorem GJ:∀(w:List Nat),w.all cR=true→w.head? ≠some 48→w≠[]→∃n:Nat,0<n∧(Nat.toDigits 10 n).map Char.toNat=w∧n<10^w.length:=by
 have one:∀c:Nat,c<10→(Nat.toDigits 10 c).map Char.toNat=[c+48]:=by decide
 intro w
 induction hl:w.length generalizing w with
 |zero=>intro _ _ h;exact absurd (List.length_eq_zero_iff.mp hl) h
 |succ m ih=>
  intro ha hh _
  obtain⟨v,c,rfl⟩:∃v c,w=v++[c]:=⟨w.dropLast,w.getLast (by intro z;rw[z] at hl;cases hl),(List.dropLast_concat_getLast _).symm⟩
  rw[List.all_append,Bool.and_eq_true] at ha
  obtain⟨ha,hc⟩:=ha
  have hc:48≤c∧c≤57:=by simpa [cR] using hc
  have hv:v.length=m:=by simpa using hl
  cases v with
  |nil=>
   have hc0:c≠48:=fun z=>hh (by rw[z];rfl)
   refine⟨c - 48,by omega,?_,by have:m=0:=hv.symm;subst this;omega⟩
   rw[one (c - 48) (by omega)]
   show [c - 48+48]=[c]
   rw[Nat.sub_add_cancel hc.1]
  |cons b r=>
   obtain⟨n,n0,en,nl⟩:=ih (b::r) hv ha (fun z=>hh (by simpa using z)) (by simp)
   refine⟨10*n+(c - 48),by omega,?_,?_⟩
   ·rw[←Nat.toDigits_append_toDigits (by decide) n0 (by omega:c - 48<10),List.map_append,en,one (c - 48) (by omega),Nat.sub_add_cancel hc.1]
   ·have:m+1=(b::r).length+1:=by omega
    rw[Nat.pow_succ]
    omega
theorem Lm{w:List Nat}(ha:w.all cR=true)(hh:w.head? ≠some 48)(h1:w≠[49]):∃n:Nat,bG (n:Int)=w∧0<n∧(w=[]∧n=1∨w≠[]∧n≠1)∧n<10^(w.length+1)∧(w≠[]→n<10^w.length):=by
 by_cases hw:w=[]
 ·subst hw
  exact⟨1,gw,by decide, .inl ⟨rfl,rfl⟩,by decide,fun z=>absurd rfl z⟩
 ·obtain⟨n,n0,en,nl⟩:=GJ w ha hh hw
  have n1:n≠1:=fun z=>h1 (by rw[←en,z];rfl)
  exact⟨n,by rw[fO n1,en],n0, .inr ⟨hw,n1⟩,Nat.lt_of_lt_of_le nl (Nat.pow_le_pow_right (by decide) (by omega)),fun _=>nl⟩
abbrev sf(x:Str)(p:Nat):List Nat:=x.cps.toList.drop p
def jR(lg:Nat)(u:List Nat)(n:Int)(v:List Nat):Prop:=u=bG n++v∧1≤n∧n<10^lg∧(bG n).length≤lg∧(Not cR v∨(bG n).length=lg)
def tu(u v:List Nat):Prop:=v=u∧u.head? =some 48∨u=49::v∧Not cR v
def jX(u k:List Nat)(n:Int)(v:List Nat):Prop:=∃w,u=k++w∧uh k∧(k.length=3∨Not fe w)∧jR 3 w n v
def zJ(u v:List Nat):Prop:=v=u∧Not je u∨∃k w,u=k++w∧uh k∧(k.length=3∨Not fe w)∧tu w v
def More(u:List Nat):Prop:=∃c,u.head? =some c∧(je c=true∨c=40)
inductive Sq(p:List Nat→Tr→List Nat→Prop)(u:List Nat):List Tr→List Nat→Prop
 |one (t:Tr) (v:List Nat) (h:p u t v):Sq p u [t] v
 |snoc (ts:List Tr) (w:List Nat) (t:Tr) (v:List Nat) (s:Sq p u ts w) (m:More w) (h:p w t v):Sq p u (ts++[t]) v
def Ft(p:List Nat→Tr→List Nat→Prop)(u:List Nat)(ts:List Tr)(v:List Nat):Prop:=Sq p u ts v∧¬More v
def M8(p:List Nat→Tr→List Nat→Prop)(b:List Nat→List Nat→Prop)(u v:List Nat):Prop:=b u v∨∃ts w,Sq p u ts w∧More w∧b w v
def km:Nat→List Nat→Tr→List Nat→Prop
 |0,u,t,v=>∃k n,t= .one k n∧jX u k n v
 |d+1,u,t,v=>(u.head? ≠some 40∧∃k n,t= .one k n∧jX u k n v)∨∃u' ts n w,u=40::u'∧t= .gr ts n∧Ft (km d) u' ts (41::w)∧jR 3 w n v
def Ln:Nat→List Nat→List Nat→Prop
 |0,u,v=>zJ u v
 |d+1,u,v=>(u.head? ≠some 40∧zJ u v)∨∃u',u=40::u'∧(M8 (km d) (Ln d) u' v∨(∃ts,Ft (km d) u' ts v∧v.head? ≠some 41)∨∃ts w,Ft (km d) u' ts (41::w)∧tu w v)
def TK(u:List Nat)(n:Int)(v:List Nat):Prop:=(u.head? ≠some 94∧n=0∧v=u)∨∃u' m w,u=94::u'∧jR 3 u' m w∧(w=45::v∧n= -m∨w=43::v∧n=m)
def ChB(u v:List Nat):Prop:=∃u',u=94::u'∧(tu u' v∨∃m,jR 3 u' m v∧v.head? ≠some 45∧v.head? ≠some 43)
def ElB(u v:List Nat):Prop:=u=101::v∧v.head? ≠some 94∨u=101::94::v∧v.head? ≠some 45
inductive wX(u:List Nat):List iG→List Nat→Prop
 |one (ts:List Tr) (v:List Nat) (h:Ft (km 4) u ts v):wX u [(1,ts)] v
 |snoc (ps:List iG) (w:List Nat) (m:Int) (w1:List Nat) (ts:List Tr) (v:List Nat) (s:wX u ps (46::w)) (n:jR 3 w m w1) (h:Ft (km 4) w1 ts v):wX u (ps++[(m,ts)]) v
def Fu(u:List Nat)(xs:List iG)(n:Int)(v:List Nat):Prop:=(u=101::94::45::v∧xs=[]∧n= -1)∨u.head? ≠some 101∧∃w,wX u xs w∧w.head? ≠some 46∧TK w n v
def OP(u v:List Nat):Prop:=ElB u v∨u.head? ≠some 101∧(M8 (km 4) (Ln 4) u v∨(∃ps w,wX u ps (46::w)∧(tu w v∨∃m w1,jR 3 w m w1∧M8 (km 4) (Ln 4) w1 v))∨∃ps w,wX u ps w∧w.head? ≠some 46∧ChB w v)
theorem kn(x:Str)(p:Nat):(sf x p).length=x.length - p:=by
 unfold sf
 rw[List.length_drop]
 simp [Str.length]
theorem Dn(x:Str)(p:Nat):fq x p=⟨((sf x p).take 1).toArray⟩:=rfl
theorem eB{x:Str}{p c:Nat}:(V.str (fq x p)=V.str (⟨#[c]⟩:Str))↔(sf x p).head? =some c:=by
 rw[Dn]
 cases hs:sf x p with
 |nil=>
  refine⟨fun z=>?_,fun z=>by cases z⟩
  have z:(⟨((([]:List Nat)).take 1).toArray⟩:Str)=⟨#[c]⟩:=by injection z
  have:=congrArg (fun s:Str=>s.cps.toList) z
  simp at this
 |cons b r=>
  refine⟨fun z=>?_,fun z=>?_⟩
  ·have z:(⟨((b::r).take 1).toArray⟩:Str)=⟨#[c]⟩:=by injection z
   have:=congrArg (fun s:Str=>s.cps.toList) z
   simpa using this
  ·have:b=c:=by simpa using z
   rw[this]
   rfl
theorem dQ{x:Str}{p c:Nat}(h:(sf x p).head? =some c):sf x p=c::sf x (p+1)∧p+1≤x.length:=by
 have hl:=kn x p
 have ed:sf x (p+1)=(sf x p).drop 1:=by unfold sf;rw[List.drop_drop]
 cases hs:sf x p with
 |nil=>rw[hs] at h;cases h
 |cons b r=>
  rw[hs] at h hl ed
  have:b=c:=by simpa using h
  rw[List.length_cons] at hl
  exact⟨by rw[ed,this];rfl,by omega⟩
theorem pe{x:Str}{p:Nat}(lo hi:Nat):inR lo hi (fq x p)=true↔∃c,(sf x p).head? =some c∧(decide (lo≤c)&&decide (c≤hi))=true:=by
 rw[Dn]
 cases hs:sf x p with
 |nil=>exact⟨fun z=>(by cases z),fun⟨c,z,_⟩=>(by cases z)⟩
 |cons b r=>
  refine⟨fun z=>⟨b,rfl,z⟩,fun⟨c,z,h⟩=>?_⟩
  have:b=c:=by simpa using z
  rw[this]
  exact h
theorem xJ{x:Str}{p lo hi:Nat}(h:inR lo hi (fq x p)=false):Not (fun c=>decide (lo≤c)&&decide (c≤hi)) (sf x p):=fun c z=>by
 cases hb:(decide (lo≤c)&&decide (c≤hi)) with
 |false=>exact hb
 |true=>rw[(pe lo hi).mpr ⟨c,z,hb⟩] at h;cases h
theorem Dp{x:Str}{p j:Nat}(h:p+j≤x.length):∃w,sf x p=w++sf x (p+j)∧w.length=j∧Txt.slice x (some (p:Int)) (some ((p+j:Nat):Int))=⟨w.toArray⟩:=by
 have hl:=kn x p
 have ed:sf x (p+j)=(sf x p).drop j:=by unfold sf;rw[List.drop_drop]
 refine⟨(sf x p).take j,by rw[ed,List.take_append_drop],by rw[List.length_take];omega,?_⟩
 apply gi
 rw[gW x (by omega) (by omega),Nat.add_sub_cancel_left]
variable {HE NF TL:Addr}
structure vC(K:PySem.W.Frag)(mg:Str→Option Value)(HE NF TL:Addr):Prop where
 dZ:mg "HallError" =some (.ref HE)
 d8:IK K HE
 vD:mg "NoFormula" =some (.ref NF)
 Bk:mg "TooLong" =some (.ref TL)
 GK:PySem.W.takerIn K NF "place" =some none
 Lo:PySem.W.takerIn K TL "many" =some none
theorem lI{n:Int}(h0:0≤n)(h:n<10^50):(toString n:Str).length≤50:=by
 obtain⟨m,rfl⟩:=Int.eq_ofNat_of_zero_le h0
 rw[PySem.ofString_length]
 show (Nat.repr m).length≤50
 rw[Nat.length_repr_le_iff (by decide)]
 omega
theorem lJ{n:Int}(h0:0≤n)(h:n<10^50):n.natAbs.log2<1920:=by
 by_cases e:n.natAbs=0
 ·rw[e];decide
 ·have:=(Nat.log2_lt e (k:=200)).mpr (by omega)
  omega
def jh(X:Addr)(fld:Str):Sp:=fun vs H Q _=>∃(e:Addr) (n:Int),vs=[.ref e, .int n]∧H e=some (oJ e X none)∧0≤n∧n<10^50∧
 ∀dx H',H dx=none→dx≠e→H' e=some (oJ e X (some dx))→H' dx=some (wW dx [(fld, .int n)])→(∀b o,H b=some o→b≠e→H' b=some o)→Q .cJ H'
theorem OQ:az ["self","place"] ["self","place"] (ag Gq):=dI
theorem GL:az ["self","many"] ["self","many"] (ag sJ):=dI
theorem Lp(D:kd K mg "NoFormula" NF HE "NoFormula.__init__" Gq ["self","place"])(T:vC K mg HE NF TL):eW P w K mg base 1 "NoFormula" NF HE ["self","place"] (jh NF "place"):=by
 obtain⟨f0,_,_,Z,_⟩:=id D
 refine D.fW OQ (fun vs H Q E h=>?_) (fun f br A outer s H vs Q E hr h=>?_)
 ·obtain⟨e,n,rfl,_⟩:=h
  rfl
 ·obtain⟨e,n,rfl,he,n0,n1,q⟩:=h
  have big:(2000 :Nat)≤sizeLine:=by decide
  have z1:=lI n0 n1
  have y1:("no formula, by place " :Str).length=21:=by decide+kernel
  have y2:(" of the text" :Str).length=12:=by decide+kernel
  have y0:(Str.empty).length=0:=rfl
  refine⟨_,(aj
     (bC (i' rfl T.dZ T.d8 (pv 0) (kN (dn aR (dn (oP (pv 1)) (dn aR oQ))))))
    (ao
     (kM (pv 0) (pv 1) rfl))),?_⟩
  refine⟨_,rfl,_,rfl,?_,_,rfl, .inl ⟨_,rfl,lJ n0 n1,_,rfl,?_,_,rfl,?_,?_,e,NF,HE,f0,none,rfl,Z,he,?_⟩⟩
  any_goals (simp only [bj,y0,y1,y2];omega)
  refine⟨_,rfl,_,rfl,e,NF,HE,f0,rfl,Z,T.GK, .inl ⟨he,fun dx eZ hX=>?_⟩⟩
  refine q dx _ eZ hX ai (by rw[ah hX,ai]) fun b o z nb=>?_
  rw[ah nb,ah (af z eZ)]
  exact z
theorem Dq(D:kd K mg "TooLong" TL HE "TooLong.__init__" sJ ["self","many"])(T:vC K mg HE NF TL):eW P w K mg base 1 "TooLong" TL HE ["self","many"] (jh TL "many"):=by
 obtain⟨f0,_,_,Z,_⟩:=id D
 refine D.fW GL (fun vs H Q E h=>?_) (fun f br A outer s H vs Q E hr h=>?_)
 ·obtain⟨e,n,rfl,_⟩:=h
  rfl
 ·obtain⟨e,n,rfl,he,n0,n1,q⟩:=h
  have big:(2000 :Nat)≤sizeLine:=by decide
  have z1:=lI n0 n1
  have y1:("the text is too long to be read: " :Str).length=33:=by decide+kernel
  have y2:(" signs" :Str).length=6:=by decide+kernel
  have y0:(Str.empty).length=0:=rfl
  refine⟨_,(aj
     (bC (i' rfl T.dZ T.d8 (pv 0) (kN (dn aR (dn (oP (pv 1)) (dn aR oQ))))))
    (ao
     (kM (pv 0) (pv 1) rfl))),?_⟩
  refine⟨_,rfl,_,rfl,?_,_,rfl, .inl ⟨_,rfl,lJ n0 n1,_,rfl,?_,_,rfl,?_,?_,e,TL,HE,f0,none,rfl,Z,he,?_⟩⟩
  any_goals (simp only [bj,y0,y1,y2];omega)
  refine⟨_,rfl,_,rfl,e,TL,HE,f0,rfl,Z,T.Lo, .inl ⟨he,fun dx eZ hX=>?_⟩⟩
  refine q dx _ eZ hX ai (by rw[ah hX,ai]) fun b o z nb=>?_
  rw[ah nb,ah (af z eZ)]
  exact z
def Rz(NF:Addr)(H:Hp)(r:Addr)(E:XK)(e:Nat):Prop:=∀b dx H',H b=none→H dx=none→H' b=some (lT b NF (some dx))→H' dx=some (wW dx [("place", .int (e:Int))])→Kept r H H'→E (.ref NF) (some dx) H'
theorem Rz.on{NF:Addr}{H H1:Hp}{r:Addr}{E:XK}{e:Nat}{o:HO}(h:Rz NF H r E e)(k:Kept r H H1)(hr:H1 r=some o):Rz NF H1 r E e:=fun b dx H' nb nd h1 h2 k2=>h b dx H' (aY k hr nb) (aY k hr nd) h1 h2 (k.trans k2)
def ir(NF R:Addr):Sp:=fun vs H Q E=>∃(r:Addr) (x:Str) (p c:Nat),vs=[.ref r, .str ⟨#[c]⟩]∧cT R H r x p∧p≤x.length∧x.length≤1000∧
 ((sf x p).head? =some c→∀H',cT R H' r x (p+1)→Kept r H H'→Q .cJ H')∧((sf x p).head? ≠some c→Rz NF H r E p)
def iu(NF R:Addr):Sp:=fun vs H Q E=>∃(r:Addr) (x:Str) (p:Nat) (s:Str),vs=[.ref r, .str s]∧s.cps.all (· <128)=true∧cT R H r x p∧p≤x.length∧x.length≤1000∧
 (sf x p=s.cps.toList++sf x (p+s.length)→p+s.length≤x.length→∀H',cT R H' r x (p+s.length)→Kept r H H'→Q .cJ H')∧
 (∀i c,s.cps.toList[i]? =some c→sf x p=s.cps.toList.take i++sf x (p+i)→(sf x (p+i)).head? ≠some c→p+i≤x.length→Rz NF H r E (p+i))
theorem zK{H:Hp}{r:Addr}{E:XK}{e:Nat}(q:Rz NF H r E e){b dx:Addr}{H5:Hp}(hb:H b=none)(hd:H dx=none)(hX:dx≠b)(uk:H5 dx=some (wW dx [("place", .int (e:Int))]))(k5:∀b' o,(upd H b (oJ b NF none)) b'=some o→b'≠b→H5 b'=some o):E (.ref NF) (some dx) (upd H5 b (lT b NF (some dx))):=by
 refine q b dx _ hb hd ai (by rw[ah hX];exact uk) fun b' o z _=>?_
 have tw:b'≠b:=af z hb
 rw[ah tw]
 exact k5 _ _ (by rw[ah tw];exact z) tw
theorem Dr(D:bP K R "take" "Reader.take" zy ["self","sign"])(T:qk K mg C R uK uN)(TE:vC K mg HE NF TL)(c1:dw P w K mg base 1 R "sign" ["self"] (iq R))(c2:eW P w K mg base 1 "NoFormula" NF HE ["self","place"] (jh NF "place")):aW P w K mg base 3 R "take" ["self","sign"] (ir NF R):=by
 obtain⟨_,_,au⟩:=c1
 obtain⟨_,_,aN⟩:=c2
 refine D.fj Lj (fun vs H Q E h=>?_) (fun f br A outer s H vs Q E hr h=>?_)
 ·obtain⟨r,x,p,c,rfl,_⟩:=h
  rfl
 ·obtain⟨r,x,p,c,rfl,⟨dx,hR⟩,hp,hx,q,qE⟩:=h
  refine⟨_,(aj
     (bM (bp yW (bT (pv 0) T.aw au.m au.ok (hr.mono (by decide)) au.b .nil aV) (pv 1) (bq _))
      (ao
       (fL rfl aO (fK aN.z aN.ok (hr.mono (by decide)) rfl aN.g aN.kp aN.b (aa (bx (pv 0) rfl) ak))))
      ba)
    (ao
     (jq (pv 0) aq sy))),?_⟩
  refine⟨_,rfl,r,dx,_,rfl,hR,aI _ _ (by decide+kernel) (by decide+kernel),r,x,p,rfl,⟨dx,hR⟩,hp,hx,_,rfl,rfl,_,rfl,?_⟩
  by_cases hc:(sf x p).head? =some c
  ·refine Od (eB.mpr hc) ?_
   refine⟨_,rfl,r,R,dx,_,_,rfl,hR,T.aw,T.bE,bb _ _,_,_,rfl,rfl,dx,_,hR,jC _ _,?_⟩
   refine q hc _ ⟨dx,?_⟩ fun b o e hb=>?_
   ·rw[ai]
    exact congrArg (fun z=>some (HO.ins R dx z)) (jB x p (p+1))
   ·rw[ah hb];exact e
  ·have ne:¬V.str (fq x p)=V.str (⟨#[c]⟩:Str):=fun z=>hc (eB.mp z)
   rw[decide_eq_false ne]
   refine eG ⟨_,rfl,r,R,dx,_,_,rfl,hR,T.aw,T.bE,bb _ _,(by show 1≤100;decide),fun b hb=>?_⟩
   refine⟨b,_,rfl,ai,by omega,by omega,fun dv H5 eZ hX xK uk k5=>⟨rfl,b,NF,HE,_,some dv,rfl,aN.z,xK,?_⟩⟩
   exact zK (qE hc) hb (by rw[ah hX] at eZ;exact eZ) hX uk k5
variable {HE NF TL:Addr}
theorem vE(D:bP K R "take_all" "Reader.take_all" kR ["self","signs"])(T:qk K mg C R uK uN)(c1:aW P w K mg base 3 R "take" ["self","sign"] (ir NF R)):aW P w K mg base 4 R "take_all" ["self","signs"] (iu NF R):=by
 obtain⟨_,_,aE⟩:=c1
 refine D.fj qU (fun vs H Q E h=>?_) (fun f br A outer s H vs Q E hr h=>?_)
 ·obtain⟨r,x,p,sg,rfl,_⟩:=h
  rfl
 ·obtain⟨r,x,p,sg,rfl,ha,hR,hp,hx,q,qE⟩:=h
  refine⟨_,(ao
     (ow j' rfl (CI (pv 1)) (cK (i:=2) qU.nd rfl (Or.inl rfl))
      (ao
       (bC (bA (pv 0) T.aw aE.m aE.ok (hr.mono (by decide)) aE.b .nil aO (aa (pv 2) ak)))))),?_⟩
  refine⟨_,rfl,sg,rfl,ha,F' (fun i σ H'=>∃v:Option V,σ=[some (.ref r),some (.str sg),v]∧cT R H' r x (p+i)∧Kept r H H'∧sf x p=sg.cps.toList.take i++sf x (p+i)∧p+i≤x.length) ⟨none,rfl,hR,Kept.refl r H,rfl,hp⟩ ?_ ?_⟩
  ·rintro i c σ H' hc ⟨v,rfl,⟨dx,cX⟩,kk,es,TN⟩
   have yN:sg.cps.toList[i]? =some c:=by rw[Array.getElem?_toList];exact hc
   refine⟨_,rfl,r,dx,_,rfl,cX,aI _ _ (by decide+kernel) (by decide+kernel),_,rfl,r,x,p+i,c,rfl,⟨dx,cX⟩,TN,hx,fun hd bQ VB k''=>?_,fun hd=>(qE i c yN es hd TN).on kk cX⟩
   obtain⟨e1,e2⟩:=dQ hd
   refine⟨_,rfl,VB,kk.trans k'',?_,e2⟩
   rw[es,e1,List.take_add_one,yN,List.append_assoc]
   rfl
  ·rintro σ H' ⟨v,rfl,cX,kk,es,TN⟩
   have hl:sg.cps.toList.length=sg.length:=by simp [Str.length]
   refine q ?_ TN _ cX kk
   have:sg.cps.toList.take sg.length=sg.cps.toList:=List.take_of_length_le (by omega)
   rw[←this]
   exact es
def ma(NF R:Addr):Sp:=fun vs H Q E=>∃(r:Addr) (x:Str) (p lg:Nat),vs=[.ref r, .int (lg:Int)]∧cT R H r x p∧p≤x.length∧x.length≤1000∧2≤lg∧lg≤12∧
 (∀n q H',jR lg (sf x p) n (sf x q)→p≤q→q≤x.length→cT R H' r x q→Kept r H H'→Q (.int n) H')∧(∀e,tu (sf x p) (sf x e)→p≤e→e≤x.length→Rz NF H r E e)
def fD(NF R:Addr):Sp:=fun vs H Q E=>∃(r:Addr) (x:Str) (p:Nat),vs=[.ref r]∧cT R H r x p∧p≤x.length∧x.length≤1000∧
 (∀n q H',jR 3 (sf x p) n (sf x q)→p≤q→q≤x.length→cT R H' r x q→Kept r H H'→Q (.int n) H')∧(∀e,tu (sf x p) (sf x e)→p≤e→e≤x.length→Rz NF H r E e)
theorem xM(D:bP K R "read_number" "Reader.read_number" kT ["self","longest"])(T:qk K mg C R uK uN)(TE:vC K mg HE NF TL)(c1:dw P w K mg base 1 R "sign" ["self"] (iq R))(c2:bI P w K mg base 1 "is_figure" ["sign"] (GA 48 57))(c3:eW P w K mg base 1 "NoFormula" NF HE ["self","place"] (jh NF "place")):aW P w K mg base 3 R "read_number" ["self","longest"] (ma NF R):=by
 obtain⟨_,_,au⟩:=c1
 obtain⟨_,_,gm⟩:=c2
 obtain⟨_,_,aN⟩:=c3
 refine D.fj l9 (fun vs H Q E h=>?_) (fun f br A outer s H vs Q E hr h=>?_)
 ·obtain⟨r,x,p,lg,rfl,_⟩:=h
  rfl
 ·obtain⟨r,x,p,lg,rfl,⟨dx,hR⟩,hp,hx,l2,l12,q,qE⟩:=h
  have big:(1000 :Nat)≤sizeLine:=by decide
  have e0:("0" :Str)=⟨#[48]⟩:=by decide+kernel
  have e1:("1" :Str)=⟨#[49]⟩:=by decide+kernel
  refine⟨_,(aj
     (bM (bp cI (bT (pv 0) T.aw au.m au.ok (hr.mono (by decide)) au.b .nil aV) aR (bq _))
      (ao
       (fL rfl aO (fK aN.z aN.ok (hr.mono (by decide)) rfl aN.g aN.kp aN.b (aa (bx (pv 0) rfl) ak))))
      ba)
    (aj
     (aQ (i:=2) l9.nd rfl (Or.inl rfl) (bx (pv 0) rfl))
    (aj
     (gJ j' (PW.pt (sv (gv (aX gm.ok (hr.mono (by decide)) rfl gm.g gm.kp gm.b .nil aV (aa (bT (pv 0) T.aw au.m au.ok (hr.mono (by decide)) au.b .nil aV) ak))) (nv (bp yX (aB xi (bx (pv 0) rfl) (pv 2)) (pv 1) (bq _)))))
      (ao
       (jq (pv 0) aq sy)))
    (aj
     (aQ (i:=3) l9.nd rfl (Or.inl rfl) (cE j8 (bx (pv 0) rfl) (cg (pv 2)) (cg (bx (pv 0) rfl))))
    (aj
     (bM (bp cI (pv 3) aR (bq _))
      (ao
       (fL rfl aO (fK aN.z aN.ok (hr.mono (by decide)) rfl aN.g aN.kp aN.b (aa (bx (pv 0) rfl) ak))))
      ba)
    (ao
     (aH (uv (uy (pv 3) (fun _=>rfl)) (dW AS rfl T.OJ KR (aa (pv 3) ak)) aq)))))))),?_⟩
  refine⟨_,rfl,r,dx,_,rfl,hR,aI _ _ (by decide+kernel) (by decide+kernel),r,x,p,rfl,⟨dx,hR⟩,hp,hx,rfl,_,rfl,?_⟩
  by_cases h0:(sf x p).head? =some 48
  ·refine ie (by rw[e0];exact eB.mpr h0) ⟨_,rfl,r,R,dx,_,_,rfl,hR,T.aw,T.bE,bb _ _,(by show 1≤100;decide),fun b hb=>?_⟩
   refine⟨b,_,rfl,ai,by omega,by omega,fun dv H5 eZ hX xK uk k5=>⟨rfl,b,NF,HE,_,some dv,rfl,aN.z,xK,?_⟩⟩
   exact zK (qE p (.inl ⟨rfl,h0⟩) (Nat.le_refl _) hp) hb (by rw[ah hX] at eZ;exact eZ) hX uk k5
  refine iJ (by rw[e0];exact fun z=>h0 (eB.mp z)) ?_
  refine⟨_,rfl,r,R,dx,_,_,rfl,hR,T.aw,T.bE,bb _ _,?_⟩
  refine⟨fun k σ H'=>∃j:Nat,k+j=lg∧p+j≤x.length∧(∃w,sf x p=w++sf x (p+j)∧w.length=j∧w.all cR=true)∧σ=[some (.ref r),some (.int lg),some (.int p),none]∧cT R H' r x (p+j)∧Kept r H H',⟨lg,0,by omega,hp,⟨[],rfl,rfl,rfl⟩,rfl,⟨dx,hR⟩,Kept.refl r H⟩,?_⟩
  rintro k σ H' ⟨j,hk,hj,⟨w,ew,wl,wf⟩,rfl,⟨dv,cX⟩,kk⟩
  have wh:w.head? ≠some 48:=fun z=>h0 (by
   rw[ew]
   cases w with
   |nil=>cases z
   |cons c r=>simpa using z)
  refine⟨_,rfl,r,dv,_,rfl,cX,aI _ _ (by decide+kernel) (by decide+kernel),r,x,p+j,rfl,⟨dv,cX⟩,hj,hx,_,rfl,lD _ _,_,rfl,?_⟩
  by_cases hf:inR 48 57 (fq x (p+j))=true∧j<lg
  ·obtain⟨ev,hjl⟩:=hf
   obtain⟨c,hc,cF⟩:=(pe 48 57).mp ev
   rw[ev]
   refine eG ⟨_,rfl,r,R,dv,_,_,rfl,cX,T.aw,T.bE,bb _ _,_,rfl,_,_,rfl,rfl,_,rfl,_,_,rfl,rfl,_,rfl,ie (by omega) ?_⟩
   refine⟨_,fun σ' bQ h=>⟨k - 1,by omega,h⟩,?_⟩
   obtain⟨VC,e2'⟩:=dQ hc
   refine⟨_,rfl,r,R,dv,_,_,rfl,cX,T.aw,T.bE,bb _ _,_,_,rfl,rfl,dv,_,cX,jC _ _,?_⟩
   refine⟨j+1,by omega,e2',⟨w++[c],by rw[ew,VC,List.append_assoc];rfl,by rw[List.length_append,wl];rfl,by rw[List.all_append,wf];simpa [cR] using cF⟩,rfl,⟨dv,?_⟩,fun b o z w=>?_⟩
   ·rw[ai]
    exact congrArg (fun z=>some (HO.ins R dv z)) (jB x (p+j) (p+j+1))
   ·rw[ah w];exact kk b o z w
  have he:Not cR (sf x (p+j))∨j=lg:=by
   cases ev:inR 48 57 (fq x (p+j)) with
   |true=>exact .inr (by have:¬j<lg:=fun z=>hf ⟨ev,z⟩;omega)
   |false=>exact .inl (xJ ev)
  have ec:Txt.slice x (some (p:Int)) (some ((p+j:Nat):Int))=⟨w.toArray⟩:=by
   obtain⟨w',VC,e2',e3'⟩:=Dp hj
   rw[e3',List.append_cancel_right (VC.symm.trans ew)]
  cases ev:inR 48 57 (fq x (p+j))
  case' true=>
   refine eG ⟨_,rfl,r,R,dv,_,_,rfl,cX,T.aw,T.bE,bb _ _,_,rfl,_,_,rfl,rfl,_,rfl,_,_,rfl,rfl,_,rfl,iJ (by have:¬j<lg:=fun z=>hf ⟨ev,z⟩;omega) ?_⟩
  case' false=>
   refine dm (dm ?_)
  all_goals
   refine⟨_,rfl,r,R,dv,_,_,rfl,cX,T.aw,T.jD,fQ _ _,_,rfl,_,rfl,_,rfl,r,R,dv,_,_,rfl,cX,T.aw,T.bE,bb _ _,_,rfl,x,rfl,by omega,?_⟩
   rw[ec]
   by_cases VD:w=[49]
   ·subst VD
    have hj1:j=1:=wl.symm
    refine⟨_,rfl,rfl,_,rfl,ie (by rw[e1]) ⟨_,rfl,r,R,dv,_,_,rfl,cX,T.aw,T.bE,bb _ _,(by show 1≤100;decide),fun b hb=>?_⟩⟩
    refine⟨b,_,rfl,ai,by omega,by omega,fun jv H5 eZ hX xK uk k5=>⟨rfl,b,NF,HE,_,some jv,rfl,aN.z,xK,?_⟩⟩
    exact zK ((qE (p+j) (.inr ⟨ew,he.elim id fun z=>by omega⟩) (by omega) hj).on kk cX) hb (by rw[ah hX] at eZ;exact eZ) hX uk k5
   ·obtain⟨n,en,n0,hn,_,nl⟩:=Lm wf wh VD
    have es:(⟨w.toArray⟩:Str)=eY (n:Int):=gi (by rw[←en];rfl)
    have nw:¬V.str (eY (n:Int))=V.str "1" :=by
     rw[←es,e1]
     intro z
     have z:(⟨w.toArray⟩:Str)=⟨#[49]⟩:=by injection z
     exact VD (by have:=congrArg (fun s:Str=>s.cps.toList) z;simpa using this)
    have lf:(eY (n:Int)).length=j:=by rw[←es,←wl];simp [Str.length]
    have nb:n<10^lg:=by
     by_cases hw:w=[]
     ·have:n=1:=by rcases hn with z|z;exact z.2;exact absurd hw z.1
      rw[this]
      exact Nat.one_lt_pow (by omega) (by decide)
     ·exact Nat.lt_of_lt_of_le (nl hw) (Nat.pow_le_pow_right (by decide) (by omega))
    have n12:n<10^12:=Nat.lt_of_lt_of_le nb (Nat.pow_le_pow_right (by decide) l12)
    have fin:=q n (p+j) H' ⟨by rw[en];exact ew,by omega,by exact_mod_cast nb,by rw[en];omega,by rw[en,wl];exact he⟩ (by omega) hj ⟨dv,cX⟩ kk
    rw[es]
    refine⟨_,rfl,rfl,_,rfl,iJ nw ?_⟩
    refine⟨_,rfl,_,⟨by rw[lf];omega,rfl⟩,?_⟩
    rcases hn with ⟨hw,hn⟩ | ⟨hw,hn⟩
    ·have ez:(((eY (n:Int)).length:Int) != 0)=false:=by rw[lf,←wl,hw];rfl
     rw[ez]
     rw[hn] at fin
     exact dm fin
    ·have ez:(((eY (n:Int)).length:Int) != 0)=true:=by
      rw[lf,←wl]
      have:w.length≠0:=fun z=>hw (List.length_eq_zero_iff.mp z)
      simp only [bne_iff_ne,ne_eq]
      omega
     rw[ez]
     exact eG ⟨_,rfl,_,_,rfl,Gz n n12 hn,by rw[lf];omega,fin⟩
theorem xN(D:bP K R "read_count" "Reader.read_count" nM ["self"])(T:qk K mg C R uK uN)(c1:aW P w K mg base 3 R "read_number" ["self","longest"] (ma NF R)):aW P w K mg base 4 R "read_count" ["self"] (fD NF R):=by
 obtain⟨_,_,bB⟩:=c1
 refine D.fj Dj (fun vs H Q E h=>?_) (fun f br A outer s H vs Q E hr h=>?_)
 ·obtain⟨r,x,p,rfl,_⟩:=h
  rfl
 ·obtain⟨r,x,p,rfl,⟨dx,hR⟩,hp,hx,q,qE⟩:=h
  refine⟨_,(ao
     (aH (bA (pv 0) T.aw bB.m bB.ok (hr.mono (by decide)) bB.b .nil aO (aa (aP (v:= .int 3) rfl T.ni ⟨_,rfl⟩) ak)))),?_⟩
  exact⟨_,rfl,r,dx,_,rfl,hR,aI _ _ (by decide+kernel) (by decide+kernel),r,x,p,3,rfl,⟨dx,hR⟩,hp,hx,by decide,by decide,q,qE⟩
variable {HE NF TL:Addr}
def pf(NF C R:Addr):Sp:=fun vs H Q E=>∃(r:Addr) (x:Str) (p:Nat),vs=[.ref r]∧cT R H r x p∧p≤x.length∧x.length≤1000∧
 (∀k n q a H',jX (sf x p) k n (sf x q)→p≤q→q≤x.length→H a=none→fN C H' a ⟨k.toArray⟩ n→cT R H' r x q→Kept r H H'→Q (.ref a) H')∧(∀e,zJ (sf x p) (sf x e)→p≤e→e≤x.length→Rz NF H r E e)
theorem Bl(D:bP K R "read_atom" "Reader.read_atom" sP ["self"])(T:qk K mg C R uK uN)(TE:vC K mg HE NF TL)(c1:dw P w K mg base 1 R "sign" ["self"] (iq R))(c2:bI P w K mg base 1 "is_great" ["sign"] (GA 65 90))(c3:bI P w K mg base 1 "is_small" ["sign"] (GA 97 122))(c4:aW P w K mg base 4 R "read_count" ["self"] (fD NF R))
  (c5:eU P w K mg base 1 C ["self","kind","count"] [1] (C9 C)) (c6:eW P w K mg base 1 "NoFormula" NF HE ["self","place"] (jh NF "place")):aW P w K mg base 5 R "read_atom" ["self"] (pf NF C R):=by
 obtain⟨_,_,au⟩:=c1
 obtain⟨_,_,cN⟩:=c2
 obtain⟨_,_,cO⟩:=c3
 obtain⟨_,_,aM⟩:=c4
 obtain⟨_,_,ip⟩:=c5
 obtain⟨_,Ds,Dt⟩:=ip.b 1 (by decide)
 obtain⟨_,_,aN⟩:=c6
 refine D.fj sX (fun vs H Q E h=>?_) (fun f br A outer s H vs Q E hr h=>?_)
 ·obtain⟨r,x,p,rfl,_⟩:=h
  rfl
 ·obtain⟨r,x,p,rfl,⟨dx,hR⟩,hp,hx,q,qE⟩:=h
  have big:(1000 :Nat)≤sizeLine:=by decide
  refine⟨_,(aj
     (bM (iX (gv (aX cN.ok (hr.mono (by decide)) rfl cN.g cN.kp cN.b .nil aV (aa (bT (pv 0) T.aw au.m au.ok (hr.mono (by decide)) au.b .nil aV) ak))))
      (ao
       (fL rfl aO (fK aN.z aN.ok (hr.mono (by decide)) rfl aN.g aN.kp aN.b (aa (bx (pv 0) rfl) ak))))
      ba)
    (aj
     (aQ (i:=1) sX.nd rfl (Or.inl rfl) (bx (pv 0) rfl))
    (aj
     (jq (pv 0) aq sy)
    (aj
     (gJ j' (PW.pt (sv (gv (aX cO.ok (hr.mono (by decide)) rfl cO.g cO.kp cO.b .nil aV (aa (bT (pv 0) T.aw au.m au.ok (hr.mono (by decide)) au.b .nil aV) ak))) (nv (bp yX (aB xi (bx (pv 0) rfl) (pv 1)) (aP (v:= .int 3) rfl T.oW ⟨_,rfl⟩) (bq _)))))
      (ao
       (jq (pv 0) aq sy)))
    (aj
     (aQ (i:=2) sX.nd rfl (Or.inl rfl) (cE j8 (bx (pv 0) rfl) (cg (pv 1)) (cg (bx (pv 0) rfl))))
    (ao
     (aH (fZ ip.m ip.ok (hr.mono (by decide)) rfl T.Lf Dt Ds aV (aa (pv 2) (aa (bU (pv 0) T.aw aM.m aM.ok (hr.mono (by decide)) aM.b .nil aO) ak)))))))))),?_⟩
  refine⟨_,rfl,r,dx,_,rfl,hR,aI _ _ (by decide+kernel) (by decide+kernel),r,x,p,rfl,⟨dx,hR⟩,hp,hx,_,rfl,lD _ _,_,rfl,?_⟩
  cases ev:inR 65 90 (fq x p) with
  |false=>
   refine eG ⟨_,rfl,r,R,dx,_,_,rfl,hR,T.aw,T.bE,bb _ _,(by show 1≤100;decide),fun b hb=>?_⟩
   refine⟨b,_,rfl,ai,by omega,by omega,fun jv H5 eZ hX xK uk k5=>⟨rfl,b,NF,HE,_,some jv,rfl,aN.z,xK,?_⟩⟩
   exact zK (qE p (.inl ⟨rfl,xJ ev⟩) (Nat.le_refl _) hp) hb (by rw[ah hX] at eZ;exact eZ) hX uk k5
  |true=>
  obtain⟨c,hc,cG⟩:=(pe 65 90).mp ev
  obtain⟨e1,e2⟩:=dQ hc
  refine dm ?_
  refine⟨_,rfl,r,R,dx,_,_,rfl,hR,T.aw,T.bE,bb _ _,?_⟩
  refine⟨_,rfl,r,R,dx,_,_,rfl,hR,T.aw,T.bE,bb _ _,_,_,rfl,rfl,dx,_,hR,jC _ _,?_⟩
  have dM:(upd H r (.ins R dx (cW "place" (.int ((p:Int)+1)) (fP x p)))) r=some (.ins R dx (fP x (p+1))):=by
   rw[ai]
   exact congrArg (fun z=>some (HO.ins R dx z)) (jB x p (p+1))
  have k1:Kept r H (upd H r (.ins R dx (cW "place" (.int ((p:Int)+1)) (fP x p)))):=fun b o z w=>by rw[ah w];exact z
  generalize upd H r _=H1 at dM k1 ⊢
  refine⟨fun m σ H'=>∃j:Nat,m+j=2∧p+1+j≤x.length∧(∃w,sf x (p+1)=w++sf x (p+1+j)∧w.length=j∧w.all fe=true)∧σ=[some (.ref r),some (.int p),none]∧cT R H' r x (p+1+j)∧Kept r H H',⟨2,0,rfl,e2,⟨[],rfl,rfl,rfl⟩,rfl,⟨dx,dM⟩,k1⟩,?_⟩
  rintro m σ H' ⟨j,hm,hj,⟨w,ew,wl,wf⟩,rfl,⟨dv,cX⟩,kk⟩
  refine⟨_,rfl,r,dv,_,rfl,cX,aI _ _ (by decide+kernel) (by decide+kernel),r,x,p+1+j,rfl,⟨dv,cX⟩,hj,hx,_,rfl,lD _ _,_,rfl,?_⟩
  by_cases hf:inR 97 122 (fq x (p+1+j))=true∧j<2
  ·obtain⟨ev,hjl⟩:=hf
   obtain⟨b,hb,bS⟩:=(pe 97 122).mp ev
   rw[ev]
   refine eG ⟨_,rfl,r,R,dv,_,_,rfl,cX,T.aw,T.bE,bb _ _,_,rfl,_,_,rfl,rfl,_,_,rfl,rfl,_,rfl,ie (by omega) ?_⟩
   refine⟨_,fun σ' bQ h=>⟨m - 1,by omega,h⟩,?_⟩
   obtain⟨f1,f2⟩:=dQ hb
   refine⟨_,rfl,r,R,dv,_,_,rfl,cX,T.aw,T.bE,bb _ _,_,_,rfl,rfl,dv,_,cX,jC _ _,?_⟩
   refine⟨j+1,by omega,f2,⟨w++[b],by rw[ew,f1,List.append_assoc];rfl,by rw[List.length_append,wl];rfl,by rw[List.all_append,wf];simpa [fe] using bS⟩,rfl,⟨dv,?_⟩,fun b o z w=>?_⟩
   ·rw[ai]
    exact congrArg (fun z=>some (HO.ins R dv z)) (jB x (p+1+j) (p+1+j+1))
   ·rw[ah w];exact kk b o z w
  have he:(c::w).length=3∨Not fe (sf x (p+1+j)):=by
   cases ev:inR 97 122 (fq x (p+1+j)) with
   |true=>exact .inl (by have:¬j<2:=fun z=>hf ⟨ev,z⟩;rw[List.length_cons];omega)
   |false=>exact .inr (xJ ev)
  have VE:sf x p=(c::w)++sf x (p+1+j):=by rw[e1,ew];rfl
  have ok:uh (c::w):=⟨c,w,rfl,by simpa [je] using cG,wf,by omega⟩
  have ec:Txt.slice x (some (p:Int)) (some ((p+1+j:Nat):Int))=⟨(c::w).toArray⟩:=by
   obtain⟨w',a1,a2,a3⟩:=Dp (x:=x) (p:=p) (j:=1+j) (by omega)
   rw[←Nat.add_assoc] at a1 a3
   rw[a3,List.append_cancel_right (a1.symm.trans VE)]
  cases ev:inR 97 122 (fq x (p+1+j))
  case' true=>
   refine eG ⟨_,rfl,r,R,dv,_,_,rfl,cX,T.aw,T.bE,bb _ _,_,rfl,_,_,rfl,rfl,_,_,rfl,rfl,_,rfl,iJ (by have:¬j<2:=fun z=>hf ⟨ev,z⟩;omega) ?_⟩
  case' false=>
   refine dm (dm ?_)
  all_goals
   refine⟨_,rfl,r,R,dv,_,_,rfl,cX,T.aw,T.jD,fQ _ _,_,rfl,_,rfl,_,rfl,r,R,dv,_,_,rfl,cX,T.aw,T.bE,bb _ _,_,rfl,x,rfl,by omega,?_⟩
   rw[ec]
   refine⟨_,rfl,_,rfl,r,dv,_,rfl,cX,aI _ _ (by decide+kernel) (by decide+kernel),r,x,p+1+j,rfl,⟨dv,cX⟩,hj,hx,fun n q' H2 hN GN hq gF k2=>?_,fun e hB hpe AV=>(qE e (.inr ⟨c::w,_,VE,ok,he,hB⟩) (by omega) AV).on kk cX⟩
   obtain⟨jv,gF⟩:=gF
   refine fun a da na nda nea=>⟨a,da,_,n,rfl,ai,fun H3 h3 k3=>⟨rfl,?_⟩⟩
   have s3:aG H2 H3:=fun b o z=>k3 b o (by rw[ah (af z na),ah (af z nda)];exact z) (af z na)
   have kf:=(kk.trans k2)
   exact q (c::w) n q' a H3 ⟨_,VE,ok,he,hN⟩ (by omega) hq (aY kf gF na) ⟨da,h3⟩ ⟨jv,s3 _ _ gF⟩ (kf.trans (Kept.of s3))
variable {HE NF TL:Addr}
def vF(NF C G R:Addr)(d:Nat):Sp:=fun vs H Q E=>∃(r:Addr) (x:Str) (p a:Nat),vs=[.ref r, .int a]∧cT R H r x p∧p≤x.length∧x.length≤1000∧a+d=4∧
 (∀t q y H',km d (sf x p) t (sf x q)→p<q→q≤x.length→H y=none→Lk C G d H H' y t→cT R H' r x q→Kept r H H'→Q (.ref y) H')∧(∀e,Ln d (sf x p) (sf x e)→p≤e→e≤x.length→Rz NF H r E e)
def md(NF C G R:Addr):Nat→Sp
 |0=>fun _ _ _ _=>False
 |d+1=>fun vs H Q E=>∃(r:Addr) (x:Str) (p a:Nat) (u':List Nat),vs=[.ref r, .int a]∧cT R H r x p∧p≤x.length∧x.length≤1000∧a+d+1=4∧sf x p=40::u'∧
  (∀ts n w q y H',Ft (km d) u' ts (41::w)→jR 3 w n (sf x q)→p<q→q≤x.length→H y=none→Lk C G (d+1) H H' y (.gr ts n)→cT R H' r x q→Kept r H H'→Q (.ref y) H')∧
  (∀e,(M8 (km d) (Ln d) u' (sf x e)∨(∃ts,Ft (km d) u' ts (sf x e)∧(sf x e).head? ≠some 41)∨∃ts w,Ft (km d) u' ts (41::w)∧tu w (sf x e))→p≤e→e≤x.length→Rz NF H r E e)
def jE(NF C G R:Addr)(d:Nat):Sp:=fun vs H Q E=>∃(r:Addr) (x:Str) (p a:Nat),vs=[.ref r, .int a]∧cT R H r x p∧p≤x.length∧x.length≤1000∧a+d=4∧
 (∀ts q l H',Ft (km d) (sf x p) ts (sf x q)→p<q→q≤x.length→OL C G d H H' l ts→cT R H' r x q→Kept r H H'→Q (.ref l) H')∧(∀e,M8 (km d) (Ln d) (sf x p) (sf x e)→p≤e→e≤x.length→Rz NF H r E e)
theorem jX.lt{x:Str}{p q:Nat}{k:List Nat}{n:Int}(h:jX (sf x p) k n (sf x q))(hp:p≤x.length)(hq:q≤x.length):p<q:=by
 obtain⟨w,e,⟨c,r,rfl,_⟩,_,e2,_⟩:=h
 have:=congrArg List.length e
 rw[e2,List.length_append,List.length_append,kn,kn,List.length_cons] at this
 omega
theorem rh(d:Nat)(D:bP K R "read_part" "Reader.read_part" oU ["self","around"])(T:sY K mg C R G uK uN uB uE uM)(c1:dw P w K mg base 1 R "sign" ["self"] (iq R))(c2:aW P w K mg base 5 R "read_atom" ["self"] (pf NF C R))(c3:aW P w K mg base (3*d+5) R "read_group" ["self","around"] (md NF C G R d)):
  aW P w K mg base (3*d+6) R "read_part" ["self","around"] (vF NF C G R d):=by
 obtain⟨_,_,au⟩:=c1
 obtain⟨_,_,dS⟩:=c2
 obtain⟨_,_,dC⟩:=c3
 refine D.fj GI (fun vs H Q E h=>?_) (fun f br A outer s H vs Q E hr h=>?_)
 ·obtain⟨r,x,p,a,rfl,_⟩:=h
  rfl
 ·obtain⟨r,x,p,a,rfl,⟨dx,hR⟩,hp,hx,ha,q,qE⟩:=h
  refine⟨_,(aj
     (bM (PW.pt (sv (bp cI (bT (pv 0) T.aw au.m au.ok (hr.mono (by omega)) au.b .nil aV) (aP (v:= .str "(") rfl T.eR ⟨_,rfl⟩) (bq _)) (nv (bp Cq (pv 1) (aP (v:= .int 3) rfl T.jf ⟨_,rfl⟩) (bq _)))))
      (ao
       (aH (bA (pv 0) T.aw dC.m dC.ok (hr.mono (by omega)) dC.b .nil aO (aa (pv 1) ak))))
      ba)
    (ao
     (aH (bU (pv 0) T.aw dS.m dS.ok (hr.mono (by omega)) dS.b .nil aO)))),?_⟩
  refine⟨_,rfl,r,dx,_,rfl,hR,aI _ _ (by decide+kernel) (by decide+kernel),r,x,p,rfl,⟨dx,hR⟩,hp,hx,rfl,_,rfl,?_⟩
  have atom:∀{k:List Nat} {n:Int} {y:Addr} {H':Hp},H y=none→fN C H' y ⟨k.toArray⟩ n→Lk C G d H H' y (.one k n):=fun {k n y H'} ny hA bQ ke=>by
   obtain⟨dy,hA⟩:=hA
   have e:eO C G d bQ y (.one k n)=fN C bQ y ⟨k.toArray⟩ n:=by cases d<;>rfl
   rw[e]
   exact⟨dy,ke _ _ ny hA⟩
  by_cases p7:(sf x p).head? =some 40
  ·refine ie (by rw[M7];exact eB.mpr p7) ?_
   obtain⟨e1,e2⟩:=dQ p7
   cases d with
   |zero=>
    refine⟨_,rfl,_,_,rfl,rfl,_,rfl,iJ (by omega) ?_⟩
    exact⟨_,rfl,r,dx,_,rfl,hR,aI _ _ (by decide+kernel) (by decide+kernel),r,x,p,rfl,⟨dx,hR⟩,hp,hx,fun k n q' y H' hA GN hq ny hy cX kp=>q (.one k n) q' y H' ⟨k,n,rfl,hA⟩ (hA.lt hp hq) hq ny (atom ny hy) cX kp,fun e hB=>qE e hB⟩
   |succ d=>
    refine⟨_,rfl,_,_,rfl,rfl,_,rfl,ie (by omega) ?_⟩
    exact⟨_,rfl,r,dx,_,rfl,hR,aI _ _ (by decide+kernel) (by decide+kernel),_,rfl,r,x,p,a,_,rfl,⟨dx,hR⟩,hp,hx,by omega,e1,fun ts n w q' y H' hS hN GN hq ny hy cX kp=>q (.gr ts n) q' y H' (.inr ⟨_,ts,n,w,e1,rfl,hS,hN⟩) GN hq ny hy cX kp,fun e hB=>qE e (.inr ⟨_,e1,hB⟩)⟩
  ·refine iJ (by rw[M7];exact fun z=>p7 (eB.mp z)) ?_
   refine⟨_,rfl,r,dx,_,rfl,hR,aI _ _ (by decide+kernel) (by decide+kernel),r,x,p,rfl,⟨dx,hR⟩,hp,hx,fun k n q' y H' hA GN hq ny hy cX kp=>q (.one k n) q' y H' ?_ (hA.lt hp hq) hq ny (atom ny hy) cX kp,fun e hB=>qE e ?_⟩
   ·cases d with
    |zero=>exact⟨k,n,rfl,hA⟩
    |succ d=>exact .inl ⟨p7,k,n,rfl,hA⟩
   ·cases d with
    |zero=>exact hB
    |succ d=>exact .inl ⟨p7,hB⟩
variable {HE NF TL:Addr}
theorem vG(D:bP K R "read_group" "Reader.read_group" jx ["self","around"]):aW P w K mg base 5 R "read_group" ["self","around"] (md NF C G R 0):=
 D.fj (k:=4) oY (fun vs H Q E h=>h.elim) (fun f br A outer s H vs Q E hr h=>h.elim)
theorem xO(d:Nat)(D:bP K R "read_group" "Reader.read_group" jx ["self","around"])(T:sY K mg C R G uK uN uB uE uM)(c1:aW P w K mg base 3 R "take" ["self","sign"] (ir NF R))(c2:aW P w K mg base 4 R "read_count" ["self"] (fD NF R))(c3:aW P w K mg base (3*d+7) R "read_parts" ["self","around"] (jE NF C G R d))
  (c4:eU P w K mg base 1 G ["self","parts","count"] [1] (lG G)):aW P w K mg base (3*d+8) R "read_group" ["self","around"] (md NF C G R (d+1)):=by
 obtain⟨_,_,aE⟩:=c1
 obtain⟨_,_,aM⟩:=c2
 obtain⟨_,_,bo⟩:=c3
 obtain⟨_,_,fv⟩:=c4
 obtain⟨_,Bm,Bn⟩:=fv.b 1 (by decide)
 refine D.fj oY (fun vs H Q E h=>?_) (fun f br A outer s H vs Q E hr h=>?_)
 ·obtain⟨r,x,p,a,u',rfl,_⟩:=h
  rfl
 ·obtain⟨r,x,p,a,u',rfl,⟨dx,hR⟩,hp,hx,ha,hu,q,qE⟩:=h
  refine⟨_,(aj
     (bC (bA (pv 0) T.aw aE.m aE.ok (hr.mono (by omega)) aE.b .nil aO (aa (aP (v:= .str "(") rfl T.eR ⟨_,rfl⟩) ak)))
    (aj
     (aQ (i:=2) oY.nd rfl (Or.inl rfl) (bA (pv 0) T.aw bo.m bo.ok (hr.mono (by omega)) bo.b .nil aO (aa (aB cL (pv 1) aq) ak)))
    (aj
     (bC (bA (pv 0) T.aw aE.m aE.ok (hr.mono (by omega)) aE.b .nil aO (aa (aP (v:= .str ")") rfl T.mP ⟨_,rfl⟩) ak)))
    (ao
     (aH (fZ fv.m fv.ok (hr.mono (by omega)) rfl T.GH Bn Bm aV (aa (pv 2) (aa (bU (pv 0) T.aw aM.m aM.ok (hr.mono (by omega)) aM.b .nil aO) ak)))))))),?_⟩
  have p7:(sf x p).head? =some 40:=by rw[hu];rfl
  obtain⟨eu,e2⟩:=dQ p7
  have eu':u'=sf x (p+1):=by rw[hu] at eu;injection eu
  subst eu'
  refine⟨_,rfl,r,dx,_,rfl,hR,aI _ _ (by decide+kernel) (by decide+kernel),r,x,p,40,congrArg (fun z=>[V.ref r,V.str z]) M7,⟨dx,hR⟩,hp,hx,fun _ H1 dM k1=>?_,fun n=>absurd p7 n⟩
  obtain⟨me,dM⟩:=dM
  refine⟨_,rfl,r,me,_,rfl,dM,aI _ _ (by decide+kernel) (by decide+kernel),_,rfl,_,_,rfl,rfl,r,x,p+1,a+1,rfl,⟨me,dM⟩,e2,hx,by omega,fun ts q2 l H2 hS Gm vH hN gF k2=>?_,fun e hB h1 h2=>(qE e (.inl hB) (by omega) h2).on k1 dM⟩
  obtain⟨jv,gF⟩:=gF
  obtain⟨IS,ps,IC,OR⟩:=hN
  refine⟨_,rfl,r,jv,_,rfl,gF,aI _ _ (by decide+kernel) (by decide+kernel),r,x,q2,41,congrArg (fun z=>[V.ref r,V.str z]) e41,⟨jv,gF⟩,vH,hx,fun GO H3 fw k3=>?_,fun n=>(qE q2 (.inr (.inl ⟨ts,hS,n⟩)) (by omega) vH).on (k1.trans k2) gF⟩
  obtain⟨vI,fw⟩:=fw
  obtain⟨e3,e3l⟩:=dQ GO
  rw[e3] at hS
  refine⟨_,rfl,_,rfl,r,vI,_,rfl,fw,aI _ _ (by decide+kernel) (by decide+kernel),r,x,q2+1,rfl,⟨vI,fw⟩,e3l,hx,fun n q4 H4 OS VF Du qm k4=>?_,fun e hB h1 h2=>(qE e (.inr (.inr ⟨ts,_,hS,hB⟩)) (by omega) h2).on ((k1.trans k2).trans k3) fw⟩
  obtain⟨IT,qm⟩:=qm
  have TQ:l≠r:=fun z=>by rw[z,dM] at IS;cases IS
  have VG:=k4 _ _ (k3 _ _ IC TQ) TQ
  refine fun g dg ng Fv neg=>⟨g,dg,l,n,ps.map V.ref,rfl,ai,?_,fun m H5 hm hg M9 kp=>⟨rfl,?_⟩⟩
  ·rw[ah (af VG ng),ah (af VG Fv)];exact VG
  have s5:aG H4 H5:=fun b o z=>kp b o (by rw[ah (af z ng),ah (af z Fv)];exact z) (af z ng)
  have kf:Kept r H H4:=((k1.trans k2).trans k3).trans k4
  refine q ts n _ q4 g H5 hS OS (by omega) Du (aY kf qm ng) (fun bQ ke=>?_) ⟨IT,s5 _ _ qm⟩ (kf.trans (Kept.of s5))
  refine⟨dg,m,ps,ke _ _ (aY kf qm ng) hg,ke _ _ (aY kf qm (dY hm)) M9,OR bQ fun b o z1 z2=>?_⟩
  have B3:b≠r:=fun z=>by rw[z,dM] at z1;cases z1
  exact ke _ _ (aY k1 dM z1) (s5 _ _ (k4 _ _ (k3 _ _ z2 B3) B3))
theorem ph(d:Nat)(D:bP K R "read_parts" "Reader.read_parts" kS ["self","around"])(T:sY K mg C R G uK uN uB uE uM)(c1:dw P w K mg base 1 R "sign" ["self"] (iq R))(c2:bI P w K mg base 1 "is_great" ["sign"] (GA 65 90))(c3:aW P w K mg base (3*d+6) R "read_part" ["self","around"] (vF NF C G R d)):
  aW P w K mg base (3*d+7) R "read_parts" ["self","around"] (jE NF C G R d):=by
 obtain⟨_,_,au⟩:=c1
 obtain⟨_,_,cN⟩:=c2
 obtain⟨_,_,bW⟩:=c3
 refine D.fj vz (fun vs H Q E h=>?_) (fun f br A outer s H vs Q E hr h=>?_)
 ·obtain⟨r,x,p,a,rfl,_⟩:=h
  rfl
 ·obtain⟨r,x,p,a,rfl,⟨dx,hR⟩,hp,hx,ha,q,qE⟩:=h
  have big:(2000 :Nat)≤sizeLine:=by decide
  refine⟨_,(aj
     (aQ (i:=2) vz.nd rfl (Or.inl rfl) (c9 (aa (bA (pv 0) T.aw bW.m bW.ok (hr.mono (by omega)) bW.b .nil aO (aa (pv 1) ak)) ak)))
    (aj
     (gJ j' (PW.pt (Ip (gv (aX cN.ok (hr.mono (by omega)) rfl cN.g cN.kp cN.b .nil aV (aa (bT (pv 0) T.aw au.m au.ok (hr.mono (by omega)) au.b .nil aV) ak))) (Cf (bp cI (bT (pv 0) T.aw au.m au.ok (hr.mono (by omega)) au.b .nil aV) (aP (v:= .str "(") rfl T.eR ⟨_,rfl⟩) (bq _)))))
      (ao
       (bC (gQ PySem.F.plainAttrs_list PySem.F.slot_list_append PySem.F.type_list_append eD (pv 2) (aa (bA (pv 0) T.aw bW.m bW.ok (hr.mono (by omega)) bW.b .nil aO (aa (pv 1) ak)) ak)))))
    (ao
     (aH (pv 2))))),?_⟩
  refine⟨_,rfl,r,dx,_,rfl,hR,aI _ _ (by decide+kernel) (by decide+kernel),_,rfl,r,x,p,a,rfl,⟨dx,hR⟩,hp,hx,ha,fun t q1 y H1 hP GN vo ny hN dM k1=>⟨(by show 1≤sizeLine;decide),fun L hL=>?_⟩,fun e hB=>qE e (.inl hB)⟩
  obtain⟨me,dM⟩:=dM
  have zL:H L=none:=aY k1 dM hL
  have qo:L≠r:=fun z=>by rw[z,dM] at hL;cases hL
  refine⟨fun m σ H'=>∃q' ts,m+q'=x.length∧p<q'∧Sq (km d) (sf x p) ts (sf x q')∧σ=[some (.ref r),some (.int a),some (.ref L)]∧cT R H' r x q'∧Kept r H H'∧∃ps,H' L=some (.lst (ps.map V.ref))∧ps.length≤q'∧Paired (Vy C G L d H H') ps ts,⟨x.length - q1,q1,[t],by omega,GN, .one t _ hP,rfl,⟨me,?_⟩,?_,[y],ai,by show 1≤q1;omega,?_⟩,?_⟩
  ·rw[ah (Ne.symm qo),dM]
  ·exact k1.trans (Kept.of (aG.new hL))
  ·refine .cons (fun bQ ke=>hN bQ fun b o z1 z2=>?_) .nil
   have Dv:b≠L:=af z2 hL
   exact ke b o z1 Dv (by rw[ah Dv];exact z2)
  rintro m σ H' ⟨q',ts,hm,VH,hS,rfl,⟨dv,cX⟩,kk,ps,Lq,kr,hP⟩
  have jM:q'≤x.length:=by omega
  refine⟨_,rfl,r,dv,_,rfl,cX,aI _ _ (by decide+kernel) (by decide+kernel),r,x,q',rfl,⟨dv,cX⟩,jM,hx,_,rfl,lD _ _,_,rfl,?_⟩
  by_cases hM:More (sf x q')
  ·obtain⟨c,hc,Tf⟩:=id hM
   have OR:ps.length<sizeLine:=by omega
   rcases Tf with hg|VI
   case' inl=>
    have ev:inR 65 90 (fq x q')=true:=(pe 65 90).mpr ⟨c,hc,hg⟩
    rw[ev]
    refine eG (eG ?_)
   case' inr=>
    subst VI
    have ev:inR 65 90 (fq x q')=false:=by
     cases ev:inR 65 90 (fq x q') with
     |false=>rfl
     |true=>
      obtain⟨b,hb,qR⟩:=(pe 65 90).mp ev
      rw[hc] at hb
      cases hb
      cases qR
    rw[ev]
    refine dm ⟨_,rfl,r,dv,_,rfl,cX,aI _ _ (by decide+kernel) (by decide+kernel),r,x,_,rfl,⟨dv,cX⟩,jM,hx,rfl,_,rfl,ie (by rw[M7];exact eB.mpr hc) ?_⟩
   all_goals
    refine⟨_,fun σ' bQ h=>h,?_⟩
    refine⟨_,rfl, .inl ⟨rfl,_,bR.of Lq⟩,_,rfl,r,dv,_,rfl,cX,aI _ _ (by decide+kernel) (by decide+kernel),_,rfl,r,x,q',a,rfl,⟨dv,cX⟩,jM,hx,ha,fun t q2 y H2 hT Gm vH ny hN gF k2=>?_,fun e hB h1 h2=>(qE e (.inr ⟨ts,_,hS,hM,hB⟩) (by omega) h2).on kk cX⟩
    obtain⟨jv,gF⟩:=gF
    have IU:=k2 _ _ Lq qo
    refine⟨L,_,_,rfl,rfl,IU,by rw[List.length_map];exact OR,?_⟩
    refine⟨x.length - q2,by omega,q2,ts++[t],by omega,by omega, .snoc ts _ t _ hS hM hT,rfl,⟨jv,?_⟩,fun b o z w=>?_,ps++[y],by rw[ai,List.map_append];rfl,by rw[List.length_append];show ps.length+1≤q2;omega,?_⟩
    ·rw[ah (Ne.symm qo),gF]
    ·rw[ah (af z zL)]
     exact k2 _ _ (kk _ _ z w) w
    ·refine gj (fun bQ ke=>hN bQ fun b o z1 z2=>?_) (b5 (fun c t h bQ ke=>h bQ fun b o z1 z2 z3=>ke b o z1 z2 ?_) hP)
     ·have Dv:b≠L:=fun z=>by rw[z,Lq] at z1;cases z1
      exact ke b o (aY kk cX z1) Dv (by rw[ah Dv];exact z2)
     ·have B3:b≠r:=fun z=>by rw[z,hR] at z1;cases z1
      rw[ah z2]
      exact k2 _ _ z3 B3
  ·have ev:inR 65 90 (fq x q')=false:=by
    cases ev:inR 65 90 (fq x q') with
    |false=>rfl
    |true=>
     obtain⟨b,hb,qR⟩:=(pe 65 90).mp ev
     exact absurd ⟨b,hb, .inl qR⟩ hM
   rw[ev]
   refine dm ⟨_,rfl,r,dv,_,rfl,cX,aI _ _ (by decide+kernel) (by decide+kernel),r,x,_,rfl,⟨dv,cX⟩,jM,hx,rfl,_,rfl,iJ (by rw[M7];exact fun z=>hM ⟨40,eB.mp z, .inr rfl⟩) ?_⟩
   exact⟨_,rfl,q ts q' L H' ⟨hS,hM⟩ VH jM ⟨zL,ps,Lq,fun bQ ke=>b5 (fun c t h=>h bQ fun b o z1 _ z3=>ke b o z1 z3) hP⟩ ⟨dv,cX⟩ kk⟩
theorem rj(D1:bP K R "read_group" "Reader.read_group" jx ["self","around"])(D2:bP K R "read_part" "Reader.read_part" oU ["self","around"])(D3:bP K R "read_parts" "Reader.read_parts" kS ["self","around"])(T:sY K mg C R G uK uN uB uE uM)
  (c1:dw P w K mg base 1 R "sign" ["self"] (iq R)) (c2:bI P w K mg base 1 "is_great" ["sign"] (GA 65 90)) (c3:aW P w K mg base 5 R "read_atom" ["self"] (pf NF C R)) (c4:aW P w K mg base 3 R "take" ["self","sign"] (ir NF R)) (c5:aW P w K mg base 4 R "read_count" ["self"] (fD NF R))
  (c6:eU P w K mg base 1 G ["self","parts","count"] [1] (lG G)):∀d:Nat,aW P w K mg base (3*d+7) R "read_parts" ["self","around"] (jE NF C G R d)
 |0=>ph 0 D3 T c1 c2 (rh 0 D2 T c1 c3 (vG D1))
 |d+1=>ph (d+1) D3 T c1 c2 (rh (d+1) D2 T c1 c3 (by rw[show 3*(d+1)+5=3*d+8 by omega];exact xO d D1 T c4 c5 (rj D1 D2 D3 T c1 c2 c3 c4 c5 c6 d) c6))
variable {HE NF TL:Addr}{uC uP uI uD uL uT:Tok}
def pj(NF R:Addr):Sp:=fun vs H Q E=>∃(r:Addr) (x:Str) (p:Nat),vs=[.ref r]∧cT R H r x p∧p≤x.length∧x.length≤1000∧
 (∀n q H',TK (sf x p) n (sf x q)→p≤q→q≤x.length→cT R H' r x q→Kept r H H'→Q (.int n) H')∧(∀e,ChB (sf x p) (sf x e)→p≤e→e≤x.length→Rz NF H r E e)
theorem vJ(D:bP K R "read_charge" "Reader.read_charge" kU ["self"])(T:OM K mg C R uK uN uC uP uI)(c1:dw P w K mg base 1 R "sign" ["self"] (iq R))(c2:aW P w K mg base 3 R "take" ["self","sign"] (ir NF R))(c3:aW P w K mg base 4 R "read_count" ["self"] (fD NF R)):
  aW P w K mg base 5 R "read_charge" ["self"] (pj NF R):=by
 obtain⟨_,_,au⟩:=c1
 obtain⟨_,_,aE⟩:=c2
 obtain⟨_,_,aM⟩:=c3
 refine D.fj qX (fun vs H Q E h=>?_) (fun f br A outer s H vs Q E hr h=>?_)
 ·obtain⟨r,x,p,rfl,_⟩:=h
  rfl
 ·obtain⟨r,x,p,rfl,⟨dx,hR⟩,hp,hx,q,qE⟩:=h
  refine⟨_,(aj
     (bM (bp yW (bT (pv 0) T.aw au.m au.ok (hr.mono (by decide)) au.b .nil aV) (aP (v:= .str "^") rfl T.gA ⟨_,rfl⟩) (bq _))
      (ao
       (aH aq))
      ba)
    (aj
     (bC (bA (pv 0) T.aw aE.m aE.ok (hr.mono (by decide)) aE.b .nil aO (aa (aP (v:= .str "^") rfl T.gA ⟨_,rfl⟩) ak)))
    (aj
     (aQ (i:=1) qX.nd rfl (Or.inl rfl) (bU (pv 0) T.aw aM.m aM.ok (hr.mono (by decide)) aM.b .nil aO))
    (aj
     (bM (bp cI (bT (pv 0) T.aw au.m au.ok (hr.mono (by decide)) au.b .nil aV) (aP (v:= .str "-") rfl T.tf ⟨_,rfl⟩) (bq _))
      (aj
       (bC (bA (pv 0) T.aw aE.m aE.ok (hr.mono (by decide)) aE.b .nil aO (aa (aP (v:= .str "-") rfl T.tf ⟨_,rfl⟩) ak)))
      (ao
       (aH (Iv Co (pv 1)))))
      ba)
    (aj
     (bC (bA (pv 0) T.aw aE.m aE.ok (hr.mono (by decide)) aE.b .nil aO (aa (aP (v:= .str "+") rfl T.Dm ⟨_,rfl⟩) ak)))
    (ao
     (aH (pv 1)))))))),?_⟩
  refine⟨_,rfl,r,dx,_,rfl,hR,aI _ _ (by decide+kernel) (by decide+kernel),r,x,p,rfl,⟨dx,hR⟩,hp,hx,rfl,_,rfl,?_⟩
  by_cases h0:(sf x p).head? =some 94
  ·have eq:V.str (fq x p)=V.str "^" :=by rw[TC];exact eB.mpr h0
   rw[decide_eq_true eq]
   refine dm ?_
   obtain⟨e1,e2⟩:=dQ h0
   refine⟨_,rfl,r,dx,_,rfl,hR,aI _ _ (by decide+kernel) (by decide+kernel),r,x,p,94,congrArg (fun z=>[V.ref r,V.str z]) TC,⟨dx,hR⟩,hp,hx,fun _ H1 dM k1=>?_,fun n=>absurd h0 n⟩
   obtain⟨me,dM⟩:=dM
   refine⟨_,rfl,r,me,_,rfl,dM,aI _ _ (by decide+kernel) (by decide+kernel),r,x,p+1,rfl,⟨me,dM⟩,e2,hx,fun m q2 H2 hN Gm vH gF k2=>?_,fun e hB h1 h2=>(qE e ⟨_,e1, .inl hB⟩ (by omega) h2).on k1 dM⟩
   obtain⟨jv,gF⟩:=gF
   have kk:=k1.trans k2
   refine⟨_,rfl,r,jv,_,rfl,gF,aI _ _ (by decide+kernel) (by decide+kernel),r,x,_,rfl,⟨jv,gF⟩,vH,hx,rfl,_,rfl,?_⟩
   by_cases mR:(sf x q2).head? =some 45
   ·obtain⟨f1,f2⟩:=dQ mR
    refine ie (by rw[TF];exact eB.mpr mR) ?_
    refine⟨_,rfl,r,jv,_,rfl,gF,aI _ _ (by decide+kernel) (by decide+kernel),r,x,q2,45,congrArg (fun z=>[V.ref r,V.str z]) TF,⟨jv,gF⟩,vH,hx,fun _ H3 fw k3=>?_,fun n=>absurd mR n⟩
    exact⟨_,rfl,_,rfl,q (-m) (q2+1) H3 (.inr ⟨_,m,_,e1,hN, .inl ⟨f1,rfl⟩⟩) (by omega) f2 fw (kk.trans k3)⟩
   ·refine iJ (by rw[TF];exact fun z=>mR (eB.mp z)) ?_
    refine⟨_,rfl,r,jv,_,rfl,gF,aI _ _ (by decide+kernel) (by decide+kernel),r,x,q2,43,congrArg (fun z=>[V.ref r,V.str z]) e43,⟨jv,gF⟩,vH,hx,fun OT H3 fw k3=>?_,fun OT=>(qE q2 ⟨_,e1, .inr ⟨m,hN,mR,OT⟩⟩ (by omega) vH).on kk gF⟩
    obtain⟨f1,f2⟩:=dQ OT
    exact⟨_,rfl,q m (q2+1) H3 (.inr ⟨_,m,_,e1,hN, .inr ⟨f1,rfl⟩⟩) (by omega) f2 fw (kk.trans k3)⟩
  ·have ne:¬V.str (fq x p)=V.str "^" :=by rw[TC];exact fun z=>h0 (eB.mp z)
   rw[decide_eq_false ne]
   exact eG (q 0 p H (.inl ⟨h0,rfl,rfl⟩) (Nat.le_refl _) hp ⟨dx,hR⟩ (Kept.refl r H))
def lK(NF C G Pc Fo R:Addr):Sp:=fun vs H Q E=>∃(r:Addr) (x:Str) (p:Nat),vs=[.ref r]∧cT R H r x p∧p≤x.length∧x.length≤1000∧(sf x p).head? =some 101∧
 (sf x p=101::94::45::sf x (p+3)→p+3≤x.length→∀f H',H f=none→OO C G Pc Fo 4 H H' f [] (-1)→cT R H' r x (p+3)→Kept r H H'→Q (.ref f) H')∧(∀e,ElB (sf x p) (sf x e)→p≤e→e≤x.length→Rz NF H r E e)
theorem qp(D:bP K R "read_electron" "Reader.read_electron" ij ["self"])(T:ql K mg C R G Pc Fo uK uN uB uE uM uC uP uI uD uL uT)(c1:aW P w K mg base 4 R "take_all" ["self","signs"] (iu NF R))(c2:eU P w K mg base 1 Fo ["self","pieces","charge"] [0] (tq Fo)):
  aW P w K mg base 5 R "read_electron" ["self"] (lK NF C G Pc Fo R):=by
 obtain⟨_,_,aS⟩:=c1
 obtain⟨_,_,bV⟩:=c2
 obtain⟨_,ji,jj⟩:=bV.b 1 (by decide)
 refine D.fj vB (fun vs H Q E h=>?_) (fun f br A outer s H vs Q E hr h=>?_)
 ·obtain⟨r,x,p,rfl,_⟩:=h
  rfl
 ·obtain⟨r,x,p,rfl,⟨dx,hR⟩,hp,hx,VJ,q,qE⟩:=h
  refine⟨_,(aj
     (bC (bA (pv 0) T.aw aS.m aS.ok (hr.mono (by decide)) aS.b .nil aO (aa (aP (v:= .str "e^-") rfl T.kj ⟨_,rfl⟩) ak)))
    (ao
     (aH (fZ bV.m bV.ok (hr.mono (by decide)) rfl T.q9 jj ji aV (aa (c9 ak) (aa (Iv Co aq) ak)))))),?_⟩
  have ee:("e^-" :Str).cps.toList=[101,94,45]:=by decide+kernel
  have ea:("e^-" :Str).cps.all (· <128)=true:=by decide+kernel
  have el:("e^-" :Str).length=3:=by decide+kernel
  refine⟨_,rfl,r,dx,_,rfl,hR,aI _ _ (by decide+kernel) (by decide+kernel),r,x,p,_,rfl,ea,⟨dx,hR⟩,hp,hx,fun hs hl3 H1 dM k1=>?_,fun i c hc hs hn hl=>?_⟩
  ·obtain⟨me,dM⟩:=dM
   rw[ee,el] at hs
   rw[el] at hl3 dM
   refine⟨(by show 0≤sizeLine;decide),fun l hl=>⟨1,rfl,fun g dg ng Fv neg=>⟨g,dg,l, -1,[],rfl,ai,?_,fun m H5 hm hg M9 kp=>⟨rfl,?_⟩⟩⟩⟩
   ·rw[ah (af ai ng),ah (af ai Fv)];exact ai
   have sl:aG H1 (upd H1 l (.lst [])):=aG.new hl
   have s5:aG (upd H1 l (.lst [])) H5:=fun b o z=>kp b o (by rw[ah (af z ng),ah (af z Fv)];exact z) (af z ng)
   have kf:Kept r H (upd H1 l (.lst [])):=k1.trans (Kept.of sl)
   have TU:=sl _ _ dM
   exact q hs hl3 g H5 (aY kf TU ng) (fun bQ ke=>⟨dg,m,[],ke _ _ (aY kf TU ng) hg,ke _ _ (aY kf TU (dY hm)) M9, .nil⟩) ⟨me,s5 _ _ TU⟩ (kf.trans (Kept.of s5))
  ·rw[ee] at hc hs
   refine qE (p+i) ?_ (by omega) hl
   match i,hc with
   |0,hc=>
    have:101=c:=by simpa using hc
    subst this
    exact absurd VJ hn
   |1,hc=>
    have:94=c:=by simpa using hc
    subst this
    exact .inl ⟨hs,hn⟩
   |2,hc=>
    have:45=c:=by simpa using hc
    subst this
    exact .inr ⟨hs,hn⟩
def rk(NF C G Pc Fo R:Addr):Sp:=fun vs H Q E=>∃(r:Addr) (x:Str) (p:Nat),vs=[.ref r]∧cT R H r x p∧p≤x.length∧x.length≤1000∧
 (∀xs n q f H',Fu (sf x p) xs n (sf x q)→p≤q→q≤x.length→H f=none→OO C G Pc Fo 4 H H' f xs n→cT R H' r x q→Kept r H H'→Q (.ref f) H')∧(∀e,OP (sf x p) (sf x e)→p≤e→e≤x.length→Rz NF H r E e)
theorem xP(D:bP K R "read_whole" "Reader.read_whole" nL ["self"])(T:ql K mg C R G Pc Fo uK uN uB uE uM uC uP uI uD uL uT)(c1:dw P w K mg base 1 R "sign" ["self"] (iq R))(c2:aW P w K mg base 3 R "take" ["self","sign"] (ir NF R))(c3:aW P w K mg base 4 R "read_count" ["self"] (fD NF R))(c4:aW P w K mg base 19 R "read_parts" ["self","around"] (jE NF C G R 4))
  (c5:aW P w K mg base 5 R "read_charge" ["self"] (pj NF R)) (c6:aW P w K mg base 5 R "read_electron" ["self"] (lK NF C G Pc Fo R)) (c7:eU P w K mg base 1 Pc ["self","parts","count"] [1] (lG Pc)) (c8:eU P w K mg base 1 Fo ["self","pieces","charge"] [0] (tq Fo)):
  aW P w K mg base 20 R "read_whole" ["self"] (rk NF C G Pc Fo R):=by
 obtain⟨_,_,au⟩:=c1
 obtain⟨_,_,aE⟩:=c2
 obtain⟨_,_,aM⟩:=c3
 obtain⟨_,_,bo⟩:=c4
 obtain⟨_,_,dh⟩:=c5
 obtain⟨_,_,cP⟩:=c6
 obtain⟨_,_,dP⟩:=c7
 obtain⟨_,_,bV⟩:=c8
 obtain⟨_,Bo,Bp⟩:=dP.b 0 (by decide)
 obtain⟨_,Bq,Br⟩:=dP.b 1 (by decide)
 obtain⟨_,ji,jj⟩:=bV.b 1 (by decide)
 refine D.fj pb (fun vs H Q E h=>?_) (fun f br A outer s H vs Q E hr h=>?_)
 ·obtain⟨r,x,p,rfl,_⟩:=h
  rfl
 ·obtain⟨r,x,p,rfl,⟨dx,hR⟩,hp,hx,q,qE⟩:=h
  have big:(2000 :Nat)≤sizeLine:=by decide
  refine⟨_,(aj
     (bM (bp cI (bT (pv 0) T.aw au.m au.ok (hr.mono (by decide)) au.b .nil aV) (bz ib (aP (v:= .str "e^-") rfl T.kj ⟨_,rfl⟩) aq (fun _ _=>rfl)) (bq _))
      (ao
       (aH (bU (pv 0) T.aw cP.m cP.ok (hr.mono (by decide)) cP.b .nil aO)))
      ba)
    (aj
     (aQ (i:=1) pb.nd rfl (Or.inl rfl) (c9 (aa (fZ dP.m dP.ok (hr.mono (by decide)) rfl T.zG Bp Bo aV (aa (bA (pv 0) T.aw bo.m bo.ok (hr.mono (by decide)) bo.b .nil aO (aa aq ak)) ak)) ak)))
    (aj
     (gJ j' (bp cI (bT (pv 0) T.aw au.m au.ok (hr.mono (by decide)) au.b .nil aV) (aP (v:= .str ".") rfl T.jg ⟨_,rfl⟩) (bq _))
      (aj
       (bC (bA (pv 0) T.aw aE.m aE.ok (hr.mono (by decide)) aE.b .nil aO (aa (aP (v:= .str ".") rfl T.jg ⟨_,rfl⟩) ak)))
      (aj
       (aQ (i:=2) pb.nd rfl (Or.inl rfl) (bU (pv 0) T.aw aM.m aM.ok (hr.mono (by decide)) aM.b .nil aO))
      (ao
       (bC (gQ PySem.F.plainAttrs_list PySem.F.slot_list_append PySem.F.type_list_append eD (pv 1) (aa (fZ dP.m dP.ok (hr.mono (by decide)) rfl T.zG Br Bq aV (aa (bA (pv 0) T.aw bo.m bo.ok (hr.mono (by decide)) bo.b .nil aO (aa aq ak)) (aa (pv 2) ak))) ak)))))))
    (ao
     (aH (fZ bV.m bV.ok (hr.mono (by decide)) rfl T.q9 jj ji aV (aa (pv 1) (aa (bU (pv 0) T.aw dh.m dh.ok (hr.mono (by decide)) dh.b .nil aO) ak)))))))),?_⟩
  refine⟨_,rfl,r,dx,_,rfl,hR,aI _ _ (by decide+kernel) (by decide+kernel),r,x,p,rfl,⟨dx,hR⟩,hp,hx,"e^-",0,101,rfl,rfl,(by decide+kernel),(by decide+kernel),rfl,_,rfl,?_⟩
  by_cases h0:(sf x p).head? =some 101
  ·refine ie (eB.mpr h0) ?_
   exact⟨_,rfl,r,dx,_,rfl,hR,aI _ _ (by decide+kernel) (by decide+kernel),r,x,p,rfl,⟨dx,hR⟩,hp,hx,h0,fun hs hl f H' nf hF cX k'=>q [] (-1) (p+3) f H' (.inl ⟨hs,rfl,rfl⟩) (by omega) hl nf hF cX k',fun e hB=>qE e (.inl hB)⟩
  ·refine iJ (fun z=>h0 (eB.mp z)) ?_
   refine⟨_,rfl,r,dx,_,rfl,hR,aI _ _ (by decide+kernel) (by decide+kernel),r,x,p,0,rfl,⟨dx,hR⟩,hp,hx,rfl,fun VL q1 l H1 hS vo vK hN dM k1=>?_,fun e hB=>qE e (.inr ⟨h0, .inl hB⟩)⟩
   obtain⟨me,dM⟩:=dM
   obtain⟨VM,ps0,IS,VN⟩:=hN
   refine fun g dg ng Fv neg=>⟨g,dg,l,1,ps0.map V.ref,rfl,ai,?_,fun m H2 hm hg M9 kp=>⟨rfl,(by show 1≤sizeLine;decide),fun L hL=>?_⟩⟩
   ·rw[ah (af IS ng),ah (af IS Fv)];exact IS
   have s2:aG H1 H2:=fun b o z=>kp b o (by rw[ah (af z ng),ah (af z Fv)];exact z) (af z ng)
   have gF:=s2 _ _ dM
   have k2:Kept r H H2:=k1.trans (Kept.of s2)
   have zL:H L=none:=aY k2 gF hL
   have qo:L≠r:=fun z=>by rw[z,gF] at hL;cases hL
   have sL:aG H2 (upd H2 L (.lst [V.ref g])):=aG.new hL
   have ng0:=aY k1 dM ng
   have nm0:=aY k1 dM (dY hm)
   have first:ON C G Pc L 4 H (upd H2 L (.lst [V.ref g])) g (1,VL):=fun bQ ke=>
    ⟨dg,m,ps0,ke _ _ ng0 (af hg hL) (sL _ _ hg),ke _ _ nm0 (af M9 hL) (sL _ _ M9),VN bQ fun b o z1 z2=>ke b o z1 (af (s2 _ _ z2) hL) (sL _ _ (s2 _ _ z2))⟩
   refine⟨fun k σ H'=>∃q' xs,k+q'=x.length∧p<q'∧wX (sf x p) xs (sf x q')∧(∃v:Option V,σ=[some (.ref r),some (.ref L),v])∧cT R H' r x q'∧Kept r H H'∧∃ps,H' L=some (.lst (ps.map V.ref))∧ps.length≤q'∧Paired (ON C G Pc L 4 H H') ps xs,⟨x.length - q1,q1,[(1,VL)],by omega,vo, .one VL _ hS,⟨none,rfl⟩,⟨me,sL _ _ gF⟩,k2.trans (Kept.of sL),[g],ai,by show 1≤q1;omega, .cons first .nil⟩,?_⟩
   rintro k σ H' ⟨q',xs,hk,GN,Na,⟨v,rfl⟩,⟨dv,cX⟩,kk,ps,Lq,kr,hP⟩
   have jM:q'≤x.length:=by omega
   refine⟨_,rfl,r,dv,_,rfl,cX,aI _ _ (by decide+kernel) (by decide+kernel),r,x,_,rfl,⟨dv,cX⟩,jM,hx,rfl,_,rfl,?_⟩
   by_cases GP:(sf x q').head? =some 46
   ·obtain⟨f1,f2⟩:=dQ GP
    rw[f1] at Na
    refine ie (by rw[TJ];exact eB.mpr GP) ?_
    refine⟨_,fun σ' bQ h=>h,?_⟩
    refine⟨_,rfl,r,dv,_,rfl,cX,aI _ _ (by decide+kernel) (by decide+kernel),r,x,q',46,congrArg (fun z=>[V.ref r,V.str z]) TJ,⟨dv,cX⟩,jM,hx,fun _ H3 fw k3=>?_,fun n=>absurd GP n⟩
    obtain⟨vI,fw⟩:=fw
    refine⟨_,rfl,r,vI,_,rfl,fw,aI _ _ (by decide+kernel) (by decide+kernel),r,x,q'+1,rfl,⟨vI,fw⟩,f2,hx,fun c q4 H4 hC VF Du qm k4=>?_,fun e hB h1 h2=>(qE e (.inr ⟨h0, .inr (.inl ⟨xs,_,Na, .inl hB⟩)⟩) (by omega) h2).on (kk.trans k3) fw⟩
    obtain⟨IT,qm⟩:=qm
    have Lr:=k3.trans k4
    have GQ:=Lr _ _ Lq qo
    refine⟨_,rfl, .inl ⟨rfl,_,bR.of GQ⟩,_,rfl,r,IT,_,rfl,qm,aI _ _ (by decide+kernel) (by decide+kernel),r,x,q4,0,rfl,⟨IT,qm⟩,Du,hx,rfl,fun TV q5 l' H5 hS' hq5 hq5l TX OU k5=>?_,fun e hB h1 h2=>(qE e (.inr ⟨h0, .inr (.inl ⟨xs,_,Na, .inr ⟨c,_,hC,hB⟩⟩)⟩) (by omega) h2).on (kk.trans Lr) qm⟩
    obtain⟨dx5,OU⟩:=OU
    obtain⟨hl0',TY,Ls,VO⟩:=TX
    refine⟨_,rfl,fun g' OV B4 Dw VP=>⟨g',OV,l',c,TY.map V.ref,rfl,ai,?_,fun m' H6 VQ Dx Lu VR=>⟨rfl,?_⟩⟩⟩
    ·rw[ah (af Ls B4),ah (af Ls Dw)];exact Ls
    have s6:aG H5 H6:=fun b o z=>VR b o (by rw[ah (af z B4),ah (af z Dw)];exact z) (af z B4)
    have k36:Kept r H' H6:=(Lr.trans k5).trans (Kept.of s6)
    have VS:=k5 _ _ GQ qo
    have hL6:=s6 _ _ VS
    have k45:Kept r H H4:=kk.trans Lr
    have k55:Kept r H H5:=k45.trans k5
    refine⟨L,_,_,rfl,rfl,hL6,by rw[List.length_map];omega,x.length - q5,by omega,q5,xs++[(c,TV)],by omega,by omega, .snoc xs _ c _ TV _ Na hC hS',⟨_,rfl⟩,⟨dx5,?_⟩,fun b o z w=>?_,ps++[g'],by rw[ai,List.map_append];rfl,by rw[List.length_append];show ps.length+1≤q5;omega,?_⟩
    ·rw[ah (Ne.symm qo),s6 _ _ OU]
    ·rw[ah (af z zL)]
     exact k36 _ _ (kk _ _ z w) w
    ·refine gj (fun bQ ke=>?_) (b5 (fun c t h bQ ke=>h bQ fun b o z1 z2 z3=>ke b o z1 z2 ?_) hP)
     ·have u:∀{b o},H6 b=some o→b≠L→(upd H6 L (.lst (ps.map V.ref++[V.ref g']))) b=some o:=fun {b o} z w=>by rw[ah w];exact z
      have ngL:g'≠L:=fun z=>by rw[z,VS] at B4;cases B4
      have VT:=dY VQ
      have nmL:m'≠L:=fun z=>by rw[z,VS] at VT;cases VT
      refine⟨OV,m',TY,ke _ _ (aY k55 OU B4) ngL (u Dx ngL),ke _ _ (aY k55 OU VT) nmL (u Lu nmL),VO bQ fun b o z1 z2=>?_⟩
      have Dv:b≠L:=fun z=>by rw[z,GQ] at z1;cases z1
      exact ke b o (aY k45 qm z1) Dv (u (s6 _ _ z2) Dv)
     ·have B3:b≠r:=fun z=>by rw[z,hR] at z1;cases z1
      rw[ah z2]
      exact k36 _ _ z3 B3
   ·refine iJ (by rw[TJ];exact fun z=>GP (eB.mp z)) ?_
    refine⟨_,rfl,_,rfl,r,dv,_,rfl,cX,aI _ _ (by decide+kernel) (by decide+kernel),r,x,q',rfl,⟨dv,cX⟩,jM,hx,fun n q3 H3 hC hq3 Lv fw k3=>?_,fun e hB h1 h2=>(qE e (.inr ⟨h0, .inr (.inr ⟨xs,_,Na,GP,hB⟩)⟩) (by omega) h2).on kk cX⟩
    obtain⟨vI,fw⟩:=fw
    have xQ:=k3 _ _ Lq qo
    have TZ:=kk.trans k3
    refine fun g' OV B4 Dw VP=>⟨g',OV,L,n,ps.map V.ref,rfl,ai,?_,fun m' H6 VQ Dx Lu VR=>⟨rfl,?_⟩⟩
    ·rw[ah (af xQ B4),ah (af xQ Dw)];exact xQ
    have s6:aG H3 H6:=fun b o z=>VR b o (by rw[ah (af z B4),ah (af z Dw)];exact z) (af z B4)
    refine q xs n q3 g' H6 (.inr ⟨h0,_,Na,GP,hC⟩) (by omega) Lv (aY TZ fw B4) (fun bQ ke=>?_) ⟨vI,s6 _ _ fw⟩ (TZ.trans (Kept.of s6))
    refine⟨OV,m',ps,ke _ _ (aY TZ fw B4) Dx,ke _ _ (aY TZ fw (dY VQ)) Lu,b5 (fun c t h=>h bQ fun b o z1 z2 z3=>ke b o z1 ?_) hP⟩
    have B3:b≠r:=fun z=>by rw[z,hR] at z1;cases z1
    exact s6 _ _ (k3 _ _ z3 B3)
variable {HE NF TL:Addr}{uC uP uI uD uL uT:Tok}
def Rf(X:Addr)(fld:Str)(H:Hp)(E:XK)(e:Nat):Prop:=∀b dx H',H b=none→H dx=none→H' b=some (lT b X (some dx))→H' dx=some (wW dx [(fld, .int (e:Int))])→aG H H'→E (.ref X) (some dx) H'
def pk(TL:Addr):Sp:=fun vs H Q E=>∃x:Str,vs=[.str x]∧x.length≤10000∧(x.length≤400→Q .cJ H)∧(400<x.length→Rf TL "many" H E x.length)
theorem vL(D:Def K mg "refuse_too_long" "refuse_too_long" kX ["text"])(T:ql K mg C R G Pc Fo uK uN uB uE uM uC uP uI uD uL uT)(TE:vC K mg HE NF TL)(c1:eW P w K mg base 1 "TooLong" TL HE ["self","many"] (jh TL "many")):gT P w K mg base 3 "refuse_too_long" ["text"] (pk TL):=by
 obtain⟨_,_,fE⟩:=c1
 refine D.fj Bj (fun vs H Q E h=>?_) (fun f br A outer s H vs Q E hr h=>?_)
 ·obtain⟨x,rfl,_⟩:=h
  rfl
 ·obtain⟨x,rfl,hx,q,qE⟩:=h
  have big:(10000 :Nat)≤sizeLine:=by decide
  refine⟨_,(ao
     (bM (bp qy (bw dk rfl T.gg eI (aa (pv 0) ak)) (aP (v:= .int 400) rfl T.o9 ⟨_,rfl⟩) (bq _))
      (ao
       (fL rfl aO (fK fE.z fE.ok (hr.mono (by decide)) rfl fE.g fE.kp fE.b (aa (bw dk rfl T.gg eI (aa (pv 0) ak)) ak))))
      ba)),?_⟩
  refine⟨_,rfl,x,rfl,by omega,_,_,rfl,rfl,_,rfl,?_⟩
  by_cases h:400<x.length
  ·refine ie (by omega) ⟨_,rfl,x,rfl,by omega,(by show 1≤100;decide),fun b hb=>?_⟩
   refine⟨b,_,rfl,ai,by omega,by omega,fun jv H5 eZ hX xK uk k5=>⟨rfl,b,TL,HE,_,some jv,rfl,fE.z,xK,?_⟩⟩
   rw[ah hX] at eZ
   refine qE h b jv _ hb eZ ai (by rw[ah hX];exact uk) fun b' o z=>?_
   have tw:b'≠b:=af z hb
   rw[ah tw]
   exact k5 _ _ (by rw[ah tw];exact z) tw
  ·exact iJ (by omega) (q (by omega))
variable {HE NF TL NC TM:Addr}
structure vM(K:PySem.W.Frag)(mg:Str→Option Value)(HE NF TL NC TM:Addr):Prop extends vC K mg HE NF TL where
 xR:mg "NoChange" =some (.ref NC)
 Bs:mg "TooMany" =some (.ref TM)
 Dy:PySem.W.takerIn K NC "place" =some none
 GR:PySem.W.takerIn K TM "many" =some none
 tD:PySem.W.vh K NF
 GS:PySem.W.findIn K (.ref NF) "place" =some none
 up:PySem.W.mroIn K NF (.ref NF)=some true
 lt:fJ.vc NC
 nl:¬fJ.vc NF
theorem OW:az ["self","place"] ["self","place"] (ag Gs):=dI
theorem GU:az ["self","many"] ["self","many"] (ag sM):=dI
theorem Lw(D:kd K mg "NoChange" NC HE "NoChange.__init__" Gs ["self","place"])(T:vM K mg HE NF TL NC TM):xD P w K mg base 1 "NoChange" NC HE ["self","place"] (jh NC "place"):=by
 obtain⟨f0,_,_,Z,_⟩:=id D
 refine D.Vp OW (fun vs H Q E h=>?_) (fun f e' br A outer s H vs Q E hr h=>?_)
 ·obtain⟨e,n,rfl,_⟩:=h
  rfl
 ·obtain⟨e,n,rfl,he,n0,n1,q⟩:=h
  have big:(2000 :Nat)≤sizeLine:=by decide
  have z1:=lI n0 n1
  have y1:("no change, by place " :Str).length=20:=by decide+kernel
  have y2:(" of the text" :Str).length=12:=by decide+kernel
  have y0:(Str.empty).length=0:=rfl
  refine⟨_,(aj
     (bC (i' rfl T.dZ T.d8 (pv 0) (kN (dn aR (dn (oP (pv 1)) (dn aR oQ))))))
    (ao
     (kM (pv 0) (pv 1) rfl))),?_⟩
  refine⟨_,rfl,_,rfl,?_,_,rfl, .inl ⟨_,rfl,lJ n0 n1,_,rfl,?_,_,rfl,?_,?_,e,NC,HE,f0,none,rfl,Z,he,?_⟩⟩
  any_goals (simp only [bj,y0,y1,y2];omega)
  refine⟨_,rfl,_,rfl,e,NC,HE,f0,rfl,Z,T.Dy, .inl ⟨he,fun dx eZ hX=>?_⟩⟩
  refine q dx _ eZ hX ai (by rw[ah hX,ai]) fun b o z nb=>?_
  rw[ah nb,ah (af z eZ)]
  exact z
theorem Dz(D:kd K mg "TooMany" TM HE "TooMany.__init__" sM ["self","many"])(T:vM K mg HE NF TL NC TM):eW P w K mg base 1 "TooMany" TM HE ["self","many"] (jh TM "many"):=by
 obtain⟨f0,_,_,Z,_⟩:=id D
 refine D.fW GU (fun vs H Q E h=>?_) (fun f br A outer s H vs Q E hr h=>?_)
 ·obtain⟨e,n,rfl,_⟩:=h
  rfl
 ·obtain⟨e,n,rfl,he,n0,n1,q⟩:=h
  have big:(2000 :Nat)≤sizeLine:=by decide
  have z1:=lI n0 n1
  have y1:("too many: " :Str).length=10:=by decide+kernel
  have y0:(Str.empty).length=0:=rfl
  refine⟨_,(aj
     (bC (i' rfl T.dZ T.d8 (pv 0) (kN (dn aR (dn (oP (pv 1)) oQ)))))
    (ao
     (kM (pv 0) (pv 1) rfl))),?_⟩
  refine⟨_,rfl,_,rfl,?_,_,rfl, .inl ⟨_,rfl,lJ n0 n1,_,rfl,?_,?_,e,TM,HE,f0,none,rfl,Z,he,?_⟩⟩
  any_goals (simp only [bj,y0,y1];omega)
  refine⟨_,rfl,_,rfl,e,TM,HE,f0,rfl,Z,T.GR, .inl ⟨he,fun dx eZ hX=>?_⟩⟩
  refine q dx _ eZ hX ai (by rw[ah hX,ai]) fun b o z nb=>?_
  rw[ah nb,ah (af z eZ)]
  exact z
theorem bg(a b:List Nat):(⟨a.toArray⟩:Str)++⟨b.toArray⟩=⟨(a++b).toArray⟩:=by
 show (⟨a.toArray++b.toArray⟩:Str)=_
 simp
theorem zM(d:Nat):∀ts:List Tr,jn (ts.map fun t=>(⟨(dA d t).toArray⟩:Str))=⟨(ts.flatMap (dA d)).toArray⟩
 | []=>rfl
 |t::ts=>by
  rw[List.map_cons,zB,zM d ts,bg,List.flatMap_cons]
theorem aK(a:List Nat):(⟨a.toArray⟩:Str).length=a.length:=by simp [Str.length]
theorem dN(n:Int):eY n=⟨(bG n).toArray⟩:=by
 apply gi
 simp [bG]
theorem tE{d:Nat}{ts:List Tr}{t:Tr}(h:t∈ts):(dA d t).length≤(ts.flatMap (dA d)).length:=by
 obtain⟨s,r,rfl⟩:=List.append_of_mem h
 rw[List.flatMap_append,List.flatMap_cons,List.length_append,List.length_append]
 omega
def mf(C G:Addr):Nat→Sp
 |0=>fun _ _ _ _=>False
 |d+1=>fun vs H Q _=>∃(g:Addr) (ts:List Tr) (n:Int),vs=[.ref g]∧eO C G (d+1) H g (.gr ts n)∧vx (d+1) (.gr ts n)∧(dA (d+1) (.gr ts n)).length≤1000∧∀H',aG H H'→Q (.str ⟨(dA (d+1) (.gr ts n)).toArray⟩) H'
def jF(C G:Addr)(d:Nat):Sp:=fun vs H Q _=>∃(l:Addr) (ps:List Addr) (ts:List Tr),vs=[.ref l]∧H l=some (.lst (ps.map V.ref))∧Paired (eO C G d H) ps ts∧(∀t∈ts,vx d t)∧(ts.flatMap (dA d)).length≤1000∧∀H',aG H H'→Q (.str ⟨(ts.flatMap (dA d)).toArray⟩) H'
theorem eO.same{C G:Addr}:∀{d:Nat} {H H':Hp} {p:Addr} {t:Tr},eO C G d H p t→aG H H'→eO C G d H' p t
 |0,H,H',p, .one k n,h,e=>fN.same h e
 |d+1,H,H',p, .one k n,h,e=>fN.same (C:=C) (k:=⟨k.toArray⟩) (n:=n) h e
 |0,_,_,_, .gr _ _,h,_=>h.elim
 |d+1,H,H',p, .gr ts n,⟨dx,l,ps,h1,h2,h3⟩,e=>⟨dx,l,ps,e _ _ h1,e _ _ h2,b5 (fun a b h=>eO.same h e) h3⟩
theorem iw{α β:Type}{p:α→β→Prop}:∀{as:List α} {bs:List β} {i:Nat} {a:α},Paired p as bs→as[i]? =some a→∃b,bs[i]? =some b∧p a b
 |_,_,_,_, .nil,h=>by simp at h
 |_,_,0,_, .cons h _,e=>⟨_,rfl,by have e:=Option.some.inj e;rw[←e];exact h⟩
 |_,_,i+1,_, .cons _ t,e=>iw (i:=i) t e
theorem DA:az ["parts"] ["parts"] (ag jy):=dI
theorem GV{k:List Nat}(h:uh k):(⟨k.toArray⟩:Str).length≤3:=by
 obtain⟨c,r,rfl,_,_,hl⟩:=h
 rw[aK,List.length_cons]
 omega
theorem pq(d:Nat)(D:Def K mg "parts_shown" "parts_shown" jy ["parts"])(T:sY K mg C R G uK uN uB uE uM)(c1:dw P w K mg base 2 C "shown" ["self"] (sW C))(c2:dw P w K mg base (2*d+2) G "shown" ["self"] (mf C G d)):bI P w K mg base (2*d+3) "parts_shown" ["parts"] (jF C G d):=by
 obtain⟨_,_,ix⟩:=c1
 obtain⟨_,_,gD⟩:=c2
 refine D.fW DA (fun vs H Q E h=>?_) (fun f br A outer s H vs Q E hr h=>?_)
 ·obtain⟨l,ps,ts,rfl,_⟩:=h
  rfl
 ·obtain⟨l,ps,ts,rfl,hl,hP,bF,hz,q⟩:=h
  have big:(2000 :Nat) <sizeLine:=by decide
  have hfl:=vy bF
  have lp:ps.length=ts.length:=Paired.length hP
  refine⟨_,(ao
     (aH (gQ PySem.F.plainAttrs_str PySem.F.slot_str_join PySem.F.type_str_join nG aR (aa (ic (sc:=(ag jy)) (NX:=["parts"]) (N:=["part"]) (fr:=[none]) ⟨by rfl,by rfl,by decide+kernel,by decide+kernel,by decide+kernel,by rfl,by decide+kernel⟩ rfl rfl rfl (kB (pv 0)) (fun _ _ _ _=>(cK (i:=0) (show (["part"]:List Str).Nodup by decide+kernel) rfl (Or.inl rfl) (Or.inr rfl))) (fun _ _ _ _=>f6) (fun _ _ _ _=>(KW (bT (pv 0) T.ip ix.m ix.ok (hr.mono (by omega)) ix.b .nil aV) (bT (pv 0) T.fv gD.m gD.ok (hr.mono (by omega)) gD.b .nil aV)))) ak)))),?_⟩
  refine⟨rfl,_,rfl,l,rfl,⟨_,bR.of hl⟩,fun D hD=>l6 (K:=K) (a:=l) (D:=D) (xs:=ps.map V.ref) (fun i σ H'=>∃v:Option V,σ=[v]∧aG H H'∧H' D=some (.lst ((ts.take i).map fun t=>V.str ⟨(dA d t).toArray⟩)))
   ?_ (fun i σ H' _ ⟨_,_,e,_⟩=>bR.of (e _ _ hl)) ?_ ?_⟩
  ·exact⟨none,rfl,aG.new hD,ai⟩
  ·rintro i v σ H' hi ⟨v',rfl,e,tF⟩ N hN
   rw[List.getElem?_map] at hi
   obtain⟨p,hp,rfl⟩:∃p,ps[i]? =some p∧v=V.ref p:=by
    cases hh:ps[i]? with
    |none=>rw[hh] at hi;cases hi
    |some p=>rw[hh] at hi;exact⟨p,rfl,(Option.some.inj hi).symm⟩
   obtain⟨t,ht,hT⟩:=iw hP hp
   have hT:=hT.same e
   have Nb:=bF t (List.mem_of_getElem? ht)
   have lt:=Nat.le_trans (tE (d:=d) (List.mem_of_getElem? ht)) hz
   have fin:∀bQ,aG H' bQ→∃ys,bQ D=some (.lst ys)∧ys.length<sizeLine∧N [some (V.ref p)] (upd bQ D (.lst (ys++[V.str ⟨(dA d t).toArray⟩]))):=fun bQ e'=>by
    refine⟨_,e' _ _ tF,?_,hN _ _ ⟨_,rfl,fun b o z=>?_,?_⟩⟩
    ·rw[List.length_map]
     have:(ts.take i).length≤ts.length:=List.length_take_le' _ _
     omega
    ·rw[ah (af z hD)]
     exact e' _ _ (e _ _ z)
    ·rw[ai,List.take_add_one,ht,List.map_append]
     rfl
   cases t with
   |one k n=>
    have VU:uh k∧1≤n∧n≤999:=by cases d<;>exact Nb
    have hA:fN C H' p ⟨k.toArray⟩ n:=by cases d<;>exact hT
    have et:(⟨(dA d (.one k n)).toArray⟩:Str)=⟨k.toArray⟩++eY n:=by
     rw[dN,bg]
     cases d<;>rfl
    obtain⟨dx,IF⟩:=id hA
    have:=fin H' (aG.refl _)
    rw[et] at this
    exact Or.inl ⟨_,rfl,p,dx,_,rfl,IF,Gw _ _ (by decide+kernel) (by decide+kernel),p,_,n,rfl,hA,GV VU.1,VU.2.1,VU.2.2,this⟩
   |gr us n=>
    cases d with
    |zero=>exact Nb.elim
    |succ d=>
     obtain⟨dx,l',TY,h1,h2,h3⟩:=id hT
     exact Or.inr ⟨_,rfl,p,dx,_,rfl,h1,vt _ _ (by decide+kernel) (by decide+kernel),p,us,n,rfl,hT,Nb,lt,fin⟩
  ·rintro σ H' ⟨v,rfl,e,tF⟩
   rw[List.length_map,lp,List.take_length] at tF
   have es:((ts.map fun t=>(⟨(dA d t).toArray⟩:Str)).map (·.length)).sum=(ts.flatMap (dA d)).length:=by
    rw[List.map_map,List.length_flatMap]
    congr 1
   refine⟨_,D,ts.map (fun t=>⟨(dA d t).toArray⟩),rfl,rfl,bR.of (by rw[tF,List.map_map];rfl),?_,?_⟩
   ·have e0:("" :Str).length=0:=by decide+kernel
    rw[es,e0]
    omega
   ·rw[join_eq,zM]
    exact q _ e
theorem vN:az ["self"] ["self"] (ag jw):=dI
theorem xS(D:bP K G "shown" "Group.shown" jw ["self"]):dw P w K mg base 2 G "shown" ["self"] (mf C G 0):=
 D.fW (k:=1) vN (fun vs H Q E h=>h.elim) (fun f br A outer s H vs Q E hr h=>h.elim)
theorem xT(d:Nat)(D:bP K G "shown" "Group.shown" jw ["self"])(T:sY K mg C R G uK uN uB uE uM)(c1:bI P w K mg base (2*d+3) "parts_shown" ["parts"] (jF C G d))(c2:bI P w K mg base 1 "count_shown" ["count"] l8):dw P w K mg base (2*d+4) G "shown" ["self"] (mf C G (d+1)):=by
 obtain⟨_,_,bY⟩:=c1
 obtain⟨_,_,aU⟩:=c2
 refine D.fW vN (fun vs H Q E h=>?_) (fun f br A outer s H vs Q E hr h=>?_)
 ·obtain⟨g,ts,n,rfl,_⟩:=h
  rfl
 ·obtain⟨g,ts,n,rfl,⟨dx,l,ps,hg,hl,hP⟩,⟨mL,bF,n1,n2⟩,hz,q⟩:=h
  have big:(2000 :Nat)≤sizeLine:=by decide
  have hz:(40::(ts.flatMap (dA d)++41::bG n)).length≤1000:=hz
  rw[List.length_cons,List.length_append,List.length_cons] at hz
  have e1:("(" :Str).length=1:=by decide+kernel
  have e2:(")" :Str).length=1:=by decide+kernel
  have lf:(eY n).length=(bG n).length:=by rw[dN,aK]
  have ee:(⟨(dA (d+1) (.gr ts n)).toArray⟩:Str)="(" ++⟨(ts.flatMap (dA d)).toArray⟩++")" ++eY n:=by
   rw[dN,M7,e41]
   rw[show (⟨#[40]⟩:Str)=⟨[40].toArray⟩ from rfl,show (⟨#[41]⟩:Str)=⟨[41].toArray⟩ from rfl,bg,bg,bg]
   simp [dA]
  rw[ee] at q
  refine⟨_,(ao
     (aH (aB aD (aB aD (aB aD (aP (v:= .str "(") rfl T.eR ⟨_,rfl⟩) (aX bY.ok (hr.mono (by omega)) rfl bY.g bY.kp bY.b .nil aV (aa (bx (pv 0) rfl) ak))) (aP (v:= .str ")") rfl T.mP ⟨_,rfl⟩)) (aX aU.ok (hr.mono (by omega)) rfl aU.g aU.kp aU.b .nil aV (aa (bx (pv 0) rfl) ak))))),?_⟩
  refine⟨_,rfl,g,G,dx,_,_,rfl,hg,T.fv,T.qV,mN _ _,l,ps,ts,rfl,hl,hP,bF,by omega,fun H1 s1=>⟨_,_,rfl,rfl,?_,_,_,rfl,rfl,?_,_,rfl,g,G,dx,_,_,rfl,s1 _ _ hg,T.fv,T.qW,mO _ _,n,rfl,n1,n2,_,_,rfl,rfl,?_,q _ s1⟩⟩
  ·rw[e1,aK]
   omega
  ·rw[bj,e1,e2,aK]
   omega
  ·rw[bj,bj,e1,e2,aK,lf]
   omega
theorem rm(D1:Def K mg "parts_shown" "parts_shown" jy ["parts"])(D2:bP K G "shown" "Group.shown" jw ["self"])(T:sY K mg C R G uK uN uB uE uM)(c1:dw P w K mg base 2 C "shown" ["self"] (sW C))(c2:bI P w K mg base 1 "count_shown" ["count"] l8):∀d:Nat,bI P w K mg base (2*d+3) "parts_shown" ["parts"] (jF C G d)
 |0=>pq 0 D1 T c1 (xS D2)
 |d+1=>pq (d+1) D1 T c1 (by rw[show 2*(d+1)+2=2*d+4 by omega];exact xT d D2 T (rm D1 D2 T c1 c2 d) c2)
variable {uC uP uI uD uL uT:Tok}
def jY(C G Pc:Addr)(d:Nat):Sp:=fun vs H Q _=>∃(q:Addr) (x:iG),vs=[.ref q]∧kg C G Pc d H q x∧K6 d x∧(kh d x).length≤1000∧∀H',aG H H'→Q (.str ⟨(kh d x).toArray⟩) H'
theorem tG:az ["self"] ["self"] (ag gc):=dI
theorem pw(d:Nat)(D:bP K Pc "shown" "Piece.shown" gc ["self"])(T:ql K mg C R G Pc Fo uK uN uB uE uM uC uP uI uD uL uT)(c1:bI P w K mg base (2*d+3) "parts_shown" ["parts"] (jF C G d))(c2:bI P w K mg base 1 "count_shown" ["count"] l8):dw P w K mg base (2*d+4) Pc "shown" ["self"] (jY C G Pc d):=by
 obtain⟨_,_,bY⟩:=c1
 obtain⟨_,_,aU⟩:=c2
 refine D.fW tG (fun vs H Q E h=>?_) (fun f br A outer s H vs Q E hr h=>?_)
 ·obtain⟨p,x,rfl,_⟩:=h
  rfl
 ·obtain⟨p,x,rfl,⟨dx,l,ps,hp,hl,hP⟩,⟨mL,bF,n1,n2⟩,hz,q⟩:=h
  have big:(2000 :Nat)≤sizeLine:=by decide
  have TB:=hz
  unfold kh at TB q
  rw[List.length_append] at TB
  have lf:(eY x.1).length=(bG x.1).length:=by rw[dN,aK]
  rw[←bg,←dN] at q
  refine⟨_,(ao
     (aH (aB aD (aX aU.ok (hr.mono (by omega)) rfl aU.g aU.kp aU.b .nil aV (aa (bx (pv 0) rfl) ak)) (aX bY.ok (hr.mono (by omega)) rfl bY.g bY.kp bY.b .nil aV (aa (bx (pv 0) rfl) ak))))),?_⟩
  refine⟨_,rfl,p,Pc,dx,_,_,rfl,hp,T.dP,T.qZ,mO _ _,x.1,rfl,n1,n2,_,rfl,p,Pc,dx,_,_,rfl,hp,T.dP,T.qY,mN _ _,l,ps,x.2,rfl,hl,hP,bF,by omega,fun H1 e1=>⟨_,_,rfl,rfl,?_,q _ e1⟩⟩
  rw[lf,aK]
  omega
def rn:Sp:=fun vs H Q _=>∃n:Int,vs=[.int n]∧ -999≤n∧n≤999∧Q (.str ⟨(jQ n).toArray⟩) H
theorem Lx{n:Int}(h1: -999≤n)(h2:n≤999):(jQ n).length≤5:=by
 unfold jQ
 split
 ·exact Nat.zero_le _
 ·rename_i h0
  have:=lz (n:=if n<0 then -n else n) (by split<;>omega) (by split<;>omega)
  rw[dN,aK] at this
  rw[List.length_cons,List.length_append]
  simp
  omega
theorem qq:az ["charge"] ["charge"] (ag fk):=dI
theorem mh(D:Def K mg "charge_shown" "charge_shown" fk ["charge"])(T:ql K mg C R G Pc Fo uK uN uB uE uM uC uP uI uD uL uT)(c1:bI P w K mg base 1 "count_shown" ["count"] l8):bI P w K mg base 2 "charge_shown" ["charge"] rn:=by
 obtain⟨_,_,aU⟩:=c1
 refine D.fW qq (fun vs H Q E h=>?_) (fun f br A outer s H vs Q E hr h=>?_)
 ·obtain⟨n,rfl,_⟩:=h
  rfl
 ·obtain⟨n,rfl,h1,h2,q⟩:=h
  have big:(2000 :Nat)≤sizeLine:=by decide
  refine⟨_,(aj
     (bM (bp cI (pv 0) aq (bq _))
      (ao
       (aH aR))
      ba)
    (ao
     (aH (aB aD (aB aD (aP (v:= .str "^") rfl T.gA ⟨_,rfl⟩) (aX aU.ok (hr.mono (by decide)) rfl aU.g aU.kp aU.b .nil aV (aa (bw Cr rfl T.IQ K0 (aa (pv 0) ak)) ak))) (uv (bp qy (pv 0) aq (bq _)) (aP (v:= .str "+") rfl T.Dm ⟨_,rfl⟩) (aP (v:= .str "-") rfl T.tf ⟨_,rfl⟩)))))),?_⟩
  refine⟨_,rfl,rfl,_,rfl,nh (fun e=>?_) fun e=>?_⟩
  ·have e:n=0:=by simpa using e
   subst e
   have e0:(⟨(jQ 0).toArray⟩:Str)="" :=by decide+kernel
   rw[e0] at q
   exact q
  ·have e:¬n=0:=by simpa using e
   have a1:1≤(if n<0 then -n else n):=by split<;>omega
   have a2:(if n<0 then -n else n)≤999:=by split<;>omega
   have z:=lz a1 a2
   have e1:("^" :Str).length=1:=by decide+kernel
   refine⟨_,rfl,n,rfl,_,rfl,a1,a2,_,_,rfl,rfl,by rw[e1];omega,_,rfl,_,_,rfl,rfl,?_⟩
   have ec:(⟨(jQ n).toArray⟩:Str)="^" ++eY (if n<0 then -n else n)++(if 0<n then ("+" :Str) else ("-" :Str)):=by
    unfold jQ
    rw[if_neg e,dN,TC,e43,TF]
    rw[show (⟨#[94]⟩:Str)=⟨[94].toArray⟩ from rfl,bg]
    by_cases hp:0<n
    ·rw[if_pos hp,if_pos hp,show (⟨#[43]⟩:Str)=⟨[43].toArray⟩ from rfl,bg]
     simp
    ·rw[if_neg hp,if_neg hp,show (⟨#[45]⟩:Str)=⟨[45].toArray⟩ from rfl,bg]
     simp
   rw[ec] at q
   refine⟨_,rfl,nh (fun e=>?_) fun e=>?_⟩
   ·have e:0<n:=by simpa using e
    rw[if_pos e] at q
    refine⟨_,_,rfl,rfl,?_,q⟩
    have e2:("+" :Str).length=1:=by decide+kernel
    rw[bj,e1,e2]
    omega
   ·have e:¬0<n:=by simpa using e
    rw[if_neg e] at q
    refine⟨_,_,rfl,rfl,?_,q⟩
    have e2:("-" :Str).length=1:=by decide+kernel
    rw[bj,e1,e2]
    omega
def rp(C G Pc Fo:Addr)(d:Nat):Sp:=fun vs H Q _=>∃(f:Addr) (xs:List iG) (n:Int),vs=[.ref f]∧o6 C G Pc Fo d H f xs n∧Bh d xs n∧(wL d xs n).length≤1000∧∀H',aG H H'→Q (.str ⟨(wL d xs n).toArray⟩) H'
theorem rq(d:Nat):∀(x:iG) (r:List iG),Str.join "." ((x::r).map fun y=>(⟨(kh d y).toArray⟩:Str))=⟨(kh d x++dJ d r).toArray⟩
 |x,[]=>by
  show (⟨(kh d x).toArray⟩:Str)=⟨(kh d x++[]).toArray⟩
  rw[List.append_nil]
 |x,y::r=>by
  show (⟨(kh d x).toArray⟩:Str)++"." ++Str.join "." ((y::r).map fun y=>(⟨(kh d y).toArray⟩:Str))=⟨(kh d x++(46::kh d y++dJ d r)).toArray⟩
  rw[rq d y r,TJ,show (⟨#[46]⟩:Str)=⟨[46].toArray⟩ from rfl,bg,bg]
  simp
theorem kg.same{C G Pc:Addr}{d:Nat}{H H':Hp}{p:Addr}{x:iG}(h:kg C G Pc d H p x)(e:aG H H'):kg C G Pc d H' p x:=
 let ⟨dx,l,ps,h1,h2,h3⟩:=h;⟨dx,l,ps,e _ _ h1,e _ _ h2,b5 (fun _ _ h=>eO.same h e) h3⟩
theorem o6.same{C G Pc Fo:Addr}{d:Nat}{H H':Hp}{p:Addr}{xs:List iG}{n:Int}(h:o6 C G Pc Fo d H p xs n)(e:aG H H'):o6 C G Pc Fo d H' p xs n:=
 let ⟨dx,l,ps,h1,h2,h3⟩:=h;⟨dx,l,ps,e _ _ h1,e _ _ h2,b5 (fun _ _ h=>kg.same h e) h3⟩
theorem DB:az ["self"] ["self"] (ag kQ):=dI
theorem xU(d:Nat)(D:bP K Fo "shown" "Formula.shown" kQ ["self"])(T:ql K mg C R G Pc Fo uK uN uB uE uM uC uP uI uD uL uT)(c1:dw P w K mg base (2*d+4) Pc "shown" ["self"] (jY C G Pc d))(c2:bI P w K mg base 2 "charge_shown" ["charge"] rn):dw P w K mg base (2*d+5) Fo "shown" ["self"] (rp C G Pc Fo d):=by
 obtain⟨_,_,gE⟩:=c1
 obtain⟨_,_,eh⟩:=c2
 refine D.fW DB (fun vs H Q E h=>?_) (fun f br A outer s H vs Q E hr h=>?_)
 ·obtain⟨f,xs,n,rfl,_⟩:=h
  rfl
 ·obtain⟨f,xs,n,rfl,⟨dx,l,ps,hf,hl,hP⟩,bF,hz,q⟩:=h
  have big:(3000 :Nat) <sizeLine:=by decide
  have lp:ps.length=xs.length:=Paired.length hP
  refine⟨_,(aj
     (bM (iX (uy (bx (pv 0) rfl) (fun _=>rfl)))
      (ao
       (aH (aP (v:= .str "e^-") rfl T.kj ⟨_,rfl⟩)))
      ba)
    (ao
     (aH (aB aD (gQ PySem.F.plainAttrs_str PySem.F.slot_str_join PySem.F.type_str_join nG (aP (v:= .str ".") rfl T.jg ⟨_,rfl⟩) (aa (ic (sc:=(ag kQ)) (NX:=["self"]) (N:=["piece"]) (fr:=[none]) ⟨by rfl,by rfl,by decide+kernel,by decide+kernel,by decide+kernel,by rfl,by decide+kernel⟩ rfl rfl rfl (kB (bx (pv 0) rfl)) (fun _ _ _ _=>(cK (i:=0) (show (["piece"]:List Str).Nodup by decide+kernel) rfl (Or.inl rfl) (Or.inr rfl))) (fun _ _ _ _=>f6) (fun _ _ _ _=>(bT (pv 0) T.dP gE.m gE.ok (hr.mono (by omega)) gE.b .nil aV))) ak)) (aX eh.ok (hr.mono (by omega)) rfl eh.g eh.kp eh.b .nil aV (aa (bx (pv 0) rfl) ak)))))),?_⟩
  refine⟨_,rfl,f,Fo,dx,_,_,rfl,hf,T.bV,T.ki,lH _ _,_, .inl ⟨_,bR.of hl,rfl⟩,?_⟩
  cases xs with
  |nil=>
   have hp:ps=[]:=List.length_eq_zero_iff.mp lp
   subst hp
   refine eG ?_
   have e0:(⟨(wL d [] n).toArray⟩:Str)="e^-" :=by rw[eE];rfl
   rw[e0] at q
   exact q _ (aG.refl _)
  |cons x0 r0=>
   obtain⟨h01,VV,n1,n2⟩:=bF
   have hpe:(!(ps.map V.ref).isEmpty)=true:=by
    cases ps with
    |nil=>simp at lp
    |cons _ _=>rfl
   rw[hpe]
   refine dm ?_
   have zc:=Lx n1 n2
   have ez:wL d (x0::r0) n=(kh d x0++dJ d r0)++jQ n:=by
    show x0.2.flatMap (dA d)++(dJ d r0++jQ n)=_
    unfold kh
    rw[h01,show bG 1=[] from rfl,List.nil_append,List.append_assoc]
   rw[ez,List.length_append,List.length_append] at hz
   have hr0:=zI d r0
   have each:∀y∈x0::r0,(kh d y).length≤1000:=fun y hy=>by
    rcases List.mem_cons.mp hy with rfl|hy
    ·omega
    ·obtain⟨a,b,rfl⟩:=List.append_of_mem hy
     have:(dJ d (a++y::b)).length=(dJ d a).length+(46::kh d y++dJ d b).length:=by
      unfold dJ
      rw[List.flatMap_append,List.length_append,List.flatMap_cons]
     rw[this,List.length_append,List.length_cons] at hz
     omega
   refine⟨rfl,_,rfl,f,Fo,dx,_,_,rfl,hf,T.bV,T.ki,lH _ _,l,rfl,⟨_,bR.of hl⟩,fun D hD=>l6 (K:=K) (a:=l) (D:=D) (xs:=ps.map V.ref) (fun i σ H'=>∃v:Option V,σ=[v]∧aG H H'∧H' D=some (.lst (((x0::r0).take i).map fun x=>V.str ⟨(kh d x).toArray⟩)))
    ?_ (fun i σ H' _ ⟨_,_,e,_⟩=>bR.of (e _ _ hl)) ?_ ?_⟩
   ·exact⟨none,rfl,aG.new hD,ai⟩
   ·rintro i v σ H' hi ⟨v',rfl,e,tF⟩ N hN
    rw[List.getElem?_map] at hi
    obtain⟨p,hp,rfl⟩:∃p,ps[i]? =some p∧v=V.ref p:=by
     cases hh:ps[i]? with
     |none=>rw[hh] at hi;cases hi
     |some p=>rw[hh] at hi;exact⟨p,rfl,(Option.some.inj hi).symm⟩
    obtain⟨y,hy,hY⟩:=iw hP hp
    have hY:=hY.same e
    obtain⟨dv,l',TY,h1,h2⟩:=id hY
    have my:=List.mem_of_getElem? hy
    refine⟨_,rfl,p,dv,_,rfl,h1,vt _ _ (by decide+kernel) (by decide+kernel),p,y,rfl,hY,VV y my,each y my,fun bQ e'=>⟨_,e' _ _ tF,?_,hN _ _ ⟨_,rfl,fun b o z=>?_,?_⟩⟩⟩
    ·rw[List.length_map]
     have:((x0::r0).take i).length≤(x0::r0).length:=List.length_take_le' _ _
     rw[List.length_cons] at this
     omega
    ·rw[ah (af z hD)]
     exact e' _ _ (e _ _ z)
    ·rw[ai,List.take_add_one,hy,List.map_append]
     rfl
   ·rintro σ H' ⟨v,rfl,e,tF⟩
    rw[List.length_map,lp,List.take_length] at tF
    have ej:Txt.join "." ((x0::r0).map fun y=>(⟨(kh d y).toArray⟩:Str))=⟨(kh d x0++dJ d r0).toArray⟩:=by
     have:=PyProof.Rows.join_closes (sep:=".") (sep':=".") (ys:=(x0::r0).map fun y=>(⟨(kh d y).toArray⟩:Str)) rfl
     rw[←rq]
     simpa using this
    have es:(((x0::r0).map fun y=>(⟨(kh d y).toArray⟩:Str)).map (·.length)).sum≤(kh d x0).length+(dJ d r0).length:=by
     rw[List.map_map,List.map_cons,List.sum_cons]
     have:∀r:List iG,(r.map ((·.length)∘fun y=>(⟨(kh d y).toArray⟩:Str))).sum≤(dJ d r).length:=fun r=>by
      induction r with
      |nil=>exact Nat.le_refl _
      |cons y r ih=>
       show (⟨(kh d y).toArray⟩:Str).length+(r.map ((·.length)∘fun y=>(⟨(kh d y).toArray⟩:Str))).sum≤(46::kh d y++dJ d r).length
       rw[aK,List.length_append,List.length_cons]
       omega
     have h2:=this r0
     show (⟨(kh d x0).toArray⟩:Str).length+_≤_
     rw[aK]
     omega
    refine⟨_,D,(x0::r0).map (fun y=>⟨(kh d y).toArray⟩),rfl,rfl,bR.of (by rw[tF,List.map_map];rfl),?_,?_⟩
    ·have e0:("." :Str).length=1:=by decide+kernel
     rw[e0,List.length_map,List.length_cons]
     omega
    ·rw[ej]
     refine⟨_,rfl,f,Fo,dx,_,_,rfl,e _ _ hf,T.bV,T.o7,tj _ _,n,rfl,n1,n2,_,_,rfl,rfl,?_,?_⟩
     ·rw[aK,aK,List.length_append]
      omega
     ·rw[bg,←ez]
      exact q _ e
theorem tH:az ["count"] ["count"] (ag gf):=dI
theorem px(D:Def K mg "count_shown" "count_shown" gf ["count"])(T:vv K mg C):bI P w K mg base 1 "count_shown" ["count"] l8:=by
 refine D.fW tH (fun vs H Q E h=>?_) (fun f br A outer s H vs Q E hr h=>?_)
 ·obtain⟨n,rfl,_⟩:=h
  rfl
 ·obtain⟨n,rfl,h1,h2,k⟩:=h
  refine⟨_,(aj
     (bM (bp cI (pv 0) aq (bq _))
      (ao
       (aH aR))
      ba)
    (ao
     (aH (dW kE rfl T.zE xx (aa (pv 0) ak))))),?_⟩
  refine⟨_,rfl,rfl,_,rfl,nh (fun e=>?_) fun e=>?_⟩
  ·have e:n=1:=by simpa using e
   subst e
   exact k
  ·have e:¬n=1:=by simpa using e
   refine⟨_,rfl,_,rfl,AQ (by omega) (by omega),?_⟩
   unfold eY at k
   rw[if_neg e] at k
   exact k
theorem Ly:az ["self","kind","count"] ["self","kind","count"] (ag gU):=dI
theorem GW(D:i5 K C "Atom.__init__" gU ["self","kind","count"] [1])(T:vv K mg C):eU P w K mg base 1 C ["self","kind","count"] [1] (C9 C):=by
 refine D.fW Ly (fun vs H Q E h=>?_) (fun f br A outer s H vs Q E hr h=>?_)
 ·obtain⟨p,dx,k,n,rfl,_⟩:=h
  rfl
 ·obtain⟨p,dx,k,n,rfl,hp,q⟩:=h
  refine⟨_,(aj
     (dz (pv 0) (pv 1) rfl)
    (ao
     (dz (pv 0) (pv 2) rfl))),?_⟩
  refine⟨_,rfl,_,rfl,p,C,dx,[],rfl,hp,T.ip,T.zD,(by show 0<1000;decide),_,rfl,_,rfl,p,C,dx,_,rfl,ai,T.ip,T.vw,(by show 1<1000;decide),?_⟩
  refine q _ ai fun b o e hb=>?_
  rw[ah hb,ah hb]
  exact e
theorem GX:az ["self"] ["self"] (ag sN):=dI
theorem DC(D:bP K C "shown" "Atom.shown" sN ["self"])(T:vv K mg C)(c1:bI P w K mg base 1 "count_shown" ["count"] l8):dw P w K mg base 2 C "shown" ["self"] (sW C):=by
 obtain⟨_,_,aU⟩:=c1
 refine D.fW GX (fun vs H Q E h=>?_) (fun f br A outer s H vs Q E hr h=>?_)
 ·obtain⟨p,k,n,rfl,_⟩:=h
  rfl
 ·obtain⟨p,k,n,rfl,⟨dx,hp⟩,hk,h1,h2,q⟩:=h
  refine⟨_,(ao
     (aH (aB aD (bx (pv 0) rfl) (aX aU.ok (hr.mono (by decide)) rfl aU.g aU.kp aU.b .nil aV (aa (bx (pv 0) rfl) ak))))),?_⟩
  refine⟨_,rfl,p,C,dx,_,_,rfl,hp,T.ip,T.zD,Be _ _,_,rfl,p,C,dx,_,_,rfl,hp,T.ip,T.vw,xG _ _,n,rfl,h1,h2,_,_,rfl,rfl,?_,q⟩
  have:=lz h1 h2
  have:(100 :Nat)≤sizeLine:=by decide
  omega
abbrev great:Str:="ABCDEFGHIJKLMNOPQRSTUVWXYZ"
abbrev small:Str:="abcdefghijklmnopqrstuvwxyz"
theorem Bt:great.cps.toList.length=26:=by decide+kernel
theorem rB:small.cps.toList.length=26:=by decide+kernel
theorem Bu:great.cps.toList.all je=true:=by decide+kernel
theorem rC:small.cps.toList.all fe=true:=by decide+kernel
variable {uC uP uI uD uL uT:Tok}
theorem GY:az ["self","parts","count"] ["self","parts","count"] (ag eL):=dI
theorem DD(D:i5 K G "Group.__init__" eL ["self","parts","count"] [1])(T:ql K mg C R G Pc Fo uK uN uB uE uM uC uP uI uD uL uT):eU P w K mg base 1 G ["self","parts","count"] [1] (lG G):=by
 refine D.fW GY (fun vs H Q E h=>?_) (fun f br A outer s H vs Q E hr h=>?_)
 ·obtain⟨p,dx,l,c,xs,rfl,_⟩:=h
  rfl
 ·obtain⟨p,dx,l,c,xs,rfl,hp,hl,q⟩:=h
  refine⟨_,(aj
     (dz (pv 0) (dW d7 rfl T.n_list kJ (aa (pv 1) ak)) rfl)
    (ao
     (dz (pv 0) (pv 2) rfl))),?_⟩
  refine⟨_,rfl,l,xs,rfl, .inl (bR.of hl),fun n hn=>?_⟩
  have wY:p≠n:=af hp hn
  refine⟨_,rfl,p,G,dx,[],rfl,(by rw[ah wY];exact hp),T.fv,T.qV,(by show 0<1000;decide),_,rfl,_,rfl,p,G,dx,_,rfl,ai,T.fv,T.qW,(by show 1<1000;decide),?_⟩
  refine q n _ hn ai (by rw[ah (Ne.symm wY),ah (Ne.symm wY),ai]) fun b o e hb=>?_
  rw[ah hb,ah hb,ah (af e hn)]
  exact e
theorem GZ:az ["self","parts","count"] ["self","parts","count"] (ag eM):=dI
theorem DE(D:i5 K Pc "Piece.__init__" eM ["self","parts","count"] [1])(T:ql K mg C R G Pc Fo uK uN uB uE uM uC uP uI uD uL uT):eU P w K mg base 1 Pc ["self","parts","count"] [1] (lG Pc):=by
 refine D.fW GZ (fun vs H Q E h=>?_) (fun f br A outer s H vs Q E hr h=>?_)
 ·obtain⟨p,dx,l,c,xs,rfl,_⟩:=h
  rfl
 ·obtain⟨p,dx,l,c,xs,rfl,hp,hl,q⟩:=h
  refine⟨_,(aj
     (dz (pv 0) (dW d7 rfl T.n_list kJ (aa (pv 1) ak)) rfl)
    (ao
     (dz (pv 0) (pv 2) rfl))),?_⟩
  refine⟨_,rfl,l,xs,rfl, .inl (bR.of hl),fun n hn=>?_⟩
  have wY:p≠n:=af hp hn
  refine⟨_,rfl,p,Pc,dx,[],rfl,(by rw[ah wY];exact hp),T.dP,T.qY,(by show 0<1000;decide),_,rfl,_,rfl,p,Pc,dx,_,rfl,ai,T.dP,T.qZ,(by show 1<1000;decide),?_⟩
  refine q n _ hn ai (by rw[ah (Ne.symm wY),ah (Ne.symm wY),ai]) fun b o e hb=>?_
  rw[ah hb,ah hb,ah (af e hn)]
  exact e
theorem G0:az ["self","pieces","charge"] ["self","pieces","charge"] (ag eN):=dI
theorem DF(D:i5 K Fo "Formula.__init__" eN ["self","pieces","charge"] [0])(T:ql K mg C R G Pc Fo uK uN uB uE uM uC uP uI uD uL uT):eU P w K mg base 1 Fo ["self","pieces","charge"] [0] (tq Fo):=by
 refine D.fW G0 (fun vs H Q E h=>?_) (fun f br A outer s H vs Q E hr h=>?_)
 ·obtain⟨p,dx,l,c,xs,rfl,_⟩:=h
  rfl
 ·obtain⟨p,dx,l,c,xs,rfl,hp,hl,q⟩:=h
  refine⟨_,(aj
     (dz (pv 0) (dW d7 rfl T.n_list kJ (aa (pv 1) ak)) rfl)
    (ao
     (dz (pv 0) (pv 2) rfl))),?_⟩
  refine⟨_,rfl,l,xs,rfl, .inl (bR.of hl),fun n hn=>?_⟩
  have wY:p≠n:=af hp hn
  refine⟨_,rfl,p,Fo,dx,[],rfl,(by rw[ah wY];exact hp),T.bV,T.ki,(by show 0<1000;decide),_,rfl,_,rfl,p,Fo,dx,_,rfl,ai,T.bV,T.o7,(by show 1<1000;decide),?_⟩
  refine q n _ hn ai (by rw[ah (Ne.symm wY),ah (Ne.symm wY),ai]) fun b o e hb=>?_
  rw[ah hb,ah hb,ah (af e hn)]
  exact e
structure VW(K:PySem.W.Frag)(mg:Str→Option Value)(C:Addr):Prop extends vv K mg C where
 VX:mg "dict" =none
 IQ:mg "abs" =none
theorem none_back{H H':Hp}{D:Addr}(e:aG H H')(h:H' D=none):H D=none:=by
 cases hh:H D with
 |none=>rfl
 |some o=>rw[e _ _ hh] at h;cases h
theorem take_snoc{α:Type}{l:List α}{i:Nat}{a:α}(h:l[i]? =some a):l.take (i+1)=l.take i++[a]:=by
 rw[List.take_add_one,h]
 rfl
abbrev Fm:=List iG×Int
abbrev Tm:=Int×Fm
variable {uC uP uI uD uL uT:Tok}
theorem zN{n:Int}(h0:0≤n)(h:n<10^50):(toString n:Str).length≤50:=by
 rw[PySem.ofString_length]
 obtain⟨m,rfl⟩:=Int.eq_ofNat_of_zero_le h0
 show (Nat.repr m).length≤50
 rw[Nat.length_repr_le_iff (by decide)]
 omega
theorem G1{n:Int}(h0:0≤n)(h:n<10^50):n.natAbs.log2<1920:=by
 by_cases e:n.natAbs=0
 ·rw[e];decide
 ·have:=(Nat.log2_lt e (k:=170)).mpr (by omega)
  omega
variable {uC uP uI uD uL uT p8 p9 qa:Tok}{Ch:Addr}
structure DG(K:PySem.W.Frag)(mg:Str→Option Value)(C R G Pc Fo Ch:Addr)(uK uN uB uE uM uC uP uI uD uL uT p8 p9 qa:Tok):Prop extends ql K mg C R G Pc Fo uK uN uB uE uM uC uP uI uD uL uT,VW K mg C where
 cU:qf K Ch
 pz:cu K Ch "lefts"
 mi:cu K Ch "rights"
 DH:mg "Change" =some (.ref Ch)
 zO:mg "BLANK" =some (.str " " p8)
 tI:mg "JOINT" =some (.str " + " p9)
 tJ:mg "ARROW" =some (.str " -> " qa)
def IV(x:Fm):List Nat:=wL 4 x.1 x.2
def qr(x:Tm):Prop:=1≤x.1∧x.1≤10^40∧Bh 4 x.2.1 x.2.2∧(wL 4 x.2.1 x.2.2).length≤400
def nY(x:Tm):Str:=if x.1=1 then ⟨(IV x.2).toArray⟩ else (toString x.1 :Str)++" " ++⟨(IV x.2).toArray⟩
def Lz(xs:List Tm):Str:=Txt.join " + " (xs.map nY)
theorem zP{x:Tm}(h:qr x):(nY x).length≤500:=by
 obtain⟨h1,h2,_,h3⟩:=h
 unfold nY
 split
 ·rw[aK]
  exact Nat.le_trans h3 (by decide)
 ·have:=zN (n:=x.1) (by omega) (by omega)
  have l1:(" " :Str).length=1:=by decide+kernel
  rw[bj,bj,aK,l1]
  exact Nat.le_trans (Nat.add_le_add (Nat.add_le_add_right this 1) h3) (by decide)
def mS(C G Pc Fo:Addr):Sp:=fun vs H Q _=>∃(f:Addr) (x:Tm),vs=[.int x.1, .ref f]∧o6 C G Pc Fo 4 H f x.2.1 x.2.2∧qr x∧∀H',aG H H'→Q (.str (nY x)) H'
theorem vO:az ["count","formula"] ["count","formula"] (ag ik):=dI
theorem tK(D:Def K mg "term_shown" "term_shown" ik ["count","formula"])(T:DG K mg C R G Pc Fo Ch uK uN uB uE uM uC uP uI uD uL uT p8 p9 qa)(c1:dw P w K mg base 13 Fo "shown" ["self"] (rp C G Pc Fo 4)):bI P w K mg base 14 "term_shown" ["count","formula"] (mS C G Pc Fo):=by
 obtain⟨_,_,cw⟩:=c1
 refine D.fW vO (fun vs H Q E h=>?_) (fun f br A outer s H vs Q E hr h=>?_)
 ·obtain⟨f,x,rfl,_⟩:=h
  rfl
 ·obtain⟨f',x,rfl,hF,⟨h1,h2,okw,hz⟩,q⟩:=h
  obtain⟨dx,l,ps,hf,_⟩:=id hF
  have zl:(wL 4 x.2.1 x.2.2).length≤1000:=Nat.le_trans hz (by decide)
  refine⟨_,(aj
     (bM (bp cI (pv 0) aq (bq _))
      (ao
       (aH (bT (pv 1) T.bV cw.m cw.ok (hr.mono (by decide)) cw.b .nil aV)))
      ba)
    (ao
     (aH (aB aD (aB aD (dW kE rfl T.zE xx (aa (pv 0) ak)) (aP (v:= .str " ") rfl T.zO ⟨_,rfl⟩)) (bT (pv 1) T.bV cw.m cw.ok (hr.mono (by decide)) cw.b .nil aV))))),?_⟩
  refine⟨_,rfl,rfl,_,rfl,nh (fun e=>?_) fun e=>?_⟩
  ·have e:x.1=1:=by simpa using e
   have et:nY x=⟨(IV x.2).toArray⟩:=if_pos e
   rw[et] at q
   exact⟨_,rfl,f',dx,_,rfl,hf,vA _ _ (by decide+kernel) (by decide+kernel),f',_,_,rfl,hF,okw,zl,q⟩
  ·have e:¬x.1=1:=by simpa using e
   have et:nY x=(toString x.1 :Str)++" " ++⟨(IV x.2).toArray⟩:=if_neg e
   rw[et] at q
   have l1:(" " :Str).length=1:=by decide+kernel
   have zi:=zN (n:=x.1) (by omega) (by omega)
   refine⟨_,rfl,x.1,rfl,G1 (by omega) (by omega),_,_,rfl,rfl,?_,_,rfl,f',dx,_,rfl,hf,vA _ _ (by decide+kernel) (by decide+kernel),f',_,_,rfl,hF,okw,zl,fun H' e'=>⟨_,_,rfl,rfl,?_,q _ e'⟩⟩
   ·rw[l1]
    exact Nat.le_trans (Nat.add_le_add_right zi 1) (by decide)
   ·rw[bj,l1,aK]
    exact Nat.le_trans (Nat.add_le_add (Nat.add_le_add_right zi 1) hz) (by decide)
def iy(C G Pc Fo:Addr)(H:Hp)(t:Addr)(x:Tm):Prop:=∃f,H t=some (.tup [.int x.1, .ref f])∧o6 C G Pc Fo 4 H f x.2.1 x.2.2
def gX(C G Pc Fo:Addr)(H:Hp)(l:Addr)(xs:List Tm):Prop:=∃ts,H l=some (.lst (ts.map V.ref))∧Paired (iy C G Pc Fo H) ts xs
theorem iy.same{C G Pc Fo:Addr}{H H':Hp}{t:Addr}{x:Tm}(h:iy C G Pc Fo H t x)(e:aG H H'):iy C G Pc Fo H' t x:=let ⟨f,h1,h2⟩:=h;⟨f,e _ _ h1,h2.same e⟩
theorem gX.same{C G Pc Fo:Addr}{H H':Hp}{l:Addr}{xs:List Tm}(h:gX C G Pc Fo H l xs)(e:aG H H'):gX C G Pc Fo H' l xs:=let ⟨ts,h1,h2⟩:=h;⟨ts,e _ _ h1,b5 (fun _ _ z=>z.same e) h2⟩
def mT(C G Pc Fo:Addr):Sp:=fun vs H Q _=>∃(l:Addr) (xs:List Tm),vs=[.ref l]∧gX C G Pc Fo H l xs∧(∀x∈xs,qr x)∧xs.length≤10∧∀H',aG H H'→Q (.str (Lz xs)) H'
theorem vP:az ["terms"] ["terms"] (ag fM):=dI
theorem G2{xs:List Tm}(bF:∀x∈xs,qr x)(Nc:xs.length≤10):((xs.map nY).map (·.length)).sum+(xs.map nY).length*(" + " :Str).length≤16777216:=by
 have l3:(" + " :Str).length=3:=by decide+kernel
 have z:=zC (ys:=xs.map nY) (b:=500) fun y hy=>by
  obtain⟨x,hx,rfl⟩:=List.mem_map.mp hy
  exact zP (bF x hx)
 rw[List.length_map] at z ⊢
 rw[l3]
 omega
theorem tL(D:Def K mg "side_shown" "side_shown" fM ["terms"])(T:DG K mg C R G Pc Fo Ch uK uN uB uE uM uC uP uI uD uL uT p8 p9 qa)(c1:bI P w K mg base 14 "term_shown" ["count","formula"] (mS C G Pc Fo)):bI P w K mg base 15 "side_shown" ["terms"] (mT C G Pc Fo):=by
 obtain⟨_,_,fx⟩:=c1
 refine D.fW vP (fun vs H Q E h=>?_) (fun f br A outer s H vs Q E hr h=>?_)
 ·obtain⟨l,xs,rfl,_⟩:=h
  rfl
 ·obtain⟨l,xs,rfl,⟨ts,hl,hP⟩,bF,Nc,q⟩:=h
  have big:(2000 :Nat) <sizeLine:=by decide
  have kr:=Paired.length hP
  refine⟨_,(ao
     (aH (gQ PySem.F.plainAttrs_str PySem.F.slot_str_join PySem.F.type_str_join nG (aP (v:= .str " + ") rfl T.tI ⟨_,rfl⟩) (aa (ic (sc:=(ag fM)) (NX:=["terms"]) (N:=["count","formula"]) (fr:=[none,none]) ⟨by rfl,by rfl,by decide+kernel,by decide+kernel,by decide+kernel,by rfl,by decide+kernel⟩ rfl rfl rfl (kB (pv 0)) (fun _ _ _ _=>(zb K 2 rfl rfl (kA (cK (i:=0) (show (["count","formula"]:List Str).Nodup by decide+kernel) rfl (Or.inl rfl) (Or.inr rfl)) (kA (cK (i:=1) (show (["count","formula"]:List Str).Nodup by decide+kernel) rfl (Or.inl rfl) (Or.inr rfl)) yP)))) (fun _ _ _ _=>f6) (fun _ _ _ _=>(aX fx.ok (hr.mono (by decide)) rfl fx.g fx.kp fx.b .nil aV (aa (pv 0) (aa (pv 1) ak))))) ak)))),?_⟩
  refine⟨rfl,_,rfl,l,rfl,⟨_,bR.of hl⟩,fun D1 G3=>l6 (K:=K) (a:=l) (D:=D1) (xs:=ts.map V.ref) (fun i σ H'=>∃v u:Option V,σ=[v,u]∧aG H H'∧H' D1=some (.lst ((xs.take i).map fun x=>V.str (nY x))))
   ?_ (fun i σ H' _ ⟨_,_,_,e,_⟩=>bR.of (e _ _ hl)) ?_ ?_⟩
  ·exact⟨none,none,rfl,aG.new G3,ai⟩
  ·rintro i v σ H' hi ⟨v',u',rfl,e,tF⟩ N hN
   rw[List.getElem?_map] at hi
   obtain⟨t,ht,rfl⟩:∃p,ts[i]? =some p∧v=V.ref p:=by
    cases hh:ts[i]? with
    |none=>rw[hh] at hi;cases hi
    |some p=>rw[hh] at hi;exact⟨p,rfl,(Option.some.inj hi).symm⟩
   obtain⟨y,hy,fo,h1,h2⟩:=iw hP ht
   have Oo:i<xs.length:=(List.getElem?_eq_some_iff.mp hy).1
   refine⟨t,_,rfl,ku.of (e _ _ h1),rfl,_,_,rfl,_,_,rfl,rfl,?_⟩
   refine⟨_,rfl,_,rfl,fo,y,rfl,h2.same e,bF y (List.mem_of_getElem? hy),fun bQ e'=>?_⟩
   refine⟨_,e' _ _ tF,?_,hN _ _ ⟨_,_,rfl,fun b o z=>?_,?_⟩⟩
   ·rw[List.length_map,List.length_take]
    omega
   ·rw[ah (af z G3)]
    exact e' _ _ (e _ _ z)
   ·rw[ai,take_snoc hy,List.map_append]
    rfl
  ·rintro σ H' ⟨v',u',rfl,e,tF⟩
   rw[List.length_map,kr,List.take_length] at tF
   exact⟨_,D1,xs.map nY,rfl,rfl,bR.of (by rw[tF,List.map_map];rfl),G2 bF Nc,q _ e⟩
theorem TQ:¬(("lefts" :Str)="rights"):=by decide+kernel
def mU(l r:Addr):List (Str×V):=cW "rights" (.ref r) (cW "lefts" (.ref l) [])
theorem mV(l r:Addr):(mU l r).lookup ("lefts" :Str)=some (.ref l):=by
 unfold mU
 rw[aJ,if_neg TQ,aJ,if_pos rfl]
theorem lL(l r:Addr):(mU l r).lookup ("rights" :Str)=some (.ref r):=by
 unfold mU
 rw[aJ,if_pos rfl]
theorem DI(l r:Addr){m:Str}(h1:¬m="rights")(h2:¬m="lefts"):(mU l r).lookup m=none:=by
 unfold mU
 rw[aJ,if_neg h1,aJ,if_neg h2]
 all_goals rfl
def zQ(Ch:Addr):Sp:=fun vs H Q _=>∃(p dx l r:Addr) (xs ys:List V),vs=[.ref p, .ref l, .ref r]∧H p=some (.ins Ch dx [])∧H l=some (.lst xs)∧H r=some (.lst ys)∧
 ∀n m H',H n=none→H m=none→n≠m→H' p=some (.ins Ch dx (mU n m))→H' n=some (.lst xs)→H' m=some (.lst ys)→(∀b o,H b=some o→b≠p→H' b=some o)→Q .cJ H'
theorem G4:az ["self","lefts","rights"] ["self","lefts","rights"] (ag sQ):=dI
theorem DJ(D:i5 K Ch "Change.__init__" sQ ["self","lefts","rights"] [])(T:DG K mg C R G Pc Fo Ch uK uN uB uE uM uC uP uI uD uL uT p8 p9 qa):eU P w K mg base 1 Ch ["self","lefts","rights"] [] (zQ Ch):=by
 refine D.fW G4 (fun vs H Q E h=>?_) (fun f br A outer s H vs Q E hr h=>?_)
 ·obtain⟨p,dx,l,r,xs,ys,rfl,_⟩:=h
  rfl
 ·obtain⟨p,dx,l,r,xs,ys,rfl,hp,hl,OX,q⟩:=h
  refine⟨_,(aj
     (dz (pv 0) (dW d7 rfl T.n_list kJ (aa (pv 1) ak)) rfl)
    (ao
     (dz (pv 0) (dW d7 rfl T.n_list kJ (aa (pv 2) ak)) rfl))),?_⟩
  refine⟨_,rfl,l,xs,rfl, .inl (bR.of hl),fun n hn=>?_⟩
  have wY:p≠n:=af hp hn
  have npr:r≠p:=Ik OX hp (by intro z;cases z)
  refine⟨_,rfl,p,Ch,dx,[],rfl,(by rw[ah wY];exact hp),T.cU,T.pz,(by show 0<1000;decide),?_⟩
  refine⟨_,rfl,r,ys,rfl, .inl (bR.of (by rw[ah npr,ah (af OX hn)];exact OX)),fun m hm=>?_⟩
  have VY:p≠m:=af ai hm
  have VZ:n≠m:=fun z=>by rw[←z,ah (Ne.symm wY),ai] at hm;cases hm
  have V0:H m=none:=by rwa [ah (Ne.symm VY),ah (Ne.symm VZ)] at hm
  refine⟨_,rfl,p,Ch,dx,_,rfl,(by rw[ah VY];exact ai),T.cU,T.mi,(by show 1<1000;decide),?_⟩
  refine q n m _ hn V0 VZ ai ?_ ?_ fun b o e hb=>?_
  ·rw[ah (Ne.symm wY),ah VZ,ah (Ne.symm wY),ai]
  ·rw[ah (Ne.symm VY),ai]
  ·rw[ah hb,ah (af e V0),ah hb,ah (af e hn)]
   exact e
def fR(C G Pc Fo Ch:Addr)(H:Hp)(c:Addr)(xs ys:List Tm):Prop:=∃dx l r,H c=some (.ins Ch dx (mU l r))∧gX C G Pc Fo H l xs∧gX C G Pc Fo H r ys
theorem fR.same{C G Pc Fo Ch:Addr}{H H':Hp}{c:Addr}{xs ys:List Tm}(h:fR C G Pc Fo Ch H c xs ys)(e:aG H H'):fR C G Pc Fo Ch H' c xs ys:=let ⟨dx,l,r,h1,h2,h3⟩:=h;⟨dx,l,r,e _ _ h1,h2.same e,h3.same e⟩
def OY(xs ys:List Tm):Prop:=(∀x∈xs,qr x)∧(∀y∈ys,qr y)∧xs.length≤10∧ys.length≤10
def G5(xs ys:List Tm):Str:=Lz xs++" -> " ++Lz ys
def vQ(C G Pc Fo Ch:Addr):Sp:=fun vs H Q _=>∃(c:Addr) (xs ys:List Tm),vs=[.ref c]∧fR C G Pc Fo Ch H c xs ys∧OY xs ys∧∀H',aG H H'→Q (.str (G5 xs ys)) H'
theorem rD{xs:List Tm}(bF:∀x∈xs,qr x)(Nc:xs.length≤10):(Lz xs).length≤6000:=by
 unfold Lz
 have e:=PyProof.Rows.join_closes (sep:=" + ") (sep':=" + ") (ys:=xs.map nY) rfl
 rw[show Txt.join " + " (xs.map nY)=Str.join " + " (xs.map nY) by simpa using e]
 have l3:(" + " :Str).length=3:=by decide+kernel
 have key:∀ys:List Str,(∀y∈ys,y.length≤500)→(Str.join " + " ys).length≤503*ys.length:=by
  intro ys
  induction ys with
  |nil=>intro _;exact Nat.zero_le _
  |cons y r ih=>
   intro h
   have h1:=h y (List.mem_cons_self ..)
   have h2:=ih fun z hz=>h z (List.mem_cons_of_mem _ hz)
   cases r with
   |nil=>
    show y.length≤503*1
    omega
   |cons z r'=>
    show (y++" + " ++Str.join " + " (z::r')).length≤_
    rw[bj,bj,l3,List.length_cons]
    omega
 have:=key (xs.map nY) fun y hy=>by
  obtain⟨x,hx,rfl⟩:=List.mem_map.mp hy
  exact zP (bF x hx)
 rw[List.length_map] at this
 omega
theorem DK:az ["self"] ["self"] (ag nN):=dI
theorem Bv(D:bP K Ch "shown" "Change.shown" nN ["self"])(T:DG K mg C R G Pc Fo Ch uK uN uB uE uM uC uP uI uD uL uT p8 p9 qa)(c1:bI P w K mg base 15 "side_shown" ["terms"] (mT C G Pc Fo)):dw P w K mg base 16 Ch "shown" ["self"] (vQ C G Pc Fo Ch):=by
 obtain⟨_,_,cz⟩:=c1
 refine D.fW DK (fun vs H Q E h=>?_) (fun f br A outer s H vs Q E hr h=>?_)
 ·obtain⟨c,xs,ys,rfl,_⟩:=h
  rfl
 ·obtain⟨c,xs,ys,rfl,⟨dx,l,r,hc,hl,OX⟩,⟨ok1,ok2,n1,n2⟩,q⟩:=h
  have la:(" -> " :Str).length=4:=by decide+kernel
  have big:(20000 :Nat)≤sizeLine:=by decide
  have z1:=rD ok1 n1
  have z2:=rD ok2 n2
  refine⟨_,(ao
     (aH (aB aD (aB aD (aX cz.ok (hr.mono (by decide)) rfl cz.g cz.kp cz.b .nil aV (aa (bx (pv 0) rfl) ak)) (aP (v:= .str " -> ") rfl T.tJ ⟨_,rfl⟩)) (aX cz.ok (hr.mono (by decide)) rfl cz.g cz.kp cz.b .nil aV (aa (bx (pv 0) rfl) ak))))),?_⟩
  refine⟨_,rfl,c,Ch,dx,_,_,rfl,hc,T.cU,T.pz,mV _ _,l,xs,rfl,hl,ok1,n1,fun H1 e1=>⟨_,_,rfl,rfl,by rw[la];omega,?_⟩⟩
  refine⟨_,rfl,c,Ch,dx,_,_,rfl,e1 _ _ hc,T.cU,T.mi,lL _ _,r,ys,rfl,OX.same e1,ok2,n2,fun H2 e2=>⟨_,_,rfl,rfl,by rw[bj,la];omega,q _ (e1.trans e2)⟩⟩
variable {uC uP uI uD uL uT:Tok}
def du(l:List Nat):Prop:=∀c∈l,c<128
theorem du.app{a b:List Nat}(ha:du a)(hb:du b):du (a++b):=fun c hc=>(List.mem_append.mp hc).elim (ha c) (hb c)
theorem du.str{x:Str}(h:du x.cps.toList):x.cps.all (· <128)=true:=by
 rw[Array.all_eq_true]
 intro i hi
 have:=h x.cps[i] (by rw[Array.mem_toList_iff];exact Array.getElem_mem hi)
 simpa using this
theorem nZ{n:Int}(h1:1≤n)(h2:n≤999):du (bG n):=fun c hc=>by
 obtain⟨m,rfl,m1,m0⟩:=oX h1 (by omega)
 have:=List.all_eq_true.mp (fu m) c hc
 simp only [cR,Bool.and_eq_true,decide_eq_true_eq] at this
 omega
theorem G6{k:List Nat}(h:uh k):du k:=by
 obtain⟨c,r,rfl,hg,hs,_⟩:=h
 intro b hb
 rcases List.mem_cons.mp hb with rfl|hb
 ·simp only [je,Bool.and_eq_true,decide_eq_true_eq] at hg
  omega
 ·have:=List.all_eq_true.mp hs b hb
  simp only [fe,Bool.and_eq_true,decide_eq_true_eq] at this
  omega
theorem zR:∀(d:Nat) (t:Tr),vx d t→du (dA d t)
 |d, .one k n,h=>by
  have h:uh k∧1≤n∧n≤999:=by cases d<;>exact h
  have e:dA d (.one k n)=k++bG n:=by cases d<;>rfl
  rw[e]
  exact(G6 h.1).app (nZ h.2.1 h.2.2)
 |0, .gr _ _,h=>h.elim
 |d+1, .gr ts n,⟨_,h,n1,n2⟩=>by
  intro c hc
  rcases List.mem_cons.mp (show c∈40::(ts.flatMap (dA d)++41::bG n) from hc) with rfl|hc
  ·decide
  ·rcases List.mem_append.mp hc with hc|hc
   ·obtain⟨t,ht,hc⟩:=List.mem_flatMap.mp hc
    exact zR d t (h t ht) c hc
   ·rcases List.mem_cons.mp hc with rfl|hc
    ·decide
    ·exact nZ n1 n2 c hc
theorem DL{d:Nat}{ts:List Tr}(h:∀t∈ts,vx d t):du (ts.flatMap (dA d)):=fun c hc=>by
 obtain⟨t,ht,hc⟩:=List.mem_flatMap.mp hc
 exact zR d t (h t ht) c hc
theorem xV{xs:List iG}{n:Int}(h:Bh 4 xs n):du (wL 4 xs n):=by
 cases xs with
 |nil=>
  have:∀c∈[101,94,45],c<128:=by decide
  exact this
 |cons x r=>
  obtain⟨_,ho,n1,n2⟩:=h
  refine(DL (ho x (List.mem_cons_self ..)).2.1).app (du.app (fun c hc=>?_) fun c hc=>?_)
  ·obtain⟨y,hy,hc⟩:=List.mem_flatMap.mp hc
   obtain⟨_,o1,o2,o3⟩:=ho y (List.mem_cons_of_mem _ hy)
   rcases List.mem_cons.mp hc with rfl|hc
   ·decide
   ·exact((nZ o2 o3).app (DL o1)) c hc
  ·unfold jQ at hc
   by_cases h0:n=0
   ·rw[if_pos h0] at hc;cases hc
   ·rw[if_neg h0] at hc
    rcases List.mem_cons.mp hc with rfl|hc
    ·decide
    ·rcases List.mem_append.mp hc with hc|hc
     ·exact nZ (by split<;>omega) (by split<;>omega) c hc
     ·have:c=if 0<n then 43 else 45:=by simpa using hc
      rw[this]
      split<;>decide
theorem DM(x:Str){a:Nat}(ha:a≤x.length):(Txt.slice x none (some (a:Int))).cps.toList=x.cps.toList.take a:=by
 have:=gW x (a:=0) (b:=a) (Nat.zero_le _) (Nat.zero_le _)
 rw[List.drop_zero,Nat.sub_zero] at this
 rw[←this]
 have e:∀n,Builtin.Str.strSliceIndices none (some (a:Int)) 1 n=Builtin.Str.strSliceIndices (some ((0 :Nat):Int)) (some (a:Int)) 1 n:=fun n=>by
  simp only [Builtin.Str.strSliceIndices,show ((1 :Int) >0)=True from by simp,if_true]
  congr 1
 unfold Txt.slice
 rw[e]
theorem vR(x:Str){a:Nat}(ha:a≤x.length):(Txt.slice x (some (a:Int)) none).cps.toList=x.cps.toList.drop a:=by
 have hl:x.cps.toList.length=x.length:=by simp [Str.length]
 have:=gW x (a:=a) (b:=x.length) ha ha
 rw[List.take_of_length_le (by rw[List.length_drop];omega)] at this
 rw[←this]
 have e:Builtin.Str.strSliceIndices (some (a:Int)) none 1 x.length=Builtin.Str.strSliceIndices (some (a:Int)) (some ((x.length:Nat):Int)) 1 x.length:=by
  simp only [Builtin.Str.strSliceIndices,show ((1 :Int) >0)=True from by simp,if_true]
  congr 1
  have:¬((x.length:Nat):Int) <0:=by omega
  rw[if_neg this]
  omega
 unfold Txt.slice
 rw[e]
theorem IW(l:List Nat){a:Nat}(h:a≤l.length):Txt.slice ⟨l.toArray⟩ none (some (a:Int))=⟨(l.take a).toArray⟩:=gi (by rw[DM _ (by rw[aK];exact h)])
theorem OZ(l:List Nat){a:Nat}(h:a≤l.length):Txt.slice ⟨l.toArray⟩ (some (a:Int)) none=⟨(l.drop a).toArray⟩:=gi (by rw[vR _ (by rw[aK];exact h)])
theorem LA(l:List Nat){a:Nat}(h:a≤l.length):Txt.slice ⟨l.toArray⟩ (some ((a:Int)+1)) none=⟨(l.drop (a+1)).toArray⟩:=by
 by_cases hl:a+1≤l.length
 ·rw[show ((a:Int)+1)=((a+1 :Nat):Int) by omega]
  exact OZ l hl
 ·have ea:a=l.length:=by omega
  apply gi
  have hl:(⟨l.toArray⟩:Str).length=l.length:=aK l
  have e:Builtin.Str.strSliceIndices (some ((a:Int)+1)) none 1 (⟨l.toArray⟩:Str).length=Builtin.Str.strSliceIndices (some ((l.length:Nat):Int)) none 1 (⟨l.toArray⟩:Str).length:=by
   rw[hl]
   simp only [Builtin.Str.strSliceIndices,show ((1 :Int) >0)=True from by simp,if_true]
   congr 1
   have h1:¬((a:Int)+1) <0:=by omega
   have h2:¬((l.length:Nat):Int) <0:=by omega
   rw[if_neg h1,if_neg h2]
   omega
  have h2:=vR (⟨l.toArray⟩:Str) (a:=l.length) (by rw[hl];exact Nat.le_refl _)
  have h3:Txt.slice ⟨l.toArray⟩ (some ((a:Int)+1)) none=Txt.slice ⟨l.toArray⟩ (some ((l.length:Nat):Int)) none:=by
   unfold Txt.slice
   rw[e]
  rw[h3,h2]
  show l.drop l.length=l.drop (a+1)
  rw[List.drop_eq_nil_of_le (Nat.le_refl _),List.drop_eq_nil_of_le (by omega)]
theorem jR.ok{u v:List Nat}{n:Int}(h:jR 3 u n v):u=bG n++v∧1≤n∧n≤999:=⟨h.1,h.2.1,by have:=h.2.2.1;omega⟩
theorem jX.ok{u k v:List Nat}{n:Int}(h:jX u k n v):u=(k++bG n)++v∧uh k∧1≤n∧n≤999:=by
 obtain⟨w,rfl,hk,_,hN⟩:=h
 obtain⟨e,n1,n2⟩:=hN.ok
 exact⟨by rw[e,List.append_assoc],hk,n1,n2⟩
theorem Sq.ok{p:List Nat→Tr→List Nat→Prop}{d:Nat}(hp:∀u t v,p u t v→u=dA d t++v∧vx d t){u:List Nat}:∀{ts:List Tr} {v:List Nat},Sq p u ts v→u=ts.flatMap (dA d)++v∧ts≠[]∧∀t∈ts,vx d t:=by
 intro ts v h
 induction h with
 |one t v a=>
  obtain⟨e,o⟩:=hp u t v a
  refine⟨by rw[e];simp,by simp,fun t' ht=>by rw[List.mem_singleton.mp ht];exact o⟩
 |snoc ts w t v _ _ a ih=>
  obtain⟨e,_,o⟩:=ih
  obtain⟨e2,o2⟩:=hp w t v a
  refine⟨by rw[e,e2,List.flatMap_append,List.append_assoc];simp,by simp,fun t' ht=>?_⟩
  rcases List.mem_append.mp ht with z|z
  ·exact o t' z
  ·rw[List.mem_singleton.mp z];exact o2
theorem km.ok:∀(d:Nat) (u:List Nat) (t:Tr) (v:List Nat),km d u t v→u=dA d t++v∧vx d t
 |0,u,t,v,h=>by
  obtain⟨k,n,rfl,a⟩:=h
  obtain⟨e,o⟩:=a.ok
  exact⟨e,o⟩
 |d+1,u,t,v,h=>by
  rcases h with ⟨_,k,n,rfl,a⟩ | ⟨u',ts,n,w,rfl,rfl,⟨q,_⟩,hN⟩
  ·obtain⟨e,o⟩:=a.ok
   exact⟨e,o⟩
  ·obtain⟨e,ne,o⟩:=q.ok (km.ok d)
   obtain⟨e2,n1,n2⟩:=hN.ok
   refine⟨?_,ne,o,n1,n2⟩
   rw[e,e2]
   show 40::(ts.flatMap (dA d)++41::(bG n++v))=40::(ts.flatMap (dA d)++41::bG n)++v
   simp
theorem wX.ok{u:List Nat}:∀{ps:List iG} {v:List Nat},wX u ps v→∃x r,ps=x::r∧x.1=1∧u=x.2.flatMap (dA 4)++(dJ 4 r++v)∧∀y∈ps,K6 4 y:=by
 intro ps v h
 induction h with
 |one ts v a=>
  obtain⟨e,ne,o⟩:=a.1.ok (km.ok 4)
  exact⟨(1,ts),[],rfl,rfl,e,fun y hy=>by rw[List.mem_singleton.mp hy];exact⟨ne,o,(by show (1 :Int)≤1;decide),(by show (1 :Int)≤999;decide)⟩⟩
 |snoc ps w m w1 ts v _ n a ih=>
  obtain⟨x,r,rfl,x1,e,o⟩:=ih
  obtain⟨e2,n1,n2⟩:=n.ok
  obtain⟨e3,ne,o3⟩:=a.1.ok (km.ok 4)
  refine⟨x,r++[(m,ts)],rfl,x1,?_,fun y hy=>?_⟩
  ·rw[e,e2,e3]
   unfold dJ kh
   rw[List.flatMap_append]
   simp
  ·rcases List.mem_append.mp (show y∈(x::r)++[(m,ts)] from hy) with z|z
   ·exact o y z
   ·rw[List.mem_singleton.mp z];exact⟨ne,o3,n1,n2⟩
theorem TK.ok{u v:List Nat}{n:Int}(h:TK u n v):u=jQ n++v∧ -999≤n∧n≤999:=by
 rcases h with ⟨_,rfl,rfl⟩ | ⟨u',m,w,rfl,hN,hs⟩
 ·exact⟨rfl,by decide,by decide⟩
 ·obtain⟨e,n1,n2⟩:=hN.ok
  rcases hs with ⟨rfl,rfl⟩ | ⟨rfl,rfl⟩
  ·refine⟨?_,by omega,by omega⟩
   unfold jQ
   rw[if_neg (by omega),if_pos (by omega),if_neg (by omega),Int.neg_neg,e]
   simp
  ·refine⟨?_,by omega,by omega⟩
   unfold jQ
   rw[if_neg (by omega),if_neg (by omega),if_pos (by omega),e]
   simp
theorem Fu.O0{u v:List Nat}{xs:List iG}{n:Int}(h:Fu u xs n v):u=wL 4 xs n++v∧Bh 4 xs n:=by
 rcases h with ⟨rfl,rfl,rfl⟩ | ⟨_,w,q,_,c⟩
 ·exact⟨rfl,rfl⟩
 ·obtain⟨x,r,rfl,x1,e,o⟩:=q.ok
  obtain⟨e2,n1,n2⟩:=c.ok
  refine⟨?_,x1,o,n1,n2⟩
  rw[e,e2]
  show _=x.2.flatMap (dA 4)++(dJ 4 r++jQ n)++v
  simp only [List.append_assoc]
theorem O1{xs:List iG}{n:Int}(h:Bh 4 xs n):wL 4 xs n≠[]:=by
 cases xs with
 |nil=>simp [wL]
 |cons x r=>
  obtain⟨_,ho,_⟩:=h
  obtain⟨ne,ot,_⟩:=ho x (List.mem_cons_self ..)
  intro z
  have z:x.2.flatMap (dA 4)++(dJ 4 r++jQ n)=[]:=z
  have z1:=(List.append_eq_nil_iff.mp z).1
  cases hx:x.2 with
  |nil=>exact ne hx
  |cons t ts=>
   rw[hx,List.flatMap_cons] at z1
   have z2:=(List.append_eq_nil_iff.mp z1).1
   have ht:=ot t (by rw[hx];exact List.mem_cons_self ..)
   cases t with
   |one k m=>
    obtain⟨⟨c,k',rfl,_⟩,_⟩:=ht
    cases z2
   |gr TV m=>cases z2
variable {HE NF TL NC TM:Addr}{uC uP uI uD uL uT p8 p9 qa uG uS:Tok}{Ch:Addr}
structure Bw(K:PySem.W.Frag)(mg:Str→Option Value)(C R G Pc Fo Ch:Addr)(uK uN uB uE uM uC uP uI uD uL uT p8 p9 qa uG uS:Tok):Prop extends DG K mg C R G Pc Fo Ch uK uN uB uE uM uC uP uI uD uL uT p8 p9 qa where
 jk:mg "LONGEST_TERM_COUNT" =some (.int 12 uG)
 tM:mg "MOST_TERMS" =some (.int 8 uS)
def G7(u:List Nat)(t:Tm)(v:List Nat):Prop:=∃w,jR 12 u t.1 w∧((t.1=1∧Fu w t.2.1 t.2.2 v)∨(t.1≠1∧∃w',w=32::w'∧Fu w' t.2.1 t.2.2 v))
def Nd(u v:List Nat):Prop:=tu u v∨∃n w,jR 12 u n w∧((n=1∧OP w v)∨(n≠1∧w.head? ≠some 32∧v=w)∨(n≠1∧∃w',w=32::w'∧OP w' v))
def V1(s w v:List Nat):Prop:=∃i c,s[i]? =some c∧w=s.take i++v∧v.head? ≠some c
inductive wZ(u:List Nat):List Tm→List Nat→Prop
 |one (t:Tm) (v:List Nat) (h:G7 u t v):wZ u [t] v
 |snoc (ts:List Tm) (w:List Nat) (t:Tm) (v:List Nat) (s:wZ u ts (32::43::32::w)) (h:G7 w t v):wZ u (ts++[t]) v
def V2(u:List Nat)(ts:List Tm)(v:List Nat):Prop:=wZ u ts (32::45::62::32::v)
def V3(w v:List Nat):Prop:=V1 [32,43,32] w v∨∃w',w=32::43::32::w'∧Nd w' v
def V4(u v:List Nat):Prop:=Nd u v∨∃ts w,wZ u ts w∧(((w.drop 1).head? ≠some 45∧V3 w v)∨((w.drop 1).head? =some 45∧V1 [32,45,62,32] w v))
def V5(u v:List Nat):Prop:=Nd u v∨∃ts w,wZ u ts w∧w≠[]∧V3 w v
def IX(u:List Nat)(xs ys:List Tm):Prop:=∃w,V2 u xs w∧wZ w ys []
def T1(u v:List Nat):Prop:=V4 u v∨∃xs w,V2 u xs w∧V5 w v
def O2(C G Pc Fo:Addr)(H H':Hp)(t:Addr)(x:Tm):Prop:=∀bQ,(∀b o,H b=none→H' b=some o→bQ b=some o)→iy C G Pc Fo bQ t x
def IZ(C G Pc Fo L:Addr)(H H':Hp)(t:Addr)(x:Tm):Prop:=∀bQ,(∀b o,H b=none→b≠L→H' b=some o→bQ b=some o)→iy C G Pc Fo bQ t x
def DN(C G Pc Fo:Addr)(H H':Hp)(l:Addr)(xs:List Tm):Prop:=H l=none∧∃ps,H' l=some (.lst (ps.map V.ref))∧∀bQ,(∀b o,H b=none→H' b=some o→bQ b=some o)→Paired (iy C G Pc Fo bQ) ps xs
theorem e32:(" " :Str)=⟨#[32]⟩:=by decide+kernel
def pB(NF C G Pc Fo R:Addr):Sp:=fun vs H Q E=>∃(r:Addr) (x:Str) (p:Nat),vs=[.ref r]∧cT R H r x p∧p≤x.length∧x.length≤1000∧
 (∀tm q t H',G7 (sf x p) tm (sf x q)→p<q→q≤x.length→H t=none→O2 C G Pc Fo H H' t tm→cT R H' r x q→Kept r H H'→Q (.ref t) H')∧(∀e,Nd (sf x p) (sf x e)→p≤e→e≤x.length→Rz NF H r E e)
theorem zS:az ["self","count"] ["self"] (ag sR):=dI
theorem DO{u v:List Nat}{xs:List iG}{n:Int}(h:Fu u xs n v):v.length<u.length:=by
 obtain⟨e,o⟩:=h.O0
 have:=O1 o
 rw[e,List.length_append]
 have:(wL 4 xs n).length≠0:=fun z=>this (List.length_eq_zero_iff.mp z)
 omega
theorem LB{u v:List Nat}{t:Tm}(h:G7 u t v):v.length<u.length:=by
 obtain⟨w,hN,hw⟩:=h
 have e:=hN.1
 have l:w.length≤u.length:=by rw[e,List.length_append];omega
 rcases hw with ⟨_,hw⟩ | ⟨_,w',rfl,hw⟩
 ·have:=DO hw
  omega
 ·have:=DO hw
  rw[List.length_cons] at l
  omega
theorem O3{x:Str}{p q:Nat}(h:(sf x q).length< (sf x p).length):p<q:=by
 rw[kn,kn] at h
 omega
theorem Bx(D:bP K R "read_term" "ChangeReader.read_term" sR ["self"])(T:Bw K mg C R G Pc Fo Ch uK uN uB uE uM uC uP uI uD uL uT p8 p9 qa uG uS)(c1:aW P w K mg base 3 R "read_number" ["self","longest"] (ma NF R))(c2:aW P w K mg base 3 R "take" ["self","sign"] (ir NF R))(c3:aW P w K mg base 20 R "read_whole" ["self"] (rk NF C G Pc Fo R)):
  aW P w K mg base 21 R "read_term" ["self"] (pB NF C G Pc Fo R):=by
 obtain⟨_,_,bB⟩:=c1
 obtain⟨_,_,aE⟩:=c2
 obtain⟨_,_,dE⟩:=c3
 refine D.fj zS (fun vs H Q E h=>?_) (fun f br A outer s H vs Q E hr h=>?_)
 ·obtain⟨r,x,p,rfl,_⟩:=h
  rfl
 ·obtain⟨r,x,p,rfl,⟨dx,hR⟩,hp,hx,q,qE⟩:=h
  refine⟨_,(aj
     (aQ (i:=1) zS.nd rfl (Or.inl rfl) (bA (pv 0) T.aw bB.m bB.ok (hr.mono (by decide)) bB.b .nil aO (aa (aP (v:= .int 12) rfl T.jk ⟨_,rfl⟩) ak)))
    (aj
     (bM (bp qy (pv 1) aq (bq _))
      (ao
       (bC (bA (pv 0) T.aw aE.m aE.ok (hr.mono (by decide)) aE.b .nil aO (aa (aP (v:= .str " ") rfl T.zO ⟨_,rfl⟩) ak))))
      ba)
    (ao
     (aH (xp (aa (pv 1) (aa (bU (pv 0) T.aw dE.m dE.ok (hr.mono (by decide)) dE.b .nil aO) ak))))))),?_⟩
  refine⟨_,rfl,r,dx,_,rfl,hR,aI _ _ (by decide+kernel) (by decide+kernel),r,x,p,12,rfl,⟨dx,hR⟩,hp,hx,by decide,by decide,fun n q1 H1 hN vo vK dM k1=>?_,fun e hB=>qE e (.inl hB)⟩
  obtain⟨me,dM⟩:=dM
  dsimp only [kz]
  refine zd (fun σ' H'=>∃p2,σ'=[some (.ref r),some (.int n)]∧cT R H' r x p2∧Kept r H H'∧p≤p2∧p2≤x.length∧(∀xs m v,Fu (sf x p2) xs m v→G7 (sf x p) (n,xs,m) v)∧∀v,OP (sf x p2) v→Nd (sf x p) v) (fun N TX=>?_) ?_
  ·refine⟨_,rfl,_,_,rfl,rfl,_,rfl,nh (fun e=>?_) fun e=>?_⟩
   ·have e:1<n:=by simpa using e
    have n1:n≠1:=by omega
    refine⟨_,rfl,r,me,_,rfl,dM,aI _ _ (by decide+kernel) (by decide+kernel),r,x,q1,32,congrArg (fun z=>[V.ref r,V.str z]) e32,⟨me,dM⟩,vK,hx,fun iK H2 gF k2=>?_,fun iK=>(qE q1 (.inr ⟨n,_,hN, .inr (.inl ⟨n1,iK,rfl⟩)⟩) vo vK).on k1 dM⟩
    obtain⟨f1,f2⟩:=dQ iK
    exact TX _ _ ⟨q1+1,rfl,gF,k1.trans k2,by omega,f2,fun xs m v hw=>⟨_,hN, .inr ⟨n1,_,f1,hw⟩⟩,fun v hw=> .inr ⟨n,_,hN, .inr (.inr ⟨n1,_,f1,hw⟩)⟩⟩
   ·have e:¬1<n:=by simpa using e
    have n1:n=1:=by have:=hN.2.1;omega
    exact TX _ _ ⟨q1,rfl,⟨me,dM⟩,k1,vo,vK,fun xs m v hw=>⟨_,hN, .inl ⟨n1,hw⟩⟩,fun v hw=> .inr ⟨n,_,hN, .inl ⟨n1,hw⟩⟩⟩
  rintro σ' H2 ⟨p2,rfl,⟨jv,gF⟩,k2,hp2,V6,gG,gB⟩
  refine⟨_,rfl,_,rfl,r,jv,_,rfl,gF,aI _ _ (by decide+kernel) (by decide+kernel),r,x,p2,rfl,⟨jv,gF⟩,V6,hx,fun xs m q3 f H3 hW hq3 Lv nf hF fw k3=>⟨(by show 2≤sizeLine;decide),fun t ht=>?_⟩,fun e hB h1 h2=>(qE e (gB _ hB) (by omega) h2).on k2 gF⟩
  obtain⟨vI,fw⟩:=fw
  have V7:=k2.trans k3
  have st:=aG.new (o:= .tup [.int n, .ref f]) ht
  have hT:=gG _ _ _ hW
  refine q (n,xs,m) q3 t _ hT (O3 (LB hT)) Lv (aY V7 fw ht) (fun bQ ke=>⟨f,ke _ _ (aY V7 fw ht) ai,hF bQ fun b o z1 z2=>ke b o (aY k2 gF z1) (st _ _ z2)⟩) ⟨vI,st _ _ fw⟩ (V7.trans (Kept.of st))
variable {HE NF TL NC TM:Addr}{uC uP uI uD uL uT p8 p9 qa uG uS:Tok}{Ch:Addr}
theorem eJ:(" + " :Str).cps.toList=[32,43,32]:=by decide+kernel
theorem eJa:(" + " :Str).cps.all (· <128)=true:=by decide+kernel
theorem T2:(" + " :Str).length=3:=by decide+kernel
theorem eA:(" -> " :Str).cps.toList=[32,45,62,32]:=by decide+kernel
theorem eAa:(" -> " :Str).cps.all (· <128)=true:=by decide+kernel
theorem eAl:(" -> " :Str).length=4:=by decide+kernel
theorem xW(x:Str){p:Nat}(hp:p≤x.length):Txt.slice x (some ((p:Int)+1)) (some ((p:Int)+2))=fq x (p+1):=by
 by_cases h:p+1≤x.length
 ·have:=qS x h
  have e:(((p+1 :Nat):Int))+1=(p:Int)+2:=by omega
  rw[e] at this
  exact this
 ·have ep:p=x.length:=by omega
  apply gi
  have e:Builtin.Str.strSliceIndices (some ((p:Int)+1)) (some ((p:Int)+2)) 1 x.length=Builtin.Str.strSliceIndices (some ((x.length:Nat):Int)) (some ((x.length:Nat):Int)) 1 x.length:=by
   simp only [Builtin.Str.strSliceIndices,show ((1 :Int) >0)=True from by simp,if_true]
   have h1:¬((p:Int)+1) <0:=by omega
   have h2:¬((p:Int)+2) <0:=by omega
   have h3:¬((x.length:Nat):Int) <0:=by omega
   rw[if_neg h1,if_neg h2,if_neg h3]
   congr 1<;>omega
  have h3:Txt.slice x (some ((p:Int)+1)) (some ((p:Int)+2))=Txt.slice x (some ((x.length:Nat):Int)) (some ((x.length:Nat):Int)):=by
   unfold Txt.slice
   rw[e]
  rw[h3,gW x (Nat.le_refl _) (Nat.le_refl _),Nat.sub_self,List.take_zero]
  rw[Dn]
  have:sf x (p+1)=[]:=List.drop_eq_nil_of_le (by simp [Str.length] at ep ⊢;omega)
  rw[this]
  rfl
theorem zT(x:Str)(p:Nat):(sf x p).drop 1=sf x (p+1):=by unfold sf;rw[List.drop_drop]
def jZ(C G Pc Fo L:Addr)(H H':Hp)(q:Nat)(xs:List Tm):Prop:=∃ps,H' L=some (.lst (ps.map V.ref))∧ps.length≤q∧Paired (IZ C G Pc Fo L H H') ps xs
def rE(NF C G Pc Fo R:Addr):Sp:=fun vs H Q E=>∃(r:Addr) (x:Str) (p:Nat),vs=[.ref r]∧cT R H r x p∧p≤x.length∧x.length≤1000∧
 (∀xs q l H',V2 (sf x p) xs (sf x q)→p<q→q≤x.length→xs.length≤1000→DN C G Pc Fo H H' l xs→cT R H' r x q→Kept r H H'→Q (.ref l) H')∧(∀e,V4 (sf x p) (sf x e)→p≤e→e≤x.length→Rz NF H r E e)
def pD(NF C G Pc Fo R:Addr):Sp:=fun vs H Q E=>∃(r:Addr) (x:Str) (p:Nat),vs=[.ref r]∧cT R H r x p∧p≤x.length∧x.length≤1000∧
 (∀xs l H',wZ (sf x p) xs []→xs.length≤1000→DN C G Pc Fo H H' l xs→Kept r H H'→(∃o,H' r=some o)→Q (.ref l) H')∧(∀e,V5 (sf x p) (sf x e)→p≤e→e≤x.length→Rz NF H r E e)
theorem vS:az ["self","terms"] ["self"] (ag nO):=dI
theorem jZ.done{L r:Addr}{H H':Hp}{q:Nat}{xs:List Tm}{o:HO}(h:jZ C G Pc Fo L H H' q xs)(zL:H L=none)(k:Kept r H H')(hr:H r=some o):DN C G Pc Fo H H' L xs:=by
 obtain⟨ps,h1,h2,h3⟩:=h
 exact⟨zL,ps,h1,fun bQ ke=>b5 (fun _ _ z=>z bQ fun b o z1 _ z3=>ke b o z1 z3) h3⟩
theorem jZ.len{L:Addr}{H H':Hp}{q:Nat}{xs:List Tm}(h:jZ C G Pc Fo L H H' q xs):xs.length≤q:=by
 obtain⟨ps,h1,h2,h3⟩:=h
 rw[←Paired.length h3]
 exact h2
theorem jZ.more{L r t:Addr}{H H' H3 H4:Hp}{q q':Nat}{xs:List Tm}{y:Tm}{o o3:HO}{ps:List Addr}(h1:H' L=some (.lst (ps.map V.ref)))(h2:ps.length≤q)(h3:Paired (IZ C G Pc Fo L H H') ps xs)(zL:H L=none)(hr0:H r=some o)(kk:Kept r H H')(k3:Kept r H' H3)(k4:Kept r H3 H4)(hr3:H3 r=some o3)(qo:L≠r)(hN:O2 C G Pc Fo H3 H4 t y)(hq:q<q'):
  jZ C G Pc Fo L H (upd H4 L (.lst (ps.map V.ref++[V.ref t]))) q' (xs++[y])∧Kept r H (upd H4 L (.lst (ps.map V.ref++[V.ref t]))):=by
 have kk3:=kk.trans k3
 have xQ:=k3 _ _ h1 qo
 have Lr:=k3.trans k4
 refine⟨⟨ps++[t],by rw[ai,List.map_append];rfl,by rw[List.length_append];show ps.length+1≤q';omega,?_⟩,fun b o z w=>?_⟩
 ·refine gj (fun bQ ke=>hN bQ fun b o z1 z2=>?_) (b5 (fun c t h bQ ke=>h bQ fun b o z1 z2 z3=>ke b o z1 z2 ?_) h3)
  ·have Dv:b≠L:=fun z=>by rw[z,xQ] at z1;cases z1
   exact ke b o (aY kk3 hr3 z1) Dv (by rw[ah Dv];exact z2)
  ·have B3:b≠r:=fun z=>by rw[z,hr0] at z1;cases z1
   rw[ah z2]
   exact Lr _ _ z3 B3
 ·rw[ah (af z zL)]
  exact Lr _ _ (kk _ _ z w) w
theorem xX(D:bP K R "read_lefts" "ChangeReader.read_lefts" nO ["self"])(T:Bw K mg C R G Pc Fo Ch uK uN uB uE uM uC uP uI uD uL uT p8 p9 qa uG uS)(c1:aW P w K mg base 21 R "read_term" ["self"] (pB NF C G Pc Fo R))(c2:aW P w K mg base 4 R "take_all" ["self","signs"] (iu NF R)):
  aW P w K mg base 22 R "read_lefts" ["self"] (rE NF C G Pc Fo R):=by
 obtain⟨_,_,aT⟩:=c1
 obtain⟨_,_,aS⟩:=c2
 refine D.fj vS (fun vs H Q E h=>?_) (fun f br A outer s H vs Q E hr h=>?_)
 ·obtain⟨r,x,p,rfl,_⟩:=h
  rfl
 ·obtain⟨r,x,p,rfl,⟨dx,hR⟩,hp,hx,q,qE⟩:=h
  have big:(2000 :Nat)≤sizeLine:=by decide
  refine⟨_,(aj
     (aQ (i:=1) vS.nd rfl (Or.inl rfl) (c9 (aa (bU (pv 0) T.aw aT.m aT.ok (hr.mono (by decide)) aT.b .nil aO) ak)))
    (aj
     (gJ j' (bp yW (cE j8 (bx (pv 0) rfl) (cg (aB cL (bx (pv 0) rfl) aq)) (cg (aB cL (bx (pv 0) rfl) aq))) (bz ib (aP (v:= .str " -> ") rfl T.tJ ⟨_,rfl⟩) aq (fun _ _=>rfl)) (bq _))
      (aj
       (bC (bA (pv 0) T.aw aS.m aS.ok (hr.mono (by decide)) aS.b .nil aO (aa (aP (v:= .str " + ") rfl T.tI ⟨_,rfl⟩) ak)))
      (ao
       (bC (gQ PySem.F.plainAttrs_list PySem.F.slot_list_append PySem.F.type_list_append eD (pv 1) (aa (bU (pv 0) T.aw aT.m aT.ok (hr.mono (by decide)) aT.b .nil aO) ak))))))
    (aj
     (bC (bA (pv 0) T.aw aS.m aS.ok (hr.mono (by decide)) aS.b .nil aO (aa (aP (v:= .str " -> ") rfl T.tJ ⟨_,rfl⟩) ak)))
    (ao
     (aH (pv 1)))))),?_⟩
  refine⟨_,rfl,r,dx,_,rfl,hR,aI _ _ (by decide+kernel) (by decide+kernel),r,x,p,rfl,⟨dx,hR⟩,hp,hx,fun t0 q1 a0 H1 hT vo vK na0 hN dM k1=>⟨(by show 1≤sizeLine;decide),fun L hL=>?_⟩,fun e hB=>qE e (.inl hB)⟩
  obtain⟨me,dM⟩:=dM
  have zL:H L=none:=aY k1 dM hL
  have qo:L≠r:=fun z=>by rw[z,dM] at hL;cases hL
  have sL:aG H1 (upd H1 L (.lst [V.ref a0])):=aG.new hL
  refine⟨fun k σ H'=>∃q' xs,k+q'=x.length∧p<q'∧wZ (sf x p) xs (sf x q')∧σ=[some (.ref r),some (.ref L)]∧cT R H' r x q'∧Kept r H H'∧jZ C G Pc Fo L H H' q' xs,⟨x.length - q1,q1,[t0],by omega,vo, .one t0 _ hT,rfl,⟨me,sL _ _ dM⟩,k1.trans (Kept.of sL),[a0],ai,by show 1≤q1;omega, .cons (fun bQ ke=>hN bQ fun b o z1 z2=>ke b o z1 (af z2 hL) (sL _ _ z2)) .nil⟩,?_⟩
  rintro k σ H' ⟨q',xs,hk,GN,hQ,rfl,⟨dv,cX⟩,kk,Nf⟩
  have jM:q'≤x.length:=by omega
  refine⟨_,rfl,r,R,dv,_,_,rfl,cX,T.aw,T.jD,fQ _ _,_,rfl,r,R,dv,_,_,rfl,cX,T.aw,T.bE,bb _ _,_,_,rfl,rfl,_,rfl,_,rfl,r,R,dv,_,_,rfl,cX,T.aw,T.bE,bb _ _,_,_,rfl,rfl,_,rfl,x,rfl,by omega," -> ",1,45,rfl,rfl,(by decide+kernel),(by decide+kernel),rfl,_,rfl,?_⟩
  rw[xW x jM]
  by_cases mR:(sf x (q'+1)).head? =some 45
  ·have G8:((sf x q').drop 1).head? =some 45:=by rw[zT];exact mR
   rw[decide_eq_true (eB.mpr mR)]
   refine dm ?_
   refine⟨_,rfl,r,dv,_,rfl,cX,aI _ _ (by decide+kernel) (by decide+kernel),r,x,q'," -> ",rfl,eAa,⟨dv,cX⟩,jM,hx,fun hs hl H3 fw k3=>?_,fun i c hc hs hn hl=>(qE (q'+i) (.inr ⟨xs,_,hQ, .inr ⟨G8,i,c,by rw[←eA];exact hc,by rw[←eA];exact hs,hn⟩⟩) (by omega) hl).on kk cX⟩
   rw[eA,eAl] at hs
   rw[eAl] at hl fw
   rw[hs] at hQ
   obtain⟨ps,p1,p2,p3⟩:=Nf
   obtain⟨vI,fw⟩:=fw
   have xQ:=k3 _ _ p1 qo
   refine⟨_,rfl,q xs (q'+4) L H3 hQ (by omega) hl ?_ ⟨zL,ps,xQ,fun bQ ke=>b5 (fun _ _ z=>z bQ fun b o z1 _ z3=>ke b o z1 (k3 _ _ z3 fun e=>by rw[e,hR] at z1;cases z1)) p3⟩ ⟨vI,fw⟩ (kk.trans k3)⟩
   have:=Paired.length p3
   omega
  ·have G8:((sf x q').drop 1).head? ≠some 45:=by rw[zT];exact mR
   rw[decide_eq_false (fun z=>mR (eB.mp z))]
   refine eG ⟨_,fun σ' bQ h=>h,?_⟩
   refine⟨_,rfl,r,dv,_,rfl,cX,aI _ _ (by decide+kernel) (by decide+kernel),r,x,q'," + ",rfl,eJa,⟨dv,cX⟩,jM,hx,fun hs hl H3 fw k3=>?_,fun i c hc hs hn hl=>(qE (q'+i) (.inr ⟨xs,_,hQ, .inl ⟨G8, .inl ⟨i,c,by rw[←eJ];exact hc,by rw[←eJ];exact hs,hn⟩⟩⟩) (by omega) hl).on kk cX⟩
   rw[eJ,T2] at hs
   rw[T2] at hl fw
   have F2:sf x q'=32::43::32::sf x (q'+3):=hs
   obtain⟨ps,p1,p2,p3⟩:=Nf
   obtain⟨vI,fw⟩:=fw
   have xQ:=k3 _ _ p1 qo
   refine⟨_,rfl, .inl ⟨rfl,_,bR.of xQ⟩,_,rfl,r,vI,_,rfl,fw,aI _ _ (by decide+kernel) (by decide+kernel),r,x,q'+3,rfl,⟨vI,fw⟩,hl,hx,fun t4 q4 a4 H4 V8 VF Du na4 OS qm k4=>?_,fun e hB h1 h2=>(qE e (.inr ⟨xs,_,hQ, .inl ⟨G8, .inr ⟨_,F2,hB⟩⟩⟩) (by omega) h2).on (kk.trans k3) fw⟩
   obtain⟨IT,qm⟩:=qm
   have GQ:=k4 _ _ xQ qo
   obtain⟨m1,m2⟩:=jZ.more (q':=q4) p1 p2 p3 zL hR kk k3 k4 fw qo OS (by omega)
   refine⟨L,_,_,rfl,rfl,GQ,by rw[List.length_map];omega,x.length - q4,by omega,q4,xs++[t4],by omega,by omega, .snoc xs _ t4 _ (by rw[←F2];exact hQ) V8,rfl,⟨IT,by rw[ah (Ne.symm qo)];exact qm⟩,m2,m1⟩
theorem rG:az ["self","terms"] ["self"] (ag kW):=dI
theorem vT(D:bP K R "read_rights" "ChangeReader.read_rights" kW ["self"])(T:Bw K mg C R G Pc Fo Ch uK uN uB uE uM uC uP uI uD uL uT p8 p9 qa uG uS)(c1:aW P w K mg base 21 R "read_term" ["self"] (pB NF C G Pc Fo R))(c2:aW P w K mg base 4 R "take_all" ["self","signs"] (iu NF R)):
  aW P w K mg base 22 R "read_rights" ["self"] (pD NF C G Pc Fo R):=by
 obtain⟨_,_,aT⟩:=c1
 obtain⟨_,_,aS⟩:=c2
 refine D.fj rG (fun vs H Q E h=>?_) (fun f br A outer s H vs Q E hr h=>?_)
 ·obtain⟨r,x,p,rfl,_⟩:=h
  rfl
 ·obtain⟨r,x,p,rfl,⟨dx,hR⟩,hp,hx,q,qE⟩:=h
  have big:(2000 :Nat)≤sizeLine:=by decide
  refine⟨_,(aj
     (aQ (i:=1) rG.nd rfl (Or.inl rfl) (c9 (aa (bU (pv 0) T.aw aT.m aT.ok (hr.mono (by decide)) aT.b .nil aO) ak)))
    (aj
     (gJ j' (bp yX (bx (pv 0) rfl) (bw dk rfl T.gg eI (aa (bx (pv 0) rfl) ak)) (bq _))
      (aj
       (bC (bA (pv 0) T.aw aS.m aS.ok (hr.mono (by decide)) aS.b .nil aO (aa (aP (v:= .str " + ") rfl T.tI ⟨_,rfl⟩) ak)))
      (ao
       (bC (gQ PySem.F.plainAttrs_list PySem.F.slot_list_append PySem.F.type_list_append eD (pv 1) (aa (bU (pv 0) T.aw aT.m aT.ok (hr.mono (by decide)) aT.b .nil aO) ak))))))
    (ao
     (aH (pv 1))))),?_⟩
  refine⟨_,rfl,r,dx,_,rfl,hR,aI _ _ (by decide+kernel) (by decide+kernel),r,x,p,rfl,⟨dx,hR⟩,hp,hx,fun t0 q1 a0 H1 hT vo vK na0 hN dM k1=>⟨(by show 1≤sizeLine;decide),fun L hL=>?_⟩,fun e hB=>qE e (.inl hB)⟩
  obtain⟨me,dM⟩:=dM
  have zL:H L=none:=aY k1 dM hL
  have qo:L≠r:=fun z=>by rw[z,dM] at hL;cases hL
  have sL:aG H1 (upd H1 L (.lst [V.ref a0])):=aG.new hL
  refine⟨fun k σ H'=>∃q' xs,k+q'=x.length∧p<q'∧wZ (sf x p) xs (sf x q')∧σ=[some (.ref r),some (.ref L)]∧cT R H' r x q'∧Kept r H H'∧jZ C G Pc Fo L H H' q' xs,⟨x.length - q1,q1,[t0],by omega,vo, .one t0 _ hT,rfl,⟨me,sL _ _ dM⟩,k1.trans (Kept.of sL),[a0],ai,by show 1≤q1;omega, .cons (fun bQ ke=>hN bQ fun b o z1 z2=>ke b o z1 (af z2 hL) (sL _ _ z2)) .nil⟩,?_⟩
  rintro k σ H' ⟨q',xs,hk,GN,hQ,rfl,⟨dv,cX⟩,kk,Nf⟩
  have jM:q'≤x.length:=by omega
  refine⟨_,rfl,r,R,dv,_,_,rfl,cX,T.aw,T.bE,bb _ _,_,rfl,r,R,dv,_,_,rfl,cX,T.aw,T.jD,fQ _ _,x,rfl,by omega,_,_,rfl,rfl,_,rfl,?_⟩
  by_cases Iu:q'<x.length
  ·have mL:sf x q'≠[]:=fun z=>by
    have:=kn x q'
    rw[z] at this
    simp at this
    omega
   refine ie (by omega) ⟨_,fun σ' bQ h=>h,?_⟩
   refine⟨_,rfl,r,dv,_,rfl,cX,aI _ _ (by decide+kernel) (by decide+kernel),r,x,q'," + ",rfl,eJa,⟨dv,cX⟩,jM,hx,fun hs hl H3 fw k3=>?_,fun i c hc hs hn hl=>(qE (q'+i) (.inr ⟨xs,_,hQ,mL, .inl ⟨i,c,by rw[←eJ];exact hc,by rw[←eJ];exact hs,hn⟩⟩) (by omega) hl).on kk cX⟩
   rw[eJ,T2] at hs
   rw[T2] at hl fw
   have F2:sf x q'=32::43::32::sf x (q'+3):=hs
   obtain⟨ps,p1,p2,p3⟩:=Nf
   obtain⟨vI,fw⟩:=fw
   have xQ:=k3 _ _ p1 qo
   refine⟨_,rfl, .inl ⟨rfl,_,bR.of xQ⟩,_,rfl,r,vI,_,rfl,fw,aI _ _ (by decide+kernel) (by decide+kernel),r,x,q'+3,rfl,⟨vI,fw⟩,hl,hx,fun t4 q4 a4 H4 V8 VF Du na4 OS qm k4=>?_,fun e hB h1 h2=>(qE e (.inr ⟨xs,_,hQ,mL, .inr ⟨_,F2,hB⟩⟩) (by omega) h2).on (kk.trans k3) fw⟩
   obtain⟨IT,qm⟩:=qm
   have GQ:=k4 _ _ xQ qo
   obtain⟨m1,m2⟩:=jZ.more (q':=q4) p1 p2 p3 zL hR kk k3 k4 fw qo OS (by omega)
   refine⟨L,_,_,rfl,rfl,GQ,by rw[List.length_map];omega,x.length - q4,by omega,q4,xs++[t4],by omega,by omega, .snoc xs _ t4 _ (by rw[←F2];exact hQ) V8,rfl,⟨IT,by rw[ah (Ne.symm qo)];exact qm⟩,m2,m1⟩
  ·refine iJ (by omega) ?_
   have V9:sf x q'=[]:=List.drop_eq_nil_of_le (by simp [Str.length] at Iu ⊢;omega)
   rw[V9] at hQ
   have:=Nf.len
   exact⟨_,rfl,q xs L H' hQ (by omega) (Nf.done zL kk hR) kk ⟨_,cX⟩⟩
variable {HE NF TL NC TM:Addr}{uC uP uI uD uL uT p8 p9 qa uG uS:Tok}{Ch:Addr}
def G9(C G Pc Fo Ch:Addr)(H H':Hp)(c:Addr)(xs ys:List Tm):Prop:=∀bQ,(∀b o,H b=none→H' b=some o→bQ b=some o)→fR C G Pc Fo Ch bQ c xs ys
def rH(NF C G Pc Fo Ch R:Addr):Sp:=fun vs H Q E=>∃(r:Addr) (x:Str),vs=[.ref r]∧cT R H r x 0∧x.length≤1000∧
 (∀xs ys c H',IX x.cps.toList xs ys→xs.length≤1000→ys.length≤1000→H c=none→G9 C G Pc Fo Ch H H' c xs ys→Kept r H H'→Q (.ref c) H')∧(∀e,T1 x.cps.toList (sf x e)→e≤x.length→Rz NF H r E e)
theorem vU:az ["self","lefts"] ["self"] (ag nP):=dI
theorem xY(D:bP K R "read_sides" "ChangeReader.read_sides" nP ["self"])(T:Bw K mg C R G Pc Fo Ch uK uN uB uE uM uC uP uI uD uL uT p8 p9 qa uG uS)(c1:aW P w K mg base 22 R "read_lefts" ["self"] (rE NF C G Pc Fo R))(c2:aW P w K mg base 22 R "read_rights" ["self"] (pD NF C G Pc Fo R))(c3:eU P w K mg base 1 Ch ["self","lefts","rights"] [] (zQ Ch)):
  aW P w K mg base 23 R "read_sides" ["self"] (rH NF C G Pc Fo Ch R):=by
 obtain⟨_,_,dF⟩:=c1
 obtain⟨_,_,di⟩:=c2
 obtain⟨_,_,cU⟩:=c3
 obtain⟨_,xZ,x4⟩:=cU.b 0 (by decide)
 refine D.fj vU (fun vs H Q E h=>?_) (fun f br A outer s H vs Q E hr h=>?_)
 ·obtain⟨r,x,rfl,_⟩:=h
  rfl
 ·obtain⟨r,x,rfl,⟨dx,hR⟩,hx,q,qE⟩:=h
  refine⟨_,(aj
     (aQ (i:=1) vU.nd rfl (Or.inl rfl) (bU (pv 0) T.aw dF.m dF.ok (hr.mono (by decide)) dF.b .nil aO))
    (ao
     (aH (fZ cU.m cU.ok (hr.mono (by decide)) rfl T.DH x4 xZ aV (aa (pv 1) (aa (bU (pv 0) T.aw di.m di.ok (hr.mono (by decide)) di.b .nil aO) ak)))))),?_⟩
  refine⟨_,rfl,r,dx,_,rfl,hR,aI _ _ (by decide+kernel) (by decide+kernel),r,x,0,rfl,⟨dx,hR⟩,Nat.zero_le _,hx,fun xs q1 l H1 hG vo vK lx hN1 dM k1=>?_,fun e hB _ he=>qE e (.inl hB) he⟩
  obtain⟨me,dM⟩:=dM
  refine⟨_,rfl,_,rfl,r,me,_,rfl,dM,aI _ _ (by decide+kernel) (by decide+kernel),r,x,q1,rfl,⟨me,dM⟩,vK,hx,fun ys m H2 hG2 ly hN2 k2 gF=>?_,fun e hB _ he=>(qE e (.inr ⟨xs,_,hG,hB⟩) he).on k1 dM⟩
  obtain⟨o2,gF⟩:=gF
  obtain⟨VM,ps,IS,OR⟩:=hN1
  obtain⟨V0,us,LC,Ot⟩:=hN2
  have V':l≠r:=fun z=>by rw[z,hR] at VM;cases VM
  have IC:=k2 _ _ IS V'
  have k12:=k1.trans k2
  refine fun c dc nc O4 nec=>⟨c,dc,l,m,ps.map V.ref,us.map V.ref,rfl,ai,?_,?_,fun n1 n2 H3 hn1 Iw n12 hc3 Wa Wb kp=>⟨rfl,?_⟩⟩
  ·rw[ah (af IC nc),ah (af IC O4)];exact IC
  ·rw[ah (af LC nc),ah (af LC O4)];exact LC
  have s3:aG H2 H3:=fun b o z=>kp b o (by rw[ah (af z nc),ah (af z O4)];exact z) (af z nc)
  have back:∀b,H2 b=none→H b=none:=fun b z=>aY k12 gF z
  refine q xs ys c H3 ⟨_,hG,hG2⟩ lx ly (back c nc) (fun bQ ke=>⟨dc,n1,n2,ke _ _ (back c nc) hc3,⟨ps,ke _ _ (back n1 (dY hn1)) Wa,OR bQ fun b o z1 z2=>?_⟩,⟨us,ke _ _ (back n2 (dY Iw)) Wb,Ot bQ fun b o z1 z2=>?_⟩⟩) (k12.trans (Kept.of s3))
  ·have B3:b≠r:=fun z=>by rw[z,hR] at z1;cases z1
   exact ke b o z1 (s3 _ _ (k2 _ _ z2 B3))
  ·exact ke b o (aY k1 dM z1) (s3 _ _ z2)
structure Ja(K:PySem.W.Frag)(mg:Str→Option Value)(C R G Pc Fo Ch HE NF TL NC TM:Addr)(uK uN uB uE uM uC uP uI uD uL uT p8 p9 qa uG uS:Tok):Prop extends Bw K mg C R G Pc Fo Ch uK uN uB uE uM uC uP uI uD uL uT p8 p9 qa uG uS,vM K mg HE NF TL NC TM
def pE(TL NC TM C G Pc Fo Ch:Addr):Sp:=fun vs H Q E=>∃x:Str,vs=[.str x]∧x.length≤10000∧
 (x.length≤400→∀xs ys c H',IX x.cps.toList xs ys→xs.length+ys.length≤8→H c=none→G9 C G Pc Fo Ch H H' c xs ys→aG H H'→Q (.ref c) H')∧
 (x.length≤400→∀xs ys,IX x.cps.toList xs ys→8<xs.length+ys.length→Rf TM "many" H E (xs.length+ys.length))∧
 (x.length≤400→∀e,T1 x.cps.toList (sf x e)→e≤x.length→Rf NC "place" H E e)∧(400<x.length→Rf TL "many" H E x.length)
theorem jG:az ["text","change","e","many"] ["text"] (ag kY):=dI
theorem vV(D:Def K mg "read_change" "read_change" kY ["text"])(T:Ja K mg C R G Pc Fo Ch HE NF TL NC TM uK uN uB uE uM uC uP uI uD uL uT p8 p9 qa uG uS)(c1:gT P w K mg base 3 "refuse_too_long" ["text"] (pk TL))(c2:eU P w K mg base 1 R ["self","text"] [] (zF R))(c3:aW P w K mg base 23 R "read_sides" ["self"] (rH NF C G Pc Fo Ch R))
  (c4:xD P w K mg base 1 "NoChange" NC HE ["self","place"] (jh NC "place")) (c5:eW P w K mg base 1 "TooMany" TM HE ["self","many"] (jh TM "many")) (c6:eW P w K mg base 1 "NoFormula" NF HE ["self","place"] (jh NF "place")):
  gT P w K mg base 24 "read_change" ["text"] (pE TL NC TM C G Pc Fo Ch):=by
 obtain⟨_,_,cY⟩:=c1
 obtain⟨_,_,fS⟩:=c2
 obtain⟨_,_,dG⟩:=c3
 obtain⟨fc,_,eP⟩:=c4
 obtain⟨_,_,fF⟩:=c5
 obtain⟨fn,_,aN⟩:=c6
 obtain⟨_,mj,mq⟩:=fS.b 0 (by decide)
 refine D.fj jG (fun vs H Q E h=>?_) (fun f br A outer s H vs Q E hr h=>?_)
 ·obtain⟨x,rfl,_⟩:=h
  rfl
 ·obtain⟨x,rfl,hx,q,qM,qE,qL⟩:=h
  have big:(10000 :Nat)≤sizeLine:=by decide
  refine⟨_,(aj
     (bC (vg cY.ok (hr.mono (by decide)) rfl cY.g cY.kp cY.b .nil aO (aa (pv 0) ak)))
    (aj
     (zk ⟨rfl,rfl⟩ (fun _ _=>
      (ao
       (aQ (i:=1) jG.nd rfl (Or.inl rfl) (bU (fZ fS.m fS.ok (hr.mono (by decide)) rfl T.o8 mq mj aV (aa (pv 0) ak)) T.aw dG.m dG.ok (hr.mono (by decide)) dG.b .nil oN)))) (fun _=>(Gg K rfl ⟨rfl,rfl⟩ (vi aO) (i:=2) rfl T.vD T.tD jG.nd rfl rfl (fun _=>
      (ao
       (xE K rfl rfl oN (C1 rfl eP.z eP.ok (hr.mono (by decide)) rfl eP.g eP.kp eP.b (aa (C0 K rfl (pv 2) rfl) ak))))) (CS (vi aO)))))
    (aj
     (aQ (i:=3) jG.nd rfl (Or.inl rfl) (aB cL (bw cM rfl T.gg eI (aa (bx (pv 1) rfl) ak)) (bw cM rfl T.gg eI (aa (bx (pv 1) rfl) ak))))
    (aj
     (bM (bp qy (pv 3) (aP (v:= .int 8) rfl T.tM ⟨_,rfl⟩) (bq _))
      (ao
       (fL rfl aO (fK fF.z fF.ok (hr.mono (by decide)) rfl fF.g fF.kp fF.b (aa (pv 3) ak))))
      ba)
    (ao
     (aH (pv 1))))))),?_⟩
  refine⟨_,rfl,x,rfl,hx,fun h4=>?_,qL⟩
  have q:=q h4
  have qM:=qM h4
  have qE:=qE h4
  refine⟨_,rfl,fun r dr nr ndr ner=>⟨r,dr,x,rfl,ai,fun H1 dM k1=>⟨rfl,?_⟩⟩⟩
  obtain⟨me,dM⟩:=dM
  have s1:aG H H1:=fun b o z=>k1 b o (by rw[ah (af z nr),ah (af z ndr)];exact z) (af z nr)
  have back:∀b,H1 b=none→H b=none:=fun b z=>by
   cases hh:H b with
   |none=>rfl
   |some o=>rw[s1 _ _ hh] at z;cases z
  refine⟨r,me,_,rfl,dM,aI _ _ (by decide+kernel) (by decide+kernel),r,x,rfl,⟨me,dM⟩,by omega,fun xs ys c H2 hG lx ly nc hC k2=>?_,fun e hB he b tN H2 nb nd M5 hd2 k2=>?_⟩
  ·have hC2:=hC H2 fun b o _ z=>z
   obtain⟨dc,l,m,hc,⟨ps,hl,hP⟩,⟨us,hm,hU⟩⟩:=hC2
   have e1:=Paired.length hP
   have e2:=Paired.length hU
   have s2:aG H H2:=fun b o z=>k2 b o (s1 _ _ z) (af z nr)
   dsimp only [kz]
   refine⟨_,rfl,c,Ch,dc,_,_,rfl,hc,T.cU,T.pz,mV _ _,l,_,rfl, .inl (bR.of hl),_,rfl,c,Ch,dc,_,_,rfl,hc,T.cU,T.mi,lL _ _,m,_,rfl, .inl (bR.of hm),_,_,rfl,rfl,?_⟩
   rw[List.length_map,List.length_map,e1,e2]
   by_cases h8:8<xs.length+ys.length
   ·refine⟨_,rfl,_,_,rfl,rfl,_,rfl,ie (by omega) ⟨_,rfl,(by show 1≤100;decide),fun b hb=>?_⟩⟩
    refine⟨b,_,rfl,ai,by omega,by omega,fun jv H5 eZ hX xK uk k5=>⟨rfl,b,TM,HE,_,some jv,rfl,fF.z,xK,?_⟩⟩
    rw[ah hX] at eZ
    have ec:((xs.length:Nat):Int)+((ys.length:Nat):Int)=((xs.length+ys.length:Nat):Int):=by omega
    rw[ec] at uk
    refine qM xs ys hG h8 b jv _ (s2.free hb) (s2.free eZ) ai (by rw[ah hX];exact uk) fun b' o z=>?_
    have tw:b'≠b:=af (s2 _ _ z) hb
    rw[ah tw]
    exact k5 _ _ (by rw[ah tw];exact s2 _ _ z) tw
   ·refine⟨_,rfl,_,_,rfl,rfl,_,rfl,iJ (by omega) ?_⟩
    exact⟨_,rfl,q xs ys c H2 hG (by omega) (back c nc) (fun bQ ke=>hC bQ fun b o z1 z2=>ke b o (back b z1) z2) s2⟩
  ·have s2:aG H H2:=fun b o z=>k2 b o (s1 _ _ z) (af z nr)
   refine⟨NF,HE,fn,true,rfl,aN.z,T.up,eG fun e' AV=>?_⟩
   refine⟨_,rfl,e',NF,HE,fn,tN,_, .int (e:Int),rfl,aN.z,T.GS,AV,hd2,rfl,(by show 1≤100;decide),fun b2 G'=>?_⟩
   have ne2:b2≠e':=fun z=>by rw[z,AV] at G';cases G'
   refine⟨b2,(e:Int),rfl,ai,by omega,by omega,fun jv H5 eZ hX xK uk k5=>⟨rfl,b2,NC,HE,fc,some jv,NF,some tN,rfl,eP.z,xK,T.lt,ne2,k5 _ _ (by rw[ah (Ne.symm ne2)];exact AV) (Ne.symm ne2),T.nl,?_⟩⟩
   rw[ah hX] at eZ
   refine qE e hB he b2 jv _ (s2.free G') (s2.free eZ) ai (by rw[ah hX];exact uk) fun b' o z=>?_
   have tw:b'≠b2:=af (s2 _ _ z) G'
   rw[ah tw]
   exact k5 _ _ (by rw[ah tw];exact s2 _ _ z) tw
variable {κ:List Nat→Option (List Nat)}
inductive Nm where
 |start|Ha|part|dot|lM|minus|bX|stop
 deriving DecidableEq
structure S8 where
 nm:Nm
 sm:Nat
 fg:Nat
 al:Bool
def Fw(s:S8)(dp c:Nat):Option (S8×Nat):=if s.fg=3∨s.fg=0∧c=48 then none else some (⟨s.nm,0,s.fg+1,decide (s.fg=0)&&decide (c=49)⟩,dp)
def Fx(s:S8)(dp c:Nat):Option (S8×Nat):=if je c=true then some (⟨.part,2,0,false⟩,dp) else if s.nm= .start∧c=101 then some (⟨.lM,0,0,false⟩,dp) else if s.nm= .part∧0<s.sm∧s.fg=0 then some (⟨.part,s.sm - 1,0,false⟩,dp) else none
def vW(m:Nm):Nat:=if m= .lM then 94 else if m= .minus then 45 else 43
def fY(s:S8)(dp c:Nat):Option (S8×Nat):=
 if cR c=true∧(s.nm= .part∨s.nm= .dot∨s.nm= .bX) then Fw s dp c
 else if s.al=true∨s.nm= .stop then none
 else if s.nm= .lM∨s.nm= .minus∨s.nm= .bX then (if c=vW s.nm∨s.nm= .bX∧c=45 then some (⟨if s.nm= .lM then .minus else .stop,0,0,false⟩,dp) else none)
 else if je c=true∨fe c=true then Fx s dp c
 else if c=40∧dp<4 then some (⟨.Ha,0,0,false⟩,dp+1)
 else if s.nm= .part∧c=41∧0<dp then some (⟨.part,0,0,false⟩,dp - 1)
 else if s.nm= .part∧(c=46∨c=94)∧dp=0 then some (⟨if c=46 then .dot else .bX,0,0,false⟩,dp)
 else none
def iL(s:S8)(dp:Nat):Prop:=s.nm= .stop∨s.nm= .part∧dp=0∧s.al=false
instance (s:S8) (dp:Nat):Decidable (iL s dp):=by unfold iL;infer_instance
def vd(κ:List Nat→Option (List Nat)):S8→Nat→List Nat→Option (List Nat)
 |s,dp,[]=>if iL s dp then κ [] else some []
 |s,dp,c::r=>if c=32∧iL s dp then κ (c::r) else match fY s dp c with
  |none=>some (c::r)
  |some (s',d')=>vd κ s' d' r
theorem x5(s:S8)(dp:Nat):fY s dp 32=none:=by
 unfold fY
 rw[if_neg (fun z=>by cases z.1)]
 split
 ·rfl
 ·split
  ·rename_i h
   have:¬(32=vW s.nm∨s.nm= .bX∧32=45):=by
    rintro (z| ⟨_,z⟩)
    ·unfold vW at z
     split at z
     ·cases z
     ·split at z<;>cases z
    ·cases z
   rw[if_neg this]
  ·rw[if_neg (by decide),if_neg (fun z=>by cases z.1),if_neg (fun z=>by cases z.2.1),if_neg (fun z=>by rcases z.2.1 with y|y<;>cases y)]
theorem pG{s:S8}{dp c:Nat}{r:List Nat}(h:fY s dp c=none)(iK:c=32→¬iL s dp):vd κ s dp (c::r)=some (c::r):=by rw[vd,if_neg (fun z=>iK z.1 z.2),h]
theorem eC{s s':S8}{dp d' c:Nat}{r:List Nat}(h:fY s dp c=some (s',d')):vd κ s dp (c::r)=vd κ s' d' r:=by
 rw[vd,if_neg (fun z=>by rw[z.1,x5] at h;cases h),h]
theorem tO{s:S8}{dp:Nat}(h:¬iL s dp):vd κ s dp []=some []:=by rw[vd,if_neg h]
theorem pH{s:S8}{dp:Nat}(h1:s.nm≠ .stop)(h2:s.nm≠ .part∨s.al=true∨dp≠0):¬iL s dp:=by
 rintro (z| ⟨z1,z2,z3⟩)
 ·exact h1 z
 ·rcases h2 with y|y|y
  ·exact y z1
  ·rw[y] at z3;cases z3
  ·exact y z2
theorem gq{c:Nat}(h:cR c=true):je c=false∧fe c=false∧c≠40∧c≠41∧c≠46∧c≠94∧c≠45∧c≠43∧c≠101:=by
 simp only [cR,je,fe,Bool.and_eq_true,decide_eq_true_eq,Bool.and_eq_false_iff,decide_eq_false_iff_not] at*
 omega
theorem O5{c:Nat}(h:je c=true):cR c=false∧fe c=false∧c≠40:=by
 simp only [cR,je,fe,Bool.and_eq_true,decide_eq_true_eq,Bool.and_eq_false_iff,decide_eq_false_iff_not] at*
 omega
theorem DP{c:Nat}(h:fe c=true):cR c=false∧je c=false∧c≠40:=by
 simp only [cR,je,fe,Bool.and_eq_true,decide_eq_true_eq,Bool.and_eq_false_iff,decide_eq_false_iff_not] at*
 omega
theorem Hb{s:S8}{dp:Nat}(hn:s.nm= .part∨s.nm= .dot∨s.nm= .bX):∀(w v:List Nat),w.all cR=true→s.fg+w.length≤3→(s.fg=0→w.head? ≠some 48)→w≠[]→
  vd κ s dp (w++v)=vd κ ⟨s.nm,0,s.fg+w.length,decide (s.fg=0)&&decide (w=[49])⟩ dp v:=by
 intro w
 induction w generalizing s with
 |nil=>intro _ _ _ _ h;exact absurd rfl h
 |cons c r ih=>
  intro v ha hl h0 _
  rw[List.all_cons,Bool.and_eq_true] at ha
  rw[List.length_cons] at hl
  have e:fY s dp c=some (⟨s.nm,0,s.fg+1,decide (s.fg=0)&&decide (c=49)⟩,dp):=by
   unfold fY Fw
   rw[if_pos ⟨ha.1,hn⟩,if_neg]
   rintro (z| ⟨z1,z2⟩)
   ·omega
   ·exact h0 z1 (by rw[z2];rfl)
  rw[List.cons_append,eC e]
  cases r with
  |nil=>
   have:(decide ([c]=[49]):Bool)=decide (c=49):=by simp
   rw[this]
   rfl
  |cons b t=>
   rw[ih (s:=⟨s.nm,0,s.fg+1,decide (s.fg=0)&&decide (c=49)⟩) hn v ha.2 (by show s.fg+1+(b::t).length≤3;omega) (fun z=>absurd z (Nat.succ_ne_zero _)) (by simp)]
   show vd κ ⟨s.nm,0,s.fg+1+(b::t).length,decide (s.fg+1=0)&&_⟩ dp v=_
   have e1:(decide (s.fg+1=0):Bool)=false:=by simp
   have e2:(decide (c::b::t=[49]):Bool)=false:=by simp
   rw[e1,e2,Bool.and_false,Bool.false_and,List.length_cons (a:=c)]
   rw[show s.fg+1+(b::t).length=s.fg+((b::t).length+1) by omega]
def Wc(s:S8)(v:List Nat):Prop:=∀c,v.head? =some c→cR c=true→s.fg=3
theorem mr{s:S8}{dp:Nat}(hn:s.nm= .part∨s.nm= .dot∨s.nm= .bX)(hf:s.fg=0)(ha:s.al=false){u v:List Nat}{n:Int}(h:jR 3 u n v):∃s',vd κ s dp u=vd κ s' dp v∧s'.nm=s.nm∧s'.al=false∧Wc s' v∧(s'=s∧u=v∨s'.fg≠0):=by
 obtain⟨e,n1,n2,hl,hv⟩:=h
 obtain⟨m,rfl,m1,m0⟩:=oX n1 (by omega)
 by_cases hw:bG (m:Int)=[]
 ·rw[hw] at e hl hv
  refine⟨s,by rw[e];rfl,rfl,ha,fun c hc hF=>?_, .inl ⟨rfl,e⟩⟩
  rcases hv with z|z
  ·rw[z c hc] at hF;cases hF
  ·cases z
 ·have O6:=nX m
  have e2:=Hb (κ:=κ) (s:=s) (dp:=dp) hn (bG (m:Int)) v (fu m) (by omega) (fun _=>lE m m0) hw
  refine⟨⟨s.nm,0,s.fg+(bG (m:Int)).length,false⟩,?_,rfl,rfl,fun c hc hF=>?_, .inr ?_⟩
  ·rw[e,e2]
   have:(decide (bG (m:Int)=[49]):Bool)=false:=by simpa using O6
   rw[this,Bool.and_false]
  ·rcases hv with z|z
   ·rw[z c hc] at hF;cases hF
   ·show s.fg+(bG (m:Int)).length=3
    omega
  ·show s.fg+(bG (m:Int)).length≠0
   have:(bG (m:Int)).length≠0:=fun z=>hw (List.length_eq_zero_iff.mp z)
   omega
theorem n5{s:S8}{dp:Nat}(hn:s.nm= .part∨s.nm= .dot∨s.nm= .bX)(hf:s.fg=0){u v:List Nat}(h:tu u v):vd κ s dp u=some v:=by
 rcases h with ⟨rfl,h⟩ | ⟨rfl,h⟩
 ·cases v with
  |nil=>cases h
  |cons c r=>
   have:c=48:=by simpa using h
   subst this
   refine pG ?_ (fun z=>by cases z)
   unfold fY Fw
   rw[if_pos ⟨rfl,hn⟩,if_pos (.inr ⟨hf,rfl⟩)]
 ·have e:fY s dp 49=some (⟨s.nm,0,1,true⟩,dp):=by
   unfold fY Fw
   rw[if_pos ⟨rfl,hn⟩,if_neg (by rw[hf];decide),hf]
   rfl
  rw[eC e]
  cases v with
  |nil=>
   refine tO ?_
   rintro (z| ⟨_,_,z⟩)
   ·rcases hn with n|n|n<;>(have z:s.nm= .stop:=z;rw[n] at z;cases z)
   ·cases z
  |cons c r=>
   refine pG ?_ (fun _=>pH (by show s.nm≠ .stop;rcases hn with n|n|n<;>(rw[n];decide)) (.inr (.inl rfl)))
   unfold fY
   rw[if_neg (fun z=>by rw[h c rfl] at z;cases z.1),if_pos (.inl rfl)]
def B5(s:S8)(v:List Nat):Prop:=s.nm= .part∧s.al=false∧Wc s v∧∀c,v.head? =some c→fe c=true→s.sm=0∨s.fg≠0
def iO(s:S8)(u:List Nat):Prop:=s.al=false∧(s.nm= .start∧u.head? ≠some 101∨s.nm= .Ha∨s.nm= .dot∧Wc s u∨s.nm= .part∧More u)
theorem iO.nm{s:S8}{u:List Nat}(h:iO s u):s.nm≠ .stop∧s.nm≠ .lM∧s.nm≠ .minus∧s.nm≠ .bX:=by
 rcases h.2 with z|z|z|z
 ·rw[z.1];decide
 ·rw[z];decide
 ·rw[z.1];decide
 ·rw[z.1];decide
theorem By{s:S8}{dp c:Nat}{r:List Nat}(h:iO s (c::r))(hg:je c=true):fY s dp c=some (⟨.part,2,0,false⟩,dp):=by
 obtain⟨n1,n2,n3,n4⟩:=h.nm
 have ha:=h.1
 unfold fY Fx
 rw[if_neg (fun z=>by rw[(O5 hg).1] at z;cases z.1),if_neg (fun z=>by rcases z with z|z;rw[ha] at z;cases z;exact n1 z),if_neg (fun z=>by rcases z with z|z|z;exact n2 z;exact n3 z;exact n4 z),if_pos (.inl hg),if_pos hg]
theorem Bz{sm dp c:Nat}(h:fe c=true):fY ⟨.part,sm+1,0,false⟩ dp c=some (⟨.part,sm,0,false⟩,dp):=by
 unfold fY Fx
 rw[if_neg (fun z=>by rw[(DP h).1] at z;cases z.1),if_neg (by simp),if_neg (by simp),if_pos (.inr h),if_neg (by rw[(DP h).2.1];simp),if_neg (by simp),if_pos ⟨rfl,Nat.succ_pos _,rfl⟩]
 rfl
theorem rJ:∀(w v:List Nat) (sm dp:Nat),w.all fe=true→vd κ ⟨.part,sm+w.length,0,false⟩ dp (w++v)=vd κ ⟨.part,sm,0,false⟩ dp v
 | [],v,sm,dp,_=>rfl
 |c::r,v,sm,dp,h=>by
  rw[List.all_cons,Bool.and_eq_true] at h
  rw[List.length_cons,←Nat.add_assoc,List.cons_append,eC (Bz h.1),rJ r v sm dp h.2]
theorem zU{s:S8}{dp:Nat}{k w:List Nat}(h:iO s (k++w))(hk:uh k):vd κ s dp (k++w)=vd κ ⟨.part,3 - k.length,0,false⟩ dp w:=by
 obtain⟨c,r,rfl,hg,hs,hl⟩:=hk
 rw[List.cons_append] at h ⊢
 rw[eC (By h hg)]
 have:=rJ (κ:=κ) r w (2 - r.length) dp hs
 rw[show 2 - r.length+r.length=2 by omega] at this
 rw[this,List.length_cons]
 rw[show 3 - (r.length+1)=2 - r.length by omega]
theorem vX{s:S8}{dp:Nat}{u k v:List Nat}{n:Int}(h:iO s u)(a:jX u k n v):∃s',vd κ s dp u=vd κ s' dp v∧B5 s' v:=by
 obtain⟨w,rfl,hk,hs,hN⟩:=a
 rw[zU h hk]
 obtain⟨s',e,h1,h2,h3,h4⟩:=mr (κ:=κ) (s:=⟨.part,3 - k.length,0,false⟩) (dp:=dp) (.inl rfl) rfl rfl hN
 refine⟨s',e,h1,h2,h3,fun c hc hS=>?_⟩
 rcases h4 with ⟨rfl,rfl⟩ |z
 ·rcases hs with z|z
  ·left
   show 3 - k.length=0
   omega
  ·rw[z c hc] at hS;cases hS
 ·exact .inr z
theorem vY{s:S8}{dp:Nat}{u v:List Nat}(h:iO s u)(h4:dp=4∨u.head? ≠some 40)(a:zJ u v):vd κ s dp u=some v:=by
 rcases a with ⟨rfl,a⟩ | ⟨k,w,rfl,hk,hs,hN⟩
 ·obtain⟨n1,n2,n3,n4⟩:=h.nm
  have ha:=h.1
  cases v with
  |nil=>
   refine tO ?_
   rintro (z| ⟨z,_⟩)
   ·exact n1 z
   ·rcases h.2 with y|y|y|y
    ·rw[y.1] at z;cases z
    ·rw[y] at z;cases z
    ·rw[y.1] at z;cases z
    ·obtain⟨c,hc,_⟩:=y.2;cases hc
  |cons c r=>
   refine pG ?_ (fun iK=>pH n1 ?_)
   rotate_left
   ·rcases h.2 with y|y|y|y
    ·exact .inl (by rw[y.1];decide)
    ·exact .inl (by rw[y];decide)
    ·exact .inl (by rw[y.1];decide)
    ·obtain⟨b,hb,qR⟩:=y.2
     have:c=b:=by simpa using hb
     subst this
     subst iK
     rcases qR with z|z<;>cases z
   have hg:je c=false:=a c rfl
   unfold fY
   by_cases hF:cR c=true
   ·by_cases hp:s.nm= .part∨s.nm= .dot∨s.nm= .bX
    ·rw[if_pos ⟨hF,hp⟩]
     unfold Fw
     rcases h.2 with y|y|y|y
     ·rw[y.1] at hp;rcases hp with z|z|z<;>cases z
     ·rw[y] at hp;rcases hp with z|z|z<;>cases z
     ·rw[if_pos (.inl (y.2 c rfl hF))]
     ·obtain⟨b,hb,qR⟩:=y.2
      have:c=b:=by simpa using hb
      subst this
      rcases qR with z|z
      ·rw[hg] at z;cases z
      ·exact absurd z (gq hF).2.2.1
    ·rw[if_neg (fun z=>hp z.2),if_neg (fun z=>by rcases z with z|z;rw[ha] at z;cases z;exact n1 z),if_neg (fun z=>by rcases z with z|z|z;exact n2 z;exact n3 z;exact n4 z),if_neg (by rw[hg,(gq hF).2.1];simp),if_neg (fun z=>(gq hF).2.2.1 z.1),if_neg (fun z=>(gq hF).2.2.2.1 z.2.1),if_neg (fun z=>by rcases z.2.1 with y|y;exact(gq hF).2.2.2.2.1 y;exact(gq hF).2.2.2.2.2.1 y)]
   ·rw[if_neg (fun z=>hF z.1),if_neg (fun z=>by rcases z with z|z;rw[ha] at z;cases z;exact n1 z),if_neg (fun z=>by rcases z with z|z|z;exact n2 z;exact n3 z;exact n4 z)]
    have hnp:c≠40→s.nm≠ .part:=fun p7 hp=>by
     rcases h.2 with y|y|y|y
     ·rw[y.1] at hp;cases hp
     ·rw[y] at hp;cases hp
     ·rw[y.1] at hp;cases hp
     ·obtain⟨b,hb,qR⟩:=y.2
      have:c=b:=by simpa using hb
      subst this
      rcases qR with z|z
      ·rw[hg] at z;cases z
      ·exact p7 z
    by_cases hS:fe c=true
    ·rw[if_pos (.inr hS)]
     unfold Fx
     have hp:=hnp (DP hS).2.2
     rw[if_neg (by rw[hg];simp),if_neg,if_neg (fun z=>hp z.1)]
     rintro ⟨z1,z2⟩
     rcases h.2 with y|y|y|y
     ·exact y.2 (by rw[z2];rfl)
     ·rw[y] at z1;cases z1
     ·rw[y.1] at z1;cases z1
     ·rw[y.1] at z1;cases z1
    ·rw[if_neg (by rw[hg];rintro (z|z);cases z;exact hS z)]
     by_cases p7:c=40
     ·subst p7
      have d4:dp=4:=h4.elim id fun z=>absurd rfl z
      rw[if_neg (fun z=>by omega),if_neg (fun z=>by cases z.2.1),if_neg (fun z=>by rcases z.2.1 with y|y<;>cases y)]
     ·have hp:=hnp p7
      rw[if_neg (fun z=>p7 z.1),if_neg (fun z=>hp z.1),if_neg (fun z=>hp z.1)]
 ·rw[zU h hk]
  exact n5 (.inl rfl) rfl hN
theorem B5.exp{s:S8}{v:List Nat}(h:B5 s v)(m:More v):iO s v:=⟨h.2.1, .inr (.inr (.inr ⟨h.1,m⟩))⟩
theorem rK{p:List Nat→Tr→List Nat→Prop}{dp:Nat}(hp:∀s u t v,iO s u→p u t v→∃s',vd κ s dp u=vd κ s' dp v∧B5 s' v){s:S8}{u:List Nat}(h:iO s u):∀{ts:List Tr} {v:List Nat},Sq p u ts v→∃s',vd κ s dp u=vd κ s' dp v∧B5 s' v:=by
 intro ts v q
 induction q with
 |one t v a=>exact hp s u t v h a
 |snoc ts w t v _ m a ih=>
  obtain⟨s',e,c⟩:=ih
  obtain⟨s2,e2,c2⟩:=hp s' w t v (c.exp m) a
  exact⟨s2,e.trans e2,c2⟩
theorem x6{p:List Nat→Tr→List Nat→Prop}{b:List Nat→List Nat→Prop}{dp:Nat}(hp:∀s u t v,iO s u→p u t v→∃s',vd κ s dp u=vd κ s' dp v∧B5 s' v)(hb:∀s u v,iO s u→b u v→vd κ s dp u=some v){s:S8}{u v:List Nat}(h:iO s u)(q:M8 p b u v):vd κ s dp u=some v:=by
 rcases q with q| ⟨ts,w,q,m,a⟩
 ·exact hb s u v h q
 ·obtain⟨s',e,c⟩:=rK hp h q
  rw[e]
  exact hb s' w v (c.exp m) a
theorem vZ{s:S8}{dp:Nat}{r:List Nat}(h:iO s (40::r))(hd:dp<4):fY s dp 40=some (⟨.Ha,0,0,false⟩,dp+1):=by
 obtain⟨n1,n2,n3,n4⟩:=h.nm
 have ha:=h.1
 unfold fY
 rw[if_neg (fun z=>by cases z.1),if_neg (fun z=>by rcases z with z|z;rw[ha] at z;cases z;exact n1 z),if_neg (fun z=>by rcases z with z|z|z;exact n2 z;exact n3 z;exact n4 z),if_neg (by decide),if_pos ⟨rfl,hd⟩]
theorem wa{s:S8}{dp:Nat}{r:List Nat}(h:B5 s (41::r)):fY s (dp+1) 41=some (⟨.part,0,0,false⟩,dp):=by
 obtain⟨hn,ha,_⟩:=h
 unfold fY
 rw[if_neg (fun z=>by cases z.1),if_neg (by rw[ha,hn];decide),if_neg (by rw[hn];decide),if_neg (by decide),if_neg (fun z=>by cases z.1),if_pos ⟨hn,rfl,Nat.succ_pos _⟩]
 rfl
theorem B5.no{s:S8}{dp c:Nat}{r:List Nat}(h:B5 s (c::r))(hm:¬More (c::r))(GO:c=41→dp=0)(h0:c=46∨c=94→dp≠0):fY s dp c=none:=by
 obtain⟨hn,ha,hF,hS⟩:=h
 have hg:je c=false:=by
  cases e:je c with
  |false=>rfl
  |true=>exact absurd ⟨c,rfl, .inl e⟩ hm
 have p7:c≠40:=fun z=>hm ⟨c,rfl, .inr z⟩
 unfold fY
 by_cases f:cR c=true
 ·rw[if_pos ⟨f, .inl hn⟩]
  unfold Fw
  rw[if_pos (.inl (hF c rfl f))]
 ·rw[if_neg (fun z=>f z.1),if_neg (by rw[ha,hn];decide),if_neg (by rw[hn];decide)]
  by_cases hs:fe c=true
  ·rw[if_pos (.inr hs)]
   unfold Fx
   rw[if_neg (by rw[hg];simp),if_neg (by rw[hn];rintro ⟨z,_⟩;cases z),if_neg]
   rintro ⟨_,z1,z2⟩
   rcases hS c rfl hs with z|z
   ·omega
   ·exact z z2
  ·rw[if_neg (by rw[hg];rintro (z|z);cases z;exact hs z),if_neg (fun z=>p7 z.1),if_neg (fun z=>by have:=GO z.2.1;omega),if_neg (fun z=>h0 z.2.1 z.2.2)]
theorem tP:∀(d dp:Nat),dp+d=4→(∀s u t v,iO s u→km d u t v→∃s',vd κ s dp u=vd κ s' dp v∧B5 s' v)∧(∀s u v,iO s u→Ln d u v→vd κ s dp u=some v)
 |0,dp,hd=>⟨fun s u t v h ⟨k,n,_,a⟩=>vX h a,fun s u v h a=>vY h (.inl hd) a⟩
 |d+1,dp,hd=>by
  obtain⟨hG,hB⟩:=tP d (dp+1) (by omega)
  have e0:∀u':List Nat,iO ⟨.Ha,0,0,false⟩ u':=fun u'=>⟨rfl, .inr (.inl rfl)⟩
  refine⟨fun s u t v h a=>?_,fun s u v h a=>?_⟩
  ·rcases a with ⟨_,k,n,_,a⟩ | ⟨u',ts,n,w,rfl,rfl,⟨q,_⟩,hN⟩
   ·exact vX h a
   ·obtain⟨s',e,c⟩:=rK hG (e0 u') q
    obtain⟨s2,e2,h1,h2,h3,h4⟩:=mr (κ:=κ) (s:=⟨.part,0,0,false⟩) (dp:=dp) (.inl rfl) rfl rfl hN
    refine⟨s2,by rw[eC (vZ h (by omega)),e,eC (wa c),e2],h1,h2,h3,fun b hb hS=>?_⟩
    rcases h4 with ⟨z,_⟩ |z
    ·rw[z];exact .inl rfl
    ·exact .inr z
  ·rcases a with ⟨p7,a⟩ | ⟨u',rfl,a⟩
   ·exact vY h (.inr p7) a
   ·rw[eC (vZ h (by omega))]
    rcases a with a| ⟨ts,⟨q,hm⟩,GO⟩ | ⟨ts,w,⟨q,_⟩,hN⟩
    ·exact x6 hG hB (e0 u') a
    ·obtain⟨s',e,c⟩:=rK hG (e0 u') q
     rw[e]
     cases v with
     |nil=>
      refine tO ?_
      rintro (z| ⟨_,z,_⟩)
      ·rw[c.1] at z;cases z
      ·omega
     |cons b r=>exact pG (c.no hm (fun z=>absurd (by rw[z];rfl) GO) fun _=>Nat.succ_ne_zero _) (fun _=>pH (by rw[c.1];decide) (.inr (.inr (Nat.succ_ne_zero _))))
    ·obtain⟨s',e,c⟩:=rK hG (e0 u') q
     rw[e,eC (wa c)]
     exact n5 (.inl rfl) rfl hN
theorem n6{s:S8}{c:Nat}{r:List Nat}(h:B5 s (c::r))(hc:c=46∨c=94):fY s 0 c=some (⟨if c=46 then .dot else .bX,0,0,false⟩,0):=by
 obtain⟨hn,ha,_⟩:=h
 have h1:cR c=false∧je c=false∧fe c=false∧c≠40∧c≠41:=by rcases hc with rfl|rfl<;>decide
 unfold fY
 rw[if_neg (fun z=>by rw[h1.1] at z;cases z.1),if_neg (by rw[ha,hn];decide),if_neg (by rw[hn];decide),if_neg (by rw[h1.2.1,h1.2.2.1];simp),if_neg (fun z=>h1.2.2.2.1 z.1),if_neg (fun z=>h1.2.2.2.2 z.2.1),if_pos ⟨hn,hc,rfl⟩]
theorem x'{s:S8}{u:List Nat}(h:iO s u):∀{ps:List iG} {v:List Nat},wX u ps v→(∃s',vd κ s 0 u=vd κ s' 0 v∧B5 s' v)∧¬More v:=by
 obtain⟨hG,hB⟩:=tP (κ:=κ) 4 0 rfl
 intro ps v q
 induction q with
 |one ts v a=>exact⟨rK hG h a.1,a.2⟩
 |snoc ps w m w1 ts v _ n a ih=>
  obtain⟨⟨s',e,c⟩,_⟩:=ih
  obtain⟨s2,e2,h1,h2,h3,_⟩:=mr (κ:=κ) (s:=⟨.dot,0,0,false⟩) (dp:=0) (.inr (.inl rfl)) rfl rfl n
  obtain⟨s3,e3,c3⟩:=rK hG (s:=s2) ⟨h2, .inr (.inr (.inl ⟨h1,h3⟩))⟩ a.1
  exact⟨⟨s3,by rw[e,eC (n6 c (.inl rfl))];exact e2.trans e3,c3⟩,a.2⟩
def j3:S8:=⟨.start,0,0,false⟩
theorem LF:∀v:List Nat,vd κ j3 0 (101::v)=vd κ ⟨.lM,0,0,false⟩ 0 v:=fun _=>eC rfl
def cont(κ:List Nat→Option (List Nat))(v:List Nat):Option (List Nat):=if v=[]∨v.head? =some 32 then κ v else some v
theorem ya{s:S8}{v:List Nat}(ha:iL s 0)(hn:∀c r,v=c::r→c≠32→fY s 0 c=none):vd κ s 0 v=cont κ v:=by
 unfold cont
 cases v with
 |nil=>rw[vd,if_pos ha,if_pos (.inl rfl)]
 |cons c r=>
  by_cases h:c=32
  ·subst h
   rw[vd,if_pos ⟨rfl,ha⟩,if_pos (.inr rfl)]
  ·rw[pG (hn c r rfl h) (fun z=>absurd z h),if_neg]
   rintro (z|z)
   ·cases z
   ·exact h (by simpa using z)
theorem ye{u v:List Nat}{xs:List iG}{n:Int}(h:Fu u xs n v):vd κ j3 0 u=cont κ v:=by
 rcases h with ⟨rfl,_⟩ | ⟨h0,w,q,GP,c⟩
 ·rw[LF,eC (s':=⟨.minus,0,0,false⟩) (d':=0) rfl,eC (s':=⟨.stop,0,0,false⟩) (d':=0) rfl]
  refine ya (.inl rfl) fun c r _ _=>?_
  unfold fY
  rw[if_neg (by rintro ⟨_,z|z|z⟩<;>cases z),if_pos (.inr rfl)]
 ·obtain⟨⟨s',e,cl⟩,hm⟩:=x' (κ:=κ) (s:=j3) ⟨rfl, .inl ⟨rfl,h0⟩⟩ q
  rw[e]
  rcases c with ⟨h94,_,rfl⟩ | ⟨u',m,w2,rfl,hN,hs⟩
  ·refine ya (.inr ⟨cl.1,rfl,cl.2.1⟩) fun b r hv _=>?_
   subst hv
   exact cl.no hm (fun _=>rfl) fun z=>by
    rcases z with z|z
    ·exact absurd (by rw[z];rfl) GP
    ·exact absurd (by rw[z];rfl) h94
  ·obtain⟨s2,e2,h1,h2,h3,_⟩:=mr (κ:=κ) (s:=⟨.bX,0,0,false⟩) (dp:=0) (.inr (.inr rfl)) rfl rfl hN
   rw[eC (n6 cl (.inr rfl))]
   show vd κ ⟨.bX,0,0,false⟩ 0 u'=_
   rw[e2]
   have hs:∃b,w2=b::v∧(b=45∨b=43):=by
    rcases hs with ⟨z,_⟩ | ⟨z,_⟩
    ·exact⟨_,z, .inl rfl⟩
    ·exact⟨_,z, .inr rfl⟩
   obtain⟨b,rfl,hb⟩:=hs
   have hn:s2.nm= .bX:=h1
   have en:fY s2 0 b=some (⟨.stop,0,0,false⟩,0):=by
    unfold fY
    rw[if_neg (by rcases hb with rfl|rfl<;>(rintro ⟨z,_⟩;cases z)),if_neg (by rw[h2,hn];decide),if_pos (.inr (.inr hn)),hn,if_pos (by rcases hb with rfl|rfl;exact .inr ⟨rfl,rfl⟩;exact .inl rfl)]
    rfl
   rw[eC en]
   refine ya (.inl rfl) fun c r _ _=>?_
   unfold fY
   rw[if_neg (by rintro ⟨_,z|z|z⟩<;>cases z),if_pos (.inr rfl)]
theorem DQ{u v:List Nat}(h:OP u v):vd κ j3 0 u=some v:=by
 have ro:∀(m:Nm) (c:Nat) (r:List Nat),(m= .lM∧c≠94∨m= .minus∧c≠45)→vd κ ⟨m,0,0,false⟩ 0 (c::r)=some (c::r):=fun m c r hh=>by
  refine pG ?_ (fun _=>by rcases hh with ⟨rfl,_⟩ | ⟨rfl,_⟩<;>exact pH (by decide) (.inl (by decide)))
  unfold fY
  rcases hh with ⟨rfl,z⟩ | ⟨rfl,z⟩
  ·rw[if_neg (by rintro ⟨_,z|z|z⟩<;>cases z),if_neg (by decide),if_pos (.inl rfl),if_neg (by rintro (y| ⟨y,_⟩);exact z y;cases y)]
  ·rw[if_neg (by rintro ⟨_,z|z|z⟩<;>cases z),if_neg (by decide),if_pos (.inr (.inl rfl)),if_neg (by rintro (y| ⟨y,_⟩);exact z y;cases y)]
 rcases h with h| ⟨h0,h⟩
 ·rcases h with ⟨rfl,h⟩ | ⟨rfl,h⟩
  ·rw[LF]
   cases v with
   |nil=>rfl
   |cons c r=>exact ro _ _ _ (.inl ⟨rfl,fun z=>h (by rw[z];rfl)⟩)
  ·rw[LF,eC (s':=⟨.minus,0,0,false⟩) (d':=0) rfl]
   cases v with
   |nil=>rfl
   |cons c r=>exact ro _ _ _ (.inr ⟨rfl,fun z=>h (by rw[z];rfl)⟩)
 ·obtain⟨hG,hB⟩:=tP (κ:=κ) 4 0 rfl
  have ex:iO j3 u:=⟨rfl, .inl ⟨rfl,h0⟩⟩
  rcases h with h| ⟨ps,w,q,h⟩ | ⟨ps,w,q,GP,h⟩
  ·exact x6 hG hB ex h
  ·obtain⟨⟨s',e,cl⟩,_⟩:=x' (κ:=κ) ex q
   rw[e,eC (n6 cl (.inl rfl))]
   show vd κ ⟨.dot,0,0,false⟩ 0 w=_
   rcases h with h| ⟨m,w1,n,h⟩
   ·exact n5 (.inr (.inl rfl)) rfl h
   ·obtain⟨s2,e2,h1,h2,h3,_⟩:=mr (κ:=κ) (s:=⟨.dot,0,0,false⟩) (dp:=0) (.inr (.inl rfl)) rfl rfl n
    rw[e2]
    exact x6 hG hB ⟨h2, .inr (.inr (.inl ⟨h1,h3⟩))⟩ h
  ·obtain⟨⟨s',e,cl⟩,_⟩:=x' (κ:=κ) ex q
   obtain⟨u',rfl,h⟩:=h
   rw[e,eC (n6 cl (.inr rfl))]
   show vd κ ⟨.bX,0,0,false⟩ 0 u'=_
   rcases h with h| ⟨m,n,mR,OT⟩
   ·exact n5 (.inr (.inr rfl)) rfl h
   ·obtain⟨s2,e2,h1,h2,h3,_⟩:=mr (κ:=κ) (s:=⟨.bX,0,0,false⟩) (dp:=0) (.inr (.inr rfl)) rfl rfl n
    have hn:s2.nm= .bX:=h1
    rw[e2]
    cases v with
    |nil=>
     refine tO ?_
     rintro (z| ⟨z,_⟩)<;>(rw[hn] at z;cases z)
    |cons c r=>
     refine pG ?_ (fun _=>pH (by rw[hn];decide) (.inl (by rw[hn];decide)))
     unfold fY
     by_cases f:cR c=true
     ·rw[if_pos ⟨f, .inr (.inr hn)⟩]
      unfold Fw
      rw[if_pos (.inl (h3 c rfl f))]
     ·rw[if_neg (fun z=>f z.1),if_neg (by rw[h2,hn];decide),if_pos (.inr (.inr hn)),hn,if_neg]
      rintro (z| ⟨_,z⟩)
      ·exact OT (by rw[show c=43 from z];rfl)
      ·exact mR (by rw[z];rfl)
inductive N5 where
 |term|start|Ha|part|dot|lM|minus|bX|stop|count|gap|plus|dash|head
 deriving DecidableEq
structure S5 where
 nm:N5
 sm:Nat
 fg:Nat
 al:Bool
def DR(m:N5)(fg c most:Nat):Option S5:=if fg=most∨fg=0∧c=48 then none else some ⟨m,0,fg+1,decide (fg=0)&&decide (c=49)⟩
def O7(s:S5)(c:Nat):Option S5:=if je c=true then some ⟨.part,2,0,false⟩ else if (s.nm= .term∨s.nm= .start)∧c=101 then some ⟨.lM,0,0,false⟩ else if s.nm= .part∧0<s.sm∧s.fg=0 then some ⟨.part,s.sm - 1,0,false⟩ else none
def um:N5→Nat
 | .lM=>94| .minus=>45| .plus=>32| .dash=>62| .head=>32| .count=>32| .gap=>43|_=>0
def yf:N5→N5
 | .lM=> .minus| .minus=> .stop| .plus=> .term| .dash=> .head| .head=> .term| .count=> .start|_=> .plus
def wb(m:N5)(rt:Bool)(c:Nat):Option S5:=
 if m= .bX∧(c=43∨c=45) then some ⟨.stop,0,0,false⟩
 else if m= .gap∧c=45∧rt=false then some ⟨.dash,0,0,false⟩
 else if m≠ .bX∧c=um m then some ⟨yf m,0,0,false⟩ else none
def uo(s:S5)(dp:Nat):Prop:=s.nm= .stop∨s.nm= .part∧dp=0∧s.al=false
instance (s:S5) (dp:Nat):Decidable (uo s dp):=by unfold uo;infer_instance
def qb(m:N5):Prop:=m= .bX∨m= .lM∨m= .minus∨m= .plus∨m= .dash∨m= .head∨m= .count∨m= .gap
instance (m:N5):Decidable (qb m):=by unfold qb;infer_instance
def d5(s:S5)(dp:Nat)(rt:Bool)(c:Nat):Option S5:=
 if cR c=true then
  (if s.nm= .term then DR .count 0 c 12
  else if s.nm= .part∨s.nm= .dot∨s.nm= .bX∨s.nm= .count then DR s.nm s.fg c (if s.nm= .count then 12 else 3) else none)
 else if s.al=true then none
 else if qb s.nm then wb s.nm rt c
 else if c=32∧uo s dp then some ⟨.gap,0,0,false⟩
 else if s.nm= .stop then none
 else if je c=true∨fe c=true then O7 s c
 else if c=40∧dp<4 then some ⟨.Ha,0,0,false⟩
 else if s.nm= .part∧c=41∧0<dp then some ⟨.part,0,0,false⟩
 else if s.nm= .part∧(c=46∨c=94)∧dp=0 then some ⟨if c=46 then .dot else .bX,0,0,false⟩
 else none
def nj(dp c:Nat):Nat:=dp+(if c=40 then 1 else 0) - (if c=41 then 1 else 0)
def d6:S5→Nat→Bool→List Nat→Option (List Nat)
 |s,dp,rt,[]=>if rt=true∧uo s dp then none else some []
 |s,dp,rt,c::r=>match d5 s dp (rt||decide (s.nm= .head)) c with
  |none=>some (c::r)
  |some s'=>d6 s' (nj dp c) (rt||decide (s.nm= .head)) r
theorem mv{s:S5}{dp c:Nat}{rt:Bool}{r:List Nat}(h:d5 s dp (rt||decide (s.nm= .head)) c=none):d6 s dp rt (c::r)=some (c::r):=by rw[d6,h]
theorem fT{s s':S5}{dp c:Nat}{rt:Bool}{r:List Nat}(h:d5 s dp (rt||decide (s.nm= .head)) c=some s'):d6 s dp rt (c::r)=d6 s' (nj dp c) (rt||decide (s.nm= .head)) r:=by rw[d6,h]
def zV:Nm→N5
 | .start=> .start| .Ha=> .Ha| .part=> .part| .dot=> .dot| .lM=> .lM| .minus=> .minus| .bX=> .bX| .stop=> .stop
def up(s:S8):S5:=⟨zV s.nm,s.sm,s.fg,s.al⟩
theorem zW{s:S8}{dp:Nat}:uo (up s) dp↔iL s dp:=by
 unfold uo iL up
 cases s.nm<;>simp [zV]
theorem wc(s:S8)(dp:Nat)(rt:Bool)(c:Nat)(hs:s.nm= .stop→s.al=false):d5 (up s) dp rt c=if c=32∧iL s dp then some ⟨.gap,0,0,false⟩ else (fY s dp c).map fun p=>up p.1:=by
 obtain⟨nm,sm,fg,al⟩:=s
 by_cases hF:cR c=true
 ·have hn:=gq hF
  have iK:c≠32:=fun z=>by rw[z] at hF;cases hF
  rw[if_neg (fun z=>iK z.1)]
  unfold d5
  rw[if_pos hF]
  unfold fY Fw DR Fx
  cases nm<;>cases al<;>simp [up,zV,hF,hn,vW]<;>(try (split<;>simp_all [up,zV]<;>(try rfl)))
 ·unfold d5
  rw[if_neg hF]
  unfold fY Fx O7 wb
  by_cases iK:c=32
  ·subst iK
   cases nm<;>cases al<;>simp [up,zV,vW,qb,um,yf,uo,iL,je,fe,cR] at hs ⊢<;>(try (split<;>simp_all [up,zV]))
  ·cases nm<;>cases al<;>simp [up,zV,hF,iK,vW,qb,um,yf,uo,iL]
   all_goals (try (repeat' split)<;>simp_all [up,zV])
theorem zX{s s':S8}{dp d' c:Nat}(h:fY s dp c=some (s',d')):d'=nj dp c:=by
 obtain⟨nm,sm,fg,al⟩:=s
 unfold fY Fw Fx at h
 unfold nj
 by_cases p7:c=40
 ·subst p7
  cases nm<;>cases al<;>simp [cR,je,fe,vW] at h ⊢<;>(try omega)
 ·by_cases GO:c=41
  ·subst GO
   cases nm<;>cases al<;>simp [cR,je,fe,vW] at h ⊢<;>(try omega)
  ·rw[if_neg p7,if_neg GO]
   simp only [p7,GO,false_and,and_false,if_false] at h
   cases nm<;>cases al<;>simp at h<;>(repeat' split at h)<;>simp_all
structure J8(s:S8)(dp:Nat):Prop where
 z:s.nm≠ .part→s.nm≠ .Ha→dp=0
 st:s.nm= .stop→s.al=false
theorem J8.go{s s':S8}{dp d' c:Nat}(j:J8 s dp)(h:fY s dp c=some (s',d')):J8 s' d':=by
 obtain⟨j1,j2⟩:=j
 unfold fY at h
 split at h
 ·rename_i h0
  unfold Fw at h
  split at h
  ·cases h
  ·cases h
   exact⟨j1,fun z=>by
    have z:s.nm= .stop:=z
    rw[z] at h0
    rcases h0.2 with y|y|y<;>cases y⟩
 ·split at h
  ·cases h
  ·split at h
   ·rename_i h0
    split at h
    ·cases h
     refine⟨fun _ _=>j1 ?_ ?_,fun _=>rfl⟩<;>(intro z;rw[z] at h0;rcases h0 with y|y|y<;>cases y)
    ·cases h
   ·split at h
    ·unfold Fx at h
     split at h
     ·cases h
      exact⟨fun z=>absurd rfl z,fun z=>by cases z⟩
     ·split at h
      ·rename_i h0
       cases h
       exact⟨fun _ _=>j1 (by rw[h0.1];decide) (by rw[h0.1];decide),fun z=>by cases z⟩
      ·split at h
       ·cases h
        exact⟨fun z=>absurd rfl z,fun z=>by cases z⟩
       ·cases h
    ·split at h
     ·cases h
      exact⟨fun _ z=>absurd rfl z,fun z=>by cases z⟩
     ·split at h
      ·cases h
       exact⟨fun z=>absurd rfl z,fun z=>by cases z⟩
      ·split at h
       ·rename_i h0
        cases h
        exact⟨fun _ _=>h0.2.2,fun z=>by
         have z:(if c=46 then Nm.dot else Nm.bX)= .stop:=z
         split at z<;>cases z⟩
       ·cases h
def κ5(rt:Bool):List Nat→Option (List Nat)
 | []=>if rt=true then none else some []
 |_::r=>d6 ⟨.gap,0,0,false⟩ 0 rt r
theorem n8(s:S8):(up s).nm≠ .head:=by
 unfold up
 cases s.nm<;>simp [zV]
theorem DS{rt:Bool}:∀(u:List Nat) {s:S8} {dp:Nat},J8 s dp→d6 (up s) dp rt u=vd (κ5 rt) s dp u
 | [],s,dp,j=>by
   rw[d6,vd]
   by_cases ha:iL s dp
   ·rw[if_pos ha]
    by_cases hr:rt=true
    ·rw[if_pos ⟨hr,zW.mpr ha⟩]
     unfold κ5
     rw[if_pos hr]
    ·rw[if_neg (fun z=>hr z.1)]
     unfold κ5
     rw[if_neg hr]
   ·rw[if_neg ha,if_neg (fun z=>ha (zW.mp z.2))]
 |c::r,s,dp,j=>by
  have hh:(rt||decide ((up s).nm= .head))=rt:=by rw[decide_eq_false (n8 s),Bool.or_false]
  have e:=wc s dp rt c j.st
  by_cases ha:c=32∧iL s dp
  ·rw[if_pos ha] at e
   rw[fT (s':=⟨.gap,0,0,false⟩) (by rw[hh];exact e),vd,if_pos ha,hh]
   have h0:dp=0:=by
    rcases ha.2 with z|z
    ·exact j.z (by rw[z];decide) (by rw[z];decide)
    ·exact z.2.1
   rw[ha.1,h0]
   rfl
  ·rw[if_neg ha] at e
   cases hn:fY s dp c with
   |none=>
    rw[hn] at e
    rw[mv (by rw[hh];exact e),vd,if_neg ha,hn]
   |some p=>
    obtain⟨s',d'⟩:=p
    rw[hn] at e
    rw[fT (by rw[hh];exact e),hh,eC hn,←zX hn]
    exact DS r (j.go hn)
abbrev t5:S5:=⟨.term,0,0,false⟩
theorem Ng:J8 j3 0:=⟨fun _ _=>rfl,fun z=>by cases z⟩
theorem pI{rt:Bool}{u:List Nat}(h:Not cR u):d6 t5 0 rt u=vd (κ5 rt) j3 0 u:=by
 rw[←DS u Ng]
 cases u with
 |nil=>simp [d6,uo,up,zV,j3]
 |cons c r=>
  have hf:cR c=false:=h c rfl
  have e:d5 t5 0 (rt||decide (t5.nm= .head)) c=d5 (up j3) 0 (rt||decide ((up j3).nm= .head)) c:=by
   unfold d5 O7
   simp [hf,up,zV,j3,qb,uo]
  rw[d6,d6,e]
  rfl
theorem mW{rt:Bool}(u:List Nat){sm fg:Nat}:d6 ⟨.count,sm,fg,false⟩ 0 rt (32::u)=vd (κ5 rt) j3 0 u:=by
 rw[←DS u Ng]
 have e:d5 ⟨.count,sm,fg,false⟩ 0 (rt||decide ((N5.count)= .head)) 32=some (up j3):=by
  unfold d5 wb
  simp [cR,qb,um,yf,up,zV,j3]
 rw[fT e]
 simp [nj]
theorem DT{rt:Bool}{w:List Nat}{sm fg:Nat}(iK:w.head? ≠some 32)(hv:Not cR w∨fg=12):d6 ⟨.count,sm,fg,false⟩ 0 rt w=some w:=by
 cases w with
 |nil=>simp [d6,uo]
 |cons c r=>
  refine mv ?_
  have hc:c≠32:=fun z=>iK (by rw[z];rfl)
  unfold d5 DR wb
  by_cases hf:cR c=true
  ·have T4:fg=12:=hv.elim (fun z=>by rw[z c rfl] at hf;cases hf) id
   simp [hf,T4]
  ·simp [hf,qb,um,hc]
theorem yg{rt:Bool}{s:S5}(hn:s.nm= .count):∀(w v:List Nat),w.all cR=true→s.fg+w.length≤12→(s.fg=0→w.head? ≠some 48)→w≠[]→
  d6 s 0 rt (w++v)=d6 ⟨.count,0,s.fg+w.length,decide (s.fg=0)&&decide (w=[49])⟩ 0 rt v:=by
 intro w
 induction w generalizing s with
 |nil=>intro _ _ _ _ h;exact absurd rfl h
 |cons c r ih=>
  intro v ha hl h0 _
  rw[List.all_cons,Bool.and_eq_true] at ha
  rw[List.length_cons] at hl
  have hh:(rt||decide (s.nm= .head))=rt:=by rw[hn];simp
  have c40:c≠40∧c≠41:=⟨(gq ha.1).2.2.1,(gq ha.1).2.2.2.1⟩
  have e:d5 s 0 rt c=some ⟨.count,0,s.fg+1,decide (s.fg=0)&&decide (c=49)⟩:=by
   unfold d5 DR
   rw[if_pos ha.1,hn,if_neg (by decide),if_pos (by decide),if_pos rfl,if_neg]
   rintro (z| ⟨z1,z2⟩)
   ·omega
   ·exact h0 z1 (by rw[z2];rfl)
  have d0:nj 0 c=0:=by unfold nj;rw[if_neg c40.1,if_neg c40.2]
  rw[List.cons_append,fT (by rw[hh];exact e),hh,d0]
  cases r with
  |nil=>
   have:(decide ([c]=[49]):Bool)=decide (c=49):=by simp
   rw[this]
   rfl
  |cons b t=>
   rw[ih (s:=⟨.count,0,s.fg+1,decide (s.fg=0)&&decide (c=49)⟩) rfl v ha.2 (by show s.fg+1+(b::t).length≤12;omega) (fun z=>absurd z (Nat.succ_ne_zero _)) (by simp)]
   show d6 ⟨.count,0,s.fg+1+(b::t).length,decide (s.fg+1=0)&&_⟩ 0 rt v=_
   have e1:(decide (s.fg+1=0):Bool)=false:=by simp
   have e2:(decide (c::b::t=[49]):Bool)=false:=by simp
   rw[e1,e2,Bool.and_false,Bool.false_and,List.length_cons (a:=c)]
   rw[show s.fg+1+(b::t).length=s.fg+((b::t).length+1) by omega]
theorem rL{rt:Bool}{w v:List Nat}(ha:w.all cR=true)(hl:w.length≤12)(h0:w.head? ≠some 48)(hw:w≠[]):d6 t5 0 rt (w++v)=d6 ⟨.count,0,w.length,decide (w=[49])⟩ 0 rt v:=by
 have e:=yg (rt:=rt) (s:=⟨.count,0,0,false⟩) rfl w v ha (by show 0+w.length≤12;omega) (fun _=>h0) hw
 have e2:d6 t5 0 rt (w++v)=d6 ⟨.count,0,0,false⟩ 0 rt (w++v):=by
  cases w with
  |nil=>exact absurd rfl hw
  |cons c r=>
   rw[List.all_cons,Bool.and_eq_true] at ha
   have e3:d5 t5 0 (rt||decide (t5.nm= .head)) c=d5 ⟨.count,0,0,false⟩ 0 (rt||decide (N5.count= .head)) c:=by
    unfold d5
    simp [ha.1]
   rw[List.cons_append,d6,d6,e3]
   rfl
 rw[e2,e]
 show d6 ⟨.count,0,0+w.length,decide (0=0)&&decide (w=[49])⟩ 0 rt v=_
 rw[Nat.zero_add]
 rfl
theorem tQ{m:Nat}(h:m≠1):bG (m:Int)≠[]:=by
 rw[fO h]
 intro z
 have z:=List.map_eq_nil_iff.mp z
 exact absurd z Nat.toDigits_ne_nil
theorem DU{rt:Bool}{u v:List Nat}{t:Tm}(h:G7 u t v):d6 t5 0 rt u=cont (κ5 rt) v:=by
 obtain⟨w,⟨e,n1,n2,hl,hv⟩,hw⟩:=h
 obtain⟨m,em,m1,m0⟩:=oX n1 (by omega)
 rcases hw with ⟨t1,hW⟩ | ⟨t1,w',rfl,hW⟩
 ·rw[t1,gw] at e hv
  have hv:Not cR w:=hv.elim id fun z=>by cases z
  have e:u=w:=e
  rw[e,pI hv]
  exact ye hW
 ·rw[em] at t1 e hv hl
  have Wd:m≠1:=fun z=>t1 (by rw[z];rfl)
  have hw:=tQ Wd
  have O6:(decide (bG (m:Int)=[49]):Bool)=false:=by simpa using nX m
  rw[e,rL (fu m) hl (lE m m0) hw,O6,mW]
  exact ye hW
theorem yh{rt:Bool}{u v:List Nat}(h:Nd u v):d6 t5 0 rt u=some v:=by
 rcases h with h| ⟨n,w,⟨e,n1,n2,hl,hv⟩,hw⟩
 ·rcases h with ⟨rfl,h⟩ | ⟨rfl,h⟩
  ·cases v with
   |nil=>cases h
   |cons c r=>
    have:c=48:=by simpa using h
    subst this
    exact mv (by simp [d5,DR,cR])
  ·have e1:d5 t5 0 (rt||decide (t5.nm= .head)) 49=some ⟨.count,0,1,true⟩:=by simp [d5,DR,cR]
   rw[fT e1]
   cases v with
   |nil=>simp [d6,uo]
   |cons c r=>
    have hf:cR c=false:=h c rfl
    exact mv (by simp [d5,hf])
 ·obtain⟨m,em,m1,m0⟩:=oX n1 (by omega)
  rcases hw with ⟨t1,hW⟩ | ⟨t1,iK,rfl⟩ | ⟨t1,w',rfl,hW⟩
  ·rw[t1,gw] at e hv
   have hv:Not cR w:=hv.elim id fun z=>by cases z
   have e:u=w:=e
   rw[e,pI hv]
   exact DQ hW
  all_goals
   rw[em] at t1 e hv hl
   have Wd:m≠1:=fun z=>t1 (by rw[z];rfl)
   have hw:=tQ Wd
   have O6:(decide (bG (m:Int)=[49]):Bool)=false:=by simpa using nX m
   rw[e,rL (fu m) hl (lE m m0) hw,O6]
  ·exact DT iK hv
  ·rw[mW]
   exact DQ hW
theorem zY{κ:List Nat→Option (List Nat)}{v:List Nat}(h1:v≠[])(h2:v.head? ≠some 32):cont κ v=some v:=by
 unfold cont
 rw[if_neg (fun z=>z.elim h1 h2)]
theorem we{rt:Bool}(v:List Nat):d6 ⟨.gap,0,0,false⟩ 0 rt (43::v)=d6 ⟨.plus,0,0,false⟩ 0 rt v:=by
 rw[fT (s':=⟨.plus,0,0,false⟩) (by cases rt<;>simp [d5,wb,cR,qb,um,yf])]
 cases rt<;>simp [nj]
theorem BC{rt:Bool}(v:List Nat):d6 ⟨.plus,0,0,false⟩ 0 rt (32::v)=d6 t5 0 rt v:=by
 rw[fT (s':=t5) (by cases rt<;>simp [d5,wb,cR,qb,um,yf])]
 cases rt<;>simp [nj]
theorem pK(v:List Nat):d6 ⟨.gap,0,0,false⟩ 0 false (45::v)=d6 ⟨.dash,0,0,false⟩ 0 false v:=by
 rw[fT (s':=⟨.dash,0,0,false⟩) (by simp [d5,wb,cR,qb,um,yf])]
 simp [nj]
theorem rM(v:List Nat):d6 ⟨.dash,0,0,false⟩ 0 false (62::v)=d6 ⟨.head,0,0,false⟩ 0 false v:=by
 rw[fT (s':=⟨.head,0,0,false⟩) (by simp [d5,wb,cR,qb,um,yf])]
 simp [nj]
theorem BD(v:List Nat):d6 ⟨.head,0,0,false⟩ 0 false (32::v)=d6 t5 0 true v:=by
 rw[fT (s':=t5) (by simp [d5,wb,cR,qb,um,yf])]
 simp [nj]
theorem pL{rt:Bool}(v:List Nat):cont (κ5 rt) (32::43::32::v)=d6 t5 0 rt v:=by
 unfold cont
 rw[if_pos (.inr rfl)]
 show d6 ⟨.gap,0,0,false⟩ 0 rt (43::32::v)=_
 rw[we,BC]
theorem pM(v:List Nat):cont (κ5 false) (32::45::62::32::v)=d6 t5 0 true v:=by
 unfold cont
 rw[if_pos (.inr rfl)]
 show d6 ⟨.gap,0,0,false⟩ 0 false (45::62::32::v)=_
 rw[pK,rM,BD]
theorem mw{rt:Bool}{u:List Nat}{ts:List Tm}{v:List Nat}(h:wZ u ts v):d6 t5 0 rt u=cont (κ5 rt) v:=by
 induction h with
 |one t v h=>exact DU h
 |snoc ts w t v _ h ih=>rw[ih,pL,DU h]
theorem n9{m:N5}{rt:Bool}(hm:qb m)(hc:m≠ .bX){v:List Nat}(h1:v.head? ≠some (um m))(h2:m= .gap→v.head? =some 45→rt=true)(h3:m= .count→False):d6 ⟨m,0,0,false⟩ 0 rt v=some v:=by
 cases v with
 |nil=>
  rw[d6,if_neg]
  rintro ⟨_,z| ⟨z,_⟩⟩<;>(have z:m=_:=z;subst z;revert hm;decide)
 |cons c r=>
  refine mv ?_
  have hw:c≠um m:=fun z=>h1 (by rw[z];rfl)
  unfold d5
  by_cases hf:cR c=true
  ·rw[if_pos hf,if_neg (fun z=>by have z:m= .term:=z;subst z;revert hm;decide),if_neg]
   rintro (z|z|z|z)<;>have z:m=_:=z
   ·subst z;revert hm;decide
   ·subst z;revert hm;decide
   ·exact hc z
   ·exact h3 z
  ·rw[if_neg hf,if_neg (fun z=>by cases z),if_pos hm]
   unfold wb
   rw[if_neg (fun z=>hc z.1),if_neg,if_neg (fun z=>hw z.2)]
   rintro ⟨z1,z2,z3⟩
   have z1:m= .gap:=z1
   have:=h2 z1 (by rw[z2];rfl)
   rw[this] at z3
   cases z3
theorem DV{rt:Bool}{w v:List Nat}(mL:rt=true→w≠[])(mR:rt=false→(w.drop 1).head? ≠some 45)(h:V3 w v):cont (κ5 rt) w=some v:=by
 rcases h with ⟨i,c,hc,e,hn⟩ | ⟨w',rfl,hB⟩
 ·match i,hc with
  |0,hc=>
   have:c=32:=by simpa using hc.symm
   subst this
   have e:w=v:=e
   subst e
   by_cases hw:w=[]
   ·subst hw
    cases rt with
    |true=>exact absurd rfl (mL rfl)
    |false=>rfl
   ·exact zY hw hn
  |1,hc=>
   have:c=43:=by simpa using hc.symm
   subst this
   have e:w=32::v:=e
   subst e
   unfold cont
   rw[if_pos (.inr rfl)]
   refine n9 (m:= .gap) (by decide) (by decide) hn (fun _ z=>?_) (fun z=>by cases z)
   cases rt with
   |true=>rfl
   |false=>exact absurd z (mR rfl)
  |2,hc=>
   have:c=32:=by simpa using hc.symm
   subst this
   have e:w=32::43::v:=e
   subst e
   unfold cont
   rw[if_pos (.inr rfl)]
   show d6 ⟨.gap,0,0,false⟩ 0 rt (43::v)=_
   rw[we]
   exact n9 (m:= .plus) (by decide) (by decide) hn (fun z=>by cases z) (fun z=>by cases z)
  |i+3,hc=>simp at hc
 ·rw[pL]
  exact yh hB
theorem LG{w v:List Nat}(mR:(w.drop 1).head? =some 45)(h:V1 [32,45,62,32] w v):cont (κ5 false) w=some v:=by
 obtain⟨i,c,hc,e,hn⟩:=h
 match i,hc with
 |0,hc=>
  have:c=32:=by simpa using hc.symm
  subst this
  have e:w=v:=e
  subst e
  refine zY (fun z=>?_) hn
  subst z
  cases mR
 |1,hc=>
  have:c=45:=by simpa using hc.symm
  subst this
  have e:w=32::v:=e
  subst e
  exact absurd mR hn
 |2,hc=>
  have:c=62:=by simpa using hc.symm
  subst this
  have e:w=32::45::v:=e
  subst e
  unfold cont
  rw[if_pos (.inr rfl)]
  show d6 ⟨.gap,0,0,false⟩ 0 false (45::v)=_
  rw[pK]
  exact n9 (m:= .dash) (by decide) (by decide) hn (fun z=>by cases z) (fun z=>by cases z)
 |3,hc=>
  have:c=32:=by simpa using hc.symm
  subst this
  have e:w=32::45::62::v:=e
  subst e
  unfold cont
  rw[if_pos (.inr rfl)]
  show d6 ⟨.gap,0,0,false⟩ 0 false (45::62::v)=_
  rw[pK,rM]
  exact n9 (m:= .head) (by decide) (by decide) hn (fun z=>by cases z) (fun z=>by cases z)
 |i+4,hc=>simp at hc
theorem LH{u v:List Nat}(h:V4 u v):d6 t5 0 false u=some v:=by
 rcases h with h| ⟨ts,w,q,⟨mR,h⟩ | ⟨mR,h⟩⟩
 ·exact yh h
 ·rw[mw q]
  exact DV (fun z=>by cases z) (fun _=>mR) h
 ·rw[mw q]
  exact LG mR h
theorem LI{u v:List Nat}(h:V5 u v):d6 t5 0 true u=some v:=by
 rcases h with h| ⟨ts,w,q,mL,h⟩
 ·exact yh h
 ·rw[mw q]
  exact DV (fun _=>mL) (fun z=>by cases z) h
theorem DW{u:List Nat}{xs ys:List Tm}(h:IX u xs ys):d6 t5 0 false u=none:=by
 obtain⟨w,h1,h2⟩:=h
 rw[mw h1,pM,mw h2]
 rfl
theorem DX{u v:List Nat}(h:T1 u v):d6 t5 0 false u=some v:=by
 rcases h with h| ⟨xs,w,h1,h2⟩
 ·exact LH h
 ·rw[mw h1,pM]
  exact LI h2
def gP(p:List Nat):Nat→List Nat→Nat
 |_,[]=>0
 |k+1,_::r=>gP p k r
 |0,c::r=>if p.isPrefixOf (c::r)=true then 1+gP p (p.length - 1) r else gP p 0 r
def pJ:List Nat:=[32,43,32]
def pA:List Nat:=[32,45,62,32]
theorem gs{p:List Nat}(iK:p.head? =some 32):∀{a:List Nat} (v:List Nat),(∀c∈a,c≠32)→gP p 0 (a++v)=gP p 0 v
 | [],v,_=>rfl
 |c::r,v,h=>by
  have hc:=h c (List.mem_cons_self ..)
  rw[List.cons_append,gP,if_neg,gs iK v fun b hb=>h b (List.mem_cons_of_mem _ hb)]
  cases p with
  |nil=>cases iK
  |cons b q=>
   have:b=32:=by simpa using iK
   subst this
   simp [List.isPrefixOf,Ne.symm hc]
theorem dO{b:Nat}{q:List Nat}{c:Nat}(r:List Nat)(h:b≠c):gP (32::b::q) 0 (32::c::r)=gP (32::b::q) 0 (c::r):=by
 rw[gP,if_neg]
 simp [List.isPrefixOf,h]
def Bg(c:Nat):Prop:=cR c=true∨je c=true∨c=40∨c=101
theorem Bg.ne{c:Nat}(h:Bg c):c≠43∧c≠45∧c≠32:=by
 rcases h with h|h|h|h
 ·simp only [cR,Bool.and_eq_true,decide_eq_true_eq] at h;omega
 ·simp only [je,Bool.and_eq_true,decide_eq_true_eq] at h;omega
 ·omega
 ·omega
theorem jH{n:Int}(h:0≤n):∀c∈bG n,c≠32:=fun c hc=>by
 obtain⟨m,rfl⟩:=Int.eq_ofNat_of_zero_le h
 have:=List.all_eq_true.mp (fu m) c hc
 unfold cR at this
 simp at this
 omega
theorem Hd{k:List Nat}(h:uh k):∀c∈k,c≠32:=by
 obtain⟨c,r,rfl,hc,hr,_⟩:=h
 intro b hb
 rcases List.mem_cons.mp hb with e|hb
 ·rw[e]
  unfold je at hc
  simp at hc
  omega
 ·have:=List.all_eq_true.mp hr b hb
  unfold fe at this
  simp at this
  omega
theorem zZ:∀(d:Nat) (t:Tr),vx d t→∀c∈dA d t,c≠32
 |d, .one k n,h=>by
  have h:uh k∧1≤n∧n≤999:=by cases d<;>exact h
  have e:dA d (.one k n)=k++bG n:=by cases d<;>rfl
  rw[e]
  intro c hc
  rcases List.mem_append.mp hc with z|z
  ·exact Hd h.1 c z
  ·exact jH (by omega) c z
 |0, .gr _ _,h=>h.elim
 |d+1, .gr ts n,h=>by
  obtain⟨_,h1,n1,_⟩:=h
  intro c hc
  rcases List.mem_cons.mp (show c∈40::(ts.flatMap (dA d)++41::bG n) from hc) with e|hc
  ·rw[e];decide
  ·rcases List.mem_append.mp hc with z|z
   ·obtain⟨t,ht,z⟩:=List.mem_flatMap.mp z
    exact zZ d t (h1 t ht) c z
   ·rcases List.mem_cons.mp z with e|z
    ·rw[e];decide
    ·exact jH (by omega) c z
theorem wg{d:Nat}{ts:List Tr}(h:∀t∈ts,vx d t):∀c∈ts.flatMap (dA d),c≠32:=fun c hc=>by
 obtain⟨t,ht,z⟩:=List.mem_flatMap.mp hc
 exact zZ d t (h t ht) c z
theorem pN{xs:List iG}{n:Int}(h:Bh 4 xs n):∀c∈wL 4 xs n,c≠32:=by
 cases xs with
 |nil=>
  have:∀c∈[101,94,45],c≠32:=by decide
  exact this
 |cons x r=>
  obtain⟨_,ho,n1,n2⟩:=h
  intro c hc
  rcases List.mem_append.mp (show c∈x.2.flatMap (dA 4)++(dJ 4 r++jQ n) from hc) with z|z
  ·exact wg (ho x (List.mem_cons_self ..)).2.1 c z
  ·rcases List.mem_append.mp z with z|z
   ·obtain⟨y,hy,z⟩:=List.mem_flatMap.mp z
    obtain⟨_,o1,o2,o3⟩:=ho y (List.mem_cons_of_mem _ hy)
    rcases List.mem_cons.mp z with e|z
    ·rw[e];decide
    ·rcases List.mem_append.mp z with z|z
     ·exact jH (by omega) c z
     ·exact wg o1 c z
   ·unfold jQ at z
    by_cases h0:n=0
    ·rw[if_pos h0] at z;cases z
    ·rw[if_neg h0] at z
     rcases List.mem_cons.mp z with e|z
     ·rw[e];decide
     ·rcases List.mem_append.mp z with z|z
      ·exact jH (by split<;>omega) c z
      ·have:c=if 0<n then 43 else 45:=by simpa using z
       rw[this]
       split<;>decide
theorem wj{xs:List iG}{n:Int}(h:Bh 4 xs n):∃c r,wL 4 xs n=c::r∧Bg c:=by
 cases xs with
 |nil=>exact⟨101,_,rfl, .inr (.inr (.inr rfl))⟩
 |cons x r=>
  obtain⟨_,ho,_⟩:=h
  obtain⟨ne,ot,_⟩:=ho x (List.mem_cons_self ..)
  cases hx:x.2 with
  |nil=>exact absurd hx ne
  |cons t ts=>
   have ht:=ot t (by rw[hx];exact List.mem_cons_self ..)
   have e:wL 4 (x::r) n=dA 4 t++(ts.flatMap (dA 4)++(dJ 4 r++jQ n)):=by
    show x.2.flatMap (dA 4)++(dJ 4 r++jQ n)=_
    rw[hx,List.flatMap_cons,List.append_assoc]
   rw[e]
   cases t with
   |one k m=>
    obtain⟨⟨c,k',rfl,hg,_⟩,_⟩:=ht
    exact⟨c,_,rfl, .inr (.inl hg)⟩
   |gr TV m=>exact⟨40,_,rfl, .inr (.inr (.inl rfl))⟩
theorem tR{p:List Nat}{b:Nat}{q:List Nat}(hp:p=32::b::q)(hb:b=43∨b=45){u v:List Nat}{t:Tm}(h:G7 u t v):gP p 0 u=gP p 0 v∧∃c r,u=c::r∧Bg c:=by
 obtain⟨w,⟨e,n1,n2,hl,hv⟩,hw⟩:=h
 have iK:p.head? =some 32:=by rw[hp];rfl
 have We:=jH (n:=t.1) (by omega)
 rcases hw with ⟨t1,hW⟩ | ⟨t1,w',rfl,hW⟩
 ·obtain⟨ew,ok⟩:=hW.O0
  obtain⟨c,r,ec,hc⟩:=wj ok
  rw[t1,gw] at e
  have e:u=w:=e
  rw[e,ew,gs iK v (pN ok)]
  exact⟨rfl,c,r++v,by rw[ec];rfl,hc⟩
 ·obtain⟨ew,ok⟩:=hW.O0
  obtain⟨c,r,ec,hc⟩:=wj ok
  obtain⟨m,em,m1,m0⟩:=oX n1 (by omega)
  have mL:bG t.1≠[]:=by
   rw[em]
   exact tQ fun z=>t1 (by rw[em,z];rfl)
  refine⟨?_,?_⟩
  ·rw[e,gs iK _ We,ew,ec,hp,List.cons_append,dO _ (fun z=>by have:=hc.ne;omega),←List.cons_append,←ec,←hp]
   exact gs iK v (pN ok)
  ·cases hf:bG t.1 with
   |nil=>exact absurd hf mL
   |cons c0 r0=>
    rw[hf] at e
    refine⟨c0,_,e, .inl ?_⟩
    have:=List.all_eq_true.mp (fu m) c0 (by rw[←em,hf];exact List.mem_cons_self ..)
    exact this
theorem DY{u:List Nat}{ts:List Tm}{v:List Nat}(h:wZ u ts v):gP pJ 0 u+1=ts.length+gP pJ 0 v∧gP pA 0 u=gP pA 0 v∧∃c r,u=c::r∧Bg c:=by
 induction h with
 |one t v h=>
  obtain⟨h1,h3⟩:=tR (p:=pJ) rfl (.inl rfl) h
  obtain⟨h2,_⟩:=tR (p:=pA) rfl (.inr rfl) h
  exact⟨by rw[h1];show _=1+_;omega,h2,h3⟩
 |snoc ts w t v _ h ih=>
  obtain⟨h1,c,r,ec,hc⟩:=tR (p:=pJ) rfl (.inl rfl) h
  obtain⟨h2,_⟩:=tR (p:=pA) rfl (.inr rfl) h
  obtain⟨i1,i2,i3⟩:=ih
  have e1:gP pJ 0 (32::43::32::w)=1+gP pJ 0 w:=by
   unfold pJ
   rw[gP,if_pos (by simp [List.isPrefixOf])]
   rfl
  have e2:gP pA 0 (32::43::32::w)=gP pA 0 w:=by
   have n:=hc.ne
   rw[ec]
   unfold pA
   rw[dO _ (by decide),gP,if_neg (by simp [List.isPrefixOf]),dO _ (by omega)]
  rw[e1,h1] at i1
  rw[e2,h2] at i2
  exact⟨by rw[i1,List.length_append];show _=ts.length+1+_;omega,i2,i3⟩
theorem yi{u:List Nat}{xs ys:List Tm}(h:IX u xs ys):1+gP pJ 0 u+gP pA 0 u=xs.length+ys.length:=by
 obtain⟨w,h1,h2⟩:=h
 obtain⟨a1,a2,_⟩:=DY h1
 obtain⟨b1,b2,c,r,ec,hc⟩:=DY h2
 have n:=hc.ne
 have e1:gP pJ 0 (32::45::62::32::w)=gP pJ 0 w:=by
  rw[ec]
  unfold pJ
  rw[dO _ (by decide),gP,if_neg (by simp [List.isPrefixOf]),gP,if_neg (by simp [List.isPrefixOf]),dO _ (by omega)]
 have e2:gP pA 0 (32::45::62::32::w)=1+gP pA 0 w:=by
  unfold pA
  rw[gP,if_pos (by simp [List.isPrefixOf])]
  rfl
 rw[e1] at a1
 rw[e2] at a2
 have z1:gP pJ 0 []=0:=rfl
 have z2:gP pA 0 []=0:=rfl
 omega
def iP(x:Tm):List Nat:=bG x.1++((if x.1=1 then [] else [32])++IV x.2)
def He(xs:List Tm):List Nat:=xs.flatMap fun x=>[32,43,32]++iP x
def nk:List Tm→List Nat
 | []=>[]
 |x::r=>iP x++He r
theorem wm(x:Tm):nY x=⟨(iP x).toArray⟩:=by
 unfold nY iP
 by_cases h:x.1=1
 ·rw[if_pos h,if_pos h,h,gw]
  rfl
 ·have e:(toString x.1 :Str)=⟨(bG x.1).toArray⟩:=by
   rw[←dN]
   unfold eY
   rw[if_neg h]
  rw[if_neg h,if_neg h,e,e32,show (⟨#[32]⟩:Str)=⟨[32].toArray⟩ from rfl,bg,bg,List.append_assoc]
theorem wo:∀xs:List Tm,Str.join " + " (xs.map nY)=⟨(nk xs).toArray⟩
 | []=>rfl
 | [x]=>by
   show nY x=_
   rw[wm]
   show _=(⟨(iP x++[]).toArray⟩:Str)
   rw[List.append_nil]
 |x::y::r=>by
  have ih:=wo (y::r)
  show nY x++" + " ++Str.join " + " ((y::r).map nY)=_
  have ej:(" + " :Str)=⟨[32,43,32].toArray⟩:=by decide+kernel
  rw[ih,wm,ej,bg,bg]
  congr 2
  show iP x++[32,43,32]++(iP y++He r)=iP x++(([32,43,32]++iP y)++He r)
  simp only [List.append_assoc]
theorem wq(xs:List Tm):Lz xs=⟨(nk xs).toArray⟩:=by
 unfold Lz
 have e:=PyProof.Rows.join_closes (sep:=" + ") (sep':=" + ") (ys:=xs.map nY) rfl
 rw[show Txt.join " + " (xs.map nY)=Str.join " + " (xs.map nY) by simpa using e]
 exact wo xs
theorem DZ(xs ys:List Tm):G5 xs ys=⟨(nk xs++[32,45,62,32]++nk ys).toArray⟩:=by
 unfold G5
 have ea:(" -> " :Str)=⟨[32,45,62,32].toArray⟩:=by decide+kernel
 rw[wq,wq,ea,bg,bg]
theorem D0{ts:List Tm}(h:ts≠[])(t:Tm):nk (ts++[t])=nk ts++(32::43::32::iP t):=by
 cases ts with
 |nil=>exact absurd rfl h
 |cons x r=>
  show iP x++He (r++[t])=iP x++He r++_
  unfold He
  rw[List.flatMap_append,List.append_assoc]
  simp
def LJ(x:Tm):Prop:=1≤x.1∧x.1<10^12∧Bh 4 x.2.1 x.2.2
theorem G7.text{u v:List Nat}{t:Tm}(h:G7 u t v):u=iP t++v∧LJ t:=by
 obtain⟨w,⟨e,n1,n2,hl,hv⟩,hw⟩:=h
 unfold iP
 rcases hw with ⟨t1,hW⟩ | ⟨t1,w',rfl,hW⟩
 ·obtain⟨ew,ok⟩:=hW.O0
  rw[if_pos t1,e,ew]
  exact⟨by simp [IV],n1,n2,ok⟩
 ·obtain⟨ew,ok⟩:=hW.O0
  rw[if_neg t1,e,ew]
  exact⟨by simp [IV],n1,n2,ok⟩
theorem wZ.text{u:List Nat}{ts:List Tm}{v:List Nat}(h:wZ u ts v):u=nk ts++v∧ts≠[]∧∀x∈ts,LJ x:=by
 induction h with
 |one t v h=>
  obtain⟨e,o⟩:=h.text
  refine⟨?_,by simp,fun x hx=>?_⟩
  ·show u=iP t++[]++v
   rw[List.append_nil]
   exact e
  ·have:x=t:=by simpa using hx
   rw[this]
   exact o
 |snoc ts w t v _ h ih=>
  obtain⟨e,o⟩:=h.text
  obtain⟨i1,i2,i3⟩:=ih
  refine⟨?_,by simp,fun x hx=>?_⟩
  ·rw[D0 i2,i1,e]
   simp
  ·rcases List.mem_append.mp hx with z|z
   ·exact i3 x z
   ·have:x=t:=by simpa using z
    rw[this]
    exact o
theorem z9{xs:List Tm}{x:Tm}(h:x∈xs):(wL 4 x.2.1 x.2.2).length≤(nk xs).length:=by
 have tl:∀y:Tm,(wL 4 y.2.1 y.2.2).length≤(iP y).length:=fun y=>by
  unfold iP IV
  rw[List.length_append,List.length_append]
  omega
 have jl:∀r:List Tm,x∈r→(wL 4 x.2.1 x.2.2).length≤(He r).length:=fun r hr=>by
  obtain⟨a,b,rfl⟩:=List.append_of_mem hr
  unfold He
  rw[List.flatMap_append,List.flatMap_cons,List.length_append,List.length_append,List.length_append]
  have:=tl x
  omega
 cases xs with
 |nil=>cases h
 |cons y r=>
  show _≤(iP y++He r).length
  rw[List.length_append]
  rcases List.mem_cons.mp h with e|e
  ·rw[e]
   have:=tl y
   omega
  ·have:=jl r e
   omega
theorem Hf{u:List Nat}{xs ys:List Tm}(h:IX u xs ys)(hl:u.length≤400):G5 xs ys=⟨u.toArray⟩∧(∀x∈xs,qr x)∧∀x∈ys,qr x:=by
 obtain⟨w,h1,h2⟩:=h
 obtain⟨e1,n1,o1⟩:=wZ.text h1
 obtain⟨e2,n2,o2⟩:=wZ.text h2
 rw[List.append_nil] at e2
 have e:u=nk xs++[32,45,62,32]++nk ys:=by rw[e1,e2];simp
 have l:(nk xs).length≤400∧(nk ys).length≤400:=by
  rw[e,List.length_append,List.length_append] at hl
  omega
 have up:∀x:Tm,LJ x→(wL 4 x.2.1 x.2.2).length≤400→qr x:=fun x o hx=>⟨o.1,by have:=o.2.1;omega,o.2.2,hx⟩
 refine⟨by rw[DZ,e],fun x hx=>up x (o1 x hx) (Nat.le_trans (z9 hx) l.1),fun x hx=>up x (o2 x hx) (Nat.le_trans (z9 hx) l.2)⟩
def wk:S8→Nat→List Nat→Option (S8×Nat)
 |s,dp,[]=>some (s,dp)
 |s,dp,c::r=>match fY s dp c with
  |none=>none
  |some (s',d')=>wk s' d' r
theorem Wf{n:Int}(h1:1≤n)(h2:n≤999):(bG n).length≤3:=by
 have:=lz h1 h2
 rwa [dN,aK] at this
theorem jR.T5{n:Int}{v:List Nat}(n1:1≤n)(n2:n≤999)(h:Not cR v):jR 3 (bG n++v) n v:=⟨rfl,n1,by omega,Wf n1 n2, .inl h⟩
theorem jX.mkA{k v:List Nat}{n:Int}(hk:uh k)(n1:1≤n)(n2:n≤999)(h:Not cR v)(hs:Not fe v):jX ((k++bG n)++v) k n v:=
 ⟨bG n++v,List.append_assoc ..,hk, .inr (GG (Dl n1 n2) hs), .T5 n1 n2 h⟩
theorem Stop.more{v:List Nat}(h:Stop v):¬More v:=fun⟨c,hc,z⟩=>by
 rcases z with z|z
 ·rw[h.2.2.1 c hc] at z;cases z
 ·have:=h.2.2.2 c hc
  simp [z] at this
theorem Sq.Wg{d:Nat}(hp:∀t v,vx d t→Not cR v→Not fe v→km d (dA d t++v) t v){ts:List Tr}(mL:ts≠[])(ho:∀t∈ts,vx d t){v:List Nat}(hs:Stop v):Ft (km d) (ts.flatMap (dA d)++v) ts v:=by
 have step:∀i,i<ts.length→Sq (km d) (ts.flatMap (dA d)++v) (ts.take (i+1)) ((ts.drop (i+1)).flatMap (dA d)++v):=by
  intro i
  induction i with
  |zero=>
   intro h
   have e:ts=ts[0]::ts.drop 1:=by have:=list_at h;simpa using this
   have nn:=oZ (d:=d) (ts:=ts.drop 1) (fun t ht=>ho t (List.mem_of_mem_drop ht)) hs
   have:=Sq.one (p:=km d) (u:=ts.flatMap (dA d)++v) ts[0] ((ts.drop 1).flatMap (dA d)++v) (by
    have e2:ts.flatMap (dA d)++v=dA d ts[0]++((ts.drop 1).flatMap (dA d)++v):=by
     conv=>lhs;rw[e]
     rw[List.flatMap_cons,List.append_assoc]
    rw[e2]
    exact hp _ _ (ho _ (List.getElem_mem h)) nn.1 nn.2)
   have e1:ts.take 1=[ts[0]]:=by rw[List.take_add_one,List.getElem?_eq_getElem h];rfl
   rw[Nat.zero_add,e1]
   exact this
  |succ i ih=>
   intro h
   have q:=ih (by omega)
   have e:ts.drop (i+1)=ts[i+1]::ts.drop (i+2):=List.drop_eq_getElem_cons h
   have Nb:=ho _ (List.getElem_mem h)
   have nn:=oZ (d:=d) (ts:=ts.drop (i+2)) (fun t ht=>ho t (List.mem_of_mem_drop ht)) hs
   obtain⟨c,r,hc,ht⟩:=sZ Nb
   have em:(ts.drop (i+1)).flatMap (dA d)++v=dA d ts[i+1]++((ts.drop (i+2)).flatMap (dA d)++v):=by rw[e,List.flatMap_cons,List.append_assoc]
   rw[em] at q
   rw[List.take_add_one,List.getElem?_eq_getElem h]
   refine .snoc _ _ _ _ q ⟨c,by rw[hc];rfl,ht.imp (·.1) (·.1)⟩ (hp _ _ Nb nn.1 nn.2)
 have hl:0<ts.length:=List.length_pos_iff.mpr mL
 have:=step (ts.length - 1) (by omega)
 rw[show ts.length - 1+1=ts.length by omega,List.take_length,List.drop_eq_nil_of_le (Nat.le_refl _)] at this
 exact⟨this,hs.more⟩
theorem km.Wh:∀(d:Nat) (t:Tr) (v:List Nat),vx d t→Not cR v→Not fe v→km d (dA d t++v) t v
 |0, .one k n,v,h,hf,hs=>⟨k,n,rfl, .mkA h.1 h.2.1 h.2.2 hf hs⟩
 |0, .gr _ _,_,h,_,_=>h.elim
 |d+1, .one k n,v,h,hf,hs=>by
  refine .inl ⟨?_,k,n,rfl, .mkA h.1 h.2.1 h.2.2 hf hs⟩
  obtain⟨c,r,rfl,hg,_⟩:=h.1
  intro z
  have:c=40:=by simpa [dA] using z
  subst this
  cases hg
 |d+1, .gr ts n,v,⟨mL,ho,n1,n2⟩,hf,hs=>by
  refine .inr ⟨ts.flatMap (dA d)++41::(bG n++v),ts,n,bG n++v,?_,rfl,Sq.Wg (km.Wh d) mL ho (Ll _), .T5 n1 n2 hf⟩
  show 40::(ts.flatMap (dA d)++41::bG n)++v=_
  simp
theorem wX.mkQ{x:iG}{r:List iG}(x1:x.1=1)(ho:∀y∈x::r,K6 4 y){v:List Nat}(hs:∀ys:List iG,Stop (dJ 4 ys++v)):wX (x.2.flatMap (dA 4)++(dJ 4 r++v)) (x::r) v:=by
 have step:∀i,i≤r.length→wX (x.2.flatMap (dA 4)++(dJ 4 r++v)) (x::r.take i) (dJ 4 (r.drop i)++v):=by
  intro i
  induction i with
  |zero=>
   intro _
   obtain⟨ne,o,_⟩:=ho x (List.mem_cons_self ..)
   have:=wX.one x.2 (dJ 4 r++v) (Sq.Wg (km.Wh 4) ne o (hs r))
   rw[←x1] at this
   exact this
  |succ i ih=>
   intro h
   have q:=ih (by omega)
   have hi:i<r.length:=h
   have e:r.drop i=r[i]::r.drop (i+1):=List.drop_eq_getElem_cons hi
   obtain⟨ne,o,n1,n2⟩:=ho r[i] (List.mem_cons_of_mem _ (List.getElem_mem hi))
   have em:dJ 4 (r.drop i)++v=46::(bG r[i].1++(r[i].2.flatMap (dA 4)++(dJ 4 (r.drop (i+1))++v))):=by
    rw[e]
    unfold dJ kh
    rw[List.flatMap_cons]
    simp
   rw[em] at q
   have st:=hs (r.drop (i+1))
   have nn:=oZ o st
   have:=wX.snoc _ _ r[i].1 _ r[i].2 _ q (.T5 n1 n2 nn.1) (Sq.Wg (km.Wh 4) ne o st)
   rw[List.take_add_one,List.getElem?_eq_getElem hi]
   exact this
 have:=step r.length (Nat.le_refl _)
 rw[List.take_length,List.drop_eq_nil_of_le (Nat.le_refl _)] at this
 exact this
theorem Fu.mkW{xs:List iG}{n:Int}(h:Bh 4 xs n):Fu (wL 4 xs n) xs n []:=by
 cases xs with
 |nil=>
  have:n= -1:=h
  subst this
  exact .inl ⟨rfl,rfl,rfl⟩
 |cons x r=>
  obtain⟨x1,ho,n1,n2⟩:=h
  obtain⟨ne,o,_⟩:=ho x (List.mem_cons_self ..)
  refine .inr ⟨?_,jQ n,?_,?_,?_⟩
  ·have t0:0<x.2.length:=List.length_pos_iff.mpr ne
   obtain⟨c,rest,hc,ht⟩:=sZ (o _ (List.getElem_mem t0))
   have e:x.2=x.2[0]::x.2.drop 1:=by have:=list_at t0;simpa using this
   intro z
   have:c=101:=by
    rw[show wL 4 (x::r) n=x.2.flatMap (dA 4)++(dJ 4 r++jQ n) from rfl,e,List.flatMap_cons,hc] at z
    simpa using z
   subst this
   rcases ht with ⟨hg,_⟩ | ⟨z,_⟩
   ·cases hg
   ·cases z
  ·exact wX.mkQ x1 ho fun ys=>by
    have:=Bi 4 ys n (post:=[]) (.inl rfl)
    rwa [List.append_nil] at this
  ·rcases zH n with e| ⟨rr,e⟩<;>rw[e]<;>simp
  ·by_cases h0:n=0
   ·subst h0
    exact .inl ⟨by simp [jQ],rfl,rfl⟩
   ·refine .inr ⟨bG (if n<0 then -n else n)++[if 0<n then 43 else 45],(if n<0 then -n else n),[if 0<n then 43 else 45],by unfold jQ;rw[if_neg h0], .T5 (by split<;>omega) (by split<;>omega) (fun c hc=>?_),?_⟩
    ·have e:(if 0<n then 43 else 45)=c:=by simpa using hc
     rw[←e]
     split<;>rfl
    ·by_cases hp:0<n
     ·right
      rw[if_pos hp,if_neg (by omega)]
      exact⟨rfl,rfl⟩
     ·left
      rw[if_neg hp,if_pos (by omega)]
      exact⟨rfl,by omega⟩
def jS:S5→Nat→Bool→List Nat→Option (S5×Nat×Bool)
 |s,dp,rt,[]=>some (s,dp,rt)
 |s,dp,rt,c::r=>match d5 s dp (rt||decide (s.nm= .head)) c with
  |none=>none
  |some s'=>jS s' (nj dp c) (rt||decide (s.nm= .head)) r
theorem mx{s s':S5}{dp c:Nat}{rt:Bool}{r:List Nat}(h:d5 s dp (rt||decide (s.nm= .head)) c=some s'):jS s dp rt (c::r)=jS s' (nj dp c) (rt||decide (s.nm= .head)) r:=by rw[jS,h]
theorem ei:∀{l m:List Nat} {s s':S5} {dp d':Nat} {rt r':Bool},jS s dp rt l=some (s',d',r')→jS s dp rt (l++m)=jS s' d' r' m
 | [],m,s,s',dp,d',rt,r',h=>by cases h;rfl
 |c::r,m,s,s',dp,d',rt,r',h=>by
  rw[jS] at h
  split at h
  ·cases h
  ·rename_i s1 e
   rw[List.cons_append,mx e,ei h]
theorem pO:∀{l m:List Nat} {s s':S5} {dp d':Nat} {rt r':Bool},jS s dp rt l=some (s',d',r')→d6 s dp rt (l++m)=d6 s' d' r' m
 | [],m,s,s',dp,d',rt,r',h=>by cases h;rfl
 |c::r,m,s,s',dp,d',rt,r',h=>by
  rw[jS] at h
  split at h
  ·cases h
  ·rename_i s1 e
   rw[List.cons_append,fT e,pO h]
theorem wt:∀{l:List Nat} {c:Nat} {s s':S5} {dp d':Nat} {rt r':Bool},jS s dp rt (l++[c])=some (s',d',r')→∃s1 d1 r1,jS s dp rt l=some (s1,d1,r1)∧d5 s1 d1 r' c=some s'∧d'=nj d1 c∧r'=(r1||decide (s1.nm= .head))
 | [],c,s,s',dp,d',rt,r',h=>by
   rw[List.nil_append,jS] at h
   split at h
   ·cases h
   ·rename_i s1 e
    cases h
    exact⟨s,dp,rt,rfl,e,rfl,rfl⟩
 |b::r,c,s,s',dp,d',rt,r',h=>by
  rw[List.cons_append,jS] at h
  split at h
  ·cases h
  ·rename_i s1 e
   obtain⟨s2,d2,r2,z1,z2⟩:=wt h
   exact⟨s2,d2,r2,by rw[jS,e];exact z1,z2⟩
def B6(l:List Nat):List Nat:=l.foldl (fun t c=>if c=32 then [] else t++[c]) []
theorem lN(l:List Nat)(c:Nat):B6 (l++[c])=if c=32 then [] else B6 l++[c]:=by
 unfold B6
 rw[List.foldl_append]
 rfl
def E5(l:List Nat)(s:S5)(dp:Nat)(rt:Bool):Prop:=
 ((∃s8,s=up s8∧wk j3 0 (B6 l)=some (s8,dp)∧J8 s8 dp)∨
   (dp=0∧s.al=false∧s.nm= .term∧B6 l=[])∨
   (dp=0∧s.nm= .count∧B6 l≠[]∧(B6 l).all cR=true)∨
   (dp=0∧s.al=false∧s.nm= .gap∧B6 l=[]∧∃m,l=m++[32])∨
   (dp=0∧s.al=false∧s.nm= .plus∧B6 l=[43])∨
   (dp=0∧s.al=false∧s.nm= .dash∧B6 l=[45]∧∃m,l=m++[32,45])∨
   (dp=0∧s.al=false∧s.nm= .head∧B6 l=[45,62]∧∃m,l=m++[32,45,62]))
theorem D4{u:List Nat}{c:Nat}{s s':S8}{dp d':Nat}:∀{s0:S8} {d0:Nat},wk s0 d0 u=some (s,dp)→fY s dp c=some (s',d')→wk s0 d0 (u++[c])=some (s',d'):=by
 induction u with
 |nil=>
  intro s0 d0 h e
  cases h
  rw[List.nil_append,wk,e]
  rfl
 |cons b r ih=>
  intro s0 d0 h e
  rw[wk] at h
  rw[List.cons_append,wk]
  split at h
  ·cases h
  ·rename_i s1 d1 e1
   exact ih h e
theorem E5.step{l:List Nat}{s s':S5}{dp c:Nat}{rt LK:Bool}(h:E5 l s dp rt)(e:d5 s dp LK c=some s'):E5 (l++[c]) s' (nj dp c) LK:=by
 unfold E5
 rw[lN]
 rcases h with ⟨s8,rfl,hw,hj⟩ | ⟨rfl,ha,hn,ht⟩ | ⟨rfl,hn,mL,ht⟩ | ⟨rfl,ha,hn,ht,Wi⟩ | ⟨rfl,ha,hn,ht⟩ | ⟨rfl,ha,hn,ht,m,hm⟩ | ⟨rfl,ha,hn,ht,m,hm⟩
 ·rw[wc s8 dp LK c hj.st] at e
  by_cases iK:c=32∧iL s8 dp
  ·rw[if_pos iK] at e
   cases e
   have h0:dp=0:=by
    rcases iK.2 with z|z
    ·exact hj.z (by rw[z];decide) (by rw[z];decide)
    ·exact z.2.1
   right;right;right;left
   rw[if_pos iK.1,iK.1,h0]
   exact⟨rfl,rfl,rfl,rfl,l,rfl⟩
  ·rw[if_neg iK] at e
   cases hz:fY s8 dp c with
   |none=>rw[hz] at e;cases e
   |some p=>
    obtain⟨s9,d9⟩:=p
    rw[hz] at e
    cases e
    have LL:c≠32:=fun z=>by rw[z,x5] at hz;cases hz
    left
    rw[if_neg LL,←zX hz]
    exact⟨s9,rfl,D4 hw hz,hj.go hz⟩
 ·by_cases hF:cR c=true
  ·have Az:=gq hF
   have LL:c≠32:=fun z=>by rw[z] at hF;cases hF
   unfold d5 DR at e
   rw[if_pos hF,if_pos hn] at e
   split at e
   ·cases e
   ·cases e
    right;right;left
    rw[if_neg LL,ht]
    refine⟨?_,rfl,by simp,by simp [hF]⟩
    unfold nj
    rw[if_neg Az.2.2.1,if_neg Az.2.2.2.1]
  ·have e2:d5 (up j3) 0 LK c=some s':=by
    rw[←e]
    obtain⟨nm,sm,fg,al⟩:=s
    cases hn
    cases ha
    unfold d5 O7 uo
    simp [up,zV,j3,hF,qb]
   rw[wc j3 0 LK c (fun z=>by cases z)] at e2
   have na:¬(c=32∧iL j3 0):=fun z=>by rcases z.2 with y|y;cases y;cases y.1
   rw[if_neg na] at e2
   cases hz:fY j3 0 c with
   |none=>rw[hz] at e2;cases e2
   |some p=>
    obtain⟨s9,d9⟩:=p
    rw[hz] at e2
    cases e2
    have LL:c≠32:=fun z=>by rw[z,x5] at hz;cases hz
    left
    rw[if_neg LL,←zX hz,ht]
    exact⟨s9,rfl,D4 (u:=[]) rfl hz,Ng.go hz⟩
 ·by_cases hF:cR c=true
  ·have Az:=gq hF
   have LL:c≠32:=fun z=>by rw[z] at hF;cases hF
   unfold d5 DR at e
   rw[if_pos hF,if_neg (by rw[hn];decide),if_pos (by rw[hn];simp),if_pos hn] at e
   split at e
   ·cases e
   ·cases e
    right;right;left
    rw[if_neg LL]
    refine⟨?_,hn,by simp,by simp [hF];exact fun x hx=>List.all_eq_true.mp ht x hx⟩
    unfold nj
    rw[if_neg Az.2.2.1,if_neg Az.2.2.2.1]
  ·unfold d5 at e
   rw[if_neg hF] at e
   split at e
   ·cases e
   ·rw[if_pos (by rw[hn];simp [qb])] at e
    unfold wb at e
    rw[hn] at e
    simp [um,yf] at e
    obtain⟨rfl,rfl⟩:=e
    left
    rw[if_pos rfl]
    exact⟨j3,rfl,rfl,Ng⟩
 ·obtain⟨nm,sm,fg,al⟩:=s
  cases hn
  cases ha
  have hF:cR c=false:=by
   cases z:cR c with
   |false=>rfl
   |true=>unfold d5 at e;rw[if_pos z] at e;simp at e
  have e3:wb .gap LK c=some s':=by
   rw[←e]
   unfold d5
   simp [hF,qb]
  unfold wb at e3
  rw[if_neg (by simp)] at e3
  by_cases mR:c=45∧LK=false
  ·rw[if_pos ⟨rfl,mR.1,mR.2⟩] at e3
   cases e3
   right;right;right;right;right;left
   rw[mR.1,if_neg (by decide),ht]
   obtain⟨m,hm⟩:=Wi
   exact⟨rfl,rfl,rfl,rfl,m,by rw[hm,List.append_assoc];rfl⟩
  ·rw[if_neg (fun z=>mR z.2)] at e3
   simp [um,yf] at e3
   obtain⟨rfl,rfl⟩:=e3
   right;right;right;right;left
   rw[if_neg (by decide),ht]
   exact⟨rfl,rfl,rfl,rfl⟩
 ·obtain⟨nm,sm,fg,al⟩:=s
  cases hn
  cases ha
  have hF:cR c=false:=by
   cases z:cR c with
   |false=>rfl
   |true=>unfold d5 at e;rw[if_pos z] at e;simp at e
  unfold d5 wb at e
  simp [hF,qb,um,yf] at e
  obtain⟨rfl,rfl⟩:=e
  right;left
  rw[if_pos rfl]
  exact⟨rfl,rfl,rfl,rfl⟩
 ·obtain⟨nm,sm,fg,al⟩:=s
  cases hn
  cases ha
  have hF:cR c=false:=by
   cases z:cR c with
   |false=>rfl
   |true=>unfold d5 at e;rw[if_pos z] at e;simp at e
  unfold d5 wb at e
  simp [hF,qb,um,yf] at e
  obtain⟨rfl,rfl⟩:=e
  right;right;right;right;right;right
  rw[if_neg (by decide),ht]
  exact⟨rfl,rfl,rfl,rfl,m,by rw[hm,List.append_assoc];rfl⟩
 ·obtain⟨nm,sm,fg,al⟩:=s
  cases hn
  cases ha
  have hF:cR c=false:=by
   cases z:cR c with
   |false=>rfl
   |true=>unfold d5 at e;rw[if_pos z] at e;simp at e
  unfold d5 wb at e
  simp [hF,qb,um,yf] at e
  obtain⟨rfl,rfl⟩:=e
  right;left
  rw[if_pos rfl]
  exact⟨rfl,rfl,rfl,rfl⟩
def Wj(l:List Nat):Prop:=∃a b,l=a++pA++b
theorem O8:E5 [] t5 0 false:= .inr (.inl ⟨rfl,rfl,rfl,rfl⟩)
theorem Hg{s s':S5}{dp c:Nat}{rt:Bool}(hn:s.nm= .head)(ha:s.al=false)(e:d5 s dp rt c=some s'):c=32:=by
 obtain⟨nm,sm,fg,al⟩:=s
 cases hn
 cases ha
 have hF:cR c=false:=by
  cases z:cR c with
  |false=>rfl
  |true=>unfold d5 at e;rw[if_pos z] at e;simp at e
 unfold d5 wb at e
 simp [hF,qb,um,yf] at e
 exact e.1
theorem E5.head{l:List Nat}{s:S5}{dp:Nat}{rt:Bool}(h:E5 l s dp rt)(hn:s.nm= .head):s.al=false∧∃m,l=m++[32,45,62]:=by
 rcases h with ⟨s8,rfl,_,_⟩ | ⟨_,_,h,_⟩ | ⟨_,h,_⟩ | ⟨_,_,h,_⟩ | ⟨_,_,h,_⟩ | ⟨_,_,h,_⟩ | ⟨_,ha,h,_,m,hm⟩
 ·exact absurd hn (n8 s8)
 all_goals first|exact⟨ha,m,hm⟩ | (rw[hn] at h;cases h)
theorem E5.tail{l:List Nat}{s:S5}{dp:Nat}{rt:Bool}(h:E5 l s dp rt)(ht:B6 l=[45,62]):s.nm= .head:=by
 rcases h with ⟨s8,rfl,hw,_⟩ | ⟨_,_,_,h⟩ | ⟨_,_,_,h⟩ | ⟨_,_,_,h,_⟩ | ⟨_,_,_,h⟩ | ⟨_,_,_,h,_⟩ | ⟨_,_,h,_⟩
 ·rw[ht] at hw;cases hw
 ·rw[ht] at h;cases h
 ·rw[ht] at h;cases h
 ·rw[ht] at h;cases h
 ·rw[ht] at h;cases h
 ·rw[ht] at h;cases h
 ·exact h
theorem O9:∀{l:List Nat} {s:S5} {dp:Nat} {rt:Bool},jS t5 0 false l=some (s,dp,rt)→E5 l s dp rt∧(rt=true↔Wj l):=by
 intro l
 induction hn:l.length generalizing l with
 |zero=>
  intro s dp rt h
  have:l=[]:=List.length_eq_zero_iff.mp hn
  subst this
  cases h
  refine⟨O8,fun z=>(by cases z),fun⟨a,b,z⟩=>?_⟩
  have:=congrArg List.length z
  rw[List.length_append,List.length_append] at this
  have h4:pA.length=4:=rfl
  rw[h4] at this
  simp at this
  omega
 |succ n ih=>
  intro s dp rt h
  obtain⟨v,c,rfl⟩:∃v c,l=v++[c]:=⟨l.dropLast,l.getLast (by intro z;rw[z] at hn;cases hn),(List.dropLast_concat_getLast _).symm⟩
  obtain⟨s1,d1,r1,w1,w2,rfl,rfl⟩:=wt h
  obtain⟨i1,i2⟩:=ih (by simpa using hn) w1
  refine⟨i1.step w2,fun z=>?_,fun⟨a,b,z⟩=>?_⟩
  ·rw[Bool.or_eq_true,decide_eq_true_eq] at z
   rcases z with z|z
   ·obtain⟨a,b,e⟩:=i2.mp z
    exact⟨a,b++[c],by rw[e];simp⟩
   ·obtain⟨ha,m,hm⟩:=i1.head z
    refine⟨m,[],?_⟩
    rw[Hg z ha w2,hm]
    simp [pA]
  ·rw[Bool.or_eq_true,decide_eq_true_eq]
   rcases List.eq_nil_or_concat b with rfl| ⟨b',d,rfl⟩
   ·right
    have z2:v++[c]=(a++[32,45,62])++[32]:=by rw[z];simp [pA]
    have hv:=(List.append_inj' z2 rfl).1
    refine i1.tail ?_
    rw[hv,show a++[32,45,62]=((a++[32])++[45])++[62] by simp,lN,lN,lN]
    rfl
   ·left
    have z2:v++[c]=(a++pA++b')++[d]:=by rw[z];simp
    exact i2.mpr ⟨a,b',(List.append_inj' z2 rfl).1⟩
theorem Hh{c:Nat}(h:cR c=true):fY j3 0 c=none:=by
 have n:=gq h
 unfold fY Fx
 simp [j3,n.1,n.2.1,n.2.2.1,n.2.2.2.1]
theorem D5{κ:List Nat→Option (List Nat)}:∀{u:List Nat} {s:S8} {dp:Nat},(∀c∈u,c≠32)→vd κ s dp u=none→∃s' d',wk s dp u=some (s',d')∧iL s' d'
 | [],s,dp,_,h=>by
   rw[vd] at h
   split at h
   ·rename_i ha;exact⟨s,dp,rfl,ha⟩
   ·cases h
 |c::r,s,dp,hn,h=>by
  rw[vd,if_neg fun z=>hn c (List.mem_cons_self ..) z.1] at h
  split at h
  ·cases h
  ·rename_i s1 d1 e
   obtain⟨s',d',z1,z2⟩:=D5 (fun b hb=>hn b (List.mem_cons_of_mem _ hb)) h
   exact⟨s',d',by rw[wk,e];exact z1,z2⟩
theorem J8.walk:∀{u:List Nat} {s s':S8} {dp d':Nat},J8 s dp→wk s dp u=some (s',d')→J8 s' d'
 | [],s,s',dp,d',j,h=>by cases h;exact j
 |c::r,s,s',dp,d',j,h=>by
  rw[wk] at h
  split at h
  ·cases h
  ·rename_i s1 d1 e
   exact J8.walk (j.go e) h
theorem Jb{rt:Bool}:∀{u:List Nat} {s s':S8} {dp d':Nat},(∀c∈u,c≠32)→J8 s dp→wk s dp u=some (s',d')→jS (up s) dp rt u=some (up s',d',rt)
 | [],s,s',dp,d',_,_,h=>by cases h;rfl
 |c::r,s,s',dp,d',hn,j,h=>by
  rw[wk] at h
  split at h
  ·cases h
  ·rename_i s1 d1 e
   have hh:(rt||decide ((up s).nm= .head))=rt:=by rw[decide_eq_false (n8 s),Bool.or_false]
   have e5:d5 (up s) dp rt c=some (up s1):=by
    rw[wc s dp rt c j.st,if_neg fun z=>hn c (List.mem_cons_self ..) z.1,e]
    rfl
   rw[mx (s':=up s1) (by rw[hh];exact e5),hh,←zX e]
   exact Jb (fun b hb=>hn b (List.mem_cons_of_mem _ hb)) (j.go e) h
theorem Aa{xs:List iG}{n:Int}(h:Bh 4 xs n)(rt:Bool):∃s,jS (up j3) 0 rt (wL 4 xs n)=some (s,0,rt)∧uo s 0∧jS t5 0 rt (wL 4 xs n)=some (s,0,rt):=by
 have hv:vd (fun _=>none) j3 0 (wL 4 xs n)=none:=by rw[ye (.mkW h)];rfl
 obtain⟨s8,d,hw,ha⟩:=D5 (pN h) hv
 have hj:=J8.walk Ng hw
 have h0:d=0:=by
  rcases ha with z|z
  ·exact hj.z (by rw[z];decide) (by rw[z];decide)
  ·exact z.2.1
 subst h0
 have hu:=Jb (rt:=rt) (pN h) Ng hw
 refine⟨up s8,hu,zW.mpr ha,?_⟩
 obtain⟨c,r,ec,hc⟩:=wj h
 rw[ec] at hw hu ⊢
 have hF:¬cR c=true:=fun z=>by rw[wk,Hh z] at hw;cases hw
 rw[←hu]
 have e:d5 t5 0 (rt||decide (t5.nm= .head)) c=d5 (up j3) 0 (rt||decide ((up j3).nm= .head)) c:=by
  show d5 t5 0 (rt||false) c=d5 (up j3) 0 (rt||false) c
  unfold d5 O7 uo
  simp [up,zV,j3,t5,hF,qb]
 rw[jS,jS,e]
 rfl
theorem wu{rt:Bool}:∀(w:List Nat) {fg:Nat} {al:Bool},w.all cR=true→fg≠0→fg+w.length≤12→∃Nh T7,jS ⟨.count,0,fg,al⟩ 0 rt w=some (⟨.count,0,T7,Nh⟩,0,rt)∧(w≠[]∨al=false→Nh=false)
 | [],fg,al,_,_,_=>⟨al,fg,rfl,fun z=>z.resolve_left fun y=>y rfl⟩
 |c::r,fg,al,ha,h0,hl=>by
  have hF:=List.all_eq_true.mp ha c (List.mem_cons_self ..)
  have hl:fg+(r.length+1)≤12:=hl
  have Az:=gq hF
  have e:d5 ⟨.count,0,fg,al⟩ 0 rt c=some ⟨.count,0,fg+1,false⟩:=by
   unfold d5 DR
   rw[if_pos hF,if_neg (by simp),if_pos (by simp),if_pos rfl,if_neg (by show¬(fg=12∨fg=0∧c=48);omega)]
   show some (⟨.count,0,fg+1,decide (fg=0)&&_⟩:S5)=_
   rw[decide_eq_false h0]
   rfl
  obtain⟨Nh,T7,i1,i2⟩:=wu (rt:=rt) r (fg:=fg+1) (al:=false) (List.all_eq_true.mpr fun b hb=>List.all_eq_true.mp ha b (List.mem_cons_of_mem _ hb)) (by omega) (by omega)
  refine⟨Nh,T7,?_,fun _=>i2 (.inr rfl)⟩
  rw[mx (s':=⟨.count,0,fg+1,false⟩) (by show d5 _ 0 (rt||false) c=_;rw[Bool.or_false];exact e)]
  show jS _ (nj 0 c) (rt||false) r=_
  rw[Bool.or_false,show nj 0 c=0 by unfold nj;rw[if_neg Az.2.2.1,if_neg Az.2.2.2.1]]
  exact i1
theorem BE{rt:Bool}{w:List Nat}(ha:w.all cR=true)(hl:w.length≤12)(h0:w.head? ≠some 48)(hw:w≠[])(h1:w≠[49]):jS t5 0 rt (w++[32])=some (up j3,0,rt):=by
 cases w with
 |nil=>exact absurd rfl hw
 |cons c r=>
  have hF:=List.all_eq_true.mp ha c (List.mem_cons_self ..)
  have Az:=gq hF
  have c48:c≠48:=fun z=>h0 (by rw[z];rfl)
  have hl:r.length+1≤12:=hl
  have e:d5 t5 0 rt c=some ⟨.count,0,1,decide (c=49)⟩:=by
   unfold d5 DR
   rw[if_pos hF,if_pos rfl,if_neg (by omega)]
   rfl
  obtain⟨Nh,T7,i1,i2⟩:=wu (rt:=rt) r (fg:=1) (al:=decide (c=49)) (List.all_eq_true.mpr fun b hb=>List.all_eq_true.mp ha b (List.mem_cons_of_mem _ hb)) (by decide) (by omega)
  have Pa:Nh=false:=i2 (by
   by_cases hr:r=[]
   ·right
    rw[hr] at h1
    exact decide_eq_false fun z=>h1 (by rw[z])
   ·exact .inl hr)
  rw[List.cons_append,mx (s':=⟨.count,0,1,decide (c=49)⟩) (by show d5 _ 0 (rt||false) c=_;rw[Bool.or_false];exact e)]
  show jS _ (nj 0 c) (rt||false) (r++[32])=_
  rw[Bool.or_false,show nj 0 c=0 by unfold nj;rw[if_neg Az.2.2.1,if_neg Az.2.2.2.1],ei i1,Pa]
  rw[mx (s':=up j3) (by show d5 _ 0 (rt||false) 32=_;rw[Bool.or_false];rfl)]
  show some (up j3,nj 0 32,rt||false)=_
  rw[Bool.or_false]
  rfl
structure D6(l:List Nat):Prop where
 a:du l
 w:∀rt,∃s,jS t5 0 rt l=some (s,0,rt)∧uo s 0
 j:∀v,gP pJ 0 (l++v)=gP pJ 0 v
 r:∀v,gP pA 0 (l++v)=gP pA 0 v
 b:∃c r,l=c::r∧Bg c
theorem LM{xs:List iG}{n:Int}(h:Bh 4 xs n)(ha:du (wL 4 xs n)):D6 (wL 4 xs n):=
 ⟨ha,fun rt=>let ⟨s,_,h2,h3⟩:=Aa h rt;⟨s,h3,h2⟩,fun v=>gs rfl v (pN h),fun v=>gs rfl v (pN h),wj h⟩
theorem D7{xs:List iG}{n m:Int}(h:Bh 4 xs n)(ha:du (wL 4 xs n))(m1:2≤m)(m2:m<10^12):D6 (bG m++([32]++wL 4 xs n)):=by
 obtain⟨k,rfl,k1,k0⟩:=oX (n:=m) (by omega) m2
 have mL:bG (k:Int)≠[]:=tQ (by omega)
 have Pa:(bG (k:Int)).all cR=true:=fu k
 have hlen:(bG (k:Int)).length≤12:=by
  have:=qT (n:=k) (k:=12) (by decide) (by omega)
  rwa [dN,aK] at this
 obtain⟨c,r,ec,hc⟩:=wj h
 have We:=jH (n:=(k:Int)) (by omega)
 have gp:∀{p:List Nat} {b:Nat} {q:List Nat},p=32::b::q→(b=43∨b=45)→∀v,gP p 0 (bG (k:Int)++([32]++wL 4 xs n)++v)=gP p 0 v:=fun {p b q} hp hb v=>by
  have iK:p.head? =some 32:=by rw[hp];rfl
  rw[List.append_assoc,gs iK _ We,ec,hp]
  show gP (32::b::q) 0 (32::c::(r++v))=_
  rw[dO _ (fun z=>by have:=hc.ne;omega),←List.cons_append,←ec,←hp]
  exact gs iK v (pN h)
 refine⟨?_,fun rt=>?_,gp rfl (.inl rfl),gp rfl (.inr rfl),?_⟩
 ·refine du.app (fun b hb=>?_) (du.app (fun b hb=>by rw[List.mem_singleton.mp hb];decide) ha)
  have:=List.all_eq_true.mp Pa b hb
  simp only [cR,Bool.and_eq_true,decide_eq_true_eq] at this
  omega
 ·obtain⟨s,e1,e2,_⟩:=Aa h rt
  refine⟨s,?_,e2⟩
  rw[←List.append_assoc,ei (BE Pa hlen (lE k k0) mL (by simpa using nX k))]
  exact e1
 ·cases hf:bG (k:Int) with
  |nil=>exact absurd hf mL
  |cons c0 r0=>exact⟨c0,_,rfl, .inl (List.all_eq_true.mp Pa c0 (by rw[hf];exact List.mem_cons_self ..))⟩
theorem sub_one{x:Str}{c i:Nat}:Builtin.Str.subAt x ⟨#[c]⟩ i=true↔x.cps.toList[i]? =some c:=by
 unfold Builtin.Str.subAt
 show (x.cps.extract i (i+1)==#[c])=true↔_
 rw[beq_iff_eq,←Array.toList_inj,Array.toList_extract]
 show ((x.cps.toList.drop i).take (i+1 - i))=[c]↔_
 rw[Nat.add_sub_cancel_left]
 rw[←List.head?_drop]
 cases x.cps.toList.drop i with
 |nil=>simp
 |cons a r=>simp
def gY(c:Nat):Nat→Nat→List Nat→List Nat
 |_,0,_=>[]
 |_,_+1,[]=>[]
 |i,n+1,d::r=>if d=c then i::gY c (i+1) n r else gY c (i+1) (n+1) r
theorem mz(c i:Nat)(l:List Nat):gY c i 0 l=[]:=by cases l<;>rfl
theorem lO(c i n:Nat):gY c i n []=[]:=by cases n<;>rfl
open PySem.StrLaws in
theorem pP(l:List Nat)(c lim:Nat):∀(n lo:Nat) (st:Array Nat×Nat),lo+n=l.length+1→st.2≤lo→st.1.size≤lim→
  (forIn (List.range' lo n) st (occBody ⟨l.toArray⟩ ⟨#[c]⟩ l.length lim)).run.1.toList=st.1.toList++gY c lo (lim - st.1.size) (l.drop lo)
 |0,lo,st,h1,h2,h3=>by
  rw[List.drop_eq_nil_of_le (by omega),lO,List.append_nil]
  rfl
 |n+1,lo,st,h1,h2,h3=>by
  rw[List.range'_succ,List.forIn_cons]
  have l1:(⟨#[c]⟩:Str).length=1:=rfl
  by_cases h:st.1.size<lim∧l[lo]? =some c
  ·have ID:=(List.getElem?_eq_some_iff.mp h.2).1
   have hv:=(List.getElem?_eq_some_iff.mp h.2).2
   have hs:Builtin.Str.subAt ⟨l.toArray⟩ ⟨#[c]⟩ lo=true:=sub_one.mpr h.2
   have e:occBody ⟨l.toArray⟩ ⟨#[c]⟩ l.length lim lo st=pure (ForInStep.yield (st.1.push lo,lo+1)):=by
    unfold occBody
    rw[if_pos ⟨⟨⟨h.1,h2⟩,by rw[l1];omega⟩,hs⟩]
    rfl
   rw[e]
   show (forIn (List.range' (lo+1) n) (st.1.push lo,lo+1) (occBody ⟨l.toArray⟩ ⟨#[c]⟩ l.length lim)).run.1.toList=_
   rw[pP l c lim n (lo+1) _ (by omega) (Nat.le_refl _) (by rw[Array.size_push];omega),Array.size_push,Array.toList_push]
   have hd:l.drop lo=c::l.drop (lo+1):=by rw[List.drop_eq_getElem_cons ID,hv]
   obtain⟨k,hk⟩:∃k,lim - st.1.size=k+1:=⟨lim - st.1.size - 1,by omega⟩
   rw[hd,hk,gY,if_pos rfl,show lim - (st.1.size+1)=k by omega,List.append_assoc]
   rfl
  ·have e:occBody ⟨l.toArray⟩ ⟨#[c]⟩ l.length lim lo st=pure (ForInStep.yield (st.1,st.2)):=by
    unfold occBody
    rw[if_neg fun z=>h ⟨z.1.1.1,by have:=sub_one.mp z.2;exact this⟩]
   rw[e]
   show (forIn (List.range' (lo+1) n) (st.1,st.2) (occBody ⟨l.toArray⟩ ⟨#[c]⟩ l.length lim)).run.1.toList=_
   rw[pP l c lim n (lo+1) _ (by omega) (by show st.2≤lo+1;omega) h3]
   show st.1.toList++gY c (lo+1) (lim - st.1.size) (l.drop (lo+1))=_
   by_cases ID:lo<l.length
   ·rw[List.drop_eq_getElem_cons ID]
    cases hk:lim - st.1.size with
    |zero=>rw[mz,mz]
    |succ k=>
     have mL:¬l[lo]=c:=fun z=>h ⟨by omega,by rw[List.getElem?_eq_getElem ID,z]⟩
     rw[show gY c lo (k+1) (l[lo]::l.drop (lo+1))=gY c (lo+1) (k+1) (l.drop (lo+1)) from if_neg mL]
   ·rw[List.drop_eq_nil_of_le (by omega),List.drop_eq_nil_of_le (by omega),lO,lO]
theorem oa(l:List Nat)(c lim:Nat):Builtin.Str.occurrences ⟨l.toArray⟩ ⟨#[c]⟩ 0 (⟨l.toArray⟩:Str).length lim=gY c 0 lim l:=by
 rw[PySem.StrLaws.occ_eq,aK]
 have:=pP l c lim (l.length+1) 0 (#[],0) (by omega) (Nat.le_refl _) (Nat.zero_le _)
 simpa using this
theorem fG{c:Nat}:∀{a:List Nat} {i n:Nat} {r:List Nat},(∀x∈a,x≠c)→gY c i n (a++r)=gY c (i+a.length) n r
 | [],i,n,r,_=>by simp
 |d::t,i,n,r,h=>by
  cases n with
  |zero=>rw[mz,mz]
  |succ n=>
   rw[List.cons_append,show gY c i (n+1) (d::(t++r))=gY c (i+1) (n+1) (t++r) from if_neg (h d (List.mem_cons_self ..)),fG fun x hx=>h x (List.mem_cons_of_mem _ hx),List.length_cons]
   congr 1
   omega
theorem lP{c i n:Nat}{r:List Nat}:gY c i (n+1) (c::r)=i::gY c (i+1) n r:=if_pos rfl
theorem Hi{a b r:List Nat}(ha:∀x∈a,x≠32)(hb:∀x∈b,x≠32):Txt.splitMax ⟨(a++32::(b++32::r)).toArray⟩ " " 2=[⟨a.toArray⟩,⟨b.toArray⟩,⟨r.toArray⟩]:=by
 have e1:(" " :Str)=⟨#[32]⟩:=by decide+kernel
 have k1:Builtin.Str.strKind (⟨#[32]⟩:Str)=1:=by decide+kernel
 have hl:(⟨(a++32::(b++32::r)).toArray⟩:Str).length=a.length+(b.length+(r.length+1)+1):=by
  rw[aK,List.length_append,List.length_cons,List.length_append,List.length_cons]
 unfold Txt.splitMax
 rw[e1]
 have l1:(⟨#[32]⟩:Str).length=1:=rfl
 have KN:limitOf ⟨(a++32::(b++32::r)).toArray⟩ 2=2:=by
  unfold limitOf
  rw[if_neg (by decide)]
  rfl
 rw[KN,oa,fG ha,lP,fG hb,lP,mz]
 have kx:∀x:Str,¬Builtin.Str.strKind x<1:=fun x=>by
  unfold Builtin.Str.strKind
  split
  ·decide
  ·split<;>decide
 rw[if_neg (by rw[hl,l1,k1,decide_eq_false (by omega),decide_eq_false (kx _)];simp),if_neg (by simp)]
 unfold Builtin.Str.partsBetween Builtin.Str.strSub
 have x1:((a++32::(b++32::r)).toArray.extract 0 (0+a.length))=a.toArray:=by
  refine Array.toList_inj.mp ?_
  rw[Array.toList_extract]
  show ((a++32::(b++32::r)).drop 0).take (0+a.length - 0)=a
  simp
 have x2:((a++32::(b++32::r)).toArray.extract (0+a.length+1) (0+a.length+1+b.length))=b.toArray:=by
  refine Array.toList_inj.mp ?_
  rw[Array.toList_extract]
  show ((a++32::(b++32::r)).drop (0+a.length+1)).take (0+a.length+1+b.length - (0+a.length+1))=b
  rw[show (a++32::(b++32::r)).drop (0+a.length+1)=b++32::r by rw[Nat.zero_add,←List.drop_drop,List.drop_left];rfl,show 0+a.length+1+b.length - (0+a.length+1)=b.length by omega,List.take_left]
 have x3:((a++32::(b++32::r)).toArray.extract (0+a.length+1+b.length+1) (a.length+(b.length+(r.length+1)+1)))=r.toArray:=by
  refine Array.toList_inj.mp ?_
  rw[Array.toList_extract]
  show ((a++32::(b++32::r)).drop (0+a.length+1+b.length+1)).take _=r
  rw[show (a++32::(b++32::r)).drop (0+a.length+1+b.length+1)=r by
   have y1:(a++32::(b++32::r)).drop (a.length+1)=b++32::r:=by rw[←List.drop_drop,List.drop_left];rfl
   rw[show 0+a.length+1+b.length+1=(a.length+1)+(b.length+1) by omega,←List.drop_drop,y1,←List.drop_drop,List.drop_left]
   rfl]
  exact List.take_of_length_le (by omega)
 show [(⟨_⟩:Str),⟨_⟩,⟨_⟩]=_
 rw[x1,hl,l1,x2,x3]
theorem BF{a r:List Nat}(ha:∀x∈a,x≠32):∃ws:List Str,Txt.split ⟨(a++32::r).toArray⟩ " " =⟨a.toArray⟩::ws:=by
 have e1:(" " :Str)=⟨#[32]⟩:=by decide+kernel
 have k1:Builtin.Str.strKind (⟨#[32]⟩:Str)=1:=by decide+kernel
 have hl:(⟨(a++32::r).toArray⟩:Str).length=a.length+(r.length+1):=by rw[aK,List.length_append,List.length_cons]
 have l1:(⟨#[32]⟩:Str).length=1:=rfl
 have kx:∀x:Str,¬Builtin.Str.strKind x<1:=fun x=>by
  unfold Builtin.Str.strKind
  split
  ·decide
  ·split<;>decide
 unfold Txt.split
 rw[e1,oa,fG ha,lP,if_neg (by rw[hl,l1,k1,decide_eq_false (by omega),decide_eq_false (kx _)];simp),if_neg (by simp)]
 unfold Builtin.Str.partsBetween Builtin.Str.strSub
 have x1:((a++32::r).toArray.extract 0 (0+a.length))=a.toArray:=by
  refine Array.toList_inj.mp ?_
  rw[Array.toList_extract]
  show ((a++32::r).drop 0).take (0+a.length - 0)=a
  simp
 exact⟨_,by show (⟨_⟩:Str)::_=_;rw[x1]⟩
theorem Hj{c:Nat}{b:List Nat}{i n:Nat}(h:∀x∈b,x≠c):gY c i n b=[]:=by
 have:=fG (i:=i) (n:=n) (r:=[]) h
 rw[List.append_nil,lO] at this
 exact this
theorem Hk{a b:List Nat}(ha:∀x∈a,x≠32)(hb:∀x∈b,x≠32):Txt.split ⟨(a++32::b).toArray⟩ " " =[⟨a.toArray⟩,⟨b.toArray⟩]:=by
 have e1:(" " :Str)=⟨#[32]⟩:=by decide+kernel
 have k1:Builtin.Str.strKind (⟨#[32]⟩:Str)=1:=by decide+kernel
 have hl:(⟨(a++32::b).toArray⟩:Str).length=a.length+(b.length+1):=by rw[aK,List.length_append,List.length_cons]
 have l1:(⟨#[32]⟩:Str).length=1:=rfl
 have kx:∀x:Str,¬Builtin.Str.strKind x<1:=fun x=>by
  unfold Builtin.Str.strKind
  split
  ·decide
  ·split<;>decide
 unfold Txt.split
 rw[e1,oa,fG ha,lP,Hj hb,if_neg (by rw[hl,l1,k1,decide_eq_false (by omega),decide_eq_false (kx _)];simp),if_neg (by simp)]
 unfold Builtin.Str.partsBetween Builtin.Str.strSub
 have x1:((a++32::b).toArray.extract 0 (0+a.length))=a.toArray:=by
  refine Array.toList_inj.mp ?_
  rw[Array.toList_extract]
  show ((a++32::b).drop 0).take (0+a.length - 0)=a
  simp
 have x2:((a++32::b).toArray.extract (0+a.length+1) (a.length+(b.length+1)))=b.toArray:=by
  refine Array.toList_inj.mp ?_
  rw[Array.toList_extract]
  show ((a++32::b).drop (0+a.length+1)).take _=b
  rw[show (a++32::b).drop (0+a.length+1)=b by rw[Nat.zero_add,←List.drop_drop,List.drop_left];rfl]
  exact List.take_of_length_le (by omega)
 show [(⟨_⟩:Str),⟨_⟩]=_
 rw[x1,hl,l1,x2]
structure Ab(K:PySem.W.Frag)(mg:Str→Option Value)(C:Addr)(uq ur:Tok):Prop extends vv K mg C where
 Jc:mg "all" =none
 pQ:mg "LONGEST_NAME" =some (.int 8 uq)
 rN:mg "PARTING" =some (.str " " ur)
variable {uq ur:Tok}
def isNm(l:List Nat):Bool:=decide (1≤l.length)&&(decide (l.length≤8)&&l.all fe)
def pR:Sp:=fun vs H Q _=>∃l:List Nat,vs=[.str ⟨l.toArray⟩]∧du l∧l.length≤1000∧∀H',aG H H'→Q (.bl (isNm l)) H'
theorem D8:az ["word"] ["word"] (ag kZ):=dI
theorem BG(D:Def K mg "is_name" "is_name" kZ ["word"])(T:Ab K mg C uq ur)(c1:bI P w K mg base 1 "is_small" ["sign"] (GA 97 122)):bI P w K mg base 2 "is_name" ["word"] pR:=by
 obtain⟨_,_,cO⟩:=c1
 refine D.fW D8 (fun vs H Q E h=>?_) (fun f br A outer s H vs Q E hr h=>?_)
 ·obtain⟨l,rfl,_⟩:=h
  rfl
 ·obtain⟨l,rfl,ha,hl,q⟩:=h
  have big:(4000 :Nat)≤sizeLine:=by decide
  have xl:(⟨l.toArray⟩:Str).length=l.length:=aK l
  refine⟨_,(ao
     (aH (lV (kD Cq Cq aq (bw dk rfl T.gg eI (aa (pv 0) ak)) (aP (v:= .int 8) rfl T.pQ ⟨_,rfl⟩)) (oq (bw (va rfl) rfl T.Jc CG (aa (ic (sc:=(ag kZ)) (NX:=["word"]) (N:=["sign"]) (fr:=[none]) ⟨by rfl,by rfl,by decide+kernel,by decide+kernel,by decide+kernel,by rfl,by decide+kernel⟩ rfl rfl rfl (CI (pv 0)) (fun _ _ _ _=>(cK (i:=0) (show (["sign"]:List Str).Nodup by decide+kernel) rfl (Or.inl rfl) (Or.inr rfl))) (fun _ _ _ _=>f6) (fun _ _ _ _=>(aX cO.ok (hr.mono (by decide)) rfl cO.g cO.kp cO.b .nil aV (aa (pv 0) ak)))) ak)))))),?_⟩
  have inS:∀c:Nat,inR 97 122 (⟨#[c]⟩:Str)=fe c:=fun c=>rfl
  refine⟨_,rfl,⟨l.toArray⟩,rfl,by omega,_,_,rfl,rfl,_,rfl,?_⟩
  by_cases h1:1≤l.length
  rotate_left
  ·refine iJ (by rw[xl];omega) ⟨_,rfl,dm ?_⟩
   have e:isNm l=false:=by unfold isNm;rw[decide_eq_false h1];rfl
   rw[←e]
   exact q H (aG.refl H)
  refine ie (by rw[xl];omega) ⟨_,_,rfl,rfl,_,rfl,?_⟩
  by_cases h8:l.length≤8
  rotate_left
  ·refine iJ (by rw[xl];omega) ?_
   have e:isNm l=false:=by unfold isNm;rw[decide_eq_false h8,Bool.false_and,Bool.and_false]
   rw[←e]
   exact q H (aG.refl H)
  refine ie (by rw[xl];omega) ?_
  have asc:(⟨l.toArray⟩:Str).cps.all (· <128)=true:=du.str ha
  refine⟨_,rfl,⟨l.toArray⟩,rfl,asc,fun M hM=>nH l.length H (fun σ=>∃v:Option V,σ=[v]) (fun i ys=>ys=((l.take i).map fe).map V.bl) (fun i H' hi _=>?_) (fun H' _=>?_) hM ⟨none,rfl⟩ (aG.new hM) ai rfl (by omega) (fun i ys h=>?_) ?_ ?_⟩
  ·show i< (⟨l.toArray⟩:Str).length
   omega
  ·show (⟨l.toArray⟩:Str).length≤l.length
   omega
  ·rw[h,List.length_map,List.length_map,List.length_take]
   omega
  ·rintro i σ H' ys hi ⟨v2,rfl⟩ e6 T8 rfl N M' hN x H6 ⟨rfl,c,hc,rfl⟩
   have yN:l[i]? =some c:=by
    have:=hc
    rw[←Array.getElem?_toList] at this
    exact this
   refine⟨_,rfl,⟨#[c]⟩,rfl,by show 1≤1;decide,hN _ _ _ ⟨_,rfl⟩ e6 T8 ?_⟩
   rw[inS,List.take_add_one,yN]
   simp
  ·rintro H6 ys e6 T8 rfl
   rw[List.take_length] at T8
   refine⟨M,l.map fe,rfl,bR.of T8,?_⟩
   have e:isNm l=(l.map fe).all id:=by
    unfold isNm
    rw[decide_eq_true h1,decide_eq_true h8,Bool.true_and,Bool.true_and,List.all_map]
    rfl
   rw[←e]
   exact q H6 e6
def tS:Sp:=fun vs H Q _=>∃v:V,vs=[v]∧Q (.bl true) H
theorem Hl:az ["word"] ["word"] (ag sV):=dI
theorem D9(D:Def K mg "is_any" "is_any" sV ["word"]):bI P w K mg base 1 "is_any" ["word"] tS:=by
 refine D.fW Hl (fun vs H Q E h=>?_) (fun f br A outer s H vs Q E hr h=>?_)
 ·obtain⟨v,rfl,_⟩:=h
  rfl
 ·obtain⟨v,rfl,q⟩:=h
  exact⟨_,(ao
       (aH jW)),q⟩
def nq:List Nat:=[99,104,97,110,103,101]
theorem yj:("change" :Str)=⟨nq.toArray⟩:=by decide+kernel
def RowW(row:List Nat)(ws:List (List Nat)):Prop:=
 (∃nm tx,row=nq++32::(nm++32::tx)∧(∀x∈nm,x≠32)∧ws=[nq,nm,tx])∨∃w nm,row=w++32::nm∧(∀x∈w,x≠32)∧(∀x∈nm,x≠32)∧w≠nq∧w≠[103,111]∧ws=[w,nm]
def sL(ws:List (List Nat)):List V:=ws.map fun l=>V.str ⟨l.toArray⟩
def rO:Sp:=fun vs H Q _=>∃(row:List Nat) (ws:List (List Nat)),vs=[.str ⟨row.toArray⟩]∧row.length≤9000∧RowW row ws∧∀l H',H' l=some (.lst (sL ws))→aG H H'→Q (.ref l) H'
theorem rP:az ["row","words"] ["row"] (ag k7):=dI
theorem yk(D:Def K mg "words_of" "words_of" k7 ["row"])(T:Ab K mg C uq ur):bI P w K mg base 1 "words_of" ["row"] rO:=by
 refine D.fW rP (fun vs H Q E h=>?_) (fun f br A outer s H vs Q E hr h=>?_)
 ·obtain⟨row,ws,rfl,_⟩:=h
  rfl
 ·obtain⟨row,ws,rfl,hl,Wk,q⟩:=h
  have big:(10000 :Nat)≤sizeLine:=by decide
  have xl:(⟨row.toArray⟩:Str).length=row.length:=aK row
  refine⟨_,(aj
     (aQ (i:=1) rP.nd rfl (Or.inl rfl) (gQ PySem.F.plainAttrs_str PySem.F.slot_str_split PySem.F.type_str_split CY (pv 0) (aa (aP (v:= .str " ") rfl T.rN ⟨_,rfl⟩) ak)))
    (aj
     (bM (bp cI (bz bu (pv 1) aq (fun _ _=>rfl)) aR (bq _))
      (ao
       (aH (gQ PySem.F.plainAttrs_str PySem.F.slot_str_split PySem.F.type_str_split A7 (pv 0) (aa (aP (v:= .str " ") rfl T.rN ⟨_,rfl⟩) (aa aq ak)))))
      ba)
    (aj
     (bM (PW.pt (sv (bp cI (bz bu (pv 1) aq (fun _ _=>rfl)) aR (bq _)) (nv (bp cI (bw cM rfl T.gg eI (aa (pv 1) ak)) aq (bq _)))))
      (ao
       (aH (aB KH (pv 1) (c9 (aa aR ak)))))
      ba)
    (ao
     (aH (pv 1)))))),?_⟩
  have sle:=PyProof.Rows.split_le (⟨row.toArray⟩:Str) " "
  rcases Wk with ⟨nm,tx,rfl,hn,rfl⟩ | ⟨wd,nm,rfl,hw,hn,h1,h2,rfl⟩
  ·obtain⟨ws,hws⟩:=BF (a:=nq) (r:=nm++32::tx) (by decide)
   refine⟨_,rfl,rfl,⟨(nq++32::(nm++32::tx)).toArray⟩," ",rfl,rfl,by decide+kernel,by omega,by omega,fun l hL=>?_⟩
   rw[hws]
   have sl:=aG.new (o:= .lst ((⟨nq.toArray⟩::ws).map V.str)) hL
   refine⟨_,rfl,l,_,_,V.str ⟨nq.toArray⟩,rfl,rfl,bR.of ai,fh (j:=0) rfl,rfl,_,rfl,ie (by rw[yj]) ?_⟩
   have e3:=Hi (a:=nq) (b:=nm) (r:=tx) (by decide) hn
   refine⟨_,rfl,rfl,⟨(nq++32::(nm++32::tx)).toArray⟩," ",2,rfl,rfl,by decide+kernel,by decide,by decide,by omega,by rw[e3];show 3≤sizeLine;decide,fun l2 IC=>?_⟩
   rw[e3]
   exact q l2 _ ai (sl.trans (aG.new IC))
  ·have e2:=Hk hw hn
   refine⟨_,rfl,rfl,⟨(wd++32::nm).toArray⟩," ",rfl,rfl,by decide+kernel,by omega,by omega,fun l hL=>?_⟩
   rw[e2]
   have ne:∀{x:List Nat},wd≠x→¬V.str ⟨wd.toArray⟩=V.str ⟨x.toArray⟩:=fun {x} h z=>by
    have z:(⟨wd.toArray⟩:Str)=⟨x.toArray⟩:=by injection z
    have:=congrArg (fun s:Str=>s.cps.toList) z
    exact h (by simpa using this)
   have ego:("go" :Str)=⟨[103,111].toArray⟩:=by decide+kernel
   refine⟨_,rfl,l,_,_,V.str ⟨wd.toArray⟩,rfl,rfl,bR.of ai,rfl,rfl,_,rfl,iJ (by rw[yj];exact ne h1) ?_⟩
   refine⟨_,rfl,l,_,_,V.str ⟨wd.toArray⟩,rfl,rfl,bR.of ai,rfl,rfl,_,rfl,iJ (by rw[ego];exact ne h2) ?_⟩
   exact⟨_,rfl,q l _ ai (aG.new hL)⟩
structure Ea(P:Program)(w:World)(K:PySem.W.Frag)(mg:Str→Option Value)(C aF:Addr)(aL:List (Key×V))(uq ur:Tok):Prop extends Ab K mg C uq ur where
 Ac:mg "FORMS" =some (.ref aF)
 Ad:vn P w K aF aL
 Pb:mg "max" =none
variable {aF:Addr}{aL:List (Key×V)}
def wx(aL:List (Key×V)):Sp:=fun vs H Q _=>∃(l:Addr) (w0:List Nat) (ws:List (List Nat)) (v:V),vs=[.ref l]∧H l=some (.lst (sL (w0::ws)))∧w0≠[103,111,97,108]∧b4 aL (Sum.inr ⟨w0.toArray⟩)=some v∧Q v H
theorem wy:az ["words","form"] ["words"] (ag nS):=dI
theorem BH(D:Def K mg "form_of" "form_of" nS ["words"])(T:Ea P w K mg C aF aL uq ur):bI P w K mg base 1 "form_of" ["words"] (wx aL):=by
 refine D.fW wy (fun vs H Q E h=>?_) (fun f br A outer s H vs Q E hr h=>?_)
 ·obtain⟨l,w0,ws,v,rfl,_⟩:=h
  rfl
 ·obtain⟨l,w0,ws,v,rfl,hL,h0,hv,q⟩:=h
  refine⟨_,(aj
     (aQ (i:=1) wy.nd rfl (Or.inl rfl) (zu (aP (v:= .ref _) rfl T.Ac rfl) (bz bu (pv 0) aq (fun _ _=>rfl)) (fun _ _=>rfl)))
    (aj
     (bM (bp cI (bz bu (pv 0) aq (fun _ _=>rfl)) aR (bq _))
      (ao
       (aH (aB sx (pv 1) (bw (AE rfl) rfl T.Pb K3 (aa aq (aa (aB cC (aB xi (bw cM rfl T.gg eI (aa (pv 0) ak)) aq) (bw cM rfl T.gg eI (aa (pv 1) ak))) ak))))))
      ba)
    (ao
     (aH (pv 1))))),?_⟩
  have Jd:nE (sL (w0::ws)) 0=some (V.str ⟨w0.toArray⟩):=fh (j:=0) rfl
  have eg:("goal" :Str)=⟨[103,111,97,108].toArray⟩:=by decide+kernel
  refine⟨_,rfl,l,_,_,_,rfl,rfl,bR.of hL,Jd,aF,aL,Sum.inr ⟨w0.toArray⟩,v,rfl,T.Ad,rfl,hv,?_⟩
  refine⟨_,rfl,l,_,_,_,rfl,rfl,bR.of hL,Jd,rfl,_,rfl,iJ (fun z=>h0 ?_) ⟨_,rfl,q⟩⟩
  rw[eg] at z
  have z:(⟨w0.toArray⟩:Str)=⟨[103,111,97,108].toArray⟩:=by injection z
  have:=congrArg (fun s:Str=>s.cps.toList) z
  simpa using this
variable {uq ur:Tok}{aF:Addr}{aL:List (Key×V)}
def ym:List Nat:=[100,114,111,112]
def wz:List Nat:=[115,104,111,119]
theorem LN:("drop" :Str)=⟨ym.toArray⟩:=by decide+kernel
theorem LO:("show" :Str)=⟨wz.toArray⟩:=by decide+kernel
structure Eb(P:Program)(w:World)(K:PySem.W.Frag)(mg:Str→Option Value)(C aF:Addr)(aL:List (Key×V))(uq ur:Tok):Prop extends Ea P w K mg C aF aL uq ur where
 Pd:mg "zip" =none
 Ec:∃a f g,b4 aL (Sum.inr ⟨nq.toArray⟩)=some (.ref a)∧mg "is_name" =some (.ref f)∧mg "is_any" =some (.ref g)∧∀H,ku K H a [.ref f, .ref g]
 LP:∃a f,b4 aL (Sum.inr ⟨ym.toArray⟩)=some (.ref a)∧mg "is_name" =some (.ref f)∧∀H,ku K H a [.ref f]
 LQ:∃a f,b4 aL (Sum.inr ⟨wz.toArray⟩)=some (.ref a)∧mg "is_name" =some (.ref f)∧∀H,ku K H a [.ref f]
inductive LR:List (List Nat)→Prop
 |chg {nm tx:List Nat} (a:du nm) (h:isNm nm=true):LR [nq,nm,tx]
 |LU {nm:List Nat} (a:du nm) (h:isNm nm=true):LR [ym,nm]
 |LV {nm:List Nat} (a:du nm) (h:isNm nm=true):LR [wz,nm]
def LW(P:Program)(w:World)(K:PySem.W.Frag)(mg:Str→Option Value)(base:Heap)(f:Addr)(wd:List Nat):Prop:=∃sp,IP P w K mg base js 2 f sp∧∀H (Q:VK) (E:XK),(∀H',aG H H'→Q (.bl true) H')→sp [.str ⟨wd.toArray⟩] H Q E
theorem Ed{ws:List (List Nat)}(h:LR ws)(T:Eb P w K mg C aF aL uq ur)(c1:bI P w K mg base 2 "is_name" ["word"] pR)(c2:bI P w K mg base 1 "is_any" ["word"] tS):
  ∃(w0:List Nat) (rest:List (List Nat)) (a:Addr) (fs:List Addr),ws=w0::rest∧w0≠[103,111,97,108]∧b4 aL (Sum.inr ⟨w0.toArray⟩)=some (.ref a)∧(∀H,ku K H a (fs.map V.ref))∧fs.length=rest.length∧rest.length≤2∧∀(i:Nat) f wd,fs[i]? =some f→rest[i]? =some wd→LW P w K mg base f wd:=by
 have one:∀{f nm},mg "is_name" =some (.ref f)→du nm→isNm nm=true→LW P w K mg base f nm:=fun {f nm} g a h=>by
  refine⟨_,c1.dyn g,fun H Q E q=>⟨nm,rfl,a,?_,fun H' s=>by rw[h];exact q H' s⟩⟩
  have:nm.length≤8:=by
   unfold isNm at h
   simp only [Bool.and_eq_true,decide_eq_true_eq] at h
   exact h.2.1
  omega
 have two:∀{f tx},mg "is_any" =some (.ref f)→LW P w K mg base f tx:=fun {f tx} g=>⟨_,(c2.dyn g).mono (by decide),fun H Q E q=>⟨_,rfl,q H (aG.refl H)⟩⟩
 cases h with
 |chg a h=>
  obtain⟨t,f,g,e1,e2,e3,e4⟩:=T.Ec
  refine⟨nq,_,t,[f,g],rfl,by decide,e1,e4,rfl,(by show _≤2;simp),fun i f' wd h1 h2=>?_⟩
  match i with
  |0=>cases h1;cases h2;exact one e2 a h
  |1=>cases h1;cases h2;exact two e3
  |n+2=>cases h1
 |LU a h=>
  obtain⟨t,f,e1,e2,e4⟩:=T.LP
  refine⟨ym,_,t,[f],rfl,by decide,e1,e4,rfl,(by show _≤2;simp),fun i f' wd h1 h2=>?_⟩
  match i with
  |0=>cases h1;cases h2;exact one e2 a h
  |n+1=>cases h1
 |LV a h=>
  obtain⟨t,f,e1,e2,e4⟩:=T.LQ
  refine⟨wz,_,t,[f],rfl,by decide,e1,e4,rfl,(by show _≤2;simp),fun i f' wd h1 h2=>?_⟩
  match i with
  |0=>cases h1;cases h2;exact one e2 a h
  |n+1=>cases h1
def rQ:Sp:=fun vs H Q _=>∃l ws,vs=[.ref l]∧H l=some (.lst (sL ws))∧LR ws∧∀H',aG H H'→Q (.bl true) H'
theorem rR:az ["words","form"] ["words"] (ag jb):=dI
theorem yn(D:Def K mg "has_form" "has_form" jb ["words"])(T:Eb P w K mg C aF aL uq ur)(c1:bI P w K mg base 2 "is_name" ["word"] pR)(c2:bI P w K mg base 1 "is_any" ["word"] tS)
  (c3:bI P w K mg base 1 "form_of" ["words"] (wx aL)):bI P w K mg base 3 "has_form" ["words"] rQ:=by
 have okf:=fun {ws} (h:LR ws)=>Ed h T c1 c2
 obtain⟨_,_,jI⟩:=c3
 refine D.fW rR (fun vs H Q E h=>?_) (fun f br A outer s H vs Q E hr h=>?_)
 ·obtain⟨l,ws,rfl,_⟩:=h
  rfl
 ·obtain⟨l,ws,rfl,hL,hw,q⟩:=h
  obtain⟨w0,rest,a,fs,rfl,ng,hv,ht,hl,h2,fit⟩:=okf hw
  refine⟨_,(aj
     (bM (lU (A4 (bz bu (pv 0) aq (fun _ _=>rfl)) (aP (v:= .ref _) rfl T.Ac rfl)))
      (ao
       (aH jW))
      ba)
    (aj
     (aQ (i:=1) rR.nd rfl (Or.inl rfl) (aX jI.ok (hr.mono (by decide)) rfl jI.g jI.kp jI.b .nil aV (aa (pv 0) ak)))
    (ao
     (aH (lV (jo cI (bw cM rfl T.gg eI (aa (pv 0) ak)) (aB cL aq (bw cM rfl T.gg eI (aa (pv 1) ak))) (bq _)) (oq (bw (va rfl) rfl T.Jc CG (aa (ic (sc:=(ag jb)) (NX:=["words","form"]) (N:=["fits","word"]) (fr:=[none,none]) ⟨by rfl,by rfl,by decide+kernel,by decide+kernel,by decide+kernel,by rfl,by decide+kernel⟩ rfl rfl rfl (Gn rfl T.Pd (aa (pv 1) (aa (cE jr (pv 0) (cg aq) ia) ak))) (fun _ _ _ _=>(zb K 2 rfl rfl (kA (cK (i:=0) (show (["fits","word"]:List Str).Nodup by decide+kernel) rfl (Or.inl rfl) (Or.inr rfl)) (kA (cK (i:=1) (show (["fits","word"]:List Str).Nodup by decide+kernel) rfl (Or.inl rfl) (Or.inr rfl)) yP)))) (fun _ _ _ _=>f6) (fun _ _ _ _=>(C7 P w K mg base rfl rfl rfl rfl rfl (k:=2) (hr.mono (by decide)) aV (pv 0) (aa (pv 1) ak)))) ak)))))))),?_⟩
  have Jd:nE (sL (w0::rest)) 0=some (V.str ⟨w0.toArray⟩):=fh (j:=0) rfl
  refine⟨_,rfl,l,_,_,_,rfl,rfl,bR.of hL,Jd,aF,aL,Sum.inr ⟨w0.toArray⟩,rfl,T.Ad,rfl,?_⟩
  rw[hv]
  refine⟨_,rfl,dm ?_⟩
  have big:(100 :Nat)≤sizeLine:=by decide
  refine⟨_,rfl,l,w0,rest,_,rfl,hL,ng,hv,?_⟩
  have len:(sL (w0::rest)).length=rest.length+1:=by unfold sL;rw[List.length_map,List.length_cons]
  refine⟨_,rfl,l,_,rfl, .inl (bR.of hL),_,rfl,a,_,rfl, .inr (ht _),_,_,rfl,rfl,rfl,_,rfl,?_⟩
  rw[len,List.length_map,hl]
  refine ie (congrArg V.int (by omega)) ?_
  have ec:iY (sL (w0::rest)) (some (1 :Int)) none=sL rest:=xA (sL (w0::rest)) 1
  refine⟨_,rfl,_,rfl,_,rfl,l,_,rfl,bR.of hL,fun m hm=>?_⟩
  rw[ec]
  have s1:=aG.new (o:= .lst (sL rest)) hm
  have LC:(upd H m (.lst (sL rest))) m=some (.lst (sL rest)):=ai
  generalize upd H m (.lst (sL rest))=H1 at s1 LC ⊢
  refine⟨a,m,rfl,⟨_,ht _⟩,⟨_,bR.of LC⟩,fun L T9=>C8 (K:=K) (a:=a) (c:=m) (L:=L) (xs:=fs.map V.ref) (zs:=sL rest) H1 (fun σ=>∃v u:Option V,σ=[v,u]) (fun i ys=>ys=List.replicate i (V.bl true)) ht (bR.of LC) T9 ⟨none,none,rfl⟩ (aG.new T9) ai rfl (by rw[List.length_map];omega) ?_ ?_ ?_⟩
  ·rintro i ys rfl
   rw[List.length_replicate]
   exact Nat.le_refl _
  ·rintro i x z t σ H2 ys hx hz ht ⟨v,u,rfl⟩ hs IU rfl N M hN
   rw[List.getElem?_map,Option.map_eq_some_iff] at hx
   obtain⟨f',hf,rfl⟩:=hx
   unfold sL at hz
   rw[List.getElem?_map,Option.map_eq_some_iff] at hz
   obtain⟨wd,hw,rfl⟩:=hz
   obtain⟨sp,hd,uH⟩:=fit i f' wd hf hw
   refine⟨t,_,rfl,ku.of ai,rfl,_,_,rfl,_,_,rfl,rfl,_,rfl,f',sp,rfl,hd,_,rfl,uH _ _ _ fun H3 e3=>hN _ _ _ ⟨_,_,rfl⟩ ((hs.trans (aG.new ht)).trans e3) (e3 _ _ ?_) ?_⟩
   ·rw[ah (af IU ht)]
    exact IU
   ·rw[List.replicate_succ']
  ·rintro H2 ys hs IU rfl
   refine⟨L,List.replicate (min (fs.map V.ref).length (sL rest).length) true,rfl,bR.of ?_,?_⟩
   ·rw[IU,List.map_replicate]
   ·have e:(List.replicate (min (fs.map V.ref).length (sL rest).length) true).all id=true:=by simp
    rw[e]
    exact q _ (s1.trans hs)
def rS:Sp:=fun vs H Q _=>∃(row:List Nat) (ws:List (List Nat)),vs=[.str ⟨row.toArray⟩]∧row.length≤9000∧RowW row ws∧LR ws∧∀l H',H' l=some (.lst (sL ws))→aG H H'→Q (.ref l) H'
theorem rT:az ["row","words"] ["row"] (ag k8):=dI
theorem yo(D:Def K mg "read_row" "read_row" k8 ["row"])(c1:bI P w K mg base 1 "words_of" ["row"] rO)(c2:bI P w K mg base 3 "has_form" ["words"] rQ):bI P w K mg base 4 "read_row" ["row"] rS:=by
 obtain⟨_,_,iz⟩:=c1
 obtain⟨_,_,iA⟩:=c2
 refine D.fW rT (fun vs H Q E h=>?_) (fun f br A outer s H vs Q E hr h=>?_)
 ·obtain⟨row,ws,rfl,_⟩:=h
  rfl
 ·obtain⟨row,ws,rfl,hl,hw,ok,q⟩:=h
  refine⟨_,(aj
     (aQ (i:=1) rT.nd rfl (Or.inl rfl) (aX iz.ok (hr.mono (by decide)) rfl iz.g iz.kp iz.b .nil aV (aa (pv 0) ak)))
    (aj
     (bM (iX (gv (aX iA.ok (hr.mono (by decide)) rfl iA.g iA.kp iA.b .nil aV (aa (pv 1) ak))))
      (ao
       ux)
      ba)
    (ao
     (aH (pv 1))))),?_⟩
  refine⟨_,rfl,row,ws,rfl,hl,hw,fun l H1 h1 e1=>⟨_,rfl,l,ws,rfl,h1,ok,fun H2 e2=>⟨_,rfl,dm ⟨_,rfl,q l H2 (e2 _ _ h1) (e1.trans e2)⟩⟩⟩⟩
variable {HE NF TL NC TM NN Dk er Ch:Addr}{iQ:Tok}
structure j4(K:PySem.W.Frag)(mg:Str→Option Value)(HE NF TL NC TM NN Dk er Ch:Addr)(iQ:Tok):Prop extends vM K mg HE NF TL NC TM where
 Ee:mg "NoName" =some (.ref NN)
 Hm:PySem.W.takerIn K NN "name" =some none
 dU:qf K Dk
 fU:cu K Dk "changes"
 Ef:cu K Dk "store"
 jJ:qf K er
 yp:cu K er "amounts"
 Hn:cu K er "gone"
 Ho:mg "Store" =some (.ref er)
 cU:qf K Ch
 Eg:mg "DONE" =some (.str "ok" iQ)
def Eh(X:Addr)(fld:Str):Sp:=fun vs H Q _=>∃(e:Addr) (x:Str),vs=[.ref e, .str x]∧H e=some (oJ e X none)∧x.length≤100∧
 ∀dx H',H dx=none→dx≠e→H' e=some (oJ e X (some dx))→H' dx=some (wW dx [(fld, .str x)])→(∀b o,H b=some o→b≠e→H' b=some o)→Q .cJ H'
theorem Pe:az ["self","name"] ["self","name"] (ag Gu):=dI
theorem LX(D:kd K mg "NoName" NN HE "NoName.__init__" Gu ["self","name"])(T:j4 K mg HE NF TL NC TM NN Dk er Ch iQ):eW P w K mg base 1 "NoName" NN HE ["self","name"] (Eh NN "name"):=by
 obtain⟨f0,_,_,Z,_⟩:=id D
 refine D.fW Pe (fun vs H Q E h=>?_) (fun f br A outer s H vs Q E hr h=>?_)
 ·obtain⟨e,x,rfl,_⟩:=h
  rfl
 ·obtain⟨e,x,rfl,he,hx,q⟩:=h
  have big:(2000 :Nat)≤sizeLine:=by decide
  have y1:("no change stands by the name " :Str).length=29:=by decide+kernel
  have y0:(Str.empty).length=0:=rfl
  refine⟨_,(aj
     (bC (i' rfl T.dZ T.d8 (pv 0) (kN (dn aR (dn (oP (pv 1)) oQ)))))
    (ao
     (kM (pv 0) (pv 1) rfl))),?_⟩
  refine⟨_,rfl,_,rfl,?_,_,rfl, .inr ⟨_,rfl,by omega,_,rfl,?_,?_,e,NN,HE,f0,none,rfl,Z,he,?_⟩⟩
  any_goals (simp only [bj,y0,y1];omega)
  refine⟨_,rfl,_,rfl,e,NN,HE,f0,rfl,Z,T.Hm, .inl ⟨he,fun dx eZ hX=>?_⟩⟩
  refine q dx _ eZ hX ai (by rw[ah hX,ai]) fun b o z nb=>?_
  rw[ah nb,ah (af z eZ)]
  exact z
def Je(X:Addr)(fld:Str)(H:Hp)(E:XK)(x:Str):Prop:=∀b dx H',H b=none→H dx=none→H' b=some (lT b X (some dx))→H' dx=some (wW dx [(fld, .str x)])→aG H H'→E (.ref X) (some dx) H'
theorem Je.on{X:Addr}{fld:Str}{H H1:Hp}{E:XK}{x:Str}(h:Je X fld H E x)(e:aG H H1):Je X fld H1 E x:=fun b dx H' nb nd h1 h2 e2=>h b dx H' (e.free nb) (e.free nd) h1 h2 (e.trans e2)
theorem Rf.on{X:Addr}{fld:Str}{H H1:Hp}{E:XK}{n:Nat}(h:Rf X fld H E n)(e:aG H H1):Rf X fld H1 E n:=fun b dx H' nb nd h1 h2 e2=>h b dx H' (e.free nb) (e.free nd) h1 h2 (e.trans e2)
theorem ncs:¬(("changes" :Str)="store"):=by decide+kernel
def Pf(c s:Addr):List (Str×V):=cW "store" (.ref s) (cW "changes" (.ref c) [])
theorem gu(c s:Addr):(Pf c s).lookup ("changes" :Str)=some (.ref c):=by
 unfold Pf
 rw[aJ,if_neg ncs,aJ,if_pos rfl]
theorem yq(c s:Addr){m:Str}(h1:¬m="store")(h2:¬m="changes"):(Pf c s).lookup m=none:=by
 unfold Pf
 rw[aJ,if_neg h1,aJ,if_neg h2]
 all_goals rfl
def iB(Dk:Addr)(H:Hp)(d c:Addr):Prop:=∃dx s,H d=some (.ins Dk dx (Pf c s))
def tT(Dk NN:Addr):Sp:=fun vs H Q E=>∃(d dc:Addr) (x:Str) (bJ:List (Key×V)),vs=[.ref d, .str x]∧iB Dk H d dc∧H dc=some (.dK bJ)∧x.length≤100∧(∀v,b4 bJ (Sum.inr x)=some v→Q v H)∧(b4 bJ (Sum.inr x)=none→Je NN "name" H E x)
theorem Hq:az ["self","name"] ["self","name"] (ag sS):=dI
theorem Ei(D:bP K Dk "named" "Desk.named" sS ["self","name"])(T:j4 K mg HE NF TL NC TM NN Dk er Ch iQ)(c1:eW P w K mg base 1 "NoName" NN HE ["self","name"] (Eh NN "name")):aW P w K mg base 3 Dk "named" ["self","name"] (tT Dk NN):=by
 obtain⟨_,_,gZ⟩:=c1
 refine D.fj Hq (fun vs H Q E h=>?_) (fun f br A outer s H vs Q E hr h=>?_)
 ·obtain⟨d,dc,x,bJ,rfl,_⟩:=h
  rfl
 ·obtain⟨d,dc,x,bJ,rfl,⟨dx,so,hd⟩,hc,hx,q,qE⟩:=h
  have hu:=kH hr
  refine⟨_,(aj
     (bM (lU (qK hu (pv 1) (bx (pv 0) rfl)))
      (ao
       (fL rfl aO (fK gZ.z gZ.ok (hr.mono (by decide)) rfl gZ.g gZ.kp gZ.b (aa (pv 1) ak))))
      ba)
    (ao
     (aH (y3 hu (bx (pv 0) rfl) (pv 1) (fun _ _=>rfl))))),?_⟩
  refine⟨_,rfl,_,rfl,d,Dk,dx,_,_,rfl,hd,T.dU,T.fU,gu _ _,dc,_,rfl,jN.k (k:=Sum.inr x) hc,_,rfl,?_⟩
  cases hv:b4 bJ (Sum.inr x) with
  |none=>
   refine eG ⟨_,rfl,(by show 1≤100;decide),fun b hb=>?_⟩
   refine⟨b,_,rfl,ai,hx,fun jv H5 eZ hX xK uk k5=>⟨rfl,b,NN,HE,_,some jv,rfl,gZ.z,xK,?_⟩⟩
   rw[ah hX] at eZ
   refine qE hv b jv _ hb eZ ai (by rw[ah hX];exact uk) fun b' o z=>?_
   have tw:b'≠b:=af z hb
   rw[ah tw]
   exact k5 _ _ (by rw[ah tw];exact z) tw
  |some v=>
   exact dm ⟨_,rfl,d,Dk,dx,_,_,rfl,hd,T.dU,T.fU,gu _ _,_,rfl,dc,_,rfl,hv▸jN.k (k:=Sum.inr x) hc,q v hv⟩
variable {HE NF TL NC TM NN Dk er Ch:Addr}{iQ:Tok}
def tU(TL NC TM C G Pc Fo Ch dc:Addr)(bJ:List (Key×V))(nm tx:List Nat)(H:Hp)(Q:VK)(E:XK):Prop:=
 (tx.length≤400→∀xs ys c H',IX tx xs ys→xs.length+ys.length≤8→G9 C G Pc Fo Ch H H' c xs ys→Kept dc H H'→H' dc=some (.dK (putK bJ (Sum.inr ⟨nm.toArray⟩) (.ref c)))→Q (.str "ok") H')∧
 (tx.length≤400→∀xs ys,IX tx xs ys→8<xs.length+ys.length→Rf TM "many" H E (xs.length+ys.length))∧
 (tx.length≤400→∀e,T1 tx (sf ⟨tx.toArray⟩ e)→e≤tx.length→Rf NC "place" H E e)∧(400<tx.length→Rf TL "many" H E tx.length)
def Ej(NN dc:Addr)(bJ:List (Key×V))(nm:List Nat)(H:Hp)(Q:VK)(E:XK):Prop:=
 (∀v,b4 bJ (Sum.inr ⟨nm.toArray⟩)=some v→∀H',Kept dc H H'→H' dc=some (.dK (dX bJ (Sum.inr ⟨nm.toArray⟩)))→Q (.str "ok") H')∧(b4 bJ (Sum.inr ⟨nm.toArray⟩)=none→Je NN "name" H E ⟨nm.toArray⟩)
def Ek(NN C G Pc Fo Ch:Addr)(bJ:List (Key×V))(nm:List Nat)(H:Hp)(Q:VK)(E:XK):Prop:=
 (b4 bJ (Sum.inr ⟨nm.toArray⟩)=none∧Je NN "name" H E ⟨nm.toArray⟩)∨∃c xs ys,b4 bJ (Sum.inr ⟨nm.toArray⟩)=some (.ref c)∧fR C G Pc Fo Ch H c xs ys∧OY xs ys∧∀H',aG H H'→Q (.str (G5 xs ys)) H'
theorem tU.on{dc:Addr}{bJ:List (Key×V)}{nm tx:List Nat}{H H1:Hp}{Q:VK}{E:XK}(h:tU TL NC TM C G Pc Fo Ch dc bJ nm tx H Q E)(e:aG H H1):tU TL NC TM C G Pc Fo Ch dc bJ nm tx H1 Q E:=
 ⟨fun h4 xs ys c H' hG h8 hN k=>h.1 h4 xs ys c H' hG h8 (fun bQ ke=>hN bQ fun b o z1 z2=>ke b o (e.free z1) z2) fun b o z n=>k b o (e _ _ z) n,fun h4 xs ys hG h8=>(h.2.1 h4 xs ys hG h8).on e,fun h4 p hB hp=>(h.2.2.1 h4 p hB hp).on e,fun h4=>(h.2.2.2 h4).on e⟩
theorem Ej.on{dc:Addr}{bJ:List (Key×V)}{nm:List Nat}{H H1:Hp}{Q:VK}{E:XK}(h:Ej NN dc bJ nm H Q E)(e:aG H H1):Ej NN dc bJ nm H1 Q E:=
 ⟨fun v hv H' k=>h.1 v hv H' fun b o z n=>k b o (e _ _ z) n,fun hv=>(h.2 hv).on e⟩
theorem Ek.on{bJ:List (Key×V)}{nm:List Nat}{H H1:Hp}{Q:VK}{E:XK}(h:Ek NN C G Pc Fo Ch bJ nm H Q E)(e:aG H H1):Ek NN C G Pc Fo Ch bJ nm H1 Q E:=by
 rcases h with ⟨h1,h2⟩ | ⟨c,xs,ys,h1,h2,h3,h4⟩
 ·exact .inl ⟨h1,h2.on e⟩
 ·exact .inr ⟨c,xs,ys,h1,h2.same e,h3,fun H' e'=>h4 H' (e.trans e')⟩
def El(Dk:Addr)(ws:List (List Nat))(A:Addr→List (Key×V)→Hp→VK→XK→Prop):Sp:=fun vs H Q E=>∃(d dc l:Addr) (bJ:List (Key×V)),vs=[.ref d, .ref l]∧iB Dk H d dc∧H dc=some (.dK bJ)∧bJ.length≤900∧H l=some (.lst (sL ws))∧A dc bJ H Q E
def mX(TL NC TM C G Pc Fo Ch Dk:Addr):Sp:=fun vs H Q E=>∃nm tx:List Nat,tx.length≤9000∧El Dk [nm,tx] (fun dc bJ H Q E=>tU TL NC TM C G Pc Fo Ch dc bJ nm tx H Q E) vs H Q E
def rV(NN Dk:Addr):Sp:=fun vs H Q E=>∃nm:List Nat,nm.length≤100∧El Dk [nm] (fun dc bJ H Q E=>Ej NN dc bJ nm H Q E) vs H Q E
def rW(NN C G Pc Fo Ch Dk:Addr):Sp:=fun vs H Q E=>∃nm:List Nat,nm.length≤100∧El Dk [nm] (fun _ bJ H Q E=>Ek NN C G Pc Fo Ch bJ nm H Q E) vs H Q E
theorem yr{a:List Nat}{r:List (List Nat)}:nE (sL (a::r)) 0=some (V.str ⟨a.toArray⟩):=fh (j:=0) rfl
theorem Wl{a b:List Nat}{r:List (List Nat)}:nE (sL (a::b::r)) 1=some (V.str ⟨b.toArray⟩):=fh (j:=1) rfl
theorem wB:az ["desk","words"] ["desk","words"] (ag il):=dI
theorem tV(D:Def K mg "answer_change" "answer_change" il ["desk","words"])(T:j4 K mg HE NF TL NC TM NN Dk er Ch iQ)(c1:gT P w K mg base 24 "read_change" ["text"] (pE TL NC TM C G Pc Fo Ch)):
  gT P w K mg base 25 "answer_change" ["desk","words"] (mX TL NC TM C G Pc Fo Ch Dk):=by
 obtain⟨_,_,eS⟩:=c1
 refine D.fj wB (fun vs H Q E h=>?_) (fun f br A outer s H vs Q E hr h=>?_)
 ·obtain⟨nm,tx,_,d,dc,l,bJ,rfl,_⟩:=h
  rfl
 ·obtain⟨nm,tx,ht,d,dc,l,bJ,rfl,⟨dx,so,hd⟩,hc,hk,hL,q,qM,qE,qL⟩:=h
  have hu:=kH hr
  have xl:(⟨tx.toArray⟩:Str).length=tx.length:=aK tx
  have el:(⟨tx.toArray⟩:Str).cps.toList=tx:=rfl
  refine⟨_,(aj
     (y4 hu (bx (pv 0) rfl) (bz bu (pv 1) aq (fun _ _=>rfl)) (vg eS.ok (hr.mono (by decide)) rfl eS.g eS.kp eS.b .nil aO (aa (bz bu (pv 1) aq (fun _ _=>rfl)) ak)) rfl)
    (ao
     (aH (aP (v:= .str "ok") rfl T.Eg ⟨_,rfl⟩)))),?_⟩
  refine⟨_,rfl,l,_,_,_,rfl,rfl,bR.of hL,Wl,⟨tx.toArray⟩,rfl,by omega,fun h4 xs ys c H1 hG h8 nc hN e1=>?_,fun h4 xs ys hG h8=>?_,fun h4 e hB he=>?_,fun h4=>?_⟩
  ·rw[el] at hG
   refine⟨_,rfl,d,Dk,dx,_,_,rfl,e1 _ _ hd,T.dU,T.fU,gu _ _,_,rfl,l,_,_,_,rfl,rfl,bR.of (e1 _ _ hL),yr,dc,_,rfl,AI.k (k:=Sum.inr ⟨nm.toArray⟩) (e1 _ _ hc) (qO (by omega)),?_⟩
   refine q (by omega) xs ys c _ hG h8 (fun bQ ke=>hN bQ fun b o z1 z2=>ke b o z1 ?_) (fun b o z n=>?_) ai
   ·rw[ah (fun z=>by rw[z,hc] at z1;cases z1)]
    exact z2
   ·rw[ah n]
    exact e1 _ _ z
  ·rw[el] at hG
   exact qM (by omega) xs ys hG h8
  ·rw[el] at hB
   rw[xl] at he
   exact qE (by omega) e hB he
  ·rw[xl] at h4 ⊢
   exact qL h4
theorem BI:az ["desk","words"] ["desk","words"] (ag lh):=dI
theorem yt(D:Def K mg "answer_drop" "answer_drop" lh ["desk","words"])(T:j4 K mg HE NF TL NC TM NN Dk er Ch iQ)(c1:aW P w K mg base 3 Dk "named" ["self","name"] (tT Dk NN)):
  gT P w K mg base 4 "answer_drop" ["desk","words"] (rV NN Dk):=by
 obtain⟨_,_,cQ⟩:=c1
 refine D.fj BI (fun vs H Q E h=>?_) (fun f br A outer s H vs Q E hr h=>?_)
 ·obtain⟨nm,_,d,dc,l,bJ,rfl,_⟩:=h
  rfl
 ·obtain⟨nm,hn,d,dc,l,bJ,rfl,⟨dx,so,hd⟩,hc,hk,hL,q,qE⟩:=h
  have hu:=kH hr
  have xl:(⟨nm.toArray⟩:Str).length=nm.length:=aK nm
  refine⟨_,(aj
     (bC (bA (pv 0) T.dU cQ.m cQ.ok (hr.mono (by decide)) cQ.b .nil aO (aa (bz bu (pv 1) aq (fun _ _=>rfl)) ak)))
    (aj
     (bC (uR (bx (pv 0) rfl) (bz bu (pv 1) aq (fun _ _=>rfl)) ⟨rfl,rfl,rfl,rfl⟩))
    (ao
     (aH (aP (v:= .str "ok") rfl T.Eg ⟨_,rfl⟩))))),?_⟩
  refine⟨_,rfl,d,dx,_,rfl,hd,yq _ _ (by decide+kernel) (by decide+kernel),_,rfl,l,_,_,_,rfl,rfl,bR.of hL,yr,d,dc,_,bJ,rfl,⟨dx,so,hd⟩,hc,by omega,fun v hv=>?_,qE⟩
  refine⟨_,rfl,d,Dk,dx,_,_,rfl,hd,T.dU,T.fU,gu _ _,dc,rfl, .inl ⟨_, .inl hc⟩,_,rfl,l,_,_,_,rfl,rfl,bR.of hL,yr,bJ,Sum.inr ⟨nm.toArray⟩,v,hc,rfl,hv,?_⟩
  refine q v hv _ (fun b o z n=>?_) ai
  rw[ah n]
  exact z
theorem BJ:az ["desk","words"] ["desk","words"] (ag lj):=dI
theorem yu(D:Def K mg "answer_show" "answer_show" lj ["desk","words"])(T:j4 K mg HE NF TL NC TM NN Dk er Ch iQ)(c1:aW P w K mg base 3 Dk "named" ["self","name"] (tT Dk NN))(c2:dw P w K mg base 16 Ch "shown" ["self"] (vQ C G Pc Fo Ch)):
  gT P w K mg base 17 "answer_show" ["desk","words"] (rW NN C G Pc Fo Ch Dk):=by
 obtain⟨_,_,cQ⟩:=c1
 obtain⟨_,_,fV⟩:=c2
 refine D.fj BJ (fun vs H Q E h=>?_) (fun f br A outer s H vs Q E hr h=>?_)
 ·obtain⟨nm,_,d,dc,l,bJ,rfl,_⟩:=h
  rfl
 ·obtain⟨nm,hn,d,dc,l,bJ,rfl,⟨dx,so,hd⟩,hc,hk,hL,q⟩:=h
  have hu:=kH hr
  have xl:(⟨nm.toArray⟩:Str).length=nm.length:=aK nm
  refine⟨_,(ao
     (aH (bT (bA (pv 0) T.dU cQ.m cQ.ok (hr.mono (by decide)) cQ.b .nil aO (aa (bz bu (pv 1) aq (fun _ _=>rfl)) ak)) T.cU fV.m fV.ok (hr.mono (by decide)) fV.b .nil aV))),?_⟩
  refine⟨_,rfl,d,dx,_,rfl,hd,yq _ _ (by decide+kernel) (by decide+kernel),_,rfl,l,_,_,_,rfl,rfl,bR.of hL,yr,d,dc,_,bJ,rfl,⟨dx,so,hd⟩,hc,by omega,fun v hv=>?_,fun hv=>?_⟩
  ·rcases q with ⟨z,_⟩ | ⟨c,xs,ys,Ks,hC,Pg,q⟩
   ·rw[hv] at z;cases z
   ·rw[hv] at Ks
    cases Ks
    obtain⟨df,lf,rg,yN,_,_⟩:=id hC
    exact⟨c,df,_,rfl,yN,DI _ _ (by decide+kernel) (by decide+kernel),c,xs,ys,rfl,hC,Pg,fun H5 e5=>q H5 e5⟩
  ·rcases q with ⟨_,qE⟩ | ⟨c,xs,ys,Ks,_⟩
   ·exact qE
   ·rw[hv] at Ks;cases Ks
variable {HE NF TL NC TM NN Dk er Ch:Addr}{iQ uq ur:Tok}{aF aA:Addr}{aL Hr:List (Key×V)}
def wD(er:Addr):Sp:=fun vs H Q _=>∃(p dx:Addr),vs=[.ref p, .cJ]∧H p=some (.ins er dx [])∧∀H',(∀b o,H b=some o→b≠p→H' b=some o)→Q .cJ H'
theorem Em:az ["self","amounts","text"] ["self","amounts"] (ag dt):=dI
theorem BK(D:Gf K er "Store.__init__" dt ["self","amounts"])(T:j4 K mg HE NF TL NC TM NN Dk er Ch iQ):CT P w K mg base js 1 er ["self","amounts"] (wD er):=by
 refine D.fW Em (fun vs H Q E h=>?_) (fun f br A outer s H vs Q E hr h=>?_)
 ·obtain⟨p,dx,rfl,_⟩:=h
  rfl
 ·obtain⟨p,dx,rfl,hp,q⟩:=h
  have hu:=kH hr
  refine⟨_,(aj
     (dz (pv 0) kG rfl)
    (aj
     (dz (pv 0) (c9 ak) rfl)
    (ao
     (bM (lU (yO (pv 1)))
      (ao
       ux)
      ba)))),?_⟩
  refine fun d hd=>?_
  have Ph:p≠d:=af hp hd
  refine⟨_,rfl,p,er,dx,[],rfl,(by rw[ah Ph];exact hp),T.jJ,T.yp,(by show 0<1000;decide),(by show 0≤sizeLine;decide),fun g Dx=>?_⟩
  have npg:p≠g:=fun z=>by rw[z,ai] at Dx;cases Dx
  rw[ah (Ne.symm npg)] at Dx
  have Fv:d≠g:=fun z=>by rw[z,ai] at Dx;cases Dx
  rw[ah (Ne.symm Fv)] at Dx
  refine⟨_,rfl,p,er,dx,_,rfl,(by rw[ah npg,ai]),T.jJ,T.Hn,(by show 1<1000;decide),?_⟩
  refine⟨_,rfl,_,rfl,dm (q _ fun b o z n=>?_)⟩
  rw[ah n,ah (af z Dx),ah n,ah (af z hd)]
  exact z
def wF(Dk:Addr):Sp:=fun vs H Q _=>∃(p dx:Addr),vs=[.ref p]∧H p=some (.ins Dk dx [])∧∀dc H',H dc=none→iB Dk H' p dc→H' dc=some (.dK [])→(∀b o,H b=some o→b≠p→H' b=some o)→Q .cJ H'
theorem En:az ["self"] ["self"] (ag nQ):=dI
theorem BL(D:i5 K Dk "Desk.__init__" nQ ["self"] [])(T:j4 K mg HE NF TL NC TM NN Dk er Ch iQ)(c1:CT P w K mg base js 1 er ["self","amounts"] (wD er)):eU P w K mg base 3 Dk ["self"] [] (wF Dk):=by
 obtain⟨_,_,jJ⟩:=c1
 have BM:=jJ.b1
 have BN:=Vk
 refine D.fW En (fun vs H Q E h=>?_) (fun f br A outer s H vs Q E hr h=>?_)
 ·obtain⟨p,dx,rfl,_⟩:=h
  rfl
 ·obtain⟨p,dx,rfl,hp,q⟩:=h
  have hu:=kH hr
  refine⟨_,(aj
     (dz (pv 0) kG rfl)
    (ao
     (dz (pv 0) (oC jJ.m jJ.ok (hr.mono (by decide)) rfl T.Ho BM BN aV) rfl))),?_⟩
  refine fun d hd=>?_
  have Ph:p≠d:=af hp hd
  refine⟨_,rfl,p,Dk,dx,[],rfl,(by rw[ah Ph];exact hp),T.dU,T.fU,(by show 0<1000;decide),?_⟩
  generalize Wm:upd (upd H d (.dK [])) p (.ins Dk dx (cW "changes" (.ref d) []))=H1
  have h1p:H1 p=some (.ins Dk dx (cW "changes" (.ref d) [])):=by rw[←Wm,ai]
  have h1d:H1 d=some (.dK []):=by rw[←Wm,ah (Ne.symm Ph),ai]
  have h1o:∀b o,H b=some o→b≠p→H1 b=some o:=fun b o z n=>by
   rw[←Wm,ah n,ah (af z hd)]
   exact z
  refine fun so dso nso Wn nn=>⟨so,dso,rfl,ai,fun H2 k2=>⟨rfl,?_⟩⟩
  have h2:∀b o,H1 b=some o→H2 b=some o:=fun b o z=>k2 b o (by rw[ah (af z nso),ah (af z Wn)];exact z) (af z nso)
  refine⟨_,rfl,p,Dk,dx,_,rfl,h2 _ _ h1p,T.dU,T.Ef,(by show 1<1000;decide),?_⟩
  refine q d _ hd ⟨dx,so,ai⟩ (by rw[ah (Ne.symm Ph)];exact h2 _ _ h1d) fun b o z n=>?_
  rw[ah n]
  exact h2 _ _ (h1o b o z n)
structure Jf(P:Program)(w:World)(K:PySem.W.Frag)(mg:Str→Option Value)(HE NF TL NC TM NN Dk er Ch aA:Addr)(Hr:List (Key×V))(iQ:Tok):Prop extends j4 K mg HE NF TL NC TM NN Dk er Ch iQ where
 BO:mg "ANSWERS" =some (.ref aA)
 mB:vn P w K aA Hr
 Eo:∃f,b4 Hr (Sum.inr ⟨nq.toArray⟩)=some (.ref f)∧mg "answer_change" =some (.ref f)
 LY:∃f,b4 Hr (Sum.inr ⟨ym.toArray⟩)=some (.ref f)∧mg "answer_drop" =some (.ref f)
 LZ:∃f,b4 Hr (Sum.inr ⟨wz.toArray⟩)=some (.ref f)∧mg "answer_show" =some (.ref f)
theorem L0{c:Nat}(h:fe c=true):c≠32:=fun z=>by subst z;revert h;decide
theorem Ep{nm:List Nat}(h:isNm nm=true):nm.length≤8∧∀x∈nm,x≠32:=by
 unfold isNm at h
 simp only [Bool.and_eq_true,decide_eq_true_eq,List.all_eq_true] at h
 exact⟨h.2.1,fun x hx=>L0 (h.2.2 x hx)⟩
inductive Jg(TL NC TM NN C G Pc Fo Ch dc:Addr)(bJ:List (Key×V))(nm:List Nat)(H:Hp)(Q:VK)(E:XK):List Nat→Prop
 |chg (tx:List Nat) (hl:tx.length≤8000) (h:tU TL NC TM C G Pc Fo Ch dc bJ nm tx H Q E):Jg TL NC TM NN C G Pc Fo Ch dc bJ nm H Q E (nq++32::(nm++32::tx))
 |LU (h:Ej NN dc bJ nm H Q E):Jg TL NC TM NN C G Pc Fo Ch dc bJ nm H Q E (ym++32::nm)
 |LV (h:Ek NN C G Pc Fo Ch bJ nm H Q E):Jg TL NC TM NN C G Pc Fo Ch dc bJ nm H Q E (wz++32::nm)
def Jh(TL NC TM NN C G Pc Fo Ch Dk:Addr):Sp:=fun vs H Q E=>∃(d dc:Addr) (row nm:List Nat) (bJ:List (Key×V)),vs=[.ref d, .str ⟨row.toArray⟩]∧iB Dk H d dc∧H dc=some (.dK bJ)∧bJ.length≤900∧du nm∧isNm nm=true∧Jg TL NC TM NN C G Pc Fo Ch dc bJ nm H Q E row
theorem Ji:az ["self","row","words"] ["self","row"] (ag Gv):=dI
theorem L5(D:bP K Dk "say" "Desk.say" Gv ["self","row"])(T:Jf P w K mg HE NF TL NC TM NN Dk er Ch aA Hr iQ)(c1:bI P w K mg base 4 "read_row" ["row"] rS)(c2:gT P w K mg base 25 "answer_change" ["desk","words"] (mX TL NC TM C G Pc Fo Ch Dk))(c3:gT P w K mg base 4 "answer_drop" ["desk","words"] (rV NN Dk))(c4:gT P w K mg base 17 "answer_show" ["desk","words"] (rW NN C G Pc Fo Ch Dk)):
  aW P w K mg base 26 Dk "say" ["self","row"] (Jh TL NC TM NN C G Pc Fo Ch Dk):=by
 obtain⟨_,_,iD⟩:=c1
 obtain⟨f1,v1,g1⟩:=T.Eo
 obtain⟨f2,v2,g2⟩:=T.LY
 obtain⟨f3,v3,g3⟩:=T.LZ
 have d1:=c2.dyn g1
 have d2:=(c3.dyn g2).mono (show 4≤25 by decide)
 have d3:=(c4.dyn g3).mono (show 17≤25 by decide)
 refine D.fj Ji (fun vs H Q E h=>?_) (fun f br A outer s H vs Q E hr h=>?_)
 ·obtain⟨d,dc,row,nm,bJ,rfl,_⟩:=h
  rfl
 ·obtain⟨d,dc,row,nm,bJ,rfl,⟨dx,so,hd⟩,hc,hk,ha,hn,hs⟩:=h
  obtain⟨hl,iK⟩:=Ep hn
  have ec:∀w0 rest,iY (sL (w0::rest)) (some (1 :Int)) none=sL rest:=fun w0 rest=>xA (sL (w0::rest)) 1
  refine⟨_,(aj
     (aQ (i:=2) Ji.nd rfl (Or.inl rfl) (aX iD.ok (hr.mono (by decide)) rfl iD.g iD.kp iD.b .nil aV (aa (pv 1) ak)))
    (ao
     (aH (Bc P w K mg base rfl rfl rfl rfl rfl (k:=25) (hr.mono (by decide)) aO (zu (aP (v:= .ref _) rfl T.BO rfl) (bz bu (pv 2) aq (fun _ _=>rfl)) (fun _ _=>rfl)) (aa (pv 0) (aa (cE jr (pv 2) (cg aq) ia) ak)))))),?_⟩
  cases hs with
  |chg tx ht h=>
   have rl:(nq++32::(nm++32::tx)).length≤9000:=by
    rw[List.length_append,List.length_cons,List.length_append,List.length_cons,show nq.length=6 from rfl];omega
   refine⟨_,rfl,_,[nq,nm,tx],rfl,rl, .inl ⟨nm,tx,rfl,iK,rfl⟩, .chg ha hn,fun l H1 h1 e1=>?_⟩
   refine⟨_,rfl,l,_,_,_,rfl,rfl,bR.of h1,yr,aA,Hr,Sum.inr ⟨nq.toArray⟩,_,rfl,T.mB,rfl,v1,f1,_,rfl,d1,_,rfl,_,rfl,_,rfl,l,_,rfl,bR.of h1,fun m hm=>?_⟩
   rw[ec]
   have e2:=e1.trans (aG.new (o:= .lst (sL [nm,tx])) hm)
   exact⟨nm,tx,by omega,d,dc,m,bJ,rfl,⟨dx,so,e2 _ _ hd⟩,e2 _ _ hc,hk,ai,h.on e2⟩
  |LU h=>
   have rl:(ym++32::nm).length≤9000:=by
    rw[List.length_append,List.length_cons,show ym.length=4 from rfl];omega
   refine⟨_,rfl,_,[ym,nm],rfl,rl, .inr ⟨ym,nm,rfl,by decide,iK,by decide,by decide,rfl⟩, .LU ha hn,fun l H1 h1 e1=>?_⟩
   refine⟨_,rfl,l,_,_,_,rfl,rfl,bR.of h1,yr,aA,Hr,Sum.inr ⟨ym.toArray⟩,_,rfl,T.mB,rfl,v2,f2,_,rfl,d2,_,rfl,_,rfl,_,rfl,l,_,rfl,bR.of h1,fun m hm=>?_⟩
   rw[ec]
   have e2:=e1.trans (aG.new (o:= .lst (sL [nm])) hm)
   exact⟨nm,by omega,d,dc,m,bJ,rfl,⟨dx,so,e2 _ _ hd⟩,e2 _ _ hc,hk,ai,h.on e2⟩
  |LV h=>
   have rl:(wz++32::nm).length≤9000:=by
    rw[List.length_append,List.length_cons,show wz.length=4 from rfl];omega
   refine⟨_,rfl,_,[wz,nm],rfl,rl, .inr ⟨wz,nm,rfl,by decide,iK,by decide,by decide,rfl⟩, .LV ha hn,fun l H1 h1 e1=>?_⟩
   refine⟨_,rfl,l,_,_,_,rfl,rfl,bR.of h1,yr,aA,Hr,Sum.inr ⟨wz.toArray⟩,_,rfl,T.mB,rfl,v3,f3,_,rfl,d3,_,rfl,_,rfl,_,rfl,l,_,rfl,bR.of h1,fun m hm=>?_⟩
   rw[ec]
   have e2:=e1.trans (aG.new (o:= .lst (sL [nm])) hm)
   exact⟨nm,by omega,d,dc,m,bJ,rfl,⟨dx,so,e2 _ _ hd⟩,e2 _ _ hc,hk,ai,h.on e2⟩
theorem Er{l:List Nat}(h:∀c∈l,c<128):du l:=h
structure JT(l:List Nat)(k:Nat)(rt:Bool):Prop where
 a:du l
 w:∃s,jS t5 0 false l=some (s,0,rt)∧uo s 0
 c:∀v,gP pJ 0 (l++v)+gP pA 0 (l++v)=k+(gP pJ 0 v+gP pA 0 v)
theorem D6.jt{l:List Nat}(h:D6 l):JT l 0 false:=⟨h.a,h.w false,fun v=>by rw[h.j,h.r];omega⟩
theorem tW{l:List Nat}{s:S5}{rt:Bool}(h:jS t5 0 false l=some (s,0,rt))(hc:uo s 0):jS s 0 rt [32]=some (⟨.gap,0,0,false⟩,0,rt):=by
 obtain⟨i1,_⟩:=O9 h
 rcases i1 with ⟨s8,rfl,_,hj⟩ | ⟨_,_,hn,_⟩ | ⟨_,hn,_⟩ | ⟨_,_,hn,_⟩ | ⟨_,_,hn,_⟩ | ⟨_,_,hn,_⟩ | ⟨_,_,hn,_⟩
 ·have hh:(rt||decide ((up s8).nm= .head))=rt:=by rw[decide_eq_false (n8 s8),Bool.or_false]
  rw[mx (s':=⟨.gap,0,0,false⟩) (by rw[hh,wc s8 0 rt 32 hj.st,if_pos ⟨rfl,zW.mp hc⟩]),hh]
  rfl
 all_goals
  exfalso
  rcases hc with z|z
  ·rw[hn] at z;cases z
  ·rw[hn] at z;cases z.1
theorem JT.plus{l t:List Nat}{k:Nat}{rt:Bool}(h:JT l k rt)(ht:D6 t):JT (l++pJ++t) (k+1) rt:=by
 obtain⟨s,w1,w2⟩:=h.w
 obtain⟨s',v1,v2⟩:=ht.w rt
 obtain⟨c,r,ec,hc⟩:=ht.b
 refine⟨(h.a.app (Er (by decide))).app ht.a,⟨s',?_,v2⟩,fun v=>?_⟩
 ·rw[List.append_assoc,ei w1,show pJ++t=[32]++([43,32]++t) from rfl,ei (tW w1 w2),ei (show jS ⟨.gap,0,0,false⟩ 0 rt [43,32]=some (t5,0,rt) by cases rt<;>rfl)]
  exact v1
 ·rw[List.append_assoc,List.append_assoc,h.c]
  have n:=hc.ne
  have e1:gP pJ 0 (pJ++(t++v))=1+gP pJ 0 (t++v):=by
   show gP [32,43,32] 0 (32::43::32::(t++v))=_
   rw[gP,if_pos (by simp [List.isPrefixOf])]
   rfl
  have e2:gP pA 0 (pJ++(t++v))=gP pA 0 (t++v):=by
   rw[ec]
   show gP [32,45,62,32] 0 (32::43::32::c::(r++v))=_
   rw[dO _ (by decide),gP,if_neg (by simp [List.isPrefixOf]),dO _ (by omega)]
   rfl
  rw[e1,e2,ht.j,ht.r]
  omega
theorem JT.arrow{l t:List Nat}{k:Nat}(h:JT l k false)(ht:D6 t):JT (l++pA++t) (k+1) true:=by
 obtain⟨s,w1,w2⟩:=h.w
 obtain⟨s',v1,v2⟩:=ht.w true
 obtain⟨c,r,ec,hc⟩:=ht.b
 refine⟨(h.a.app (Er (by decide))).app ht.a,⟨s',?_,v2⟩,fun v=>?_⟩
 ·rw[List.append_assoc,ei w1,show pA++t=[32]++([45,62,32]++t) from rfl,ei (tW w1 w2),ei (show jS ⟨.gap,0,0,false⟩ 0 false [45,62,32]=some (t5,0,true) from rfl)]
  exact v1
 ·rw[List.append_assoc,List.append_assoc,h.c]
  have n:=hc.ne
  have e1:gP pA 0 (pA++(t++v))=1+gP pA 0 (t++v):=by
   show gP [32,45,62,32] 0 (32::45::62::32::(t++v))=_
   rw[gP,if_pos (by simp [List.isPrefixOf])]
   rfl
  have e2:gP pJ 0 (pA++(t++v))=gP pJ 0 (t++v):=by
   rw[ec]
   show gP [32,43,32] 0 (32::45::62::32::c::(r++v))=_
   rw[dO _ (by decide),gP,if_neg (by simp [List.isPrefixOf]),gP,if_neg (by simp [List.isPrefixOf]),dO _ (by omega)]
   rfl
  rw[e1,e2,ht.j,ht.r]
  omega
def Pj(l:List Nat):Nat:=1+gP pJ 0 l+gP pA 0 l
theorem JT.tn{l:List Nat}{k:Nat}{rt:Bool}(h:JT l k rt):Pj l=k+1:=by
 have:=h.c []
 rw[List.append_nil] at this
 have z:gP pJ 0 []+gP pA 0 []=0:=rfl
 rw[z] at this
 unfold Pj
 omega
structure Es(K:PySem.W.Frag)(mg:Str→Option Value)(C:Addr):Prop extends vv K mg C where
 Pk:mg "sum" =none
theorem L6{n i:Nat}(h:i<n):Fp n (i:Int)=some i:=by
 unfold Fp
 rw[if_pos (by omega),if_pos (by omega)]
 rfl
def Et(K:PySem.W.Frag):Sp:=fun vs H Q _=>∃(a:Addr) (ns:List Int) (p:Int),vs=[.ref a, .int p]∧bR K H a (ns.map V.int)∧∀n H',aG H H'→Q (.int n) H'
theorem L7:az ["_law_script","_law_place"] ["_law_script","_law_place"] (ag zz):=dI
theorem Hs(D:Def K mg "_law_here" "_law_here" zz ["_law_script","_law_place"])(T:Es K mg C):bI P w K mg base 1 "_law_here" ["_law_script","_law_place"] (Et K):=by
 refine D.fW L7 (fun vs H Q E h=>?_) (fun f br A outer s H vs Q E hr h=>?_)
 ·obtain⟨a,ns,p,rfl,_⟩:=h
  rfl
 ·obtain⟨a,ns,p,rfl,hS,q⟩:=h
  obtain⟨ms,hm,_⟩:=u6 ns (some p) (some (p+1))
  refine⟨_,(ao
     (aH (bw (CD rfl) rfl T.Pk KS (aa (cE jr (pv 0) (cg (pv 1)) (cg (aB cL (pv 1) aq))) ak)))),?_⟩
  exact⟨_,rfl,_,rfl,_,rfl,_,rfl,_,_,rfl,rfl,_,rfl,a,_,rfl,hS,fun t ht=>⟨t,ms,rfl,bR.of (by rw[ai,hm]),q _ _ (aG.new ht)⟩⟩
def L8(x:Int):Prop:=0≤x∧x<1999999973
theorem yv(n:Int):L8 (n%1999999973):=⟨Int.emod_nonneg _ (by decide),Int.emod_lt_of_pos _ (by decide)⟩
def wG:Sp:=fun vs H Q _=>∃c m:Int,vs=[.int c, .int m]∧0≤m∧m≤63∧∀(l:Addr) (xs:List Int) H',(xs.length:Int)=m→(∀x∈xs,L8 x)→H l=none→H' l=some (.lst (xs.map V.int))→aG H H'→Q (.ref l) H'
theorem cV:az ["_law_cell","_law_many","_law_rest","_law_one","_law_two","_law_found","_law_turn","_law_more","_law_k"] ["_law_cell","_law_many"] (ag nU):=dI
theorem BP(D:Def K mg "_law_shaken" "_law_shaken" nU ["_law_cell","_law_many"])(T:Es K mg C):bI P w K mg base 1 "_law_shaken" ["_law_cell","_law_many"] wG:=by
 refine D.fW cV (fun vs H Q E h=>?_) (fun f br A outer s H vs Q E hr h=>?_)
 ·obtain⟨c,m,rfl,_⟩:=h
  rfl
 ·obtain⟨c,m,rfl,m0,m1,q⟩:=h
  have big:(2000 :Nat) <sizeLine:=by decide
  refine⟨_,(aj
     (aQ (i:=2) cV.nd rfl (Or.inl rfl) (aB oI (pv 0) aq))
    (aj
     (aQ (i:=3) cV.nd rfl (Or.inl rfl) (aB bO (pv 2) aq))
    (aj
     (aQ (i:=4) cV.nd rfl (Or.inl rfl) (aB bO (aB oI (pv 2) aq) aq))
    (aj
     (aQ (i:=5) cV.nd rfl (Or.inl rfl) (c9 ak))
    (aj
     (ow PassesOwn.never rfl (gK rfl T.jA (aa (aB cL (pv 1) aq) ak)) (cK (i:=6) cV.nd rfl (Or.inl rfl))
      (aj
       (aQ (i:=7) cV.nd rfl (Or.inl rfl) (aB cL (aB cL (aB cL (aB sx (pv 3) aq) (aB sx (pv 4) (pv 4))) (aB sx aq (pv 6))) aq))
      (aj
       (aQ (i:=3) cV.nd rfl (Or.inl rfl) (pv 4))
      (aj
       (aQ (i:=4) cV.nd rfl (Or.inl rfl) (aB bO (pv 7) aq))
      (ao
       (bC (gQ PySem.F.plainAttrs_list PySem.F.slot_list_append PySem.F.type_list_append eD (pv 5) (aa (pv 4) ak))))))))
    (aj
     (aQ (i:=5) cV.nd rfl (Or.inl rfl) (cE jr (pv 5) (cg aq) ia))
    (aj
     (bM (bp cI (aB bO (pv 0) aq) aq (bq _))
      (ao
       (aH (pv 5)))
      ba)
    (aj
     (ow PassesOwn.never rfl (gK rfl T.jA (aa (pv 1) ak)) (cK (i:=8) cV.nd rfl (Or.inl rfl))
      (ao
       (bM (bp qy (pv 2) aq (bq _))
        (aj
         (Kk (aB bO (pv 2) aq) (Kj (pv 5) (pv 8) set_list))
        (ao
         (aQ (i:=2) cV.nd rfl (Or.inl rfl) (aB oI (pv 2) aq))))
        ba)))
    (ao
     (aH (pv 5))))))))))),?_⟩
  have o1:=yv (c/2)
  have t0:0≤c/2/1999999973%1999999943:=Int.emod_nonneg _ (by decide)
  have t1:c/2/1999999973%1999999943<1999999943:=Int.emod_lt_of_pos _ (by decide)
  refine⟨_,rfl,_,_,rfl,rfl,⟨by decide,by decide⟩,_,rfl,_,_,rfl,rfl,(by show (0 :Int) <1999999973;decide),_,rfl,_,_,rfl,rfl,⟨by decide,by decide⟩,_,_,rfl,rfl,(by show (0 :Int) <1999999943;decide),(by show 0≤sizeLine;decide),fun D1 G3=>?_⟩
  refine⟨_,rfl,_,_,rfl,rfl,_,rfl,by omega,by omega,lW (fun i σ H'=>∃(one two:Int) (xs:List Int) (v6 v7:Option V),σ=[some (.int c),some (.int m),some (.int (c/2)),some (.int one),some (.int two),some (.ref D1),v6,v7,none]∧L8 one∧L8 two∧H' D1=some (.lst (xs.map V.int))∧xs.length=i∧(∀x∈xs,L8 x)∧aG H H') ?_ ?_ ?_⟩
  ·exact⟨_,_,[],none,none,rfl,o1,⟨t0,by omega⟩,ai,rfl,(fun x hx=>by cases hx),aG.new G3⟩
  ·rintro i σ H' hi ⟨one,two,xs,v6,v7,rfl,h1,h2,tF,hl,hx,e⟩
   obtain⟨a0,a1⟩:=h1
   obtain⟨b0,b1⟩:=id h2
   refine⟨_,rfl,_,_,rfl,rfl, .inr ⟨by decide,by decide⟩,_,rfl,_,rfl,_,_,rfl,rfl, .inl ⟨by omega,by omega⟩,_,_,rfl,rfl,_,rfl,_,_,rfl,rfl, .inl ⟨by decide,by decide⟩,_,_,rfl,rfl,_,_,rfl,rfl,?_⟩
   refine⟨_,rfl,_,rfl,_,_,rfl,rfl,(by show (0 :Int) <1999999973;decide),_,rfl, .inl ⟨rfl,_,bR.of tF⟩,_,rfl,D1,_,_,rfl,rfl,tF,by rw[List.length_map];omega,?_⟩
   have hn:=yv (one*1664525+two*two+97*(0+(i:Int))+40503)
   refine⟨two,_,xs++[(one*1664525+two*two+97*(0+(i:Int))+40503) %1999999973],_,_,rfl,h2,hn,?_,?_,?_,fun b o z=>by rw[ah (af z G3)];exact e _ _ z⟩
   ·rw[ai,List.map_append]
    rfl
   ·rw[List.length_append,hl]
    rfl
   ·intro x OE
    rcases List.mem_append.mp OE with z|z
    ·exact hx x z
    ·have ez:x=(one*1664525+two*two+97*(0+(i:Int))+40503) %1999999973:=by simpa using z
     rw[ez]
     exact hn
  ·rintro σ H' ⟨one,two,xs,v6,v7,rfl,_,_,tF,hl,hx,e⟩
   refine⟨_,rfl,_,rfl,D1,_,rfl,bR.of tF,fun p hp=>?_⟩
   have ec:iY (xs.map V.int) (some (2 :Int)) none=(xs.drop 2).map V.int:=by
    rw[show (2 :Int)=((2 :Nat):Int) from rfl,xA,List.map_drop]
   have np:H p=none:=none_back e hp
   have sp:=e.trans (aG.new (o:= .lst (iY (xs.map V.int) (some (2 :Int)) none)) hp)
   have Ae:(upd H' p (.lst (iY (xs.map V.int) (some (2 :Int)) none))) p=some (.lst ((xs.drop 2).map V.int)):=by rw[ai,ec]
   have lx:((xs.drop 2).length:Int)=m:=by rw[List.length_drop];omega
   have Wo:∀x∈xs.drop 2,L8 x:=fun x z=>hx x (List.mem_of_mem_drop z)
   generalize upd H' p (.lst (iY (xs.map V.int) (some (2 :Int)) none))=H2 at sp Ae ⊢
   generalize xs.drop 2=zs at Ae lx Wo
   dsimp only [kz]
   refine⟨_,rfl,_,_,rfl,rfl,(by show (0 :Int) <2;decide),rfl,_,rfl,nh (fun _=>?_) fun _=>?_⟩
   ·exact⟨_,rfl,q p zs H2 lx Wo np Ae sp⟩
   ·refine⟨_,rfl,_,rfl,by omega,by omega,lW (fun i σ H'=>∃(rest:Int) (ys:List Int) (v8:Option V),σ=[some (.int c),some (.int m),some (.int rest),some (.int one),some (.int two),some (.ref p),v6,v7,v8]∧H' p=some (.lst (ys.map V.int))∧(ys.length:Int)=m∧(∀x∈ys,L8 x)∧aG H H') ?_ ?_ ?_⟩
    ·exact⟨_,zs,none,rfl,Ae,lx,Wo,sp⟩
    ·rintro i σ H3 hi ⟨rest,ys,v8,rfl,Ua,ly,hy,e3⟩
     refine⟨_,rfl,_,_,rfl,rfl,_,rfl,nh (fun _=>?_) fun _=>?_⟩
     ·have Oo:i<ys.length:=by omega
      have hix:Fp (ys.map V.int).length (0+(i:Int))=some i:=by rw[List.length_map,Int.zero_add];exact L6 Oo
      refine⟨_,rfl,_,_,rfl,rfl,(by show (0 :Int) <1999999973;decide),_,rfl,_,rfl,p,_,_,i,rfl,rfl,Ua,hix,?_⟩
      refine⟨_,rfl,_,_,rfl,rfl,⟨by decide,by decide⟩,_,ys.set i (rest%1999999973),_,rfl,?_,?_,?_,fun b o z=>by rw[ah (af z np)];exact e3 _ _ z⟩
      ·rw[ai,List.map_set]
      ·rw[List.length_set]
       exact ly
      ·intro x OE
       rcases List.mem_or_eq_of_mem_set OE with z|z
       ·exact hy x z
       ·rw[z]
        exact yv rest
     ·exact⟨rest,ys,_,rfl,Ua,ly,hy,e3⟩
    ·rintro σ H3 ⟨rest,ys,v8,rfl,Ua,ly,hy,e3⟩
     exact⟨_,rfl,q p ys H3 ly hy np Ua e3⟩
def Af:Sp:=fun vs H Q _=>∃n:Int,vs=[.int n]∧∀(l:Addr) (a b c:List Nat) H',du a∧du b∧du c→isNm a=true∧isNm b=true∧isNm c=true→H' l=some (.lst (sL [a,b,c]))→aG H H'→Q (.ref l) H'
theorem Eu{c:Nat}:∀{l:List Nat} {k:Nat},c∈l→∃i,gY c k 1 l=[i]
 |d::r,k,h=>by
  by_cases e:d=c
  ·exact⟨k,by rw[gY,if_pos e,mz]⟩
  ·rw[gY,if_neg e]
   exact Eu ((List.mem_cons.mp h).resolve_left fun z=>e z.symm)
theorem Ew{l:List Nat}(h1:1≤l.length)(h8:l.length≤8)(hs:l.all fe=true):isNm l=true:=by
 unfold isNm
 rw[decide_eq_true h1,decide_eq_true h8,hs]
 rfl
theorem Ex{l:List Nat}(hs:l.all fe=true):du l:=fun c hc=>by
 have:=List.all_eq_true.mp hs c hc
 simp only [fe,Bool.and_eq_true,decide_eq_true_eq] at this
 omega
theorem Jj:∀cs:List Nat,jn (cs.map fun c=>(⟨#[c]⟩:Str))=⟨cs.toArray⟩
 | []=>rfl
 |c::r=>by
  rw[List.map_cons,zB,Jj r]
  exact bg [c] r
theorem Ht(cs:List Nat):Txt.join "" (cs.map fun c=>(⟨#[c]⟩:Str))=⟨cs.toArray⟩:=(join_eq _).trans (Jj cs)
theorem Hu{a b:List Nat}(h:V.str (⟨a.toArray⟩:Str)=V.str ⟨b.toArray⟩):a=b:=by
 have z:(⟨a.toArray⟩:Str)=⟨b.toArray⟩:=by injection h
 have:=congrArg (fun s:Str=>s.cps.toList) z
 simpa using this
theorem pS(z:Int):∃c,fe c=true∧nE small.cps.toList (z%26)=some c:=by
 obtain⟨c,Pl,BQ⟩:=sH (xs:=small.cps.toList) (Int.emod_nonneg z (show (26 :Int)≠0 by decide)) (by rw[rB];exact Int.emod_lt_of_pos _ (by decide))
 exact⟨c,List.all_eq_true.mp rC c Pl,BQ⟩
theorem BR{c:Nat}(h:fe c=true):c∈small.cps.toList:=by
 have h':97≤c∧c≤122:=by simpa [fe,Bool.and_eq_true,decide_eq_true_eq] using h
 have:∀k,k<26→97+k∈small.cps.toList:=by decide+kernel
 have:=this (c - 97) (by omega)
 rwa [show 97+(c - 97)=c by omega] at this
theorem Ey:∀cs:List Nat,((cs.map fun c=>(⟨#[c]⟩:Str)).map (·.length)).sum=cs.length
 | []=>rfl
 |c::r=>by
  have:=Ey r
  rw[List.map_cons,List.map_cons,List.sum_cons,this,List.length_cons]
  show 1+r.length=r.length+1
  omega
theorem fz:az ["_law_cell","_law_small","_law_xs","_law_one","_law_two","_law_at","_law_step","_law_three"] ["_law_cell"] (ag oV):=dI
theorem Ez(D:Def K mg "_law_names" "_law_names" oV ["_law_cell"])(T:Es K mg C)(c1:bI P w K mg base 1 "_law_shaken" ["_law_cell","_law_many"] wG):bI P w K mg base 2 "_law_names" ["_law_cell"] Af:=by
 obtain⟨_,_,iE⟩:=c1
 refine D.fW fz (fun vs H Q E h=>?_) (fun f br A outer s H vs Q E hr h=>?_)
 ·obtain⟨n,rfl,_⟩:=h
  rfl
 ·obtain⟨n,rfl,q⟩:=h
  have big:(2000 :Nat) <sizeLine:=by decide
  refine⟨_,(aj
     (aQ (i:=1) fz.nd rfl (Or.inr rfl) aR)
    (aj
     (aQ (i:=2) fz.nd rfl (Or.inl rfl) (aX iE.ok (hr.mono (by decide)) rfl iE.g iE.kp iE.b .nil aV (aa (pv 0) (aa aq ak))))
    (aj
     (aQ (i:=3) fz.nd rfl (Or.inl rfl) (gQ PySem.F.plainAttrs_str PySem.F.slot_str_join PySem.F.type_str_join nG aR (aa (ic (sc:=(ag oV)) (NX:=["_law_cell","_law_small","_law_xs","_law_one","_law_two","_law_at","_law_step","_law_three"]) (N:=["_law_x","_law_small"]) (fr:=[none,some 1]) ⟨by rfl,by rfl,by decide+kernel,by decide+kernel,by decide+kernel,by rfl,by decide+kernel⟩ rfl rfl rfl (kB (cE jr (pv 2) ia (cg (aB cL aq (aB bO (bz bu (pv 2) aq (fun _ _=>rfl)) aq))))) (fun _ _ _ _=>(cK (i:=0) (show (["_law_x","_law_small"]:List Str).Nodup by decide+kernel) rfl (Or.inl rfl) (Or.inr rfl))) (fun _ _ _ _=>f6) (fun _ _ _ _=>(bz ib (pv 1) (aB bO (pv 0) aq) (fun _ _=>rfl)))) ak)))
    (aj
     (aQ (i:=4) fz.nd rfl (Or.inl rfl) (cE j8 (pv 3) ia (cg (aB cL aq (aB cC (aB bO (bz bu (pv 2) aq (fun _ _=>rfl)) aq) aq)))))
    (aj
     (bM (bp cI (pv 4) (pv 3) (bq _))
      (ao
       (aQ (i:=4) fz.nd rfl (Or.inl rfl) (aB aD (pv 3) (bz ib (pv 1) (aB bO (aB cC (bz bu (pv 2) aq (fun _ _=>rfl)) aq) aq) (fun _ _=>rfl)))))
      ba)
    (aj
     (aQ (i:=5) fz.nd rfl (Or.inl rfl) (aB bO (bz bu (pv 2) aq (fun _ _=>rfl)) (bw dk rfl T.gg eI (aa (pv 3) ak))))
    (aj
     (aQ (i:=6) fz.nd rfl (Or.inl rfl) (aB cL (aB cL (gQ PySem.F.plainAttrs_str PySem.F.slot_str_index PySem.F.type_str_index Bd (pv 1) (aa (bz ib (pv 3) (pv 5) (fun _ _=>rfl)) ak)) aq) (aB bO (aB cC (bz bu (pv 2) aq (fun _ _=>rfl)) aq) aq)))
    (aj
     (aQ (i:=7) fz.nd rfl (Or.inl rfl) (aB aD (aB aD (cE j8 (pv 3) ia (cg (pv 5))) (bz ib (pv 1) (aB bO (pv 6) aq) (fun _ _=>rfl))) (cE j8 (pv 3) (cg (aB cL (pv 5) aq)) ia)))
    (ao
     (aH (c9 (aa (pv 3) (aa (pv 4) (aa (pv 7) ak)))))))))))))),?_⟩
  refine⟨_,rfl,n,10,rfl,by decide,by decide,fun l xs H1 lx hx nl h1 e1=>?_⟩
  have lx:xs.length=10:=by omega
  obtain⟨x8,g8⟩:∃x,xs[8]? =some x:=⟨xs[8]'(by omega),List.getElem?_eq_getElem _⟩
  obtain⟨x9,g9⟩:∃x,xs[9]? =some x:=⟨xs[9]'(by omega),List.getElem?_eq_getElem _⟩
  have a8:nE (xs.map V.int) 8=some (V.int x8):=fh (j:=8) (by rw[List.getElem?_map,g8];rfl)
  have a9:nE (xs.map V.int) 9=some (V.int x9):=fh (j:=9) (by rw[List.getElem?_map,g9];rfl)
  obtain⟨m,em⟩:=Int.eq_ofNat_of_zero_le (Int.emod_nonneg x8 (show (8 :Int)≠0 by decide))
  have m8:m<8:=by have:=Int.emod_lt_of_pos x8 (show (0 :Int) <8 by decide);omega
  refine⟨rfl,_,rfl,_,rfl,l,_,_,_,rfl,rfl,bR.of h1,a8,_,_,rfl,rfl,(by show (0 :Int) <8;decide),_,_,rfl,rfl,_,rfl,l,_,rfl,bR.of h1,fun p hp=>?_⟩
  have ek:(1 :Int)+x8%8=((m+1 :Nat):Int):=by omega
  rw[ek,K1,←List.map_take]
  have lt:(xs.take (m+1)).length=m+1:=by rw[List.length_take];omega
  have e2:=e1.trans (aG.new (o:= .lst ((xs.take (m+1)).map V.int)) hp)
  have h2:=(aG.new (o:= .lst ((xs.take (m+1)).map V.int)) hp) _ _ h1
  have Ae:(upd H1 p (.lst ((xs.take (m+1)).map V.int))) p=some (.lst ((xs.take (m+1)).map V.int)):=ai
  generalize upd H1 p (.lst ((xs.take (m+1)).map V.int))=H2 at e2 h2 Ae ⊢
  generalize hts:xs.take (m+1)=ts at lt Ae
  refine⟨p,rfl,⟨_,bR.of Ae⟩,fun M hM=>CF (K:=K) (a:=p) (L:=M) (xs:=ts.map V.int) H2 (fun σ=>∃v:Option V,σ=[v,some (.str small)]) (fun i ys=>∃cs:List Nat,cs.length=i∧cs.all fe=true∧ys=cs.map fun c=>V.str ⟨#[c]⟩) (bR.of Ae) hM ⟨none,rfl⟩ (aG.new hM) ai ⟨[],rfl,rfl,rfl⟩ (by rw[List.length_map];omega) ?_ ?_ ?_⟩
  ·rintro i ys ⟨cs,hl,_,rfl⟩
   rw[List.length_map]
   omega
  ·rintro i x σ H5 ys hx ⟨v,rfl⟩ yw B7 ⟨cs,hl,hc,rfl⟩ N M' hN
   rw[List.getElem?_map,Option.map_eq_some_iff] at hx
   obtain⟨z,_,rfl⟩:=hx
   obtain⟨c,Pl,BQ⟩:=sH (xs:=small.cps.toList) (Int.emod_nonneg z (show (26 :Int)≠0 by decide)) (by rw[rB];exact Int.emod_lt_of_pos _ (by decide))
   have sc:=List.all_eq_true.mp rC c Pl
   refine⟨_,rfl,_,rfl,_,_,rfl,rfl,(by show (0 :Int) <26;decide),small,_,c,rfl,rfl,(by decide+kernel),BQ,hN _ _ _ ⟨_,rfl⟩ yw B7 ⟨cs++[c],?_,?_,?_⟩⟩
   ·rw[List.length_append,hl];rfl
   ·rw[List.all_append,hc];simpa using sc
   ·rw[List.map_append];rfl
  rintro H5 ys yw B7 ⟨cs,hl,hc,rfl⟩
  rw[List.length_map,lt] at hl
  have Om:bR K H5 M ((cs.map fun c=>(⟨#[c]⟩:Str)).map V.str):=bR.of (by rw[B7,List.map_map];rfl)
  refine⟨"",M,cs.map fun c=>(⟨#[c]⟩:Str),rfl,rfl,Om,?_,?_⟩
  ·have e0:("" :Str).length=0:=rfl
   rw[Ey,e0]
   omega
  rw[Ht]
  have e5:=e2.trans yw
  have h5:=yw _ _ h2
  clear Om B7 hM Ae hts
  have hn:isNm cs=true:=Ew (by omega) (by omega) hc
  have xl:(⟨cs.toArray⟩:Str).length=cs.length:=aK cs
  have ek2:(1 :Int)+x8%8/2=((1+m/2 :Nat):Int):=by omega
  refine⟨_,rfl,_,rfl,l,_,_,_,rfl,rfl,bR.of h5,a8,_,_,rfl,rfl,(by show (0 :Int) <8;decide),_,_,rfl,rfl,⟨by decide,by decide⟩,_,_,rfl,rfl,_,rfl,⟨cs.toArray⟩,rfl,by omega,?_⟩
  rw[ek2,IW cs (by omega)]
  dsimp only [kz]
  refine zd (fun σ' H'=>∃b:List Nat,b.all fe=true∧1≤b.length∧b.length≤8∧σ'=[some (.int n),some (.str small),some (.ref l),some (.str ⟨cs.toArray⟩),some (.str ⟨b.toArray⟩),none,none,none]∧H'=H5) (fun N hN=>?_) ?_
  ·refine⟨_,rfl,_,rfl,rfl,_,rfl,nh (fun hq=>?_) fun hq=>hN _ _ ⟨cs.take (1+m/2),?_,?_,?_,rfl,rfl⟩⟩
   ·have z:=congrArg List.length (Hu (of_decide_eq_true hq))
    rw[List.length_take] at z
    obtain⟨c,sc,BQ⟩:=pS (x8/8)
    have l1:(⟨#[c]⟩:Str).length=1:=rfl
    have ea:(⟨cs.toArray⟩:Str)++⟨#[c]⟩=⟨(cs++[c]).toArray⟩:=bg cs [c]
    refine⟨_,rfl,_,rfl,_,rfl,l,_,_,_,rfl,rfl,bR.of h5,a8,_,_,rfl,rfl,⟨by decide,by decide⟩,_,_,rfl,rfl,(by show (0 :Int) <26;decide),small,_,c,rfl,rfl,(by decide+kernel),BQ,_,_,rfl,rfl,by omega,hN _ _ ⟨cs++[c],?_,?_,?_,?_,rfl⟩⟩
    ·rw[List.all_append,hc];simpa using sc
    ·rw[List.length_append];omega
    ·rw[List.length_append];show cs.length+1≤8;omega
    ·rw[←ea];rfl
   ·exact List.all_eq_true.mpr fun b hb=>List.all_eq_true.mp hc b (List.mem_of_mem_take hb)
   ·rw[List.length_take];omega
   ·rw[List.length_take];omega
  rintro σ H6 ⟨b,hb,b1,b8,rfl,rfl⟩
  have cl:((cs.length:Nat):Int)≠0:=by omega
  obtain⟨k,ek3⟩:=Int.eq_ofNat_of_zero_le (Int.emod_nonneg x9 cl)
  have kl:k<cs.length:=by have:=Int.emod_lt_of_pos x9 (show (0 :Int) < ((cs.length:Nat):Int) by omega);omega
  refine⟨_,rfl,l,_,_,_,rfl,rfl,bR.of h5,a9,_,rfl,⟨cs.toArray⟩,rfl,by omega,_,_,rfl,rfl,?_,?_⟩
  ·rw[xl];omega
  rw[xl,ek3]
  obtain⟨ck,gk⟩:∃c,cs[k]? =some c:=⟨cs[k],List.getElem?_eq_getElem kl⟩
  have sk:=List.all_eq_true.mp hc ck (List.mem_of_getElem? gk)
  have Wq:nE (⟨cs.toArray⟩:Str).cps.toList (k:Int)=some ck:=fh gk
  obtain⟨i,hi⟩:=Eu (k:=0) (BR sk)
  have ho:Builtin.Str.occurrences small ⟨#[ck]⟩ 0 small.length 1=i::[]:=(oa small.cps.toList ck 1).trans hi
  refine⟨_,rfl,rfl,_,rfl,_,rfl,⟨cs.toArray⟩,_,ck,rfl,rfl,(by omega),Wq,small,⟨#[ck]⟩,i,[],rfl,rfl,ho,_,_,rfl,rfl,_,rfl,l,_,_,_,rfl,rfl,bR.of h5,a9,_,_,rfl,rfl,⟨by decide,by decide⟩,_,_,rfl,rfl,(by show (0 :Int) <25;decide),_,_,rfl,rfl,?_⟩
  obtain⟨c3,s3,Wr⟩:=pS ((i:Int)+1+x9/8%25)
  have l3:(⟨#[c3]⟩:Str).length=1:=rfl
  have ht:(cs.take k).length=k:=by rw[List.length_take];omega
  have hd:(cs.drop (k+1)).length=cs.length - (k+1):=by rw[List.length_drop]
  have t1:Txt.slice ⟨cs.toArray⟩ none (some (k:Int))=⟨(cs.take k).toArray⟩:=IW cs (by omega)
  have t2:Txt.slice ⟨cs.toArray⟩ (some ((k:Int)+1)) none=⟨(cs.drop (k+1)).toArray⟩:=LA cs (by omega)
  have lt':(⟨(cs.take k).toArray⟩:Str).length=k:=by rw[aK,ht]
  have ld':(⟨(cs.drop (k+1)).toArray⟩:Str).length=cs.length - (k+1):=by rw[aK,hd]
  have ea:(⟨(cs.take k).toArray⟩:Str)++⟨#[c3]⟩=⟨(cs.take k++[c3]).toArray⟩:=bg (cs.take k) [c3]
  refine⟨_,rfl,_,rfl,_,rfl,⟨cs.toArray⟩,rfl,by omega,_,rfl,_,rfl,_,_,rfl,rfl,(by show (0 :Int) <26;decide),small,_,c3,rfl,rfl,(by decide+kernel),Wr,?_⟩
  rw[t1]
  refine⟨_,_,rfl,rfl,by omega,_,rfl,_,rfl,_,_,rfl,rfl,_,rfl,⟨cs.toArray⟩,rfl,by omega,?_⟩
  rw[t2,ea]
  refine⟨_,_,rfl,rfl,?_,?_⟩
  ·rw[aK,ld',List.length_append,ht]
   show k+1+_≤_
   omega
  rw[bg]
  refine⟨_,rfl,_,rfl,_,rfl,(by show 3≤sizeLine;decide),fun L hL=>?_⟩
  have s3':(cs.take k++[c3]++cs.drop (k+1)).all fe=true:=by
   rw[List.all_append,List.all_append]
   simp only [Bool.and_eq_true]
   refine⟨⟨List.all_eq_true.mpr fun b hb=>List.all_eq_true.mp hc b (List.mem_of_mem_take hb),by simpa using s3⟩,List.all_eq_true.mpr fun b hb=>List.all_eq_true.mp hc b (List.mem_of_mem_drop hb)⟩
  have l3':(cs.take k++[c3]++cs.drop (k+1)).length=cs.length:=by
   rw[List.length_append,List.length_append,ht,hd]
   show k+1+_=_
   omega
  exact q L cs b _ _ ⟨Ex hc,Ex hb,Ex s3'⟩ ⟨hn,Ew b1 b8 hb,Ew (by omega) (by omega) s3'⟩ ai (e5.trans (aG.new hL))
theorem Po{k:List Nat}(hk:uh k){m q:Int}(m1:1≤m)(m2:m≤999)(q1: -999≤q)(q2:q≤999):Bh 4 [(1,[.one k m])] q∧wL 4 [(1,[.one k m])] q=k++(bG m++jQ q):=by
 refine⟨⟨rfl,fun x hx=>?_,q1,q2⟩,?_⟩
 ·have e:x=(1,[.one k m]):=by simpa using hx
  subst e
  refine⟨by simp,fun t ht=>?_,(by show (1 :Int)≤1;decide),(by show (1 :Int)≤999;decide)⟩
  have e:t= .one k m:=by simpa using ht
  subst e
  exact⟨hk,m1,m2⟩
 ·show (k++bG m++[])++([]++jQ q)=_
  simp
structure rX(l:List Nat):Prop where
 j:JT l 2 true
 n:l.length≤40
theorem Hv{a b p r:List Nat}(h1:D6 (p++a))(h2:D6 b)(h3:D6 (r++b))(l1:(p++a).length≤10)(l2:b.length≤8)(l3:(r++b).length≤10):rX (p++a++pJ++b++pA++(r++b)):=by
 refine⟨(h1.jt.plus h2).arrow h3,?_⟩
 simp only [List.length_append,show pJ.length=3 from rfl,show pA.length=4 from rfl] at l1 l2 l3 ⊢
 omega
def Hw:List (List Nat):=[[],[50],[52,49]]
def Hx:List (List Nat):=[[],[94,50,43],[94,45]]
def Hy:List (List Nat):=[[],[55,32]]
def Hz:List (List Nat):=[[],[51,32]]
theorem tl1{x:List Nat}(h:x∈Hw):∃m:Int,1≤m∧m≤999∧x=bG m∧x.length≤2:=by
 unfold Hw at h
 simp only [List.mem_cons,List.not_mem_nil,or_false] at h
 rcases h with rfl|rfl|rfl
 ·exact⟨1,by decide,by decide,by decide+kernel,by decide⟩
 ·exact⟨2,by decide,by decide,by decide+kernel,by decide⟩
 ·exact⟨41,by decide,by decide,by decide+kernel,by decide⟩
theorem tl2{x:List Nat}(h:x∈Hx):∃q:Int, -999≤q∧q≤999∧x=jQ q∧x.length≤3:=by
 unfold Hx at h
 simp only [List.mem_cons,List.not_mem_nil,or_false] at h
 rcases h with rfl|rfl|rfl
 ·exact⟨0,by decide,by decide,by decide+kernel,by decide⟩
 ·exact⟨2,by decide,by decide,by decide+kernel,by decide⟩
 ·exact⟨-1,by decide,by decide,by decide+kernel,by decide⟩
theorem tX{k:List Nat}(hk:uh k){m q:Int}(m1:1≤m)(m2:m≤999)(q1: -999≤q)(q2:q≤999){p:List Nat}(hp:p=[]∨p=[55,32]∨p=[51,32]):D6 (p++(k++(bG m++jQ q))):=by
 obtain⟨o,e⟩:=Po hk m1 m2 q1 q2
 rw[←e]
 rcases hp with rfl|rfl|rfl
 ·exact LM o (xV o)
 ·exact D7 (m:=7) o (xV o) (by decide) (by decide)
 ·exact D7 (m:=3) o (xV o) (by decide) (by decide)
theorem BS{a b c:Nat}{x y p r:List Nat}(ga:je a=true)(gb:je b=true)(sc:fe c=true)(hx:x∈Hw)(hy:y∈Hx)(hp:p∈Hy)(hr:r∈Hz):
  rX (p++([a]++x)++pJ++([b]++[c]++y)++pA++(r++([b]++[c]++y))):=by
 obtain⟨m,m1,m2,rfl,lm⟩:=tl1 hx
 obtain⟨q,q1,q2,rfl,lq⟩:=tl2 hy
 have ka:uh [a]:=⟨a,[],rfl,ga,rfl,by decide⟩
 have kb:uh [b,c]:=⟨b,[c],rfl,gb,by simpa using sc,(by show 1≤2;decide)⟩
 have IF:p=[]∨p=[55,32]:=by simpa [Hy] using hp
 have L9:r=[]∨r=[51,32]:=by simpa [Hz] using hr
 have c0:jQ 0=[]:=rfl
 have t1:=tX ka m1 m2 (q:=0) (by decide) (by decide) (p:=p) (IF.imp_right .inl)
 rw[c0,List.append_nil] at t1
 have t2:=tX kb (m:=1) (by decide) (by decide) q1 q2 (p:=[]) (.inl rfl)
 have t3:=tX kb (m:=1) (by decide) (by decide) q1 q2 (p:=r) (L9.imp_right .inr)
 rw[gw] at t2 t3
 have l1:p.length≤2:=by rcases IF with rfl|rfl<;>decide
 have l3:r.length≤2:=by rcases L9 with rfl|rfl<;>decide
 refine Hv t1 t2 t3 ?_ ?_ ?_<;>simp only [List.length_append,List.length_cons,List.length_nil,List.nil_append]<;>omega
def rY:Sp:=fun vs H Q _=>∃n:Int,vs=[.int n]∧∀l H',rX l→aG H H'→Q (.str ⟨l.toArray⟩) H'
theorem wH(z:Int):∃c,je c=true∧nE great.cps.toList (z%26)=some c:=by
 obtain⟨c,Pl,BQ⟩:=sH (xs:=great.cps.toList) (Int.emod_nonneg z (show (26 :Int)≠0 by decide)) (by rw[Bt];exact Int.emod_lt_of_pos _ (by decide))
 exact⟨c,List.all_eq_true.mp Bu c Pl,BQ⟩
theorem wI{xs:List (List Nat)}{n:Int}(h:(xs.length:Int)=n)(hn:0<n)(z:Int):∃x∈xs,nE (xs.map fun l=>V.str ⟨l.toArray⟩) (z%n)=some (V.str ⟨x.toArray⟩):=by
 obtain⟨v,hv,BQ⟩:=sH (xs:=xs.map fun l=>V.str ⟨l.toArray⟩) (Int.emod_nonneg z (show n≠0 by omega)) (by rw[List.length_map,h];exact Int.emod_lt_of_pos _ hn)
 obtain⟨x,hx,rfl⟩:=List.mem_map.mp hv
 exact⟨x,hx,BQ⟩
theorem g7:az ["_law_number","_law_great","_law_small","_law_one","_law_two"] ["_law_number"] (ag lu):=dI
theorem yx(D:Def K mg "_law_change" "_law_change" lu ["_law_number"])(T:Es K mg C):bI P w K mg base 1 "_law_change" ["_law_number"] rY:=by
 refine D.fW g7 (fun vs H Q E h=>?_) (fun f br A outer s H vs Q E hr h=>?_)
 ·obtain⟨n,rfl,_⟩:=h
  rfl
 ·obtain⟨n,rfl,q⟩:=h
  have big:(2000 :Nat) <sizeLine:=by decide
  refine⟨_,(aj
     (aQ (i:=1) g7.nd rfl (Or.inl rfl) aR)
    (aj
     (aQ (i:=2) g7.nd rfl (Or.inl rfl) aR)
    (aj
     (aQ (i:=3) g7.nd rfl (Or.inl rfl) (aB aD (bz ib (pv 1) (aB bO (pv 0) aq) (fun _ _=>rfl)) (bz bu (c9 (aa aR (aa aR (aa aR ak)))) (aB bO (aB cC (pv 0) aq) aq) (fun _ _=>rfl))))
    (aj
     (aQ (i:=4) g7.nd rfl (Or.inl rfl) (aB aD (aB aD (bz ib (pv 1) (aB bO (aB cC (pv 0) aq) aq) (fun _ _=>rfl)) (bz ib (pv 2) (aB bO (aB cC (pv 0) aq) aq) (fun _ _=>rfl))) (bz bu (c9 (aa aR (aa aR (aa aR ak)))) (aB bO (aB cC (pv 0) aq) aq) (fun _ _=>rfl))))
    (ao
     (aH (aB aD (aB aD (aB aD (aB aD (aB aD (aB aD (bz bu (c9 (aa aR (aa aR ak))) (aB bO (aB cC (pv 0) aq) aq) (fun _ _=>rfl)) (pv 3)) aR) (pv 4)) aR) (bz bu (c9 (aa aR (aa aR ak))) (aB bO (aB cC (pv 0) aq) aq) (fun _ _=>rfl))) (pv 4)))))))),?_⟩
  obtain⟨a,ga,ha⟩:=wH n
  obtain⟨b,gb,hb⟩:=wH (n/78)
  obtain⟨c,sc,hc⟩:=pS (n/2028)
  obtain⟨x,hx,hxa⟩:=wI (xs:=Hw) (n:=3) rfl (by decide) (n/26)
  obtain⟨y,hy,hya⟩:=wI (xs:=Hx) (n:=3) rfl (by decide) (n/52728)
  obtain⟨p,hp,hpa⟩:=wI (xs:=Hy) (n:=2) rfl (by decide) (n/158184)
  obtain⟨r,L9,hra⟩:=wI (xs:=Hz) (n:=2) rfl (by decide) (n/316368)
  have fin:=BS ga gb sc hx hy hp L9
  refine⟨_,rfl,_,rfl,_,_,rfl,rfl,(by show (0 :Int) <26;decide),great,_,a,rfl,rfl,(by decide+kernel),ha,(by show 3≤sizeLine;decide),fun L1 T9=>?_⟩
  have d1:[V.str "",V.str "2",V.str "41"]=Hw.map fun l=>V.str ⟨l.toArray⟩:=by decide+kernel
  have d2:[V.str "",V.str "^2+",V.str "^-"]=Hx.map fun l=>V.str ⟨l.toArray⟩:=by decide+kernel
  have d3:[V.str "",V.str "7 "]=Hy.map fun l=>V.str ⟨l.toArray⟩:=by decide+kernel
  have d4:[V.str "",V.str "3 "]=Hz.map fun l=>V.str ⟨l.toArray⟩:=by decide+kernel
  have eJ:(" + " :Str)=⟨pJ.toArray⟩:=by decide+kernel
  have eA:(" -> " :Str)=⟨pA.toArray⟩:=by decide+kernel
  have lx:x.length≤2:=by obtain⟨_,_,_,_,z⟩:=tl1 hx;exact z
  have ly:y.length≤3:=by obtain⟨_,_,_,_,z⟩:=tl2 hy;exact z
  have lp:p.length≤2:=by
   have IF:p=[]∨p=[55,32]:=by simpa [Hy] using hp
   rcases IF with rfl|rfl<;>decide
  have lr:r.length≤2:=by
   have L9:r=[]∨r=[51,32]:=by simpa [Hz] using L9
   rcases L9 with rfl|rfl<;>decide
  have ca:∀c:Nat,(⟨#[c]⟩:Str)=⟨[c].toArray⟩:=fun _=>rfl
  rw[d1]
  have e1:=aG.new (o:= .lst (Hw.map fun l=>V.str ⟨l.toArray⟩)) T9
  have h1:(upd H L1 (.lst (Hw.map fun l=>V.str ⟨l.toArray⟩))) L1=some (.lst (Hw.map fun l=>V.str ⟨l.toArray⟩)):=ai
  generalize upd H L1 (.lst (Hw.map fun l=>V.str ⟨l.toArray⟩))=H1 at e1 h1 ⊢
  refine⟨_,rfl,_,_,rfl,rfl,⟨by decide,by decide⟩,_,_,rfl,rfl,(by show (0 :Int) <3;decide),L1,_,_,_,rfl,rfl,bR.of h1,hxa,_,_,rfl,rfl,?_,?_⟩
  ·rw[ca,aK,aK]
   show 1+_≤_
   omega
  rw[ca,bg]
  refine⟨_,rfl,_,rfl,_,_,rfl,rfl,⟨by decide,by decide⟩,_,_,rfl,rfl,(by show (0 :Int) <26;decide),great,_,b,rfl,rfl,(by decide+kernel),hb,_,rfl,_,rfl,_,_,rfl,rfl,⟨by decide,by decide⟩,_,_,rfl,rfl,(by show (0 :Int) <26;decide),small,_,c,rfl,rfl,(by decide+kernel),hc,_,_,rfl,rfl,?_,(by show 3≤sizeLine;decide),fun L2 IU=>?_⟩
  ·show 1+1≤sizeLine
   omega
  rw[d2,ca b,ca c,bg]
  have e2:=e1.trans (aG.new (o:= .lst (Hx.map fun l=>V.str ⟨l.toArray⟩)) IU)
  have h2:(upd H1 L2 (.lst (Hx.map fun l=>V.str ⟨l.toArray⟩))) L2=some (.lst (Hx.map fun l=>V.str ⟨l.toArray⟩)):=ai
  generalize upd H1 L2 (.lst (Hx.map fun l=>V.str ⟨l.toArray⟩))=H2 at e2 h2 ⊢
  refine⟨_,rfl,_,_,rfl,rfl,⟨by decide,by decide⟩,_,_,rfl,rfl,(by show (0 :Int) <3;decide),L2,_,_,_,rfl,rfl,bR.of h2,hya,_,_,rfl,rfl,?_,?_⟩
  ·rw[aK,aK]
   show 2+_≤_
   omega
  rw[bg]
  refine⟨(by show 2≤sizeLine;decide),fun L3 xQ=>?_⟩
  rw[d3]
  have e3:=e2.trans (aG.new (o:= .lst (Hy.map fun l=>V.str ⟨l.toArray⟩)) xQ)
  have h3:(upd H2 L3 (.lst (Hy.map fun l=>V.str ⟨l.toArray⟩))) L3=some (.lst (Hy.map fun l=>V.str ⟨l.toArray⟩)):=ai
  generalize upd H2 L3 (.lst (Hy.map fun l=>V.str ⟨l.toArray⟩))=H3 at e3 h3 ⊢
  refine⟨_,rfl,_,_,rfl,rfl,⟨by decide,by decide⟩,_,_,rfl,rfl,(by show (0 :Int) <2;decide),L3,_,_,_,rfl,rfl,bR.of h3,hpa,_,rfl,_,_,rfl,rfl,?_,?_⟩
  ·rw[aK,aK,List.length_append]
   show _+(1+_)≤_
   omega
  rw[bg,eJ]
  refine⟨_,_,rfl,rfl,?_,?_⟩
  ·rw[aK,aK]
   simp only [List.length_append,List.length_cons,List.length_nil,show pJ.length=3 from rfl]
   omega
  rw[bg]
  refine⟨_,rfl,_,_,rfl,rfl,?_,?_⟩
  ·rw[aK,aK]
   simp only [List.length_append,List.length_cons,List.length_nil,show pJ.length=3 from rfl]
   omega
  rw[bg,eA]
  refine⟨_,_,rfl,rfl,?_,?_⟩
  ·rw[aK,aK]
   simp only [List.length_append,List.length_cons,List.length_nil,show pJ.length=3 from rfl,show pA.length=4 from rfl]
   omega
  rw[bg]
  refine⟨(by show 2≤sizeLine;decide),fun L4 GQ=>?_⟩
  rw[d4]
  have e4:=e3.trans (aG.new (o:= .lst (Hz.map fun l=>V.str ⟨l.toArray⟩)) GQ)
  have h4:(upd H3 L4 (.lst (Hz.map fun l=>V.str ⟨l.toArray⟩))) L4=some (.lst (Hz.map fun l=>V.str ⟨l.toArray⟩)):=ai
  generalize upd H3 L4 (.lst (Hz.map fun l=>V.str ⟨l.toArray⟩))=H4 at e4 h4 ⊢
  refine⟨_,rfl,_,_,rfl,rfl,⟨by decide,by decide⟩,_,_,rfl,rfl,(by show (0 :Int) <2;decide),L4,_,_,_,rfl,rfl,bR.of h4,hra,_,_,rfl,rfl,?_,?_⟩
  ·rw[aK,aK]
   simp only [List.length_append,List.length_cons,List.length_nil,show pJ.length=3 from rfl,show pA.length=4 from rfl]
   omega
  rw[bg]
  refine⟨_,rfl,_,_,rfl,rfl,?_,?_⟩
  ·rw[aK,aK]
   simp only [List.length_append,List.length_cons,List.length_nil,show pJ.length=3 from rfl,show pA.length=4 from rfl]
   omega
  rw[bg,List.append_assoc _ r]
  exact q _ H4 fin e4
variable {HE NF TL NC TM NN NR Dk er Ch:Addr}{iQ:Tok}
structure mY(K:PySem.W.Frag)(mg:Str→Option Value)(HE NF TL NC TM NN NR Dk er Ch:Addr)(iQ:Tok):Prop extends j4 K mg HE NF TL NC TM NN Dk er Ch iQ where
 cm:mg "isinstance" =none
 tY:mg "ValueError" =none
 jA:mg "range" =none
 zE:mg "str" =none
 Dc:mg "bool" =none
 gg:mg "len" =none
 tZ:PySem.W.vh K HE
 HA:mg "NoRow" =some (.ref NR)
 iV:∀{X},X=NC∨X=TL∨X=TM∨X=NN→PySem.W.kitOne K (.ref X) (.type "ValueError")=some true
 iR:∀{X},X=NC∨X=TL∨X=TM∨X=NN→PySem.W.kitOne K (.ref X) (.ref NR)=some false
 iC:PySem.W.kitOne K (.ref NC) (.ref NC)=some true∧PySem.W.kitOne K (.ref NC) (.ref TL)=some false∧PySem.W.kitOne K (.ref NC) (.ref TM)=some false∧PySem.W.kitOne K (.ref NC) (.ref NN)=some false
 iT:PySem.W.kitOne K (.ref TL) (.ref NC)=some false∧PySem.W.kitOne K (.ref TL) (.ref TL)=some true∧PySem.W.kitOne K (.ref TL) (.ref TM)=some false∧PySem.W.kitOne K (.ref TL) (.ref NN)=some false
 iM:PySem.W.kitOne K (.ref TM) (.ref NC)=some false∧PySem.W.kitOne K (.ref TM) (.ref TL)=some false∧PySem.W.kitOne K (.ref TM) (.ref TM)=some true∧PySem.W.kitOne K (.ref TM) (.ref NN)=some false
 iN:PySem.W.kitOne K (.ref NN) (.ref NC)=some false∧PySem.W.kitOne K (.ref NN) (.ref TL)=some false∧PySem.W.kitOne K (.ref NN) (.ref TM)=some false∧PySem.W.kitOne K (.ref NN) (.ref NN)=some true
 Ws:∀{X},X=NC∨X=TL∨X=TM∨X=NN→XIs K X
 Wt:∀{X},X=NC∨X=TL∨X=TM∨X=NN→PySem.W.mroIn K X (.ref HE)=some true
 x_X:∀{X},X=NC∨X=TL∨X=TM∨X=NN→∃f,PySem.W.cH K X HE f
 Ag:PySem.W.findIn K (.ref TL) "many" =some none
 Ah:PySem.W.findIn K (.ref TM) "many" =some none
 fn_name:PySem.W.findIn K (.ref NN) "name" =some none
theorem Jg.imp{dc:Addr}{bJ:List (Key×V)}{nm row:List Nat}{H:Hp}{Q Q':VK}{E E':XK}(h:Jg TL NC TM NN C G Pc Fo Ch dc bJ nm H Q E row)(hQ:∀v H',Q v H'→Q' v H')(hE:∀X dx H',E X dx H'→E' X dx H'):Jg TL NC TM NN C G Pc Fo Ch dc bJ nm H Q' E' row:=by
 have hR:∀{X fld n},Rf X fld H E n→Rf X fld H E' n:=fun h b dx H' a1 a2 a3 a4 a5=>hE _ _ _ (h b dx H' a1 a2 a3 a4 a5)
 have hS:∀{X fld n},Je X fld H E n→Je X fld H E' n:=fun h b dx H' a1 a2 a3 a4 a5=>hE _ _ _ (h b dx H' a1 a2 a3 a4 a5)
 cases h with
 |chg tx hl h=>exact .chg tx hl ⟨fun a1 xs ys c H' a2 a3 a4 a5 a6=>hQ _ _ (h.1 a1 xs ys c H' a2 a3 a4 a5 a6),fun a1 xs ys a2 a3=>hR (h.2.1 a1 xs ys a2 a3),fun a1 e a2 a3=>hR (h.2.2.1 a1 e a2 a3),fun a1=>hR (h.2.2.2 a1)⟩
 |LU h=>exact .LU ⟨fun v a1 H' a2 a3=>hQ _ _ (h.1 v a1 H' a2 a3),fun a1=>hS (h.2 a1)⟩
 |LV h=>
  refine .LV ?_
  rcases h with ⟨h1,h2⟩ | ⟨c,xs,ys,h1,h2,h3,h4⟩
  ·exact .inl ⟨h1,hS h2⟩
  ·exact .inr ⟨c,xs,ys,h1,h2,h3,fun H' e=>hQ _ _ (h4 H' e)⟩
def QC(Q:VK):VK:=fun v H'=>∀t bQ,bQ t=some (.tup [.int 1,v])→aG H' bQ→Q (.ref t) bQ
def EC(NC TL TM NN:Addr)(Q:VK):XK:=fun X dx H'=>∃Y,X= .ref Y∧(Y=NC∨Y=TL∨Y=TM∨Y=NN)∧∀e t bQ,bQ e=some (lT e Y dx)→bQ t=some (.tup [.int 0, .ref e])→aG H' bQ→Q (.ref t) bQ
def pU(TL NC TM NN C G Pc Fo Ch Dk:Addr):Sp:=fun vs H Q _=>∃(d dc:Addr) (row nm:List Nat) (bJ:List (Key×V)),vs=[.ref d, .str ⟨row.toArray⟩]∧iB Dk H d dc∧H dc=some (.dK bJ)∧bJ.length≤900∧du nm∧isNm nm=true∧Jg TL NC TM NN C G Pc Fo Ch dc bJ nm H (QC Q) (EC NC TL TM NN Q) row
theorem Jk{v:V}{i:Nat}{r:TS}{D:Ends}{σ:L2.St}{H:Hp}(h:r D (σ.set i (some v)) H):FG (FH (tC v) (kz i)) r D σ H:=h
theorem EA{A r:TS}{D:Ends}{σ:L2.St}{H:Hp}(Pm:L2.St→Hp→Prop)(h:∀N:L2.St→Hp→Prop,(∀σ' H',Pm σ' H'→N σ' H')→A { D with nx:=N } σ H)(hr:∀σ' H',Pm σ' H'→r D σ' H'):FG A r D σ H:=h _ hr
theorem hV:az ["_law_desk","_law_row","_law_caught_here","_law_found","_law_e"] ["_law_desk","_law_row"] (ag nV):=dI
theorem BU(D:Def K mg "_law_caught" "_law_caught" nV ["_law_desk","_law_row"])(T:mY K mg HE NF TL NC TM NN NR Dk er Ch iQ)(c1:aW P w K mg base 26 Dk "say" ["self","row"] (Jh TL NC TM NN C G Pc Fo Ch Dk)):bI P w K mg base 27 "_law_caught" ["_law_desk","_law_row"] (pU TL NC TM NN C G Pc Fo Ch Dk):=by
 obtain⟨_,_,ko⟩:=c1
 refine D.fW hV (fun vs H Q E h=>?_) (fun f br A outer s H vs Q E hr h=>?_)
 ·obtain⟨d,dc,row,nm,bJ,rfl,_⟩:=h
  rfl
 ·obtain⟨d,dc,row,nm,bJ,rfl,⟨dx,so,hd⟩,hc,hk,ha,hn,hs⟩:=h
  refine⟨_,(aj
     (aQ (i:=2) hV.nd rfl (Or.inl rfl) xc)
    (aj
     (aQ (i:=3) hV.nd rfl (Or.inl rfl) xc)
    (aj
     (zk ⟨rfl,rfl⟩ (fun _ _=>
      (ao
       (aQ (i:=3) hV.nd rfl (Or.inl rfl) (bA (pv 0) T.dU ko.m ko.ok (hr.mono (by decide)) ko.b .nil oN (aa (pv 1) ak))))) (fun _=>(Ld K rfl (i:=4) rfl T.dZ T.tZ hV.nd rfl rfl (fun _=>
      (ao
       (aQ (i:=2) hV.nd rfl (Or.inl rfl) (pv 4)))) (CS Ge))))
    (aj
     (bM (lU (yO (pv 2)))
      (ao
       (aH (xp (aa aq (aa (pv 2) ak)))))
      ba)
    (ao
     (aH (xp (aa aq (aa (pv 3) ak))))))))),?_⟩
  refine Jk (Jk ?_)
  refine EA (fun σ' H'=>(∃v:V,σ'=[some (.ref d),some (.str ⟨row.toArray⟩),some .cJ,some v,none]∧QC Q v H')∨
   (∃(e Y:Addr) (dx:Option Addr),σ'=[some (.ref d),some (.str ⟨row.toArray⟩),some (.ref e),some .cJ,none]∧H' e=some (lT e Y dx)∧∀t bQ,bQ e=some (lT e Y dx)→bQ t=some (.tup [.int 0, .ref e])→aG H' bQ→Q (.ref t) bQ)) (fun N hN=>?_) ?_
  ·refine⟨_,rfl,d,dx,_,rfl,hd,yq _ _ (by decide+kernel) (by decide+kernel),_,rfl,d,dc,row,nm,bJ,rfl,⟨dx,so,hd⟩,hc,hk,ha,hn,hs.imp (fun v H' q=>hN _ _ (.inl ⟨v,rfl,q⟩)) fun X tN H' ⟨Y,eX,hY,q⟩=>?_⟩
   subst eX
   obtain⟨fy,ZY⟩:=T.x_X hY
   refine⟨Y,HE,fy,true,rfl,ZY,T.Wt hY,eG fun e' AV=>⟨_,rfl,hN _ _ (.inr ⟨e',Y,tN,rfl,AV,fun t bQ=>q e' t bQ⟩)⟩⟩
  rintro σ H3 (⟨v,rfl,q⟩ | ⟨e,Y,tN,rfl,he,q⟩)
  ·exact⟨_,rfl,_,rfl,dm ⟨_,rfl,(by show 2≤sizeLine;decide),fun t ht=>q t _ ai (aG.new ht)⟩⟩
  ·exact⟨_,rfl,_,rfl,eG ⟨_,rfl,(by show 2≤sizeLine;decide),fun t ht=>q t _ (by rw[ah (af he ht)];exact he) ai (aG.new ht)⟩⟩
variable {HE NF TL NC TM NN NR Dk er Ch:Addr}{iQ:Tok}
def dB(bs:List Bool):PyData:= .list (bs.map PyData.bool)
theorem mC{H:Hp}:∀bs:List Bool,xy K H (bs.map V.bl) (bs.map PyData.bool)
 | []=> .nil
 |b::r=> .cons (.bl b) (mC r)
theorem Pp:∀a b c d e:Bool,SeqAt.shaped (dB [a,b,c,d,e])=true∧(dB [a,b,c,d,e]).canLay0=true:=by decide+kernel
inductive t7(NN NC TL TM:Addr):Int→Addr→List (Str×V)→V→Prop
 |nm (x:Str):t7 NN NC TL TM 0 NN [("name", .str x)] (.str x)
 |ch (fl:List (Str×V)) (v:V):t7 NN NC TL TM 1 NC fl v
 |lg (k:Int):t7 NN NC TL TM 2 TL [("many", .int k)] (.int k)
 |mn (k:Int):t7 NN NC TL TM 3 TM [("many", .int k)] (.int k)
theorem t7.cls{s:Int}{Y:Addr}{fl:List (Str×V)}{v:V}(h:t7 NN NC TL TM s Y fl v):Y=NC∨Y=TL∨Y=TM∨Y=NN:=by
 cases h
 ·exact .inr (.inr (.inr rfl))
 ·exact .inl rfl
 ·exact .inr (.inl rfl)
 ·exact .inr (.inr (.inl rfl))
def bK(s:Int):List Bool:=(List.range 5).map fun (k:Nat)=>decide (((k:Nat):Int)=s)
theorem t7.kit{s:Int}{Y:Addr}{fl:List (Str×V)}{v:V}(h:t7 NN NC TL TM s Y fl v)(T:mY K mg HE NF TL NC TM NN NR Dk er Ch iQ):
  ∃b0 b1 b2 b3,bK s=[b0,b1,b2,b3,false]∧PySem.W.kitOne K (.ref Y) (.ref NN)=some b0∧PySem.W.kitOne K (.ref Y) (.ref NC)=some b1∧PySem.W.kitOne K (.ref Y) (.ref TL)=some b2∧PySem.W.kitOne K (.ref Y) (.ref TM)=some b3:=by
 cases h
 ·exact⟨_,_,_,_,rfl,T.iN.2.2.2,T.iN.1,T.iN.2.1,T.iN.2.2.1⟩
 ·exact⟨_,_,_,_,rfl,T.iC.2.2.2,T.iC.1,T.iC.2.1,T.iC.2.2.1⟩
 ·exact⟨_,_,_,_,rfl,T.iT.2.2.2,T.iT.1,T.iT.2.1,T.iT.2.2.1⟩
 ·exact⟨_,_,_,_,rfl,T.iM.2.2.2,T.iM.1,T.iM.2.1,T.iM.2.2.1⟩
def mD(NN NC TL TM:Addr):Sp:=fun vs H Q _=>∃(t e Y dx:Addr) (sort:Int) (fl:List (Str×V)) (v:V),vs=[.ref t, .int sort,v]∧t7 NN NC TL TM sort Y fl v∧H t=some (.tup [.int 0, .ref e])∧H e=some (lT e Y (some dx))∧H dx=some (wW dx fl)∧∀H',aG H H'→Q (.bl true) H'
theorem mE:az ["_law_caught_here","_law_sort","_law_asked","_law_e","_law_kinds"] ["_law_caught_here","_law_sort","_law_asked"] (ag jc):=dI
theorem yy(D:Def K mg "_law_refused" "_law_refused" jc ["_law_caught_here","_law_sort","_law_asked"])(T:mY K mg HE NF TL NC TM NN NR Dk er Ch iQ):bI P w K mg base 1 "_law_refused" ["_law_caught_here","_law_sort","_law_asked"] (mD NN NC TL TM):=by
 refine D.fW mE (fun vs H Q E h=>?_) (fun f br A outer s H vs Q E hr h=>?_)
 ·obtain⟨t,e,Y,dx,sort,fl,v,rfl,_⟩:=h
  rfl
 ·obtain⟨t,e,Y,dx,sort,fl,v,rfl,hR,ht,he,eZ,q⟩:=h
  have Wu:=hr.units
  obtain⟨fy,ZY⟩:=T.x_X hR.cls
  have IY:=T.Ws hR.cls
  have hE:∀H',aG H H'→Oz H' e Y:=fun H' s=> .inr ⟨dx,_,s _ _ he,s _ _ eZ⟩
  obtain⟨b0,b1,b2,b3,hb,k0,k1,k2,k3⟩:=hR.kit T
  refine⟨_,(aj
     (bM (PW.pt (Ip (bp yW (bz lZ (pv 0) aq (fun _ _=>rfl)) aq (bq _)) (Cf (iX (gv (bw dq rfl T.cm cn (aa (bz lZ (pv 0) aq (fun _ _=>rfl)) (aa (su (v:= .ty "ValueError") rfl T.tY qh rfl) ak))))))))
      (ao
       (aH jW))
      ba)
    (aj
     (aQ (i:=3) mE.nd rfl (Or.inl rfl) (bz lZ (pv 0) aq (fun _ _=>rfl)))
    (aj
     (aQ (i:=4) mE.nd rfl (Or.inl rfl) (c9 (aa (bw dq rfl T.cm cn (aa (pv 3) (aa (aP (v:= .ref _) rfl T.Ee rfl) ak))) (aa (bw dq rfl T.cm cn (aa (pv 3) (aa (aP (v:= .ref _) rfl T.xR rfl) ak))) (aa (bw dq rfl T.cm cn (aa (pv 3) (aa (aP (v:= .ref _) rfl T.Bk rfl) ak))) (aa (bw dq rfl T.cm cn (aa (pv 3) (aa (aP (v:= .ref _) rfl T.Bs rfl) ak))) ak))))))
    (aj
     (bC (gQ PySem.F.plainAttrs_list PySem.F.slot_list_append PySem.F.type_list_append eD (pv 4) (aa (bw dq rfl T.cm cn (aa (pv 3) (aa (aP (v:= .ref _) rfl T.HA rfl) ak))) ak)))
    (aj
     (bM (bp (KY Wu) (pv 4) (ic (sc:=(ag jc)) (NX:=["_law_caught_here","_law_sort","_law_asked","_law_e","_law_kinds"]) (N:=["_law_k","_law_sort"]) (fr:=[none,some 1]) ⟨by rfl,by rfl,by decide+kernel,by decide+kernel,by decide+kernel,by rfl,by decide+kernel⟩ rfl rfl rfl (gK rfl T.jA (aa aq ak)) (fun _ _ _ _=>(cK (i:=0) (show (["_law_k","_law_sort"]:List Str).Nodup by decide+kernel) rfl (Or.inl rfl) (Or.inr rfl))) (fun _ _ _ _=>f6) (fun _ _ _ _=>(jo cI (pv 0) (pv 1) (bq _)))) (bq _))
      (ao
       (aH jW))
      ba)
    (aj
     (bM (bp cI (pv 1) aq (bq _))
      (ao
       (aH (jo cI (nJ (pv 3) rfl) (pv 2) (bq _))))
      ba)
    (aj
     (bM (bp qy (pv 1) aq (bq _))
      (ao
       (aH (lV (jo cI (nJ (pv 3) rfl) (pv 2) (bq _)) (oq (Ke (bw mK rfl T.cm cn (aa (nJ (pv 3) rfl) (aa (su (v:= .ty "bool") rfl T.Dc F3 rfl) ak))))))))
      ba)
    (ao
     (aH jW))))))))),?_⟩
  have Jd:nE [V.int 0,V.ref e] 0=some (V.int 0):=rfl
  have Pq:nE [V.int 0,V.ref e] 1=some (V.ref e):=rfl
  refine⟨_,rfl,t,_,_,_,rfl,rfl,ku.of ht,Jd,rfl,_,rfl,?_⟩
  refine dm ⟨_,rfl,t,_,_,_,rfl,rfl,ku.of ht,Pq,e,_,_,Y,HE,fy,true,rfl,rfl,ZY,IY,hE _ (aG.refl H),T.iV hR.cls,_,rfl,dm ?_⟩
  refine⟨_,rfl,t,_,_,_,rfl,rfl,ku.of ht,Pq,?_⟩
  refine⟨_,rfl,e,_,_,Y,HE,fy,b0,rfl,rfl,ZY,IY,hE _ (aG.refl H),k0,_,rfl,e,_,_,Y,HE,fy,b1,rfl,rfl,ZY,IY,hE _ (aG.refl H),k1,_,rfl,e,_,_,Y,HE,fy,b2,rfl,rfl,ZY,IY,hE _ (aG.refl H),k2,_,rfl,e,_,_,Y,HE,fy,b3,rfl,rfl,ZY,IY,hE _ (aG.refl H),k3,(by show 4≤sizeLine;decide),fun L hL=>?_⟩
  have e1:=aG.new (o:= .lst [V.bl b0,V.bl b1,V.bl b2,V.bl b3]) hL
  have h1:(upd H L (.lst [V.bl b0,V.bl b1,V.bl b2,V.bl b3])) L=some (.lst [V.bl b0,V.bl b1,V.bl b2,V.bl b3]):=ai
  generalize upd H L (.lst [V.bl b0,V.bl b1,V.bl b2,V.bl b3])=H1 at e1 h1 ⊢
  refine⟨_,rfl, .inl ⟨rfl,_,bR.of h1⟩,_,rfl,e,_,_,Y,HE,fy,false,rfl,rfl,ZY,IY,hE _ e1,T.iR hR.cls,L,_,_,rfl,rfl,h1,(by show 4<sizeLine;decide),?_⟩
  have e2:aG H (upd H1 L (.lst ([V.bl b0,V.bl b1,V.bl b2,V.bl b3]++[V.bl false]))):=fun b o z=>by
   rw[ah (af z hL)]
   exact e1 _ _ z
  have h2:(upd H1 L (.lst ([V.bl b0,V.bl b1,V.bl b2,V.bl b3]++[V.bl false]))) L=some (.lst ([b0,b1,b2,b3,false].map V.bl)):=ai
  generalize upd H1 L (.lst ([V.bl b0,V.bl b1,V.bl b2,V.bl b3]++[V.bl false]))=H2 at e2 h2 ⊢
  rw[←hb] at h2
  refine⟨_,rfl,_,rfl,by decide,by decide,fun M hM=>u7 (L:=M) H2 (fun σ=>∃v:Option V,σ=[v,some (.int sort)]) (fun i ys=>ys=(((List.range i).map fun (k:Nat)=>decide (((k:Nat):Int)=sort))).map V.bl) hM ⟨none,rfl⟩ (aG.new hM) ai rfl (by show 5≤sizeLine;decide) ?_ ?_ ?_⟩
  ·rintro i ys rfl
   rw[List.length_map,List.length_map,List.length_range]
   exact Nat.le_refl _
  ·rintro i σ H5 ys hi ⟨v',rfl⟩ yw B7 rfl N M' hN
   refine⟨_,rfl,_,rfl,rfl,hN _ _ _ ⟨_,rfl⟩ yw B7 ?_⟩
   rw[List.range_succ,List.map_append,List.map_append]
   simp
  rintro H5 ys yw B7 rfl
  have e5:=e2.trans yw
  obtain⟨sh,can⟩:=Pp b0 b1 b2 b3 false
  rw[←hb] at sh can
  refine⟨dB (bK sort),dB (bK sort), .lst (bR.of (yw _ _ h2)) (mC _), .lst (bR.of B7) (mC _),sh,sh,_,rfl,?_⟩
  rw[u9 _ can]
  refine dm ?_
  have Pr:=e5 _ _ he
  have EB:=e5 _ _ eZ
  cases hR with
  |nm x=>
   refine⟨_,rfl,rfl,_,rfl,eG ⟨_,rfl,e,NN,HE,fy,dx,_,_,rfl,ZY,T.fn_name,Pr,EB,rfl,_,rfl,rfl,?_⟩⟩
   rw[decide_eq_true rfl]
   exact q _ e5
  |ch fl v=>exact⟨_,rfl,rfl,_,rfl,dm ⟨_,rfl,_,_,rfl,rfl,_,rfl,dm (q _ e5)⟩⟩
  |lg k=>
   refine⟨_,rfl,rfl,_,rfl,dm ⟨_,rfl,_,_,rfl,rfl,_,rfl,eG ⟨_,rfl,e,TL,HE,fy,dx,_,_,rfl,ZY,T.Ag,Pr,EB,rfl,_,rfl,rfl,_,rfl,ie rfl ⟨_,rfl,e,TL,HE,fy,dx,_,_,rfl,ZY,T.Ag,Pr,EB,rfl,?_⟩⟩⟩⟩
   exact⟨_,_,_,_,false,rfl,rfl, .int _,ig,_,rfl,q _ e5⟩
  |mn k=>
   refine⟨_,rfl,rfl,_,rfl,dm ⟨_,rfl,_,_,rfl,rfl,_,rfl,eG ⟨_,rfl,e,TM,HE,fy,dx,_,_,rfl,ZY,T.Ah,Pr,EB,rfl,_,rfl,rfl,_,rfl,ie rfl ⟨_,rfl,e,TM,HE,fy,dx,_,_,rfl,ZY,T.Ah,Pr,EB,rfl,?_⟩⟩⟩⟩
   exact⟨_,_,_,_,false,rfl,rfl, .int _,ig,_,rfl,q _ e5⟩
def kq:Sp:=fun vs H Q _=>∃(t:Addr) (x:Str),vs=[.ref t, .str x]∧H t=some (.tup [.int 1, .str x])∧Q (.bl true) H
theorem yz:az ["_law_caught_here","_law_due"] ["_law_caught_here","_law_due"] (ag jz):=dI
theorem wJ(D:Def K mg "_law_answered" "_law_answered" jz ["_law_caught_here","_law_due"])(T:mY K mg HE NF TL NC TM NN NR Dk er Ch iQ):bI P w K mg base 1 "_law_answered" ["_law_caught_here","_law_due"] kq:=by
 refine D.fW yz (fun vs H Q E h=>?_) (fun f br A outer s H vs Q E hr h=>?_)
 ·obtain⟨t,x,rfl,_⟩:=h
  rfl
 ·obtain⟨t,x,rfl,ht,q⟩:=h
  refine⟨_,(ao
     (aH (lV (jo cI (bz lZ (pv 0) aq (fun _ _=>rfl)) aq (bq _)) (lV (bw mK rfl T.cm cn (aa (bz lZ (pv 0) aq (fun _ _=>rfl)) (aa (su (v:= .ty "str") rfl T.zE xx rfl) ak))) (oq (jo cI (bz lZ (pv 0) aq (fun _ _=>rfl)) (pv 1) (bq _))))))),?_⟩
  have Jd:nE [V.int 1,V.str x] 0=some (V.int 1):=rfl
  have Pq:nE [V.int 1,V.str x] 1=some (V.str x):=rfl
  refine⟨_,rfl,t,_,_,_,rfl,rfl,ku.of ht,Jd,rfl,_,rfl,eG ⟨_,rfl,t,_,_,_,rfl,rfl,ku.of ht,Pq,_,_,_,_,true,rfl,rfl, .str _,i6,_,rfl,eG ⟨_,rfl,t,_,_,_,rfl,rfl,ku.of ht,Pq,_,rfl,rfl,?_⟩⟩⟩
  rw[decide_eq_true rfl]
  exact q
variable {HE NF TL NC TM NN NR Dk er Ch:Addr}{iQ:Tok}
def KL(av:List Addr)(H H':Hp):Prop:=∀b o,b∉av→H b=some o→H' b=some o
theorem KL.of{av:List Addr}{H H':Hp}(h:aG H H'):KL av H H':=fun b o _ z=>h b o z
theorem KL.trans{av:List Addr}{H H1 H2:Hp}(h:KL av H H1)(h':KL av H1 H2):KL av H H2:=fun b o n z=>h' b o n (h b o n z)
def ChW(C G Pc Fo Ch:Addr)(av:List Addr)(H:Hp)(c:Addr)(xs ys:List Tm):Prop:=∀H',KL av H H'→fR C G Pc Fo Ch H' c xs ys
def yB(C G Pc Fo Ch:Addr)(av:List Addr)(H:Hp)(bJ aL:List (Key×V)):Prop:=
 ∀k,(b4 bJ k=none∧b4 aL k=none)∨∃c xs ys,b4 bJ k=some (.ref c)∧OY xs ys∧b4 aL k=some (.str (G5 xs ys))∧ChW C G Pc Fo Ch av H c xs ys
theorem yB.on{av:List Addr}{H H':Hp}{bJ aL:List (Key×V)}(h:yB C G Pc Fo Ch av H bJ aL)(e:KL av H H'):yB C G Pc Fo Ch av H' bJ aL:=fun k=>by
 rcases h k with z| ⟨c,xs,ys,h1,h2,h3,h4⟩
 ·exact .inl z
 ·exact .inr ⟨c,xs,ys,h1,h2,h3,fun H2 e2=>h4 H2 (e.trans e2)⟩
theorem yB.nil{av:List Addr}{H:Hp}:yB C G Pc Fo Ch av H [] []:=fun _=> .inl ⟨rfl,rfl⟩
theorem yB.put{av:List Addr}{H:Hp}{bJ aL:List (Key×V)}(h:yB C G Pc Fo Ch av H bJ aL)(j:Key){c:Addr}{xs ys:List Tm}(o:OY xs ys)(w:ChW C G Pc Fo Ch av H c xs ys):yB C G Pc Fo Ch av H (putK bJ j (.ref c)) (putK aL j (.str (G5 xs ys))):=fun k=>by
 rw[uO,uO]
 by_cases e:k=j
 ·rw[if_pos e,if_pos e]
  exact .inr ⟨c,xs,ys,rfl,o,rfl,w⟩
 ·rw[if_neg e,if_neg e]
  exact h k
theorem pV(j k:Key):∀aL:List (Key×V),b4 (dX aL j) k=if k=j then none else b4 aL k
 | []=>by
   show (none:Option V)=if k=j then none else none
   split<;>rfl
 |p::r=>by
  have ih:=pV j k r
  unfold dX at ih ⊢
  by_cases e:p.1=j
  ·rw[List.filter_cons_of_neg (by simpa using e),ih]
   by_cases ek:k=j
   ·rw[if_pos ek,if_pos ek]
   ·rw[if_neg ek,if_neg ek,bZ (fun z=>ek (z.symm.trans e))]
  ·rw[List.filter_cons_of_pos (by simpa using e)]
   by_cases ep:p.1=k
   ·rw[b7 ep,b7 ep,if_neg (fun z=>e (ep.trans z))]
   ·rw[bZ ep,bZ ep,ih]
theorem yB.drop{av:List Addr}{H:Hp}{bJ aL:List (Key×V)}(h:yB C G Pc Fo Ch av H bJ aL)(j:Key):yB C G Pc Fo Ch av H (dX bJ j) (dX aL j):=fun k=>by
 rw[pV,pV]
 by_cases e:k=j
 ·rw[if_pos e,if_pos e]
  exact .inl ⟨rfl,rfl⟩
 ·rw[if_neg e,if_neg e]
  exact h k
theorem HB(nm:List Nat):("show " :Str)++⟨nm.toArray⟩=⟨(wz++32::nm).toArray⟩:=by
 rw[show ("show " :Str)=⟨(wz++[32]).toArray⟩ by decide+kernel,bg,List.append_assoc]
 rfl
def wK(C G Pc Fo Ch Dk:Addr):Sp:=fun vs H Q _=>∃(d dc sd ln:Addr) (bJ aL:List (Key×V)) (Ni:List (List Nat)) (av:List Addr) (turn:Int),vs=[.ref d, .ref sd, .ref ln, .int turn]∧iB Dk H d dc∧H dc=some (.dK bJ)∧bJ.length≤900∧H sd=some (.dK aL)∧yB C G Pc Fo Ch av H bJ aL∧
 H ln=some (.lst (sL Ni))∧Ni.length=3∧(∀x∈Ni,du x∧isNm x=true)∧∀H',aG H H'→Q (.bl true) H'
theorem lQ:az ["_law_desk","_law_standing","_law_names_here","_law_turn","_law_k","_law_name","_law_caught_here"] ["_law_desk","_law_standing","_law_names_here","_law_turn"] (ag nW):=dI
theorem BV(D:Def K mg "_law_shown" "_law_shown" nW ["_law_desk","_law_standing","_law_names_here","_law_turn"])(T:mY K mg HE NF TL NC TM NN NR Dk er Ch iQ)(c1:bI P w K mg base 27 "_law_caught" ["_law_desk","_law_row"] (pU TL NC TM NN C G Pc Fo Ch Dk))(c2:bI P w K mg base 1 "_law_refused" ["_law_caught_here","_law_sort","_law_asked"] (mD NN NC TL TM))(c3:bI P w K mg base 1 "_law_answered" ["_law_caught_here","_law_due"] kq):bI P w K mg base 28 "_law_shown" ["_law_desk","_law_standing","_law_names_here","_law_turn"] (wK C G Pc Fo Ch Dk):=by
 obtain⟨_,_,aZ⟩:=c1
 obtain⟨_,_,bc⟩:=c2
 obtain⟨_,_,bD⟩:=c3
 refine D.fW lQ (fun vs H Q E h=>?_) (fun f br A outer s H vs Q E hr h=>?_)
 ·obtain⟨d,dc,sd,ln,bJ,aL,Ni,av,turn,rfl,_⟩:=h
  rfl
 ·obtain⟨d,dc,sd,ln,bJ,aL,Ni,av,turn,rfl,⟨dx,so,hd⟩,hc,hk,hs,hR,hn,n3,Pt,q⟩:=h
  have hu:=kH hr
  have big:(2000 :Nat) <sizeLine:=by decide
  refine⟨_,(aj
     (ow PassesOwn.never rfl (gK rfl T.jA (aa aq ak)) (cK (i:=4) lQ.nd rfl (Or.inl rfl))
      (aj
       (aQ (i:=5) lQ.nd rfl (Or.inl rfl) (bz bu (pv 2) (aB bO (aB cL (pv 4) (pv 3)) aq) (fun _ _=>rfl)))
      (aj
       (aQ (i:=6) lQ.nd rfl (Or.inl rfl) (aX aZ.ok (hr.mono (by decide)) rfl aZ.g aZ.kp aZ.b .nil aV (aa (pv 0) (aa (aB aD aR (pv 5)) ak))))
      (ao
       (bM (lU (Kw hu (pv 5) (pv 1)))
        (ao
         (bM (iX (gv (aX bD.ok (hr.mono (by decide)) rfl bD.g bD.kp bD.b .nil aV (aa (pv 6) (aa (y3 hu (pv 1) (pv 5) (fun _ _=>rfl)) ak)))))
          (ao
           (aH jW))
          ba))
        (ao
         (bM (iX (gv (aX bc.ok (hr.mono (by decide)) rfl bc.g bc.kp bc.b .nil aV (aa (pv 6) (aa aq (aa (pv 5) ak))))))
          (ao
           (aH jW))
          ba)))))))
    (ao
     (aH jW))),?_⟩
  refine⟨_,rfl,by decide,by decide,lW (fun i σ H'=>∃(v4 v5 v6:Option V),σ=[some (.ref d),some (.ref sd),some (.ref ln),some (.int turn),v4,v5,v6]∧aG H H') ?_ ?_ ?_⟩
  ·exact⟨none,none,none,rfl,aG.refl H⟩
  ·rintro i σ H1 hi ⟨v4,v5,v6,rfl,e1⟩
   obtain⟨nm,hm,BQ⟩:=wI (xs:=Ni) (n:=3) (by rw[n3];rfl) (by decide) (0+(i:Int)+turn)
   obtain⟨na,nb⟩:=Pt nm hm
   obtain⟨nl,_⟩:=Ep nb
   have xl:(⟨nm.toArray⟩:Str).length=nm.length:=aK nm
   have yl:("show " :Str).length=5:=by decide+kernel
   refine⟨_,rfl,_,rfl,_,rfl,_,_,rfl,rfl,_,_,rfl,rfl,(by show (0 :Int) <3;decide),ln,_,_,_,rfl,rfl,bR.of (e1 _ _ hn),BQ,?_⟩
   refine⟨_,rfl,_,rfl,_,_,rfl,rfl,by omega,?_⟩
   rw[HB]
   refine⟨d,dc,wz++32::nm,nm,bJ,rfl,⟨dx,so,e1 _ _ hd⟩,e1 _ _ hc,hk,na,nb, .LV ?_⟩
   rcases hR (Sum.inr ⟨nm.toArray⟩) with ⟨z1,z2⟩ | ⟨c,xs,ys,z1,Pg,z2,hw⟩
   ·refine .inl ⟨z1,fun b tN H2 L' nd hb eZ e2=>⟨NN,rfl, .inr (.inr (.inr rfl)),fun e t H3 he ht e3=>?_⟩⟩
    have HC:=(e1.trans e2).trans e3
    refine⟨_,rfl,_,rfl,sd,_,rfl,jN.k (k:=Sum.inr ⟨nm.toArray⟩) (HC _ _ hs),_,rfl,?_⟩
    rw[z2]
    refine dm ⟨_,rfl,_,rfl,t,e,NN,tN,0,_,_,rfl, .nm _,ht,he,e3 _ _ eZ,fun H4 e4=>⟨_,rfl,dm ⟨_,_,_,rfl,HC.trans e4⟩⟩⟩
   ·refine .inr ⟨c,xs,ys,z1,hw H1 (.of e1),Pg,fun H2 e2 t H3 ht e3=>?_⟩
    have HC:=(e1.trans e2).trans e3
    refine⟨_,rfl,_,rfl,sd,_,rfl,jN.k (k:=Sum.inr ⟨nm.toArray⟩) (HC _ _ hs),_,rfl,?_⟩
    rw[z2]
    refine eG ⟨_,rfl,_,rfl,_,rfl,sd,_,rfl,z2▸jN.k (k:=Sum.inr ⟨nm.toArray⟩) (HC _ _ hs),t,_,rfl,ht,_,rfl,dm ⟨_,_,_,rfl,HC⟩⟩
  ·rintro σ H1 ⟨v4,v5,v6,rfl,e1⟩
   exact q _ e1
variable {HE NF TL NC TM NN NR Dk er Ch:Addr}{iQ:Tok}
theorem JT.vd{l:List Nat}{k:Nat}(h:JT l k true):d6 t5 0 false l=none:=by
 obtain⟨s,w1,w2⟩:=h.w
 have:=pO (m:=[]) w1
 rw[List.append_nil] at this
 rw[this]
 exact if_pos ⟨rfl,w2⟩
theorem Ma{l:List Nat}{k:Nat}(h:JT l k true):∃v,d6 t5 0 false (l++[33])=some v:=by
 obtain⟨s,w1,w2⟩:=h.w
 refine⟨[33],?_⟩
 rw[pO w1]
 refine mv ?_
 show d5 s 0 (true||_) 33=none
 unfold d5
 rw[if_neg (by decide)]
 by_cases ha:s.al=true
 ·rw[if_pos ha]
 rw[if_neg ha]
 rcases w2 with z|z
 ·rw[if_neg (by rw[z];decide),if_neg (by omega),if_pos z]
 ·rw[if_neg (by rw[z.1];decide),if_neg (by omega),if_neg (by rw[z.1];decide),if_neg (by decide),if_neg (by omega),if_neg (by omega),if_neg (by omega)]
theorem Mb{l:List Nat}{k:Nat}(h:JT l k true):∃v,d6 t5 0 false (l++[32])=some v:=by
 obtain⟨s,w1,w2⟩:=h.w
 have e:jS t5 0 false (l++[32])=some (⟨.gap,0,0,false⟩,0,true):=by rw[ei w1];exact tW w1 w2
 have:=pO (m:=[]) e
 rw[List.append_nil] at this
 exact⟨[],by rw[this];rfl⟩
theorem HD{l:List Nat}{k:Nat}(h:JT l k true):∃v,d6 t5 0 false (l++[32,43])=some v:=by
 obtain⟨s,w1,w2⟩:=h.w
 have e:jS t5 0 false (l++[32])=some (⟨.gap,0,0,false⟩,0,true):=by rw[ei w1];exact tW w1 w2
 have:=pO (m:=[43]) e
 rw[List.append_assoc] at this
 exact⟨[],by rw[show ([32,43]:List Nat)=[32]++[43] from rfl,this];rfl⟩
def hL:List Nat:=[32,43,32,72]
theorem txH:D6 [72]:=by
 have:=tX (k:=[72]) ⟨72,[],rfl,by decide,by decide,by decide⟩ (m:=1) (q:=0) (by decide) (by decide) (by decide) (by decide) (p:=[]) (.inl rfl)
 rwa [gw] at this
theorem JT.more:∀(n:Nat) {l:List Nat} {k:Nat},JT l k true→JT (l++(List.replicate n hL).flatten) (k+n) true
 |0,l,k,h=>by rw[show (List.replicate 0 hL).flatten=[] from rfl,List.append_nil];exact h
 |n+1,l,k,h=>by
  rw[List.replicate_succ,List.flatten_cons,←List.append_assoc,show k+(n+1)=(k+1)+n by omega]
  have:=h.plus txH
  rw[List.append_assoc] at this
  exact JT.more n this
theorem yD:∀n:Nat,(List.replicate n hL).flatten.length=4*n
 |0=>rfl
 |n+1=>by
  rw[List.replicate_succ,List.flatten_cons,List.length_append,yD n]
  show 4+_=_
  omega
theorem t9(nm tx:List Nat):(("change " :Str)++⟨nm.toArray⟩++(" " :Str))++⟨tx.toArray⟩=⟨(nq++32::(nm++32::tx)).toArray⟩:=by
 rw[show ("change " :Str)=⟨(nq++[32]).toArray⟩ by decide+kernel,show (" " :Str)=⟨[32].toArray⟩ by decide+kernel,bg,bg,bg]
 simp
theorem Ai(nm tx m:List Nat):(⟨(nq++32::(nm++32::tx)).toArray⟩:Str)++⟨m.toArray⟩=⟨(nq++32::(nm++32::(tx++m))).toArray⟩:=by
 rw[bg]
 simp
theorem HF(nm:List Nat):("drop " :Str)++⟨nm.toArray⟩=⟨(ym++32::nm).toArray⟩:=by
 rw[show ("drop " :Str)=⟨(ym++[32]).toArray⟩ by decide+kernel,bg,List.append_assoc]
 rfl
theorem HG{dc:Addr}{bJ:List (Key×V)}{nm tx v:List Nat}{H:Hp}{Q:VK}{E:XK}(hv:d6 t5 0 false tx=some v)(h4:tx.length≤400)(q:∀e,Rf NC "place" H E e):tU TL NC TM C G Pc Fo Ch dc bJ nm tx H Q E:=
 ⟨fun _ xs ys c H' hG=>(by rw[DW hG] at hv;cases hv),fun _ xs ys hG=>(by rw[DW hG] at hv;cases hv),fun _ e _ _=>q e,fun z=>absurd h4 (by omega)⟩
theorem ED{dc:Addr}{bJ:List (Key×V)}{nm tx:List Nat}{H:Hp}{Q:VK}{E:XK}(h4:400<tx.length)(q:Rf TL "many" H E tx.length):tU TL NC TM C G Pc Fo Ch dc bJ nm tx H Q E:=
 ⟨fun z=>absurd h4 (by omega),fun z=>absurd h4 (by omega),fun z=>absurd h4 (by omega),fun _=>q⟩
theorem EE{dc:Addr}{bJ:List (Key×V)}{nm tx:List Nat}{k:Nat}{H:Hp}{Q:VK}{E:XK}(hj:JT tx k true)(hk:8≤k)(h4:tx.length≤400)(q:Rf TM "many" H E (k+1)):tU TL NC TM C G Pc Fo Ch dc bJ nm tx H Q E:=by
 have ht:=hj.tn
 refine⟨fun _ xs ys c H' hG h8=>?_,fun _ xs ys hG h8=>?_,fun _ e hB=>?_,fun z=>absurd h4 (by omega)⟩
 ·have:Pj tx=xs.length+ys.length:=yi hG
  omega
 ·have:Pj tx=xs.length+ys.length:=yi hG
  rw[←this,ht]
  exact q
 ·have:=DX hB
  rw[hj.vd] at this
  cases this
theorem EF{dc:Addr}{bJ:List (Key×V)}{nm tx:List Nat}{H:Hp}{Q:VK}{E:XK}(hj:rX tx)
  (q:∀xs ys c H',OY xs ys→G5 xs ys=⟨tx.toArray⟩→G9 C G Pc Fo Ch H H' c xs ys→Kept dc H H'→H' dc=some (.dK (putK bJ (Sum.inr ⟨nm.toArray⟩) (.ref c)))→Q (.str "ok") H'):tU TL NC TM C G Pc Fo Ch dc bJ nm tx H Q E:=by
 have ht:=hj.j.tn
 have hn:=hj.n
 refine⟨fun _ xs ys c H' hG h8 hN hK hd=>?_,fun _ xs ys hG h8=>?_,fun _ e hB=>?_,fun z=>absurd z (by omega)⟩
 ·obtain⟨et,o1,o2⟩:=Hf hG (by omega)
  exact q xs ys c H' ⟨o1,o2,by omega,by omega⟩ et hN hK hd
 ·have:Pj tx=xs.length+ys.length:=yi hG
  omega
 ·have:=DX hB
  rw[hj.j.vd] at this
  cases this
variable {HE NF TL NC TM NN NR Dk er Ch:Addr}{iQ:Tok}
theorem wN(aL:List (Key×V))(k:Key)(v:V):(putK aL k v).length≤aL.length+1:=by
 unfold putK
 split
 ·rw[List.length_map];omega
 ·rw[List.length_append];exact Nat.le_refl _
theorem ju(aL:List (Key×V))(k:Key):(dX aL k).length≤aL.length:=List.length_filter_le _ _
def EG(C G Pc Fo Ch Dk:Addr):Sp:=fun vs H Q _=>∃(d dc sd ll:Addr) (bJ aL:List (Key×V)) (nm:List Nat) (cell:Int) (ls:List (List Nat)) (av:List Addr),vs=[.ref d, .ref sd, .str ⟨nm.toArray⟩, .int cell, .ref ll]∧iB Dk H d dc∧H dc=some (.dK bJ)∧bJ.length≤800∧H sd=some (.dK aL)∧aL.length≤800∧dc∈av∧sd∈av∧dc≠sd∧(∀a∈av,H a≠none)∧yB C G Pc Fo Ch av H bJ aL∧du nm∧isNm nm=true∧
 H ll=some (.lst (sL ls))∧ls.length=4∧(∀l∈ls,rX l)∧
 ∀BW BX H',BW.length≤bJ.length+1→BX.length≤aL.length+1→H' dc=some (.dK BW)→H' sd=some (.dK BX)→yB C G Pc Fo Ch av H' BW BX→(∀b o,b≠dc→b≠sd→H b=some o→H' b=some o)→Q (.bl true) H'
theorem mF:az ["_law_desk","_law_standing","_law_name","_law_cell","_law_lines","_law_way","_law_line","_law_caught_here","_law_long"] ["_law_desk","_law_standing","_law_name","_law_cell","_law_lines"] (ag zA):=dI
theorem HH(D:Def K mg "_law_deed" "_law_deed" zA ["_law_desk","_law_standing","_law_name","_law_cell","_law_lines"])(T:mY K mg HE NF TL NC TM NN NR Dk er Ch iQ)(c1:bI P w K mg base 27 "_law_caught" ["_law_desk","_law_row"] (pU TL NC TM NN C G Pc Fo Ch Dk))(c2:bI P w K mg base 1 "_law_refused" ["_law_caught_here","_law_sort","_law_asked"] (mD NN NC TL TM))(c3:bI P w K mg base 1 "_law_answered" ["_law_caught_here","_law_due"] kq):bI P w K mg base 28 "_law_deed" ["_law_desk","_law_standing","_law_name","_law_cell","_law_lines"] (EG C G Pc Fo Ch Dk):=by
 obtain⟨_,_,aZ⟩:=c1
 obtain⟨_,_,bc⟩:=c2
 obtain⟨_,_,bD⟩:=c3
 refine D.fW mF (fun vs H Q E h=>?_) (fun f br A outer s H vs Q E hr h=>?_)
 ·obtain⟨d,dc,sd,ll,bJ,aL,nm,cell,ls,av,rfl,_⟩:=h
  rfl
 ·obtain⟨d,dc,sd,ll,bJ,aL,nm,cell,ls,av,rfl,⟨dx,so,hd⟩,hc,Wv,hs,Ww,adc,Nj,Nk,Wx,hR,na,nb,hl,l4,Wy,q⟩:=h
  have hu:=kH hr
  have big:(8000 :Nat) <sizeLine:=by decide
  obtain⟨nl,_⟩:=Ep nb
  have xl:(⟨nm.toArray⟩:Str).length=nm.length:=aK nm
  have yc:("change " :Str).length=7:=by decide+kernel
  have yb:(" " :Str).length=1:=by decide+kernel
  have yd:("drop " :Str).length=5:=by decide+kernel
  obtain⟨tx,hm,BQ⟩:=wI (xs:=ls) (n:=4) (by rw[l4];rfl) (by decide) (cell/8)
  have hT:=Wy tx hm
  have t40:=hT.n
  have xt:(⟨tx.toArray⟩:Str).length=tx.length:=aK tx
  have keep:∀H1,aG H H1→Q (.bl true) H1:=fun H1 e1=>q bJ aL H1 (by omega) (by omega) (e1 _ _ hc) (e1 _ _ hs) (hR.on (.of e1)) fun b o _ _ z=>e1 _ _ z
  refine⟨_,(aj
     (aQ (i:=5) mF.nd rfl (Or.inl rfl) (aB bO (pv 3) aq))
    (aj
     (aQ (i:=6) mF.nd rfl (Or.inl rfl) (bz bu (pv 4) (aB bO (aB cC (pv 3) aq) aq) (fun _ _=>rfl)))
    (aj
     (bM (bp yX (pv 5) aq (bq _))
      (aj
       (aQ (i:=7) mF.nd rfl (Or.inl rfl) (aX aZ.ok (hr.mono (by decide)) rfl aZ.g aZ.kp aZ.b .nil aV (aa (pv 0) (aa (aB aD (aB aD (aB aD aR (pv 2)) aR) (pv 6)) ak))))
      (aj
       (y4 hu (pv 1) (pv 2) (pv 6) rfl)
      (ao
       (aH (aX bD.ok (hr.mono (by decide)) rfl bD.g bD.kp bD.b .nil aV (aa (pv 7) (aa aR ak)))))))
      ba)
    (aj
     (bM (bp cI (pv 5) aq (bq _))
      (ao
       (aH (aX bc.ok (hr.mono (by decide)) rfl bc.g bc.kp bc.b .nil aV (aa (aX aZ.ok (hr.mono (by decide)) rfl aZ.g aZ.kp aZ.b .nil aV (aa (pv 0) (aa (aB aD (aB aD (aB aD (aB aD aR (pv 2)) aR) (pv 6)) (bz bu (c9 (aa aR (aa aR (aa aR ak)))) (aB bO (aB cC (pv 3) aq) aq) (fun _ _=>rfl))) ak))) (aa aq (aa aq ak))))))
      ba)
    (aj
     (bM (bp cI (pv 5) aq (bq _))
      (aj
       (aQ (i:=8) mF.nd rfl (Or.inl rfl) (aB aD (pv 6) (aB zt aR (aB cL aq (aB bO (aB cC (pv 3) aq) aq)))))
      (ao
       (aH (aX bc.ok (hr.mono (by decide)) rfl bc.g bc.kp bc.b .nil aV (aa (aX aZ.ok (hr.mono (by decide)) rfl aZ.g aZ.kp aZ.b .nil aV (aa (pv 0) (aa (aB aD (aB aD (aB aD aR (pv 2)) aR) (pv 8)) ak))) (aa aq (aa (bw dk rfl T.gg eI (aa (pv 8) ak)) ak)))))))
      ba)
    (aj
     (bM (bp cI (pv 5) aq (bq _))
      (ao
       (aH (aX bc.ok (hr.mono (by decide)) rfl bc.g bc.kp bc.b .nil aV (aa (aX aZ.ok (hr.mono (by decide)) rfl aZ.g aZ.kp aZ.b .nil aV (aa (pv 0) (aa (aB aD (aB aD (aB aD (aB aD aR (pv 2)) aR) (pv 6)) (aB zt aR aq)) ak))) (aa aq (aa aq ak))))))
      ba)
    (aj
     (aQ (i:=7) mF.nd rfl (Or.inl rfl) (aX aZ.ok (hr.mono (by decide)) rfl aZ.g aZ.kp aZ.b .nil aV (aa (pv 0) (aa (aB aD aR (pv 2)) ak))))
    (aj
     (bM (lU (qK hu (pv 2) (pv 1)))
      (ao
       (aH (aX bc.ok (hr.mono (by decide)) rfl bc.g bc.kp bc.b .nil aV (aa (pv 7) (aa aq (aa (pv 2) ak))))))
      ba)
    (aj
     (bC (uR (pv 1) (pv 2) ⟨rfl,rfl,rfl,rfl⟩))
    (ao
     (aH (aX bD.ok (hr.mono (by decide)) rfl bD.g bD.kp bD.b .nil aV (aa (pv 7) (aa aR ak)))))))))))))),?_⟩
  refine⟨_,rfl,_,_,rfl,rfl,(by show (0 :Int) <8;decide),_,rfl,_,rfl,_,_,rfl,rfl,⟨by decide,by decide⟩,_,_,rfl,rfl,(by show (0 :Int) <4;decide),ll,_,_,_,rfl,rfl,bR.of hl,BQ,?_⟩
  have Ub:∀Y tN,(Y=NC∨Y=TL∨Y=TM∨Y=NN)→∀{H1:Hp} {K':VK},(∀e t bQ,bQ e=some (lT e Y tN)→bQ t=some (.tup [.int 0, .ref e])→aG H1 bQ→K' (.ref t) bQ)→EC NC TL TM NN K' (.ref Y) tN H1:=fun Y tN hY H1 K' h=>⟨Y,rfl,hY,h⟩
  refine⟨_,rfl,_,_,rfl,rfl,_,rfl,nh (fun _=>?_) fun w4=>?_⟩
  ·refine⟨_,rfl,_,rfl,_,_,rfl,rfl,?_,_,_,rfl,rfl,?_,_,rfl,_,_,rfl,rfl,?_,?_⟩
   any_goals (simp only [bj,yc,yb,xl,xt];omega)
   rw[t9]
   refine⟨d,dc,_,nm,bJ,rfl,⟨dx,so,hd⟩,hc,by omega,na,nb, .chg tx (by omega) (EF hT fun xs ys c H1 Pg et hN hK B8 t H2 ht e2=>?_)⟩
   have AF:H2 sd=some (.dK aL):=e2 _ _ (hK _ _ hs (Ne.symm Nk))
   refine⟨_,rfl,_,rfl,_,rfl,sd,_,rfl,AI.k (k:=Sum.inr ⟨nm.toArray⟩) AF (qO (by omega)),?_⟩
   have Wz:t≠sd:=fun z=>by rw[z,AF] at ht;cases ht
   refine⟨_,rfl,t,"ok",rfl,by rw[ah Wz];exact ht,?_⟩
   rw[←et]
   have kl:KL av H (upd H2 sd (.dK (putK aL (Sum.inr ⟨nm.toArray⟩) (.str (G5 xs ys))))):=fun b o n z=>by
    rw[ah (fun y=>n (by rw[y];exact Nj))]
    exact e2 _ _ (hK _ _ z fun y=>n (by rw[y];exact adc))
   refine q _ _ _ (wN _ _ _) (wN _ _ _) (by rw[ah Nk];exact e2 _ _ B8) ai ((hR.on kl).put _ Pg fun H4 k4=>hN H4 fun b o z1 z2=>?_) fun b o n1 n2 z=>?_
   ·have L':b∉av:=fun z=>Wx b z z1
    refine k4 b o L' ?_
    rw[ah (fun y=>L' (by rw[y];exact Nj))]
    exact e2 _ _ z2
   ·rw[ah n2]
    exact e2 _ _ (hK _ _ z n1)
  refine⟨_,rfl,rfl,_,rfl,nh (fun _=>?_) fun w5=>?_⟩
  ·obtain⟨m,Ts,hma⟩:=wI (xs:=[[33],[32],[32,43]]) (n:=3) rfl (by decide) (cell/32)
   obtain⟨v,hv⟩:∃v,d6 t5 0 false (tx++m)=some v:=by
    have e:m=[33]∨m=[32]∨m=[32,43]:=by simpa using Ts
    rcases e with rfl|rfl|rfl
    ·exact Ma hT.j
    ·exact Mb hT.j
    ·exact HD hT.j
   have ml:m.length≤2:=by
    have e:m=[33]∨m=[32]∨m=[32,43]:=by simpa using Ts
    rcases e with rfl|rfl|rfl<;>decide
   have xm:(⟨m.toArray⟩:Str).length=m.length:=aK m
   refine⟨_,rfl,_,rfl,_,_,rfl,rfl,?_,_,_,rfl,rfl,?_,_,rfl,_,_,rfl,rfl,?_,(by show 3≤sizeLine;decide),fun L hL=>?_⟩
   any_goals (simp only [bj,yc,yb,xl,xt];omega)
   rw[t9]
   have dd:[V.str "!",V.str " ",V.str " +"]=[[33],[32],[32,43]].map fun l:List Nat=>V.str ⟨l.toArray⟩:=by decide+kernel
   rw[dd]
   have e1:=aG.new (o:= .lst ([[33],[32],[32,43]].map fun l:List Nat=>V.str ⟨l.toArray⟩)) hL
   have h1:(upd H L (.lst ([[33],[32],[32,43]].map fun l:List Nat=>V.str ⟨l.toArray⟩))) L=some (.lst ([[33],[32],[32,43]].map fun l:List Nat=>V.str ⟨l.toArray⟩)):=ai
   generalize upd H L (.lst ([[33],[32],[32,43]].map fun l:List Nat=>V.str ⟨l.toArray⟩))=H1 at e1 h1 ⊢
   refine⟨_,rfl,_,_,rfl,rfl,⟨by decide,by decide⟩,_,_,rfl,rfl,(by show (0 :Int) <3;decide),L,_,_,_,rfl,rfl,bR.of h1,hma,_,_,rfl,rfl,?_,?_⟩
   ·rw[aK,xm,List.length_append,List.length_cons,List.length_append,List.length_cons,show nq.length=6 from rfl]
    omega
   rw[Ai]
   refine⟨d,dc,_,nm,bJ,rfl,⟨dx,so,e1 _ _ hd⟩,e1 _ _ hc,by omega,na,nb, .chg (tx++m) (by rw[List.length_append];omega) (HG hv (by rw[List.length_append];omega) fun e' b tN H2 L' nd hb eZ e2=>Ub _ _ (.inl rfl) fun e t H3 he ht e3=>?_)⟩
   exact⟨t,e,NC,tN,1,_,_,rfl, .ch _ _,ht,he,e3 _ _ eZ,fun H4 e4=>keep _ (((e1.trans e2).trans e3).trans e4)⟩
  have eH:(V.str (" + H" :Str))=V.str ⟨hL.toArray⟩:=by decide+kernel
  refine⟨_,rfl,rfl,_,rfl,nh (fun _=>?_) fun w6=>?_⟩
  ·obtain⟨k,ek⟩:=Int.eq_ofNat_of_zero_le (Int.emod_nonneg (cell/32) (show (9 :Int)≠0 by decide))
   have k9:k<9:=by have:=Int.emod_lt_of_pos (cell/32) (show (0 :Int) <9 by decide);omega
   have WA:=yD (101+k)
   have xh:(⟨(List.replicate (101+k) hL).flatten.toArray⟩:Str).length=(List.replicate (101+k) hL).flatten.length:=aK _
   refine⟨_,rfl,_,rfl,_,_,rfl,rfl,⟨by decide,by decide⟩,_,_,rfl,rfl,(by show (0 :Int) <9;decide),_,_,rfl,rfl,hL,101+k,eH,congrArg V.int (by omega),by omega,by omega,by decide,by decide,_,_,rfl,rfl,by omega,?_⟩
   rw[bg]
   have lg:(tx++(List.replicate (101+k) hL).flatten).length=tx.length+4*(101+k):=by rw[List.length_append,WA]
   generalize tx++(List.replicate (101+k) hL).flatten=tz at lg
   have xz:(⟨tz.toArray⟩:Str).length=tz.length:=aK tz
   refine⟨_,rfl,_,rfl,_,_,rfl,rfl,?_,_,_,rfl,rfl,?_,_,rfl,_,_,rfl,rfl,?_,?_⟩
   any_goals (simp only [bj,yc,yb,xl,xz];omega)
   rw[t9]
   refine⟨d,dc,_,nm,bJ,rfl,⟨dx,so,hd⟩,hc,by omega,na,nb, .chg tz (by omega) (ED (by omega) fun b tN H2 L' nd hb eZ e2=>Ub _ _ (.inr (.inl rfl)) fun e t H3 he ht e3=>?_)⟩
   refine⟨_,rfl,⟨tz.toArray⟩,rfl,by omega,?_⟩
   rw[xz]
   exact⟨t,e,TL,tN,2,_,_,rfl, .lg _,ht,he,e3 _ _ eZ,fun H4 e4=>keep _ ((e2.trans e3).trans e4)⟩
  refine⟨_,rfl,rfl,_,rfl,nh (fun _=>?_) fun w7=>?_⟩
  ·have WA:=yD 6
   have hj:=hT.j.more 6
   have xh:(⟨(List.replicate 6 hL).flatten.toArray⟩:Str).length=(List.replicate 6 hL).flatten.length:=aK _
   refine⟨_,rfl,_,rfl,_,_,rfl,rfl,?_,_,_,rfl,rfl,?_,_,rfl,_,_,rfl,rfl,?_,hL,6,eH,rfl,by decide,by decide,by decide,by decide,_,_,rfl,rfl,?_,?_⟩
   any_goals (simp only [bj,yc,yb,xl,xt,xh];omega)
   rw[t9,Ai]
   have lg:(tx++(List.replicate 6 hL).flatten).length=tx.length+4*6:=by rw[List.length_append,WA]
   generalize tx++(List.replicate 6 hL).flatten=tz at lg hj
   refine⟨d,dc,_,nm,bJ,rfl,⟨dx,so,hd⟩,hc,by omega,na,nb, .chg tz (by omega) (EE hj (by decide) (by omega) fun b tN H2 L' nd hb eZ e2=>Ub _ _ (.inr (.inr (.inl rfl))) fun e t H3 he ht e3=>?_)⟩
   exact⟨t,e,TM,tN,3,_,_,rfl, .mn _,ht,he,e3 _ _ eZ,fun H4 e4=>keep _ ((e2.trans e3).trans e4)⟩
  refine⟨_,rfl,_,rfl,_,_,rfl,rfl,by omega,?_⟩
  rw[HF]
  refine⟨d,dc,_,nm,bJ,rfl,⟨dx,so,hd⟩,hc,by omega,na,nb, .LU ⟨fun v hv H1 hK B8 t H2 ht e2=>?_,fun hv b tN H2 L' nd hb eZ e2=>Ub _ _ (.inr (.inr (.inr rfl))) fun e t H3 he ht e3=>?_⟩⟩
  ·have AF:H2 sd=some (.dK aL):=e2 _ _ (hK _ _ hs (Ne.symm Nk))
   obtain⟨x,hx⟩:∃x,b4 aL (Sum.inr ⟨nm.toArray⟩)=some x:=by
    rcases hR (Sum.inr ⟨nm.toArray⟩) with ⟨z,_⟩ | ⟨_,_,_,_,_,z,_⟩
    ·rw[hv] at z;cases z
    ·exact⟨_,z⟩
   refine⟨_,rfl,_,rfl,sd,_,rfl,jN.k (k:=Sum.inr ⟨nm.toArray⟩) AF,_,rfl,?_⟩
   rw[hx]
   have Wz:t≠sd:=fun z=>by rw[z,AF] at ht;cases ht
   refine dm ⟨_,rfl,sd,rfl, .inl ⟨_, .inl AF⟩,_,rfl,aL,Sum.inr ⟨nm.toArray⟩,x,AF,rfl,hx,?_⟩
   refine⟨_,rfl,t,"ok",rfl,by rw[ah Wz];exact ht,?_⟩
   have kl:KL av H (upd H2 sd (.dK (dX aL (Sum.inr ⟨nm.toArray⟩)))):=fun b o n z=>by
    rw[ah (fun y=>n (by rw[y];exact Nj))]
    exact e2 _ _ (hK _ _ z fun y=>n (by rw[y];exact adc))
   refine q _ _ _ (Nat.le_succ_of_le (ju _ _)) (Nat.le_succ_of_le (ju _ _)) (by rw[ah Nk];exact e2 _ _ B8) ai ((hR.on kl).drop _) fun b o n1 n2 z=>?_
   rw[ah n2]
   exact e2 _ _ (hK _ _ z n1)
  ·have HC:=e2.trans e3
   have hx:b4 aL (Sum.inr ⟨nm.toArray⟩)=none:=by
    rcases hR (Sum.inr ⟨nm.toArray⟩) with ⟨_,z⟩ | ⟨_,_,_,z,_⟩
    ·exact z
    ·rw[hv] at z;cases z
   refine⟨_,rfl,_,rfl,sd,_,rfl,jN.k (k:=Sum.inr ⟨nm.toArray⟩) (HC _ _ hs),_,rfl,?_⟩
   rw[hx]
   exact eG ⟨_,rfl,_,rfl,t,e,NN,tN,0,_,_,rfl, .nm _,ht,he,e3 _ _ eZ,fun H4 e4=>keep _ (HC.trans e4)⟩
variable {HE NF TL NC TM NN NR Dk er Ch:Addr}{iQ:Tok}
def Aj(K:PySem.W.Frag):Sp:=fun vs H Q _=>∃(a:Addr) (ns:List Int),vs=[.ref a]∧bR K H a (ns.map V.int)∧ns.length≤63∧∀H',Q (.bl true) H'
structure Jl(K:PySem.W.Frag)(mg:Str→Option Value)(HE NF TL NC TM NN NR Dk er Ch:Addr)(iQ:Tok):Prop extends mY K mg HE NF TL NC TM NN NR Dk er Ch iQ where
 EH:mg "Desk" =some (.ref Dk)
def jm(C G Pc Fo Ch Dk:Addr)(av:List Addr)(H:Hp)(d dc sd:Addr)(m:Nat):Prop:=iB Dk H d dc∧∃bJ aL,H dc=some (.dK bJ)∧bJ.length≤m∧H sd=some (.dK aL)∧aL.length≤m∧yB C G Pc Fo Ch av H bJ aL
theorem jm.same{av:List Addr}{H H':Hp}{d dc sd:Addr}{m m':Nat}(h:jm C G Pc Fo Ch Dk av H d dc sd m)(e:aG H H')(hm:m≤m'):jm C G Pc Fo Ch Dk av H' d dc sd m':=by
 obtain⟨⟨dx,so,hd⟩,bJ,aL,h1,h2,h3,h4,h5⟩:=h
 exact⟨⟨dx,so,e _ _ hd⟩,bJ,aL,e _ _ h1,by omega,e _ _ h3,by omega,h5.on (.of e)⟩
theorem jm.keep{av:List Addr}{H H':Hp}{d dc sd x y:Addr}{m:Nat}{kx ky:List (Key×V)}(h:jm C G Pc Fo Ch Dk av H d dc sd m)(hk:∀b o,b≠x→b≠y→H b=some o→H' b=some o)(hx:H x=some (.dK kx))(hy:H y=some (.dK ky))(ax:x∈av)(ay:y∈av)(n1:dc≠x)(n2:dc≠y)(n3:sd≠x)(n4:sd≠y):jm C G Pc Fo Ch Dk av H' d dc sd m:=by
 obtain⟨⟨dx,so,hd⟩,bJ,aL,h1,h2,h3,h4,h5⟩:=h
 have ndx:d≠x:=fun z=>by rw[z,hx] at hd;cases hd
 have ndy:d≠y:=fun z=>by rw[z,hy] at hd;cases hd
 refine⟨⟨dx,so,hk _ _ ndx ndy hd⟩,bJ,aL,hk _ _ n1 n2 h1,h2,hk _ _ n3 n4 h3,h4,h5.on fun b o n z=>hk b o (fun y'=>n (by rw[y'];exact ax)) (fun y'=>n (by rw[y'];exact ay)) z⟩
theorem pW:az ["_law_script","_law_names_here","_law_lines","_law_desks","_law_standing","_law_cell","_law_k"] ["_law_script"] (ag qj):=dI
theorem Mc{f:Addr}{fd:FuncData}(F:y9 K "law" "law" qj f fd)(T:Jl K mg HE NF TL NC TM NN NR Dk er Ch iQ)(c1:bI P w K mg base 1 "_law_here" ["_law_script","_law_place"] (Et K))(c2:bI P w K mg base 2 "_law_names" ["_law_cell"] Af)(c3:bI P w K mg base 1 "_law_change" ["_law_number"] rY)(c4:eU P w K mg base 3 Dk ["self"] [] (wF Dk))(c5:bI P w K mg base 28 "_law_deed" ["_law_desk","_law_standing","_law_name","_law_cell","_law_lines"] (EG C G Pc Fo Ch Dk))(c6:bI P w K mg base 28 "_law_shown" ["_law_desk","_law_standing","_law_names_here","_law_turn"] (wK C G Pc Fo Ch Dk)):
  dj P w K mg base js 29 f fd ["_law_script"] (Aj K):=by
 obtain⟨_,_,eV⟩:=c1
 obtain⟨_,_,jK⟩:=c2
 obtain⟨_,_,iF⟩:=c3
 obtain⟨_,_,dU⟩:=c4
 obtain⟨_,wO,wQ⟩:=dU.b 0 (by decide)
 obtain⟨_,_,lR⟩:=c5
 obtain⟨_,_,cx⟩:=c6
 refine F.ok pW (fun vs H Q E h=>?_) (fun br A outer s H vs Q E hr h=>?_)
 ·obtain⟨a,ns,rfl,_⟩:=h
  rfl
 ·obtain⟨a,ns,rfl,hS,hlen,q⟩:=h
  have hu:=kH hr
  have big:(8000 :Nat) <sizeLine:=by decide
  refine⟨_,(aj
     (aQ (i:=1) pW.nd rfl (Or.inl rfl) (aX jK.ok (hr.mono (by decide)) rfl jK.g jK.kp jK.b .nil aV (aa (aX eV.ok (hr.mono (by decide)) rfl eV.g eV.kp eV.b .nil aV (aa (pv 0) (aa aq ak))) ak)))
    (aj
     (F5 (i:=2) pW.nd rfl (Or.inl rfl) (sc:=(ag qj)) (NX:=["_law_script","_law_names_here","_law_lines","_law_desks","_law_standing","_law_cell","_law_k"]) (N:=["_law_k","_law_script"]) (fr:=[none,some 0]) ⟨by rfl,by rfl,by decide+kernel,by decide+kernel,by decide+kernel,by rfl,by decide+kernel⟩ rfl rfl rfl (gK rfl T.jA (aa aq ak)) (fun _ _ _ _=>(cK (i:=0) (show (["_law_k","_law_script"]:List Str).Nodup by decide+kernel) rfl (Or.inl rfl) (Or.inr rfl))) (fun _ _ _ _=>f6) (fun _ _ _ _=>(aX iF.ok (hr.mono (by decide)) rfl iF.g iF.kp iF.b .nil aV (aa (aB bO (aX eV.ok (hr.mono (by decide)) rfl eV.g eV.kp eV.b .nil aV (aa (pv 1) (aa (aB cL aq (pv 0)) ak))) aq) ak))))
    (aj
     (aQ (i:=3) pW.nd rfl (Or.inl rfl) (c9 (aa (oC dU.m dU.ok (hr.mono (by decide)) rfl T.EH wQ wO aV) (aa (oC dU.m dU.ok (hr.mono (by decide)) rfl T.EH wQ wO aV) ak))))
    (aj
     (aQ (i:=4) pW.nd rfl (Or.inl rfl) (c9 (aa kG (aa kG ak))))
    (aj
     (ow PassesOwn.never rfl (kB (cE jr (pv 0) (cg aq) (cg aq))) (cK (i:=5) pW.nd rfl (Or.inl rfl))
      (aj
       (aQ (i:=6) pW.nd rfl (Or.inl rfl) (aB bO (aB bO (pv 5) aq) aq))
      (aj
       (bM (iX (gv (aX lR.ok (hr.mono (by decide)) rfl lR.g lR.kp lR.b .nil aV (aa (bz bu (pv 3) (pv 6) (fun _ _=>rfl)) (aa (bz bu (pv 4) (pv 6) (fun _ _=>rfl)) (aa (bz bu (pv 1) (aB bO (aB cC (pv 5) aq) aq) (fun _ _=>rfl)) (aa (aB cC (pv 5) aq) (aa (pv 2) ak))))))))
        (ao
         (aH jW))
        ba)
      (ao
       (bM (iX (gv (aX cx.ok (hr.mono (by decide)) rfl cx.g cx.kp cx.b .nil aV (aa (bz bu (pv 3) (pv 6) (fun _ _=>rfl)) (aa (bz bu (pv 4) (pv 6) (fun _ _=>rfl)) (aa (pv 1) (aa (aB cC (pv 5) aq) ak)))))))
        (ao
         (aH jW))
        ba)))))
    (ao
     (aH (lV (aX cx.ok (hr.mono (by decide)) rfl cx.g cx.kp cx.b .nil aV (aa (bz bu (pv 3) aq (fun _ _=>rfl)) (aa (bz bu (pv 4) aq (fun _ _=>rfl)) (aa (pv 1) (aa aq ak))))) (oq (aX cx.ok (hr.mono (by decide)) rfl cx.g cx.kp cx.b .nil aV (aa (bz bu (pv 3) aq (fun _ _=>rfl)) (aa (bz bu (pv 4) aq (fun _ _=>rfl)) (aa (pv 1) (aa aq ak)))))))))))))),?_⟩
  refine⟨_,rfl,a,ns,0,rfl,hS,fun n0 H1 e1=>⟨n0,rfl,fun ln x y z H2 Md Pt Wy e2=>?_⟩⟩
  have e12:=e1.trans e2
  refine⟨_,rfl,by decide,by decide,fun M hM=>u7 (L:=M) H2 (fun σ=>∃v:Option V,σ=[v,some (.ref a)]) (fun i ys=>∃ls:List (List Nat),ls.length=i∧(∀l∈ls,rX l)∧ys=sL ls) hM ⟨none,rfl⟩ (aG.new hM) ai ⟨[],rfl,(fun _ z=>by cases z),rfl⟩ (by show 4≤sizeLine;decide) ?_ ?_ ?_⟩
  ·rintro i ys ⟨ls,hl,_,rfl⟩
   unfold sL
   rw[List.length_map]
   omega
  ·rintro i σ H5 ys hi ⟨v',rfl⟩ yw B7 ⟨ls,hl,WB,rfl⟩ N M' hN
   refine⟨_,rfl,_,rfl,_,_,rfl,rfl,a,ns,_,rfl,(e12.trans yw).seq hS,fun n H6 e6=>⟨_,_,rfl,rfl,(by show (0 :Int) <632736;decide),_,rfl,fun l H7 hT e7=>hN _ _ _ ⟨_,rfl⟩ ((yw.trans e6).trans e7) (e7 _ _ (e6 _ _ B7)) ⟨ls++[l],?_,?_,?_⟩⟩⟩
   ·rw[List.length_append,hl];rfl
   ·intro l' hl'
    rcases List.mem_append.mp hl' with z|z
    ·exact WB l' z
    ·rw[List.mem_singleton.mp z];exact hT
   ·unfold sL
    rw[List.map_append]
    rfl
  rintro H5 ys yw B7 ⟨ls,l4,WB,rfl⟩
  have e5:=e12.trans yw
  have WC:=yw _ _ Wy
  clear hM
  refine fun d0 q0 nd0 nq0 n00=>⟨d0,q0,rfl,ai,fun og H6 ndc0 WD Pu k0=>⟨rfl,fun d1 q1 nd1 nq1 n11=>⟨d1,q1,rfl,ai,fun oh H7 WE G3 Me k1=>⟨rfl,(by show 2≤sizeLine;decide),fun LD hLD=>?_⟩⟩⟩⟩
  have e6:aG H5 H6:=fun b o z=>k0 b o (by rw[ah (af z nd0),ah (af z nq0)];exact z) (af z nd0)
  have e7:aG H6 H7:=fun b o z=>k1 b o (by rw[ah (af z nd1),ah (af z nq1)];exact z) (af z nd1)
  have n01:og≠oh:=af Pu (dY WE)
  have EI:=e7 _ _ Pu
  obtain⟨dx0,so0,WD⟩:=WD
  obtain⟨me,so1,G3⟩:=G3
  have WG:=e7 _ _ WD
  have e8:=aG.new (o:= .lst [V.ref d0,V.ref d1]) hLD
  have Pw:(upd H7 LD (.lst [V.ref d0,V.ref d1])) LD=some (.lst [V.ref d0,V.ref d1]):=ai
  generalize upd H7 LD (.lst [V.ref d0,V.ref d1])=H8 at e8 Pw ⊢
  refine fun s0 Uc=>fun s1 Mf=>⟨(by show 2≤sizeLine;decide),fun LS WH=>?_⟩
  have e9:=e8.trans (aG.new (o:= .dK []) Uc)
  have m0:og≠s0:=af (e8 _ _ EI) Uc
  have m1:oh≠s0:=af (e8 _ _ Me) Uc
  have h9:(upd H8 s0 (.dK [])) s0=some (.dK []):=ai
  have Px:=(aG.new (o:= .dK []) Uc) _ _ Pw
  generalize upd H8 s0 (.dK [])=H9 at e9 Mf h9 Px WH ⊢
  have e10:=e9.trans (aG.new (o:= .dK []) Mf)
  have m2:og≠s1:=af (e9 _ _ EI) Mf
  have m3:oh≠s1:=af (e9 _ _ Me) Mf
  have m4:s0≠s1:=af h9 Mf
  have Nc:(upd H9 s1 (.dK [])) s1=some (.dK []):=ai
  have h90:=(aG.new (o:= .dK []) Mf) _ _ h9
  have Jm:=(aG.new (o:= .dK []) Mf) _ _ Px
  generalize upd H9 s1 (.dK [])=U5 at e10 Nc h90 Jm WH ⊢
  have sn:=aG.new (o:= .lst [V.ref s0,V.ref s1]) WH
  have WI:=e10.trans sn
  have h11:=sn _ _ Nc
  have Pz:=sn _ _ h90
  have Jn:=sn _ _ Jm
  have Jo:(upd U5 LS (.lst [V.ref s0,V.ref s1])) LS=some (.lst [V.ref s0,V.ref s1]):=ai
  generalize upd U5 LS (.lst [V.ref s0,V.ref s1])=H11 at WI h11 Pz Jn Jo ⊢
  have e57:=e6.trans e7
  have Mg:=e57.trans WI
  obtain⟨ms,hms,hml⟩:=u6 ns (some 5) (some 29)
  have ml24:ms.length≤63:=by omega
  refine⟨_,rfl,_,rfl,_,rfl,a,_,rfl,(e5.trans Mg).seq hS,fun p hp=>?_⟩
  rw[hms]
  have sp:=aG.new (o:= .lst (ms.map V.int)) hp
  have Ae:(upd H11 p (.lst (ms.map V.int))) p=some (.lst (ms.map V.int)):=ai
  have EJ:=WI.trans sp
  have Jp:=sp _ _ Jn
  have Jq:=sp _ _ Jo
  have T4:=sp _ _ h11
  have PB:=sp _ _ Pz
  have PD:=sp _ _ (Mg _ _ B7)
  have Jr:=sp _ _ (Mg _ _ WC)
  generalize upd H11 p (.lst (ms.map V.int))=Hc at EJ sp Ae Jp Jq T4 PB PD Jr ⊢
  have ua:∀u∈[x,y,z],du u∧isNm u=true:=fun u HI=>by
   have e:u=x∨u=y∨u=z:=by simpa using HI
   rcases e with rfl|rfl|rfl
   ·exact⟨Md.1,Pt.1⟩
   ·exact⟨Md.2.1,Pt.2.1⟩
   ·exact⟨Md.2.2,Pt.2.2⟩
  have i0:jm C G Pc Fo Ch Dk [og,oh,s0,s1] Hc d0 og s0 0:=⟨⟨dx0,so0,EJ _ _ WG⟩,[],[],EJ _ _ EI,Nat.le_refl _,PB,Nat.le_refl _, .nil⟩
  have i1:jm C G Pc Fo Ch Dk [og,oh,s0,s1] Hc d1 oh s1 0:=⟨⟨me,so1,EJ _ _ G3⟩,[],[],EJ _ _ Me,Nat.le_refl _,T4,Nat.le_refl _, .nil⟩
  refine⟨p,rfl,⟨_,bR.of Ae⟩,Cn (K:=K) (a:=p) (xs:=ms.map V.int) (fun i σ H'=>∃(v5 v6:Option V),σ=[some (.ref a),some (.ref ln),some (.ref M),some (.ref LD),some (.ref LS),v5,v6]∧H' p=some (.lst (ms.map V.int))∧H' LD=some (.lst [V.ref d0,V.ref d1])∧H' LS=some (.lst [V.ref s0,V.ref s1])∧H' ln=some (.lst (sL [x,y,z]))∧H' M=some (.lst (sL ls))∧jm C G Pc Fo Ch Dk [og,oh,s0,s1] H' d0 og s0 i∧jm C G Pc Fo Ch Dk [og,oh,s0,s1] H' d1 oh s1 i) ⟨none,none,rfl,Ae,Jp,Jq,Jr,PD,i0,i1⟩ (fun i σ H' _ ⟨_,_,_,z,_⟩=>bR.of z) ?_ ?_⟩
  ·rintro i xv σ H' hx ⟨v5,v6,rfl,gp,Nl,Nn,Np,gM,j0,j1⟩
   have hi:i<ms.length:=by
    have:=(List.getElem?_eq_some_iff.mp hx).1
    rwa [List.length_map] at this
   rw[List.getElem?_map,Option.map_eq_some_iff] at hx
   obtain⟨cell,Cc,rfl⟩:=hx
   obtain⟨d,dc,sd,d',PJ,PK,atd,ats,jd,jd',nn,adc,Nj,back⟩:∃d dc sd d' PJ PK,nE [V.ref d0,V.ref d1] (cell%3%2)=some (.ref d)∧nE [V.ref s0,V.ref s1] (cell%3%2)=some (.ref sd)∧jm C G Pc Fo Ch Dk [og,oh,s0,s1] H' d dc sd i∧jm C G Pc Fo Ch Dk [og,oh,s0,s1] H' d' PJ PK i∧(dc≠sd∧PJ≠dc∧PJ≠sd∧PK≠dc∧PK≠sd)∧dc∈[og,oh,s0,s1]∧sd∈[og,oh,s0,s1]∧∀bQ m,jm C G Pc Fo Ch Dk [og,oh,s0,s1] bQ d dc sd m→jm C G Pc Fo Ch Dk [og,oh,s0,s1] bQ d' PJ PK m→jm C G Pc Fo Ch Dk [og,oh,s0,s1] bQ d0 og s0 m∧jm C G Pc Fo Ch Dk [og,oh,s0,s1] bQ d1 oh s1 m:=by
    rcases (show cell%3%2=0∨cell%3%2=1 by omega) with ez|ez
    ·rw[ez]
     exact⟨d0,og,s0,d1,oh,s1,rfl,rfl,j0,j1,⟨m0,Ne.symm n01,m1,Ne.symm m2,Ne.symm m4⟩,by simp,by simp,fun _ _ a b=>⟨a,b⟩⟩
    ·rw[ez]
     exact⟨d1,oh,s1,d0,og,s0,rfl,rfl,j1,j0,⟨m3,n01,m2,Ne.symm m1,m4⟩,by simp,by simp,fun _ _ a b=>⟨b,a⟩⟩
   obtain⟨nm,WJ,WK⟩:=wI (xs:=[x,y,z]) (n:=3) rfl (by decide) (cell/3)
   obtain⟨na,nb⟩:=ua nm WJ
   have Wx:∀u∈[og,oh,s0,s1],H' u≠none:=fun u HI=>by
    obtain⟨_,k1,k2,a1,_,a2,_⟩:=j0
    obtain⟨_,k3,k4,a3,_,a4,_⟩:=j1
    have e:u=og∨u=oh∨u=s0∨u=s1:=by simpa using HI
    rcases e with rfl|rfl|rfl|rfl
    ·rw[a1];simp
    ·rw[a3];simp
    ·rw[a2];simp
    ·rw[a4];simp
   obtain⟨Nq,bJ,aL,B8,Wv,Js,Ww,hR⟩:=jd
   refine⟨_,rfl,_,_,rfl,rfl,(by show (0 :Int) <3;decide),_,_,rfl,rfl,(by show (0 :Int) <2;decide),?_⟩
   refine⟨_,rfl,_,rfl,LD,_,_,_,rfl,rfl,bR.of Nl,atd,_,rfl,_,rfl,LS,_,_,_,rfl,rfl,bR.of Nn,ats,_,rfl,_,rfl,_,_,rfl,rfl,⟨by decide,by decide⟩,_,_,rfl,rfl,(by show (0 :Int) <3;decide),ln,_,_,_,rfl,rfl,bR.of Np,WK,_,rfl,_,_,rfl,rfl,⟨by decide,by decide⟩,_,rfl,?_⟩
   refine⟨d,dc,sd,M,bJ,aL,nm,_,ls,_,rfl,Nq,B8,by omega,Js,by omega,adc,Nj,nn.1,Wx,hR,na,nb,gM,l4,WB,fun BW BX H2 lk1 lk2 h2c h2s gF kp=>?_⟩
   have kk:∀{u:Addr} {vs:List V},H' u=some (.lst vs)→H2 u=some (.lst vs):=fun {u vs} HI=>kp _ _ (fun z=>by rw[z,B8] at HI;cases HI) (fun z=>by rw[z,Js] at HI;cases HI) HI
   have PL:iB Dk H2 d dc:=by
    obtain⟨u1,u2,u3⟩:=Nq
    exact⟨u1,u2,kp _ _ (fun z=>by rw[z,B8] at u3;cases u3) (fun z=>by rw[z,Js] at u3;cases u3) u3⟩
   have WL:=jd'.keep kp B8 Js adc Nj nn.2.1 nn.2.2.1 nn.2.2.2.1 nn.2.2.2.2
   refine⟨_,rfl,dm ?_⟩
   refine⟨_,rfl,_,rfl,LD,_,_,_,rfl,rfl,bR.of (kk Nl),atd,_,rfl,_,rfl,LS,_,_,_,rfl,rfl,bR.of (kk Nn),ats,_,rfl,_,rfl,_,_,rfl,rfl,⟨by decide,by decide⟩,?_⟩
   refine⟨d,dc,sd,ln,BW,BX,[x,y,z],_,_,rfl,PL,h2c,by omega,h2s,gF,kk Np,rfl,ua,fun H3 e3=>⟨_,rfl,dm ?_⟩⟩
   have jd2:jm C G Pc Fo Ch Dk [og,oh,s0,s1] H2 d dc sd (i+1):=⟨PL,BW,BX,h2c,by omega,h2s,by omega,gF⟩
   obtain⟨b0,b1⟩:=back H3 (i+1) (jd2.same e3 (Nat.le_refl _)) (WL.same e3 (by omega))
   exact⟨_,_,rfl,e3 _ _ (kk gp),e3 _ _ (kk Nl),e3 _ _ (kk Nn),e3 _ _ (kk Np),e3 _ _ (kk gM),b0,b1⟩
  ·rintro σ H' ⟨v5,v6,rfl,gp,Nl,Nn,Np,gM,j0,j1⟩
   rw[List.length_map] at j0 j1
   obtain⟨Nq,bJ,aL,B8,Wv,Js,Ww,hR⟩:=j0
   refine⟨_,rfl,LD,_,_,_,rfl,rfl,bR.of Nl,rfl,_,rfl,LS,_,_,_,rfl,rfl,bR.of Nn,rfl,_,rfl,d0,og,s0,ln,bJ,aL,[x,y,z],_,_,rfl,Nq,B8,by omega,Js,hR,Np,rfl,ua,fun H2 e2=>⟨_,rfl,eG ?_⟩⟩
   obtain⟨Nq,bJ,aL,B8,Wv,Js,Ww,hR⟩:=j1.same e2 (Nat.le_refl _)
   exact⟨_,rfl,LD,_,_,_,rfl,rfl,bR.of (e2 _ _ Nl),rfl,_,rfl,LS,_,_,_,rfl,rfl,bR.of (e2 _ _ Nn),rfl,_,rfl,d1,oh,s1,ln,bJ,aL,[x,y,z],_,_,rfl,Nq,B8,by omega,Js,hR,e2 _ _ Np,rfl,ua,fun H3 e3=>q H3⟩
theorem Jt{a b c:V}{r:List (Key×V)}:b4 (((Sum.inr "change",a)::(Sum.inr "drop",b)::(Sum.inr "show",c)::r:List (Key×V))) (Sum.inr ⟨nq.toArray⟩)=some a:=b7 (by rw[←yj])
theorem Ju{a b c:V}{r:List (Key×V)}:b4 (((Sum.inr "change",a)::(Sum.inr "drop",b)::(Sum.inr "show",c)::r:List (Key×V))) (Sum.inr ⟨ym.toArray⟩)=some b:=by
 rw[bZ (show¬(Sum.inr ("change" :Str):Key)=Sum.inr ⟨ym.toArray⟩ by decide+kernel)]
 exact b7 (by rw[←LN])
theorem Jv{a b c:V}{r:List (Key×V)}:b4 (((Sum.inr "change",a)::(Sum.inr "drop",b)::(Sum.inr "show",c)::r:List (Key×V))) (Sum.inr ⟨wz.toArray⟩)=some c:=by
 rw[bZ (show¬(Sum.inr ("change" :Str):Key)=Sum.inr ⟨wz.toArray⟩ by decide+kernel),bZ (show¬(Sum.inr ("drop" :Str):Key)=Sum.inr ⟨wz.toArray⟩ by decide+kernel)]
 exact b7 (by rw[←LO])
end
theorem all_mk{l:PySem.W.OpenLaw}{w:World}{K:PySem.W.Frag}{h:Heap}{mg:Str→Option Value}{fa C Gr Pc Fo Rd Ch HE NF TL NC TM NN NR Dk er PM PN PQ PR PU Ak PV HJ PX HK PY PZ P0 HL P1 P2 P4 P5 P6 P7 P8 Jw P9 P' Jx Qa Qb Jy Qc Qd Qe Qf Qg Jz JA JB EK HM HN HP HQ HR EL Mh Qh Qi Qj Qk HS HU HV HW Ql Qm Qn Qo Qq Qr Qs JC JD JE JF JG Mi:Addr}(X:K.In h)(G:h.Ns mainGlobals mg)(hfa:mg "law" =some (.ref fa))
  {Mj yE Qt EM Qu EN Qv EO Qw ES Qx JH:Option Addr} {Ml Qy Qz QA QB QD:Array (Option Value)} {Mm yF yG yH ub yI QE ET EU EV Al EW QF EX EY EZ Am E1 QG E2 E3 E4 An E6 QH E7 E8 E9 Ao Fb QI JI JJ JK Fc JL:Value}
  {uc:Addr} {HX:Value} {HY:Option Addr} {HZ:Array (Option Value)} {Mn:Nat} {Fd:Tok}
  {Ap:Addr} {Mo:Value} {Mp:Option Addr} {Mq:Array (Option Value)} {QJ:Nat} {JM:Tok}
  {Aq:Addr} {Mr:Value} {Ms:Option Addr} {Mt:Array (Option Value)} {QK:Nat} {JN:Tok}
  {As:Addr} {Mu:Value} {Mv:Option Addr} {Mw:Array (Option Value)} {QL:Nat} {JO:Tok}
  {Au:Addr} {Mx:Value} {My:Option Addr} {Mz:Array (Option Value)} {QM:Nat}
  {uK uN uB uE uM uC uP uI uD uL uT p8 p9 qa uG uS:Tok}
  {uq ur iQ:Tok} {aF aA WM WN WO:Addr} {eF eA:Array DictEntry} {pF pA nTc nTd nTs:Nat} {rF rA:List (Key×V)} {WQ WR WS:Option Addr} {WT WU WV:Array (Option Value)}
  (aC:PySem.W.nsIn K mainGlobals "Atom" =some (some (.ref C)))
  (aGr:PySem.W.nsIn K mainGlobals "Group" =some (some (.ref Gr)))
  (aPc:PySem.W.nsIn K mainGlobals "Piece" =some (some (.ref Pc)))
  (aFo:PySem.W.nsIn K mainGlobals "Formula" =some (some (.ref Fo)))
  (aRd:PySem.W.nsIn K mainGlobals "ChangeReader" =some (some (.ref Rd)))
  (aCh:PySem.W.nsIn K mainGlobals "Change" =some (some (.ref Ch)))
  (aHE:PySem.W.nsIn K mainGlobals "HallError" =some (some (.ref HE)))
  (aNF:PySem.W.nsIn K mainGlobals "NoFormula" =some (some (.ref NF)))
  (aTL:PySem.W.nsIn K mainGlobals "TooLong" =some (some (.ref TL)))
  (aNC:PySem.W.nsIn K mainGlobals "NoChange" =some (some (.ref NC)))
  (aTM:PySem.W.nsIn K mainGlobals "TooMany" =some (some (.ref TM)))
  (aNN:PySem.W.nsIn K mainGlobals "NoName" =some (some (.ref NN)))
  (aNR:PySem.W.nsIn K mainGlobals "NoRow" =some (some (.ref NR)))
  (aDk:PySem.W.nsIn K mainGlobals "Desk" =some (some (.ref Dk)))
  (WW:PySem.W.nsIn K mainGlobals "Store" =some (some (.ref er)))
  (WX:PySem.W.nsIn K mainGlobals "is_great" =some (some (.ref PM)))
  (WY:dR K "is_great" "is_great" sT PM)
  (WZ:PySem.W.nsIn K mainGlobals "is_small" =some (some (.ref PN)))
  (W0:dR K "is_small" "is_small" sU PN)
  (W2:PySem.W.nsIn K mainGlobals "is_figure" =some (some (.ref PQ)))
  (W3:dR K "is_figure" "is_figure" nR PQ)
  (W4:PySem.W.nsIn K mainGlobals "count_shown" =some (some (.ref PR)))
  (W5:dR K "count_shown" "count_shown" gf PR)
  (W6:PySem.W.nsIn K mainGlobals "parts_shown" =some (some (.ref PU)))
  (W7:dR K "parts_shown" "parts_shown" jy PU)
  (QN:PySem.W.findIn K (.ref C) "__init__" =some (some (.ref Ak)))
  (QO:PySem.W.isFn K (.ref Ak)=true)
  (QP:K.lookup Ak=some ⟨Mm,Mj, .func (PySem.W.fnOf "__init__" "Atom.__init__" (bH gU) (bh gU) (ag gU) (.ref uc) yF yG yH yE ub yI),Ml⟩)
  (JP:K.lookup uc=some ⟨HX,HY, .seq #[.int 1 Fd] Mn,HZ⟩)
  (QQ:PySem.W.codeIn K ub "Atom.__init__" =true)
  (QR:PySem.W.keepIn K (.ref Ak)=true)
  (W8:PySem.W.findIn K (.ref C) "shown" =some (some (.ref PV)))
  (W9:dR K "shown" "Atom.shown" sN PV)
  (W':PySem.W.findIn K (.ref Gr) "__init__" =some (some (.ref HJ)))
  (Xa:PySem.W.isFn K (.ref HJ)=true)
  (Xb:K.lookup HJ=some ⟨QE,Qt, .func (PySem.W.fnOf "__init__" "Group.__init__" (bH eL) (bh eL) (ag eL) (.ref Ap) ET EU EV EM Al EW),Qy⟩)
  (QS:K.lookup Ap=some ⟨Mo,Mp, .seq #[.int 1 JM] QJ,Mq⟩)
  (Xc:PySem.W.codeIn K Al "Group.__init__" =true)
  (Xd:PySem.W.keepIn K (.ref HJ)=true)
  (Xe:PySem.W.findIn K (.ref Gr) "shown" =some (some (.ref PX)))
  (Xf:dR K "shown" "Group.shown" jw PX)
  (Xg:PySem.W.findIn K (.ref Pc) "__init__" =some (some (.ref HK)))
  (Xh:PySem.W.isFn K (.ref HK)=true)
  (Xi:K.lookup HK=some ⟨QF,Qu, .func (PySem.W.fnOf "__init__" "Piece.__init__" (bH eM) (bh eM) (ag eM) (.ref Aq) EX EY EZ EN Am E1),Qz⟩)
  (QT:K.lookup Aq=some ⟨Mr,Ms, .seq #[.int 1 JN] QK,Mt⟩)
  (Xj:PySem.W.codeIn K Am "Piece.__init__" =true)
  (Xk:PySem.W.keepIn K (.ref HK)=true)
  (Xl:PySem.W.findIn K (.ref Pc) "shown" =some (some (.ref PY)))
  (Xm:dR K "shown" "Piece.shown" gc PY)
  (Xn:PySem.W.nsIn K mainGlobals "refuse_too_long" =some (some (.ref PZ)))
  (Xo:dR K "refuse_too_long" "refuse_too_long" kX PZ)
  (Xp:PySem.W.nsIn K mainGlobals "charge_shown" =some (some (.ref P0)))
  (Xq:dR K "charge_shown" "charge_shown" fk P0)
  (Xr:PySem.W.findIn K (.ref Fo) "__init__" =some (some (.ref HL)))
  (Xs:PySem.W.isFn K (.ref HL)=true)
  (Xt:K.lookup HL=some ⟨QG,Qv, .func (PySem.W.fnOf "__init__" "Formula.__init__" (bH eN) (bh eN) (ag eN) (.ref As) E2 E3 E4 EO An E6),QA⟩)
  (QU:K.lookup As=some ⟨Mu,Mv, .seq #[.int 0 JO] QL,Mw⟩)
  (Xu:PySem.W.codeIn K An "Formula.__init__" =true)
  (Xv:PySem.W.keepIn K (.ref HL)=true)
  (Xw:PySem.W.findIn K (.ref Fo) "shown" =some (some (.ref P1)))
  (Xx:dR K "shown" "Formula.shown" kQ P1)
  (Xy:PySem.W.findIn K (.ref Rd) "__init__" =some (some (.ref P2)))
  (Xz:dR K "__init__" "Reader.__init__" sO P2)
  (XA:PySem.W.findIn K (.ref Rd) "sign" =some (some (.ref P4)))
  (XB:dR K "sign" "Reader.sign" zx P4)
  (XC:PySem.W.findIn K (.ref Rd) "take" =some (some (.ref P5)))
  (XD:dR K "take" "Reader.take" zy P5)
  (XE:PySem.W.findIn K (.ref Rd) "take_all" =some (some (.ref P6)))
  (XF:dR K "take_all" "Reader.take_all" kR P6)
  (XG:PySem.W.findIn K (.ref Rd) "read_whole" =some (some (.ref P7)))
  (XH:dR K "read_whole" "Reader.read_whole" nL P7)
  (XI:PySem.W.findIn K (.ref Rd) "read_electron" =some (some (.ref P8)))
  (XJ:dR K "read_electron" "Reader.read_electron" ij P8)
  (QV:PySem.W.findIn K (.ref Rd) "read_parts" =some (some (.ref Jw)))
  (QW:dR K "read_parts" "Reader.read_parts" kS Jw)
  (XM:PySem.W.findIn K (.ref Rd) "read_part" =some (some (.ref P9)))
  (XN:dR K "read_part" "Reader.read_part" oU P9)
  (XO:PySem.W.findIn K (.ref Rd) "read_group" =some (some (.ref P')))
  (XQ:dR K "read_group" "Reader.read_group" jx P')
  (QX:PySem.W.findIn K (.ref Rd) "read_atom" =some (some (.ref Jx)))
  (QY:dR K "read_atom" "Reader.read_atom" sP Jx)
  (XR:PySem.W.findIn K (.ref Rd) "read_count" =some (some (.ref Qa)))
  (XS:dR K "read_count" "Reader.read_count" nM Qa)
  (XT:PySem.W.findIn K (.ref Rd) "read_number" =some (some (.ref Qb)))
  (XU:dR K "read_number" "Reader.read_number" kT Qb)
  (QZ:PySem.W.findIn K (.ref Rd) "read_charge" =some (some (.ref Jy)))
  (Q0:dR K "read_charge" "Reader.read_charge" kU Jy)
  (XW:PySem.W.nsIn K mainGlobals "term_shown" =some (some (.ref Qc)))
  (XX:dR K "term_shown" "term_shown" ik Qc)
  (XY:PySem.W.nsIn K mainGlobals "side_shown" =some (some (.ref Qd)))
  (XZ:dR K "side_shown" "side_shown" fM Qd)
  (X0:PySem.W.findIn K (.ref Ch) "__init__" =some (some (.ref Qe)))
  (X2:dR K "__init__" "Change.__init__" sQ Qe)
  (X3:PySem.W.findIn K (.ref Ch) "shown" =some (some (.ref Qf)))
  (X4:dR K "shown" "Change.shown" nN Qf)
  (X5:PySem.W.findIn K (.ref Rd) "read_term" =some (some (.ref Qg)))
  (X6:dR K "read_term" "ChangeReader.read_term" sR Qg)
  (Q1:PySem.W.findIn K (.ref Rd) "read_lefts" =some (some (.ref Jz)))
  (Q2:dR K "read_lefts" "ChangeReader.read_lefts" nO Jz)
  (Q3:PySem.W.findIn K (.ref Rd) "read_rights" =some (some (.ref JA)))
  (Q4:dR K "read_rights" "ChangeReader.read_rights" kW JA)
  (Q5:PySem.W.findIn K (.ref Rd) "read_sides" =some (some (.ref JB)))
  (Q6:dR K "read_sides" "ChangeReader.read_sides" nP JB)
  (MA:PySem.W.nsIn K mainGlobals "read_change" =some (some (.ref EK)))
  (MB:dR K "read_change" "read_change" kY EK)
  (X7:PySem.W.findIn K (.ref NF) "__init__" =some (some (.ref HM)))
  (X8:dR K "__init__" "NoFormula.__init__" Gq HM)
  (X9:PySem.W.findIn K (.ref TL) "__init__" =some (some (.ref HN)))
  (X':dR K "__init__" "TooLong.__init__" sJ HN)
  (Ya:PySem.W.findIn K (.ref NC) "__init__" =some (some (.ref HP)))
  (Yb:dR K "__init__" "NoChange.__init__" Gs HP)
  (Yc:PySem.W.findIn K (.ref TM) "__init__" =some (some (.ref HQ)))
  (Yd:dR K "__init__" "TooMany.__init__" sM HQ)
  (Ye:PySem.W.findIn K (.ref NN) "__init__" =some (some (.ref HR)))
  (Yf:dR K "__init__" "NoName.__init__" Gu HR)
  (Ia:PySem.W.nsIn K mainGlobals "is_name" =some (some (.ref EL)))
  (Yg:dR K "is_name" "is_name" kZ EL)
  (Q7:PySem.W.nsIn K mainGlobals "is_any" =some (some (.ref Mh)))
  (Yh:dR K "is_any" "is_any" sV Mh)
  (Yi:PySem.W.nsIn K mainGlobals "words_of" =some (some (.ref Qh)))
  (Yj:dR K "words_of" "words_of" k7 Qh)
  (Yk:PySem.W.nsIn K mainGlobals "form_of" =some (some (.ref Qi)))
  (Yl:dR K "form_of" "form_of" nS Qi)
  (Ym:PySem.W.nsIn K mainGlobals "has_form" =some (some (.ref Qj)))
  (Yn:dR K "has_form" "has_form" jb Qj)
  (Yo:PySem.W.nsIn K mainGlobals "read_row" =some (some (.ref Qk)))
  (Yp:dR K "read_row" "read_row" k8 Qk)
  (Q8:PySem.W.nsIn K mainGlobals "answer_change" =some (some (.ref HS)))
  (Yq:dR K "answer_change" "answer_change" il HS)
  (Q9:PySem.W.nsIn K mainGlobals "answer_drop" =some (some (.ref HU)))
  (Yr:dR K "answer_drop" "answer_drop" lh HU)
  (Ra:PySem.W.nsIn K mainGlobals "answer_show" =some (some (.ref HV)))
  (Ys:dR K "answer_show" "answer_show" lj HV)
  (Yt:PySem.W.findIn K (.ref er) "__init__" =some (some (.ref HW)))
  (Yu:PySem.W.isFn K (.ref HW)=true)
  (Yv:K.lookup HW=some ⟨QH,Qw, .func (PySem.W.fnOf "__init__" "Store.__init__" (bH dt) (bh dt) (ag dt) (.ref Au) E7 E8 E9 ES Ao Fb),QB⟩)
  (Rb:K.lookup Au=some ⟨Mx,My, .seq #[.none] QM,Mz⟩)
  (Yw:PySem.W.codeIn K Ao "Store.__init__" =true)
  (Yx:PySem.W.keepIn K (.ref HW)=true)
  (Yy:PySem.W.findIn K (.ref Dk) "__init__" =some (some (.ref Ql)))
  (Yz:dR K "__init__" "Desk.__init__" nQ Ql)
  (YA:PySem.W.findIn K (.ref Dk) "named" =some (some (.ref Qm)))
  (YB:dR K "named" "Desk.named" sS Qm)
  (YC:PySem.W.findIn K (.ref Dk) "say" =some (some (.ref Qn)))
  (YD:dR K "say" "Desk.say" Gv Qn)
  (YE:PySem.W.nsIn K mainGlobals "_law_here" =some (some (.ref Qo)))
  (YF:dR K "_law_here" "_law_here" zz Qo)
  (YG:PySem.W.nsIn K mainGlobals "_law_shaken" =some (some (.ref Qq)))
  (YH:dR K "_law_shaken" "_law_shaken" nU Qq)
  (YI:PySem.W.nsIn K mainGlobals "_law_names" =some (some (.ref Qr)))
  (YJ:dR K "_law_names" "_law_names" oV Qr)
  (YK:PySem.W.nsIn K mainGlobals "_law_change" =some (some (.ref Qs)))
  (YL:dR K "_law_change" "_law_change" lu Qs)
  (Rc:PySem.W.nsIn K mainGlobals "_law_caught" =some (some (.ref JC)))
  (Rg:dR K "_law_caught" "_law_caught" nV JC)
  (Rh:PySem.W.nsIn K mainGlobals "_law_refused" =some (some (.ref JD)))
  (Ri:dR K "_law_refused" "_law_refused" jc JD)
  (Rj:PySem.W.nsIn K mainGlobals "_law_answered" =some (some (.ref JE)))
  (Rk:dR K "_law_answered" "_law_answered" jz JE)
  (Rl:PySem.W.nsIn K mainGlobals "_law_shown" =some (some (.ref JF)))
  (Rm:dR K "_law_shown" "_law_shown" nW JF)
  (Rn:PySem.W.nsIn K mainGlobals "_law_deed" =some (some (.ref JG)))
  (Ro:dR K "_law_deed" "_law_deed" zA JG)
  (YM:PySem.W.nsIn K mainGlobals "law" =some (some (.ref Mi)))
  (YN:K.lookup Mi=some ⟨QI,Qx, .func (PySem.W.fnOf "law" "law" (bH qj) (bh qj) (ag qj) .none JI JJ JK JH Fc JL),QD⟩)
  (YO:PySem.W.codeIn K Fc "law" =true)
  (YQ:PySem.W.keepIn K (.ref Mi)=true)
  (Rp:PySem.W.typeIn K (.ref HM)=some (.type "function"))
  (YR:PySem.W.findIn K (.ref NF) "__setattr__" =some (some (.builtin "object.__setattr__")))
  (YS:PySem.W.findIn K (.ref NF) "__getattribute__" =some (some (.builtin "BaseException.__getattribute__")))
  (YT:PySem.W.findIn K (.ref NF) "__getattr__" =some none)
  (YU:PySem.W.keepIn K (.ref NF)=true)
  (YV:∃(nm q:Str) (N:Addr) (bs:List Value) (sn:List Str) (sub:List Value) (ab:Bool) (col:Option Bool) (dd:Option Addr) (k0 k1 k2 k3 k5:Option Value),K.lookup NF=some (excClassObj nm q NF N bs (.ref HE::PySem.W.pZ) true sn sub ab col dd k0 k1 k2 k3 k5 "ValueError.__new__"))
  (Rq:PySem.W.typeIn K (.ref HN)=some (.type "function"))
  (YW:PySem.W.findIn K (.ref TL) "__setattr__" =some (some (.builtin "object.__setattr__")))
  (YX:PySem.W.findIn K (.ref TL) "__getattribute__" =some (some (.builtin "BaseException.__getattribute__")))
  (YY:PySem.W.findIn K (.ref TL) "__getattr__" =some none)
  (YZ:PySem.W.keepIn K (.ref TL)=true)
  (Y0:∃(nm q:Str) (N:Addr) (bs:List Value) (sn:List Str) (sub:List Value) (ab:Bool) (col:Option Bool) (dd:Option Addr) (k0 k1 k2 k3 k5:Option Value),K.lookup TL=some (excClassObj nm q TL N bs (.ref HE::PySem.W.pZ) true sn sub ab col dd k0 k1 k2 k3 k5 "ValueError.__new__"))
  (Rr:PySem.W.typeIn K (.ref HP)=some (.type "function"))
  (Y1:PySem.W.findIn K (.ref NC) "__setattr__" =some (some (.builtin "object.__setattr__")))
  (Y2:PySem.W.findIn K (.ref NC) "__getattribute__" =some (some (.builtin "BaseException.__getattribute__")))
  (Y3:PySem.W.findIn K (.ref NC) "__getattr__" =some none)
  (Y4:PySem.W.keepIn K (.ref NC)=true)
  (Y5:∃(nm q:Str) (N:Addr) (bs:List Value) (sn:List Str) (sub:List Value) (ab:Bool) (col:Option Bool) (dd:Option Addr) (k0 k1 k2 k3 k5:Option Value),K.lookup NC=some (excClassObj nm q NC N bs (.ref HE::PySem.W.pZ) true sn sub ab col dd k0 k1 k2 k3 k5 "ValueError.__new__"))
  (Rt:PySem.W.typeIn K (.ref HQ)=some (.type "function"))
  (Y6:PySem.W.findIn K (.ref TM) "__setattr__" =some (some (.builtin "object.__setattr__")))
  (Y7:PySem.W.findIn K (.ref TM) "__getattribute__" =some (some (.builtin "BaseException.__getattribute__")))
  (Y8:PySem.W.findIn K (.ref TM) "__getattr__" =some none)
  (Y9:PySem.W.keepIn K (.ref TM)=true)
  (Y':∃(nm q:Str) (N:Addr) (bs:List Value) (sn:List Str) (sub:List Value) (ab:Bool) (col:Option Bool) (dd:Option Addr) (k0 k1 k2 k3 k5:Option Value),K.lookup TM=some (excClassObj nm q TM N bs (.ref HE::PySem.W.pZ) true sn sub ab col dd k0 k1 k2 k3 k5 "ValueError.__new__"))
  (Ru:PySem.W.typeIn K (.ref HR)=some (.type "function"))
  (Za:PySem.W.findIn K (.ref NN) "__setattr__" =some (some (.builtin "object.__setattr__")))
  (Zb:PySem.W.findIn K (.ref NN) "__getattribute__" =some (some (.builtin "BaseException.__getattribute__")))
  (Zc:PySem.W.findIn K (.ref NN) "__getattr__" =some none)
  (Zd:PySem.W.keepIn K (.ref NN)=true)
  (Ze:∃(nm q:Str) (N:Addr) (bs:List Value) (sn:List Str) (sub:List Value) (ab:Bool) (col:Option Bool) (dd:Option Addr) (k0 k1 k2 k3 k5:Option Value),K.lookup NN=some (excClassObj nm q NN N bs (.ref HE::PySem.W.pZ) true sn sub ab col dd k0 k1 k2 k3 k5 "ValueError.__new__"))
  (pgC:PySem.W.plainGet K C Str.empty=true)
  (hdC:PySem.W.hasDictIn K C=true)
  (poC:PySem.W.plainOver K C=true)
  (saC:PySem.W.findIn K (.ref C) "__setattr__" =some (some (.builtin "object.__setattr__")))
  (mkC:PySem.W.makesIn K C=true)
  (kcC:PySem.W.keepIn K (.ref C)=true)
  (Zf:PySem.W.plainGet K Gr Str.empty=true)
  (Zg:PySem.W.hasDictIn K Gr=true)
  (Zh:PySem.W.plainOver K Gr=true)
  (Zi:PySem.W.findIn K (.ref Gr) "__setattr__" =some (some (.builtin "object.__setattr__")))
  (Zj:PySem.W.makesIn K Gr=true)
  (Zk:PySem.W.keepIn K (.ref Gr)=true)
  (Zl:PySem.W.plainGet K Pc Str.empty=true)
  (Zm:PySem.W.hasDictIn K Pc=true)
  (Zn:PySem.W.plainOver K Pc=true)
  (Zo:PySem.W.findIn K (.ref Pc) "__setattr__" =some (some (.builtin "object.__setattr__")))
  (Zp:PySem.W.makesIn K Pc=true)
  (Zq:PySem.W.keepIn K (.ref Pc)=true)
  (Zr:PySem.W.plainGet K Fo Str.empty=true)
  (Zs:PySem.W.hasDictIn K Fo=true)
  (Zt:PySem.W.plainOver K Fo=true)
  (Zu:PySem.W.findIn K (.ref Fo) "__setattr__" =some (some (.builtin "object.__setattr__")))
  (Zv:PySem.W.makesIn K Fo=true)
  (Zw:PySem.W.keepIn K (.ref Fo)=true)
  (Zx:PySem.W.plainGet K Rd Str.empty=true)
  (Zy:PySem.W.hasDictIn K Rd=true)
  (Zz:PySem.W.plainOver K Rd=true)
  (ZA:PySem.W.findIn K (.ref Rd) "__setattr__" =some (some (.builtin "object.__setattr__")))
  (ZC:PySem.W.makesIn K Rd=true)
  (ZD:PySem.W.keepIn K (.ref Rd)=true)
  (Rv:PySem.W.plainGet K Ch Str.empty=true)
  (Rw:PySem.W.hasDictIn K Ch=true)
  (Rx:PySem.W.plainOver K Ch=true)
  (Ry:PySem.W.findIn K (.ref Ch) "__setattr__" =some (some (.builtin "object.__setattr__")))
  (ZE:PySem.W.makesIn K Ch=true)
  (ZF:PySem.W.keepIn K (.ref Ch)=true)
  (ZG:PySem.W.plainGet K Dk Str.empty=true)
  (ZH:PySem.W.hasDictIn K Dk=true)
  (ZI:PySem.W.plainOver K Dk=true)
  (ZJ:PySem.W.findIn K (.ref Dk) "__setattr__" =some (some (.builtin "object.__setattr__")))
  (ZK:PySem.W.makesIn K Dk=true)
  (ZL:PySem.W.keepIn K (.ref Dk)=true)
  (RA:PySem.W.plainGet K er Str.empty=true)
  (RB:PySem.W.hasDictIn K er=true)
  (RC:PySem.W.plainOver K er=true)
  (RD:PySem.W.findIn K (.ref er) "__setattr__" =some (some (.builtin "object.__setattr__")))
  (RE:PySem.W.makesIn K er=true)
  (RF:PySem.W.keepIn K (.ref er)=true)
  (RG:PySem.W.findIn K (.ref C) "kind" =some none)
  (MC:PySem.W.findIn K (.ref C) "count" =some none)
  (ngp:PySem.W.findIn K (.ref Gr) "parts" =some none)
  (ngc:PySem.W.findIn K (.ref Gr) "count" =some none)
  (npp:PySem.W.findIn K (.ref Pc) "parts" =some none)
  (Vv:PySem.W.findIn K (.ref Pc) "count" =some none)
  (nfp:PySem.W.findIn K (.ref Fo) "pieces" =some none)
  (nfc:PySem.W.findIn K (.ref Fo) "charge" =some none)
  (nrt:PySem.W.findIn K (.ref Rd) "text" =some none)
  (nrp:PySem.W.findIn K (.ref Rd) "place" =some none)
  (nlf:PySem.W.findIn K (.ref Ch) "lefts" =some none)
  (nrf:PySem.W.findIn K (.ref Ch) "rights" =some none)
  (fN1:PySem.W.findIn K (.ref NF) "place" =some none)
  (fT1:PySem.W.findIn K (.ref TL) "many" =some none)
  (fM1:PySem.W.findIn K (.ref TM) "many" =some none)
  (fN7:PySem.W.findIn K (.ref NN) "name" =some none)
  (O4:PySem.W.findIn K (.ref Dk) "changes" =some none)
  (Nk:PySem.W.findIn K (.ref Dk) "store" =some none)
  (nsa:PySem.W.findIn K (.ref er) "amounts" =some none)
  (nsg:PySem.W.findIn K (.ref er) "gone" =some none)
  (JQ:PySem.W.nsIn K mainGlobals "len" =some none)
  (JR:PySem.W.nsIn K mainGlobals "str" =some none)
  (RH:PySem.W.nsIn K mainGlobals "int" =some none)
  (Fe:PySem.W.nsIn K mainGlobals "bool" =some none)
  (Av:PySem.W.nsIn K mainGlobals "range" =some none)
  (lS:PySem.W.nsIn K mainGlobals "isinstance" =some none)
  (MD:PySem.W.nsIn K mainGlobals "list" =some none)
  (RK:PySem.W.nsIn K mainGlobals "abs" =some none)
  (ME:PySem.W.nsIn K mainGlobals "dict" =some none)
  (ud:PySem.W.nsIn K mainGlobals "ValueError" =some none)
  (RL:PySem.W.nsIn K mainGlobals "max" =some none)
  (RM:PySem.W.nsIn K mainGlobals "all" =some none)
  (RN:PySem.W.nsIn K mainGlobals "zip" =some none)
  (RO:PySem.W.nsIn K mainGlobals "sum" =some none)
  (qt:PySem.W.nsIn K mainGlobals "LONGEST_KIND" =some (some (.int 3 uK)))
  (pX:PySem.W.nsIn K mainGlobals "LONGEST_COUNT" =some (some (.int 3 uN)))
  (ue:PySem.W.nsIn K mainGlobals "GROUP_BEGIN" =some (some (.str "(" uB)))
  (yJ:PySem.W.nsIn K mainGlobals "GROUP_END" =some (some (.str ")" uE)))
  (jT:PySem.W.nsIn K mainGlobals "MOST_GROUPS_AROUND" =some (some (.int 3 uM)))
  (uf:PySem.W.nsIn K mainGlobals "CHARGE_MARK" =some (some (.str "^" uC)))
  (RP:PySem.W.nsIn K mainGlobals "PLUS" =some (some (.str "+" uP)))
  (MF:PySem.W.nsIn K mainGlobals "MINUS" =some (some (.str "-" uI)))
  (yK:PySem.W.nsIn K mainGlobals "PIECE_DOT" =some (some (.str "." uD)))
  (BY:PySem.W.nsIn K mainGlobals "ELECTRON" =some (some (.str "e^-" uL)))
  (qu:PySem.W.nsIn K mainGlobals "LONGEST_TEXT" =some (some (.int 400 uT)))
  (MG:PySem.W.nsIn K mainGlobals "BLANK" =some (some (.str " " p8)))
  (MH:PySem.W.nsIn K mainGlobals "JOINT" =some (some (.str " + " p9)))
  (MI:PySem.W.nsIn K mainGlobals "ARROW" =some (some (.str " -> " qa)))
  (jU:PySem.W.nsIn K mainGlobals "LONGEST_TERM_COUNT" =some (some (.int 12 uG)))
  (wU:PySem.W.nsIn K mainGlobals "MOST_TERMS" =some (some (.int 8 uS)))
  (qv:PySem.W.nsIn K mainGlobals "LONGEST_NAME" =some (some (.int 8 uq)))
  (Ff:PySem.W.nsIn K mainGlobals "PARTING" =some (some (.str " " ur)))
  (RQ:PySem.W.nsIn K mainGlobals "DONE" =some (some (.str "ok" iQ)))
  (MJ:PySem.W.nsIn K mainGlobals "FORMS" =some (some (.ref aF)))
  (lF:K.lookup aF=some ⟨.type "dict",none, .dict eF pF,#[]⟩)
  (oF:mM w eF.toList ((Sum.inr "change", .ref WM)::(Sum.inr "drop", .ref WN)::(Sum.inr "show", .ref WO)::rF:List (Key×V)))
  (nF:(((Sum.inr "change",V.ref WM)::(Sum.inr "drop",V.ref WN)::(Sum.inr "show",V.ref WO)::rF:List (Key×V)).map (·.1)).Nodup)
  (sF:(aF==sysModules)=false)
  (lTc:K.lookup WM=some ⟨.type "tuple",WQ, .seq #[.ref EL, .ref Mh] nTc,WT⟩)
  (lTd:K.lookup WN=some ⟨.type "tuple",WR, .seq #[.ref EL] nTd,WU⟩)
  (lTs:K.lookup WO=some ⟨.type "tuple",WS, .seq #[.ref EL] nTs,WV⟩)
  (Fg:PySem.W.nsIn K mainGlobals "ANSWERS" =some (some (.ref aA)))
  (lA:K.lookup aA=some ⟨.type "dict",none, .dict eA pA,#[]⟩)
  (oA:mM w eA.toList ((Sum.inr "change", .ref HS)::(Sum.inr "drop", .ref HU)::(Sum.inr "show", .ref HV)::rA:List (Key×V)))
  (nA:(((Sum.inr "change",V.ref HS)::(Sum.inr "drop",V.ref HU)::(Sum.inr "show",V.ref HV)::rA:List (Key×V)).map (·.1)).Nodup)
  (sA:(aA==sysModules)=false)
  (hE1:PySem.W.specialIn K (.ref HE) "__getattribute__" =some (some (.builtin "type.__getattribute__")))
  (Vq:PySem.W.readsIn K HE (.type "type")=true)
  (hE3:PySem.W.findCls K (.ref HE) (.type "type") "__init__" =some (.val (.builtin "ValueError.__init__")))
  (tN1:PySem.W.takerIn K NF "place" =some none)
  (tT1:PySem.W.takerIn K TL "many" =some none)
  (tC1:PySem.W.takerIn K NC "place" =some none)
  (tM1:PySem.W.takerIn K TM "many" =some none)
  (tN7:PySem.W.takerIn K NN "name" =some none)
  (uN2:PySem.W.mroIn K NF (.ref NF)=some true)
  (uNC:PySem.W.mroIn K NF (.ref NC)=some false)
  (hE4:∃(nm q:Str) (N:Addr) (bs bm:List Value) (hd:Bool) (sn:List Str) (sub:List Value) (ab:Bool) (col:Option Bool) (dd:Option Addr) (k0 k1 k2 k3 k5:Option Value) (Tv:String),K.lookup HE=some (excClassObj nm q HE N bs bm hd sn sub ab col dd k0 k1 k2 k3 k5 Tv)∧bm.contains (.type "BaseException")=true)
  (t2:PySem.W.specialIn K (.builtin "object.__class__") "__get__" =some (some (.builtin "getset_descriptor.__get__")))
  (t3:PySem.W.takesIn K (.builtin "object.__class__")=some true)
  (wR:PySem.W.isClsIn K NR=true)
  (yR:PySem.W.typeIn K (.ref NR)=some (.type "type"))
  (wC:PySem.W.isClsIn K NC=true)
  (yC:PySem.W.typeIn K (.ref NC)=some (.type "type"))
  (wT:PySem.W.isClsIn K TL=true)
  (yT:PySem.W.typeIn K (.ref TL)=some (.type "type"))
  (wM:PySem.W.isClsIn K TM=true)
  (yM:PySem.W.typeIn K (.ref TM)=some (.type "type"))
  (wA:PySem.W.isClsIn K NN=true)
  (yA:PySem.W.typeIn K (.ref NN)=some (.type "type"))
  (RS:PySem.W.mroIn K NC (.ref NC)=some true)
  (uC1:PySem.W.mroIn K NC (.ref HE)=some true)
  (t1C:PySem.W.findIn K (.ref NC) "__class__" =some (some (.builtin "object.__class__")))
  (mCR:PySem.W.mroIn K NC (.ref NR)=some false)
  (mCT:PySem.W.mroIn K NC (.ref TL)=some false)
  (mCM:PySem.W.mroIn K NC (.ref TM)=some false)
  (mCA:PySem.W.mroIn K NC (.ref NN)=some false)
  (Ud:PySem.W.mroIn K TL (.ref TL)=some true)
  (uT1:PySem.W.mroIn K TL (.ref HE)=some true)
  (t1T:PySem.W.findIn K (.ref TL) "__class__" =some (some (.builtin "object.__class__")))
  (mTR:PySem.W.mroIn K TL (.ref NR)=some false)
  (mTC:PySem.W.mroIn K TL (.ref NC)=some false)
  (mTM:PySem.W.mroIn K TL (.ref TM)=some false)
  (mTA:PySem.W.mroIn K TL (.ref NN)=some false)
  (Ue:PySem.W.mroIn K TM (.ref TM)=some true)
  (uM1:PySem.W.mroIn K TM (.ref HE)=some true)
  (t1M:PySem.W.findIn K (.ref TM) "__class__" =some (some (.builtin "object.__class__")))
  (mMR:PySem.W.mroIn K TM (.ref NR)=some false)
  (mMC:PySem.W.mroIn K TM (.ref NC)=some false)
  (mMT:PySem.W.mroIn K TM (.ref TL)=some false)
  (mMA:PySem.W.mroIn K TM (.ref NN)=some false)
  (Ug:PySem.W.mroIn K NN (.ref NN)=some true)
  (uA1:PySem.W.mroIn K NN (.ref HE)=some true)
  (t1A:PySem.W.findIn K (.ref NN) "__class__" =some (some (.builtin "object.__class__")))
  (mAR:PySem.W.mroIn K NN (.ref NR)=some false)
  (mAC:PySem.W.mroIn K NN (.ref NC)=some false)
  (mAT:PySem.W.mroIn K NN (.ref TL)=some false)
  (mAM:PySem.W.mroIn K NN (.ref TM)=some false)
  :∃fd:FuncData,(∀(s:Shared) (v:Value),BindsTo s fd ⟨[v],[]⟩ [("_law_script",v)])∧∀base:Heap,K.In base→base.Ns mainGlobals mg→dj l.prog w K mg base js 29 fa fd ["_law_script"] (Aj K):=by
 have e:=hfa.symm.trans (PySem.W.mg_of X G YM)
 cases e
 have T:Bw K mg C Rd Gr Pc Fo Ch uK uN uB uE uM uC uP uI uD uL uT p8 p9 qa uG uS:=⟨⟨⟨⟨⟨⟨⟨pgC,hdC,poC,saC⟩,RG,MC,PySem.W.mg_of X G aC,PySem.W.mg_none_of X G JQ,PySem.W.mg_none_of X G JR,PySem.W.mg_none_of X G RH,PySem.W.mg_none_of X G Fe,PySem.W.mg_none_of X G Av,PySem.W.mg_none_of X G lS,i6,ig,i6,i6,i6⟩,⟨Zx,Zy,Zz,ZA⟩,nrt,nrp,PySem.W.mg_of X G qt,PySem.W.mg_of X G pX⟩,⟨Zf,Zg,Zh,Zi⟩,ngp,ngc,PySem.W.mg_of X G aGr,PySem.W.mg_of X G ue,PySem.W.mg_of X G yJ,PySem.W.mg_of X G jT⟩,PySem.W.mg_of X G uf,PySem.W.mg_of X G RP,PySem.W.mg_of X G MF,⟨Zl,Zm,Zn,Zo⟩,⟨Zr,Zs,Zt,Zu⟩,npp,Vv,nfp,nfc,PySem.W.mg_of X G aPc,PySem.W.mg_of X G aFo,PySem.W.mg_of X G aRd,PySem.W.mg_of X G yK,PySem.W.mg_of X G BY,PySem.W.mg_of X G qu,PySem.W.mg_none_of X G MD,PySem.W.mg_none_of X G RK⟩,PySem.W.mg_none_of X G ME,⟨Rv,Rw,Rx,Ry⟩,nlf,nrf,PySem.W.mg_of X G aCh,PySem.W.mg_of X G MG,PySem.W.mg_of X G MH,PySem.W.mg_of X G MI⟩,PySem.W.mg_of X G jU,PySem.W.mg_of X G wU⟩
 have RT:Def K mg "is_great" "is_great" sT ["sign"]:=cA X G WX WY (jP fun _ _ _ _ _ _ _=>rfl)
 have RU:Def K mg "is_small" "is_small" sU ["sign"]:=cA X G WZ W0 (jP fun _ _ _ _ _ _ _=>rfl)
 have RW:Def K mg "is_figure" "is_figure" nR ["sign"]:=cA X G W2 W3 (jP fun _ _ _ _ _ _ _=>rfl)
 have RX:Def K mg "count_shown" "count_shown" gf ["count"]:=cA X G W4 W5 (jP fun _ _ _ _ _ _ _=>rfl)
 have RY:Def K mg "parts_shown" "parts_shown" jy ["parts"]:=cA X G W6 W7 (jP fun _ _ _ _ _ _ _=>rfl)
 have MK:i5 K C "Atom.__init__" gU ["self","kind","count"] [1]:=⟨_,_,_,kI (st:=gU) QP QQ QR,⟨mkC,QN,QO,kcC⟩,Tw (⟨[.int 1 Fd], .cons ⟨_,rfl⟩ (.nil),OC rfl fun _ _ _ hk=>PySem.W.binds_K (K:=K) (fd:=PySem.W.fnOf "__init__" "Atom.__init__" (bH gU) (bh gU) (ag gU) (.ref uc) yF yG yH yE ub yI) hk rfl JP rfl rfl rfl⟩) (⟨[], .nil,Tx rfl fun _ _ _ _ hk=>PySem.W.binds_K (K:=K) (fd:=PySem.W.fnOf "__init__" "Atom.__init__" (bH gU) (bh gU) (ag gU) (.ref uc) yF yG yH yE ub yI) hk rfl JP rfl rfl rfl⟩)⟩
 have RZ:bP K C "shown" "Atom.shown" sN ["self"]:=de W8 W9 (jP fun _ _ _ _ _ _ _=>rfl)
 have R0:i5 K Gr "Group.__init__" eL ["self","parts","count"] [1]:=⟨_,_,_,kI (st:=eL) Xb Xc Xd,⟨Zj,W',Xa,Zk⟩,Tw (⟨[.int 1 JM], .cons ⟨_,rfl⟩ (.nil),OC rfl fun _ _ _ hk=>PySem.W.binds_K (K:=K) (fd:=PySem.W.fnOf "__init__" "Group.__init__" (bH eL) (bh eL) (ag eL) (.ref Ap) ET EU EV EM Al EW) hk rfl QS rfl rfl rfl⟩) (⟨[], .nil,Tx rfl fun _ _ _ _ hk=>PySem.W.binds_K (K:=K) (fd:=PySem.W.fnOf "__init__" "Group.__init__" (bH eL) (bh eL) (ag eL) (.ref Ap) ET EU EV EM Al EW) hk rfl QS rfl rfl rfl⟩)⟩
 have R1:bP K Gr "shown" "Group.shown" jw ["self"]:=de Xe Xf (jP fun _ _ _ _ _ _ _=>rfl)
 have R3:i5 K Pc "Piece.__init__" eM ["self","parts","count"] [1]:=⟨_,_,_,kI (st:=eM) Xi Xj Xk,⟨Zp,Xg,Xh,Zq⟩,Tw (⟨[.int 1 JN], .cons ⟨_,rfl⟩ (.nil),OC rfl fun _ _ _ hk=>PySem.W.binds_K (K:=K) (fd:=PySem.W.fnOf "__init__" "Piece.__init__" (bH eM) (bh eM) (ag eM) (.ref Aq) EX EY EZ EN Am E1) hk rfl QT rfl rfl rfl⟩) (⟨[], .nil,Tx rfl fun _ _ _ _ hk=>PySem.W.binds_K (K:=K) (fd:=PySem.W.fnOf "__init__" "Piece.__init__" (bH eM) (bh eM) (ag eM) (.ref Aq) EX EY EZ EN Am E1) hk rfl QT rfl rfl rfl⟩)⟩
 have R4:bP K Pc "shown" "Piece.shown" gc ["self"]:=de Xl Xm (jP fun _ _ _ _ _ _ _=>rfl)
 have R5:Def K mg "refuse_too_long" "refuse_too_long" kX ["text"]:=cA X G Xn Xo (jP fun _ _ _ _ _ _ _=>rfl)
 have R6:Def K mg "charge_shown" "charge_shown" fk ["charge"]:=cA X G Xp Xq (jP fun _ _ _ _ _ _ _=>rfl)
 have R7:i5 K Fo "Formula.__init__" eN ["self","pieces","charge"] [0]:=⟨_,_,_,kI (st:=eN) Xt Xu Xv,⟨Zv,Xr,Xs,Zw⟩,Tw (⟨[.int 0 JO], .cons ⟨_,rfl⟩ (.nil),OC rfl fun _ _ _ hk=>PySem.W.binds_K (K:=K) (fd:=PySem.W.fnOf "__init__" "Formula.__init__" (bH eN) (bh eN) (ag eN) (.ref As) E2 E3 E4 EO An E6) hk rfl QU rfl rfl rfl⟩) (⟨[], .nil,Tx rfl fun _ _ _ _ hk=>PySem.W.binds_K (K:=K) (fd:=PySem.W.fnOf "__init__" "Formula.__init__" (bH eN) (bh eN) (ag eN) (.ref As) E2 E3 E4 EO An E6) hk rfl QU rfl rfl rfl⟩)⟩
 have R8:bP K Fo "shown" "Formula.shown" kQ ["self"]:=de Xw Xx (jP fun _ _ _ _ _ _ _=>rfl)
 have R9:i5 K Rd "Reader.__init__" sO ["self","text"] []:=CZ ZC Xy ZD Xz (p6 fun _ _ _ _ _ _ _ _=>rfl)
 have R':bP K Rd "sign" "Reader.sign" zx ["self"]:=de XA XB (jP fun _ _ _ _ _ _ _=>rfl)
 have Sa:bP K Rd "take" "Reader.take" zy ["self","sign"]:=de XC XD (p6 fun _ _ _ _ _ _ _ _=>rfl)
 have Sb:bP K Rd "take_all" "Reader.take_all" kR ["self","signs"]:=de XE XF (p6 fun _ _ _ _ _ _ _ _=>rfl)
 have Sd:bP K Rd "read_whole" "Reader.read_whole" nL ["self"]:=de XG XH (jP fun _ _ _ _ _ _ _=>rfl)
 have Se:bP K Rd "read_electron" "Reader.read_electron" ij ["self"]:=de XI XJ (jP fun _ _ _ _ _ _ _=>rfl)
 have ML:bP K Rd "read_parts" "Reader.read_parts" kS ["self","around"]:=de QV QW (p6 fun _ _ _ _ _ _ _ _=>rfl)
 have Sf:bP K Rd "read_part" "Reader.read_part" oU ["self","around"]:=de XM XN (p6 fun _ _ _ _ _ _ _ _=>rfl)
 have Sg:bP K Rd "read_group" "Reader.read_group" jx ["self","around"]:=de XO XQ (p6 fun _ _ _ _ _ _ _ _=>rfl)
 have MM:bP K Rd "read_atom" "Reader.read_atom" sP ["self"]:=de QX QY (jP fun _ _ _ _ _ _ _=>rfl)
 have Sh:bP K Rd "read_count" "Reader.read_count" nM ["self"]:=de XR XS (jP fun _ _ _ _ _ _ _=>rfl)
 have Si:bP K Rd "read_number" "Reader.read_number" kT ["self","longest"]:=de XT XU (p6 fun _ _ _ _ _ _ _ _=>rfl)
 have MN:bP K Rd "read_charge" "Reader.read_charge" kU ["self"]:=de QZ Q0 (jP fun _ _ _ _ _ _ _=>rfl)
 have Sj:Def K mg "term_shown" "term_shown" ik ["count","formula"]:=cA X G XW XX (p6 fun _ _ _ _ _ _ _ _=>rfl)
 have Sk:Def K mg "side_shown" "side_shown" fM ["terms"]:=cA X G XY XZ (jP fun _ _ _ _ _ _ _=>rfl)
 have Sl:i5 K Ch "Change.__init__" sQ ["self","lefts","rights"] []:=CZ ZE X0 ZF X2 (ba3 fun _ _ _ _ _ _ _ _ _=>rfl)
 have Sm:bP K Ch "shown" "Change.shown" nN ["self"]:=de X3 X4 (jP fun _ _ _ _ _ _ _=>rfl)
 have Sn:bP K Rd "read_term" "ChangeReader.read_term" sR ["self"]:=de X5 X6 (jP fun _ _ _ _ _ _ _=>rfl)
 have MO:bP K Rd "read_lefts" "ChangeReader.read_lefts" nO ["self"]:=de Q1 Q2 (jP fun _ _ _ _ _ _ _=>rfl)
 have MP:bP K Rd "read_rights" "ChangeReader.read_rights" kW ["self"]:=de Q3 Q4 (jP fun _ _ _ _ _ _ _=>rfl)
 have MQ:bP K Rd "read_sides" "ChangeReader.read_sides" nP ["self"]:=de Q5 Q6 (jP fun _ _ _ _ _ _ _=>rfl)
 have Ic:Def K mg "read_change" "read_change" kY ["text"]:=cA X G MA MB (jP fun _ _ _ _ _ _ _=>rfl)
 have JS:PySem.W.cH K NF HE HM:=⟨YV,X7,Rp,YR,YS,YT⟩
 have So:kd K mg "NoFormula" NF HE "NoFormula.__init__" Gq ["self","place"]:=vk JS (PySem.W.mg_of X G aNF) YU X8 (p6 fun _ _ _ _ _ _ _ _=>rfl)
 have Fh:PySem.W.cH K TL HE HN:=⟨Y0,X9,Rq,YW,YX,YY⟩
 have Sr:kd K mg "TooLong" TL HE "TooLong.__init__" sJ ["self","many"]:=vk Fh (PySem.W.mg_of X G aTL) YZ X' (p6 fun _ _ _ _ _ _ _ _=>rfl)
 have Fi:PySem.W.cH K NC HE HP:=⟨Y5,Ya,Rr,Y1,Y2,Y3⟩
 have Ss:kd K mg "NoChange" NC HE "NoChange.__init__" Gs ["self","place"]:=vk Fi (PySem.W.mg_of X G aNC) Y4 Yb (p6 fun _ _ _ _ _ _ _ _=>rfl)
 have Fj:PySem.W.cH K TM HE HQ:=⟨Y',Yc,Rt,Y6,Y7,Y8⟩
 have Su:kd K mg "TooMany" TM HE "TooMany.__init__" sM ["self","many"]:=vk Fj (PySem.W.mg_of X G aTM) Y9 Yd (p6 fun _ _ _ _ _ _ _ _=>rfl)
 have Fl:PySem.W.cH K NN HE HR:=⟨Ze,Ye,Ru,Za,Zb,Zc⟩
 have Sv:kd K mg "NoName" NN HE "NoName.__init__" Gu ["self","name"]:=vk Fl (PySem.W.mg_of X G aNN) Zd Yf (p6 fun _ _ _ _ _ _ _ _=>rfl)
 have Sw:Def K mg "is_name" "is_name" kZ ["word"]:=cA X G Ia Yg (jP fun _ _ _ _ _ _ _=>rfl)
 have Sx:Def K mg "is_any" "is_any" sV ["word"]:=cA X G Q7 Yh (jP fun _ _ _ _ _ _ _=>rfl)
 have Sy:Def K mg "words_of" "words_of" k7 ["row"]:=cA X G Yi Yj (jP fun _ _ _ _ _ _ _=>rfl)
 have Sz:Def K mg "form_of" "form_of" nS ["words"]:=cA X G Yk Yl (jP fun _ _ _ _ _ _ _=>rfl)
 have SA:Def K mg "has_form" "has_form" jb ["words"]:=cA X G Ym Yn (jP fun _ _ _ _ _ _ _=>rfl)
 have SD:Def K mg "read_row" "read_row" k8 ["row"]:=cA X G Yo Yp (jP fun _ _ _ _ _ _ _=>rfl)
 have SE:Def K mg "answer_change" "answer_change" il ["desk","words"]:=cA X G Q8 Yq (p6 fun _ _ _ _ _ _ _ _=>rfl)
 have SF:Def K mg "answer_drop" "answer_drop" lh ["desk","words"]:=cA X G Q9 Yr (p6 fun _ _ _ _ _ _ _ _=>rfl)
 have SH:Def K mg "answer_show" "answer_show" lj ["desk","words"]:=cA X G Ra Ys (p6 fun _ _ _ _ _ _ _ _=>rfl)
 have SI:Gf K er "Store.__init__" dt ["self","amounts"]:=⟨_,_,_,kI (st:=dt) Yv Yw Yx,⟨RE,Yt,Yu,RF⟩,OC rfl fun _ _ _ hk=>PySem.W.binds_K (K:=K) (fd:=PySem.W.fnOf "__init__" "Store.__init__" (bH dt) (bh dt) (ag dt) (.ref Au) E7 E8 E9 ES Ao Fb) hk rfl Rb rfl rfl rfl,bn1 rfl fun _ _ hk=>PySem.W.binds_K (K:=K) (fd:=PySem.W.fnOf "__init__" "Store.__init__" (bH dt) (bh dt) (ag dt) (.ref Au) E7 E8 E9 ES Ao Fb) hk rfl Rb rfl rfl rfl⟩
 have SJ:i5 K Dk "Desk.__init__" nQ ["self"] []:=CZ ZK Yy ZL Yz (jP fun _ _ _ _ _ _ _=>rfl)
 have SK:bP K Dk "named" "Desk.named" sS ["self","name"]:=de YA YB (p6 fun _ _ _ _ _ _ _ _=>rfl)
 have SM:bP K Dk "say" "Desk.say" Gv ["self","row"]:=de YC YD (p6 fun _ _ _ _ _ _ _ _=>rfl)
 have SQ:Def K mg "_law_here" "_law_here" zz ["_law_script","_law_place"]:=cA X G YE YF (p6 fun _ _ _ _ _ _ _ _=>rfl)
 have SR:Def K mg "_law_shaken" "_law_shaken" nU ["_law_cell","_law_many"]:=cA X G YG YH (p6 fun _ _ _ _ _ _ _ _=>rfl)
 have SS:Def K mg "_law_names" "_law_names" oV ["_law_cell"]:=cA X G YI YJ (jP fun _ _ _ _ _ _ _=>rfl)
 have SU:Def K mg "_law_change" "_law_change" lu ["_law_number"]:=cA X G YK YL (jP fun _ _ _ _ _ _ _=>rfl)
 have MR:Def K mg "_law_caught" "_law_caught" nV ["_law_desk","_law_row"]:=cA X G Rc Rg (p6 fun _ _ _ _ _ _ _ _=>rfl)
 have MS:Def K mg "_law_refused" "_law_refused" jc ["_law_caught_here","_law_sort","_law_asked"]:=cA X G Rh Ri (ba3 fun _ _ _ _ _ _ _ _ _=>rfl)
 have MT:Def K mg "_law_answered" "_law_answered" jz ["_law_caught_here","_law_due"]:=cA X G Rj Rk (p6 fun _ _ _ _ _ _ _ _=>rfl)
 have MU:Def K mg "_law_shown" "_law_shown" nW ["_law_desk","_law_standing","_law_names_here","_law_turn"]:=cA X G Rl Rm (ba4 fun _ _ _ _ _ _ _ _ _ _=>rfl)
 have MV:Def K mg "_law_deed" "_law_deed" zA ["_law_desk","_law_standing","_law_name","_law_cell","_law_lines"]:=cA X G Rn Ro (ba5 fun _ _ _ _ _ _ _ _ _ _ _=>rfl)
 have ZM:=KO (st:=qj) YN YO YQ
 refine⟨PySem.W.fnOf "law" "law" (bH qj) (bh qj) (ag qj) .none JI JJ JK JH Fc JL,fun s v=> .of_eq rfl,fun base _ _=>?_⟩
 letI:fJ:=⟨fun C=>C=NC⟩
 have mL:¬NF=NC:=fun e=>by rw[e,RS] at uNC;cases uNC
 have TE:vC K mg HE NF TL:=⟨PySem.W.mg_of X G aHE,⟨hE1,Vq,hE3⟩,PySem.W.mg_of X G aNF,PySem.W.mg_of X G aTL,tN1,tT1⟩
 have Uh:vM K mg HE NF TL NC TM:=⟨TE,PySem.W.mg_of X G aNC,PySem.W.mg_of X G aTM,tC1,tM1,JS.par,fN1,uN2,rfl,mL⟩
 have Ie:j4 K mg HE NF TL NC TM NN Dk er Ch iQ:=⟨Uh,PySem.W.mg_of X G aNN,tN7,⟨ZG,ZH,ZI,ZJ⟩,O4,Nk,⟨RA,RB,RC,RD⟩,nsa,nsg,PySem.W.mg_of X G WW,⟨Rv,Rw,Rx,Ry⟩,PySem.W.mg_of X G RQ⟩
 have Nr:mY K mg HE NF TL NC TM NN NR Dk er Ch iQ:=⟨Ie,PySem.W.mg_none_of X G lS,PySem.W.mg_none_of X G ud,PySem.W.mg_none_of X G Av,PySem.W.mg_none_of X G JR,PySem.W.mg_none_of X G Fe,PySem.W.mg_none_of X G JQ,⟨hE4⟩,PySem.W.mg_of X G aNR,(fun h=>by rcases h with rfl|rfl|rfl|rfl;exact nK Fi;exact nK Fh;exact nK Fj;exact nK Fl),(fun h=>by rcases h with rfl|rfl|rfl|rfl;exact cD wR yR mCR RS;exact cD wR yR mTR Ud;exact cD wR yR mMR Ue;exact cD wR yR mAR Ug),⟨kO _,cD wT yT mCT RS,cD wM yM mCM RS,cD wA yA mCA RS⟩,⟨cD wC yC mTC Ud,kO _,cD wM yM mTM Ud,cD wA yA mTA Ud⟩,⟨cD wC yC mMC Ue,cD wT yT mMT Ue,kO _,cD wA yA mMA Ue⟩,⟨cD wC yC mAC Ug,cD wT yT mAT Ug,cD wM yM mAM Ug,kO _⟩,(fun h=>by rcases h with rfl|rfl|rfl|rfl;exact⟨t1C,t2,t3⟩;exact⟨t1T,t2,t3⟩;exact⟨t1M,t2,t3⟩;exact⟨t1A,t2,t3⟩),(fun h=>by rcases h with rfl|rfl|rfl|rfl;exact uC1;exact uT1;exact uM1;exact uA1),(fun h=>by rcases h with rfl|rfl|rfl|rfl;exact⟨_,Fi⟩;exact⟨_,Fh⟩;exact⟨_,Fj⟩;exact⟨_,Fl⟩),fT1,fM1,fN7⟩
 have TL7:Jl K mg HE NF TL NC TM NN NR Dk er Ch iQ:=⟨Nr,PySem.W.mg_of X G aDk⟩
 have TSy:Jf l.prog w K mg HE NF TL NC TM NN Dk er Ch aA _ iQ:=⟨Ie,PySem.W.mg_of X G Fg,vp lA sA oA nA,⟨_,Jt,PySem.W.mg_of X G Q8⟩,⟨_,Ju,PySem.W.mg_of X G Q9⟩,⟨_,Jv,PySem.W.mg_of X G Ra⟩⟩
 have TKE:Ja K mg C Rd Gr Pc Fo Ch HE NF TL NC TM uK uN uB uE uM uC uP uI uD uL uT p8 p9 qa uG uS:=⟨T,Uh⟩
 have TH:=T.toDG
 have TW:=TH.toql
 have TP:=TH.toVW
 have TT:sY K mg C Rd Gr uK uN uB uE uM:=TW.tosY
 have TR:qk K mg C Rd uK uN:=TT.toqk
 have TA:vv K mg C:=TR.tovv
 have ZN:Ab K mg C uq ur:=⟨TA,PySem.W.mg_none_of X G RM,PySem.W.mg_of X G qv,PySem.W.mg_of X G Ff⟩
 have TFm:Ea l.prog w K mg C aF _ uq ur:=⟨ZN,PySem.W.mg_of X G MJ,vp lF sF oF nF,PySem.W.mg_none_of X G RL⟩
 have TFd:Eb l.prog w K mg C aF _ uq ur:=⟨TFm,PySem.W.mg_none_of X G RN,⟨_,_,_,Jt,PySem.W.mg_of X G Ia,PySem.W.mg_of X G Q7,fun _=> .inr ⟨_,_,_,lTc,rfl,rfl,(by show 2≤sizeLine;decide), .cons rfl (.cons rfl .nil)⟩⟩,⟨_,_,Ju,PySem.W.mg_of X G Ia,fun _=> .inr ⟨_,_,_,lTd,rfl,rfl,(by show 1≤sizeLine;decide), .cons rfl .nil⟩⟩,⟨_,_,Jv,PySem.W.mg_of X G Ia,fun _=> .inr ⟨_,_,_,lTs,rfl,rfl,(by show 1≤sizeLine;decide), .cons rfl .nil⟩⟩⟩
 have TG:Es K mg C:=⟨TA,PySem.W.mg_none_of X G RO⟩
 have SV:=Dg (P:=l.prog) (w:=w) (base:=base) RT
 have SW:=Dh (P:=l.prog) (w:=w) (base:=base) RU
 have ZO:=Bf (P:=l.prog) (w:=w) (base:=base) RW
 have Ig:=px (P:=l.prog) (w:=w) (base:=base) RX TA
 have ZP:=GW (P:=l.prog) (w:=w) (base:=base) MK TA
 have ZQ:=DC RZ TA Ig
 have ZR:=DD (P:=l.prog) (w:=w) (base:=base) R0 TW
 have ZS:=DE (P:=l.prog) (w:=w) (base:=base) R3 TW
 have SX:=DF (P:=l.prog) (w:=w) (base:=base) R7 TW
 have ZT:=Di (P:=l.prog) (w:=w) (base:=base) R9 TR
 have BZ:=GF (P:=l.prog) (w:=w) (base:=base) R' TR
 have Ih:=Lp (P:=l.prog) (w:=w) (base:=base) So TE
 have ZU:=Dq (P:=l.prog) (w:=w) (base:=base) Sr TE
 have ZV:=Lw (P:=l.prog) (w:=w) (base:=base) Ss Uh
 have ZW:=Dz (P:=l.prog) (w:=w) (base:=base) Su Uh
 have Fn:=Dr Sa TR TE BZ Ih
 have MW:=vE Sb TR Fn
 have SY:=xM Si TR TE BZ ZO Ih
 have Ii:=xN Sh TR SY
 have S0:=Bl MM TR TE BZ SV SW Ii ZP Ih
 have S1:=rj Sg Sf ML TT BZ SV S0 Fn Ii ZR 4
 have S2:=vJ MN TW.toOM BZ Fn Ii
 have ZX:=qp Se TW MW SX
 have ZZ:=xP Sd TW BZ Fn Ii S1 S2 ZX ZS SX
 have Z0:=vL R5 TW TE ZU
 have Z1:=rm RY R1 TT ZQ Ig 4
 have Z2:=pw 4 R4 TW Z1 Ig
 have Z3:=mh R6 TW Ig
 have Z4:=xU 4 R8 TW Z2 Z3
 have Z5:=tK Sj TH Z4
 have Z6:=tL Sk TH Z5
 have Z7:=DJ (P:=l.prog) (w:=w) (base:=base) Sl TH
 have Z8:=Bv Sm TH Z6
 have S3:=Bx Sn T SY Fn ZZ
 have S4:=xX MO T S3 MW
 have S6:=vT MP T S3 MW
 have S7:=xY MQ T S4 S6 Z7
 have MX:=vV Ic TKE Z0 ZT S7 ZV ZW Ih
 have Z9:=LX (P:=l.prog) (w:=w) (base:=base) Sv Ie
 have S9:=BG Sw ZN SW
 have Z':=D9 (P:=l.prog) (w:=w) (base:=base) Sx
 have aaa:=yk (P:=l.prog) (w:=w) (base:=base) Sy ZN
 have aab:=BH (base:=base) Sz TFm
 have aac:=yn SA TFd S9 Z' aab
 have aad:=yo SD aaa aac
 have S':=Ei SK Ie Z9
 have aae:=tV SE Ie MX
 have aaf:=yt SF Ie S'
 have aag:=yu SH Ie S' Z8
 have aah:=BK (P:=l.prog) (w:=w) (base:=base) SI Ie
 have aai:=BL SJ Ie aah
 have aaj:=L5 SM TSy aad aae aaf aag
 have aak:=Hs (P:=l.prog) (w:=w) (base:=base) SQ TG
 have aal:=BP (P:=l.prog) (w:=w) (base:=base) SR TG
 have aam:=Ez SS TG aal
 have aan:=yx (P:=l.prog) (w:=w) (base:=base) SU TG
 have JU:=BU MR Nr aaj
 have JV:=yy (P:=l.prog) (w:=w) (base:=base) MS Nr
 have JW:=wJ (P:=l.prog) (w:=w) (base:=base) MT Nr
 have Ta:=BV MU Nr JU JV JW
 have Tb:=HH MV Nr JU JV JW
 exact Mc ZM TL7 aak aam aan aai Tb Ta
theorem walk{l:PySem.W.OpenLaw}{q:Program}{loose:List Str}{XP:(Str→Option Value)→Heap→Prop}{YP:World→Heap→Prop}{d:DefRec}{K:Params→PySem.W.Frag}(hn:l.most=some 63)(Oa:d.params.defaults=[])
  (hY:∀(w:World) (h:Heap),YP w h→(K w.params).In h)
  (F:∀(w:World) (mg:Str→Option Value) (fa:Addr) (h:Heap),(K w.params).In h→h.Ns mainGlobals mg→mg d.name=some (.ref fa)→
   ∃fd:FuncData,(∀(s:Shared) (u:Value),BindsTo s fd ⟨[u],[]⟩ [("_law_script",u)])∧∀base:Heap,(K w.params).In base→base.Ns mainGlobals mg→dj l.prog w (K w.params) mg base js 29 fa fd ["_law_script"] (Aj (K w.params))):
  PySem.W.WalkO q loose XP YP l.row.toRowW d [] (fun f vs=>PySem.call f vs):=
 L2.FX (n:=63) (k:=29) (x:="_law_script") (CX:=fun _=>js) (sp:=fun w=>Aj (K w.params)) hn (by decide) Oa ⟨rfl,by decide,by decide⟩ hY F (fun _ _ a ns hl _ hS=>⟨a,ns,rfl,hS,hl,fun _=>rfl⟩) fun _ _ _ _ _ z=>z
end Vu
open PySem PySem.W PyProof.Rows
set_option maxRecDepth 100000 in
set_option maxHeartbeats 0 in
theorem PySem.Challenge.cw_balancehall_k70_names_at_the_desk_holds : PySem.Challenge.rw_balancehall_k70_names_at_the_desk.Holds := by
 refine PySem.Challenge.hd ?_
 k_fill
 refine Vu.walk (l:=PySem.Challenge.rw_balancehall_k70_names_at_the_desk) rfl rfl (fun w h Y=>Y) ?F
 case F=>
  intro w mg fa h KX G Ob
  apply Vu.all_mk KX G Ob
  all_goals first|k_is|exact⟨⟨_,⟨⟨_,_,_,_,_,_,_,_,_,rfl,by k_is,by k_is⟩,by k_is⟩⟩,by k_is⟩ |decide+kernel|exact .cons rfl (.cons rfl (.cons rfl (.cons rfl (.cons rfl (.cons rfl (.cons rfl (.cons rfl (.cons rfl (.cons rfl (.cons rfl (.cons rfl .nil))))))))))) |exact⟨_,_,_,_,_,_,_,_,_,_,_,_,_,_,_,_,_,by k_is,by decide+kernel⟩ |exact⟨_,_,_,_,_,_,_,_,_,_,_,_,_,_,by k_is⟩
