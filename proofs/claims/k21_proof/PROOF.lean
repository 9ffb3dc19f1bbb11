import PyProof.Rows.All
import Wide.All
import OpenK.AllK
import Wide.FinOn
import Lean
import PyProof.EqAt
import PyProof.EqKinds
import PyProof.TupleCall
import PySem.Challenge.RW_flowstack_k21_forms
set_option Elab.async false
set_option linter.all false
set_option maxRecDepth 100000
set_option maxHeartbeats 4000000
namespace PySem.W.Fast
def tw7162471616393219136 := ()
def tw13401176176770277440 := ()
def tw17676142366839348320 := ()
def tw1430719112303003776 := ()
def tw10505947847482877088 := ()
def tw8036266964166417600 := ()
def tw12674316555569999040 := ()
def tw7587748455410781376 := ()
def tw11652342667190111456 := ()
def tw13895829251629870304 := ()
def tw14807051385639017728 := ()
def tw12000930307094420736 := ()
def tw5833474052829370624 := ()
def tw2026793359677538592 := ()
def tw15608300782809502048 := ()
def tw17953174619720589728 := ()
def tw12588050017181921824 := ()
def tw4267494281415802432 := ()
def tw1406939231483463264 := ()
def tw4503568484169057920 := ()
def tw12891367551743762048 := ()
def tw13884057632942494432 := ()
def tw1621877730614312672 := ()
def tw340495536516219648 := ()
def tw647007298864182016 := ()
def tw13792375894788675392 := ()
def tw1542878107110395744 := ()
def tw2643648832983198560 := ()
def tw1260849304213876576 := ()
def tw4292812898904935296 := ()
def tw1750795400025934849 := ()
def tw12042302548720890881 := ()
def tw943786553325979713 := ()
def tw12221459363903065185 := ()
def tw16632801966704217185 := ()
def tw18136370250966546561 := ()
def tw3671928027481680193 := ()
def tw11111669055987009857 := ()
def tw16094501079440052545 := ()
def tw17032218899983418785 := ()
def tw6165135856930878081 := ()
def tw12219640137130745537 := ()
def tw18078328368830803649 := ()
def tw7658805355177573089 := ()
def tw13340675061433633569 := ()
def tw9161639056426539873 := ()
def tw14476688524425276289 := ()
def tw3898958075553936257 := ()
def tw15401593070384799649 := ()
def tw2014595969261449153 := ()
def tw7203447884686935009 := ()
def tw897369848280405026 := ()
def tw5793713197745749090 := ()
def tw10467426733350543458 := ()
def tw11469742870236767394 := ()
def tw10896086945471033506 := ()
def tw14478981908470695138 := ()
def tw15113264557960150338 := ()
def tw4385509114367187298 := ()
def tw3921092685754419554 := ()
def tw11538067825073884546 := ()
def tw1663028988784477602 := ()
def tw16368444518423518690 := ()
def tw4415215463960917570 := ()
def tw13335158267933985378 := ()
def tw11142937212519282274 := ()
def tw5542877205183069794 := ()
def tw11974281635475926690 := ()
def tw4858550193425967778 := ()
def tw3897339533308632770 := ()
def tw2952768471524592354 := ()
def tw1366891502864833442 := ()
def tw10432437055190024130 := ()
def tw7212170597320715202 := ()
def tw9051405886490537922 := ()
def tw8617992898360160259 := ()
def tw11938958432752020515 := ()
def tw15593591001390370883 := ()
def tw11006477457162624067 := ()
def tw481843813692804227 := ()
def tw4625660160626750659 := ()
def tw8571852500151572707 := ()
def tw1934395602488039747 := ()
def tw6932856952939265347 := ()
def tw1595112375714713987 := ()
def tw4934857817777020355 := ()
def tw11806167653295695331 := ()
def tw14879946909539361251 := ()
def tw14469812697965340163 := ()
def tw13145145834463770115 := ()
def tw11534542113057738307 := ()
def tw5133846905673450083 := ()
def tw6292354810570269315 := ()
def tw17434393971640644355 := ()
def tw17790160278629116771 := ()
def tw11371177920562017155 := ()
def tw8173768660460066691 := ()
def tw12352070740987440003 := ()
def tw16121913129430644675 := ()
def tw3230301764245042180 := ()
def tw13486784636350578756 := ()
def tw4973967502426690660 := ()
def tw14538890911824317604 := ()
def tw9545296067652193476 := ()
def tw16640583111956828420 := ()
def tw16135067991213982980 := ()
def tw6366600986003441956 := ()
def tw17071740089720131876 := ()
def tw1749135337699785060 := ()
def tw2165080172755731844 := ()
def tw10152984438633485732 := ()
def tw9711539816727153092 := ()
def tw8613609179647758788 := ()
def tw6294161126819227140 := ()
def tw4294283515224776260 := ()
def tw7568610033689177700 := ()
def tw1763861581901766276 := ()
def tw10450549190997296772 := ()
def tw13897570056023037732 := ()
def tw13482240320820380484 := ()
def tw2003854565644488676 := ()
def tw15121205812114655237 := ()
def tw1914332768239506469 := ()
def tw655950774901771429 := ()
def tw12978627846581958821 := ()
def tw16316599722169174213 := ()
def tw612057269662812421 := ()
def tw4460341148860709125 := ()
def tw10478399974120380773 := ()
def tw4209950872164163941 := ()
def tw6870351964536073669 := ()
def tw11823298859111537157 := ()
def tw12947483287875709445 := ()
def tw17075224186524901925 := ()
def tw14661198769374241317 := ()
def tw15039947981961733669 := ()
def tw9986586910103239237 := ()
def tw2230203190726859365 := ()
def tw13076130311477980933 := ()
def tw17290814930527814437 := ()
def tw8068181797177996069 := ()
def tw17571344180759027653 := ()
def tw16499699408663439301 := ()
def tw10722963689393681414 := ()
def tw253570898883707942 := ()
def tw16119831288709798054 := ()
def tw8770936002815230150 := ()
def tw8422373922969080006 := ()
def tw2171176598113295622 := ()
def tw1043830255505944838 := ()
def tw1770149349017387334 := ()
def tw5105478128547348838 := ()
def tw14244717215810442598 := ()
def tw10708576830723746182 := ()
def tw9178137007964445190 := ()
def tw16846119746470020838 := ()
def tw16677921727527336678 := ()
def tw2140746998293160710 := ()
def tw4238587442642939654 := ()
def tw15408456151188744134 := ()
def tw10526940327162049639 := ()
def tw9966822155433624743 := ()
def tw13147532065205504199 := ()
def tw11292380821084216647 := ()
def tw1949318813322030407 := ()
def tw1475812158266665287 := ()
def tw9676415091232024935 := ()
def tw3190393790483234151 := ()
def tw7511555199111825927 := ()
def tw2235626948487261767 := ()
def tw9345515423321165479 := ()
def tw11126260926341295815 := ()
def tw4944715368543996647 := ()
def tw18310838863274369767 := ()
def tw9431109308311172839 := ()
def tw10693939341162177287 := ()
def tw14406964250833580839 := ()
def tw582329639867116391 := ()
def tw2825164347000433607 := ()
def tw16542538730833952743 := ()
def tw9297346022533727336 := ()
def tw5362388429525325928 := ()
def tw5388006344382136488 := ()
def tw8062202395324287176 := ()
def tw102037464802580680 := ()
def tw8320620058215129320 := ()
def tw9636620574652055784 := ()
def tw17231412024404757800 := ()
def tw7092345234125732168 := ()
def tw7122384274404380008 := ()
def tw12595114849969970632 := ()
def tw7445826840363069896 := ()
def tw12161751744369500776 := ()
def tw5610127768951418504 := ()
def tw158655903076217512 := ()
def tw8279732128741130984 := ()
def tw7954454141314730728 := ()
def tw14542677785864986408 := ()
def tw13532281087342536520 := ()
def tw14531040181305048936 := ()
def tw11231420862112341992 := ()
def tw8108947762757673960 := ()
def tw209200788432604169 := ()
def tw16749289296045492329 := ()
def tw3033917587616737417 := ()
def tw12936398426190853257 := ()
def tw8743646964593356937 := ()
def tw16146347031689496809 := ()
def tw6138340203631788329 := ()
def tw9372782963013208393 := ()
def tw9530553992206446953 := ()
def tw16616222514466225513 := ()
def tw6308098643320443497 := ()
def tw1508458239352967817 := ()
def tw2990194136843137673 := ()
def tw3880967032858141385 := ()
def tw14063456216366736105 := ()
def tw11021106395461682953 := ()
def tw18072952702809101065 := ()
def tw9553588963527939849 := ()
def tw7991748648847781673 := ()
def tw16387702802504403753 := ()
def tw7650956311059630921 := ()
def tw11842826881048727369 := ()
def tw2279168727170357129 := ()
def tw7068005004109562825 := ()
def tw11066088725631073225 := ()
def tw9126374027860955113 := ()
def tw14785080735320742922 := ()
def tw5639971881201017866 := ()
def tw6253700467765448778 := ()
def tw15656237428188844234 := ()
def tw4506415210176725322 := ()
def tw4909220893173003690 := ()
def tw17265303945916562890 := ()
def tw7397038614846637546 := ()
def tw15300940106454486506 := ()
def tw12961656338851848682 := ()
def tw7033339536906756682 := ()
def tw16925002574210572874 := ()
def tw14063746175464122026 := ()
def tw14148291773787887274 := ()
def tw16439439911252921066 := ()
def tw664972955963861834 := ()
def tw1471370477715724266 := ()
def tw17725712854229906410 := ()
def tw12283711332425806859 := ()
def tw1326363443560400939 := ()
def tw1387183547274689579 := ()
def tw5643918333782370411 := ()
def tw3006373829925490795 := ()
def tw2589251938705180843 := ()
def tw10771875680830407851 := ()
def tw8459472279564531915 := ()
def tw10273376085025636811 := ()
def tw16332439803285275115 := ()
def tw7591840120123150827 := ()
def tw15107972075859921419 := ()
def tw10065426106157567563 := ()
def tw9413409225242907243 := ()
def tw4179134043265440363 := ()
def tw13252397263834033803 := ()
def tw4478376114582105771 := ()
def tw8013478132788456107 := ()
def tw13765731722644960203 := ()
def tw11015446765226954731 := ()
def tw8596489098727259244 := ()
def tw12023851922140321932 := ()
def tw5019627946351196364 := ()
def tw13744769357567688940 := ()
def tw3772996842736389356 := ()
def tw14427012594697790700 := ()
def tw15402550059674140940 := ()
def tw9158558549159590156 := ()
def tw17685979244980108556 := ()
def tw11168361302768038252 := ()
def tw13414987304783538540 := ()
def tw1619524947219570060 := ()
def tw8859808121060986284 := ()
def tw2000551624220287404 := ()
def tw10151067080006423052 := ()
def tw10259213524726062764 := ()
def tw15656843382655577772 := ()
def tw6385659678503088908 := ()
def tw14369545971244821260 := ()
def tw14310806410378863404 := ()
def tw12382062156429785932 := ()
def tw18142038108182581132 := ()
def tw10922837844194842508 := ()
def tw14986505733472284685 := ()
def tw13971355609684650093 := ()
def tw1331843702714907885 := ()
def tw14217788234712846637 := ()
def tw10012389749904095533 := ()
def tw9993026446502580557 := ()
def tw12160369496502713709 := ()
def tw3863219305191929197 := ()
def tw2346646837902465421 := ()
def tw8254432800086358445 := ()
def tw3548407682462970317 := ()
def tw13402374947571574285 := ()
def tw15769036073696224781 := ()
def tw9684196403161955853 := ()
def tw14306660511091949101 := ()
def tw11031673044682440237 := ()
def tw16857993257170837101 := ()
def tw6554297520647229037 := ()
def tw5261098396191266541 := ()
def tw5750229517126391533 := ()
def tw3063632614511976269 := ()
def tw17086269622855468941 := ()
def tw6802835749895059341 := ()
def tw14665766943100909517 := ()
def tw184119499605914605 := ()
def tw3394904590046475245 := ()
def tw8581241221586304046 := ()
def tw8221615920827681870 := ()
def tw13109827617661366382 := ()
def tw11172960460428404878 := ()
def tw557289135439308942 := ()
def tw16991281036611402030 := ()
def tw9570096348409508174 := ()
def tw15660476091351125358 := ()
def tw16596005434608702862 := ()
def tw14440865387538924014 := ()
def tw1881891419838189134 := ()
def tw11279442885821768302 := ()
def tw261840991985948270 := ()
def tw2377183446374737550 := ()
def tw13667028889197620910 := ()
def tw1649768151673953006 := ()
def tw9914791910714061582 := ()
def tw17820314076899557166 := ()
def tw18385871211526195022 := ()
def tw10286522966235472718 := ()
def tw13932050181297338190 := ()
def tw9311427302664832878 := ()
def tw9598187761221367662 := ()
def tw7808773939810297806 := ()
def tw8184258698706835438 := ()
def tw1219092862724523087 := ()
def tw15658784827523495215 := ()
def tw11255123455776431503 := ()
def tw15771578909364919727 := ()
def tw2630796690698945999 := ()
def tw3546095951816541679 := ()
def tw6309994878867010063 := ()
def tw6932190396376429135 := ()
def tw1002884576377964143 := ()
def tw14004011912546732687 := ()
def tw11174882410232635055 := ()
def tw3513478221439906511 := ()
def tw15254960165600543439 := ()
def tw12119347563334821647 := ()
def tw1640080976406589231 := ()
def tw7079116291654565679 := ()
def tw11102350376469617647 := ()
def tw14167840414158426128 := ()
def tw1164847927830948912 := ()
def tw6117089941714904240 := ()
def tw14394725878540087568 := ()
def tw13770351565137796368 := ()
def tw7566613709814498608 := ()
def tw6306251925559852368 := ()
def tw17743084396037194064 := ()
def tw4746404345653379408 := ()
def tw1253403221577569680 := ()
def tw1589277922081243664 := ()
def tw1881163301667189264 := ()
def tw8009948391484347920 := ()
def tw5101411947607621136 := ()
def tw13118415558705689200 := ()
def tw857885322903031440 := ()
def tw880166599537149584 := ()
def tw6192871812400683728 := ()
def tw16125283320685627120 := ()
def tw7433203021038428912 := ()
def tw11722399450124563248 := ()
def tw10076390186436564880 := ()
def tw14007865966701481904 := ()
def tw15753741709146303408 := ()
def tw7104328044215681968 := ()
def tw118181412538638256 := ()
def tw1775677317378351056 := ()
def tw1385980006170044368 := ()
def tw11252421415604177904 := ()
def tw4437679653056220273 := ()
def tw3744812672064181425 := ()
def tw5414426326032557265 := ()
def tw7139496034014648593 := ()
def tw7925781147600754993 := ()
def tw8175976495997899089 := ()
def tw16170728928312022641 := ()
def tw12820038509220948625 := ()
def tw5258292341654940401 := ()
def tw4731188674772565745 := ()
def tw2381357523490882353 := ()
def tw8864270205103900497 := ()
def tw11908147869943876433 := ()
def tw13924141152622029681 := ()
def tw12544638814853098353 := ()
def tw4262663804145365873 := ()
def tw7214605876873875441 := ()
def tw14132343316294527985 := ()
def tw15157918364814167122 := ()
def tw9847935303907992658 := ()
def tw604728795819252850 := ()
def tw1686493413529231474 := ()
def tw5495549484850794642 := ()
def tw10273442873893625010 := ()
def tw2921915272869995698 := ()
def tw8117202086571545810 := ()
def tw9038221133377590482 := ()
def tw15573793679730270418 := ()
def tw11037646433935777010 := ()
def tw4329926817859883378 := ()
def tw16537933623496302994 := ()
def tw12027825614307348050 := ()
def tw11244474976165679698 := ()
def tw10555202972223953490 := ()
def tw11743496922418517618 := ()
def tw16564397752063113842 := ()
def tw11509547911660927602 := ()
def tw2175201047434523282 := ()
def tw12932769023626052306 := ()
def tw12137899006184759058 := ()
def tw13320266461401184082 := ()
def tw11458426791661577170 := ()
def tw2970705155776212946 := ()
def tw18212757795104453586 := ()
def tw12882742185173507091 := ()
def tw2011586828019829907 := ()
def tw10628532217585875219 := ()
def tw5513705400224887155 := ()
def tw17320737400543120755 := ()
def tw10189102333957845427 := ()
def tw6110362588798345651 := ()
def tw12474362224662072787 := ()
def tw3274534131140437523 := ()
def tw4338998445214322259 := ()
def tw1693746897326596691 := ()
def tw8001188304541248083 := ()
def tw17871135661866514035 := ()
def tw3444444463789766259 := ()
def tw16824337879549639315 := ()
def tw6477133673071567571 := ()
def tw602094688681673459 := ()
def tw8452957067862725363 := ()
def tw919528226564779827 := ()
def tw6730258098953612083 := ()
def tw16513301840445264723 := ()
def tw15664456751088670579 := ()
def tw2755507484390833011 := ()
def tw15523821952010679219 := ()
def tw4593557886833750995 := ()
def tw9605065896375129075 := ()
def tw17937209907162158100 := ()
def tw3776026366974432340 := ()
def tw2435858551957293172 := ()
def tw9045502049233484980 := ()
def tw16981237826694496468 := ()
def tw17048331607509553364 := ()
def tw6794307527709490452 := ()
def tw12461109687768274228 := ()
def tw336258731940075828 := ()
def tw1810032884981673300 := ()
def tw14555052349915608500 := ()
def tw14084977372721889716 := ()
def tw738323248509850068 := ()
def tw13222325156691846612 := ()
def tw5453559838190216660 := ()
def tw7966853432865670612 := ()
def tw5157856001577044436 := ()
def tw10305769614940994068 := ()
def tw1185127599295102580 := ()
def tw7401933780673232532 := ()
def tw7340591213568818868 := ()
def tw2107097009717006036 := ()
def tw12205882948184126196 := ()
def tw17958653119797266196 := ()
def tw15548387631437959956 := ()
def tw3509690243636238132 := ()
def tw18337910487514367956 := ()
def tw10765283877880778708 := ()
def tw17083992798899504213 := ()
def tw6458443247137642581 := ()
def tw17802593317108811893 := ()
def tw15595467311382279285 := ()
def tw17516365362401705077 := ()
def tw4152737143624371349 := ()
def tw6041611542149139605 := ()
def tw15839423817598218389 := ()
def tw7242255593857926293 := ()
def tw10001846034408341717 := ()
def tw11263796166785091797 := ()
def tw6530839938982500597 := ()
def tw14489745925904062709 := ()
def tw5650825685311352053 := ()
def tw535463725204587797 := ()
def tw9864315363311521141 := ()
def tw10864030166725837173 := ()
def tw11982644228281136501 := ()
def tw16665906261276490133 := ()
def tw11239968896867413461 := ()
def tw258382559963434453 := ()
def tw11066647140151123445 := ()
def tw7764081826791994933 := ()
def tw6661972397778425429 := ()
def tw3339543737562166933 := ()
def tw13973503075644279477 := ()
def tw11566704989150647989 := ()
def tw5628851390062019253 := ()
def tw6034406736652465845 := ()
def tw12654894937219752693 := ()
def tw5481919964149005109 := ()
def tw17087422916574748533 := ()
def tw14531449256475454357 := ()
def tw5335119512539213813 := ()
def tw17573590155642983413 := ()
def tw12093721102380215318 := ()
def tw3625224992797704278 := ()
def tw1186708015055750230 := ()
def tw6923399533281946806 := ()
def tw11752935915398939862 := ()
def tw14072458499136008438 := ()
def tw8325023975950571798 := ()
def tw12656559217990432118 := ()
def tw15660640054341068214 := ()
def tw5472921311094778326 := ()
def tw2737478461849153046 := ()
def tw146189788213634582 := ()
def tw12267041594816525846 := ()
def tw5473573072526826038 := ()
def tw3453020144545802998 := ()
def tw1699689604985074486 := ()
def tw6801084476411930454 := ()
def tw12056854769698705302 := ()
def tw12845520714988692406 := ()
def tw9729290812531883958 := ()
def tw8145125258982432726 := ()
def tw6853786616011261942 := ()
def tw6107812970009859062 := ()
def tw10907553854519449623 := ()
def tw14254007397646777431 := ()
def tw6155492424980053079 := ()
def tw2991571102918347895 := ()
def tw12788529334730602647 := ()
def tw15446136752491314359 := ()
def tw9503509063638759639 := ()
def tw5837803489400465655 := ()
def tw17532725851338464535 := ()
def tw7463051141021975863 := ()
def tw17562542262832685367 := ()
def tw16203509897406318935 := ()
def tw16590415042856106327 := ()
def tw16456394952561572279 := ()
def tw8912060568638952919 := ()
def tw15158067298470135287 := ()
def tw6778126078571557431 := ()
def tw3677549998799430231 := ()
def tw1258764628480431767 := ()
def tw11258933802682538711 := ()
def tw12003450653661226743 := ()
def tw6830301065260487479 := ()
def tw10709040755974210423 := ()
def tw7159289686175745911 := ()
def tw15455910741312143255 := ()
def tw382687812574295991 := ()
def tw11776801707748027416 := ()
def tw8213120216007202904 := ()
def tw1879489257635698808 := ()
def tw13336626034402763960 := ()
def tw1905268428289566904 := ()
def tw4000016983007354104 := ()
def tw7497950671219425560 := ()
def tw15864546847830977880 := ()
def tw11086760161864775096 := ()
def tw10660383022549040568 := ()
def tw4450731713536831992 := ()
def tw5579800920379133464 := ()
def tw8692542571255114264 := ()
def tw1288495227417732696 := ()
def tw16069454694028805880 := ()
def tw5940160939678815000 := ()
def tw10144123012943550264 := ()
def tw13065519911746857816 := ()
def tw16710438774476370840 := ()
def tw4352720097279073305 := ()
def tw16016371269312603161 := ()
def tw13187357781054228633 := ()
def tw18374157562392603801 := ()
def tw8669466317403573433 := ()
def tw4961032955883800953 := ()
def tw10192054713739521497 := ()
def tw13439993250694759961 := ()
def tw12375006575464395289 := ()
def tw2849663073409378905 := ()
def tw4601935059149881977 := ()
def tw6524353097016502937 := ()
def tw5009768679072567033 := ()
def tw3271698585229315865 := ()
def tw11193328015419310937 := ()
def tw16747272029090934713 := ()
def tw10212632289847774169 := ()
def tw12115720124610036762 := ()
def tw14757623388700985402 := ()
def tw14275258343258031194 := ()
def tw8740713449505254554 := ()
def tw9668117518940044474 := ()
def tw7596697223955513626 := ()
def tw2210588669442559322 := ()
def tw4772681323517953370 := ()
def tw16118516201442865562 := ()
def tw17134074544641076698 := ()
def tw392394025882535450 := ()
def tw17309509941507060250 := ()
def tw10182923728977407546 := ()
def tw14111050772401252922 := ()
def tw3827434637324745274 := ()
def tw14889124024822669914 := ()
def tw16539670489882084954 := ()
def tw1572987553543188090 := ()
def tw15037367740471417562 := ()
def tw15804328705858977498 := ()
def tw3506744276207199962 := ()
def tw7615876099518884602 := ()
def tw8471015340631618362 := ()
def tw9085093201538537306 := ()
def tw15696234732984821594 := ()
def tw7406460622025978714 := ()
def tw9596082213291262938 := ()
def tw10153062645064678394 := ()
def tw7837031966623458298 := ()
def tw14564234053154161723 := ()
def tw10563648913421085787 := ()
def tw1535789514831715483 := ()
def tw9650524041722256539 := ()
def tw17168398155737775419 := ()
def tw5608945329562820955 := ()
def tw5156952108840007003 := ()
def tw8922641442604554619 := ()
def tw18324402463894672859 := ()
def tw13325429770954163835 := ()
def tw5901411473611177627 := ()
def tw13631294884166876891 := ()
def tw10443488782067259163 := ()
def tw8772015911444645691 := ()
def tw4036722131266188123 := ()
def tw5161708134793733979 := ()
def tw12640314788479201147 := ()
def tw3808709752537967547 := ()
def tw7115497081261255708 := ()
def tw4947532848546117692 := ()
def tw9289743404469323868 := ()
def tw9475367540263364700 := ()
def tw13808246945997071548 := ()
def tw17998577844223980764 := ()
def tw2225180827545770268 := ()
def tw9300991173489930556 := ()
def tw2409600053648484732 := ()
def tw13103978098279952796 := ()
def tw2319808493284722140 := ()
def tw9195672409686776284 := ()
def tw11201821947573484060 := ()
def tw10418788360615919164 := ()
def tw6455135532558040668 := ()
def tw4691162109566022236 := ()
def tw17038881486411125372 := ()
def tw3833026650707833500 := ()
def tw10211063621660473020 := ()
def tw12646259526132375292 := ()
def tw16428016182541956892 := ()
def tw2504735665071461180 := ()
def tw766994146472801116 := ()
def tw13459417670070706108 := ()
def tw5437185796571453372 := ()
def tw8944902304428971069 := ()
def tw13385555273395733597 := ()
def tw9149330682296871037 := ()
def tw4049889134325324925 := ()
def tw14928608434640685213 := ()
def tw17361319756592968861 := ()
def tw5760019009304545469 := ()
def tw6454581075776435421 := ()
def tw14880237690335992157 := ()
def tw15278778952033093981 := ()
def tw922371615358231965 := ()
def tw9094169145259780541 := ()
def tw2847212179015430653 := ()
def tw5563971384226739741 := ()
def tw1414285935783809597 := ()
def tw12615804314843072061 := ()
def tw6879179487751965373 := ()
def tw8457396671310793437 := ()
def tw15378966297226921789 := ()
def tw17967968708783456093 := ()
def tw4358738772763891581 := ()
def tw15128527633572808637 := ()
def tw81792451691373565 := ()
def tw5302817736412559390 := ()
def tw5884841965247012926 := ()
def tw13215544877036238942 := ()
def tw5427301107522939006 := ()
def tw671467468977838270 := ()
def tw8166212608655142110 := ()
def tw8955612440139666686 := ()
def tw5162220852336905470 := ()
def tw12513370324404702494 := ()
def tw5649565549856672030 := ()
def tw7946053598036089118 := ()
def tw10614965889975273790 := ()
def tw4065445696829789534 := ()
def tw11848166794540235134 := ()
def tw6059308992413966750 := ()
def tw8759109622574242206 := ()
def tw13820860201039752702 := ()
def tw2570346370904693342 := ()
def tw161590372042865438 := ()
def tw8932268505585911678 := ()
def tw6973737651066708894 := ()
def tw8180217934870582238 := ()
def tw3805284894528722910 := ()
def tw12183464726111824894 := ()
def tw10896053666119266367 := ()
def tw15734433498551525471 := ()
def tw8175879907502076063 := ()
def tw16489782367739488447 := ()
def tw6433842789509921983 := ()
def tw8418022694740390111 := ()
def tw3698479802095389951 := ()
def tw8950393510170490111 := ()
def tw12209373775545958751 := ()
def tw15329073571236422047 := ()
def tw10977731862979158463 := ()
def tw7222996469970816607 := ()
def tw13252183989802848895 := ()
def tw11739644870567419551 := ()
def tw992433713123454687 := ()
def tw4019472918690511615 := ()
def tw5898725973565511455 := ()
def tw15216521920379170687 := ()
def tw16066424531261766527 := ()
def tw6499633764783068063 := ()
def tw5755105233415510015 := ()
def tw9396463798991932722 := ()
end PySem.W.Fast
namespace L2
open PySem PySem.Spec PyProof.Rows
abbrev Key := Sum Int Str
def keyIs : Key → Value → Bool
  | .inl k, v => Value.isInt k v
  | .inr x, v => Value.isStrOf x v
def keyH (w : World) : Key → Int
  | .inl k => hashInt k
  | .inr x => hashStr w x
theorem keyIs_shape : ∀ {k : Key} {v : Value}, keyIs k v = true → (∃ i t, k = Sum.inl i ∧ v = Value.int i t) ∨ (∃ x t, k = Sum.inr x ∧ v = Value.str x t)
  | .inl i, v, h => by
    obtain ⟨t, e⟩ := Value.isInt_shape (k := i) (v := v) h
    exact .inl ⟨i, t, rfl, e⟩
  | .inr x, v, h => by
    obtain ⟨t, e⟩ := Value.isStrOf_shape (x := x) (v := v) h
    exact .inr ⟨x, t, rfl, e⟩
theorem keyIs_int (i : Int) (t : Tok) : keyIs (.inl i) (.int i t) = true := by simp [keyIs, Value.isInt]
theorem keyIs_str (x : Str) (t : Tok) : keyIs (.inr x) (.str x t) = true := by simp [keyIs, Value.isStrOf]
theorem key_ll (a b : Int) : decide ((Sum.inl a : Key) = Sum.inl b) = (a == b) := by
  by_cases e : a = b
  · subst e; simp
  · have h : ¬ (Sum.inl a : Key) = Sum.inl b := fun q => e (Sum.inl.inj q)
    rw [decide_eq_false h]
    exact (beq_eq_false_iff_ne.mpr e).symm
theorem key_rr (a b : Str) : decide ((Sum.inr a : Key) = Sum.inr b) = decide (a = b) := by
  by_cases e : a = b
  · subst e; simp
  · have h : ¬ (Sum.inr a : Key) = Sum.inr b := fun q => e (Sum.inr.inj q)
    rw [decide_eq_false h, decide_eq_false e]
theorem key_lr (a : Int) (b : Str) : decide ((Sum.inl a : Key) = Sum.inr b) = false := decide_eq_false (fun q => nomatch q)
theorem key_rl (a : Str) (b : Int) : decide ((Sum.inr a : Key) = Sum.inl b) = false := decide_eq_false (fun q => nomatch q)
def mixKind (prog : Program) (w : World) : PySem.KeyKind prog w Key where
  is := keyIs
  hash := keyH w
  inj := fun v a b ha hb => by
    rcases keyIs_shape ha with ⟨i, t, rfl, rfl⟩ | ⟨x, t, rfl, rfl⟩
    · rcases keyIs_shape hb with ⟨j, u, rfl, e⟩ | ⟨y, u, rfl, e⟩
      · injection e with e1 _; rw [e1]
      · exact nomatch e
    · rcases keyIs_shape hb with ⟨j, u, rfl, e⟩ | ⟨y, u, rfl, e⟩
      · exact nomatch e
      · injection e with e1 _; rw [e1]
  byValue := fun k v h => by
    rcases keyIs_shape h with ⟨i, t, rfl, rfl⟩ | ⟨x, t, rfl, rfl⟩ <;> rfl
  pyHash := fun hv h => by
    rcases keyIs_shape hv with ⟨i, t, rfl, rfl⟩ | ⟨x, t, rfl, rfl⟩
    · exact wpAny_pyHash_int h
    · exact wpAny_pyHash_str h
  eqBool := fun hu hv h => by
    rcases keyIs_shape hu with ⟨i, t, rfl, rfl⟩ | ⟨x, t, rfl, rfl⟩
    · rcases keyIs_shape hv with ⟨j, u, rfl, rfl⟩ | ⟨y, u, rfl, rfl⟩
      · rw [key_ll] at h; exact wpAny_eqBool_int h
      · rw [key_lr] at h; exact SeqAt.EqAt.int_str i t y u _ _ _ _ h
    · rcases keyIs_shape hv with ⟨j, u, rfl, rfl⟩ | ⟨y, u, rfl, rfl⟩
      · rw [key_rl] at h; exact SeqAt.EqAt.str_int x t j u _ _ _ _ h
      · rw [key_rr] at h; exact wpAny_eqBool_str h
  «strs» := fun k x t v h => by
    rcases keyIs_shape h with ⟨i, u, rfl, e⟩ | ⟨y, u, rfl, e⟩
    · exact nomatch e
    · injection e with e1 _
      subst e1
      cases v <;> rfl
theorem mixKind_int (prog : Program) (w : World) (i : Int) (t : Tok) : (mixKind prog w).is (.inl i) (.int i t) = true := keyIs_int i t
theorem mixKind_str (prog : Program) (w : World) (x : Str) (t : Tok) : (mixKind prog w).is (.inr x) (.str x t) = true := keyIs_str x t
end L2
namespace L2
open PySem PySem.Spec PyProof.Rows
inductive V where
  | non | bl (b : Bool) | int (i : Int) | str (x : Str) | byt (b : Array UInt8) | flt (b : UInt64) | ref (a : Addr) | ty (n : String)
  deriving DecidableEq
def RelV : V → Value → Prop
  | .non, u => u = Value.none
  | .bl b, u => u = Value.bool b
  | .int i, u => ∃ t, u = Value.int i t
  | .str x, u => ∃ t, u = Value.str x t
  | .byt b, u => ∃ t, u = Value.bytes b t
  | .flt b, u => ∃ t, u = Value.float b t
  | .ref a, u => u = Value.ref a
  | .ty n, u => u = Value.type n
abbrev Vals : List V → List Value → Prop := Paired RelV
theorem Vals.length {xs : List V} {us : List Value} (r : Vals xs us) : xs.length = us.length := Paired.length r
theorem Vals.get : ∀ {xs : List V} {us : List Value} {i : Nat} {x : V}, Vals xs us → xs[i]? = some x → ∃ u, us[i]? = some u ∧ RelV x u
  | _, _, _, _, .nil, e => by simp at e
  | _, _, 0, _, .cons r _, e => by simp at e; subst e; exact ⟨_, rfl, r⟩
  | _, _, i + 1, x, .cons _ t, e => by
    obtain ⟨u, h1, h2⟩ := Vals.get (i := i) (x := x) t (by simpa using e)
    exact ⟨u, by simpa using h1, h2⟩
theorem Vals.set {x : V} {u : Value} (r : RelV x u) : ∀ {xs : List V} {us : List Value} (i : Nat), Vals xs us → Vals (xs.set i x) (us.set i u)
  | _, _, _, .nil => .nil
  | _, _, 0, .cons _ t => .cons r t
  | _, _, i + 1, .cons q t => .cons q (Vals.set r i t)
theorem Vals.append : ∀ {xs ys : List V} {us ws : List Value}, Vals xs us → Vals ys ws → Vals (xs ++ ys) (us ++ ws)
  | _, _, _, _, .nil, s => s
  | _, _, _, _, .cons r t, s => .cons r (Vals.append t s)
theorem Vals.take : ∀ {xs : List V} {us : List Value} (n : Nat), Vals xs us → Vals (xs.take n) (us.take n)
  | _, _, 0, _ => .nil
  | _, _, _ + 1, .nil => .nil
  | _, _, n + 1, .cons r t => .cons r (Vals.take n t)
theorem Vals.drop : ∀ {xs : List V} {us : List Value} (n : Nat), Vals xs us → Vals (xs.drop n) (us.drop n)
  | _, _, 0, r => r
  | _, _, _ + 1, .nil => .nil
  | _, _, n + 1, .cons _ t => Vals.drop n t
theorem Vals.none_of : ∀ {xs : List V} {us : List Value} {i : Nat}, Vals xs us → xs[i]? = none → us[i]? = none := fun {xs us i} r e => by
  have h1 := r.length
  have h2 : xs.length ≤ i := List.getElem?_eq_none_iff.mp e
  exact List.getElem?_eq_none_iff.mpr (by omega)
def RelO : Option V → Option Value → Prop
  | some v, some u => RelV v u
  | none, none => True
  | _, _ => False
def KV {κ : Type} : List (κ × V) → List (κ × Value) → Prop := Paired fun (p : κ × V) (q : κ × Value) => p.1 = q.1 ∧ RelV p.2 q.2
def kV : Key → V
  | .inl i => .int i
  | .inr x => .str x
inductive HO where
  /-- a list -/
  | lst (xs : List V)
  /-- a tuple (never changes) -/
  | tup (xs : List V)
  /-- a dict whose keys are ints and texts; one whose keys are tuples of ints and texts (the empty one is both) -/
  | dK (kvs : List (Key × V)) | dT (kvs : List (List Key × V))
  /-- a set of ints: its members, its size -/
  | set (S : Int → Bool) (n : Nat)
  /-- an instance of the class at C, its dict at dx, its attributes -/
  | ins (C dx : Addr) (fs : List (Str × V))
  /-- the dict of the instance at x -/
  | own (x : Addr)
  /-- the dict of an exception -/
  | xd (fs : List (Str × V))
  /-- a bound method, f of x -/
  | met (f x : Addr)
  /-- a range object lo, lo + 1, .. below hi -/
  | rng (lo hi : Int)
  /-- a thing that is known to the object (the script; a dict while a loop walks it): read, never written while it is so -/
  | frz (o : Obj) (u : HO)
  /-- a code object's table -/
  | tbl (ps : Array Value)
  /-- any other thing, by what is true of its one object (a def of one's own: SetO a S n := HO.ext fun h => ..) -/
  | ext (φ : Heap → Prop)
abbrev Hp := Addr → Option HO
def upd (H : Hp) (a : Addr) (o : HO) : Hp := fun b => if b = a then some o else H b
theorem upd_same {H : Hp} {a : Addr} {o : HO} : upd H a o a = some o := by unfold upd; rw [if_pos rfl]
theorem upd_ne {H : Hp} {a b : Addr} {o : HO} (h : b ≠ a) : upd H a o b = H b := by unfold upd; rw [if_neg h]
theorem upd_upd {H : Hp} {a : Addr} {o u : HO} : upd (upd H a o) a u = upd H a u := by
  funext b; unfold upd; split <;> rfl
theorem ne_of {H : Hp} {a b : Addr} {o u : HO} (h : H a = some o) (h' : H b = some u) (d : o ≠ u) : a ≠ b := by
  intro e; subst e; rw [h] at h'; exact d (Option.some.inj h')
theorem ne_of_none {H : Hp} {a b : Addr} {o : HO} (h : H a = some o) (h' : H b = none) : a ≠ b := by
  intro e; subst e; rw [h] at h'; cases h'
section
variable (P : Program) (w : World)
def ObjOk (H : Hp) (h : Heap) (a : Addr) : HO → Prop
  | .lst xs => xs.length ≤ sizeLine ∧ ∃ (its : List Value) (n : Nat), Vals xs its ∧ h.get? a = some { cls := .type "list", data := .seq its.toArray n }
  | .tup xs => xs.length ≤ sizeLine ∧ ∃ its : List Value, Vals xs its ∧ IsTup h a its.toArray
  | .dK kvs => kvs.length ≤ sizeLine ∧ (a == sysModules) = false ∧ ∃ vs, KV kvs vs ∧ h.DictOf (mixKind P w) a vs
  | .dT kvs => kvs.length ≤ sizeLine ∧ (a == sysModules) = false ∧ ∃ xs : List (List Key × Addr × Value),
      Paired (fun (p : List Key × V) (q : List Key × Addr × Value) => p.1 = q.1 ∧ H q.2.1 = some (.tup (p.1.map kV)) ∧ RelV p.2 q.2.2) kvs xs ∧
      ∃ o es ep, h.get? a = some o ∧ o.ExactDict ∧ o.data = .dict es ep ∧ es.toList = xs.map (entryOfKey (tupleKind (mixKind P w))) ∧ (xs.map (·.1)).Nodup
  | .set S n => h.SetOf (intKind P w) a S n
  | .ins C dx fs => H dx = some (.own a) ∧ fs.length ≤ 1000 ∧ dx ≠ a ∧ h.get? a = some (PySem.W.instObj C dx) ∧
      ∃ mA, h.Ns1 dx mA ∧ (∀ f, RelO (fs.lookup f) (mA f)) ∧ PySem.Within mA (fs.map (·.1))
  | .own _ => ∃ o, h.get? a = some o
  | .xd fs => ∃ mA, h.Ns1 a mA ∧ ∀ f, RelO (fs.lookup f) (mA f)
  | .rng lo hi => ∃ t u v, h.get? a = some { cls := .type "range", data := .fields #[.int lo t, .int hi u, .int 1 v] }
  | .frz o u => h.get? a = some o ∧ ObjOk H h a u
  | .tbl ps => h.get? a = some { cls := .none, data := .fields ps }
  | .met f x => h.get? a = some (PySem.W.methodObj (.ref f) (.ref x))
  | .ext φ => φ h ∧ (∃ o, h.get? a = some o) ∧ ∀ h1 h2 : Heap, φ h1 → (∀ o, h1.get? a = some o → h2.get? a = some o) → φ h2
def HOk (H : Hp) (h : Heap) : Prop := ∀ a o, H a = some o → ObjOk P w H h a o
end
section
variable {P : Program} {w : World} {H H' : Hp} {h h' : Heap} {a : Addr} {o : HO}
theorem ObjOk.lt (x : ObjOk P w H h a o) : a < h.objs.size := by
  cases o with
  | lst xs => obtain ⟨_, _, _, _, e⟩ := x; exact Heap.lt_size e
  | tup xs => obtain ⟨_, _, _, p⟩ := x; exact p.lt
  | dK kvs => obtain ⟨_, _, _, _, o, _, _, e, _⟩ := x; exact Heap.lt_size e
  | dT kvs => obtain ⟨_, _, _, _, o, _, _, e, _⟩ := x; exact Heap.lt_size e
  | set S n => obtain ⟨o, _, _, _, e, _⟩ := x; exact Heap.lt_size e
  | ins C dx fs => obtain ⟨_, _, _, e, _⟩ := x; exact Heap.lt_size e
  | own y => obtain ⟨_, e⟩ := x; exact Heap.lt_size e
  | xd fs => obtain ⟨_, ⟨_, _, _, e, _⟩, _⟩ := x; exact Heap.lt_size e
  | rng lo hi => obtain ⟨_, _, _, e⟩ := x; exact Heap.lt_size e
  | frz ob u => obtain ⟨e, _⟩ := x; exact Heap.lt_size e
  | tbl ps => exact Heap.lt_size (show h.get? a = some _ from x)
  | met f y => exact Heap.lt_size (show h.get? a = some _ from x)
  | ext φ => obtain ⟨_, ⟨_, e⟩, _⟩ := x; exact Heap.lt_size e
theorem Paired.mapP {α β : Type} {F G : α → β → Prop} : ∀ {l₁ : List α} {l₂ : List β}, Paired F l₁ l₂ → (∀ a b, F a b → G a b) → Paired G l₁ l₂
  | _, _, .nil, _ => .nil
  | _, _, .cons r t, f => .cons (f _ _ r) (Paired.mapP t f)
theorem ObjOk.stay (x : ObjOk P w H h a o) (k : ∀ b u, (b = a ∨ H b = some (.own a)) → h.get? b = some u → h'.get? b = some u)
    (ho : ∀ b, H b = some (.own a) → H' b = some (.own a)) (ht : ∀ b xs, H b = some (.tup xs) → H' b = some (.tup xs)) : ObjOk P w H' h' a o := by
  induction o with
  | lst xs => obtain ⟨z, its, n, r, e⟩ := x; exact ⟨z, its, n, r, k _ _ (.inl rfl) e⟩
  | tup xs => obtain ⟨z, its, r, ob, e, c⟩ := x; exact ⟨z, its, r, ob, k _ _ (.inl rfl) e, c⟩
  | dK kvs => obtain ⟨z, y, vs, r, ob, es, ep, e, c⟩ := x; exact ⟨z, y, vs, r, ob, es, ep, k _ _ (.inl rfl) e, c⟩
  | dT kvs =>
    obtain ⟨z, y, xs, r, ob, es, ep, e, c⟩ := x
    exact ⟨z, y, xs, Paired.mapP r fun p q z => ⟨z.1, ht _ _ z.2.1, z.2.2⟩, ob, es, ep, k _ _ (.inl rfl) e, c⟩
  | set S n => obtain ⟨ob, es, ep, t, e, c⟩ := x; exact ⟨ob, es, ep, t, k _ _ (.inl rfl) e, c⟩
  | ins C dx fs =>
    obtain ⟨d, z, ne, e, mA, ⟨od, es, ep, e2, c⟩, r⟩ := x
    exact ⟨ho _ d, z, ne, k _ _ (.inl rfl) e, mA, ⟨od, es, ep, k _ _ (.inr d) e2, c⟩, r⟩
  | own y => obtain ⟨ob, e⟩ := x; exact ⟨ob, k _ _ (.inl rfl) e⟩
  | xd fs => obtain ⟨mA, ⟨od, es, ep, e, c⟩, r⟩ := x; exact ⟨mA, ⟨od, es, ep, k _ _ (.inl rfl) e, c⟩, r⟩
  | rng lo hi => obtain ⟨t, u, v, e⟩ := x; exact ⟨t, u, v, k _ _ (.inl rfl) e⟩
  | frz ob u ih => obtain ⟨e, q⟩ := x; exact ⟨k _ _ (.inl rfl) e, ih q⟩
  | tbl ps =>
    have e : h.get? a = some { cls := .none, data := .fields ps } := x
    show h'.get? a = some { cls := .none, data := .fields ps }
    exact k a _ (.inl rfl) e
  | met f y =>
    have e : h.get? a = some (PySem.W.methodObj (.ref f) (.ref y)) := x
    show h'.get? a = some (PySem.W.methodObj (.ref f) (.ref y))
    exact k a _ (.inl rfl) e
  | ext φ => obtain ⟨p, ⟨o, e⟩, st⟩ := x; exact ⟨st _ _ p fun o q => k _ _ (.inl rfl) q, ⟨o, k _ _ (.inl rfl) e⟩, st⟩
theorem HOk.lt (x : HOk P w H h) (e : H a = some o) : a < h.objs.size := (x a o e).lt
theorem HOk.fresh (x : HOk P w H h) (e : h.objs.size ≤ a) : H a = none := by
  cases q : H a with
  | none => rfl
  | some u => exact absurd (Nat.lt_of_lt_of_le (x.lt q) e) (Nat.lt_irrefl _)
theorem HOk.kept (x : HOk P w H h) (k : ∀ b u, h.get? b = some u → h'.get? b = some u) : HOk P w H h' := fun a o e =>
  (x a o e).stay (fun b u _ q => k b u q) (fun _ q => q) fun _ _ q => q
theorem HOk.laid (x : HOk P w H h) (k : ∀ b u, h.get? b = some u → h'.get? b = some u) (hp : h.objs.size ≤ a) (new : ObjOk P w (upd H a o) h' a o) : HOk P w (upd H a o) h' := fun b u e => by
  have hn := x.fresh hp
  by_cases hb : b = a
  · subst hb; rw [upd_same] at e; cases e; exact new
  · rw [upd_ne hb] at e
    exact (x b u e).stay (fun c v _ q => k c v q) (fun c q => by rw [upd_ne (ne_of_none q hn)]; exact q) fun c xs q => by rw [upd_ne (ne_of_none q hn)]; exact q
end
def Rd (H : Hp) (a : Addr) (u : HO) : Prop := H a = some u ∨ ∃ o, H a = some (.frz o u)
theorem Rd.of {H : Hp} {a : Addr} {u : HO} (h : H a = some u) : Rd H a u := .inl h
theorem Rd.ok {P : Program} {w : World} {H : Hp} {h : Heap} {a : Addr} {u : HO} (r : Rd H a u) (x : HOk P w H h) : ObjOk P w H h a u := by
  rcases r with r | ⟨o, r⟩
  · exact x a u r
  · obtain ⟨_, q⟩ := x a _ r
    exact q
def Mut : Option HO → Prop
  | some (.lst _) => True
  | some (.dK _) => True
  | some (.dT _) => True
  | some (.set _ _) => True
  | some (.ins _ _ _) => True
  | some (.ext _) => True
  | _ => False
section
variable {P : Program} {w : World} {H : Hp} {h h' : Heap} {x e : Addr} {o' : HO}
theorem HOk.write (ok : HOk P w H h) (mu : Mut (H x)) (he : e = x ∨ H e = some (.own x)) (k : ∀ b u, b ≠ e → h.get? b = some u → h'.get? b = some u) (heo : ∃ u, h'.get? e = some u)
    (new : ObjOk P w (upd H x o') h' x o') : HOk P w (upd H x o') h' := fun b u q => by
  have nown : ∀ c y, H c = some (.own y) → c ≠ x := fun c y r z => by subst z; rw [r] at mu; exact mu
  have ntup : ∀ c xs, H c = some (.tup xs) → c ≠ x := fun c xs r z => by subst z; rw [r] at mu; exact mu
  by_cases hb : b = x
  · subst hb; rw [upd_same] at q; cases q; exact new
  · rw [upd_ne hb] at q
    by_cases hbe : b = e
    · have q' : H b = some (.own x) := by
        rcases he with z | z
        · exact absurd (hbe.trans z) hb
        · rw [hbe]; exact z
      rw [q] at q'; cases q'
      obtain ⟨v, hv⟩ := heo
      exact ⟨v, by rw [hbe]; exact hv⟩
    · refine (ok b u q).stay (fun c v hc r => k c v ?_ r) (fun c r => by rw [upd_ne (nown c b r)]; exact r) fun c xs r => by rw [upd_ne (ntup c xs r)]; exact r
      rcases hc with rfl | hc
      · exact hbe
      · rintro rfl
        rcases he with z | z
        · exact nown c b hc z
        · rw [hc] at z; cases z; exact hb rfl
end
structure Un (fs ex : List Addr) (H H' : Hp) (h h' : Heap) : Prop where
  keep : ∀ b o, h.get? b = some o → H b = none → b ∉ fs → b ∉ ex → h'.get? b = some o
  slot : ∀ b o, h.get? b = some o → H b = none → b ∈ fs → b ∉ ex → ∃ sl, h'.get? b = some { o with slots := sl }
  free : ∀ b o, h.get? b = some o → H b = none → b ∉ ex → H' b = none
  there : ∀ b o, h.get? b = some o → b ∉ ex → ∃ o', h'.get? b = some o'
  tups : ∀ b xs, H b = some (.tup xs) → H' b = some (.tup xs)
  frzs : ∀ b o u, H b = some (.frz o u) → H' b = some (.frz o u)
  tbls : ∀ b ps, H b = some (.tbl ps) → ∃ more, H' b = some (.tbl (ps ++ more))
section
variable {fs fs' ex ex' : List Addr} {H H1 H2 : Hp} {h h1 h2 h' : Heap} {a x e : Addr} {o : HO}
theorem Un.any (u : Un fs ex H H1 h h1) {b : Addr} {ob : Obj} (q : h.get? b = some ob) (n : H b = none) (hx : b ∉ ex) : ∃ sl, h1.get? b = some { ob with slots := sl } := by
  by_cases hb : b ∈ fs
  · exact u.slot b ob q n hb hx
  · exact ⟨ob.slots, u.keep b ob q n hb hx⟩
theorem Un.trans (a : Un fs ex H H1 h h1) (b : Un fs ex H1 H2 h1 h2) : Un fs ex H H2 h h2 where
  keep := fun c ob q n hc hx => b.keep c ob (a.keep c ob q n hc hx) (a.free c ob q n hx) hc hx
  slot := fun c ob q n hc hx => by
    obtain ⟨sl, e1⟩ := a.slot c ob q n hc hx
    obtain ⟨sl', e2⟩ := b.slot c _ e1 (a.free c ob q n hx) hc hx
    exact ⟨sl', e2⟩
  free := fun c ob q n hx => by
    obtain ⟨o', e1⟩ := a.there c ob q hx
    exact b.free c o' e1 (a.free c ob q n hx) hx
  there := fun c ob q hx => by
    obtain ⟨o', e1⟩ := a.there c ob q hx
    exact b.there c o' e1 hx
  tups := fun c xs q => b.tups c xs (a.tups c xs q)
  frzs := fun c ob xs q => b.frzs c ob xs (a.frzs c ob xs q)
  tbls := fun c ps q => by
    obtain ⟨m1, e1⟩ := a.tbls c ps q
    obtain ⟨m2, e2⟩ := b.tbls c _ e1
    exact ⟨m1 ++ m2, by rw [e2, Array.append_assoc]⟩
theorem Un.kept (k : ∀ b u, h.get? b = some u → h'.get? b = some u) : Un fs ex H H h h' :=
  ⟨fun b ob q _ _ _ => k b ob q, fun b ob q _ _ _ => ⟨ob.slots, k b ob q⟩, fun _ _ _ n _ => n, fun b ob q _ => ⟨ob, k b ob q⟩, fun _ _ q => q, fun _ _ _ q => q, fun _ ps q => ⟨#[], by rw [q]; simp⟩⟩
theorem Un.refl : Un fs ex H H h h := Un.kept fun _ _ q => q
theorem Un.laid (k : ∀ b u, h.get? b = some u → h'.get? b = some u) (hp : h.objs.size ≤ a) (hn : H a = none) : Un fs ex H (upd H a o) h h' where
  keep := fun b u q _ _ _ => k b u q
  slot := fun b u q _ _ _ => ⟨u.slots, k b u q⟩
  free := fun b u q n _ => by rw [upd_ne (Nat.ne_of_lt (Nat.lt_of_lt_of_le (Heap.lt_size q) hp))]; exact n
  there := fun b u q _ => ⟨u, k b u q⟩
  tups := fun b xs q => by rw [upd_ne (ne_of_none q hn)]; exact q
  frzs := fun b u xs q => by rw [upd_ne (ne_of_none q hn)]; exact q
  tbls := fun b ps q => ⟨#[], by rw [upd_ne (ne_of_none q hn), q]; simp⟩
theorem Un.write (mu : Mut (H x)) (he : e = x ∨ H e = some (.own x)) (k : ∀ b u, b ≠ e → h.get? b = some u → h'.get? b = some u) (heo : ∃ u, h'.get? e = some u) : Un fs ex H (upd H x o) h h' := by
  have hx : ∀ b, H b = none → b ≠ x := fun b n z => by subst z; rw [n] at mu; exact mu
  have hb : ∀ b, H b = none → b ≠ e := fun b n z => by
    subst z
    rcases he with r | r
    · exact hx b n r
    · rw [n] at r; cases r
  have hm : ∀ b u, H b = some u → ¬ Mut (some u) → b ≠ x := fun b u q nm z => by subst z; rw [q] at mu; exact nm mu
  refine ⟨fun b u q n _ _ => k b u (hb b n) q, fun b u q n _ _ => ⟨u.slots, k b u (hb b n) q⟩, fun b u q n _ => by rw [upd_ne (hx b n)]; exact n, fun b u q _ => ?_,
    fun b xs q => by rw [upd_ne (hm b _ q fun z => z)]; exact q, fun b u xs q => by rw [upd_ne (hm b _ q fun z => z)]; exact q, fun b ps q => ⟨#[], by rw [upd_ne (hm b _ q fun z => z), q]; simp⟩⟩
  by_cases hbe : b = e
  · subst hbe; exact heo
  · exact ⟨u, k b u hbe q⟩
theorem Un.mono (u : Un fs ex H H1 h h1) (hs : ∀ b ∈ fs, b ∈ fs') (hx : ∀ b ∈ ex, b ∈ ex') : Un fs' ex' H H1 h h1 :=
  ⟨fun b ob q n hb he => u.keep b ob q n (fun z => hb (hs b z)) fun z => he (hx b z), fun _ _ q n _ he => u.any q n fun z => he (hx _ z), fun b ob q n he => u.free b ob q n fun z => he (hx b z), fun b ob q he => u.there b ob q fun z => he (hx b z), u.tups, u.frzs, u.tbls⟩
end
def trk (h : Heap) (H : Hp) : List Addr := (List.range h.objs.size).filter fun a => (H a).isSome
def hidT (h : Heap) (H : Hp) : Heap := PySem.W.hideAll h (trk h H)
theorem hidT_size (h : Heap) (H : Hp) : (hidT h H).objs.size = h.objs.size := PySem.W.hideAll_size _ _
theorem hidT_get {h : Heap} {H : Hp} {b : Addr} {o : Obj} (e : h.get? b = some o) (n : H b = none) : (hidT h H).get? b = some o :=
  PySem.W.hideAll_get _ e fun hm => by
    have q : (H b).isSome = true := (List.mem_filter.mp hm).2
    rw [n] at q; simp at q
theorem of_hidT {h : Heap} {H : Hp} {b : Addr} {o : Obj} (e : (hidT h H).get? b = some o) : h.get? b = some o ∧ H b = none := by
  have e' : h.get? b = some o := PySem.W.of_hideAll (trk h H) e
  refine ⟨e', ?_⟩
  cases q : H b with
  | none => rfl
  | some x =>
    have hm : b ∈ trk h H := List.mem_filter.mpr ⟨List.mem_range.mpr (Heap.lt_size e'), by simp [q]⟩
    have z : (hidT h H).get? b = none := PySem.W.hideAll_none (trk h H) hm
    rw [z] at e; cases e
def allNews (g h : Heap) (L : Addr) : List (Addr × Obj) := (List.range h.objs.size).filterMap fun a => if a = L ∨ (g.get? a).isSome = true then none else (h.get? a).map fun o => (a, o)
def rest (g h : Heap) (L d : Addr) : List (Addr × Obj) := (allNews g h L).filter fun p => decide (p.1 ≠ d)
end L2
namespace L2
open PySem PySem.Spec PyProof.Rows
structure Mod (K : PySem.W.Frag) (mg : Str → Option Value) (base : Heap) : Prop where
  kin : K.In base
  glob : base.Ns mainGlobals mg
  blt : ∃ mb, base.Ns builtinsNs mb ∧ ∀ x : Str, x ≠ "__name__" → mb x = bootBuiltins x
  nolimit : base.NoLimit
structure Cx where
  prog : Program
  w : World
  K : PySem.W.Frag
  mg : Str → Option Value
  base : Heap
  A : Around
  N : List Str
  s₀ : Shared
  H₀ : Hp
  env : Env
  outer : List Env
  stack : List Env
  ex : List Addr
  fn : Str → Bool
  calm : Bool
  pn : List (Addr × Obj)
  xe : Value → Shared → Prop
def frs (l : List Env) : List Addr := l.filterMap (·.frame)
abbrev Cx.fs (X : Cx) : List Addr := frs X.outer
def Vis (sc : Scope) (x : Str) : Prop := sc.names.lookup x = some .local ∨ sc.names.lookup x = some .cell ∨ sc.names.lookup x = some .free
def Loc (sc : Scope) (x : Str) : Prop := sc.names.lookup x = some .local ∨ sc.names.lookup x = some .cell
def Look (env : Env) (h : Heap) (m : Str → Option Value) (x : Str) (u : Value) : Prop :=
  (env.kindOf x = some .local ∧ m x = some u) ∨ ((env.kindOf x = some .cell ∨ env.kindOf x = some .free) ∧ ∃ c, env.cells.lookup x = some c ∧ h.IsCell c (some u))
structure Cx.Ok (X : Cx) : Prop where
  mod : Mod X.K X.mg X.base
  kind : X.env.scope.kind = .function
  glob : X.env.globals = mainGlobals
  blt : X.env.builtins = builtinsNs
  above : X.s₀.heap.objs.size ≤ X.env.locals
  inj : ∀ x y c, X.env.cells.lookup x = some c → X.env.cells.lookup y = some c → x = y
  has : ∀ x, (X.env.kindOf x = some .cell ∨ X.env.kindOf x = some .free) → ∃ c, X.env.cells.lookup x = some c
  cab : ∀ x c, X.fn x = true → X.env.cells.lookup x = some c → X.s₀.heap.objs.size ≤ c
  hd : X.calm = true → X.A.handled = none
  frames : X.A.frames = some X.stack
  stk : X.stack = X.outer ∨ (X.stack = X.env :: X.outer ∧ X.env.frame = some X.env.locals)
  exf : ∀ b ∈ X.ex, b ≠ X.env.locals ∧ ∀ x c, X.env.cells.lookup x = some c → c ≠ b
  bs : ∀ b o, X.base.get? b = some o → X.s₀.heap.get? b = some o ∧ X.H₀ b = none
  bsz : X.base.objs.size ≤ X.s₀.heap.objs.size
  noex : ∀ b o, X.base.get? b = some o → b ∉ X.ex
  exfs : ∀ b ∈ X.ex, b ∉ X.fs
  funs : X.s₀.heap.FunFrames X.base X.outer
  frf : ∀ b ∈ X.fs, X.H₀ b = none
structure Inv (X : Cx) (pins : List (Addr × Obj)) (σ : List (Option V)) (H : Hp) (s : Shared) : Prop where
  ok : X.Ok
  os : s.os = X.s₀.os
  bare : AllBare s.gens
  base : Un X.fs X.ex X.H₀ H X.s₀.heap s.heap
  loc : ∃ m, s.heap.Ns X.env.locals m ∧ ∀ (i : Nat) (x : Str) (v : V), X.N[i]? = some x → σ[i]? = some (some v) → Vis X.env.scope x → ∃ u, RelV v u ∧ Look X.env s.heap m x u
  cell : ∀ x c, X.env.cells.lookup x = some c → ∃ v, s.heap.IsCell c v
  free : H X.env.locals = none
  freeC : ∀ x c, X.env.cells.lookup x = some c → H c = none
  pin : ∀ p ∈ X.pn ++ pins, s.heap.get? p.1 = some p.2 ∧ H p.1 = none ∧ p.1 ≠ X.env.locals ∧ p.1 ∉ X.fs ∧ ∀ v, p.2.data ≠ .cell v
  hok : HOk X.prog X.w H s.heap
  len : σ.length = X.N.length
section
variable {X : Cx} {pins : List (Addr × Obj)} {σ : List (Option V)} {H H' : Hp} {s : Shared} {h' : Heap}
theorem Cx.Ok.nofr (ok : X.Ok) {b : Addr} {o : Obj} (e : X.base.get? b = some o) : b ∉ X.fs := fun hb => by
  have := (ok.funs.mem hb).1
  rw [e] at this; cases this
theorem Inv.bs (I : Inv X pins σ H s) : ∀ b o, X.base.get? b = some o → s.heap.get? b = some o ∧ H b = none := fun b o e =>
  ⟨I.base.keep b o (I.ok.bs b o e).1 (I.ok.bs b o e).2 (I.ok.nofr e) (I.ok.noex b o e), I.base.free b o (I.ok.bs b o e).1 (I.ok.bs b o e).2 (I.ok.noex b o e)⟩
theorem Inv.bk (I : Inv X pins σ H s) : ∀ b o, X.base.get? b = some o → s.heap.get? b = some o := fun b o e => (I.bs b o e).1
theorem Inv.mod (I : Inv X pins σ H s) : Mod X.K X.mg X.base := I.ok.mod
theorem Inv.kIn (I : Inv X pins σ H s) : X.K.In s.heap := I.ok.mod.kin.keeps I.bk
theorem Inv.nolimit (I : Inv X pins σ H s) : s.heap.NoLimit := I.ok.mod.nolimit.keeps I.bk
theorem Inv.fr (I : Inv X pins σ H s) : ∃ m, Fr X.base X.env.locals s.heap m :=
  let ⟨m, hn, _⟩ := I.loc
  ⟨m, hn, I.bk, Nat.le_trans I.ok.bsz I.ok.above⟩
theorem Inv.lt (I : Inv X pins σ H s) : X.env.locals < s.heap.objs.size := let ⟨_, hn, _⟩ := I.loc; hn.lt
theorem Inv.sz (I : Inv X pins σ H s) : X.s₀.heap.objs.size ≤ s.heap.objs.size := Nat.le_trans I.ok.above (Nat.le_of_lt I.lt)
theorem Inv.nofs (I : Inv X pins σ H s) {a : Addr} (h : s.heap.objs.size ≤ a) : a ∉ X.fs := fun hb => by
  obtain ⟨_, o, ho, _⟩ := I.ok.funs.mem hb
  exact absurd (Nat.lt_of_lt_of_le (Heap.lt_size ho) (Nat.le_trans I.sz h)) (Nat.lt_irrefl _)
theorem Inv.cne (I : Inv X pins σ H s) : ∀ x c, X.env.cells.lookup x = some c → c ≠ X.env.locals := fun x c e z => by
  obtain ⟨v, o, ho, hd⟩ := I.cell x c e
  obtain ⟨m, ⟨o', es, ep, ho', hd', _⟩, _⟩ := I.loc
  rw [z, ho'] at ho; cases ho; rw [hd'] at hd; cases hd
theorem Inv.funs (I : Inv X pins σ H s) : s.heap.FunFrames X.base X.outer := by
  have all : ∀ (l : List Env), (∀ b ∈ frs l, b ∈ X.fs) → X.s₀.heap.FunFrames X.base l → s.heap.FunFrames X.base l := by
    intro l
    induction l with
    | nil => intro _ _; trivial
    | cons env r ih =>
      intro hs hl
      obtain ⟨hk, ⟨L, o, hf, hn, ho, hd⟩, hr⟩ := hl
      have hL : L ∈ X.fs := hs L (by unfold frs; rw [List.filterMap_cons, hf]; exact List.mem_cons_self)
      obtain ⟨sl, e⟩ := I.base.slot L o ho (I.ok.frf L hL) hL fun z => I.ok.exfs L z hL
      exact ⟨hk, ⟨L, _, hf, hn, e, hd⟩, ih (fun b hb => hs b (by unfold frs; rw [List.filterMap_cons, hf]; exact List.mem_cons_of_mem _ hb)) hr⟩
  exact all X.outer (fun _ hb => hb) I.ok.funs
theorem Inv.stack (I : Inv X pins σ H s) : s.heap.FunFrames X.base X.stack := by
  rcases I.ok.stk with e | ⟨e, hf⟩
  · rw [e]; exact I.funs
  · rw [e]
    obtain ⟨m, hn, _⟩ := I.loc
    refine .cons (by rw [I.ok.kind]; decide) hf hn ?_ I.funs
    exact Heap.get?_none_of_le (Nat.le_trans I.ok.bsz I.ok.above)
theorem Inv.stkSub (I : Inv X pins σ H s) : ∀ b ∈ frs X.stack, b ∈ X.env.locals :: X.fs := fun b hb => by
  rcases I.ok.stk with e | ⟨e, hf⟩
  · rw [e] at hb; exact List.mem_cons_of_mem _ hb
  · rw [e] at hb
    unfold frs at hb
    rw [List.filterMap_cons, hf] at hb
    exact hb
theorem Inv.stkFree (I : Inv X pins σ H s) : ∀ b ∈ frs X.stack, H b = none := fun b hb => by
  rcases List.mem_cons.mp (I.stkSub b hb) with e | hb
  · rw [e]; exact I.free
  · obtain ⟨_, o, ho, _⟩ := I.ok.funs.mem hb
    exact I.base.free b o ho (I.ok.frf b hb) fun z => I.ok.exfs b z hb
theorem Inv.step {g' : Array GenState} {t' : Nat} {d' : Drawn} {ch : List Addr} (I : Inv X pins σ H s)
    (hch : ∀ b ∈ ch, (b ∈ X.ex ∨ X.s₀.heap.objs.size ≤ b) ∧ b ≠ X.env.locals ∧ (∀ x c, X.env.cells.lookup x = some c → c ≠ b) ∧ ∀ p ∈ X.pn ++ pins, p.1 ≠ b)
    (keep : ∀ b o, b ≠ X.env.locals → b ∉ X.fs → b ∉ ch → s.heap.get? b = some o → H b = none → h'.get? b = some o)
    (slot : ∀ b o, b ≠ X.env.locals → b ∈ X.fs → b ∉ ch → s.heap.get? b = some o → H b = none → ∃ sl, h'.get? b = some { o with slots := sl }) (free : ∀ b o, b ∉ ch → s.heap.get? b = some o → H b = none → H' b = none)
    (there : ∀ b o, b ∉ ch → s.heap.get? b = some o → ∃ o', h'.get? b = some o')
    (tups : ∀ b xs, H b = some (.tup xs) → H' b = some (.tup xs)) (frzs : ∀ b o u, H b = some (.frz o u) → H' b = some (.frz o u)) (tbls : ∀ b ps, H b = some (.tbl ps) → ∃ more, H' b = some (.tbl (ps ++ more)))
    (ns : ∀ m, s.heap.Ns X.env.locals m → h'.Ns X.env.locals m) (hok : HOk X.prog X.w H' h') (hg : AllBare g') :
    Inv X pins σ H' { s with heap := h', gens := g', drawn := d', toks := t' } := by
  have neL : ∀ b o, X.s₀.heap.get? b = some o → b ≠ X.env.locals := fun b o e => Nat.ne_of_lt (Nat.lt_of_lt_of_le (Heap.lt_size e) I.ok.above)
  have neC : ∀ b o, X.s₀.heap.get? b = some o → b ∉ X.ex → b ∉ ch := fun b o e hx hb => by
    rcases (hch b hb).1 with z | z
    · exact hx z
    · exact absurd (Nat.lt_of_lt_of_le (Heap.lt_size e) z) (Nat.lt_irrefl _)
  have cellK : ∀ x c, X.env.cells.lookup x = some c → ∀ v, s.heap.IsCell c v → h'.IsCell c v := fun x c e v ⟨o, ho, hd⟩ => by
    have nch : c ∉ ch := fun z => (hch c z).2.2.1 x c e rfl
    by_cases hc : c ∈ X.fs
    · obtain ⟨sl, q⟩ := slot c o (I.cne x c e) hc nch ho (I.freeC x c e)
      exact ⟨_, q, hd⟩
    · exact ⟨o, keep c o (I.cne x c e) hc nch ho (I.freeC x c e), hd⟩
  refine ⟨I.ok, I.os, hg, ⟨fun b o e n hb hx => ?_, fun b o e n hb hx => ?_, fun b o e n hx => ?_, fun b o e hx => ?_, fun b xs e => tups b xs (I.base.tups b xs e), fun b o xs e => frzs b o xs (I.base.frzs b o xs e), fun b ps e => ?_⟩, ?_, fun x c e => ?_, ?_, fun x c e => ?_, fun p hp => ?_, hok, I.len⟩
  · exact keep b o (neL b o e) hb (neC b o e hx) (I.base.keep b o e n hb hx) (I.base.free b o e n hx)
  · obtain ⟨sl, e1⟩ := I.base.slot b o e n hb hx
    obtain ⟨sl', e2⟩ := slot b _ (neL b o e) hb (neC b o e hx) e1 (I.base.free b o e n hx)
    exact ⟨sl', e2⟩
  · obtain ⟨o', e1⟩ := I.base.there b o e hx
    exact free b o' (neC b o e hx) e1 (I.base.free b o e n hx)
  · obtain ⟨o', e1⟩ := I.base.there b o e hx
    exact there b o' (neC b o e hx) e1
  · obtain ⟨m1, e1⟩ := I.base.tbls b ps e
    obtain ⟨m2, e2⟩ := tbls b _ e1
    exact ⟨m1 ++ m2, by rw [e2, Array.append_assoc]⟩
  · obtain ⟨m, hn, hl⟩ := I.loc
    refine ⟨m, ns m hn, fun i x v e1 e2 e3 => ?_⟩
    obtain ⟨u, r, l⟩ := hl i x v e1 e2 e3
    refine ⟨u, r, ?_⟩
    rcases l with l | ⟨k, c, e, z⟩
    · exact .inl l
    · exact .inr ⟨k, c, e, cellK x c e _ z⟩
  · obtain ⟨v, z⟩ := I.cell x c e
    exact ⟨v, cellK x c e v z⟩
  · obtain ⟨m, ⟨o, _, _, ho, _⟩, _⟩ := I.loc
    exact free _ o (fun z => (hch _ z).2.1 rfl) ho I.free
  · obtain ⟨v, o, ho, hd⟩ := I.cell x c e
    exact free c o (fun z => (hch c z).2.2.1 x c e rfl) ho (I.freeC x c e)
  · obtain ⟨e, n, ne, nf, d⟩ := I.pin p hp
    have nch : p.1 ∉ ch := fun z => (hch p.1 z).2.2.2 p hp rfl
    exact ⟨keep p.1 p.2 ne nf nch e n, free p.1 p.2 nch e n, ne, nf, d⟩
theorem Inv.un {t' : Nat} (I : Inv X pins σ H s) (u : Un X.fs [] H H' s.heap h') (hok : HOk X.prog X.w H' h') : Inv X pins σ H' { s with heap := h', toks := t' } := by
  obtain ⟨m, ⟨o, es, ep, ho, r⟩, _⟩ := id I.loc
  obtain ⟨sl, hL⟩ := u.any ho I.free (by simp)
  exact I.step (g' := s.gens) (d' := s.drawn) (ch := []) (fun _ z => nomatch z) (fun b o _ hb _ e n => u.keep b o e n hb (by simp)) (fun b o _ hb _ e n => u.slot b o e n hb (by simp)) (fun b o _ e n => u.free b o e n (by simp)) (fun b o _ e => u.there b o e (by simp)) u.tups u.frzs u.tbls (fun m' hm => by
    obtain ⟨o', es', ep', ho', r'⟩ := hm
    rw [ho] at ho'; cases ho'
    exact ⟨_, es', ep', hL, r'⟩) hok I.bare
theorem Inv.call {g' : Array GenState} {t' : Nat} {d' : Drawn} {ch : List Addr} (I : Inv X pins σ H s) (u : Un (frs X.stack) ch H H' s.heap h') (hok : HOk X.prog X.w H' h') (hg : AllBare g')
    (hch : ∀ b ∈ ch, (b ∈ X.ex ∨ X.s₀.heap.objs.size ≤ b) ∧ b ≠ X.env.locals ∧ (∀ x c, X.env.cells.lookup x = some c → c ≠ b) ∧ ∀ p ∈ X.pn ++ pins, p.1 ≠ b) :
    Inv X pins σ H' { s with heap := h', gens := g', drawn := d', toks := t' } := by
  obtain ⟨m, ⟨o, es, ep, ho, r⟩, _⟩ := id I.loc
  obtain ⟨sl, hL⟩ := u.any ho I.free fun z => (hch _ z).2.1 rfl
  exact I.step (ch := ch) hch (fun b o hL hb hc e n => u.keep b o e n (fun z => (List.mem_cons.mp (I.stkSub b z)).elim hL hb) hc) (fun b o _ _ hc e n => u.any e n hc) (fun b o hc e n => u.free b o e n hc) (fun b o hc e => u.there b o e hc) u.tups u.frzs u.tbls (fun m' hm => by
    obtain ⟨o', es', ep', ho', r'⟩ := hm
    rw [ho] at ho'; cases ho'
    exact ⟨_, es', ep', hL, r'⟩) hok hg
theorem Inv.turned {t' : Nat} {it : Addr} (I : Inv X pins σ H s) (k : ∀ b o, b ≠ it → s.heap.get? b = some o → h'.get? b = some o) (hn : H it = none) (hL : it ≠ X.env.locals)
    (h1 : it ∈ X.ex ∨ X.s₀.heap.objs.size ≤ it) (h2 : ∀ x c, X.env.cells.lookup x = some c → c ≠ it) (h3 : ∀ p ∈ X.pn ++ pins, p.1 ≠ it) : Inv X pins σ H { s with heap := h', toks := t' } := by
  have nit : ∀ b u, H b = some u → b ≠ it := fun b u e z => by rw [z, hn] at e; cases e
  refine I.step (g' := s.gens) (d' := s.drawn) (ch := [it]) (fun b hb => ?_) (fun b o _ _ hc e _ => k b o (fun z => hc (by simp [z])) e) (fun b o _ _ hc e _ => ⟨o.slots, k b o (fun z => hc (by simp [z])) e⟩) (fun _ _ _ _ n => n)
    (fun b o hc e => ⟨o, k b o (fun z => hc (by simp [z])) e⟩) (fun _ _ e => e) (fun _ _ _ e => e) (fun b ps e => ⟨#[], by rw [e]; simp⟩) (fun m hm => ?_) (fun b u e => ?_) I.bare
  · have e : b = it := by simpa using hb
    subst e
    exact ⟨h1, hL, h2, h3⟩
  · obtain ⟨o, es, ep, ho, r⟩ := hm
    exact ⟨o, es, ep, k _ o (Ne.symm hL) ho, r⟩
  · refine (I.hok b u e).stay (fun c v hc q => k c v ?_ q) (fun _ q => q) fun _ _ q => q
    rcases hc with z | z
    · rw [z]; exact nit b u e
    · exact nit c _ z
theorem Inv.tok (I : Inv X pins σ H s) (t : Nat) : Inv X pins σ H { s with toks := t } := I.un (h' := s.heap) (t' := t) Un.refl I.hok
theorem Inv.kept {t' : Nat} (I : Inv X pins σ H s) (k : ∀ b u, s.heap.get? b = some u → h'.get? b = some u) : Inv X pins σ H { s with heap := h', toks := t' } := I.un (Un.kept k) (I.hok.kept k)
theorem Inv.laid {a : Addr} {o : HO} {t' : Nat} (I : Inv X pins σ H s) (k : ∀ b u, s.heap.get? b = some u → h'.get? b = some u) (hp : s.heap.objs.size ≤ a) (new : ObjOk X.prog X.w (upd H a o) h' a o) :
    Inv X pins σ (upd H a o) { s with heap := h', toks := t' } := I.un (Un.laid k hp (I.hok.fresh hp)) (I.hok.laid k hp new)
theorem Inv.write {x e : Addr} {o : HO} {t' : Nat} (I : Inv X pins σ H s) (mu : Mut (H x)) (he : e = x ∨ H e = some (.own x)) (k : ∀ b u, b ≠ e → s.heap.get? b = some u → h'.get? b = some u) (heo : ∃ u, h'.get? e = some u)
    (new : ObjOk X.prog X.w (upd H x o) h' x o) : Inv X pins σ (upd H x o) { s with heap := h', toks := t' } := I.un (Un.write mu he k heo) (I.hok.write mu he k heo new)
theorem Inv.weak {σ' : List (Option V)} (I : Inv X pins σ H s) (hl : σ'.length = σ.length) (w : ∀ (i : Nat) v, σ'[i]? = some (some v) → σ[i]? = some (some v)) : Inv X pins σ' H s :=
  ⟨I.ok, I.os, I.bare, I.base, let ⟨m, hn, hl'⟩ := I.loc; ⟨m, hn, fun i x v e1 e2 e3 => hl' i x v e1 (w i v e2) e3⟩, I.cell, I.free, I.freeC, I.pin, I.hok, hl.trans I.len⟩
theorem Inv.pins_of {pins' : List (Addr × Obj)} (I : Inv X pins σ H s) (h : ∀ p ∈ pins', s.heap.get? p.1 = some p.2 ∧ H p.1 = none ∧ p.1 ≠ X.env.locals ∧ p.1 ∉ X.fs ∧ ∀ v, p.2.data ≠ .cell v) : Inv X pins' σ H s :=
  ⟨I.ok, I.os, I.bare, I.base, I.loc, I.cell, I.free, I.freeC, fun p hp => (List.mem_append.mp hp).elim (fun z => I.pin p (List.mem_append_left _ z)) (h p), I.hok, I.len⟩
theorem nodup_ix {N : List Str} (hN : N.Nodup) {i j : Nat} {x : Str} (a : N[i]? = some x) (b : N[j]? = some x) : i = j := by
  obtain ⟨h1, e1⟩ := List.getElem?_eq_some_iff.mp a
  obtain ⟨h2, e2⟩ := List.getElem?_eq_some_iff.mp b
  exact (List.getElem_inj hN).mp (e1.trans e2.symm)
theorem store_ok2 {M : Model} {A : Around} {E : Value → Shared → Prop} {i : Nat} {x : Str} {v : V} {u : Value} {Q : Unit → Shared → Prop} (I : Inv X pins σ H s) (hN : X.N.Nodup) (hi : X.N[i]? = some x) (hx : Loc X.env.scope x) (r : RelV v u)
    (h : ∀ s', Inv X pins (σ.set i (some v)) H s' → (∃ a, Heap.SameBut a s.heap s'.heap ∧ (a = X.env.locals ∨ X.env.cells.lookup x = some a)) → Q () s') (hf : X.fn x = true ∨ X.env.scope.names.lookup x = some .local := by first | exact .inl rfl | exact .inr rfl | assumption) : wpAny M A (storeName X.env x u) Q E s := by
  obtain ⟨m, hn, hl⟩ := id I.loc
  have hcls : (X.env.scope.kind == .class || (X.env.scope.kind == .module && X.env.locals != X.env.globals)) = false := by rw [I.ok.kind]; rfl
  have hiσ : i < σ.length := by rw [I.len]; exact (List.getElem?_eq_some_iff.mp hi).1
  have cne := I.cne
  have tracked : ∀ {a : Addr} {h' : Heap}, (∃ o, s.heap.get? a = some o ∧ H a = none) → Heap.SameBut a s.heap h' → HOk X.prog X.w H h' := fun {a h'} ha hs b ob e => by
    obtain ⟨_, _, hfree⟩ := ha
    refine (I.hok b ob e).stay (fun c w' hc q => (hs.2 c ?_).trans q) (fun _ q => q) fun _ _ q => q
    rintro rfl
    rcases hc with rfl | hc
    · rw [hfree] at e; cases e
    · rw [hfree] at hc; cases hc
  rcases hx with hk | hk
  · refine wpAny_storeName_local hk hn (fun h' hn' hs => ?_) hcls
    obtain ⟨oL, _, _, hoL, _⟩ := id hn
    refine h _ ⟨I.ok, I.os, I.bare, ⟨fun b o e n hb hx => ?_, fun b o e n hb hx => ?_, I.base.free, fun b o e hx => ?_, I.base.tups, I.base.frzs, I.base.tbls⟩, ⟨_, hn', fun j y v' e1 e2 e3 => ?_⟩, fun y c e => ?_, I.free, I.freeC, fun p hp => ?_, tracked ⟨oL, hoL, I.free⟩ hs, by simpa using I.len⟩ ⟨_, hs, .inl rfl⟩
    · exact (hs.2 b (Nat.ne_of_lt (Nat.lt_of_lt_of_le (Heap.lt_size e) I.ok.above))).trans (I.base.keep b o e n hb hx)
    · obtain ⟨sl, e1⟩ := I.base.slot b o e n hb hx
      exact ⟨sl, (hs.2 b (Nat.ne_of_lt (Nat.lt_of_lt_of_le (Heap.lt_size e) I.ok.above))).trans e1⟩
    · obtain ⟨o', e1⟩ := I.base.there b o e hx
      exact ⟨o', (hs.2 b (Nat.ne_of_lt (Nat.lt_of_lt_of_le (Heap.lt_size e) I.ok.above))).trans e1⟩
    · by_cases hj : j = i
      · subst hj
        rw [hi] at e1; cases e1
        rw [List.getElem?_set_self hiσ] at e2
        cases e2
        exact ⟨u, r, .inl ⟨hk, by simp⟩⟩
      · rw [List.getElem?_set_ne (Ne.symm hj)] at e2
        obtain ⟨u', r', q⟩ := hl j y v' e1 e2 e3
        refine ⟨u', r', ?_⟩
        rcases q with ⟨k, e⟩ | ⟨k, c, e, z⟩
        · refine .inl ⟨k, ?_⟩
          have : y ≠ x := fun e => hj (nodup_ix hN e1 (e ▸ hi))
          simp [this, e]
        · exact .inr ⟨k, c, e, z.sameBut hs (cne y c e)⟩
    · obtain ⟨w', z⟩ := I.cell y c e
      exact ⟨w', z.sameBut hs (cne y c e)⟩
    · obtain ⟨e, n, ne, nf, d⟩ := I.pin p hp
      exact ⟨(hs.2 p.1 ne).trans e, n, ne, nf, d⟩
  · have hfn : X.fn x = true := by
      rcases hf with z | z
      · exact z
      · rw [z] at hk; cases hk
    obtain ⟨c, hc⟩ := I.ok.has x (.inl hk)
    obtain ⟨w', z⟩ := I.cell x c hc
    refine wpAny_storeName_cell I.ok.kind hk hc z (fun h' hc' hs => ?_)
    obtain ⟨oc, hoc, hocd⟩ := id z
    refine h { s with heap := h' } ⟨I.ok, I.os, I.bare, ⟨fun b o e n hb hx => ?_, fun b o e n hb hx => ?_, I.base.free, fun b o e hx => ?_, I.base.tups, I.base.frzs, I.base.tbls⟩, ⟨m, hn.sameBut hs (Ne.symm (cne x c hc)), fun j y v' e1 e2 e3 => ?_⟩, fun y c' e => ?_, I.free, I.freeC, fun p hp => ?_, tracked ⟨oc, hoc, I.freeC x c hc⟩ hs, by simpa using I.len⟩ ⟨c, hs, .inr hc⟩
    · exact (hs.2 b (Nat.ne_of_lt (Nat.lt_of_lt_of_le (Heap.lt_size e) (I.ok.cab x c hfn hc)))).trans (I.base.keep b o e n hb hx)
    · obtain ⟨sl, e1⟩ := I.base.slot b o e n hb hx
      exact ⟨sl, (hs.2 b (Nat.ne_of_lt (Nat.lt_of_lt_of_le (Heap.lt_size e) (I.ok.cab x c hfn hc)))).trans e1⟩
    · obtain ⟨o', e1⟩ := I.base.there b o e hx
      exact ⟨o', (hs.2 b (Nat.ne_of_lt (Nat.lt_of_lt_of_le (Heap.lt_size e) (I.ok.cab x c hfn hc)))).trans e1⟩
    · by_cases hj : j = i
      · subst hj
        rw [hi] at e1; cases e1
        rw [List.getElem?_set_self hiσ] at e2
        cases e2
        exact ⟨u, r, .inr ⟨.inl hk, c, hc, hc'⟩⟩
      · rw [List.getElem?_set_ne (Ne.symm hj)] at e2
        obtain ⟨u', r', q⟩ := hl j y v' e1 e2 e3
        refine ⟨u', r', ?_⟩
        rcases q with q | ⟨k, c', e, z'⟩
        · exact .inl q
        · refine .inr ⟨k, c', e, z'.sameBut hs ?_⟩
          rintro rfl
          exact hj (nodup_ix hN e1 (I.ok.inj _ _ _ e hc ▸ hi))
    · by_cases hcc : c' = c
      · subst hcc; exact ⟨_, hc'⟩
      · obtain ⟨w2, z2⟩ := I.cell y c' e
        exact ⟨w2, z2.sameBut hs hcc⟩
    · obtain ⟨e, n, ne, nf, d⟩ := I.pin p hp
      refine ⟨(hs.2 p.1 ?_).trans e, n, ne, nf, d⟩
      intro q
      rw [q, hoc] at e
      have q' : oc = p.2 := Option.some.inj e
      exact d w' (by rw [← q']; exact hocd)
theorem store_ok {M : Model} {A : Around} {E : Value → Shared → Prop} {i : Nat} {x : Str} {v : V} {u : Value} {Q : Unit → Shared → Prop} (I : Inv X pins σ H s) (hN : X.N.Nodup) (hi : X.N[i]? = some x) (hx : Loc X.env.scope x) (r : RelV v u)
    (h : ∀ s', Inv X pins (σ.set i (some v)) H s' → Q () s') (hf : X.fn x = true ∨ X.env.scope.names.lookup x = some .local := by first | exact .inl rfl | exact .inr rfl | assumption) : wpAny M A (storeName X.env x u) Q E s :=
  store_ok2 I hN hi hx r (fun s' I' _ => h s' I') hf
theorem Inv.call' {s' : Shared} {ch : List Addr} (I : Inv X pins σ H s) (ho : s'.os = s.os) (u : Un (frs X.stack) ch H H' s.heap s'.heap) (hok : HOk X.prog X.w H' s'.heap) (hg : AllBare s'.gens)
    (hch : ∀ b ∈ ch, (b ∈ X.ex ∨ X.s₀.heap.objs.size ≤ b) ∧ b ≠ X.env.locals ∧ (∀ x c, X.env.cells.lookup x = some c → c ≠ b) ∧ ∀ p ∈ X.pn ++ pins, p.1 ≠ b) : Inv X pins σ H' s' := by
  obtain ⟨h', g', d', t', o'⟩ := s'
  have e : o' = s.os := ho
  subst e
  exact I.call (g' := g') (t' := t') (d' := d') u hok hg hch
end
abbrev XK := Value → Option Addr → Hp → Prop
abbrev St := List (Option V)
abbrev VK := V → Hp → Prop
abbrev TE := St → Hp → VK → Prop
abbrev TT := St → Hp → (Bool → Hp → Prop) → Prop
abbrev TA := St → Hp → (List V → Hp → Prop) → Prop
structure Ends where
  nx : St → Hp → Prop
  rt : VK
  bk : St → Hp → Prop := fun _ _ => False
  ct : St → Hp → Prop := fun _ _ => False
abbrev TS := Ends → St → Hp → Prop
def EP (X : Cx) (pins : List (Addr × Obj)) (σ : St) (Q : VK) (u : Value) (s' : Shared) : Prop := ∃ v H', Inv X pins σ H' s' ∧ RelV v u ∧ Q v H'
def TP (X : Cx) (pins : List (Addr × Obj)) (σ : St) (Q : Bool → Hp → Prop) (b : Bool) (s' : Shared) : Prop := ∃ H', Inv X pins σ H' s' ∧ Q b H'
def AP (X : Cx) (pins : List (Addr × Obj)) (σ : St) (Q : List V → Hp → Prop) (us : List Value) (s' : Shared) : Prop := ∃ vs H', Inv X pins σ H' s' ∧ Vals vs us ∧ Q vs H'
def SP (X : Cx) (pins : List (Addr × Obj)) (D : Ends) (f : Flow) (s' : Shared) : Prop :=
  match f with
  | .next => ∃ σ' H', Inv X pins σ' H' s' ∧ D.nx σ' H'
  | .brk => ∃ σ' H', Inv X pins σ' H' s' ∧ D.bk σ' H'
  | .cont => ∃ σ' H', Inv X pins σ' H' s' ∧ D.ct σ' H'
  | .ret u => ∃ v σ' H', Inv X pins σ' H' s' ∧ RelV v u ∧ D.rt v H'
def PE (X : Cx) (e : Expr) (t : TE) : Prop :=
  ∀ (pins : List (Addr × Obj)) (s : Shared) (σ : St) (H : Hp) (Q : VK), Inv X pins σ H s → t σ H Q → wpAny (model X.prog X.w) X.A (eval e X.env) (EP X pins σ Q) X.xe s
def PT (X : Cx) (e : Expr) (t : TT) : Prop :=
  ∀ (pins : List (Addr × Obj)) (s : Shared) (σ : St) (H : Hp) (Q : Bool → Hp → Prop), Inv X pins σ H s → t σ H Q → wpAny (model X.prog X.w) X.A (isTrue e X.env (eval e X.env)) (TP X pins σ Q) X.xe s
def PW (X : Cx) (e : Expr) (t : TT) : Prop :=
  ∀ (whole : Sem Value) (pins : List (Addr × Obj)) (s : Shared) (σ : St) (H : Hp) (Q : Bool → Hp → Prop), Inv X pins σ H s → t σ H Q → wpAny (model X.prog X.w) X.A (isTrue e X.env whole) (TP X pins σ Q) X.xe s
theorem PW.pt {X : Cx} {e : Expr} {t : TT} (h : PW X e t) : PT X e t := h _
def PA (X : Cx) (es : List Expr) (t : TA) : Prop :=
  ∀ (pos : Pos) (pins : List (Addr × Obj)) (s : Shared) (σ : St) (H : Hp) (Q : List V → Hp → Prop), Inv X pins σ H s → t σ H Q → wpAny (model X.prog X.w) X.A (spliced (backTo pos (starEach es X.env))) (AP X pins σ Q) X.xe s
def PS (X : Cx) (st : Stmt) (t : TS) : Prop :=
  ∀ (pins : List (Addr × Obj)) (s : Shared) (σ : St) (H : Hp) (D : Ends), Inv X pins σ H s → t D σ H → wpAny (model X.prog X.w) X.A (exec st X.env) (SP X pins D) X.xe s
def PSs (X : Cx) (st : List Stmt) (t : TS) : Prop :=
  ∀ (pins : List (Addr × Obj)) (s : Shared) (σ : St) (H : Hp) (D : Ends), Inv X pins σ H s → t D σ H → wpAny (model X.prog X.w) X.A (execs st X.env) (SP X pins D) X.xe s
theorem thn {α : Type} {t : Sem α} {Q Q' : α → Shared → Prop} {M : Model} {A : Around} {E : Value → Shared → Prop} {s : Shared} (h : wpAny M A t Q E s) (hQ : ∀ a s, Q a s → Q' a s) : wpAny M A t Q' E s := wpAny_mono h hQ fun _ _ x => x
end L2
namespace L2
open PySem PySem.Spec PyProof.Rows
section
variable {X : Cx}
def tVar (i : Nat) : TE := fun σ H Q => ∃ v, σ[i]? = some (some v) ∧ Q v H
def tC (v : V) : TE := fun _ H Q => Q v H
theorem pe_var {i : Nat} {x : Str} {pos : Pos} (hN : X.N[i]? = some x) (hv : Vis X.env.scope x) (hd : (x == ("__debug__" : Str)) = false := by decide) (hcd : (x == ("__classdict__" : Str)) = false := by decide) : PE X (.Name x pos) (tVar i) := by
  intro pins s σ H Q I h
  obtain ⟨v, e, h⟩ := h
  obtain ⟨m, hn, hl⟩ := I.loc
  obtain ⟨u, r, l⟩ := hl i x v hN e hv
  have fin : EP X pins σ Q u s := ⟨v, H, I, r, h⟩
  rcases l with ⟨hk, hm⟩ | ⟨hk, c, hc, hcell⟩
  · exact wpAny_Name (wpAny_loadName_local I.ok.kind hk hn hm fin) hd
  · rcases hk with hk | hk
    · exact wpAny_Name (wpAny_loadName_cell I.ok.kind hk hc hcell fin) hd
    · exact wpAny_Name (wpAny_loadName_free I.ok.kind hk hc hcell fin hcd) hd
theorem pe_int {i j pos} : PE X (.Constant (.int i) j pos) (tC (.int i)) := fun _ _ _ H _ I h => wpAny_Constant_int ⟨.int i, H, I.tok _, ⟨_, rfl⟩, h⟩
theorem pe_bl {b j pos} : PE X (.Constant (.bool b) j pos) (tC (.bl b)) := fun _ _ _ H _ I h => Constant_bool ⟨.bl b, H, I, rfl, h⟩
theorem pe_str {x j pos} : PE X (.Constant (.str x) j pos) (tC (.str x)) := fun _ _ _ H _ I h => Calls.Constant_str ⟨.str x, H, I.tok _, ⟨_, rfl⟩, h⟩
def Gl (X : Cx) (x : Str) : Prop := X.env.kindOf x = some .globalImplicit
theorem ld_glob {E : Value → Shared → Prop} {pins : List (Addr × Obj)} {s : Shared} {σ : St} {H : Hp} {x : Str} {u : Value} {pos : Pos} {Q : Value → Shared → Prop} (I : Inv X pins σ H s) (hg : Gl X x) (hm : X.mg x = some u) (h : Q u s)
    (hd : (x == ("__debug__" : Str)) = false := by decide) : wpAny (model X.prog X.w) X.A (eval (.Name x pos) X.env) Q E s :=
  Calls.Name_function_global I.ok.kind hg (Calls.loadGlobal_global (by rw [I.ok.glob]; exact I.mod.glob.keeps I.bk) hm h) hd
theorem ld_blt {E : Value → Shared → Prop} {pins : List (Addr × Obj)} {s : Shared} {σ : St} {H : Hp} {x : Str} {u : Value} {pos : Pos} {Q : Value → Shared → Prop} (I : Inv X pins σ H s) (hg : Gl X x) (hm : X.mg x = none) (hv : bootBuiltins x = some u) (h : Q u s)
    (hn : x ≠ "__name__" := by decide) (hd : (x == ("__debug__" : Str)) = false := by decide) : wpAny (model X.prog X.w) X.A (eval (.Name x pos) X.env) Q E s := by
  obtain ⟨mb, h1, h2⟩ := I.mod.blt
  exact Calls.Name_function_global I.ok.kind hg (Calls.loadGlobal_builtin (by rw [I.ok.glob]; exact I.mod.glob.keeps I.bk) hm (by rw [I.ok.blt]; exact h1.keeps I.bk) ((h2 x hn).trans hv) h) hd
theorem pe_glob {x : Str} {v : V} {u : Value} {pos : Pos} (hg : Gl X x) (hm : X.mg x = some u) (r : RelV v u) (hd : (x == ("__debug__" : Str)) = false := by decide) : PE X (.Name x pos) (tC v) :=
  fun _ _ _ H _ I h => ld_glob I hg hm ⟨v, H, I, r, h⟩ hd
theorem pe_bltn {x : Str} {v : V} {u : Value} {pos : Pos} (hg : Gl X x) (hm : X.mg x = none) (hv : bootBuiltins x = some u) (r : RelV v u) (hn : x ≠ "__name__" := by decide) (hd : (x == ("__debug__" : Str)) = false := by decide) : PE X (.Name x pos) (tC v) :=
  fun _ _ _ H _ I h => ld_blt I hg hm hv ⟨v, H, I, r, h⟩ hn hd
variable {a b : Expr} {ta tb : TE} {pos : Pos}
def tB (t : TE) : TT := fun σ H Q => t σ H fun x H1 => ∃ c, x = .bl c ∧ Q c H1
theorem pt_val {e : Expr} {t : TE} (h : PE X e t) (he : ∀ whole, isTrue e X.env whole = (do let v ← whole; standAt e.pos; holding [v] (truthy v)) := by intro _; rfl) : PT X e (tB t) := by
  intro pins s σ H Q I hw
  refine isTrue_plain (thn (h pins s σ H _ I hw) fun v s1 ⟨x, H1, I1, r1, q1⟩ => ?_) (he _)
  obtain ⟨d, rfl, q⟩ := q1
  cases r1
  exact wpAny_truthy_bool ⟨H1, I1, q⟩
variable {tA tB' : TT} {rest : List Expr}
def tAnd (t u : TT) : TT := fun σ H Q => t σ H fun c H1 => if c = true then u σ H1 Q else Q false H1
def tOr (t u : TT) : TT := fun σ H Q => t σ H fun c H1 => if c = true then Q true H1 else u σ H1 Q
def tNot (t : TT) : TT := fun σ H Q => t σ H fun c H1 => Q (!c) H1
theorem pw_and1 (ha : PT X a tA) : PW X (.BoolOp .And [a] pos) tA := by
  intro wh pins s σ H Q I h
  refine isTrue_and (thn (ha pins s σ H Q I h) fun c s1 e => ?_)
  cases c with
  | true => exact isTrue_and_nil e
  | false => exact e
theorem pw_or1 (ha : PT X a tA) : PW X (.BoolOp .Or [a] pos) tA := by
  intro wh pins s σ H Q I h
  refine isTrue_or (thn (ha pins s σ H Q I h) fun c s1 e => ?_)
  cases c with
  | false => exact isTrue_or_nil e
  | true => exact e
theorem pw_and (ha : PT X a tA) (hb : PW X (.BoolOp .And (b :: rest) pos) tB') : PW X (.BoolOp .And (a :: b :: rest) pos) (tAnd tA tB') := by
  intro wh pins s σ H Q I h
  refine isTrue_and (thn (ha pins s σ H _ I h) fun c s1 ⟨H1, I1, q1⟩ => ?_)
  cases c with
  | true => exact hb wh pins s1 σ H1 Q I1 q1
  | false => exact ⟨H1, I1, q1⟩
theorem pw_or (ha : PT X a tA) (hb : PW X (.BoolOp .Or (b :: rest) pos) tB') : PW X (.BoolOp .Or (a :: b :: rest) pos) (tOr tA tB') := by
  intro wh pins s σ H Q I h
  refine isTrue_or (thn (ha pins s σ H _ I h) fun c s1 ⟨H1, I1, q1⟩ => ?_)
  cases c with
  | true => exact ⟨H1, I1, q1⟩
  | false => exact hb wh pins s1 σ H1 Q I1 q1
theorem pt_not (ha : PT X a tA) : PT X (.UnaryOp .Not a pos) (tNot tA) := by
  intro pins s σ H Q I h
  exact isTrue_not (ha pins s σ H (fun c H1 => Q (!c) H1) I h)
def tAndV (ta tb : TE) : TE := fun σ H Q => ta σ H fun x H1 => ∃ c, x = .bl c ∧ if c = true then tb σ H1 Q else Q (.bl false) H1
def tOrV (ta tb : TE) : TE := fun σ H Q => ta σ H fun x H1 => ∃ c, x = .bl c ∧ if c = true then Q (.bl true) H1 else tb σ H1 Q
def tNotV (ta : TE) : TE := fun σ H Q => ta σ H fun x H1 => ∃ c, x = .bl c ∧ Q (.bl (!c)) H1
theorem pe_one {op} {t : TE} (h : PE X a t) : PE X (.BoolOp op [a] pos) t := fun pins s σ H Q I hw => BoolOp_one (h pins s σ H Q I hw)
theorem pe_and (ha : PE X a ta) (hb : PE X (.BoolOp .And (b :: rest) pos) tb) : PE X (.BoolOp .And (a :: b :: rest) pos) (tAndV ta tb) := by
  intro pins s σ H Q I h
  refine BoolOp_and (thn (ha pins s σ H _ I h) fun v s1 ⟨x, H1, I1, r1, q1⟩ => ?_)
  obtain ⟨c, rfl, q1⟩ := q1
  cases r1
  refine wpAny_truthy_bool ?_
  cases c with
  | true => exact hb pins s1 σ H1 Q I1 q1
  | false => exact ⟨.bl false, H1, I1, rfl, q1⟩
theorem pe_or (ha : PE X a ta) (hb : PE X (.BoolOp .Or (b :: rest) pos) tb) : PE X (.BoolOp .Or (a :: b :: rest) pos) (tOrV ta tb) := by
  intro pins s σ H Q I h
  refine BoolOp_or (thn (ha pins s σ H _ I h) fun v s1 ⟨x, H1, I1, r1, q1⟩ => ?_)
  obtain ⟨c, rfl, q1⟩ := q1
  cases r1
  refine wpAny_truthy_bool ?_
  cases c with
  | false => exact hb pins s1 σ H1 Q I1 q1
  | true => exact ⟨.bl true, H1, I1, rfl, q1⟩
theorem pe_not (ha : PE X a ta) : PE X (.UnaryOp .Not a pos) (tNotV ta) := by
  intro pins s σ H Q I h
  refine UnaryOp_ (thn (ha pins s σ H _ I h) fun v s1 ⟨x, H1, I1, r1, q1⟩ => ?_)
  obtain ⟨c, rfl, q1⟩ := q1
  cases r1
  exact not_of (wpAny_truthy_bool ⟨.bl (!c), H1, I1, rfl, q1⟩)
end
end L2
namespace L2
open PySem PySem.Spec PyProof.Rows
def SqL (K : PySem.W.Frag) (H : Hp) (a : Addr) (xs : List V) : Prop :=
  Rd H a (.lst xs) ∨
    ∃ (o : Obj) (its : Array Value) (n : Nat), K.lookup a = some o ∧ o.cls = .type "list" ∧ o.dict = none ∧ o.data = .seq its n ∧ its.size ≤ sizeLine ∧ Vals xs its.toList
def SqT (K : PySem.W.Frag) (H : Hp) (a : Addr) (xs : List V) : Prop :=
  Rd H a (.tup xs) ∨
    ∃ (o : Obj) (its : Array Value) (n : Nat), K.lookup a = some o ∧ o.cls = .type "tuple" ∧ o.data = .seq its n ∧ its.size ≤ sizeLine ∧ Vals xs its.toList
def absV : Value → Option V
  | .none => some .non
  | .bool b => some (.bl b)
  | .int i _ => some (.int i)
  | .str x _ => some (.str x)
  | .bytes b _ => some (.byt b)
  | .float b _ => some (.flt b)
  | .ref a => some (.ref a)
  | .type n => some (.ty n)
  | _ => none
theorem RelV.abs {x : V} {u : Value} (r : RelV x u) : absV u = some x := by
  cases x with
  | non => cases r; rfl
  | bl _ => cases r; rfl
  | int _ => obtain ⟨t, rfl⟩ := r; rfl
  | str _ => obtain ⟨t, rfl⟩ := r; rfl
  | byt _ => obtain ⟨t, rfl⟩ := r; rfl
  | flt _ => obtain ⟨t, rfl⟩ := r; rfl
  | ref _ => cases r; rfl
  | ty _ => cases r; rfl
theorem RelV.inj {x y : V} {u : Value} (r : RelV x u) (q : RelV y u) : x = y := Option.some.inj (r.abs.symm.trans q.abs)
theorem Vals.inj : ∀ {xs ys : List V} {us : List Value}, Vals xs us → Vals ys us → xs = ys
  | _, _, _, .nil, .nil => rfl
  | _, _, _, .cons r t, .cons r' t' => by rw [r.inj r', Vals.inj t t']
section
variable {X : Cx} {pins : List (Addr × Obj)} {σ : St} {H : Hp} {s : Shared} {a : Addr} {xs ys : List V}
theorem SqL.of {K : PySem.W.Frag} (h : H a = some (.lst xs)) : SqL K H a xs := .inl (.inl h)
theorem SqT.of {K : PySem.W.Frag} (h : H a = some (.tup xs)) : SqT K H a xs := .inl (.inl h)
theorem Inv.list (I : Inv X pins σ H s) (h : SqL X.K H a xs) : ∃ its : List Value, Vals xs its ∧ PlainL s.heap a its.toArray ∧ xs.length ≤ sizeLine := by
  rcases h with h | ⟨o, its, n, hk, hc, hd, hs, hz, r⟩
  · obtain ⟨z, its, n, r, e⟩ := h.ok I.hok
    exact ⟨its, r, ⟨_, n, e, rfl, rfl, rfl⟩, z⟩
  · refine ⟨its.toList, r, ⟨o, n, I.kIn a o hk, hc, hd, by simpa using hs⟩, ?_⟩
    have e := r.length
    simp only [Array.length_toList] at e
    omega
theorem Inv.tuple (I : Inv X pins σ H s) (h : SqT X.K H a xs) : ∃ its : List Value, Vals xs its ∧ IsTup s.heap a its.toArray ∧ xs.length ≤ sizeLine := by
  rcases h with h | ⟨o, its, n, hk, hc, hs, hz, r⟩
  · obtain ⟨z, its, r, p⟩ := h.ok I.hok
    exact ⟨its, r, p, z⟩
  · refine ⟨its.toList, r, ⟨o, I.kIn a o hk, hc, n, by simpa using hs⟩, ?_⟩
    have e := r.length
    simp only [Array.length_toList] at e
    omega
theorem Inv.list_inj (I : Inv X pins σ H s) (h : SqL X.K H a xs) (h' : SqL X.K H a ys) : xs = ys := by
  obtain ⟨its, r, ⟨o, n, e, _, _, d⟩, _⟩ := I.list h
  obtain ⟨its', r', ⟨o', n', e', _, _, d'⟩, _⟩ := I.list h'
  rw [e] at e'; cases e'
  rw [d] at d'
  injection d' with d1 _
  have : its = its' := by simpa using congrArg Array.toList d1
  subst this
  exact r.inj r'
theorem Inv.tuple_inj (I : Inv X pins σ H s) (h : SqT X.K H a xs) (h' : SqT X.K H a ys) : xs = ys := by
  obtain ⟨its, r, ⟨o, e, _, n, d⟩, _⟩ := I.tuple h
  obtain ⟨its', r', ⟨o', e', _, n', d'⟩, _⟩ := I.tuple h'
  rw [e] at e'; cases e'
  rw [d] at d'
  injection d' with d1 _
  have : its = its' := by simpa using congrArg Array.toList d1
  subst this
  exact r.inj r'
end
abbrev Cx.wish (X : Cx) (E : Value → Shared → Prop) : Cx := { X with xe := E }
abbrev Cx.nox (X : Cx) : Cx := X.wish fun _ _ => False
theorem Cx.Ok.wish {X : Cx} (ok : X.Ok) (E : Value → Shared → Prop) : (X.wish E).Ok :=
  ⟨ok.mod, ok.kind, ok.glob, ok.blt, ok.above, ok.inj, ok.has, ok.cab, ok.hd, ok.frames, ok.stk, ok.exf, ok.bs, ok.bsz, ok.noex, ok.exfs, ok.funs, ok.frf⟩
theorem Cx.Ok.unwish {X : Cx} {E : Value → Shared → Prop} (ok : (X.wish E).Ok) : X.Ok :=
  ⟨ok.mod, ok.kind, ok.glob, ok.blt, ok.above, ok.inj, ok.has, ok.cab, ok.hd, ok.frames, ok.stk, ok.exf, ok.bs, ok.bsz, ok.noex, ok.exfs, ok.funs, ok.frf⟩
section
variable {X : Cx} {pins : List (Addr × Obj)} {σ : St} {H : Hp} {s : Shared} {E : Value → Shared → Prop}
theorem Inv.wish (I : Inv X pins σ H s) (E : Value → Shared → Prop) : Inv (X.wish E) pins σ H s := ⟨I.ok.wish E, I.os, I.bare, I.base, I.loc, I.cell, I.free, I.freeC, I.pin, I.hok, I.len⟩
theorem Inv.unwish (I : Inv (X.wish E) pins σ H s) : Inv X pins σ H s := ⟨I.ok.unwish, I.os, I.bare, I.base, I.loc, I.cell, I.free, I.freeC, I.pin, I.hok, I.len⟩
theorem SP.unwish {D : Ends} {f : Flow} {s' : Shared} (h : SP (X.wish E) pins D f s') : SP X pins D f s' := by
  cases f with
  | next => obtain ⟨σ', H', I, q⟩ := h; exact ⟨σ', H', I.unwish, q⟩
  | brk => obtain ⟨σ', H', I, q⟩ := h; exact ⟨σ', H', I.unwish, q⟩
  | cont => obtain ⟨σ', H', I, q⟩ := h; exact ⟨σ', H', I.unwish, q⟩
  | ret u => obtain ⟨v, σ', H', I, r, q⟩ := h; exact ⟨v, σ', H', I.unwish, r, q⟩
theorem PE.nox {e : Expr} {t : TE} (h : PE X.nox e t) : PE X e t := fun pins s σ H Q I hw =>
  wpAny_mono (h pins s σ H Q (I.wish _) hw) (fun _ _ ⟨v, H', I', r, q⟩ => ⟨v, H', I'.unwish, r, q⟩) fun _ _ z => False.elim z
theorem PT.nox {e : Expr} {t : TT} (h : PT X.nox e t) : PT X e t := fun pins s σ H Q I hw =>
  wpAny_mono (h pins s σ H Q (I.wish _) hw) (fun _ _ ⟨H', I', q⟩ => ⟨H', I'.unwish, q⟩) fun _ _ z => False.elim z
theorem PSs.nox {st : List Stmt} {t : TS} (h : PSs X.nox st t) : PSs X st t := fun pins s σ H D I hw =>
  wpAny_mono (h pins s σ H D (I.wish _) hw) (fun _ _ q => q.unwish) fun _ _ z => False.elim z
end
section
variable {X : Cx} {st : Stmt} {rest : List Stmt} {t u : TS} {e : Expr} {te : TE} {pos : Pos}
def tNext : TS := fun D σ H => D.nx σ H
def tSeq (t u : TS) : TS := fun D σ H => t { D with nx := u D } σ H
theorem pss_nil : PSs X [] tNext := fun _ _ σ H _ I h => wpAny_execs_nil ⟨σ, H, I, h⟩
theorem pss_cons (h1 : PS X st t) (h2 : PSs X rest u) : PSs X (st :: rest) (tSeq t u) := by
  intro pins s σ H D I h
  refine wpAny_execs_cons (thn (h1 pins s σ H { D with nx := u D } I h) fun f s1 q => ?_)
  cases f with
  | next =>
    obtain ⟨σ', H', I', q⟩ := q
    exact h2 pins s1 σ' H' D I' q
  | ret v => exact q
  | brk => exact q
  | cont => exact q
theorem pss_one (h1 : PS X st t) : PSs X [st] t := by
  intro pins s σ H D I h
  refine wpAny_execs_cons (thn (h1 pins s σ H D I h) fun f s1 q => ?_)
  cases f with
  | next => exact wpAny_execs_nil q
  | ret v => exact q
  | brk => exact q
  | cont => exact q
theorem Inv.quiet {pins : List (Addr × Obj)} {σ : St} {H : Hp} {s : Shared} (I : Inv X pins σ H s) : interactive X.env = false := by simp [interactive, I.ok.kind]
def tDrop (te : TE) : TS := fun D σ H => te σ H fun _ H1 => D.nx σ H1
theorem ps_expr (he : PE X e te) (hs : swapsWith e none pos.line X.env = pure false := by rfl) : PS X (.Expr e pos) (tDrop te) := by
  intro pins s σ H D I h
  exact wpAny_Expr_any (thn (he pins s σ H _ I h) fun v s1 ⟨x, H1, I1, r1, q1⟩ => ⟨σ, H1, I1, q1⟩) I.quiet hs
def tRet (te : TE) : TS := fun D σ H => te σ H D.rt
theorem ps_ret (he : PE X e te) : PS X (.Return (some e) pos) (tRet te) := by
  intro pins s σ H D I h
  exact wpAny_Return_some (thn (he pins s σ H _ I h) fun v s1 ⟨x, H1, I1, r1, q1⟩ => ⟨x, σ, H1, I1, r1, q1⟩)
def tIfS (c : TT) (t u : TS) : TS := fun D σ H => c σ H fun b H1 => if b = true then t D σ H1 else u D σ H1
theorem ps_if {c : Expr} {a b : List Stmt} {tc : TT} (hc : PT X c tc) (ha : PSs X a t) (hb : PSs X b u) : PS X (.If c a b pos) (tIfS tc t u) := by
  intro pins s σ H D I h
  refine wpAny_If (thn (hc pins s σ H _ I h) fun d s1 ⟨H1, I1, q1⟩ => ?_)
  cases d with
  | true => exact ha pins s1 σ H1 D I1 q1
  | false => exact hb pins s1 σ H1 D I1 q1
def tNever : TS := fun _ _ _ => False
theorem ps_never : PS X st tNever := fun _ _ _ _ _ _ h => h.elim
end
abbrev TG := V → St → Hp → (St → Hp → Prop) → Prop
def PG (X : Cx) (target : Expr) (t : TG) : Prop :=
  ∀ (pins : List (Addr × Obj)) (s : Shared) (σ : St) (H : Hp) (v : V) (u : Value) (Q : St → Hp → Prop), Inv X pins σ H s → RelV v u → t v σ H Q →
    wpAny (model X.prog X.w) X.A (assign target X.env u) (fun _ s' => ∃ σ' H', Inv X pins σ' H' s' ∧ Q σ' H') X.xe s
section
variable {X : Cx} {pos : Pos}
def gName (i : Nat) : TG := fun v σ H Q => Q (σ.set i (some v)) H
theorem pg_name {i : Nat} {x : Str} (hN : X.N.Nodup) (hi : X.N[i]? = some x) (hx : Loc X.env.scope x) (hf : X.fn x = true ∨ X.env.scope.names.lookup x = some .local := by first | exact .inl rfl | exact .inr rfl | assumption) : PG X (.Name x pos) (gName i) := by
  intro pins s σ H v u Q I r h
  exact wpAny_assign_Name (store_ok I hN hi hx r (fun s' I' => ⟨_, H, I', h⟩) hf)
def tAsg (te : TE) (g : TG) : TS := fun D σ H => te σ H fun x H1 => g x σ H1 D.nx
theorem ps_set {i : Nat} {x : Str} {e : Expr} {te : TE} {pos' : Pos} (hN : X.N.Nodup) (hi : X.N[i]? = some x) (hx : Loc X.env.scope x) (he : PE X e te) (hs : swapsWith e (some (.Name x pos')) pos.line X.env = pure false := by rfl) (hf : X.fn x = true ∨ X.env.scope.names.lookup x = some .local := by first | exact .inl rfl | exact .inr rfl | assumption) :
    PS X (.Assign [.Name x pos'] e pos) (tAsg te (gName i)) := by
  intro pins s σ H D I h
  refine wpAny_Assign_Name (thn (he pins s σ H _ I h) fun v s1 ⟨y, H1, I1, r1, q1⟩ => ?_) hs
  exact store_ok I1 hN hi hx r1 (fun s2 I2 => ⟨_, H1, I2, q1⟩) hf
end
section
variable {X : Cx} {pos : Pos}
def tWhile (c : TT) (tb : TS) : TS := fun D σ H => ∃ W : Nat → St → Hp → Prop, (∃ m, W m σ H) ∧ ∀ m σ H, W m σ H →
  c σ H fun b H1 => if b = true then ∃ N : St → Hp → Prop, (∀ σ' H', N σ' H' → ∃ m', m' < m ∧ W m' σ' H') ∧ tb { D with nx := N, ct := N, bk := D.nx } σ H1 else D.nx σ H1
theorem ps_while {c : Expr} {body : List Stmt} {tc : TT} {tb : TS} (hp : PassesOwn (model X.prog X.w) X.A X.env X.xe) (hc : PT X c tc) (hb : PSs X body tb) : PS X (.While c body [] pos) (tWhile tc tb) := by
  intro pins s σ H D I h
  obtain ⟨W, ⟨m0, w0⟩, turn⟩ := h
  refine wpAny_While (codeAny_whileLoop (fun n s' => ∃ σ' H', Inv X pins σ' H' s' ∧ W n σ' H') ?_ m0 ⟨σ, H, I, w0⟩)
  rintro n s1 ⟨σ1, H1, I1, w1⟩
  refine wpAny_passesOwn hp (thn (hc pins s1 σ1 H1 _ I1 (turn n σ1 H1 w1)) fun b s2 ⟨H2, I2, q2⟩ => ?_)
  cases b with
  | true =>
    obtain ⟨N, hN, q2⟩ := q2
    rw [if_pos rfl]
    refine wpAny_passesOwn hp (thn (hb pins s2 σ1 H2 _ I2 q2) fun f s3 q3 => ?_)
    cases f with
    | next =>
      obtain ⟨σ3, H3, I3, n3⟩ := q3
      obtain ⟨m', hm, w3⟩ := hN σ3 H3 n3
      exact ⟨m', hm, σ3, H3, I3, w3⟩
    | cont =>
      obtain ⟨σ3, H3, I3, n3⟩ := q3
      obtain ⟨m', hm, w3⟩ := hN σ3 H3 n3
      exact ⟨m', hm, σ3, H3, I3, w3⟩
    | brk => exact q3
    | ret v => exact q3
  | false =>
    rw [if_neg Bool.false_ne_true]
    exact wpAny_execs_nil ⟨σ1, H2, I2, q2⟩
end
structure It where
  go : Nat → Hp → Prop
  yld : Nat → Hp → V → Hp → Prop
  stop : Nat → Hp → Prop
def FpOk (X : Cx) (pins : List (Addr × Obj)) (H : Hp) (b : Addr) : Prop :=
  H b = none ∧ b ≠ X.env.locals ∧ b ∉ X.fs ∧ (b ∈ X.ex ∨ X.s₀.heap.objs.size ≤ b) ∧ (∀ x c, X.env.cells.lookup x = some c → c ≠ b) ∧ ∀ p ∈ X.pn ++ pins, p.1 ≠ b
theorem Inv.fpOk {X : Cx} {pins : List (Addr × Obj)} {σ : St} {H H' : Hp} {s : Shared} {b : Addr} (I : Inv X pins σ H s) (hb : s.heap.objs.size ≤ b) (hn : H' b = none) : FpOk X pins H' b := by
  refine ⟨hn, Nat.ne_of_gt (Nat.lt_of_lt_of_le I.lt hb), I.nofs hb, .inr (Nat.le_trans I.sz hb), fun x c e z => ?_, fun p hp z => ?_⟩
  · obtain ⟨v, q⟩ := I.cell x c e
    exact absurd (Nat.lt_of_lt_of_le q.lt (by rw [z]; exact hb)) (Nat.lt_irrefl _)
  · exact absurd (Nat.lt_of_lt_of_le (Heap.lt_size (I.pin p hp).1) (by rw [z]; exact hb)) (Nat.lt_irrefl _)
structure Turn (P : Program) (w : World) (K : PySem.W.Frag) (tg : Expr) (J : It) (fp : List Addr) (it : Addr) (tn : Nat → Heap → Prop) : Prop where
  mem : it ∈ fp
  obj : ∀ i h, tn i h → ∀ b ∈ fp, ∃ o, h.get? b = some o ∧ ∀ v, o.data ≠ .cell v
  keep : ∀ i h h', tn i h → (∀ b ∈ fp, ∀ o, h.get? b = some o → h'.get? b = some o) → tn i h'
  item : ∀ (X : Cx), X.prog = P → X.w = w → X.K = K → X.calm = true → ∀ (i : Nat) (pins : List (Addr × Obj)) (s : Shared) (σ : St) (H : Hp) (E : Value → Shared → Prop), Inv X pins σ H s → (∀ b ∈ fp, FpOk X pins H b) → tn i s.heap → J.go i H →
    wpAny (model P w) X.A (pyNext (.ref it)) (fun r s1 => ∃ u, r = some u ∧
      wpAny (model P w) X.A (letOwnedTupleGo tg (.ref it) u) (fun _ s2 => ∃ x H', Inv X pins σ H' s2 ∧ RelV x u ∧ J.yld i H x H' ∧ tn (i + 1) s2.heap ∧ ∀ b ∈ fp, H' b = none) E s1) E s
  done : ∀ (X : Cx), X.prog = P → X.w = w → X.K = K → X.calm = true → ∀ (i : Nat) (pins : List (Addr × Obj)) (s : Shared) (σ : St) (H : Hp) (E : Value → Shared → Prop), Inv X pins σ H s → (∀ b ∈ fp, FpOk X pins H b) → tn i s.heap → J.stop i H →
    wpAny (model P w) X.A (pyNext (.ref it)) (fun r s1 => r = none ∧ Inv X pins σ H s1) E s
  self : ∀ (A : Around) (i : Nat) (s : Shared) (Q : Value → Shared → Prop) (E : Value → Shared → Prop), tn i s.heap → Q (.ref it) s → wpAny (model P w) A (pyIter (.ref it)) Q E s
abbrev TI := St → Hp → (It → Hp → Prop) → Prop
def PIE (X : Cx) (pins : List (Addr × Obj)) (σ : St) (tg : Expr) (R : It → Hp → Prop) (itv : Value) (s2 : Shared) : Prop :=
  ∃ (it : Addr) (fp : List Addr) (tn : Nat → Heap → Prop) (J : It) (H' : Hp), itv = .ref it ∧ Inv X pins σ H' s2 ∧ Turn X.prog X.w X.K tg J fp it tn ∧ tn 0 s2.heap ∧ (∀ b ∈ fp, FpOk X pins H' b) ∧ R J H'
def PI (X : Cx) (tg iter : Expr) (wi : TI) : Prop :=
  ∀ (pins : List (Addr × Obj)) (s : Shared) (σ : St) (H : Hp) (R : It → Hp → Prop), Inv X pins σ H s → wi σ H R →
    wpAny (model X.prog X.w) X.A (eval iter X.env) (fun v s1 => wpAny (model X.prog X.w) X.A (pyIter v) (PIE X pins σ tg R) X.xe s1) X.xe s
theorem go_of {M : Model} {A : Around} {E : Value → Shared → Prop} {s : Shared} {tg : Expr} {it : Addr} {u : Value} {o : Obj} {n : String} {vs : Array Value} {Q : Unit → Shared → Prop} (ho : s.heap.get? it = some o) (hc : o.cls = .type n) (hd : o.data = .fields vs)
    (hn : ["enumerate", "zip", "dict_itemiterator", "dict_reverseitemiterator", "odict_iterator", "itertools.zip_longest", "itertools.pairwise"].contains n = false) (hQ : Q () s) : wpAny M A (letOwnedTupleGo tg (.ref it) u) Q E s := by
  unfold letOwnedTupleGo
  cases tg <;> first
    | exact wpAny_pure hQ
    | (cases u <;> first
        | exact wpAny_pure hQ
        | (refine wpAny_bind (wpAny_load ho ?_)
           rw [hc, hd]
           show wpAny M A (if (["enumerate", "zip", "dict_itemiterator", "dict_reverseitemiterator", "odict_iterator", "itertools.zip_longest", "itertools.pairwise"].contains n && vs[0]? == some (rawInt _)) = true then _ else _) Q E s
           rw [if_neg (by intro h; rw [hn, Bool.false_and] at h; cases h)]
           exact wpAny_pure hQ))
def Itl (K : PySem.W.Frag) (a : Addr) : It :=
  ⟨fun i H => ∃ xs x, SqL K H a xs ∧ xs[i]? = some x, fun i H x H' => H' = H ∧ ∀ xs, SqL K H a xs → xs[i]? = some x, fun i H => ∃ xs, SqL K H a xs ∧ xs.length ≤ i⟩
def Itt (K : PySem.W.Frag) (a : Addr) : It :=
  ⟨fun i H => ∃ xs x, SqT K H a xs ∧ xs[i]? = some x, fun i H x H' => H' = H ∧ ∀ xs, SqT K H a xs → xs[i]? = some x, fun i H => ∃ xs, SqT K H a xs ∧ xs.length ≤ i⟩
def Itr (lo : Int) (n : Nat) : It := ⟨fun i _ => i < n, fun i H x H' => H' = H ∧ x = .int (lo + i), fun i _ => n ≤ i⟩
theorem turn_list {P : Program} {w : World} {K : PySem.W.Frag} {tg : Expr} (a it : Addr) : Turn P w K tg (Itl K a) [it] it (fun i h => h.IsListIter it a i) where
  mem := by simp
  obj := fun i h st b hb => by
    have e : b = it := by simpa using hb
    subst e
    obtain ⟨o, e, c, d⟩ := st
    exact ⟨o, e, fun v z => by rw [d] at z; cases z⟩
  keep := fun i h h' st k => st.at fun o e => k it (by simp) o e
  item := by
    intro X hP hw hK hc i pins s σ H E I hf st hg
    subst hP hw hK
    obtain ⟨xs, x, hq, hx⟩ := hg
    obtain ⟨its, rv, p, hz⟩ := I.list hq
    obtain ⟨u, hu, ru⟩ := rv.get hx
    obtain ⟨f0, f1, f2, f3, f4, f5⟩ := hf it (by simp)
    refine wpAny_pyNext_list_item st p.isList (x := u) (by simpa using hu) fun h' st' sb => ?_
    have I1 : Inv X pins σ H { s with heap := h' } := I.turned (t' := s.toks) (fun b o hb e => (sb.2 b hb).trans e) f0 f1 f3 f4 f5
    obtain ⟨o, e, c, d⟩ := id st'
    exact ⟨u, rfl, go_of (s := { s with heap := h' }) e c d (by decide) ⟨x, H, I1, ru, ⟨rfl, fun ys hy => by rw [I.list_inj hy hq]; exact hx⟩, st', fun b hb => (hf b hb).1⟩⟩
  done := by
    intro X hP hw hK hc i pins s σ H E I hf st hg
    subst hP hw hK
    obtain ⟨xs, hq, hx⟩ := hg
    obtain ⟨its, rv, p, hz⟩ := I.list hq
    obtain ⟨f0, f1, f2, f3, f4, f5⟩ := hf it (by simp)
    have hl := rv.length
    exact wpAny_pyNext_list_end (I.ok.hd hc) st p.isList (by simp; omega) fun h' eb => ⟨rfl, I.turned (t' := s.toks) (fun b o hb e => eb b o hb e) f0 f1 f3 f4 f5⟩
  self := fun _ _ _ _ _ st h => wpAny_pyIter_listiter st h
theorem turn_tuple {P : Program} {w : World} {K : PySem.W.Frag} {tg : Expr} (a it : Addr) : Turn P w K tg (Itt K a) [it] it (fun i h => h.IsTupleIter it a i) where
  mem := by simp
  obj := fun i h st b hb => by
    have e : b = it := by simpa using hb
    subst e
    obtain ⟨o, e, c, d⟩ := st
    exact ⟨o, e, fun v z => by rw [d] at z; cases z⟩
  keep := fun i h h' st k => st.at fun o e => k it (by simp) o e
  item := by
    intro X hP hw hK hc i pins s σ H E I hf st hg
    subst hP hw hK
    obtain ⟨xs, x, hq, hx⟩ := hg
    obtain ⟨its, rv, p, hz⟩ := I.tuple hq
    obtain ⟨u, hu, ru⟩ := rv.get hx
    obtain ⟨f0, f1, f2, f3, f4, f5⟩ := hf it (by simp)
    refine wpAny_pyNext_tuple_item st (show s.heap.IsTuple a its.toArray from p) (x := u) (by simpa using hu) fun h' st' sb => ?_
    have I1 : Inv X pins σ H { s with heap := h' } := I.turned (t' := s.toks) (fun b o hb e => (sb.2 b hb).trans e) f0 f1 f3 f4 f5
    obtain ⟨o, e, c, d⟩ := id st'
    exact ⟨u, rfl, go_of (s := { s with heap := h' }) e c d (by decide) ⟨x, H, I1, ru, ⟨rfl, fun ys hy => by rw [I.tuple_inj hy hq]; exact hx⟩, st', fun b hb => (hf b hb).1⟩⟩
  done := by
    intro X hP hw hK hc i pins s σ H E I hf st hg
    subst hP hw hK
    obtain ⟨xs, hq, hx⟩ := hg
    obtain ⟨its, rv, p, hz⟩ := I.tuple hq
    obtain ⟨f0, f1, f2, f3, f4, f5⟩ := hf it (by simp)
    have hl := rv.length
    exact wpAny_pyNext_tuple_end (I.ok.hd hc) st (show s.heap.IsTuple a its.toArray from p) (by simp; omega) fun h' eb => ⟨rfl, I.turned (t' := s.toks) (fun b o hb e => eb b o hb e) f0 f1 f3 f4 f5⟩
  self := fun _ _ _ _ _ st h => wpAny_pyIter_tupleiter st h
theorem turn_range {P : Program} {w : World} {K : PySem.W.Frag} {tg : Expr} (it : Addr) (lo : Int) (n : Nat) : Turn P w K tg (Itr lo n) [it] it (fun i h => IsRangeIter h it (lo + (i : Nat) * 1) ((n : Int) - (i : Nat)) 1) where
  mem := by simp
  obj := fun i h st b hb => by
    have e : b = it := by simpa using hb
    subst e
    exact ⟨_, st, fun v z => by
      have z' : Data.fields _ = Data.cell v := z
      cases z'⟩
  keep := fun i h h' st k => k it (by simp) _ st
  item := by
    intro X hP hw hK hc i pins s σ H E I hf st hg
    subst hP hw hK
    obtain ⟨f0, f1, f2, f3, f4, f5⟩ := hf it (by simp)
    have W := Walks.range (prog := X.prog) (w := X.w) (I.ok.hd hc) it lo 1 n
    refine W.item i s _ _ hg st fun v h' tk hv st' kk => ?_
    obtain ⟨t, rfl⟩ := hv
    have I1 : Inv X pins σ H { s with heap := h', toks := tk } := I.turned (fun b o hb e => kk b o (by simpa using hb) e) f0 f1 f3 f4 f5
    refine ⟨_, rfl, go_of (s := { s with heap := h', toks := tk }) (n := "range_iterator") st' rfl rfl (by decide) ⟨.int (lo + i), H, I1, ⟨t, ?_⟩, ⟨rfl, rfl⟩, st', fun b hb => (hf b hb).1⟩⟩
    rw [Int.mul_one]
  done := by
    intro X hP hw hK hc i pins s σ H E I hf st hg
    subst hP hw hK
    obtain ⟨f0, f1, f2, f3, f4, f5⟩ := hf it (by simp)
    exact wpAny_pyNext_range_end (I.ok.hd hc) st (by have : n ≤ i := hg; omega) fun h' eb => ⟨rfl, I.turned (t' := s.toks) (fun b o hb e => eb b o hb e) f0 f1 f3 f4 f5⟩
  self := fun _ _ _ _ _ st h => wpAny_pyIter_rangeiter st h
end L2
namespace L2
open PySem PySem.Spec PyProof.Rows
section
variable {X : Cx} {tg : Expr}
def iList (K : PySem.W.Frag) (tl : TE) : TI := fun σ H R => tl σ H fun x H1 => ∃ a, x = .ref a ∧ (∃ xs, SqL K H1 a xs) ∧ R (Itl K a) H1
def iTup (K : PySem.W.Frag) (tl : TE) : TI := fun σ H R => tl σ H fun x H1 => ∃ a, x = .ref a ∧ (∃ xs, SqT K H1 a xs) ∧ R (Itt K a) H1
theorem pi_list {l : Expr} {tl : TE} (hl : PE X l tl) : PI X tg l (iList X.K tl) := by
  intro pins s σ H R I h
  refine thn (hl pins s σ H _ I h) fun v s1 ⟨x, H1, I1, r1, q1⟩ => ?_
  obtain ⟨a, e, ⟨xs, hq⟩, q⟩ := q1
  subst e
  cases r1
  obtain ⟨its, rv, p, hz⟩ := I1.list hq
  refine wpAny_pyIter_list p.isList ?_
  refine ⟨s1.heap.objs.size, [s1.heap.objs.size], _, _, H1, rfl, I1.kept (t' := s1.toks) fun b o e => Heap.get?_push_of_some _ e, turn_list a _, ⟨_, Heap.get?_push_size _ rfl, rfl, rfl⟩, fun b hb => ?_, q⟩
  have e : b = s1.heap.objs.size := by simpa using hb
  subst e
  exact I1.fpOk (Nat.le_refl _) (I1.hok.fresh (Nat.le_refl _))
theorem pi_tup {l : Expr} {tl : TE} (hl : PE X l tl) : PI X tg l (iTup X.K tl) := by
  intro pins s σ H R I h
  refine thn (hl pins s σ H _ I h) fun v s1 ⟨x, H1, I1, r1, q1⟩ => ?_
  obtain ⟨a, e, ⟨xs, hq⟩, q⟩ := q1
  subst e
  cases r1
  obtain ⟨its, rv, p, hz⟩ := I1.tuple hq
  refine wpAny_pyIter_tuple (show s1.heap.IsTuple a its.toArray from p) ?_
  refine ⟨s1.heap.objs.size, [s1.heap.objs.size], _, _, H1, rfl, I1.kept (t' := s1.toks) fun b o e => Heap.get?_push_of_some _ e, turn_tuple a _, ⟨_, Heap.get?_push_size _ rfl, rfl, rfl⟩, fun b hb => ?_, q⟩
  have e : b = s1.heap.objs.size := by simpa using hb
  subst e
  exact I1.fpOk (Nat.le_refl _) (I1.hok.fresh (Nat.le_refl _))
theorem range_it {pins : List (Addr × Obj)} {σ : St} {H : Hp} {s : Shared} {R : It → Hp → Prop} {E : Value → Shared → Prop} {lo hi : Int} {t u v : Tok} {tk : Nat} (I : Inv X pins σ H s) (h1 : -(2 ^ 62) ≤ lo) (h2 : lo < 2 ^ 62) (h3 : -(2 ^ 62) ≤ hi) (h4 : hi < 2 ^ 62)
    (q : R (Itr lo (hi - lo).toNat) H) : wpAny (model X.prog X.w) X.A (pyIter (.ref s.heap.objs.size)) (PIE X pins σ tg R) E { s with heap := s.heap.push { cls := .type "range", data := .fields #[.int lo t, .int hi u, .int 1 v] }, toks := tk } := by
  refine wpAny_pyIter_range (IsRange.new ..) (small_one h1 h2 h3 h4) ?_
  have I1 : Inv X pins σ H { s with heap := s.heap.push { cls := .type "range", data := .fields #[.int lo t, .int hi u, .int 1 v] }, toks := tk } := I.kept fun b o e => Heap.get?_push_of_some _ e
  refine ⟨(s.heap.push { cls := .type "range", data := .fields #[.int lo t, .int hi u, .int 1 v] }).objs.size, [(s.heap.push { cls := .type "range", data := .fields #[.int lo t, .int hi u, .int 1 v] }).objs.size], _, _, H, rfl,
    I1.kept (t' := tk) fun b o e => Heap.get?_push_of_some _ e, turn_range _ lo (hi - lo).toNat, ?_, fun b hb => ?_, q⟩
  · have e1 : lo + ((0 : Nat) : Int) * 1 = lo := by simp
    have e2 : (((hi - lo).toNat : Nat) : Int) - ((0 : Nat) : Int) = Builtin.Range.rangeSize lo hi 1 := by rw [rangeSize_one]; split <;> omega
    show IsRangeIter _ _ (lo + ((0 : Nat) : Int) * 1) ((((hi - lo).toNat : Nat) : Int) - ((0 : Nat) : Int)) 1
    rw [e1, e2]
    exact Heap.get?_push_size _ rfl
  · have e : b = (s.heap.push { cls := .type "range", data := .fields #[.int lo t, .int hi u, .int 1 v] }).objs.size := by simpa using hb
    subst e
    exact I1.fpOk (Nat.le_refl _) (I1.hok.fresh (Nat.le_refl _))
def iRng1 (ta : TA) : TI := fun σ H R => ta σ H fun vs H1 => ∃ j : Int, vs = [.int j] ∧ -(2 ^ 62) ≤ j ∧ j < 2 ^ 62 ∧ R (Itr 0 j.toNat) H1
theorem pi_range1 {a : Expr} {ta : TA} {p pos : Pos} (hg : Gl X "range") (hm : X.mg "range" = none) (ha : PA X [a] ta) (hs : starEach [a] X.env = [(false, eval a X.env)] := by rfl) : PI X tg (.Call (.Name "range" p) [a] [] pos) (iRng1 ta) := by
  intro pins s σ H R I h
  refine Call_ (ld_blt I hg hm boot_range (PyProof.Rows.callWith_type1 (thn (ha pos pins s σ H _ I h) fun us s1 ⟨vs, H1, I1, r1, q1⟩ => ?_) hs rfl))
  obtain ⟨j, e, q1, q2, q⟩ := q1
  subst e
  cases r1 with
  | cons r rr =>
    cases rr
    obtain ⟨t, rfl⟩ := r
    exact call_range_1 (range_it I1 (by omega) (by omega) q1 q2 (by simpa using q))
def tFor (wi : TI) (g : TG) (tb : TS) : TS := fun D σ H => wi σ H fun J H1 => ∃ W : Nat → Nat → St → Hp → Prop, (∃ m, W 0 m σ H1) ∧ ∀ i m σ H, W i m σ H →
  (J.stop i H ∧ D.nx σ H) ∨ (J.go i H ∧ ∃ N : St → Hp → Prop, (∀ σ' H', N σ' H' → ∃ m', m' < m ∧ W (i + 1) m' σ' H') ∧ ∀ x H', J.yld i H x H' → g x σ H' fun σ2 H2 => tb { D with nx := N, ct := N, bk := D.nx } σ2 H2)
def pinsAt (fp : List Addr) (h : Heap) : List (Addr × Obj) := fp.filterMap fun b => (h.get? b).map fun o => (b, o)
theorem mem_pinsAt {fp : List Addr} {h : Heap} {b : Addr} {o : Obj} (hb : b ∈ fp) (e : h.get? b = some o) : (b, o) ∈ pinsAt fp h := List.mem_filterMap.mpr ⟨b, hb, by rw [e]; rfl⟩
theorem of_pinsAt {fp : List Addr} {h : Heap} {p : Addr × Obj} (hp : p ∈ pinsAt fp h) : p.1 ∈ fp ∧ h.get? p.1 = some p.2 := by
  obtain ⟨b, hb, e⟩ := List.mem_filterMap.mp hp
  cases q : h.get? b with
  | none => rw [q] at e; cases e
  | some o =>
    rw [q] at e
    have e' : (b, o) = p := Option.some.inj e
    subst e'
    exact ⟨hb, q⟩
theorem Inv.pinned {pins : List (Addr × Obj)} {σ : St} {H : Hp} {s : Shared} {fp : List Addr} (I : Inv X pins σ H s) (hf : ∀ b ∈ fp, FpOk X pins H b) (ho : ∀ b ∈ fp, ∃ o, s.heap.get? b = some o ∧ ∀ v, o.data ≠ .cell v) : Inv X (pins ++ pinsAt fp s.heap) σ H s :=
  I.pins_of fun p hp => (List.mem_append.mp hp).elim (fun z => I.pin p (List.mem_append_right _ z)) fun z => by
    obtain ⟨hb, e⟩ := of_pinsAt z
    obtain ⟨f0, f1, f2, _⟩ := hf p.1 hb
    obtain ⟨o, e', d⟩ := ho p.1 hb
    rw [e] at e'; cases e'
    exact ⟨e, f0, f1, f2, d⟩
theorem Inv.unpinned {pins pl : List (Addr × Obj)} {σ : St} {H : Hp} {s : Shared} (I : Inv X (pins ++ pl) σ H s) : Inv X pins σ H s := I.pins_of fun p hp => I.pin p (List.mem_append_right _ (List.mem_append_left _ hp))
theorem ps_for {iter : Expr} {body : List Stmt} {wi : TI} {g : TG} {tb : TS} {pos : Pos} (hp : PassesOwn (model X.prog X.w) X.A X.env X.xe) (hc : X.calm = true) (hi : PI X tg iter wi) (hg : PG X tg g) (hb : PSs X body tb)
    (hs : ∀ x, foldedSetIterable iter X.env x = pure x := by intro _; rfl) : PS X (.For tg iter body [] pos) (tFor wi g tb) := by
  intro pins s σ H D I h
  refine wpAny_For (thn (hi pins s σ H _ I h) fun v s1 h1 => thn h1 fun itv s2 h2 => ?_) hs
  obtain ⟨it, fp, tn, J, H2, e, I2, T, st2, f2, W, ⟨m0, w0⟩, turn⟩ := h2
  subst e
  have stat : ∀ {H' : Hp}, (∀ b ∈ fp, H' b = none) → ∀ b ∈ fp, FpOk X pins H' b := fun hn b hb => ⟨hn b hb, (f2 b hb).2⟩
  refine codeAny_forLoop_any (fun n s' => ∃ i σ' H', Inv X pins σ' H' s' ∧ tn i s'.heap ∧ (∀ b ∈ fp, H' b = none) ∧ W i n σ' H') ?_ m0 ⟨0, σ, H2, I2, st2, fun b hb => (f2 b hb).1, w0⟩
  rintro n s3 ⟨i, σ3, H3, I3, st3, fr3, w3⟩
  rcases turn i n σ3 H3 w3 with ⟨stop, qn⟩ | ⟨go, N, hN, step⟩
  · refine wpAny_passesOwn hp (thn (T.done X rfl rfl rfl hc i pins s3 σ3 H3 X.xe I3 (stat fr3) st3 stop) fun r s4 ⟨hr, I4⟩ => ?_)
    subst hr
    exact wpAny_execs_nil ⟨σ3, H3, I4, qn⟩
  · refine wpAny_passesOwn hp (thn (T.item X rfl rfl rfl hc i pins s3 σ3 H3 X.xe I3 (stat fr3) st3 go) fun r s4 ⟨u, hr, h4⟩ => ?_)
    subst hr
    refine wpAny_passesOwn hp (thn h4 fun _ s5 ⟨x, H5, I5, r5, y5, st5, fr5⟩ => ?_)
    have I5' := I5.pinned (stat fr5) (T.obj _ _ st5)
    refine wpAny_passesOwn hp (thn (hg _ s5 σ3 H5 x u _ I5' r5 (step x H5 y5)) fun _ s6 ⟨σ6, H6, I6, q6⟩ => ?_)
    refine wpAny_passesOwn hp (thn (hb _ s6 σ6 H6 _ I6 q6) fun f s7 q7 => ?_)
    have again : ∀ {σ7 : St} {H7 : Hp}, Inv X (pins ++ pinsAt fp s5.heap) σ7 H7 s7 → N σ7 H7 → ∃ m, m < n ∧ ∃ i σ' H', Inv X pins σ' H' s7 ∧ tn i s7.heap ∧ (∀ b ∈ fp, H' b = none) ∧ W i m σ' H' := fun {σ7 H7} I7 n7 => by
      obtain ⟨m', hm, w7⟩ := hN σ7 H7 n7
      refine ⟨m', hm, i + 1, σ7, H7, I7.unpinned, T.keep _ _ _ st5 fun b hb o e => (I7.pin (b, o) (List.mem_append_right _ (List.mem_append_right _ (mem_pinsAt hb e)))).1, fun b hb => ?_, w7⟩
      obtain ⟨o, e, d⟩ := T.obj _ _ st5 b hb
      exact (I7.pin (b, o) (List.mem_append_right _ (List.mem_append_right _ (mem_pinsAt hb e)))).2.1
    cases f with
    | next => obtain ⟨σ7, H7, I7, n7⟩ := q7; exact again I7 n7
    | cont => obtain ⟨σ7, H7, I7, n7⟩ := q7; exact again I7 n7
    | brk => obtain ⟨σ7, H7, I7, q7⟩ := q7; exact ⟨σ7, H7, I7.unpinned, q7⟩
    | ret v => obtain ⟨x7, σ7, H7, I7, r7, q7⟩ := q7; exact ⟨x7, σ7, H7, I7.unpinned, r7, q7⟩
end
theorem for_list {K : PySem.W.Frag} {a : Addr} {xs : List V} {g : TG} {tb : TS} {D : Ends} {σ : St} {H : Hp} (Pv : Nat → St → Hp → Prop) (h0 : Pv 0 σ H) (hl : ∀ i σ H, i ≤ xs.length → Pv i σ H → SqL K H a xs)
    (hs : ∀ i x σ H, xs[i]? = some x → Pv i σ H → g x σ H fun σ2 H2 => tb { D with nx := Pv (i + 1), ct := Pv (i + 1), bk := D.nx } σ2 H2) (hd : ∀ σ H, Pv xs.length σ H → D.nx σ H) :
    ∃ W : Nat → Nat → St → Hp → Prop, (∃ m, W 0 m σ H) ∧ ∀ i m σ H, W i m σ H →
      ((Itl K a).stop i H ∧ D.nx σ H) ∨ ((Itl K a).go i H ∧ ∃ N : St → Hp → Prop, (∀ σ' H', N σ' H' → ∃ m', m' < m ∧ W (i + 1) m' σ' H') ∧ ∀ x H', (Itl K a).yld i H x H' → g x σ H' fun σ2 H2 => tb { D with nx := N, ct := N, bk := D.nx } σ2 H2) := by
  refine ⟨fun i m σ H => m = xs.length - i ∧ i ≤ xs.length ∧ Pv i σ H, ⟨xs.length, by simp, Nat.zero_le _, h0⟩, ?_⟩
  rintro i m σ H ⟨rfl, hi, p⟩
  have q := hl i σ H hi p
  by_cases hlt : i < xs.length
  · refine .inr ⟨⟨xs, xs[i], q, by simp [hlt]⟩, Pv (i + 1), fun σ' H' p' => ⟨xs.length - (i + 1), by omega, rfl, hlt, p'⟩, fun x H' y => ?_⟩
    obtain ⟨e, y⟩ := y
    subst e
    exact hs i x σ _ (y xs q) p
  · have e : i = xs.length := by omega
    subst e
    exact .inl ⟨⟨xs, q, Nat.le_refl _⟩, hd σ H p⟩
theorem for_range {lo : Int} {n : Nat} {g : TG} {tb : TS} {D : Ends} {σ : St} {H : Hp} (Pv : Nat → St → Hp → Prop) (h0 : Pv 0 σ H)
    (hs : ∀ i σ H, i < n → Pv i σ H → g (.int (lo + i)) σ H fun σ2 H2 => tb { D with nx := Pv (i + 1), ct := Pv (i + 1), bk := D.nx } σ2 H2) (hd : ∀ σ H, Pv n σ H → D.nx σ H) :
    ∃ W : Nat → Nat → St → Hp → Prop, (∃ m, W 0 m σ H) ∧ ∀ i m σ H, W i m σ H →
      ((Itr lo n).stop i H ∧ D.nx σ H) ∨ ((Itr lo n).go i H ∧ ∃ N : St → Hp → Prop, (∀ σ' H', N σ' H' → ∃ m', m' < m ∧ W (i + 1) m' σ' H') ∧ ∀ x H', (Itr lo n).yld i H x H' → g x σ H' fun σ2 H2 => tb { D with nx := N, ct := N, bk := D.nx } σ2 H2) := by
  refine ⟨fun i m σ H => m = n - i ∧ i ≤ n ∧ Pv i σ H, ⟨n, by simp, Nat.zero_le _, h0⟩, ?_⟩
  rintro i m σ H ⟨rfl, hi, p⟩
  by_cases hlt : i < n
  · refine .inr ⟨hlt, Pv (i + 1), fun σ' H' p' => ⟨n - (i + 1), by omega, rfl, hlt, p'⟩, fun x H' y => ?_⟩
    obtain ⟨e, y⟩ := y
    subst e y
    exact hs i σ _ hlt p
  · have e : i = n := by omega
    subst e
    exact .inl ⟨Nat.le_refl _, hd σ H p⟩
end L2
namespace L2
open PySem PySem.Spec PyProof.Rows
abbrev R2 := V → V → Hp → VK → Prop
def OpR (X : Cx) (f : Value → Value → Sem Value) (r : R2) : Prop :=
  ∀ (pins : List (Addr × Obj)) (s : Shared) (σ : St) (H : Hp) (x y : V) (v u : Value) (Q : VK), Inv X pins σ H s → RelV x v → RelV y u → r x y H Q →
    wpAny (model X.prog X.w) X.A (f v u) (EP X pins σ Q) X.xe s
def CallR (X : Cx) (f : Value) (r : List V → Hp → VK → Prop) : Prop :=
  ∀ (pins : List (Addr × Obj)) (s : Shared) (σ : St) (H : Hp) (xs : List V) (us : List Value) (Q : VK), Inv X pins σ H s → Vals xs us → r xs H Q →
    wpAny (model X.prog X.w) X.A (call f us) (EP X pins σ Q) X.xe s
def TruR (X : Cx) (r : V → Hp → (Bool → Hp → Prop) → Prop) : Prop :=
  ∀ (pins : List (Addr × Obj)) (s : Shared) (σ : St) (H : Hp) (x : V) (v : Value) (Q : Bool → Hp → Prop), Inv X pins σ H s → RelV x v → r x H Q →
    wpAny (model X.prog X.w) X.A (truthy v) (TP X pins σ Q) X.xe s
def tOp (r : R2) (ta tb : TE) : TE := fun σ H Q => ta σ H fun x H1 => tb σ H1 fun y H2 => r x y H2 Q
def rI (C : Int → Int → Prop) (g : Int → Int → V) : R2 := fun x y H Q => ∃ i j, x = .int i ∧ y = .int j ∧ C i j ∧ Q (g i j) H
def rI0 (g : Int → Int → V) : R2 := fun x y H Q => ∃ i j, x = .int i ∧ y = .int j ∧ Q (g i j) H
section
variable {X : Cx} {a b c : Expr} {ta tb tc : TE} {pos : Pos}
theorem binT (ha : PE X a ta) (hb : PE X b tb) {pins : List (Addr × Obj)} {s : Shared} {σ : St} {H : Hp} {R : V → V → Hp → Prop} (I : Inv X pins σ H s)
    (h : ta σ H fun x H1 => tb σ H1 fun y H2 => R x y H2) {Q : Value → Shared → Prop} {f : Value → Value → Sem Value}
    (hf : ∀ v u s2 x y H2, Inv X pins σ H2 s2 → RelV x v → RelV y u → R x y H2 → wpAny (model X.prog X.w) X.A (f v u) Q X.xe s2) :
    wpAny (model X.prog X.w) X.A (eval a X.env) (fun v s₁ => wpAny (model X.prog X.w) X.A (eval b X.env) (fun u s₂ => wpAny (model X.prog X.w) X.A (f v u) Q X.xe s₂) X.xe s₁) X.xe s := by
  refine thn (ha pins s σ H _ I h) fun v s1 ⟨x, H1, I1, r1, q1⟩ => ?_
  refine thn (hb pins s1 σ H1 _ I1 q1) fun u s2 ⟨y, H2, I2, r2, q2⟩ => ?_
  exact hf v u s2 x y H2 I2 r1 r2 q2
theorem pe_op {op : Operator} {r : R2} (ho : OpR X (binaryOp op) r) (ha : PE X a ta) (hb : PE X b tb) : PE X (.BinOp a op b pos) (tOp r ta tb) := by
  intro pins s σ H Q I h
  exact wpAny_BinOp (binT ha hb I h fun v u s2 x y H2 I2 rx ry q => ho pins s2 σ H2 x y v u Q I2 rx ry q)
theorem opI {f : Value → Value → Sem Value} {C : Int → Int → Prop} {g : Int → Int → Int}
    (rule : ∀ (i j : Int) (t u : Tok) (s : Shared) (Q : Value → Shared → Prop) (E : Value → Shared → Prop), C i j → Q (.int (g i j) s.toks) { s with toks := s.toks + 1 } → wpAny (model X.prog X.w) X.A (f (.int i t) (.int j u)) Q E s) :
    OpR X f (rI C fun i j => .int (g i j)) := by
  intro pins s σ H x y v u Q I rx ry h
  obtain ⟨i, j, rfl, rfl, hc, q⟩ := h
  obtain ⟨t, rfl⟩ := rx
  obtain ⟨t', rfl⟩ := ry
  exact rule i j t t' s _ _ hc ⟨.int (g i j), H, I.tok _, ⟨_, rfl⟩, q⟩
theorem opI0 {f : Value → Value → Sem Value} {g : Int → Int → Int}
    (rule : ∀ (i j : Int) (t u : Tok) (s : Shared) (Q : Value → Shared → Prop) (E : Value → Shared → Prop), Q (.int (g i j) s.toks) { s with toks := s.toks + 1 } → wpAny (model X.prog X.w) X.A (f (.int i t) (.int j u)) Q E s) :
    OpR X f (rI0 fun i j => .int (g i j)) := by
  intro pins s σ H x y v u Q I rx ry h
  obtain ⟨i, j, rfl, rfl, q⟩ := h
  obtain ⟨t, rfl⟩ := rx
  obtain ⟨t', rfl⟩ := ry
  exact rule i j t t' s _ _ ⟨.int (g i j), H, I.tok _, ⟨_, rfl⟩, q⟩
theorem opB0 {f : Value → Value → Sem Value} {g : Int → Int → Bool}
    (rule : ∀ (i j : Int) (t u : Tok) (s : Shared) (Q : Value → Shared → Prop) (E : Value → Shared → Prop), Q (.bool (g i j)) s → wpAny (model X.prog X.w) X.A (f (.int i t) (.int j u)) Q E s) :
    OpR X f (rI0 fun i j => .bl (g i j)) := by
  intro pins s σ H x y v u Q I rx ry h
  obtain ⟨i, j, rfl, rfl, q⟩ := h
  obtain ⟨t, rfl⟩ := rx
  obtain ⟨t', rfl⟩ := ry
  exact rule i j t t' s _ _ ⟨.bl (g i j), H, I, rfl, q⟩
def CDiv (i j : Int) : Prop := 0 < j ∧ j < 1073741824
def CPow (i j : Int) : Prop := 0 ≤ j ∧ j ≤ 1000000 ∧ i.natAbs < 2 ^ 64
def CMul (i j : Int) : Prop := (-(2 ^ 64) < i ∧ i < 2 ^ 64) ∨ (-(2 ^ 64) < j ∧ j < 2 ^ 64)
theorem CMul.ok {i j : Int} (h : CMul i j) : IntMulOk i j := by
  rcases h with ⟨h1, h2⟩ | ⟨h1, h2⟩
  · exact .of_left (intBits_le_64 h1 h2)
  · exact .of_right (intBits_le_64 h1 h2)
theorem two_pow_nn (k : Nat) : (0 : Int) ≤ 2 ^ k := by
  rw [two_pow_cast]
  exact Int.natCast_nonneg _
theorem op_add : OpR X (binaryOp .Add) (rI0 fun i j => .int (i + j)) := opI0 fun _ _ _ _ _ _ _ q => add_int q
theorem op_sub : OpR X (binaryOp .Sub) (rI0 fun i j => .int (i - j)) := opI0 fun _ _ _ _ _ _ _ q => sub_int q
theorem op_mul : OpR X (binaryOp .Mult) (rI CMul fun i j => .int (i * j)) := opI fun _ _ _ _ _ _ _ hc q => mul_int q hc.ok
theorem op_fdiv : OpR X (binaryOp .FloorDiv) (rI CDiv fun i j => .int (i / j)) := opI fun i j _ _ _ _ _ hc q => by
  have h1 : (0 : Int) < j := hc.1
  have h2 : j < 1073741824 := hc.2
  exact floordiv_int (by omega) (by rw [Int.fdiv_eq_ediv_of_nonneg i (by omega)]; exact q) (.inl (PyProof.noPylong_small (by omega)))
theorem op_mod : OpR X (binaryOp .Mod) (rI (fun _ j => 0 < j) fun i j => .int (i % j)) := opI fun i j _ _ _ _ _ hc q => by
  have h1 : (0 : Int) < j := hc
  exact mod_int' (by omega) (by rw [Int.fmod_eq_emod_of_nonneg i (by omega)]; exact q)
theorem op_shl : OpR X (binaryOp .LShift) (rI CPow fun i j => .int (i * 2 ^ j.toNat)) := opI fun _ _ _ _ _ _ _ hc q => lshift_int_small hc.1 hc.2.1 hc.2.2 q
theorem op_shr : OpR X (binaryOp .RShift) (rI (fun _ j => 0 ≤ j) fun i j => .int (i / 2 ^ j.toNat)) := opI fun i j _ _ _ _ _ hc q =>
  rshift_int hc (by rw [Int.fdiv_eq_ediv_of_nonneg i (two_pow_nn _)]; exact q)
end
def scal : V → V → Bool
  | .non, .non => true | .non, .int _ => true | .int _, .non => true | .non, .bl _ => true | .bl _, .non => true | .non, .str _ => true | .str _, .non => true
  | .int _, .int _ => true | .bl _, .bl _ => true | .str _, .str _ => true | .byt _, .byt _ => true
  | .int _, .str _ => true | .str _, .int _ => true | .bl _, .str _ => true | .str _, .bl _ => true
  | _, _ => false
def rEq : R2 := fun x y H Q => scal x y = true ∧ Q (.bl (decide (x = y))) H
def rNe : R2 := fun x y H Q => scal x y = true ∧ Q (.bl (!decide (x = y))) H
theorem dec_int {i j : Int} : decide (V.int i = V.int j) = (i == j) := by
  rw [Bool.eq_iff_iff]
  simp
theorem dec_bl {i j : Bool} : decide (V.bl i = V.bl j) = (i == j) := by
  rw [Bool.eq_iff_iff]
  simp
theorem dec_str {i j : Str} : decide (V.str i = V.str j) = (i == j) := by
  rw [Bool.eq_iff_iff]
  simp
theorem dec_byt {i j : Array UInt8} : decide (V.byt i = V.byt j) = (i.toList == j.toList) := by
  rw [Bool.eq_iff_iff]
  cases i
  cases j
  simp
section
variable {X : Cx} {a b c : Expr} {ta tb tc : TE} {pos : Pos}
theorem fin_bl {pins : List (Addr × Obj)} {σ : St} {H : Hp} {s : Shared} {Q : VK} {k k' : Bool} (I : Inv X pins σ H s) (q : Q (.bl k) H) (e : k = k') : EP X pins σ Q (.bool k') s := by
  subst e
  exact ⟨.bl k, H, I, rfl, q⟩
theorem op_eq : OpR X (compareOp .Eq) rEq := by
  intro pins s σ H x y v u Q I rx ry h
  obtain ⟨hs, q⟩ := h
  cases x with
  | non =>
    cases rx
    cases y with
    | non => cases ry; exact PySem.EqNone.eq_none_none (fin_bl I q (by simp))
    | bl j => cases ry; exact PySem.EqNone.eq_none_bool (fin_bl I q (by simp))
    | int j => obtain ⟨t', rfl⟩ := ry; exact PySem.EqNone.eq_none_int (fin_bl I q (by simp))
    | str j => obtain ⟨t', rfl⟩ := ry; exact PySem.EqNone.eq_none_str (fin_bl I q (by simp))
    | _ => exact absurd (show false = true from hs) Bool.false_ne_true
  | bl i =>
    cases rx
    cases y with
    | non => cases ry; exact PySem.EqNone.eq_bool_none (fin_bl I q (by simp))
    | bl j => cases ry; exact eq_bool (fin_bl I q dec_bl)
    | str j => obtain ⟨t', rfl⟩ := ry; exact PySem.EqMixed.eq_bool_str (fin_bl I q (by simp))
    | _ => exact absurd (show false = true from hs) Bool.false_ne_true
  | int i =>
    obtain ⟨t, rfl⟩ := rx
    cases y with
    | non => cases ry; exact PySem.EqNone.eq_int_none (fin_bl I q (by simp))
    | int j => obtain ⟨t', rfl⟩ := ry; exact eq_int (fin_bl I q dec_int)
    | str j => obtain ⟨t', rfl⟩ := ry; exact PySem.EqMixed.eq_int_str (fin_bl I q (by simp))
    | _ => exact absurd (show false = true from hs) Bool.false_ne_true
  | str i =>
    obtain ⟨t, rfl⟩ := rx
    cases y with
    | non => cases ry; exact PySem.EqNone.eq_str_none (fin_bl I q (by simp))
    | bl j => cases ry; exact PySem.EqMixed.eq_str_bool (fin_bl I q (by simp))
    | int j => obtain ⟨t', rfl⟩ := ry; exact PySem.EqMixed.eq_str_int (fin_bl I q (by simp))
    | str j => obtain ⟨t', rfl⟩ := ry; exact eq_str (fin_bl I q dec_str)
    | _ => exact absurd (show false = true from hs) Bool.false_ne_true
  | byt i =>
    obtain ⟨t, rfl⟩ := rx
    cases y with
    | byt j => obtain ⟨t', rfl⟩ := ry; exact PySem.W.eq_bytes (fin_bl I q dec_byt)
    | _ => exact absurd (show false = true from hs) Bool.false_ne_true
  | _ => cases y <;> exact absurd (show false = true from hs) Bool.false_ne_true
theorem op_ne : OpR X (compareOp .NotEq) rNe := by
  intro pins s σ H x y v u Q I rx ry h
  obtain ⟨hs, q⟩ := h
  cases x with
  | non =>
    cases rx
    cases y with
    | non => cases ry; exact PySem.EqNone.ne_none_none (fin_bl I q (by simp))
    | bl j => cases ry; exact PySem.EqNone.ne_none_bool (fin_bl I q (by simp))
    | int j => obtain ⟨t', rfl⟩ := ry; exact PySem.EqNone.ne_none_int (fin_bl I q (by simp))
    | str j => obtain ⟨t', rfl⟩ := ry; exact PySem.EqNone.ne_none_str (fin_bl I q (by simp))
    | _ => exact absurd (show false = true from hs) Bool.false_ne_true
  | bl i =>
    cases rx
    cases y with
    | non => cases ry; exact PySem.EqNone.ne_bool_none (fin_bl I q (by simp))
    | bl j => cases ry; exact ne_bool (fin_bl I q (congrArg not dec_bl))
    | str j => obtain ⟨t', rfl⟩ := ry; exact PySem.EqMixed.ne_bool_str (fin_bl I q (by simp))
    | _ => exact absurd (show false = true from hs) Bool.false_ne_true
  | int i =>
    obtain ⟨t, rfl⟩ := rx
    cases y with
    | non => cases ry; exact PySem.EqNone.ne_int_none (fin_bl I q (by simp))
    | int j => obtain ⟨t', rfl⟩ := ry; exact ne_int (fin_bl I q (congrArg not dec_int))
    | str j => obtain ⟨t', rfl⟩ := ry; exact PySem.EqMixed.ne_int_str (fin_bl I q (by simp))
    | _ => exact absurd (show false = true from hs) Bool.false_ne_true
  | str i =>
    obtain ⟨t, rfl⟩ := rx
    cases y with
    | non => cases ry; exact PySem.EqNone.ne_str_none (fin_bl I q (by simp))
    | bl j => cases ry; exact PySem.EqMixed.ne_str_bool (fin_bl I q (by simp))
    | int j => obtain ⟨t', rfl⟩ := ry; exact PySem.EqMixed.ne_str_int (fin_bl I q (by simp))
    | str j => obtain ⟨t', rfl⟩ := ry; exact ne_str (fin_bl I q (congrArg not dec_str))
    | _ => exact absurd (show false = true from hs) Bool.false_ne_true
  | byt i =>
    obtain ⟨t, rfl⟩ := rx
    cases y with
    | byt j => obtain ⟨t', rfl⟩ := ry; exact PySem.W.ne_bytes (fin_bl I q (congrArg not dec_byt))
    | _ => exact absurd (show false = true from hs) Bool.false_ne_true
  | _ => cases y <;> exact absurd (show false = true from hs) Bool.false_ne_true
theorem op_lt : OpR X (compareOp .Lt) (rI0 fun i j => .bl (decide (i < j))) := opB0 fun _ _ _ _ _ _ _ q => lt_int q
theorem op_le : OpR X (compareOp .LtE) (rI0 fun i j => .bl (decide (i ≤ j))) := opB0 fun _ _ _ _ _ _ _ q => le_int q
theorem op_gt : OpR X (compareOp .Gt) (rI0 fun i j => .bl (decide (j < i))) := opB0 fun _ _ _ _ _ _ _ q => gt_int q
theorem op_ge : OpR X (compareOp .GtE) (rI0 fun i j => .bl (decide (j ≤ i))) := opB0 fun _ _ _ _ _ _ _ q => ge_int q
theorem nomark (b : Expr) {op : CmpOp} (h : op ≠ .In := by decide) (h2 : op ≠ .NotIn := by decide) : behindInMarks op b = false := by
  have e1 : (op == CmpOp.In) = false := by cases op <;> first | rfl | exact absurd rfl h
  have e2 : (op == CmpOp.NotIn) = false := by cases op <;> first | rfl | exact absurd rfl h2
  cases b <;> simp [behindInMarks, e1, e2]
theorem pe_cmpR {op : CmpOp} {r : R2} (ho : OpR X (compareOp op) r) (ha : PE X a ta) (hb : PE X b tb) (hm : behindInMarks op b = false) : PE X (.Compare a [op] [b] pos) (tOp r ta tb) := by
  intro pins s σ H Q I h
  exact wpAny_Compare1 (binT ha hb I h fun v u s2 x y H2 I2 rx ry q => ho pins s2 σ H2 x y v u Q I2 rx ry q) hm
def tTest (t : TE) : TT := fun σ H Q => t σ H fun x H' => ∃ k, x = .bl k ∧ Q k H'
theorem pt_cmpR {op : CmpOp} {r : R2} (ho : OpR X (compareOp op) r) (ha : PE X a ta) (hb : PE X b tb) (hm : behindInMarks op b = false) : PT X (.Compare a [op] [b] pos) (tTest (tOp r ta tb)) := by
  intro pins s σ H Q I h
  refine wpAny_isTrue_Compare1 (thn (ha pins s σ H _ I h) fun v s1 ⟨x, H1, I1, r1, q1⟩ => thn (hb pins s1 σ H1 _ I1 q1) fun u s2 ⟨y, H2, I2, r2, q2⟩ =>
    thn (ho pins s2 σ H2 x y v u _ I2 r1 r2 q2) fun c s3 ⟨z, H3, I3, r3, k, e, q3⟩ => ?_) hm
  subst e
  cases r3
  exact wpAny_truthy_bool ⟨H3, I3, q3⟩
def tChain (r r' : R2) (ta tb tc : TE) : TE := fun σ H Q => ta σ H fun x H1 => tb σ H1 fun y H2 => r x y H2 fun z H3 => ∃ k, z = .bl k ∧
  (if k = true then tc σ H3 fun w' H4 => r' y w' H4 Q else Q (.bl false) H3)
theorem pe_chain {op op' : CmpOp} {r r' : R2} (ho : OpR X (compareOp op) r) (ho' : OpR X (compareOp op') r') (ha : PE X a ta) (hb : PE X b tb) (hc : PE X c tc)
    (hm : lastMarks [op, op'] [b, c] = false := by with_unfolding_all rfl) : PE X (.Compare a [op, op'] [b, c] pos) (tChain r r' ta tb tc) := by
  intro pins s σ H Q I h
  refine Compare_chain (thn (ha pins s σ H _ I h) fun v s1 ⟨x, H1, I1, r1, q1⟩ => chain_link (thn (hb pins s1 σ H1 _ I1 q1) fun u s2 ⟨y, H2, I2, r2, q2⟩ =>
    thn (ho pins s2 σ H2 x y v u _ I2 r1 r2 q2) fun d s3 ⟨z, H3, I3, r3, k, e, q3⟩ => ?_)) hm
  subst e
  cases r3
  refine wpAny_truthy_bool ?_
  cases k with
  | false => exact ite_ff ⟨.bl false, H3, I3, rfl, q3⟩
  | true => exact ite_tt (chain_last (thn (hc pins s3 σ H3 _ I3 q3) fun w' s4 ⟨z', H4, I4, r4, q4⟩ => ho' pins s4 σ H4 y z' u w' Q I4 r2 r4 q4))
def TruV (K : PySem.W.Frag) (x : V) (H : Hp) (k : Bool) : Prop :=
  match x with
  | .non => k = false
  | .bl b => k = b
  | .int i => k = (i != 0)
  | .str y => y.length ≤ sizeLine ∧ k = ((y.length : Int) != 0)
  | .byt y => y.size ≤ sizeLine ∧ k = ((y.size : Int) != 0)
  | .ref p => (∃ xs, SqL K H p xs ∧ k = !xs.isEmpty) ∨ (∃ xs, SqT K H p xs ∧ k = !xs.isEmpty) ∨ ∃ kvs, H p = some (.dK kvs) ∧ k = !kvs.isEmpty
  | _ => False
theorem isEmpty_kv {κ : Type} {kvs : List (κ × V)} {vs : List (κ × Value)} (r : KV kvs vs) : (!vs.isEmpty) = !kvs.isEmpty := by
  cases r <;> rfl
theorem isEmpty_of {xs : List V} {its : List Value} (r : Vals xs its) : (!its.toArray.isEmpty) = !xs.isEmpty := by
  cases r <;> simp
theorem line63 : (sizeLine : Nat) < 2 ^ 63 := by rw [sizeLine_eq]; decide
theorem tru_ok : TruR X (fun x H Q => ∃ k, TruV X.K x H k ∧ Q k H) := by
  intro pins s σ H x v Q I rx h
  obtain ⟨k, e, q⟩ := h
  have hl := line63
  have hs : sizeLine = 16777216 := sizeLine_eq
  cases x with
  | non =>
    cases rx
    have e' : k = false := e
    subst e'
    exact truthy_none ⟨H, I, q⟩
  | bl b =>
    cases rx
    have e' : k = b := e
    subst e'
    exact wpAny_truthy_bool ⟨H, I, q⟩
  | int i =>
    obtain ⟨t, rfl⟩ := rx
    have e' : k = (i != 0) := e
    subst e'
    exact PySem.P.truthy_int ⟨H, I, q⟩
  | str y =>
    obtain ⟨t, rfl⟩ := rx
    obtain ⟨hy, e'⟩ : y.length ≤ sizeLine ∧ k = ((y.length : Int) != 0) := e
    subst e'
    exact PySem.P.truthy_str (by omega) ⟨H, I.tok _, q⟩
  | byt y =>
    obtain ⟨t, rfl⟩ := rx
    obtain ⟨hy, e'⟩ : y.size ≤ sizeLine ∧ k = ((y.size : Int) != 0) := e
    subst e'
    exact PySem.W.truthy_bytes (by omega) ⟨H, I.tok _, q⟩
  | ref p =>
    cases rx
    have e' : (∃ xs, SqL X.K H p xs ∧ k = !xs.isEmpty) ∨ (∃ xs, SqT X.K H p xs ∧ k = !xs.isEmpty) ∨ ∃ kvs, H p = some (.dK kvs) ∧ k = !kvs.isEmpty := e
    rcases e' with ⟨xs, hx, e'⟩ | ⟨xs, hx, e'⟩ | ⟨kvs, hx, e'⟩
    · subst e'
      obtain ⟨its, r, pl, hz⟩ := I.list hx
      have hlen := r.length
      exact wpAny_truthy_list pl.isList (by simp only [List.size_toArray]; omega) ⟨H, I.tok _, by rw [isEmpty_of r]; exact q⟩
    · subst e'
      obtain ⟨its, r, pl, hz⟩ := I.tuple hx
      have hlen := r.length
      exact truthy_tuple pl (by simp only [List.size_toArray]; omega) ⟨H, I.tok _, by rw [isEmpty_of r]; exact q⟩
    · subst e'
      obtain ⟨hz, hS, vs, r, m⟩ : kvs.length ≤ sizeLine ∧ (p == sysModules) = false ∧ ∃ vs, KV kvs vs ∧ s.heap.DictOf (mixKind X.prog X.w) p vs := I.hok p _ hx
      have hlen : kvs.length = vs.length := Paired.length r
      exact wpAny_truthy_dict hS m (by omega) ⟨H, I.tok _, by rw [isEmpty_kv r]; exact q⟩
  | _ => exact (show False from e).elim
theorem pt_truth (ha : PE X a ta) (he : ∀ whole, isTrue a X.env whole = (do let v ← whole; standAt a.pos; holding [v] (truthy v))) :
    PT X a (fun σ H Q => ta σ H fun x H' => ∃ k, TruV X.K x H' k ∧ Q k H') := by
  intro pins s σ H Q I h
  exact isTrue_plain (thn (ha pins s σ H _ I h) fun v s1 ⟨x, H1, I1, r1, q1⟩ => tru_ok pins s1 σ H1 x v Q I1 r1 q1) (he _)
theorem vals1 {x : V} {us : List Value} (r : Vals [x] us) : ∃ u, us = [u] ∧ RelV x u := by
  cases r with
  | cons r1 r2 => cases r2; exact ⟨_, rfl, r1⟩
theorem vals2 {x y : V} {us : List Value} (r : Vals [x, y] us) : ∃ u w', us = [u, w'] ∧ RelV x u ∧ RelV y w' := by
  cases r with
  | cons r1 r2 =>
    cases r2 with
    | cons r3 r4 => cases r4; exact ⟨_, _, rfl, r1, r3⟩
theorem call_int1 : CallR X (.type "int") (fun xs H Q => (∃ i, xs = [.int i] ∧ Q (.int i) H) ∨ ∃ k, xs = [.bl k] ∧ Q (.int (if k then 1 else 0)) H) := by
  intro pins s σ H xs us Q I r h
  rcases h with ⟨i, rfl, q⟩ | ⟨k, rfl, q⟩
  · obtain ⟨u, rfl, t, rfl⟩ := vals1 r
    exact call_int_int ⟨.int i, H, I, ⟨_, rfl⟩, q⟩
  · obtain ⟨u, rfl, r1⟩ := vals1 r
    cases r1
    exact call_int_bool ⟨.int (if k then 1 else 0), H, I.tok _, ⟨_, rfl⟩, q⟩
theorem call_ord : CallR X (.builtin "ord") (fun xs H Q => ∃ x, xs = [.str x] ∧ x.length = 1 ∧ Q (.int (x.cps.getD 0 0 : Nat)) H) := by
  intro pins s σ H xs us Q I r h
  obtain ⟨x, rfl, hz, q⟩ := h
  obtain ⟨u, rfl, t, rfl⟩ := vals1 r
  exact ord_of_one hz ⟨.int _, H, I.tok _, ⟨_, rfl⟩, q⟩
end
end L2
namespace L2
open PySem PySem.Spec PyProof.Rows
structure ObjM (h : Heap) (x dx C : Addr) (mA : Str → Option Value) : Prop where
  obj : h.get? x = some (PySem.W.instObj C dx)
  ns : h.Ns1 dx mA
  ne : dx ≠ x
theorem lookIn_ns {h : Heap} {dx : Addr} {mA : Str → Option Value} (n : h.Ns1 dx mA) : ∃ od, h.get? dx = some od ∧ ∀ name, PySem.W.lookIn name od = some (mA name) := by
  obtain ⟨o, es, ep, ho, hd, hk, _, hm⟩ := n
  refine ⟨o, ho, fun name => ?_⟩
  have e := hm name
  unfold nsFind findBy at e
  rw [← Array.find?_toList] at e
  unfold PySem.W.lookIn
  rw [hd]
  dsimp only
  split
  · rename_i y q
    rw [q] at e
    exact congrArg some e
  · rename_i q
    rw [q] at e
    have a : es.toList.any (·.refKey) = false := by
      rw [List.any_eq_false]
      intro y hy
      obtain ⟨z, t, hkey⟩ := hk y (Array.mem_toList_iff.mp hy)
      simp [DictEntry.refKey, hkey]
    have a' : ¬ es.toList.any (·.refKey) = true := by rw [a]; exact Bool.false_ne_true
    rw [if_neg a']
    exact congrArg some e
theorem ObjM.look {h : Heap} {x dx C : Addr} {mA : Str → Option Value} (I : ObjM h x dx C mA) : ∃ od, PySem.W.InstAt h x (PySem.W.instObj C dx) C (some od) ∧ ∀ name, PySem.W.lookIn name od = some (mA name) :=
  let ⟨od, ho, hl⟩ := lookIn_ns I.ns
  ⟨od, ⟨I.obj, rfl, rfl, ho⟩, hl⟩
section
variable {prog : Program} {w : World} {A : Around} {E : Value → Shared → Prop} {s : Shared} {K : PySem.W.Frag} {x dx C f : Addr} {mA : Str → Option Value} {name : Str} {v : Value}
theorem get_map {expr : Bool} {Q : Value → Shared → Prop} (X : K.In s.heap) (I : ObjM s.heap x dx C mA) (hg : PySem.W.plainGet K C name = true) (hh : PySem.W.hasDictIn K C = true)
    (ha : PySem.W.findIn K (.ref C) name = some none) (hv : mA name = some v) (hv' : PySem.W.handedIn v = true) (h : Q v { s with toks := s.toks + 1 }) :
    wpAny (model prog w) A (getAttr (.ref x) name expr) Q E s := by
  obtain ⟨od, J, hl⟩ := I.look
  exact PySem.W.get_value X J (PySem.W.plainGet_of hg).1 (PySem.W.findObj_own hh ha rfl (by rw [hl, hv])) hv' h
theorem get_meth {pl : Sem Bool} {Q : Value × List Value → Shared → Prop} (X : K.In s.heap) (I : ObjM s.heap x dx C mA) (hg : PySem.W.plainGet K C name = true)
    (hf : PySem.W.findIn K (.ref C) name = some (some (.ref f))) (ht : PySem.W.isFn K (.ref f) = true) (hv : mA name = none) (h : Q (.ref f, [.ref x]) s) :
    wpAny (model prog w) A (getMethod (.ref x) name pl) Q E s := by
  obtain ⟨od, J, hl⟩ := I.look
  exact PySem.W.method_fn X J (PySem.W.plainGet_of hg).1 (PySem.W.plainGet_of hg).2 hf (beq_iff_eq.mp ht) (by show (PySem.W.lookIn name od).map (·.isSome) = some false; rw [hl, hv]; rfl) h
theorem set_map {ns : List Str} {Q : Unit → Shared → Prop} (X : K.In s.heap) (I : ObjM s.heap x dx C mA)
    (hs : PySem.W.findIn K (.ref C) "__setattr__" = some (some (.builtin "object.__setattr__"))) (hp : PySem.W.plainOver K C = true) (ht : PySem.W.takerIn K C name = some none) (hh : PySem.W.hasDictIn K C = true)
    (hw : PySem.Within mA ns) (hsz : ns.length ≤ sizeLine)
    (h : ∀ h', ObjM h' x dx C (fun y => if y = name then some v else mA y) → Heap.SameBut dx s.heap h' → Q () { s with heap := h', toks := s.toks + 2 }) :
    wpAny (model prog w) A (setAttr (.ref x) name v) Q E s := by
  obtain ⟨od, J, hl⟩ := I.look
  refine PySem.W.set_plain X J hs (PySem.W.osa_open (s := { s with toks := s.toks + 1 }) (r := none) X J hp ht fun b => ?_)
  obtain ⟨cd, hc, hd'⟩ := PySem.W.any_some hh
  have hx : s.heap.get? x = some ⟨.ref C, some dx, .plain, #[]⟩ := I.obj
  refine wpAny_bind (wpAny_pure (wpAny_bind (wpAny_bind (wpAny_loadPart hx (wpAny_bind (PySem.W.Looks.here (s := { s with toks := s.toks + 1 }) (PySem.W.looks_clsIn X hc) ?_))))))
  rw [hd']
  refine wpAny_pure (a := some dx) (wpAny_bind (wpAny_pure (wpAny_bind ?_)))
  refine wpAny_nsSet1 (s := { s with toks := s.toks + 1 }) I.ns fun h' hn2 hs2 => ?_
  obtain ⟨oD, esD, epD, hoD, hdD, hcD⟩ := hn2.count (PySem.Within.cons name v hw)
  refine wpAny_bind (wpAny_lookBehind hoD (by rw [hdD]; exact pastItsLine_dict (Nat.le_trans hcD (by rw [List.length_cons]; omega))) ?_)
  exact wpAny_pure (h _ ⟨(hs2.2 _ (Ne.symm I.ne)).trans I.obj, hn2, I.ne⟩ hs2)
theorem make_map {R : Result → Shared → Prop} {vs : List Value} {kw : List (Str × Value)} (X : K.In s.heap) (hm : PySem.W.makesIn K C = true)
    (hi : PySem.W.findIn K (.ref C) "__init__" = some (some (.ref f))) (hf : PySem.W.typeIn K (.ref f) = some (.type "function"))
    (h : codeAny (model prog w) (A.under (.builtin "type.__call__" ⟨.ref C :: vs, kw⟩)) (.call (.ref f) ⟨.ref (s.heap.objs.size + 1) :: vs, kw⟩) (PySem.W.InitBack (s.heap.objs.size + 1) R)
      { s with heap := (s.heap.push PySem.W.emptyDict).push (PySem.W.instObj C s.heap.objs.size) }) :
    codeAny (model prog w) A (.call (.ref C) ⟨vs, kw⟩) R s := by
  obtain ⟨hh, g, d, t, os⟩ := s
  exact PySem.W.make_core (PySem.W.makes_of X hm) (PySem.W.looks_findIn X hi) (fun self => PySem.W.bind_fn X self hf) (.inl rfl) h
end
def putF (f : Str) (v : V) : List (Str × V) → List (Str × V)
  | [] => [(f, v)]
  | (g, x) :: r => if g = f then (g, v) :: r else (g, x) :: putF f v r
theorem lookup_putF (f g : Str) (v : V) : ∀ fs : List (Str × V), (putF f v fs).lookup g = if g = f then some v else fs.lookup g
  | [] => by
    show List.lookup g [(f, v)] = _
    by_cases h : g = f
    · have hb : (g == f) = true := beq_iff_eq.mpr h
      simp only [List.lookup, hb, if_pos h]
    · have hb : (g == f) = false := beq_eq_false_iff_ne.mpr h
      simp only [List.lookup, hb, if_neg h]
  | (k, x) :: r => by
    have ih := lookup_putF f g v r
    rw [show putF f v ((k, x) :: r) = (if k = f then (k, v) :: r else (k, x) :: putF f v r) from rfl]
    by_cases hk : k = f
    · rw [if_pos hk]
      by_cases h : g = k
      · have hb : (g == k) = true := beq_iff_eq.mpr h
        simp only [List.lookup, hb, if_pos (h.trans hk)]
      · have hb : (g == k) = false := beq_eq_false_iff_ne.mpr h
        simp only [List.lookup, hb, if_neg (fun e : g = f => h (e.trans hk.symm))]
    · rw [if_neg hk]
      by_cases h : g = k
      · have hb : (g == k) = true := beq_iff_eq.mpr h
        simp only [List.lookup, hb, if_neg (fun e : g = f => hk (h.symm.trans e))]
      · have hb : (g == k) = false := beq_eq_false_iff_ne.mpr h
        simp only [List.lookup, hb]
        exact ih
theorem keys_putF (f : Str) (v : V) : ∀ fs : List (Str × V), f ∈ (putF f v fs).map (·.1) ∧ ∀ g, g ∈ fs.map (·.1) → g ∈ (putF f v fs).map (·.1)
  | [] => ⟨by simp [putF], fun g h => by simp at h⟩
  | (k, x) :: r => by
    obtain ⟨i1, i2⟩ := keys_putF f v r
    rw [show putF f v ((k, x) :: r) = (if k = f then (k, v) :: r else (k, x) :: putF f v r) from rfl]
    by_cases hk : k = f
    · rw [if_pos hk]
      subst hk
      exact ⟨by simp, fun g h => by simpa using h⟩
    · rw [if_neg hk]
      refine ⟨?_, fun g h => ?_⟩
      · rw [List.map_cons]
        exact List.mem_cons_of_mem _ i1
      · rw [List.map_cons] at h ⊢
        rcases List.mem_cons.mp h with e | e
        · exact List.mem_cons.mpr (.inl e)
        · exact List.mem_cons_of_mem _ (i2 g e)
theorem length_putF (f : Str) (v : V) : ∀ fs : List (Str × V), (putF f v fs).length ≤ fs.length + 1
  | [] => by simp [putF]
  | (k, x) :: r => by
    have ih := length_putF f v r
    rw [show putF f v ((k, x) :: r) = (if k = f then (k, v) :: r else (k, x) :: putF f v r) from rfl]
    by_cases hk : k = f
    · rw [if_pos hk, List.length_cons, List.length_cons]; omega
    · rw [if_neg hk, List.length_cons, List.length_cons]; omega
theorem RelO.some_of {v : V} {o : Option Value} (r : RelO (some v) o) : ∃ u, o = some u ∧ RelV v u := by
  cases o with
  | none => exact (show False from r).elim
  | some u => exact ⟨u, rfl, r⟩
theorem RelO.none_of {o : Option Value} (r : RelO none o) : o = none := by
  cases o with
  | none => rfl
  | some u => exact (show False from r).elim
theorem handed_of {v : V} {u : Value} (r : RelV v u) : PySem.W.handedIn u = true := by
  cases v with
  | non => cases (show u = Value.none from r); rfl
  | bl b => cases (show u = Value.bool b from r); rfl
  | int i => obtain ⟨t, e⟩ := (show ∃ t, u = Value.int i t from r); cases e; rfl
  | str x => obtain ⟨t, e⟩ := (show ∃ t, u = Value.str x t from r); cases e; rfl
  | byt b => obtain ⟨t, e⟩ := (show ∃ t, u = Value.bytes b t from r); cases e; rfl
  | flt b => obtain ⟨t, e⟩ := (show ∃ t, u = Value.float b t from r); cases e; rfl
  | ref a => cases (show u = Value.ref a from r); rfl
  | ty n => cases (show u = Value.type n from r); rfl
section
variable {P : Program} {w : World} {H H' : Hp} {h h' : Heap} {a C dx : Addr} {fs fs' : List (Str × V)}
theorem ins_get (hok : HOk P w H h) (e : H a = some (.ins C dx fs)) : ∃ mA, ObjM h a dx C mA ∧ (∀ f, RelO (fs.lookup f) (mA f)) ∧ PySem.Within mA (fs.map (·.1)) ∧ fs.length ≤ 1000 ∧ H dx = some (.own a) := by
  obtain ⟨d, z, ne, ob, mA, n, r, q⟩ := (show ObjOk P w H h a (.ins C dx fs) from hok a _ e)
  exact ⟨mA, ⟨ob, n, ne⟩, r, q, z, d⟩
end
structure Cls (K : PySem.W.Frag) (C : Addr) : Prop where
  pg : PySem.W.plainGet K C Str.empty = true
  hd : PySem.W.hasDictIn K C = true
  po : PySem.W.plainOver K C = true
  sa : PySem.W.findIn K (.ref C) "__setattr__" = some (some (.builtin "object.__setattr__"))
theorem Cls.get {K : PySem.W.Frag} {C : Addr} (c : Cls K C) (f : Str) : PySem.W.plainGet K C f = true := c.pg
def NoAttr (K : PySem.W.Frag) (C : Addr) (f : Str) : Prop := PySem.W.findIn K (.ref C) f = some none
theorem NoAttr.taker {K : PySem.W.Frag} {C : Addr} {f : Str} (n : NoAttr K C f) : PySem.W.takerIn K C f = some none := by
  unfold PySem.W.takerIn
  rw [show PySem.W.findIn K (.ref C) f = some none from n]
  rfl
structure Meth (K : PySem.W.Frag) (C : Addr) (m : Str) (f : Addr) : Prop where
  at_ : PySem.W.findIn K (.ref C) m = some (some (.ref f))
  fn : PySem.W.isFn K (.ref f) = true
  kp : PySem.W.keepIn K (.ref f) = true
section
variable {X : Cx} {pins : List (Addr × Obj)} {σ : St} {H : Hp} {s : Shared} {a C dx : Addr} {fs : List (Str × V)} {f : Str} {v : V} {A : Around} {E : Value → Shared → Prop}
theorem getattr_ok {b : Bool} {Q : Value → Shared → Prop} (I : Inv X pins σ H s) (e : H a = some (.ins C dx fs)) (c : Cls X.K C) (n : NoAttr X.K C f) (l : fs.lookup f = some v)
    (h : ∀ u s', Inv X pins σ H s' → RelV v u → Q u s') : wpAny (model X.prog X.w) A (getAttr (.ref a) f b) Q E s := by
  obtain ⟨mA, O, r, _, _, _⟩ := ins_get I.hok e
  obtain ⟨u, hu, ru⟩ := RelO.some_of (v := v) (o := mA f) (by rw [← l]; exact r f)
  exact get_map I.kIn O (c.get f) c.hd n hu (handed_of ru) (h u _ (I.tok _) ru)
theorem getmeth_ok {m : Str} {g : Addr} {pl : Sem Bool} {Q : Value × List Value → Shared → Prop} (I : Inv X pins σ H s) (e : H a = some (.ins C dx fs)) (c : Cls X.K C) (k : Meth X.K C m g) (l : fs.lookup m = none)
    (h : Q (.ref g, [.ref a]) s) : wpAny (model X.prog X.w) A (getMethod (.ref a) m pl) Q E s := by
  obtain ⟨mA, O, r, _, _, _⟩ := ins_get I.hok e
  have hn : mA m = none := RelO.none_of (by rw [← l]; exact r m)
  exact get_meth I.kIn O (c.get m) k.at_ k.fn hn h
theorem setattr_ok {y : V} {u : Value} {Q : Unit → Shared → Prop} (I : Inv X pins σ H s) (e : H a = some (.ins C dx fs)) (c : Cls X.K C) (n : NoAttr X.K C f) (hl : fs.length < 1000) (ry : RelV y u)
    (h : ∀ s', Inv X pins σ (upd H a (.ins C dx (putF f y fs))) s' → Q () s') : wpAny (model X.prog X.w) A (setAttr (.ref a) f u) Q E s := by
  obtain ⟨mA, O, r, wi, _, ho⟩ := ins_get I.hok e
  have hz : (fs.map (·.1)).length ≤ sizeLine := by rw [List.length_map, sizeLine_eq]; omega
  refine set_map I.kIn O c.sa c.po n.taker c.hd wi hz fun h' O' sb => h _ ?_
  have hd : ∃ o, h'.get? dx = some o := let ⟨o, _, _, e', _⟩ := O'.ns; ⟨o, e'⟩
  refine I.write (x := a) (e := dx) (by rw [e]; exact True.intro) (.inr ho) (fun b q hb z => (sb.2 b hb).trans z) hd ?_
  refine ⟨by rw [upd_ne O.ne]; exact ho, ?_, O.ne, O'.obj, _, O'.ns, fun g => ?_, fun g hg => ?_⟩
  · have := length_putF f y fs; omega
  · show RelO ((putF f y fs).lookup g) (if g = f then some u else mA g)
    rw [lookup_putF]
    by_cases q : g = f
    · rw [if_pos q, if_pos q]; exact ry
    · rw [if_neg q, if_neg q]; exact r g
  · by_cases q : g = f
    · rw [q]; exact (keys_putF f y fs).1
    · refine (keys_putF f y fs).2 g (wi g fun z => hg ?_)
      show (if g = f then some u else mA g) = none
      rw [if_neg q]; exact z
theorem Inv.made (I : Inv X pins σ H s) : Inv X pins σ (upd (upd H s.heap.objs.size (.own (s.heap.objs.size + 1))) (s.heap.objs.size + 1) (.ins C s.heap.objs.size []))
    { s with heap := (s.heap.push PySem.W.emptyDict).push (PySem.W.instObj C s.heap.objs.size) } := by
  have e1 : (s.heap.push PySem.W.emptyDict).get? s.heap.objs.size = some PySem.W.emptyDict := Heap.get?_push_size s.heap rfl
  have e2 : ((s.heap.push PySem.W.emptyDict).push (PySem.W.instObj C s.heap.objs.size)).get? (s.heap.objs.size + 1) = some (PySem.W.instObj C s.heap.objs.size) := by
    have := Heap.get?_push_size (s.heap.push PySem.W.emptyDict) (o := PySem.W.instObj C s.heap.objs.size) rfl
    rwa [Heap.size_push] at this
  have e3 : (s.heap.push PySem.W.emptyDict).Ns s.heap.objs.size (fun _ => none) := ⟨PySem.W.emptyDict, #[], _, e1, rfl, (fun e he => absurd he (by simp)), fun _ => rfl⟩
  have I1 := I.laid (a := s.heap.objs.size) (o := .own (s.heap.objs.size + 1)) (h' := s.heap.push PySem.W.emptyDict) (t' := s.toks) (fun b u q => Heap.get?_push_of_some _ q) (Nat.le_refl _) ⟨_, e1⟩
  refine I1.laid (a := s.heap.objs.size + 1) (o := .ins C s.heap.objs.size []) (t' := s.toks) (fun b u q => Heap.get?_push_of_some _ q) (Nat.le_of_eq (Heap.size_push _ _)) ?_
  have ne : s.heap.objs.size ≠ s.heap.objs.size + 1 := Nat.ne_of_lt (Nat.lt_succ_self _)
  refine ⟨by rw [upd_ne ne, upd_same], Nat.zero_le _, ne, e2, fun _ => none, (Heap.Ns1.of_empty e3).at fun o q => Heap.get?_push_of_some _ q, fun _ => True.intro, fun y hy => absurd rfl hy⟩
theorem attr_of {prog : Program} {w : World} {env : Env} {e : Expr} {f : Str} {pos : Pos} {s : Shared} {Q : Value → Shared → Prop} (hb : attributeBase e f env (eval e env) = eval e env)
    (h : wpAny (model prog w) A (eval e env) (fun o s₁ => wpAny (model prog w) A (getAttr o f true) Q E s₁) E s) : wpAny (model prog w) A (eval (.Attribute e f pos) env) Q E s :=
  Attribute_any_ h (by rw [arm_eval_Attribute, hb])
end
def tFld (K : PySem.W.Frag) (ta : TE) (f : Str) : TE := fun σ H Q => ta σ H fun x H1 => ∃ a C dx fs v, x = .ref a ∧ H1 a = some (.ins C dx fs) ∧ Cls K C ∧ NoAttr K C f ∧ fs.lookup f = some v ∧ Q v H1
def sFld (K : PySem.W.Frag) (ta tv : TE) (f : Str) : TS := fun D σ H => tv σ H fun y H1 => ta σ H1 fun x H2 => ∃ a C dx fs, x = .ref a ∧ H2 a = some (.ins C dx fs) ∧ Cls K C ∧ NoAttr K C f ∧ fs.length < 1000 ∧
  D.nx σ (upd H2 a (.ins C dx (putF f y fs)))
def InOp (X : Cx) (op : Operator) (rd : V → V → Hp → VK → Prop) : Prop :=
  ∀ (pins : List (Addr × Obj)) (s : Shared) (σ : St) (H : Hp) (x y : V) (u v : Value) (Q : VK), Inv X pins σ H s → RelV x u → RelV y v → rd x y H Q → wpAny (model X.prog X.w) X.A (inplaceOp op u v) (EP X pins σ Q) X.xe s
def sFldAug (K : PySem.W.Frag) (ta tv : TE) (rd : V → V → Hp → VK → Prop) (f : Str) : TS := fun D σ H => ta σ H fun x H1 => ∃ a C dx fs v, x = .ref a ∧ H1 a = some (.ins C dx fs) ∧ Cls K C ∧ NoAttr K C f ∧ fs.lookup f = some v ∧
  tv σ H1 fun y H2 => rd v y H2 fun z H3 => ∃ dx' fs', H3 a = some (.ins C dx' fs') ∧ fs'.length < 1000 ∧ D.nx σ (upd H3 a (.ins C dx' (putF f z fs')))
section
variable {X : Cx} {o e value : Expr} {f : Str} {pos pos' tpos : Pos} {ta tv : TE}
theorem pe_fld (he : PE X e ta) (hb : attributeBase e f X.env (eval e X.env) = eval e X.env) : PE X (.Attribute e f pos) (tFld X.K ta f) := by
  intro pins s σ H Q I h
  refine attr_of hb (thn (he pins s σ H _ I h) fun u s1 ⟨x, H1, I1, rx, a, C, dx, fs, v, ex, ea, c, n, l, q⟩ => ?_)
  subst ex
  obtain rfl : u = Value.ref a := rx
  exact getattr_ok I1 ea c n l fun u' s2 I2 ru => ⟨v, H1, I2, ru, q⟩
theorem ps_fld (ha : PE X o ta) (hv : PE X value tv) (hs : swapsWith value (some (.Attribute o f pos')) pos.line X.env = pure false) : PS X (.Assign [.Attribute o f pos'] value pos) (sFld X.K ta tv f) := by
  intro pins s σ H D I h
  refine plainObj_wpAny_Assign_Attribute (thn (hv pins s σ H _ I h) fun u s1 ⟨y, H1, I1, ry, q⟩ => thn (ha pins s1 σ H1 _ I1 q) fun ov s2 ⟨x, H2, I2, rx, a, C, dx, fs, ex, ea, c, n, l, q2⟩ => ?_) hs
  subst ex
  obtain rfl : ov = Value.ref a := rx
  exact setattr_ok I2 ea c n l ry fun s3 I3 => ⟨σ, _, I3, q2⟩
theorem ps_fldaug {op : Operator} {rd : V → V → Hp → VK → Prop} (ha : PE X o ta) (hv : PE X value tv) (hop : InOp X op rd) : PS X (.AugAssign (.Attribute o f tpos) op value pos) (sFldAug X.K ta tv rd f) := by
  intro pins s σ H D I h
  refine wpAny_AugAssign_AttributeAny (thn (ha pins s σ H _ I h) fun ov s1 ⟨x, H1, I1, rx, a, C, dx, fs, v, ex, ea, c, n, l, q⟩ => ?_)
  subst ex
  obtain rfl : ov = Value.ref a := rx
  refine getattr_ok I1 ea c n l fun u s2 I2 ru => thn (hv pins s2 σ H1 _ I2 q) fun w3 s3 ⟨y, H2, I3, ry, q3⟩ => thn (hop pins s3 σ H2 v y u w3 _ I3 ru ry q3) fun w4 s4 ⟨z, H3, I4, rz, dx', fs', ea', l', q4⟩ => ?_
  exact setattr_ok I4 ea' c n l' rz fun s5 I5 => ⟨σ, _, I5, q4⟩
def rAdd : V → V → Hp → VK → Prop := fun x y H Q => ∃ i j, x = .int i ∧ y = .int j ∧ Q (.int (i + j)) H
def rSub : V → V → Hp → VK → Prop := fun x y H Q => ∃ i j, x = .int i ∧ y = .int j ∧ Q (.int (i - j)) H
theorem in_add : InOp X .Add rAdd := by
  rintro pins s σ H x y u v Q I rx ry ⟨i, j, rfl, rfl, q⟩
  obtain ⟨t, rfl⟩ := (show ∃ t, u = Value.int i t from rx)
  obtain ⟨t', rfl⟩ := (show ∃ t', v = Value.int j t' from ry)
  exact PyProof.Rows.iadd_int ⟨.int (i + j), H, I.tok _, ⟨_, rfl⟩, q⟩
theorem in_sub : InOp X .Sub rSub := by
  rintro pins s σ H x y u v Q I rx ry ⟨i, j, rfl, rfl, q⟩
  obtain ⟨t, rfl⟩ := (show ∃ t, u = Value.int i t from rx)
  obtain ⟨t', rfl⟩ := (show ∃ t', v = Value.int j t' from ry)
  exact PyProof.Rows.isub_int ⟨.int (i - j), H, I.tok _, ⟨_, rfl⟩, q⟩
end
section
variable {X : Cx} {pins : List (Addr × Obj)} {σ : St} {H : Hp} {s : Shared} {A : Around} {E : Value → Shared → Prop} {Q : Value → Shared → Prop} {c : Value} {b : Bool}
inductive TyOf (K : PySem.W.Frag) (H : Hp) : V → Value → Prop where
  | non : TyOf K H .non (.type "NoneType")
  | bl (x : Bool) : TyOf K H (.bl x) (.type "bool")
  | int (i : Int) : TyOf K H (.int i) (.type "int")
  | str (x : Str) : TyOf K H (.str x) (.type "str")
  | flt (x : UInt64) : TyOf K H (.flt x) (.type "float")
  | lst {a : Addr} {xs : List V} (e : H a = some (.lst xs)) : TyOf K H (.ref a) (.type "list")
  | frz {a : Addr} {o : Obj} {xs : List V} (e : H a = some (.frz o (.lst xs))) : TyOf K H (.ref a) (.type "list")
  | tup {a : Addr} {xs : List V} (e : H a = some (.tup xs)) : TyOf K H (.ref a) (.type "tuple")
  | dK {a : Addr} {kvs : List (Key × V)} (e : H a = some (.dK kvs)) : TyOf K H (.ref a) (.type "dict")
  | dT {a : Addr} {kvs : List (List Key × V)} (e : H a = some (.dT kvs)) : TyOf K H (.ref a) (.type "dict")
  | ins {a C dx : Addr} {fs : List (Str × V)} (e : H a = some (.ins C dx fs)) (cl : Cls K C) (ha : PySem.W.findIn K (.ref C) "__class__" = some (some (.builtin "object.__class__")))
      (hn : PySem.W.specialIn K (.builtin "object.__class__") "__get__" = some (some (.builtin "getset_descriptor.__get__"))) (htk : PySem.W.takesIn K (.builtin "object.__class__") = some true)
      (hm : PySem.W.mroIn K C (.type "object") = some true) : TyOf K H (.ref a) (.ref C)
theorem isinst_ok {x : V} {u t : Value} (I : Inv X pins σ H s) (rx : RelV x u) (ty : TyOf X.K H x t) (e : PySem.W.kitOne X.K t c = some b) (h : ∀ tk, Q (.bool b) { s with toks := tk }) :
    wpAny (model X.prog X.w) A (call (.builtin "isinstance") [u, c]) Q E s := by
  cases ty with
  | non => cases (show u = Value.none from rx); exact PySem.W.kia_one PySem.W.kitx_none I.kIn True.intro e (fun z => nomatch z) h
  | bl y => cases (show u = Value.bool y from rx); exact PySem.W.kia_one PySem.W.kitx_bool I.kIn True.intro e (fun z => nomatch z) h
  | int i => obtain ⟨t, q⟩ := (show ∃ t, u = Value.int i t from rx); cases q; exact PySem.W.kia_one PySem.W.kitx_int I.kIn True.intro e (fun z => nomatch z) h
  | str y => obtain ⟨t, q⟩ := (show ∃ t, u = Value.str y t from rx); cases q; exact PySem.W.kia_one PySem.W.kitx_str I.kIn True.intro e (fun z => nomatch z) h
  | flt y => obtain ⟨t, q⟩ := (show ∃ t, u = Value.float y t from rx); cases q; exact PySem.W.kia_one PySem.W.kitx_float I.kIn True.intro e (fun z => nomatch z) h
  | @lst a xs ea =>
    cases (show u = Value.ref a from rx)
    obtain ⟨_, _, n, _, h1⟩ := (show ObjOk X.prog X.w H s.heap a (.lst xs) from I.hok a _ ea)
    exact PySem.W.kia_one PySem.W.kitx_list I.kIn ⟨_, h1, rfl⟩ e (fun z => nomatch z) h
  | @frz a ob xs ea =>
    cases (show u = Value.ref a from rx)
    obtain ⟨_, _, _, n, _, h1⟩ := (show ObjOk X.prog X.w H s.heap a (.frz ob (.lst xs)) from I.hok a _ ea)
    exact PySem.W.kia_one PySem.W.kitx_list I.kIn ⟨_, h1, rfl⟩ e (fun z => nomatch z) h
  | @tup a xs ea =>
    cases (show u = Value.ref a from rx)
    obtain ⟨_, _, _, p⟩ := (show ObjOk X.prog X.w H s.heap a (.tup xs) from I.hok a _ ea)
    obtain ⟨o, h1, h2, _⟩ := p
    exact PySem.W.kia_one PySem.W.kitx_tuple I.kIn ⟨o, h1, h2⟩ e (fun z => nomatch z) h
  | @dK a kvs ea =>
    cases (show u = Value.ref a from rx)
    obtain ⟨_, _, vs, _, p⟩ := (show ObjOk X.prog X.w H s.heap a (.dK kvs) from I.hok a _ ea)
    obtain ⟨o, es, ep, h1, h2, _⟩ := p
    exact PySem.W.kia_one PySem.W.kitx_dict I.kIn ⟨o, h1, h2.1⟩ e (fun z => nomatch z) h
  | @dT a kvs ea =>
    cases (show u = Value.ref a from rx)
    obtain ⟨_, _, xs, _, o, es, ep, h1, h2, _⟩ := (show ObjOk X.prog X.w H s.heap a (.dT kvs) from I.hok a _ ea)
    exact PySem.W.kia_one PySem.W.kitx_dict I.kIn ⟨o, h1, h2.1⟩ e (fun z => nomatch z) h
  | @ins a C dx fs ea cl ha hn htk hm =>
    cases (show u = Value.ref a from rx)
    obtain ⟨mA, O, _⟩ := ins_get I.hok ea
    obtain ⟨od, J, _⟩ := O.look
    exact PySem.W.kia_one (PySem.W.kitx_own (cl.get _) cl.hd ha hn htk hm) I.kIn J e (fun z => nomatch z) h
end
end L2
namespace L2
open PySem PySem.Spec PyProof.Rows
structure Room (k : Nat) (A : Around) : Prop where
  hd : A.handled = none
  dp : A.depth + 3 * k + 5 < recursionLimit
  un : A.units + 16 * k + 200 < cLine
theorem Room.mono {j k : Nat} {A : Around} (r : Room k A) (h : j ≤ k) : Room j A := ⟨r.hd, by have := r.dp; omega, by have := r.un; omega⟩
theorem Room.deeper {k : Nat} {A : Around} (r : Room (k + 1) A) (env : Env) : Room k (A.deeper env) :=
  ⟨r.hd, by have := r.dp; show A.depth + 1 + 3 * k + 5 < _; omega, by have := r.un; show A.units + 3 + 16 * k + 200 < _; omega⟩
theorem Room.in1 {k : Nat} {A : Around} (r : Room (k + 1) A) : Room k A.in1 :=
  ⟨r.hd, by have := r.dp; show A.depth + 3 * k + 5 < _; omega, by have := r.un; show A.units + 1 + 16 * k + 200 < _; omega⟩
theorem make_depth {A : Around} {C : Addr} {us : List Value} {kw : List (Str × Value)} : (A.under (.builtin "type.__call__" ⟨.ref C :: us, kw⟩)).depth = A.depth + 1 := by
  first | rfl | simp [Around.under, Code.weight, Code.isCreation, Code.isGuard, Code.isCaller, Code.frames, Code.isFrame, guardIds]
theorem make_units {A : Around} {C : Addr} {us : List Value} {kw : List (Str × Value)} : (A.under (.builtin "type.__call__" ⟨.ref C :: us, kw⟩)).units = A.units + 1 := by
  first | rfl | simp [Around.under, Code.cUnits, Code.frames, Code.isFrame]
theorem Room.make {k : Nat} {A : Around} (r : Room (k + 1) A) (C : Addr) (us : List Value) (kw : List (Str × Value)) : Room k (A.under (.builtin "type.__call__" ⟨.ref C :: us, kw⟩)) :=
  ⟨r.hd, by have := r.dp; rw [make_depth]; omega, by have := r.un; rw [make_units]; omega⟩
theorem Room.depth {k : Nat} {A : Around} (r : Room k A) : A.depth < recursionLimit := by have := r.dp; omega
theorem Room.units {k : Nat} {A : Around} (r : Room k A) : A.units + 64 < cLine := by have := r.un; omega
def tNil : TA := fun _ H Q => Q [] H
def tCons (ta : TE) (tr : TA) : TA := fun σ H Q => ta σ H fun x H1 => tr σ H1 fun xs H2 => Q (x :: xs) H2
section
variable {X : Cx} {e : Expr} {es : List Expr} {te : TE} {t : TA} {pos : Pos}
theorem pa_nil : PA X [] tNil := fun _ _ _ _ H Q I h => Calls.spliced_nil ⟨[], H, I, .nil, h⟩
theorem pa_cons (ha : PE X e te) (hr : PA X es t) (hs : starEach (e :: es) X.env = (false, eval e X.env) :: starEach es X.env := by rfl) : PA X (e :: es) (tCons te t) := by
  intro pos pins s σ H Q I h
  rw [hs]
  show wpAny _ _ (spliced ((false, eval e X.env) :: backTo pos (starEach es X.env))) _ _ s
  refine Calls.spliced_cons (thn (ha pins s σ H _ I h) fun u s1 ⟨x, H1, I1, r1, q1⟩ => ?_)
  exact thn (hr pos pins s1 σ H1 _ I1 q1) fun us s2 ⟨xs, H2, I2, r2, q2⟩ => ⟨x :: xs, H2, I2, .cons r1 r2, q2⟩
def tTup (t : TA) : TE := fun σ H Q => t σ H fun xs H1 => xs.length ≤ sizeLine ∧ ∀ p, H1 p = none → Q (.ref p) (upd H1 p (.tup xs))
def tLst (t : TA) : TE := fun σ H Q => t σ H fun xs H1 => xs.length ≤ sizeLine ∧ ∀ p, H1 p = none → Q (.ref p) (upd H1 p (.lst xs))
theorem pe_tup {x1} (h : PA X es t) : PE X (.Tuple es x1 pos) (tTup t) := by
  intro pins s σ H Q I hq
  refine wpAny_Tuple_spliced (thn (h pos pins s σ H _ I hq) fun us s1 ⟨xs, H1, I1, r, z, q⟩ => ⟨by rw [← r.length]; exact z, ?_⟩)
  have hf : H1 s1.heap.objs.size = none := I1.hok.fresh (Nat.le_refl _)
  refine ⟨.ref s1.heap.objs.size, upd H1 s1.heap.objs.size (.tup xs), I1.laid (t' := s1.toks) (fun b u e => Heap.get?_push_of_some _ e) (Nat.le_refl _) ?_, rfl, q _ hf⟩
  exact ⟨z, us, r, ⟨_, Heap.get?_push_size _ rfl, rfl, _, rfl⟩⟩
theorem pe_lst (h : PA X es t) : PE X (.List es pos) (tLst t) := by
  intro pins s σ H Q I hq
  refine wpAny_List_spliced (thn (h pos pins s σ H _ I hq) fun us s1 ⟨xs, H1, I1, r, z, q⟩ => ⟨by rw [← r.length]; exact z, ?_⟩)
  have hf : H1 s1.heap.objs.size = none := I1.hok.fresh (Nat.le_refl _)
  refine ⟨.ref s1.heap.objs.size, upd H1 s1.heap.objs.size (.lst xs), I1.laid (t' := s1.toks) (fun b u e => Heap.get?_push_of_some _ e) (Nat.le_refl _) ?_, rfl, q _ hf⟩
  exact ⟨z, us, 0, r, Heap.get?_push_size _ rfl⟩
end
abbrev Sp := List V → Hp → VK → XK → Prop
abbrev CXT := List Env → Hp → Shared → XK → Value → Shared → Prop
structure Env0 (P : Program) (w : World) (K : PySem.W.Frag) (mg : Str → Option Value) (base : Heap) (A : Around) (outer : List Env) (s : Shared) (H : Hp) : Prop where
  frames : A.frames = some outer
  mod : Mod K mg base
  bs : ∀ b o, base.get? b = some o → s.heap.get? b = some o ∧ H b = none
  bsz : base.objs.size ≤ s.heap.objs.size
  funs : s.heap.FunFrames base outer
  frf : ∀ b ∈ frs outer, H b = none
  hok : HOk P w H s.heap
  bare : AllBare s.gens
def CE (outer : List Env) (P : Program) (w : World) (H : Hp) (s : Shared) (Q : VK) (u : Value) (s' : Shared) : Prop :=
  ∃ v H', s'.os = s.os ∧ AllBare s'.gens ∧ Un (frs outer) [] H H' s.heap s'.heap ∧ HOk P w H' s'.heap ∧ RelV v u ∧ Q v H'
def CR (CX : CXT) (outer : List Env) (P : Program) (w : World) (H : Hp) (s : Shared) (Q : VK) (E : XK) (r : Result) (s' : Shared) : Prop :=
  match r with
  | .ok (.ret u) => CE outer P w H s Q u s'
  | .ok _ => False
  | .error e => CX outer H s E e s'
structure FnOk (P : Program) (w : World) (K : PySem.W.Frag) (mg : Str → Option Value) (base : Heap) (CX : CXT) (k : Nat) (f : Addr) (fd : FuncData) (ps : List Str) (sp : Sp) : Prop where
  len : ∀ vs H Q E, sp vs H Q E → vs.length = ps.length
  run : ∀ (A : Around) (outer : List Env) (s : Shared) (H : Hp) (args : Args) (us : List Value) (vs : List V) (Q : VK) (E : XK), Room k A → Env0 P w K mg base A outer s H → BindsTo s fd args (ps.zip us) → Vals vs us → sp vs H Q E →
    codeAny (model P w) A (.call (.ref f) args) (CR CX outer P w H s Q E) s
theorem FnOk.mono {P : Program} {w : World} {K : PySem.W.Frag} {mg : Str → Option Value} {base : Heap} {CX : CXT} {j k : Nat} {f : Addr} {fd : FuncData} {ps : List Str} {sp : Sp} (F : FnOk P w K mg base CX j f fd ps sp) (h : j ≤ k) :
    FnOk P w K mg base CX k f fd ps sp := ⟨F.len, fun A outer s H args us vs Q E hr => F.run A outer s H args us vs Q E (hr.mono h)⟩
theorem FnOk.imp {P : Program} {w : World} {K : PySem.W.Frag} {mg : Str → Option Value} {base : Heap} {CX : CXT} {k : Nat} {f : Addr} {fd : FuncData} {ps : List Str} {sp sp' : Sp} (F : FnOk P w K mg base CX k f fd ps sp)
    (h : ∀ vs H Q E, sp' vs H Q E → sp vs H Q E) : FnOk P w K mg base CX k f fd ps sp' :=
  ⟨fun vs H Q E q => F.len vs H Q E (h _ _ _ _ q), fun A outer s H args us vs Q E hr he hb hv hs => F.run A outer s H args us vs Q E hr he hb hv (h _ _ _ _ hs)⟩
theorem Env0.make {P : Program} {w : World} {K : PySem.W.Frag} {mg : Str → Option Value} {base : Heap} {A : Around} {outer : List Env} {s : Shared} {H : Hp} (e : Env0 P w K mg base A outer s H) (C : Addr) (us : List Value) (kw : List (Str × Value)) :
    Env0 P w K mg base (A.under (.builtin "type.__call__" ⟨.ref C :: us, kw⟩)) outer s H := ⟨by first | exact e.frames | (simpa [Around.under, Code.envs, Code.isFrame, pushEnvs] using e.frames), e.mod, e.bs, e.bsz, e.funs, e.frf, e.hok, e.bare⟩
theorem Env0.in1 {P : Program} {w : World} {K : PySem.W.Frag} {mg : Str → Option Value} {base : Heap} {A : Around} {outer : List Env} {s : Shared} {H : Hp} (e : Env0 P w K mg base A outer s H) :
    Env0 P w K mg base A.in1 outer s H := ⟨e.frames, e.mod, e.bs, e.bsz, e.funs, e.frf, e.hok, e.bare⟩
section
variable {X : Cx} {pins : List (Addr × Obj)} {σ : St} {H : Hp} {s s' : Shared}
theorem Inv.env0 (I : Inv X pins σ H s) : Env0 X.prog X.w X.K X.mg X.base X.A X.stack s H :=
  ⟨I.ok.frames, I.ok.mod, I.bs, Nat.le_trans I.ok.bsz I.sz, I.stack, I.stkFree, I.hok, I.bare⟩
theorem Inv.after {Q : VK} {u : Value} (I : Inv X pins σ H s) (h : CE X.stack X.prog X.w H s Q u s') : EP X pins σ Q u s' := by
  obtain ⟨v, H', os, bare, un, hok, r, q⟩ := h
  obtain ⟨hh, g, d, t, os'⟩ := s'
  obtain rfl : os' = s.os := os
  exact ⟨v, H', I.call (h' := hh) (g' := g) (d' := d) (t' := t) (ch := []) un hok bare (fun b z => absurd z (by simp)), r, q⟩
end
def tCall (sp : Sp) (dvs : List V) (E : XK) (t : TA) : TE := fun σ H Q => t σ H fun vs H1 => sp (vs ++ dvs) H1 Q E
def tMeth (C : Addr) (m : Str) (sp : Sp) (dvs : List V) (E : XK) (ta : TE) (t : TA) : TE := fun σ H Q => ta σ H fun x H1 => ∃ a dx fs, x = .ref a ∧ H1 a = some (.ins C dx fs) ∧ fs.lookup m = none ∧
  t σ H1 fun vs H2 => sp (x :: (vs ++ dvs)) H2 Q E
def tMake (C : Addr) (sp : Sp) (dvs : List V) (E : XK) (t : TA) : TE := fun σ H Q => t σ H fun vs H1 => ∀ x dx, H1 x = none → H1 dx = none → dx ≠ x →
  sp (.ref x :: (vs ++ dvs)) (upd (upd H1 dx (.own x)) x (.ins C dx [])) (fun v H2 => v = .non ∧ Q (.ref x) H2) E
def Binds (K : PySem.W.Frag) (fd : FuncData) (ps : List Str) (ds : List Value) : Prop :=
  ∀ (s : Shared) (us : List Value), K.In s.heap → (us ++ ds).length = ps.length → BindsTo s fd ⟨us, []⟩ (ps.zip (us ++ ds))
theorem Binds.all {K : PySem.W.Frag} {fd : FuncData} {ps : List Str} (h : ∀ us : List Value, us.length = ps.length → bindArgs fd ⟨us, []⟩ = pure (ps.zip us)) : Binds K fd ps [] := fun s us _ hl => by
  rw [List.append_nil] at hl ⊢
  exact .of_eq (h us hl)
def Passes (CX : CXT) (X : Cx) (E : XK) : Prop := ∀ (pins : List (Addr × Obj)) (σ : St) (H : Hp) (s : Shared) (e : Value) (s' : Shared), Inv X pins σ H s → CX X.stack H s E e s' → X.xe e s'
section
variable {X : Cx} {CX : CXT} {k : Nat} {f C : Addr} {fd : FuncData} {ps : List Str} {sp : Sp} {dvs : List V} {ds : List Value} {E : XK} {x m : Str} {p pos apos : Pos} {e o : Expr} {es : List Expr} {ta : TE} {t : TA}
theorem run_fn {pins : List (Addr × Obj)} {σ : St} {H : Hp} {s : Shared} {Q : VK} {us : List Value} {vs : List V} (F : FnOk X.prog X.w X.K X.mg X.base CX k f fd ps sp) (hr : Room k X.A) (hb : Binds X.K fd ps ds) (hd : Vals dvs ds) (hx : Passes CX X E)
    (I : Inv X pins σ H s) (r : Vals vs us) (h : sp (vs ++ dvs) H Q E) : wpAny (model X.prog X.w) X.A (call (.ref f) us) (EP X pins σ Q) X.xe s := by
  have r2 : Vals (vs ++ dvs) (us ++ ds) := r.append hd
  have hl : (us ++ ds).length = ps.length := by rw [← r2.length]; exact F.len _ _ _ _ h
  refine wpAny_call (codeAny_mono (F.run X.A X.stack s H ⟨us, []⟩ (us ++ ds) (vs ++ dvs) Q E hr I.env0 (hb s us I.kIn hl) r2 h) fun r s' hq => ?_)
  cases r with
  | error e => exact hx pins σ H s e s' I hq
  | ok fl =>
    cases fl with
    | ret u => exact I.after hq
    | next => exact False.elim hq
    | brk => exact False.elim hq
    | cont => exact False.elim hq
theorem pe_call (F : FnOk X.prog X.w X.K X.mg X.base CX k f fd ps sp) (hr : Room k X.A) (hg : Gl X x) (hm : X.mg x = some (.ref f)) (hk : PySem.W.keepIn X.K (.ref f) = true) (hb : Binds X.K fd ps ds) (hd : Vals dvs ds) (hx : Passes CX X E)
    (ha : PA X (e :: es) t) (hdb : (x == ("__debug__" : Str)) = false := by decide) (he : starEach (e :: es) X.env = (false, eval e X.env) :: starEach es X.env := by rfl) (hpl : (backTo pos (starEach es X.env)).any (·.1) = false := by rfl) :
    PE X (.Call (.Name x p) (e :: es) [] pos) (tCall sp dvs E t) := by
  intro pins s σ H Q I h
  refine wpAny_Call_Name_kw (ld_glob I hg hm ?_ hdb)
  refine PySem.W.callWith_K (h₀ := X.base) I.ok.mod.kin hk (thn (ha pos pins s σ H _ I h) fun us s1 ⟨vs, H1, I1, r, q⟩ => ⟨I1.kIn, ?_⟩) he hpl
  exact run_fn F hr hb hd hx I1 r q
theorem pe_meth {pl : Sem Bool} (he : PE X o ta) (c : Cls X.K C) (hm : Meth X.K C m f) (F : FnOk X.prog X.w X.K X.mg X.base CX k f fd ps sp) (hr : Room k X.A) (hb : Binds X.K fd ps ds) (hd : Vals dvs ds) (hx : Passes CX X E) (ha : PA X (e :: es) t)
    (hst : starEach (e :: es) X.env = (false, eval e X.env) :: starEach es X.env := by rfl) (hpl : (backTo pos (starEach es X.env)).any (·.1) = false := by rfl)
    (ht : eval (.Call (.Attribute o m apos) (e :: es) [] pos) X.env = (do
      let ov ← eval o X.env
      standAt apos.atName
      let (f, first) ← holding [ov] (getMethod ov m pl)
      callWith pos f first (backTo pos (starEach (e :: es) X.env)) (backToKw pos (keywordEach [] X.env))) := by rfl) :
    PE X (.Call (.Attribute o m apos) (e :: es) [] pos) (tMeth C m sp dvs E ta t) := by
  intro pins s σ H Q I h
  refine PySem.W.methodCall_KW (pl := pl) (thn (he pins s σ H _ I h) fun u s1 ⟨x, H1, I1, rx, a, dx, fs, ex, ea, l, q⟩ => ?_) ht
  subst ex
  obtain rfl : u = Value.ref a := rx
  refine getmeth_ok I1 ea c hm l ?_
  refine PySem.W.callWith_K (first := [.ref a]) (h₀ := X.base) I.ok.mod.kin hm.kp (thn (ha pos pins s1 σ H1 _ I1 q) fun us s2 ⟨vs, H2, I2, r, q2⟩ => ⟨I2.kIn, ?_⟩) hst hpl
  exact run_fn (us := .ref a :: us) (vs := .ref a :: vs) F hr hb hd hx I2 (.cons rfl r) q2
theorem pe_meth0 {pl : Sem Bool} (he : PE X o ta) (c : Cls X.K C) (hm : Meth X.K C m f) (F : FnOk X.prog X.w X.K X.mg X.base CX k f fd ps sp) (hr : Room k X.A) (hb : Binds X.K fd ps ds) (hd : Vals dvs ds) (hx : Passes CX X E)
    (ht : eval (.Call (.Attribute o m apos) [] [] pos) X.env = (do
      let ov ← eval o X.env
      standAt apos.atName
      let (f, first) ← holding [ov] (getMethod ov m pl)
      callWith pos f first (backTo pos (starEach [] X.env)) (backToKw pos (keywordEach [] X.env))) := by rfl) :
    PE X (.Call (.Attribute o m apos) [] [] pos) (tMeth C m sp dvs E ta tNil) := by
  intro pins s σ H Q I h
  refine PySem.W.methodCall_KW (pl := pl) (thn (he pins s σ H _ I h) fun u s1 ⟨x, H1, I1, rx, a, dx, fs, ex, ea, l, q⟩ => ?_) ht
  subst ex
  obtain rfl : u = Value.ref a := rx
  refine getmeth_ok I1 ea c hm l ?_
  exact PySem.W.callWith_K0 (first := [.ref a]) I1.kIn hm.kp (run_fn (us := [.ref a]) (vs := [.ref a]) F hr hb hd hx I1 (.cons rfl .nil) q)
structure Mk (K : PySem.W.Frag) (C f : Addr) : Prop where
  makes : PySem.W.makesIn K C = true
  init : PySem.W.findIn K (.ref C) "__init__" = some (some (.ref f))
  fn : PySem.W.isFn K (.ref f) = true
  kp : PySem.W.keepIn K (.ref C) = true
theorem run_make {pins : List (Addr × Obj)} {σ : St} {H : Hp} {s : Shared} {Q : VK} {us : List Value} {vs : List V} (M : Mk X.K C f) (F : FnOk X.prog X.w X.K X.mg X.base CX k f fd ps sp) (hr : Room (k + 1) X.A) (hb : Binds X.K fd ps ds) (hd : Vals dvs ds)
    (hx : Passes CX X E) (I : Inv X pins σ H s) (r : Vals vs us)
    (h : ∀ x dx, H x = none → H dx = none → dx ≠ x → sp (.ref x :: (vs ++ dvs)) (upd (upd H dx (.own x)) x (.ins C dx [])) (fun v H2 => v = .non ∧ Q (.ref x) H2) E) :
    wpAny (model X.prog X.w) X.A (call (.ref C) us) (EP X pins σ Q) X.xe s := by
  have hq := h (s.heap.objs.size + 1) s.heap.objs.size (I.hok.fresh (Nat.le_succ _)) (I.hok.fresh (Nat.le_refl _)) (Nat.ne_of_lt (Nat.lt_succ_self _))
  have I2 := Inv.made (C := C) I
  have r2 : Vals (V.ref (s.heap.objs.size + 1) :: (vs ++ dvs)) (Value.ref (s.heap.objs.size + 1) :: (us ++ ds)) := .cons rfl (r.append hd)
  have hl : (Value.ref (s.heap.objs.size + 1) :: us ++ ds).length = ps.length := by
    have e := r2.length
    rw [F.len _ _ _ _ hq] at e
    exact e.symm
  refine wpAny_call (make_map (f := f) I.kIn M.makes M.init (beq_iff_eq.mp M.fn) (codeAny_mono (F.run _ X.stack _ _ ⟨Value.ref (s.heap.objs.size + 1) :: us, []⟩ (Value.ref (s.heap.objs.size + 1) :: (us ++ ds)) _ _ E (hr.make C us [])
    (I2.env0.make C us []) (hb _ (Value.ref (s.heap.objs.size + 1) :: us) I2.kIn hl) r2 hq) fun r s' hq' => ?_))
  cases r with
  | error e => exact hx pins σ _ _ e s' I2 hq'
  | ok fl =>
    cases fl with
    | ret u =>
      obtain ⟨v, H', I3, rv, ev, q3⟩ := I2.after hq'
      subst ev
      exact ⟨rv, ⟨V.ref (s.heap.objs.size + 1), H', I3, rfl, q3⟩⟩
    | next => exact False.elim hq'
    | brk => exact False.elim hq'
    | cont => exact False.elim hq'
theorem pe_make (M : Mk X.K C f) (F : FnOk X.prog X.w X.K X.mg X.base CX k f fd ps sp) (hr : Room (k + 1) X.A) (hg : Gl X x) (hm : X.mg x = some (.ref C)) (hb : Binds X.K fd ps ds) (hd : Vals dvs ds) (hx : Passes CX X E)
    (ha : PA X (e :: es) t) (hdb : (x == ("__debug__" : Str)) = false := by decide) (he : starEach (e :: es) X.env = (false, eval e X.env) :: starEach es X.env := by rfl) (hpl : (backTo pos (starEach es X.env)).any (·.1) = false := by rfl) :
    PE X (.Call (.Name x p) (e :: es) [] pos) (tMake C sp dvs E t) := by
  intro pins s σ H Q I h
  refine wpAny_Call_Name_kw (ld_glob I hg hm ?_ hdb)
  refine PySem.W.callWith_K (h₀ := X.base) I.ok.mod.kin M.kp (thn (ha pos pins s σ H _ I h) fun us s1 ⟨vs, H1, I1, r, q⟩ => ⟨I1.kIn, ?_⟩) he hpl
  exact run_make M F hr hb hd hx I1 r q
theorem pe_make0 (M : Mk X.K C f) (F : FnOk X.prog X.w X.K X.mg X.base CX k f fd ps sp) (hr : Room (k + 1) X.A) (hg : Gl X x) (hm : X.mg x = some (.ref C)) (hb : Binds X.K fd ps ds) (hd : Vals dvs ds) (hx : Passes CX X E)
    (hdb : (x == ("__debug__" : Str)) = false := by decide) : PE X (.Call (.Name x p) [] [] pos) (tMake C sp dvs E tNil) := by
  intro pins s σ H Q I h
  refine wpAny_Call_Name_kw (ld_glob I hg hm ?_ hdb)
  exact PySem.W.callWith_K0 I.kIn M.kp (run_make (us := []) M F hr hb hd hx I .nil h)
end
section
variable {X : Cx} {CX : CXT} {k : Nat} {f C : Addr} {fd : FuncData} {ps ks : List Str} {sp : Sp} {E : XK} {x m : Str} {p pos apos kpos : Pos} {e o : Expr} {es : List Expr} {kws : List Keyword} {te ta : TE} {t tk : TA} {nm : Option Str}
variable {g : List Value → List Value → List Value} {gV : List V → List V → List V}
end
structure FnScope (N P : List Str) (sc : Scope) : Prop where
  kind : sc.kind = .function
  co : sc.isCoroutine = false
  gen : sc.isGenerator = false
  nd : N.Nodup
  pre : N.take P.length = P
  par : ∀ x ∈ P, sc.names.lookup x = some .local ∨ sc.names.lookup x = some .cell
  nofree : ∀ y ∈ sc.names, y.2 ≠ .free
theorem bindL_out {kindOf : Str → Option NameKind} {x : Str} : ∀ {binds : List (Str × Value)} {m : Str → Option Value}, (∀ v, (x, v) ∉ binds) → bindL kindOf binds m x = m x
  | [], _, _ => rfl
  | (n, v) :: r, m, h => by
    unfold bindL
    rw [bindL_out fun w hw => h w (List.mem_cons_of_mem _ hw)]
    split
    · have : x ≠ n := by rintro rfl; exact h v List.mem_cons_self
      simp [this]
    · rfl
theorem bindC_out {kindOf : Str → Option NameKind} {x : Str} : ∀ {binds : List (Str × Value)} {m : Str → Option Value}, (∀ v, (x, v) ∉ binds) → bindC kindOf binds m x = m x
  | [], _, _ => rfl
  | (n, v) :: r, m, h => by
    unfold bindC
    rw [bindC_out fun w hw => h w (List.mem_cons_of_mem _ hw)]
    split
    · rfl
    · have : x ≠ n := by rintro rfl; exact h v List.mem_cons_self
      simp [this]
theorem bindL_get {kindOf : Str → Option NameKind} {x : Str} {v : Value} : ∀ {P : List Str} {vs : List Value} {i : Nat} {m : Str → Option Value}, P.Nodup → P[i]? = some x → vs[i]? = some v → kindOf x = some .local →
    bindL kindOf (P.zip vs) m x = some v
  | [], _, _, _, _, h, _, _ => by simp at h
  | _ :: _, [], _, _, _, _, h, _ => by simp at h
  | p :: P, w :: vs, 0, m, nd, h1, h2, hk => by
    simp at h1 h2; subst h1; subst h2
    show bindL kindOf ((p, w) :: P.zip vs) m p = _
    unfold bindL
    rw [bindL_out fun v hv => (List.nodup_cons.mp nd).1 (List.of_mem_zip hv).1, if_pos hk]
    simp
  | p :: P, w :: vs, i + 1, m, nd, h1, h2, hk => by
    show bindL kindOf ((p, w) :: P.zip vs) m x = _
    unfold bindL
    exact bindL_get (i := i) (List.nodup_cons.mp nd).2 (by simpa using h1) (by simpa using h2) hk
theorem bindC_get {kindOf : Str → Option NameKind} {x : Str} {v : Value} : ∀ {P : List Str} {vs : List Value} {i : Nat} {m : Str → Option Value}, P.Nodup → P[i]? = some x → vs[i]? = some v → kindOf x ≠ some .local →
    bindC kindOf (P.zip vs) m x = some v
  | [], _, _, _, _, h, _, _ => by simp at h
  | _ :: _, [], _, _, _, _, h, _ => by simp at h
  | p :: P, w :: vs, 0, m, nd, h1, h2, hk => by
    simp at h1 h2; subst h1; subst h2
    show bindC kindOf ((p, w) :: P.zip vs) m p = _
    unfold bindC
    rw [bindC_out fun v hv => (List.nodup_cons.mp nd).1 (List.of_mem_zip hv).1, if_neg hk]
    simp
  | p :: P, w :: vs, i + 1, m, nd, h1, h2, hk => by
    show bindC kindOf ((p, w) :: P.zip vs) m x = _
    unfold bindC
    exact bindC_get (i := i) (List.nodup_cons.mp nd).2 (by simpa using h1) (by simpa using h2) hk
def start (N : List Str) (vs : List V) : St := vs.map some ++ List.replicate (N.length - vs.length) none
def cxOf (CX : CXT) (P : Program) (w : World) (K : PySem.W.Frag) (mg : Str → Option Value) (base : Heap) (N : List Str) (qual : Str) (scope : Scope) (f : Addr) (cd : Value) (A : Around) (outer : List Env) (s : Shared) (H : Hp) (E : XK) : Cx where
  prog := P
  w := w
  K := K
  mg := mg
  base := base
  A := A.deeper (envOfC qual scope s.heap.objs.size f cd)
  N := N
  s₀ := s
  H₀ := H
  env := envOfC qual scope s.heap.objs.size f cd
  outer := outer
  stack := envOfC qual scope s.heap.objs.size f cd :: outer
  ex := []
  calm := true
  fn := fun _ => true
  pn := []
  xe := fun e s' => wpAny (model P w) (A.deeper (envOfC qual scope s.heap.objs.size f cd)) (leaving (envOfC qual scope s.heap.objs.size f cd) e) (fun _ s'' => CX outer H s E e s'') (fun e' s'' => CX outer H s E e' s'') s'
theorem cell_has {sc : Scope} {n : Nat} {x : Str} (h : sc.names.lookup x = some .cell) : ∃ c, (cellsFrom n sc.names []).lookup x = some c := by
  have q := PySem.W.cellsFrom_some sc.names n [] (.inl h)
  exact Option.isSome_iff_exists.mp q
theorem inv_start {CX : CXT} {P : Program} {w : World} {K : PySem.W.Frag} {mg : Str → Option Value} {base : Heap} {N ps : List Str} {qual : Str} {scope : Scope} {f : Addr} {cd : Value} {A : Around} {outer : List Env} {s s1 : Shared} {H : Hp} {E : XK} {us : List Value} {vs : List V}
    (S : FnScope N ps scope) (hd : A.handled = none) (e0 : Env0 P w K mg base A outer s H) (hl : vs.length = ps.length) (r : Vals vs us)
    (x : InCallC s s.heap.objs.size (bindL (envOfC qual scope s.heap.objs.size f cd).kindOf (ps.zip us) fun _ => none) (cellsFrom (s.heap.objs.size + 1) scope.names []) (bindC (envOfC qual scope s.heap.objs.size f cd).kindOf (ps.zip us) fun _ => none) s1) :
    Inv (cxOf CX P w K mg base N qual scope f cd A outer s H E) [] (start N vs) H s1 := by
  have hpl : ps.length ≤ N.length := by have := congrArg List.length S.pre; rw [List.length_take] at this; omega
  obtain ⟨h1, tk, rfl, hk⟩ := x.done
  have noA : ∀ b : Addr, b ∉ (cxOf CX P w K mg base N qual scope f cd A outer s H E).ex := fun b z => absurd (show b ∈ ([] : List Addr) from z) (by simp)
  refine ⟨⟨e0.mod, S.kind, rfl, rfl, Nat.le_refl _, fun y z c h1 h2 => ?_, fun y hy => ?_, fun y c _ h => ?_, fun _ => hd, Around.frames_deeper e0.frames, .inr ⟨rfl, rfl⟩, fun b z => absurd z (noA b), e0.bs, e0.bsz, fun b _ _ => noA b, fun b z => absurd z (noA b), e0.funs, e0.frf⟩,
    rfl, e0.bare, Un.kept hk, ⟨_, x.toInCall.ns, fun i y v h1 h2 h3 => ?_⟩, fun y c h => ⟨_, x.cell y c h⟩, e0.hok.fresh (Nat.le_refl _), fun y c h => ?_, fun p hp => absurd (show p ∈ ([] : List (Addr × Obj)) from hp) (by simp), e0.hok.kept hk, ?_⟩
  · exact name_of_addr x.apart (PySem.mem_of_lookup h1) (PySem.mem_of_lookup h2)
  · have hy : scope.names.lookup y = some .cell ∨ scope.names.lookup y = some .free := hy
    rcases hy with hy | hy
    · exact cell_has hy
    · exact absurd rfl (S.nofree _ (PySem.mem_of_lookup hy))
  · exact Nat.le_of_lt (x.above y c (PySem.mem_of_lookup h))
  · have hi : i < vs.length := by
      unfold start at h2
      by_cases hi : i < vs.length
      · exact hi
      · rw [List.getElem?_append_right (by simpa using hi)] at h2
        rw [List.getElem?_replicate] at h2
        split at h2 <;> cases h2
    have ha : vs[i]? = some v := by
      unfold start at h2
      rw [List.getElem?_append_left (by simpa using hi), List.getElem?_map] at h2
      cases e : vs[i]? with
      | none => rw [e] at h2; cases h2
      | some a => rw [e] at h2; cases h2; rfl
    obtain ⟨u, hu, rv⟩ := r.get ha
    have hp : ps[i]? = some y := by
      rw [← S.pre, List.getElem?_take_of_lt (by omega)]; exact h1
    have ndP : ps.Nodup := by rw [← S.pre]; exact S.nd.sublist (List.take_sublist _ _)
    refine ⟨u, rv, ?_⟩
    rcases S.par y (List.mem_of_getElem? hp) with k | k
    · exact .inl ⟨k, bindL_get ndP hp hu k⟩
    · obtain ⟨c, e⟩ := cell_has (n := s.heap.objs.size + 1) k
      refine .inr ⟨.inl k, c, e, ?_⟩
      have q := x.cell y c e
      rw [bindC_get ndP hp hu (by show scope.names.lookup y ≠ _; rw [k]; decide)] at q
      exact q
  · exact e0.hok.fresh (Nat.le_of_lt (x.above y c (PySem.mem_of_lookup h)))
  · unfold start
    show _ = N.length
    rw [List.length_append, List.length_map, List.length_replicate]
    omega
theorem fn_of {CX : CXT} {P : Program} {w : World} {K : PySem.W.Frag} {mg : Str → Option Value} {base : Heap} {k : Nat} {f : Addr} {name qual : Str} {params : Arguments} {body : List Stmt} {scope : Scope} {dV kV doc pm cdv ct oc : Value} {an od : Option Addr}
    {osl : Array (Option Value)} {N ps : List Str} {sp : Sp} (lk : K.lookup f = some ⟨oc, od, .func (PySem.W.fnOf name qual params body scope dV kV doc pm an cdv ct), osl⟩) (hcd : PySem.W.codeIn K cdv qual = true) (S : FnScope N ps scope)
    (len : ∀ vs H Q E, sp vs H Q E → vs.length = ps.length)
    (hbody : ∀ (A : Around) (outer : List Env) (s : Shared) (H : Hp) (vs : List V) (Q : VK) (E : XK), Room k (A.deeper (envOfC qual scope s.heap.objs.size f cdv)) → sp vs H Q E →
      ∃ t, PSs (cxOf CX P w K mg base N qual scope f cdv A outer s H E) body t ∧ t { nx := fun _ H' => Q .non H', rt := Q } (start N vs) H) :
    FnOk P w K mg base CX (k + 1) f (PySem.W.fnOf name qual params body scope dV kV doc pm an cdv ct) ps sp := by
  refine ⟨len, fun A outer s H args us vs Q E hr e0 hb r hsp => ?_⟩
  have hl := len _ _ _ _ hsp
  have KX : K.In s.heap := e0.mod.kin.keeps fun b o e => (e0.bs b o e).1
  have lim : s.heap.NoLimit := e0.mod.nolimit.keeps fun b o e => (e0.bs b o e).1
  have hkind : ∀ y ∈ ps.zip us, scope.names.lookup y.1 = some .local ∨ (scope.names.lookup y.1 = some .cell ∧ ((cellsFrom (s.heap.objs.size + 1) scope.names []).lookup y.1).isSome = true) := fun ⟨n, v⟩ hy => by
    rcases S.par n (List.of_mem_zip hy).1 with q | q
    · exact .inl q
    · exact .inr ⟨q, PySem.W.cellsFrom_some _ _ _ (.inl q)⟩
  refine codeAny_call_function hr.depth (KX _ _ lk) rfl S.co S.gen rfl (PySem.W.codeRec_of KX hcd) (hb _ _ _ _ ?_)
  refine wpAny_newFunctionEnv_cells S.kind hkind fun env he s1 x => ?_
  subst he
  refine ⟨lim.keeps x.toInCall.keep, codeAny_func ?_⟩
  obtain ⟨t, ht, hq⟩ := hbody A outer s H vs Q E (hr.deeper _) hsp
  have I : Inv (cxOf CX P w K mg base N qual scope f cdv A outer s H E) [] (start N vs) H s1 := inv_start S hr.hd e0 hl r x
  refine wpAny_mono (ht [] s1 (start N vs) H _ I hq) (fun fl s' hs => ?_) fun e s' hs => hs
  have fin : ∀ {σ' : St} {H' : Hp} {v : V} {u : Value}, Inv (cxOf CX P w K mg base N qual scope f cdv A outer s H E) [] σ' H' s' → RelV v u → Q v H' → CE outer P w H s Q u s' :=
    fun {σ' H' v u} J rv q => ⟨v, H', J.os, J.bare, J.base, J.hok, rv, q⟩
  cases fl with
  | ret u =>
    obtain ⟨v, σ', H', J, rv, q⟩ := hs
    exact fin J rv q
  | next =>
    obtain ⟨σ', H', J, q⟩ := hs
    exact fin (v := V.non) (u := Value.none) J rfl q
  | brk =>
    obtain ⟨_, _, _, q⟩ := hs
    exact False.elim q
  | cont =>
    obtain ⟨_, _, _, q⟩ := hs
    exact False.elim q
end L2
namespace L2
open PySem PySem.Spec PyProof.Rows
section
variable {X : Cx} {x : Str} {p pos : Pos} {e : Expr} {es : List Expr} {t : TA} {id T : String} {r : List V → Hp → VK → Prop}
def tCB (r : List V → Hp → VK → Prop) (t : TA) : TE := fun σ H Q => t σ H fun vs H1 => r vs H1 Q
theorem pe_callB (hc : CallR X (.builtin id) r) (hg : Gl X x) (hm : X.mg x = none) (hv : bootBuiltins x = some (.builtin id)) (ha : PA X (e :: es) t) (hn : x ≠ "__name__" := by decide) (hdb : (x == ("__debug__" : Str)) = false := by decide)
    (he : starEach (e :: es) X.env = (false, eval e X.env) :: starEach es X.env := by rfl) (hpl : (backTo pos (starEach es X.env)).any (·.1) = false := by rfl) : PE X (.Call (.Name x p) (e :: es) [] pos) (tCB r t) := by
  intro pins s σ H Q I h
  refine wpAny_Call_Name_kw (ld_blt I hg hm hv ?_ hn hdb)
  exact PyProof.Rows.callWith_builtin1 (thn (ha pos pins s σ H _ I h) fun us s1 ⟨vs, H1, I1, r1, q1⟩ => hc pins s1 σ H1 vs us Q I1 r1 q1) he hpl
theorem pe_callTy (hc : CallR X (.type T) r) (hg : Gl X x) (hm : X.mg x = none) (hv : bootBuiltins x = some (.type T)) (ha : PA X (e :: es) t) (hn : x ≠ "__name__" := by decide) (hdb : (x == ("__debug__" : Str)) = false := by decide)
    (he : starEach (e :: es) X.env = (false, eval e X.env) :: starEach es X.env := by rfl) (hpl : (backTo pos (starEach es X.env)).any (·.1) = false := by rfl) : PE X (.Call (.Name x p) (e :: es) [] pos) (tCB r t) := by
  intro pins s σ H Q I h
  refine wpAny_Call_Name_kw (ld_blt I hg hm hv ?_ hn hdb)
  exact PyProof.Rows.callWith_type1 (thn (ha pos pins s σ H _ I h) fun us s1 ⟨vs, H1, I1, r1, q1⟩ => hc pins s1 σ H1 vs us Q I1 r1 q1) he hpl
end
end L2
namespace HT
open PySem PyProof.Rows
section
open PySem.SeqAt
open PySem.AutoSeq1 (wpAny_loadPart')
open PySem.MeetsSeq PySem.MeetsSeq2 PySem.MeetsSeq3
end
section
variable {prog : Program} {w : World} {A : Around} {E : Value → Shared → Prop} {s : Shared}
theorem cat_tup {t b : Addr} {vs ws : List Value} {Q : Value → Shared → Prop} (ht : IsTup s.heap t vs.toArray) (hb : IsTup s.heap b ws.toArray) (hv : vs ≠ [])
    (h1 : ws = [] → Q (.ref t) s) (h2 : ws ≠ [] → Q (.ref s.heap.objs.size) { s with heap := s.heap.push { cls := .type "tuple", data := .seq (vs ++ ws).toArray } })
    (hsz : vs.length + ws.length ≤ sizeLine) : wpAny (model prog w) A (binaryOp .Add (.ref t) (.ref b)) Q E s := by
  obtain ⟨⟨cls, dd, data, sl⟩, ho, hc, n, hd⟩ := id ht
  obtain ⟨⟨cls2, dd2, data2, sl2⟩, ho2, hc2, n2, hd2⟩ := id hb
  simp only at hc hd hc2 hd2
  subst hc hd hc2 hd2
  have e : vs.toArray ++ ws.toArray = (vs ++ ws).toArray := by simp
  by_cases hw : ws = []
  · exact concat_meets ⟨_, ho, rfl⟩ ⟨_, ho2, rfl⟩ noFill_tuple_add seq_tuple_add PySem.F.slot_tuple_add PySem.F.entry_tuple_add (PySem.F.args_tuple_add_2 _ _)
      (tuple_addW1 t b vs.toArray ws.toArray n n2 dd dd2 sl sl2 (by simpa using hv) (by simp [hw])) ⟨ho, ho2, h1 hw⟩
  · refine concat_meets ⟨_, ho, rfl⟩ ⟨_, ho2, rfl⟩ noFill_tuple_add seq_tuple_add PySem.F.slot_tuple_add PySem.F.entry_tuple_add (PySem.F.args_tuple_add_2 _ _)
      (tuple_addW2 t b vs.toArray ws.toArray n n2 dd dd2 sl sl2 (by simpa using hv) (by simpa using hw) (by rw [List.size_toArray, List.size_toArray]; exact hsz)) ⟨ho, ho2, ?_⟩
    rw [e]
    exact h2 hw
def sIx (n d : Nat) : Option Int → Nat
  | none => d
  | some v => if v < 0 then (v + (n : Int)).toNat else min v.toNat n
theorem sIx_none (n d : Nat) : sIx n d none = d := rfl
theorem sIx_nat (n d k : Nat) : sIx n d (some (k : Int)) = min k n := by
  show (if (k : Int) < 0 then ((k : Int) + (n : Int)).toNat else min (k : Int).toNat n) = min k n
  rw [if_neg (by omega), Int.toNat_natCast]
theorem sIx_le (n d : Nat) (hd : d ≤ n) (o : Option Int) : sIx n d o ≤ n := by
  cases o with
  | none => exact hd
  | some v =>
    show (if v < 0 then (v + (n : Int)).toNat else min v.toNat n) ≤ n
    by_cases hv : v < 0
    · rw [if_pos hv]; omega
    · rw [if_neg hv]; exact Nat.min_le_right _ _
theorem clip_eq (v : Int) (n d : Nat) : (if v < 0 then max (v + (n : Int)) 0 else min v (n : Int)) = ((sIx n d (some v) : Nat) : Int) := by
  show (if v < 0 then max (v + (n : Int)) 0 else min v (n : Int)) = (((if v < 0 then (v + (n : Int)).toNat else min v.toNat n) : Nat) : Int)
  by_cases hv : v < 0
  · simp only [if_pos hv]; omega
  · simp only [if_neg hv]; omega
theorem adjust_gen (lo hi : Option Int) (n : Nat) : Builtin.Slice.sliceAdjust lo hi 1 (n : Int) = (((sIx n 0 lo : Nat) : Int), ((sIx n n hi : Nat) : Int)) := by
  have h1 : ¬ ((1 : Int) < 0) := by omega
  unfold Builtin.Slice.sliceAdjust
  simp only [h1, if_false]
  refine Prod.ext ?_ ?_
  · cases lo with
    | none => rfl
    | some v => exact clip_eq v n 0
  · cases hi with
    | none => rfl
    | some v => exact clip_eq v n n
theorem places_gen (i j : Nat) : Builtin.Slice.slicePlaces (i : Int) (j : Int) 1 = j - i := by
  unfold Builtin.Slice.slicePlaces
  have h1 : (1 : Int) > 0 := by omega
  simp only [h1, if_true, Int.ediv_one]
  split <;> omega
theorem slicePart_ {v : Value} {o : Option Int} {Q : Option Int → Shared → Prop} (p : IsPart v o) (h : Q o s) : wpAny (model prog w) A (Builtin.Slice.slicePartIndex v) Q E s := by
  cases p with
  | none => exact slicePart_none h
  | int i t => exact slicePart_int h
theorem sliceApplied_gen {sl : Addr} {vl vu : Value} {lo hi : Option Int} {n : Nat} {Q : Int × Int × Nat → Shared → Prop} (hs : s.heap.IsSliceOf sl vl vu .none) (pl : IsPart vl lo) (pu : IsPart vu hi)
    (h : Q (((sIx n 0 lo : Nat) : Int), 1, sIx n n hi - sIx n 0 lo) s) : wpAny (model prog w) A (Builtin.Slice.sliceApplied (.ref sl) (pure (n : Int))) Q E s := by
  obtain ⟨os, hos, hcs, hds⟩ := id hs
  unfold Builtin.Slice.sliceApplied Builtin.Slice.sliceFields
  refine wpAny_bind (wpAny_bind (wpAny_field hos hds (x := vl) rfl (wpAny_bind (wpAny_field hos hds (x := vu) rfl (wpAny_bind (wpAny_field hos hds (x := .none) rfl (wpAny_pure ?_)))))))
  refine wpAny_bind (slicePart_none ?_)
  show wpAny _ _ (if ((1 : Int) == 0) = true then _ else _) _ _ s
  rw [if_neg (by decide)]
  refine wpAny_bind (slicePart_ pl (wpAny_bind (slicePart_ pu (wpAny_bind (wpAny_pure ?_)))))
  show wpAny _ _ (match Builtin.Slice.sliceAdjust lo hi 1 (n : Int) with | (lo, hi) => pure (lo, (1 : Int), Builtin.Slice.slicePlaces lo hi 1)) _ _ s
  rw [adjust_gen lo hi n]
  show wpAny _ _ (pure (((sIx n 0 lo : Nat) : Int), (1 : Int), Builtin.Slice.slicePlaces ((sIx n 0 lo : Nat) : Int) ((sIx n n hi : Nat) : Int) 1)) _ _ s
  rw [places_gen]
  exact wpAny_pure h
theorem pick_gen (xs : Array Value) (i k : Nat) : ((List.range k).filterMap fun (m : Nat) => xs[((i : Int) + (m : Int) * 1).toNat]?).toArray = ((xs.toList.drop i).take k).toArray := by
  have e : (fun (m : Nat) => xs[((i : Int) + (m : Int) * 1).toNat]?) = fun m => xs[i + m]? := by
    funext m
    have : ((i : Int) + (m : Int) * 1).toNat = i + m := by omega
    rw [this]
  rw [e]
  have := pick_run xs i k
  rw [List.filterMap_map] at this
  have e2 : ((fun x => xs[x]?) ∘ fun x => i + x) = fun m => xs[i + m]? := rfl
  rw [e2] at this
  rw [this]
theorem getItem_tuple_cut {t sl : Addr} {items : Array Value} {vl vu : Value} {lo hi : Option Int} {Q : Value → Shared → Prop} (ht : IsTup s.heap t items) (hs : s.heap.IsSliceOf sl vl vu .none) (pl : IsPart vl lo) (pu : IsPart vu hi)
    (hw : ¬ (sIx items.size 0 lo = 0 ∧ sIx items.size items.size hi = items.size))
    (h : Q (.ref s.heap.objs.size) { s with heap := s.heap.push { cls := .type "tuple", data := .seq ((items.toList.drop (sIx items.size 0 lo)).take (sIx items.size items.size hi - sIx items.size 0 lo)).toArray } })
    (hsz : items.size ≤ sizeLine) : wpAny (model prog w) A (getItem (.ref t) (.ref sl)) Q E s := by
  have htake : sizeOk (.seq ((items.toList.drop (sIx items.size 0 lo)).take (sIx items.size items.size hi - sIx items.size 0 lo)).toArray) := by
    show ((items.toList.drop (sIx items.size 0 lo)).take (sIx items.size items.size hi - sIx items.size 0 lo)).toArray.size ≤ sizeLine
    rw [List.size_toArray, List.length_take, List.length_drop, Array.length_toList]
    omega
  have hj : sIx items.size items.size hi ≤ items.size := sIx_le _ _ (Nat.le_refl _) hi
  obtain ⟨os, hos, hcs, hds⟩ := id hs
  have hTs : s.TypeIs (.ref sl) "slice" := ⟨os, hos, hcs⟩
  unfold getItem
  try with_reducible refine wpAny_holding ?_
  first | refine wpAny_bind (wpAny_pure ?_) | skip
  refine wpAny_bind (wpAny_sequenceKey ht.typeIs (by decide) ?_)
  refine wpAny_bind (wpAny_callSpecial?_slot (name := Str.ofString "__getitem__") ht.typeIs PyProof.Rows.slot_tuple_getitem
    (wpAny_call_entry PyProof.Rows.slot_tuple_getitem ht.typeIs entry_tuple_getitem ?_ (args_tuple_getitem _ _)))
  show wpAny _ _ (Builtin.Tuple.tupleItemsOf (.ref t) >>= _) _ _ s
  refine wpAny_bind (tupleItemsOf_ ht ?_)
  refine wpAny_bind (wpAny_typeOf hTs ?_)
  rw [if_pos (by decide)]
  refine wpAny_bind (sliceApplied_gen hs pl pu ?_)
  have hno : ¬ ((((sIx items.size 0 lo : Nat) : Int) == 0 && (1 : Int) == 1 && (sIx items.size items.size hi - sIx items.size 0 lo) == items.size) = true) := by
    intro q
    rw [Bool.and_eq_true, Bool.and_eq_true] at q
    have q1 : ((sIx items.size 0 lo : Nat) : Int) = 0 := eq_of_beq q.1.1
    have q2 : sIx items.size items.size hi - sIx items.size 0 lo = items.size := eq_of_beq q.2
    exact hw ⟨by omega, by omega⟩
  show wpAny _ _ (if (((sIx items.size 0 lo : Nat) : Int) == 0 && (1 : Int) == 1 && (sIx items.size items.size hi - sIx items.size 0 lo) == items.size) = true then _ else _) _ _ s
  rw [if_neg hno, pick_gen]
  first
    | exact wpAny_bind (m := Builtin.Tuple.tupleExact _) (wpAny_newObj_type (wpAny_pure ⟨_, rfl, wpAny_pure h⟩) htake)
    | exact wpAny_bind (m := Builtin.Tuple.tupleExact _) (wpAny_newObj_type (wpAny_bind (wpAny_pure (wpAny_pure ⟨_, rfl, wpAny_pure h⟩))) htake)
    | exact wpAny_bind (wpAny_bind (m := Builtin.Tuple.tupleExact _) (wpAny_newObj_type (wpAny_pure (wpAny_pure ⟨_, rfl, wpAny_pure h⟩)) htake))
    | exact wpAny_bind (wpAny_bind (m := Builtin.Tuple.tupleExact _) (wpAny_newObj_type (wpAny_pure ⟨_, rfl, wpAny_pure h⟩) htake))
end
end HT
namespace L2
open PySem PySem.Spec PyProof.Rows
abbrev TO := St → Hp → (Option Int → Hp → Prop) → Prop
def PO (X : Cx) (e : Option Expr) (t : TO) : Prop :=
  ∀ (pins : List (Addr × Obj)) (s : Shared) (σ : St) (H : Hp) (Q : Option Int → Hp → Prop), Inv X pins σ H s → t σ H Q →
    wpAny (model X.prog X.w) X.A (evalPart e X.env) (fun u s' => ∃ o H', Inv X pins σ H' s' ∧ IsPart u o ∧ Q o H') X.xe s
def tNoPart : TO := fun _ H Q => Q none H
def tPart (t : TE) : TO := fun σ H Q => t σ H fun x H1 => ∃ i, x = .int i ∧ Q (some i) H1
section
variable {X : Cx} {e : Expr} {te : TE} {lo hi : Option Expr} {tl th : TO} {pos p2 : Pos}
theorem po_none : PO X none tNoPart := by
  intro pins s σ H Q I h
  rw [evalPart_none]
  exact wpAny_pure ⟨none, H, I, .none, h⟩
theorem po_some (h : PE X e te) : PO X (some e) (tPart te) := by
  intro pins s σ H Q I hw
  rw [evalPart_some]
  refine thn (h pins s σ H _ I hw) fun u s1 ⟨x, H1, I1, r1, q1⟩ => ?_
  obtain ⟨i, rfl, q⟩ := q1
  obtain ⟨t, rfl⟩ := r1
  exact ⟨some i, H1, I1, .int i t, q⟩
def SlR (X : Cx) (r : V → Option Int → Option Int → Hp → VK → Prop) : Prop :=
  ∀ (pins : List (Addr × Obj)) (s : Shared) (σ : St) (H : Hp) (x : V) (v vl vu : Value) (lo hi : Option Int) (sl : Addr) (Q : VK), Inv X pins σ H s → RelV x v → s.heap.IsSliceOf sl vl vu .none → IsPart vl lo → IsPart vu hi → r x lo hi H Q →
    ∃ T id, typeLookup (.type T) "__getitem__" = pure (some (.builtin id)) ∧ s.TypeIs v T ∧ wpAny (model X.prog X.w) X.A (getItem v (.ref sl)) (EP X pins σ Q) X.xe s
def tSl (r : V → Option Int → Option Int → Hp → VK → Prop) (te : TE) (tl th : TO) : TE := fun σ H Q => te σ H fun x H1 => tl σ H1 fun l H2 => th σ H2 fun u H3 => r x l u H3 Q
theorem pe_slice {r : V → Option Int → Option Int → Hp → VK → Prop} (hr : SlR X r) (he : PE X e te) (hl : PO X lo tl) (hu : PO X hi th) : PE X (.Subscript e (.Slice lo hi none p2) pos) (tSl r te tl th) := by
  intro pins s σ H Q I h
  refine Subscript_ (thn (he pins s σ H _ I h) fun v s1 ⟨x, H1, I1, r1, q1⟩ => ?_)
  refine wpAny_Slice (thn (hl pins s1 σ H1 _ I1 q1) fun vl s2 ⟨l, H2, I2, pl, q2⟩ => thn (hu pins s2 σ H2 _ I2 q2) fun vu s3 ⟨u, H3, I3, pu, q3⟩ => ?_)
  rw [evalPart_none]
  refine wpAny_pure ?_
  have I4 : Inv X pins σ H3 { s3 with heap := s3.heap.push { cls := .type "slice", data := .fields #[vl, vu, .none] } } := I3.kept (t' := s3.toks) fun b ob q => Heap.get?_push_of_some _ q
  obtain ⟨T, id, hT, ht, hg⟩ := hr pins { s3 with heap := s3.heap.push { cls := .type "slice", data := .fields #[vl, vu, .none] } } σ H3 x v vl vu l u s3.heap.objs.size Q I4 r1 (Heap.IsSliceOf.new ..) pl pu q3
  show wpAny (model X.prog X.w) X.A (subscriptTail e (.Slice lo hi none p2) v (.ref s3.heap.objs.size)) (EP X pins σ Q) X.xe { s3 with heap := s3.heap.push { cls := .type "slice", data := .fields #[vl, vu, .none] } }
  exact tail_any (ops := [.ref s3.heap.objs.size, v]) ht hT hg (by with_unfolding_all rfl)
def cutV (xs : List V) (lo hi : Option Int) : List V := (xs.drop (HT.sIx xs.length 0 lo)).take (HT.sIx xs.length xs.length hi - HT.sIx xs.length 0 lo)
theorem cutV_length (xs : List V) (lo hi : Option Int) : (cutV xs lo hi).length ≤ xs.length := by
  unfold cutV
  rw [List.length_take, List.length_drop]
  omega
def rSlT (K : PySem.W.Frag) : V → Option Int → Option Int → Hp → VK → Prop := fun x lo hi H Q => ∃ a xs, x = .ref a ∧ SqT K H a xs ∧
  ¬ (HT.sIx xs.length 0 lo = 0 ∧ HT.sIx xs.length xs.length hi = xs.length) ∧ ∀ p, H p = none → Q (.ref p) (upd H p (.tup (cutV xs lo hi)))
theorem sl_tup : SlR X (rSlT X.K) := by
  intro pins s σ H x v vl vu lo hi sl Q I rx hs pl pu h
  obtain ⟨a, xs, rfl, hx, hw, q⟩ := h
  cases rx
  obtain ⟨its, r, ht, hz⟩ := I.tuple hx
  have hlen : its.toArray.size = xs.length := by rw [List.size_toArray]; exact r.length.symm
  refine ⟨"tuple", _, PyProof.Rows.slot_tuple_getitem.lookup, ht.typeIs, ?_⟩
  refine HT.getItem_tuple_cut ht hs pl pu (by rw [hlen]; exact hw) ?_ (by rw [hlen]; exact hz)
  rw [hlen]
  refine ⟨.ref s.heap.objs.size, _, I.laid (t' := s.toks) (o := .tup (cutV xs lo hi)) (fun b ob q => Heap.get?_push_of_some _ q) (Nat.le_refl _) ?_, rfl, q _ (I.hok.fresh (Nat.le_refl _))⟩
  exact ⟨Nat.le_trans (cutV_length xs lo hi) hz, _, (r.drop (HT.sIx xs.length 0 lo)).take (HT.sIx xs.length xs.length hi - HT.sIx xs.length 0 lo), IsTup.new _ _⟩
def rCatT (K : PySem.W.Frag) : R2 := fun x y H Q => ∃ a b xs ys, x = .ref a ∧ y = .ref b ∧ SqT K H a xs ∧ SqT K H b ys ∧ xs ≠ [] ∧ xs.length + ys.length ≤ sizeLine ∧
  (ys = [] → Q (.ref a) H) ∧ (ys ≠ [] → ∀ p, H p = none → Q (.ref p) (upd H p (.tup (xs ++ ys))))
theorem Vals.nil_iff {xs : List V} {us : List Value} (r : Vals xs us) : us = [] ↔ xs = [] := by
  cases r with
  | nil => simp
  | cons _ _ => simp
theorem op_catT : OpR X (binaryOp .Add) (rCatT X.K) := by
  intro pins s σ H x y v u Q I rx ry h
  obtain ⟨a, b, xs, ys, rfl, rfl, ha, hb, hx, hz, q1, q2⟩ := h
  cases rx
  cases ry
  obtain ⟨its, r1, p1, _⟩ := I.tuple ha
  obtain ⟨its2, r2, p2, _⟩ := I.tuple hb
  refine HT.cat_tup p1 p2 (fun z => hx (r1.nil_iff.mp z)) (fun z => ⟨.ref a, H, I, rfl, q1 (r2.nil_iff.mp z)⟩) (fun z => ?_) (by rw [← r1.length, ← r2.length]; exact hz)
  refine ⟨.ref s.heap.objs.size, _, I.laid (t' := s.toks) (o := .tup (xs ++ ys)) (fun b ob q => Heap.get?_push_of_some _ q) (Nat.le_refl _) ?_, rfl, q2 (fun w => z (r2.nil_iff.mpr w)) _ (I.hok.fresh (Nat.le_refl _))⟩
  exact ⟨by rw [List.length_append]; exact hz, _, r1.append r2, IsTup.new _ _⟩
end
end L2
namespace L2
open PySem PySem.Spec PyProof.Rows
def ixN (n : Nat) (i : Int) : Option Nat := if 0 ≤ i then (if i < n then some i.toNat else none) else if -(n : Int) ≤ i then some (i + n).toNat else none
def atI {α : Type} (xs : List α) (i : Int) : Option α := (ixN xs.length i).bind fun j => xs[j]?
theorem ixN_seq {n : Nat} {i : Int} {j : Nat} (h : ixN n i = some j) : seqIndex? i n = some j ∧ j < n ∧ -(n : Int) ≤ i ∧ i < n := by
  unfold ixN at h
  by_cases h0 : 0 ≤ i
  · rw [if_pos h0] at h
    by_cases h1 : i < n
    · rw [if_pos h1] at h
      have e : i.toNat = j := Option.some.inj h
      exact ⟨by rw [seqIndex_of h0 h1, e], by omega, by omega, h1⟩
    · rw [if_neg h1] at h; cases h
  · rw [if_neg h0] at h
    by_cases h1 : -(n : Int) ≤ i
    · rw [if_pos h1] at h
      have e : (i + n).toNat = j := Option.some.inj h
      exact ⟨by rw [seqIndex_neg (by omega) h1, e], by omega, h1, by omega⟩
    · rw [if_neg h1] at h; cases h
theorem atI_get {α : Type} {xs : List α} {i : Int} {v : α} (h : atI xs i = some v) : ∃ j, seqIndex? i xs.length = some j ∧ xs[j]? = some v ∧ j < xs.length ∧ -(xs.length : Int) ≤ i ∧ i < xs.length := by
  unfold atI at h
  cases e : ixN xs.length i with
  | none => rw [e] at h; cases h
  | some j =>
    rw [e] at h
    obtain ⟨h1, h2, h3, h4⟩ := ixN_seq e
    exact ⟨j, h1, h, h2, h3, h4⟩
theorem atI_nat {α : Type} {xs : List α} {j : Nat} {v : α} (h : xs[j]? = some v) : atI xs (j : Int) = some v := by
  have hj : j < xs.length := (List.getElem?_eq_some_iff.mp h).1
  have e : ixN xs.length (j : Int) = some j := by
    unfold ixN
    rw [if_pos (by omega), if_pos (by omega)]; simp
  unfold atI; rw [e]; exact h
def PlainIx (b : Expr) : Prop := ∀ o i, subscripted b false o i = operate [o, i] (getItem o i)
def IxR (X : Cx) (r : R2) : Prop :=
  ∀ (value slice : Expr) (pins : List (Addr × Obj)) (s : Shared) (σ : St) (H : Hp) (x y : V) (v u : Value) (Q : VK), Inv X pins σ H s → RelV x v → RelV y u → r x y H Q →
    subscripted slice false v u = operate [v, u] (getItem v u) → wpAny (model X.prog X.w) X.A (subscriptTail value slice v u) (EP X pins σ Q) X.xe s
def MtR (X : Cx) (id : String) (r : V → List V → Hp → VK → Prop) : Prop :=
  ∀ (pins : List (Addr × Obj)) (s : Shared) (σ : St) (H : Hp) (x : V) (xs : List V) (v : Value) (us : List Value) (Q : VK), Inv X pins σ H s → RelV x v → Vals xs us → r x xs H Q →
    wpAny (model X.prog X.w) X.A (call (.builtin id) (v :: us)) (EP X pins σ Q) X.xe s
section
variable {X : Cx} {a b : Expr} {ta tb : TE} {pos : Pos}
theorem pe_ix {r : R2} (hr : IxR X r) (ha : PE X a ta) (hb : PE X b tb) (hs : PlainIx b) : PE X (.Subscript a b pos) (tOp r ta tb) := by
  intro pins s σ H Q I h
  exact Subscript_ (binT ha hb I h fun v u s2 x y H2 I2 rx ry q => hr a b pins s2 σ H2 x y v u Q I2 rx ry q (hs _ _))
def rIxL (K : PySem.W.Frag) : R2 := fun x y H Q => ∃ p xs i v, x = .ref p ∧ y = .int i ∧ SqL K H p xs ∧ atI xs i = some v ∧ Q v H
def rIxT (K : PySem.W.Frag) : R2 := fun x y H Q => ∃ p xs i v, x = .ref p ∧ y = .int i ∧ SqT K H p xs ∧ atI xs i = some v ∧ Q v H
def rIxS : R2 := fun x y H Q => ∃ z i c, x = .str z ∧ y = .int i ∧ z.length ≤ sizeLine ∧ atI z.cps.toList i = some c ∧ Q (.str ⟨#[c]⟩) H
theorem ix_list : IxR X (rIxL X.K) := by
  intro value slice pins s σ H x y v u Q I rx ry h hs
  obtain ⟨p, xs, i, z, rfl, rfl, hq, he, q⟩ := h
  cases rx
  obtain ⟨t, rfl⟩ := ry
  obtain ⟨its, r, pl, hz⟩ := I.list hq
  obtain ⟨j, h1, h2, h3, h4, h5⟩ := atI_get he
  obtain ⟨w, ew, rw'⟩ := r.get h2
  have hl := r.length
  have hn := line63
  have fin : EP X pins σ Q w s := ⟨z, H, I, rw', q⟩
  by_cases h0 : 0 ≤ i
  · have hj : i.toNat = j := by
      rw [seqIndex_of h0 h5] at h1
      exact Option.some.inj h1
    exact item_listR pl.isList h0 (by omega) (by rw [hj]; simpa using ew) fin hs
  · have hj : (i + (its.toArray.size : Int)).toNat = j := by
      rw [seqIndex_neg (by omega) h4] at h1
      rw [List.size_toArray, ← hl]
      exact Option.some.inj h1
    exact subscriptTail_builtinR (x := w) pl.isList.typeIs slot_list_getitem.lookup
      (wpAny_getItem_list_neg (Q := fun r s' => r = w ∧ EP X pins σ Q r s') pl.isList (by omega) (by rw [List.size_toArray] <;> omega) (by omega) (by rw [hj]; simpa using ew) ⟨rfl, fin⟩) hs
theorem ix_tup : IxR X (rIxT X.K) := by
  intro value slice pins s σ H x y v u Q I rx ry h hs
  obtain ⟨p, xs, i, z, rfl, rfl, hq, he, q⟩ := h
  cases rx
  obtain ⟨t, rfl⟩ := ry
  obtain ⟨its, r, pl, hz⟩ := I.tuple hq
  obtain ⟨j, h1, h2, h3, h4, h5⟩ := atI_get he
  obtain ⟨w, ew, rw'⟩ := r.get h2
  have hl := r.length
  have hn := line63
  have fin : EP X pins σ Q w s := ⟨z, H, I, rw', q⟩
  exact subscriptTail_builtinR (x := w) pl.typeIs slot_tuple_getitem.lookup
    (getItem_tuple (j := j) (Q := fun r s' => r = w ∧ EP X pins σ Q r s') pl (by omega) (by omega) (by rw [List.size_toArray, ← hl]; exact h1) (by simpa using ew) ⟨rfl, fin⟩) hs
theorem ix_str : IxR X rIxS := by
  intro value slice pins s σ H x y v u Q I rx ry h hs
  obtain ⟨z, i, c, rfl, rfl, hz, he, q⟩ := h
  obtain ⟨t, rfl⟩ := rx
  obtain ⟨t', rfl⟩ := ry
  obtain ⟨j, h1, h2, h3, h4, h5⟩ := atI_get he
  have hl : z.cps.toList.length = z.length := by simp [Str.length]
  rw [hl] at h1 h4 h5
  have hn := line63
  exact tail_any (typeIs_str s z t) slot_str_getitem.lookup (getItem_str (c := c) (by
    have e1 : decide (i < -(2 ^ 63 : Int)) = false := decide_eq_false (by omega)
    have e2 : decide (i ≥ 2 ^ 63) = false := decide_eq_false (by omega)
    rw [e1, e2, Bool.or_false]) (by rw [h1]; simpa using h2) ⟨.str ⟨#[c]⟩, H, I.tok _, ⟨_, rfl⟩, q⟩) hs
theorem Inv.lst {pins : List (Addr × Obj)} {σ : St} {H : Hp} {s : Shared} {p : Addr} {xs : List V} (I : Inv X pins σ H s) (h : H p = some (.lst xs)) :
    ∃ (its : List Value) (n : Nat), Vals xs its ∧ s.heap.get? p = some { cls := .type "list", data := .seq its.toArray n } ∧ xs.length ≤ sizeLine := by
  obtain ⟨z, its, n, r, e⟩ := I.hok p _ h
  exact ⟨its, n, r, e, z⟩
def flatV : V → Bool
  | .non => true
  | .bl _ => true
  | .int _ => true
  | .str _ => true
  | _ => false
def eqV : V → V → Bool
  | .non, .non => true
  | .bl a, .bl b => a == b
  | .bl a, .int b => (if a then 1 else 0) == b
  | .int a, .bl b => a == (if b then 1 else 0)
  | .int a, .int b => a == b
  | .str a, .str b => a == b
  | _, _ => false
theorem eqAt_V {A : Around} {s : Shared} {y x : V} {u v : Value} (ry : RelV y u) (rx : RelV x v) (fy : flatV y = true) (fx : flatV x = true) : SeqAt.EqAt A s u v (eqV y x) := by
  cases y with
  | non =>
    cases ry
    cases x with
    | non => cases rx; exact SeqAt.EqAt.same _
    | bl b => cases rx; exact SeqAt.EqAt.none_bool b
    | int b => obtain ⟨t, rfl⟩ := rx; exact SeqAt.EqAt.none_int b t
    | str b => obtain ⟨t, rfl⟩ := rx; exact SeqAt.EqAt.none_str b t
    | _ => exact absurd (show false = true from fx) Bool.false_ne_true
  | bl a =>
    cases ry
    cases x with
    | non => cases rx; exact SeqAt.EqAt.bool_none a
    | bl b => cases rx; exact SeqAt.EqAt.bool_bool a b
    | int b => obtain ⟨t, rfl⟩ := rx; exact SeqAt.EqAt.bool_int a b t
    | str b => obtain ⟨t, rfl⟩ := rx; exact SeqAt.EqAt.bool_str a b t
    | _ => exact absurd (show false = true from fx) Bool.false_ne_true
  | int a =>
    obtain ⟨t', rfl⟩ := ry
    cases x with
    | non => cases rx; exact SeqAt.EqAt.int_none a t'
    | bl b => cases rx; exact SeqAt.EqAt.int_bool a t' b
    | int b => obtain ⟨t, rfl⟩ := rx; exact SeqAt.EqAt.int_int a t' b t
    | str b => obtain ⟨t, rfl⟩ := rx; exact SeqAt.EqAt.int_str a t' b t
    | _ => exact absurd (show false = true from fx) Bool.false_ne_true
  | str a =>
    obtain ⟨t', rfl⟩ := ry
    cases x with
    | non => cases rx; exact SeqAt.EqAt.str_none a t'
    | bl b => cases rx; exact SeqAt.EqAt.str_bool a t' b
    | int b => obtain ⟨t, rfl⟩ := rx; exact SeqAt.EqAt.str_int a t' b t
    | str b => obtain ⟨t, rfl⟩ := rx; exact SeqAt.EqAt.str_str a t' b t
    | _ => exact absurd (show false = true from fx) Bool.false_ne_true
  | _ => exact absurd (show false = true from fy) Bool.false_ne_true
def eqU (x : V) (u : Value) : Bool := match u with
  | .none => eqV .non x
  | .bool b => eqV (.bl b) x
  | .int i _ => eqV (.int i) x
  | .str z _ => eqV (.str z) x
  | _ => false
theorem eqU_of {x y : V} {u : Value} (r : RelV y u) (f : flatV y = true) : eqU x u = eqV y x := by
  cases y with
  | non => cases r; rfl
  | bl b => cases r; rfl
  | int i => obtain ⟨t, rfl⟩ := r; rfl
  | str z => obtain ⟨t, rfl⟩ := r; rfl
  | _ => exact absurd (show false = true from f) Bool.false_ne_true
theorem any_eqU {x : V} : ∀ {xs : List V} {us : List Value}, Vals xs us → xs.all flatV = true → us.any (eqU x) = xs.any fun y => eqV y x
  | _, _, .nil, _ => rfl
  | y :: xs, u :: us, .cons r t, f => by
    rw [List.all_cons, Bool.and_eq_true] at f
    rw [List.any_cons, List.any_cons, eqU_of r f.1, any_eqU t f.2]
theorem mem_eqAt {A : Around} {s : Shared} {x : V} {v : Value} (rx : RelV x v) (fx : flatV x = true) : ∀ {xs : List V} {us : List Value}, Vals xs us → xs.all flatV = true → ∀ u ∈ us, SeqAt.EqAt A s u v (eqU x u)
  | _, _, .nil, _ => fun u hu => by cases hu
  | y :: xs, u :: us, .cons r t, f => fun u' hu => by
    rw [List.all_cons, Bool.and_eq_true] at f
    rcases List.mem_cons.mp hu with rfl | hu
    · rw [eqU_of r f.1]; exact eqAt_V r rx f.1 fx
    · exact mem_eqAt rx fx t f.2 u' hu
def inV (x : V) (xs : List V) : Bool := xs.any fun y => eqV y x
def rIn (K : PySem.W.Frag) (neg : Bool) : R2 := fun x y H Q => ∃ p xs, y = .ref p ∧ (SqL K H p xs ∨ SqT K H p xs) ∧ flatV x = true ∧ xs.all flatV = true ∧ Q (.bl (if neg then !inV x xs else inV x xs)) H
theorem op_in_seq : OpR X (compareOp .In) (rIn X.K false) := by
  intro pins s σ H x y v u Q I rx ry h
  obtain ⟨p, xs, rfl, hq, fx, fs, q⟩ := h
  cases ry
  rcases hq with hq | hq
  · obtain ⟨its, r, pl, hz⟩ := I.list hq
    refine SeqAt.in_listAt (eqU x) pl.isList (fun w hw => mem_eqAt rx fx r fs w (by simpa using hw)) ⟨.bl _, H, I, rfl, ?_⟩
    rw [show its.toArray.any (eqU x) = its.any (eqU x) by simp, any_eqU r fs]
    exact q
  · obtain ⟨its, r, pl, hz⟩ := I.tuple hq
    refine SeqAt.in_tupleAt (eqU x) pl (fun w hw => mem_eqAt rx fx r fs w (by simpa using hw)) ⟨.bl _, H, I, rfl, ?_⟩
    rw [show its.toArray.any (eqU x) = its.any (eqU x) by simp, any_eqU r fs]
    exact q
theorem op_notIn_seq : OpR X (compareOp .NotIn) (rIn X.K true) := by
  intro pins s σ H x y v u Q I rx ry h
  obtain ⟨p, xs, rfl, hq, fx, fs, q⟩ := h
  cases ry
  rcases hq with hq | hq
  · obtain ⟨its, r, pl, hz⟩ := I.list hq
    refine SeqAt.notIn_listAt (eqU x) pl.isList (fun w hw => mem_eqAt rx fx r fs w (by simpa using hw)) ⟨.bl _, H, I, rfl, ?_⟩
    rw [show its.toArray.any (eqU x) = its.any (eqU x) by simp, any_eqU r fs]
    exact q
  · obtain ⟨its, r, pl, hz⟩ := I.tuple hq
    refine SeqAt.notIn_tupleAt (eqU x) pl (fun w hw => mem_eqAt rx fx r fs w (by simpa using hw)) ⟨.bl _, H, I, rfl, ?_⟩
    rw [show its.toArray.any (eqU x) = its.any (eqU x) by simp, any_eqU r fs]
    exact q
theorem call_len_seq : CallR X (.builtin "len") (fun xs H Q => ∃ p ys, xs = [.ref p] ∧ (SqL X.K H p ys ∨ SqT X.K H p ys) ∧ Q (.int ys.length) H) := by
  intro pins s σ H xs us Q I r h
  obtain ⟨p, ys, rfl, hq, q⟩ := h
  obtain ⟨u, rfl, rx⟩ := vals1 r
  cases rx
  have hn := line63
  rcases hq with hq | hq
  · obtain ⟨its, r', pl, hz⟩ := I.list hq
    have hlen := r'.length
    exact Calls.call_len_list pl.isList (by simp only [List.size_toArray] <;> omega) ⟨.int ys.length, H, I.tok _, ⟨s.toks + 1, by rw [List.size_toArray, hlen]⟩, q⟩
  · obtain ⟨its, r', pl, hz⟩ := I.tuple hq
    have hlen := r'.length
    exact len_tuple pl (by simp only [List.size_toArray] <;> omega) ⟨.int ys.length, H, I.tok _, ⟨s.toks + 1, by rw [List.size_toArray, hlen]⟩, q⟩
theorem call_list_of : CallR X (.type "list") (fun xs H Q => ∃ p ys, xs = [.ref p] ∧ (SqL X.K H p ys ∨ SqT X.K H p ys) ∧ ∀ l, H l = none → Q (.ref l) (upd H l (.lst ys))) := by
  intro pins s σ H xs us Q I r h
  obtain ⟨p, ys, rfl, hq, q⟩ := h
  obtain ⟨u, rfl, rx⟩ := vals1 r
  cases rx
  have fin : ∀ (its : List Value), Vals ys its → ys.length ≤ sizeLine → ∀ (h' : Heap) (c' : Nat), (∀ b o', s.heap.get? b = some o' → h'.get? b = some o') →
      h'.get? s.heap.objs.size = some { cls := .type "list", dict := none, data := .seq its.toArray c', slots := #[] } → EP X pins σ Q (.ref s.heap.objs.size) { s with heap := h' } := fun its r' hz h' c' kp e =>
    ⟨.ref s.heap.objs.size, _, I.laid (t' := s.toks) kp (Nat.le_refl _) (show ObjOk X.prog X.w _ h' _ (.lst ys) from ⟨hz, its, c', r', e⟩), rfl, q _ (I.hok.fresh (Nat.le_refl _))⟩
  rcases hq with hq | hq
  · obtain ⟨its, r', pl, hz⟩ := I.list hq
    have hlen := r'.length
    obtain ⟨o, ho, hc, n, hd⟩ := pl.isList
    exact call_list_seq p (.inl rfl) ho hc hd (fun h' c' kp e => fin its r' hz h' c' kp e) (by simp only [List.size_toArray] <;> omega)
  · obtain ⟨its, r', pl, hz⟩ := I.tuple hq
    have hlen := r'.length
    obtain ⟨o, ho, hc, n, hd⟩ := pl
    exact call_list_seq p (.inr rfl) ho hc hd (fun h' c' kp e => fin its r' hz h' c' kp e) (by simp only [List.size_toArray] <;> omega)
theorem call_tuple_of : CallR X (.type "tuple") (fun xs H Q => ∃ p ys, xs = [.ref p] ∧ ((SqL X.K H p ys ∧ ∀ l, H l = none → Q (.ref l) (upd H l (.tup ys))) ∨ (SqT X.K H p ys ∧ Q (.ref p) H))) := by
  intro pins s σ H xs us Q I r h
  obtain ⟨p, ys, rfl, h⟩ := h
  obtain ⟨u, rfl, rx⟩ := vals1 r
  cases rx
  rcases h with ⟨hq, q⟩ | ⟨hq, q⟩
  · obtain ⟨its, r', pl, hz⟩ := I.list hq
    have hlen := r'.length
    refine call_tuple_list pl.isList (fun h' kp => ?_) (by simp only [List.size_toArray] <;> omega)
    have I1 : Inv X pins σ H { s with heap := h' } := I.kept (t' := s.toks) kp
    have I2 : Inv X pins σ (upd H h'.objs.size (.tup ys)) { s with heap := h'.push { cls := .type "tuple", data := .seq its.toArray } } :=
      I1.laid (t' := s.toks) (fun b o e => Heap.get?_push_of_some _ e) (Nat.le_refl _) (show ObjOk X.prog X.w _ _ _ (.tup ys) from ⟨hz, its, r', IsTup.new _ _⟩)
    exact ⟨.ref h'.objs.size, _, I2, rfl, q _ (I1.hok.fresh (Nat.le_refl _))⟩
  · obtain ⟨its, r', pl, hz⟩ := I.tuple hq
    exact call_tuple_same pl ⟨.ref p, H, I, rfl, q⟩
def tyV (K : PySem.W.Frag) (T : String) (x : V) (H : Hp) : Prop := match x with
  | .str _ => T = "str"
  | .int _ => T = "int"
  | .ref p => (T = "list" ∧ ∃ xs, SqL K H p xs) ∨ (T = "tuple" ∧ ∃ o, K.lookup p = some o ∧ o.cls = .type "tuple" ∧ o.dict = none) ∨
      (T = "dict" ∧ ((∃ kvs, H p = some (.dK kvs)) ∨ ∃ kvs, H p = some (.dT kvs))) ∨ (T = "set" ∧ ∃ S n, H p = some (.set S n))
  | _ => False
theorem tyV_is {pins : List (Addr × Obj)} {σ : St} {H : Hp} {s : Shared} {T : String} {x : V} {v : Value} (I : Inv X pins σ H s) (r : RelV x v) (ty : tyV X.K T x H) :
    s.TypeIs v T ∧ ∀ a, v = .ref a → ∃ ob, s.heap.get? a = some ob ∧ ob.dict = none := by
  cases x with
  | str z =>
    obtain ⟨t, rfl⟩ := r
    cases (show T = "str" from ty)
    exact ⟨typeIs_str s z t, fun _ e => nomatch e⟩
  | int i =>
    obtain ⟨t, rfl⟩ := r
    cases (show T = "int" from ty)
    exact ⟨typeIs_int s i t, fun _ e => nomatch e⟩
  | ref p =>
    cases r
    rcases ty with ⟨rfl, xs, hq⟩ | ⟨rfl, o, hk, hc, hd⟩ | ⟨rfl, hk⟩ | ⟨rfl, S, n, hk⟩
    · obtain ⟨its, _, pl, _⟩ := I.list hq
      refine ⟨pl.isList.typeIs, fun a e => ?_⟩
      cases e
      obtain ⟨o, n, e, c, hd, _⟩ := pl
      exact ⟨o, e, hd⟩
    · refine ⟨⟨o, I.kIn p o hk, hc⟩, fun a e => ?_⟩
      cases e
      exact ⟨o, I.kIn _ o hk, hd⟩
    · have z : ∃ o, s.heap.get? p = some o ∧ o.ExactDict := by
        rcases hk with ⟨kvs, hk⟩ | ⟨kvs, hk⟩
        · obtain ⟨_, _, _, _, o, _, _, e, ex, _⟩ := I.hok p _ hk
          exact ⟨o, e, ex⟩
        · obtain ⟨_, _, _, _, o, _, _, e, ex, _⟩ := I.hok p _ hk
          exact ⟨o, e, ex⟩
      obtain ⟨o, e, ex⟩ := z
      refine ⟨⟨o, e, ex.1⟩, fun a e2 => ?_⟩
      cases e2
      exact ⟨o, e, ex.2.1⟩
    · obtain ⟨o, _, _, _, e, ex, _⟩ := I.hok p _ hk
      refine ⟨⟨o, e, ex.1⟩, fun a e2 => ?_⟩
      cases e2
      exact ⟨o, e, ex.2.1⟩
  | _ => exact False.elim ty
def tBM (K : PySem.W.Frag) (T : String) (r : V → List V → Hp → VK → Prop) (to : TE) (t : TA) : TE := fun σ H Q => to σ H fun x H1 => tyV K T x H1 ∧ t σ H1 fun xs H2 => r x xs H2 Q
variable {o e : Expr} {es : List Expr} {to : TE} {t : TA} {name : Str} {apos cpos : Pos} {T id : String} {r : V → List V → Hp → VK → Prop}
theorem pe_bm (pa : PlainAttrs T) (slot : Slot T name id) (hty : typeOf (.builtin id) = pure (.type "method_descriptor")) (hm : MtR X id r) (ho : PE X o to) (ha : PA X (e :: es) t)
    (hbase : attributeBase o name X.env (eval o X.env) = eval o X.env := by rfl)
    (hfew : ((backTo cpos (starEach (e :: es) X.env)).all (fun x => !x.1) && (backToKw cpos (keywordEach [] X.env)).all (fun x => x.1.isSome)
      && decide ((e :: es).length + ([] : List Keyword).length + (if ([] : List Keyword).isEmpty then 0 else 1) < 30)) = true := by rfl)
    (hline : (apos.endLine == cpos.line) = true := by rfl) (hs : starEach (e :: es) X.env = (false, eval e X.env) :: starEach es X.env := by rfl) (hplain : (backTo cpos (starEach es X.env)).any (·.1) = false := by rfl) :
    PE X (.Call (.Attribute o name apos) (e :: es) [] cpos) (tBM X.K T r to t) := by
  intro pins s σ H Q I h
  refine wpAny_Call_method_late hbase hfew hline rfl (thn (ho pins s σ H _ I h) fun v s1 ⟨x, H1, I1, r1, ty, q1⟩ => ?_)
  obtain ⟨h1, h2⟩ := tyV_is I1 r1 ty
  refine ⟨T, id, pa, slot, hty, h1, h2, ?_⟩
  have hA := ha cpos pins s1 σ H1 _ I1 q1
  rw [hs] at hA ⊢
  refine Calls.callWith_builtin (by show (false || (backTo cpos (starEach es X.env)).any (·.1)) = false; rw [hplain] <;> rfl) (Calls.evalArgs_plain ?_)
  exact thn hA fun us s2 ⟨vs, H2, I2, r2, q2⟩ => hm pins s2 σ H2 x vs v us Q I2 r1 r2 q2
end
end L2
namespace L2
open PySem PySem.Spec PyProof.Rows
def MtM (X : Cx) (id : String) (r : V → List V → Hp → VK → Prop) : Prop :=
  ∀ (pins : List (Addr × Obj)) (s : Shared) (σ : St) (H : Hp) (x : V) (xs : List V) (v : Value) (us : List Value) (Q : VK), Inv X pins σ H s → RelV x v → Vals xs us → r x xs H Q →
    wpAny (model X.prog X.w) X.A (call (.builtin id) (v :: us)) (EP X pins σ Q) X.xe s
theorem Vals.one : ∀ {x : V} {us : List Value}, Vals [x] us → ∃ u, us = [u] ∧ RelV x u
  | _, _, .cons r .nil => ⟨_, rfl, r⟩
theorem Vals.two : ∀ {x y : V} {us : List Value}, Vals [x, y] us → ∃ u v, us = [u, v] ∧ RelV x u ∧ RelV y v
  | _, _, _, .cons r (.cons q .nil) => ⟨_, _, rfl, r, q⟩
theorem Vals.zero : ∀ {us : List Value}, Vals [] us → us = []
  | _, .nil => rfl
theorem Vals.eraseIdx : ∀ {xs : List V} {us : List Value} (i : Nat), Vals xs us → Vals (xs.eraseIdx i) (us.eraseIdx i)
  | _, _, _, .nil => .nil
  | _, _, 0, .cons _ t => t
  | _, _, i + 1, .cons r t => .cons r (Vals.eraseIdx i t)
theorem Vals.reverse {xs : List V} {us : List Value} (h : Vals xs us) : Vals xs.reverse us.reverse := by
  induction h with
  | nil => exact .nil
  | cons r t ih => rw [List.reverse_cons, List.reverse_cons]; exact Vals.append ih (.cons r .nil)
theorem Vals.rep {xs : List V} {us : List Value} (h : Vals xs us) : ∀ k : Nat, Vals (List.replicate k xs).flatten (List.replicate k us).flatten
  | 0 => .nil
  | k + 1 => by
    rw [List.replicate_succ, List.replicate_succ, List.flatten_cons, List.flatten_cons]
    exact Vals.append h (Vals.rep h k)
theorem len_erase {α : Type} : ∀ (l : List α) (i : Nat), (l.eraseIdx i).length ≤ l.length
  | [], _ => Nat.le_refl _
  | _ :: _, 0 => Nat.le_succ _
  | _ :: r, i + 1 => Nat.succ_le_succ (len_erase r i)
theorem foldl_rep (its : List Value) : ∀ (k : Nat) (acc : List Value),
    List.foldl (fun x1 x2 => x1 ++ x2) acc.toArray (List.replicate k its.toArray) = (acc ++ (List.replicate k its).flatten).toArray
  | 0, acc => by simp
  | k + 1, acc => by
    have e : acc.toArray ++ its.toArray = (acc ++ its).toArray := by simp
    have e2 : (acc ++ its) ++ (List.replicate k its).flatten = acc ++ (List.replicate (k + 1) its).flatten := by
      rw [List.replicate_succ, List.flatten_cons, List.append_assoc]
    rw [← e2, ← foldl_rep its k (acc ++ its), ← e, List.replicate_succ, List.foldl_cons]
section
variable {X : Cx} {pins : List (Addr × Obj)} {σ : St} {H : Hp} {s : Shared} {l b : Addr} {xs ys zs : List V}
theorem Inv.lset {its its' : List Value} {n : Nat} {f : Array Value → Array Value} {t' : Nat} (I : Inv X pins σ H s) (hH : H l = some (.lst xs))
    (e : s.heap.get? l = some { cls := .type "list", data := .seq its.toArray n }) (hf : f its.toArray = its'.toArray) (hv : Vals ys its') (hz : ys.length ≤ sizeLine) :
    Inv X pins σ (upd H l (.lst ys)) { s with heap := s.heap.update l (Obj.mapSeq f), toks := t' } := by
  have q := PySem.IsL.update e f
  rw [hf] at q
  refine I.write (x := l) (e := l) (by rw [hH]; exact trivial) (.inl rfl) (fun b' u hb hu => (Heap.get?_update_other s.heap (Obj.mapSeq f) (Ne.symm hb)).trans hu) ⟨_, q⟩ ?_
  exact ⟨hz, its', _, hv, q⟩
theorem Inv.lnew {its : List Value} {t' : Nat} (I : Inv X pins σ H s) (hv : Vals ys its) (hz : ys.length ≤ sizeLine) :
    Inv X pins σ (upd H s.heap.objs.size (.lst ys)) { s with heap := s.heap.push { cls := .type "list", data := .seq its.toArray }, toks := t' } :=
  I.laid (fun _ _ q => Heap.get?_push_of_some _ q) (Nat.le_refl _) ⟨hz, its, 0, hv, Heap.get?_push_size _ rfl⟩
theorem Inv.fresh (I : Inv X pins σ H s) : H s.heap.objs.size = none := I.hok.fresh (Nat.le_refl _)
theorem Inv.lstM (I : Inv X pins σ H s) (hH : H l = some (.lst xs)) : xs.length ≤ sizeLine ∧ ∃ (its : List Value) (n : Nat), Vals xs its ∧ xs.length = its.length ∧ s.heap.get? l = some { cls := .type "list", data := .seq its.toArray n } := by
  obtain ⟨z, its, n, r, e⟩ := I.hok l _ hH
  exact ⟨z, its, n, r, r.length, e⟩
theorem notLongL {n : Nat} (h : n ≤ sizeLine) : Builtin.List.listTooLong n = false := by
  unfold Builtin.List.listTooLong
  exact decide_eq_false (by omega)
end
section
variable {X : Cx}
def rAppend : V → List V → Hp → VK → Prop := fun x vs H Q => ∃ l xs y, x = .ref l ∧ vs = [y] ∧ H l = some (.lst xs) ∧ xs.length < sizeLine ∧ Q .non (upd H l (.lst (xs ++ [y])))
theorem mt_append : MtM X "list.append" rAppend := by
  intro pins s σ H x vs v us Q I rx rv h
  obtain ⟨l, xs, y, rfl, rfl, hH, hz, q⟩ := h
  cases rx
  obtain ⟨u, rfl, ru⟩ := rv.one
  obtain ⟨z, its, n, r, hl, e⟩ := I.lstM hH
  refine call_meets F.slot_list_append ⟨_, e, rfl⟩ F.entry_list_append (F.args_list_append_2 _ _) (PySem.list_append l its.toArray n u (by rw [List.size_toArray]; omega)) ⟨e, ?_⟩
  refine ⟨.non, _, I.lset (its' := its ++ [u]) hH e (by simp) (r.append (.cons ru .nil)) ?_, rfl, q⟩
  rw [List.length_append, List.length_singleton]
  omega
def rExtend : V → List V → Hp → VK → Prop := fun x vs H Q => ∃ l b xs zs, x = .ref l ∧ vs = [.ref b] ∧ H l = some (.lst xs) ∧ H b = some (.lst zs) ∧ xs.length + zs.length ≤ sizeLine ∧ Q .non (upd H l (.lst (xs ++ zs)))
theorem mt_extend : MtM X "list.extend" rExtend := by
  intro pins s σ H x vs v us Q I rx rv h
  obtain ⟨l, b, xs, zs, rfl, rfl, hH, hB, hz, q⟩ := h
  cases rx
  obtain ⟨u, rfl, ru⟩ := rv.one
  cases ru
  obtain ⟨z, its, n, r, hl, e⟩ := I.lstM hH
  obtain ⟨z2, its2, n2, r2, hl2, e2⟩ := I.lstM hB
  have hsz : its.toArray.size + its2.toArray.size ≤ sizeLine := by rw [List.size_toArray, List.size_toArray]; omega
  have hlong : ¬ (!its.toArray.isEmpty && Builtin.List.listTooLong (its.toArray.size + its2.toArray.size)) = true := by
    rw [notLongL hsz, Bool.and_false]
    exact Bool.false_ne_true
  refine call_meets F.slot_list_extend ⟨_, e, rfl⟩ F.entry_list_extend (F.args_list_extend_2 _ _)
    (AutoSeq1.list_extend_list_list_0 l its.toArray n b its2.toArray n2 hlong (by rw [List.size_toArray]; omega) (by omega)) ⟨e, e2, ?_⟩
  refine ⟨.non, _, I.lset (its' := its ++ its2) hH e (by simp) (r.append r2) ?_, rfl, q⟩
  rw [List.length_append]
  omega
def rPopAt : V → List V → Hp → VK → Prop := fun x vs H Q => ∃ l xs i k y, x = .ref l ∧ vs = [.int i] ∧ H l = some (.lst xs) ∧ -(2 ^ 63) ≤ i ∧ i < 2 ^ 63 ∧ seqIndex? i xs.length = some k ∧ xs[k]? = some y ∧ Q y (upd H l (.lst (xs.eraseIdx k)))
theorem mt_popAt : MtM X "list.pop" rPopAt := by
  intro pins s σ H x vs v us Q I rx rv h
  obtain ⟨l, xs, i, k, y, rfl, rfl, hH, h1, h2, hk, hy, q⟩ := h
  cases rx
  obtain ⟨u, rfl, ru⟩ := rv.one
  obtain ⟨t, rfl⟩ := ru
  obtain ⟨z, its, n, r, hl, e⟩ := I.lstM hH
  obtain ⟨w, hw, rw'⟩ := r.get hy
  refine call_meets F.slot_list_pop ⟨_, e, rfl⟩ F.entry_list_pop (F.args_list_pop_2 _ _)
    (MeetsSeq.list_pop_at l its.toArray n i t k w (fitsIndex_both h1 h2) (by rw [List.size_toArray, ← hl]; exact hk) (by rw [← Array.getElem?_toList]; exact hw) (by rw [List.size_toArray]; omega)) ⟨e, ?_⟩
  refine ⟨y, _, I.lset (its' := its.eraseIdx k) hH e ?_ (r.eraseIdx k) ?_, rw', q⟩
  · show its.toArray.eraseIdxIfInBounds k = (its.eraseIdx k).toArray
    rw [List.eraseIdxIfInBounds_toArray]
  · have := len_erase xs k
    omega
def rCat : R2 := fun x y H Q => ∃ l b xs zs, x = .ref l ∧ y = .ref b ∧ H l = some (.lst xs) ∧ H b = some (.lst zs) ∧ xs.length + zs.length ≤ sizeLine ∧ ∀ p, H p = none → Q (.ref p) (upd H p (.lst (xs ++ zs)))
theorem op_cat : OpR X (binaryOp .Add) rCat := by
  intro pins s σ H x y v u Q I rx ry h
  obtain ⟨l, b, xs, zs, rfl, rfl, hH, hB, hz, q⟩ := h
  cases rx
  cases ry
  obtain ⟨z, its, n, r, hl, e⟩ := I.lstM hH
  obtain ⟨z2, its2, n2, r2, hl2, e2⟩ := I.lstM hB
  refine PySem.P.add_list e e2 ?_ (by rw [List.size_toArray, List.size_toArray]; omega)
  have ea : its.toArray ++ its2.toArray = (its ++ its2).toArray := by simp
  rw [ea]
  exact ⟨.ref _, _, I.lnew (t' := s.toks) (r.append r2) (by rw [List.length_append]; omega), rfl, q _ I.fresh⟩
def rRep : R2 := fun x y H Q => ∃ l k xs, x = .ref l ∧ y = .int k ∧ H l = some (.lst xs) ∧ -(2 ^ 63) ≤ k ∧ k < 2 ^ 63 ∧ xs.length * k.toNat ≤ sizeLine ∧
  ∀ p, H p = none → Q (.ref p) (upd H p (.lst (List.replicate k.toNat xs).flatten))
theorem len_rep {α : Type} (xs : List α) (k : Nat) : (List.replicate k xs).flatten.length = k * xs.length := by
  induction k with
  | zero => simp
  | succ k ih => rw [List.replicate_succ, List.flatten_cons, List.length_append, ih, Nat.succ_mul, Nat.add_comm]
theorem op_rep : OpR X (binaryOp .Mult) rRep := by
  intro pins s σ H x y v u Q I rx ry h
  obtain ⟨l, k, xs, rfl, rfl, hH, h1, h2, hz, q⟩ := h
  cases rx
  obtain ⟨t, rfl⟩ := ry
  obtain ⟨z, its, n, r, hl, e⟩ := I.lstM hH
  have hlen : its.toArray.size * k.toNat ≤ sizeLine := by rw [List.size_toArray, ← hl]; exact hz
  have hcap : ¬ its.toArray.size * k.toNat > (2 ^ 63 - 1) / 8 := by
    have : (sizeLine : Nat) ≤ (2 ^ 63 - 1) / 8 := by decide
    omega
  have hfit : ¬ (!Builtin.List.listFitsIndex k) = true := by
    rw [fitsIndex_both h1 h2]
    exact Bool.false_ne_true
  have hlong : ¬ Builtin.List.listTooLong (its.toArray.size * k.toNat) = true := by
    rw [notLongL hlen]
    exact Bool.false_ne_true
  have hnew : List.foldl (fun x1 x2 => x1 ++ x2) #[] (List.replicate (if its.toArray.isEmpty = true then 0 else k.toNat) its.toArray) = (List.replicate k.toNat its).flatten.toArray := by
    have f0 : ∀ m : Nat, List.foldl (fun x1 x2 => x1 ++ x2) #[] (List.replicate m its.toArray) = (List.replicate m its).flatten.toArray := fun m => by
      have := foldl_rep its m []
      rw [List.nil_append] at this
      exact this
    rw [f0]
    cases its with
    | nil => simp
    | cons a r' => rw [if_neg (by simp)]
  refine wpAny_binaryOp_repeat_ref (T := "list") (U := "int") (by decide) ⟨_, e, rfl⟩ (fun s' => typeIs_int s' k t) noFill_list_mul F.fills_int_mul F.slot_int_rmul repeat_list F.slot_int_index.lookup
    (call_meets F.slot_int_rmul (typeIs_int s k t) F.entry_int_rmul (F.args_int_rmul_2 _ _) (int___rmul___int_list k t l its.toArray n)
      ⟨e, rfl, ⟨_, e, rfl⟩, call_meets F.slot_list_mul ⟨_, e, rfl⟩ F.entry_list_mul (F.args_list_mul_2 _ _) (AutoListH.list___mul___list_int_3 l its.toArray n k t hfit hcap hlong) ⟨e, ?_⟩⟩)
  rw [hnew]
  exact ⟨.ref _, _, I.lnew (t' := s.toks) (r.rep k.toNat) (by rw [len_rep, Nat.mul_comm]; exact hz), rfl, q _ I.fresh⟩
end
section
variable {prog : Program} {w : World} {A : Around} {E : Value → Shared → Prop} {s : Shared}
end
section
variable {X : Cx}
end
end L2
namespace Att
open PySem PySem.W PySem.Calls PyProof.Rows
theorem ints_of_wellAll {P : Params} {h : Heap} : ∀ (ns : List Int) (vs : List Value), WellAll P h vs (ns.map WData.int) → IntsAre vs ns := by
  intro ns
  induction ns with
  | nil =>
    intro vs w
    rw [List.map_nil] at w
    cases w
    exact .nil
  | cons n ns ih =>
    intro vs w
    rw [List.map_cons] at w
    cases w with
    | cons a b =>
      cases a
      exact .cons _ _ (ih _ b)
theorem script_of {l : OpenLaw} {n : Nat} (hn : l.most = some n) {P : Params} {h : Heap} {args : List WData} {vals : List Value}
    (hpre : l.row.toRowW.claim.pre args = true) (hwl : WellAll P h vals args) :
    ∃ a vs ns, vals = [Value.ref a] ∧ args = [WData.list (ns.map WData.int)] ∧ h.get? a = some { cls := .type "list", data := .seq vs.toArray } ∧ IntsAre vs ns ∧ ns.length ≤ n := by
  have hsh : WShape.hasAll [] args [.list .int] = true := (pre_splitW hpre).1
  have hc : l.pre.holds [] { args := args } = true := (pre_splitW hpre).2
  obtain ⟨d, r, rfl, h1, h2⟩ := hasAllW_cons hsh
  obtain rfl := hasAllW_nil h2
  obtain ⟨xs, rfl, h3⟩ := hasW_list h1
  obtain ⟨ns, rfl⟩ := items_int h3
  have hlen : ns.length ≤ n := by
    unfold OpenLaw.pre at hc
    have h4 : (WTm.not (.lt (.lit (.int (n : Int))) (.len (.arg 0)))).holds [] { args := [.list (ns.map .int)] } = true := by
      have h4 := (holds_andW hc).1
      rw [hn] at h4
      exact h4
    have h5 := condW_of h4 (w_not (w_lt w_lit (w_len_list (w_arg rfl))))
    rw [List.length_map] at h5
    refine Nat.le_of_not_lt fun q => ?_
    have q' : (n : Int) < ((ns.length : Nat) : Int) := by omega
    first
      | (rw [decide_eq_true q'] at h5; exact absurd h5 (by decide))
      | (simp at h5; omega)
  cases hwl with
  | cons w1 w2 =>
    cases w2
    cases w1 with
    | list ho hall => exact ⟨_, _, ns, rfl, rfl, ho, ints_of_wellAll ns _ hall, hlen⟩
theorem post_true (l : OpenLaw) (args : List WData) : l.row.toRowW.claim.post args (.bool true) args = true :=
  postW_of (r := l.row.toRowW) (X := (true == true))
    (show WShape.has [] (.bool true) .bool = true by first | rfl | decide | simp [WShape.has, WShape.arms, WShape.armsAll])
    (show (WTm.eq .res (.lit (.bool true))).value [] { args := args, res := some (.bool true), after := args } = some (.bool (true == true)) from w_eq_bool (w_res rfl) w_lit) rfl
theorem attach_call {l : OpenLaw} {n : Nat} {q : Program} {loose : List Str} {XP : (Str → Option Value) → Heap → Prop} {YP : World → Heap → Prop} {d : DefRec}
    (hn : l.most = some n) (hdf : d.params.defaults = [])
    (call : ∀ (w : World) (s₀ s₁ : Shared) (mg mb : Str → Option Value) (fa : Addr) (o : Obj) (pm cd doc : Value) (a : Addr) (vs : List Value) (ns : List Int),
      Ground q loose [] XP w s₀ mg mb s₁.heap → YP w s₁.heap →
      s₁.heap.get? fa = some o → o.data = .func (docDef d.name d.params d.body d.scope pm cd doc) → s₁.heap.CodeRec cd d.name → mg d.name = some (.ref fa) →
      s₁.heap.get? a = some { cls := .type "list", data := .seq vs.toArray } → IntsAre vs ns → ns.length ≤ n → s₁.gens = #[] →
      codeAny (model l.prog w) callerA (.call (.ref fa) ⟨[.ref a], []⟩) (fun r s' => r = .ok (.ret (.bool true)) ∧ OldK s₁.heap s'.heap ∧ s'.os = s₁.os ∧ AllBare s'.gens) s₁) :
    WalkO q loose XP YP l.row.toRowW d [] (fun f vs => PySem.call f vs) := by
  intro w s₀ s₁ mg mb G Y fa o pm cd doc dV kV ho hd hcd hD hmg hg args vals as hpre hlay hrd hwl hlo
  obtain rfl : dV = .none := Dflts.none hD hdf
  obtain rfl : kV = .none := Dflts.noKw hD
  obtain ⟨a, vs, ns, rfl, rfl, hobj, hints, hlen⟩ := script_of hn hpre hwl
  refine enter_call (codeAny_mono (call w s₀ s₁ mg mb fa o pm cd doc a vs ns G Y ho (fd_plain hd) hcd hmg hobj hints hlen hg) fun r s' hq => ?_)
  obtain ⟨rfl, h2, h3, h4⟩ := hq
  exact ⟨.inl ⟨.bool true, .bool true, [], rfl, fun _ => rfl, .bool true, post_true l _, fun _ => ⟨List.Pairwise.nil, fun _ hm => (nomatch hm)⟩⟩, h2, h3, h4⟩
section
variable {prog : Program} {w : World} {A : Around} {E : Value → Shared → Prop} {s : Shared} {K : Frag}
end
end Att
namespace L2
open PySem PySem.Spec PyProof.Rows
theorem vals_ints : ∀ {vs : List Value} {ns : List Int}, IntsAre vs ns → Vals (ns.map V.int) vs
  | _, _, .nil => .nil
  | _, _, .cons n t h => .cons ⟨t, rfl⟩ (vals_ints h)
def Only (H : Hp) : Prop := ∀ b, H b = none ∨ ∃ o xs, H b = some (.frz o (.lst xs))
theorem law_call {P : Program} {w : World} {K : PySem.W.Frag} {mg mb : Str → Option Value} {CX : CXT} {k : Nat} {fa a : Addr} {fd : FuncData} {x : Str} {sp : Sp} {s₁ : Shared} {vs : List Value} {ns : List Int}
    (KX : K.In s₁.heap) (hns : s₁.heap.Ns mainGlobals mg) (hb : s₁.heap.Ns builtinsNs mb) (hbb : ∀ x : Str, x ≠ "__name__" → mb x = bootBuiltins x) (hlim : s₁.heap.NoLimit) (hg : s₁.gens = #[])
    (ha : s₁.heap.get? a = some { cls := .type "list", data := .seq vs.toArray }) (hi : IntsAre vs ns) (hl : ns.length ≤ sizeLine) (hr : Room k callerA)
    (F : ∀ base : Heap, K.In base → base.Ns mainGlobals mg → FnOk P w K mg base CX k fa fd [x] sp) (hbind : ∀ (s : Shared) (u : Value), BindsTo s fd ⟨[u], []⟩ [(x, u)])
    (hsp : ∀ H : Hp, Only H → SqL K H a (ns.map V.int) → sp [.ref a] H (fun v _ => v = .bl true) fun _ _ _ => False)
    (hCX : ∀ H e s', CX [] H s₁ (fun _ _ _ => False) e s' → False) :
    codeAny (model P w) callerA (.call (.ref fa) ⟨[.ref a], []⟩) (fun r s' => r = .ok (.ret (.bool true)) ∧ OldK s₁.heap s'.heap ∧ s'.os = s₁.os ∧ AllBare s'.gens) s₁ := by
  have rv := vals_ints hi
  have lenV := hi.length
  have core : ∀ H : Hp, Only H → SqL K H a (ns.map V.int) → HOk P w H s₁.heap → (∀ b, H b ≠ none → b = a) → (H a ≠ none → K.lookup a = none) →
      codeAny (model P w) callerA (.call (.ref fa) ⟨[.ref a], []⟩) (fun r s' => r = .ok (.ret (.bool true)) ∧ OldK s₁.heap s'.heap ∧ s'.os = s₁.os ∧ AllBare s'.gens) s₁ := by
    intro H hO hS hok hA hK
    have base_of : ∀ {b : Addr} {o : Obj}, s₁.heap.get? b = some o → H b = none → (hidT s₁.heap H).get? b = some o := fun e n => hidT_get e n
    have noA : ∀ {b : Addr} {o : Obj} {es : Array DictEntry} {ep : Nat}, s₁.heap.get? b = some o → o.data = .dict es ep → H b = none := fun {b o es ep} e d => by
      cases q : H b with
      | none => rfl
      | some u =>
        have e' : b = a := hA b (by rw [q]; simp)
        subst e'
        rw [ha] at e; cases e
        have d' : Data.seq vs.toArray _ = Data.dict es ep := d
        cases d'
    have nsK : ∀ {b : Addr} {m : Str → Option Value}, s₁.heap.Ns b m → (hidT s₁.heap H).Ns b m := fun {b m} ⟨o, es, ep, e, d, r⟩ => ⟨o, es, ep, base_of e (noA e d), d, r⟩
    have hKb : K.In (hidT s₁.heap H) := fun b o e => base_of (KX b o e) (by
      cases q : H b with
      | none => rfl
      | some u =>
        have e' : b = a := hA b (by rw [q]; simp)
        subst e'
        rw [hK (by rw [q]; simp)] at e; cases e)
    have hM : Mod K mg (hidT s₁.heap H) := ⟨hKb, nsK hns, ⟨mb, nsK hb, hbb⟩, let ⟨mc, h1, h2⟩ := hlim; ⟨mc, nsK h1, h2⟩⟩
    have e0 : Env0 P w K mg (hidT s₁.heap H) callerA [] s₁ H := ⟨rfl, hM, fun b o e => of_hidT e, Nat.le_of_eq (hidT_size _ _), trivial, fun b hb => absurd (show b ∈ ([] : List Addr) from hb) (by simp), hok, .of_eq hg⟩
    refine codeAny_mono ((F _ hKb (nsK hns)).run callerA [] s₁ H ⟨[.ref a], []⟩ [.ref a] [.ref a] _ _ hr e0 (hbind s₁ (.ref a)) (.cons rfl .nil) (hsp H hO hS)) fun r s' h => ?_
    cases r with
    | error e => exact (hCX H e s' h).elim
    | ok fl =>
      cases fl with
      | next => exact False.elim h
      | brk => exact False.elim h
      | cont => exact False.elim h
      | ret u =>
        obtain ⟨v, H', os, bare, un, hok', r', q⟩ := h
        have q' : v = .bl true := q
        subst q'
        obtain rfl : u = Value.bool true := r'
        refine ⟨rfl, OldK.of_keep fun b o e => ?_, os, bare⟩
        cases q : H b with
        | none => exact un.keep b o e q (by intro z; exact absurd (show b ∈ ([] : List Addr) from z) (by simp)) (by simp)
        | some u =>
          rcases hO b with z | ⟨ob, xs, z⟩
          · rw [q] at z; cases z
          · have z2 := un.frzs b ob _ z
            obtain ⟨e1, _⟩ := hok b _ z
            obtain ⟨e2, _⟩ := hok' b _ z2
            rw [e] at e1; cases e1
            exact e2
  cases hk : K.lookup a with
  | some o =>
    have e := KX a o hk
    rw [ha] at e
    cases e
    refine core (fun _ => none) (fun _ => .inl rfl) (.inr ⟨_, vs.toArray, _, hk, rfl, rfl, rfl, by rw [List.size_toArray, lenV]; exact hl, by simpa using rv⟩) (fun b u z => by have z' : (none : Option HO) = some u := z; cases z') (fun b z => absurd rfl z) fun z => absurd rfl z
  | none =>
    refine core (fun b => if b = a then some (.frz { cls := .type "list", data := .seq vs.toArray } (.lst (ns.map V.int))) else none) (fun b => ?_) (.inl (.inr ⟨{ cls := .type "list", data := .seq vs.toArray }, if_pos rfl⟩)) (fun b u z => ?_) (fun b z => ?_) fun _ => hk
    · by_cases hb : b = a
      · exact .inr ⟨_, _, if_pos hb⟩
      · exact .inl (if_neg hb)
    · by_cases hb : b = a
      · have z' := (if_pos hb).symm.trans z
        cases z'
        subst hb
        exact ⟨ha, by rw [List.length_map]; exact hl, vs, _, rv, ha⟩
      · have z' := (if_neg hb).symm.trans z
        cases z'
    · by_cases hb : b = a
      · exact hb
      · exact absurd (if_neg hb) z
end L2
namespace L2
open PySem PySem.Spec PyProof.Rows
abbrev KOf {K : PySem.W.Frag} {h : Heap} (_ : K.In h) : PySem.W.Frag := K
theorem walk_of {l : PySem.W.OpenLaw} {n k : Nat} {q : Program} {loose : List Str} {XP : (Str → Option Value) → Heap → Prop} {YP : World → Heap → Prop} {d : DefRec} {K : Params → PySem.W.Frag} {CX : World → CXT} {sp : World → Sp} {x : Str}
    (hn : l.most = some n) (hn2 : n ≤ sizeLine) (hdf : d.params.defaults = []) (hr : Room k callerA)
    (hY : ∀ (w : World) (h : Heap), YP w h → (K w.params).In h)
    (F : ∀ (w : World) (mg : Str → Option Value) (fa : Addr) (h : Heap), (K w.params).In h → h.Ns mainGlobals mg → mg d.name = some (.ref fa) →
      ∃ fd : FuncData, (∀ (s : Shared) (u : Value), BindsTo s fd ⟨[u], []⟩ [(x, u)]) ∧
        ∀ base : Heap, (K w.params).In base → base.Ns mainGlobals mg → FnOk l.prog w (K w.params) mg base (CX w) k fa fd [x] (sp w))
    (hsp : ∀ (w : World) (H : Hp) (a : Addr) (ns : List Int), ns.length ≤ n → Only H → SqL (K w.params) H a (ns.map V.int) → sp w [.ref a] H (fun v _ => v = .bl true) fun _ _ _ => False)
    (hCX : ∀ (w : World) (H : Hp) (s : Shared) (e : Value) (s' : Shared), CX w [] H s (fun _ _ _ => False) e s' → False) :
    PySem.W.WalkO q loose XP YP l.row.toRowW d [] (fun f vs => PySem.call f vs) := by
  refine Att.attach_call hn hdf fun w s₀ s₁ mg mb fa o pm cd doc a vs ns G Y ho hd hcd hmg hobj hints hlen hg => ?_
  have KX := hY w _ Y
  obtain ⟨fd, hb, hF⟩ := F w mg fa _ KX G.T.g hmg
  exact law_call KX G.T.g G.T.b G.T.builtins G.T.nolimit hg hobj hints (Nat.le_trans hlen hn2) hr hF hb (fun H hO hS => hsp w H a ns hlen hO hS) fun H e s' => hCX w H s₁ e s'
end L2
namespace L2
open PySem PySem.Spec PyProof.Rows
def inClass (s : Stmt) (j : Nat) : Stmt := match s with
  | .ClassDef _ _ _ body _ _ _ _ _ _ _ => body.getD j (.Pass ⟨0, 0, 0, 0⟩)
  | _ => .Pass ⟨0, 0, 0, 0⟩
def defArgs (s : Stmt) : Arguments := match s with
  | .FunctionDef _ a _ _ _ _ _ _ _ _ => a
  | _ => { posonlyargs := [], args := [], vararg := none, kwonlyargs := [], kw_defaults := [], kwarg := none, defaults := [] }
def defBody (s : Stmt) : List Stmt := match s with
  | .FunctionDef _ _ b _ _ _ _ _ _ _ => b
  | _ => []
def defScope (s : Stmt) : Scope := match s with
  | .FunctionDef _ _ _ _ _ _ sc _ _ _ => sc
  | _ => { kind := .function, names := [], isGenerator := false, isCoroutine := false }
abbrev CX0 : CXT := fun _ _ _ _ _ _ => False
abbrev E0 : XK := fun _ _ _ => False
theorem pass0 {X : Cx} : Passes CX0 X E0 := fun _ _ _ _ _ _ _ h => h.elim
structure Fun (K : PySem.W.Frag) (x qual : Str) (st : Stmt) (f : Addr) (fd : FuncData) : Prop where
  ex : ∃ (oc : Value) (od : Option Addr) (kV doc pm : Value) (an : Option Addr) (cdv ct : Value) (osl : Array (Option Value)),
    fd = PySem.W.fnOf x qual (defArgs st) (defBody st) (defScope st) .none kV doc pm an cdv ct ∧ K.lookup f = some ⟨oc, od, .func fd, osl⟩ ∧ PySem.W.codeIn K cdv qual = true
  kp : PySem.W.keepIn K (.ref f) = true
section
variable {P : Program} {w : World} {K : PySem.W.Frag} {mg : Str → Option Value} {base : Heap}
theorem Fun.ok {x qual : Str} {st : Stmt} {f : Addr} {fd : FuncData} {N ps : List Str} {k : Nat} {sp : Sp} (F : Fun K x qual st f fd) (S : FnScope N ps (defScope st)) (len : ∀ vs H Q E, sp vs H Q E → vs.length = ps.length)
    (hbody : ∀ (cdv : Value) (A : Around) (outer : List Env) (s : Shared) (H : Hp) (vs : List V) (Q : VK) (E : XK), Room k (A.deeper (envOfC qual (defScope st) s.heap.objs.size f cdv)) → sp vs H Q E →
      ∃ t, PSs (cxOf CX0 P w K mg base N qual (defScope st) f cdv A outer s H E).nox (defBody st) t ∧ t { nx := fun _ H' => Q .non H', rt := Q } (start N vs) H) : FnOk P w K mg base CX0 (k + 1) f fd ps sp := by
  obtain ⟨oc, od, kV, doc, pm, an, cdv, ct, osl, rfl, lk, hcd⟩ := F.ex
  refine fn_of lk hcd S len fun A outer s H vs Q E hr hsp => ?_
  obtain ⟨t, h, q⟩ := hbody cdv A outer s H vs Q E hr hsp
  exact ⟨t, h.nox, q⟩
theorem Fun.binds {x qual : Str} {st : Stmt} {f : Addr} {fd : FuncData} {ps : List Str} (F : Fun K x qual st f fd)
    (h : ∀ (kV doc pm : Value) (an : Option Addr) (cdv ct : Value) (us : List Value), us.length = ps.length → bindArgs (PySem.W.fnOf x qual (defArgs st) (defBody st) (defScope st) .none kV doc pm an cdv ct) ⟨us, []⟩ = pure (ps.zip us)) : Binds K fd ps [] := by
  obtain ⟨oc, od, kV, doc, pm, an, cdv, ct, osl, rfl, lk, hcd⟩ := F.ex
  exact .all (h kV doc pm an cdv ct)
theorem fun_mk {x qual : Str} {st : Stmt} {f : Addr} {oc : Value} {od an : Option Addr} {osl : Array (Option Value)} {kV doc pm cdv ct : Value} (l : K.lookup f = some ⟨oc, od, .func (PySem.W.fnOf x qual (defArgs st) (defBody st) (defScope st) .none kV doc pm an cdv ct), osl⟩)
    (c : PySem.W.codeIn K cdv qual = true) (k : PySem.W.keepIn K (.ref f) = true) : Fun K x qual st f (PySem.W.fnOf x qual (defArgs st) (defBody st) (defScope st) .none kV doc pm an cdv ct) := ⟨⟨oc, od, kV, doc, pm, an, cdv, ct, osl, rfl, l, c⟩, k⟩
end
theorem hu_of {A : Around} {k : Nat} (hr : Room k A) : A.units + 1 < cLine := Nat.lt_of_le_of_lt (Nat.add_le_add_left (by decide : 1 ≤ 64) _) hr.units
section
variable {X : Cx}
theorem pv (i : Nat) {x : Str} {pos : Pos} (hN : X.N[i]? = some x := by rfl) (hv : Vis X.env.scope x := by first | exact Or.inl rfl | exact Or.inr (Or.inl rfl) | exact Or.inr (Or.inr rfl)) (hd : (x == ("__debug__" : Str)) = false := by decide)
    (hcd : (x == ("__classdict__" : Str)) = false := by decide) : PE X (.Name x pos) (tVar i) := pe_var hN hv hd hcd
end
theorem iteF {A B : Prop} (h : B) : if false = true then A else B := by
  rw [if_neg Bool.false_ne_true]
  exact h
theorem iteT {A B : Prop} (h : A) : if true = true then A else B := by
  rw [if_pos rfl]
  exact h
theorem iteNS {c A B : Prop} [Decidable c] (hc : c) (h : B) : if (!decide c) = true then A else B := by
  rw [decide_eq_true hc]
  exact iteF h
def Same (H H' : Hp) : Prop := ∀ b o, H b = some o → H' b = some o
theorem Same.refl (H : Hp) : Same H H := fun _ _ h => h
theorem Same.trans {H H1 H2 : Hp} (a : Same H H1) (b : Same H1 H2) : Same H H2 := fun c o h => b c o (a c o h)
theorem Same.free {H H' : Hp} (e : Same H H') {l : Addr} (h : H' l = Option.none) : H l = Option.none := by
  cases q : H l with
  | none => rfl
  | some o =>
    rw [e l o q] at h
    cases h
theorem Same.seq {K : PySem.W.Frag} {H H' : Hp} {a : Addr} {xs : List V} (e : Same H H') (h : SqL K H a xs) : SqL K H' a xs := by
  rcases h with (h | ⟨o, h⟩) | h
  · exact .inl (.inl (e _ _ h))
  · exact .inl (.inr ⟨o, e _ _ h⟩)
  · exact .inr h
end L2
namespace L2
open PySem PySem.Spec PyProof.Rows
def cxC (X : Cx) (scope : Scope) (cl : List (Str × Addr)) (C : Addr) (N' : List Str) (s₀ : Shared) (H₀ : Hp) (ex : List Addr) (pn : List (Addr × Obj)) : Cx where
  prog := X.prog
  w := X.w
  K := X.K
  mg := X.mg
  base := X.base
  A := X.A
  N := N'
  s₀ := s₀
  H₀ := H₀
  env := compEnvC scope cl C X.env
  outer := X.stack
  stack := X.stack
  ex := ex
  fn := fun _ => false
  calm := X.calm
  pn := pn
  xe := X.xe
def hidN (x : Str) (N : List Str) : List Str := x :: N.map fun n => if n = x then ".h" else n
def PTs (X : Cx) (ifs : List Expr) (t : TT) : Prop :=
  ∀ (pins : List (Addr × Obj)) (s : Shared) (σ : St) (H : Hp) (Q : Bool → Hp → Prop), Inv X pins σ H s → t σ H Q →
    wpAny (model X.prog X.w) X.A (forIn ifs true fun c r => if r = true then do let ok ← isTrue c X.env (eval c X.env); pure (ForInStep.yield ok) else pure (ForInStep.yield r)) (TP X pins σ Q) X.xe s
def tAlw : TT := fun _ H Q => Q true H
theorem pts_nil {X : Cx} : PTs X [] tAlw := fun _ _ _ H _ I h => wpAny_tests_nil ⟨H, I, h⟩
theorem pts_one {X : Cx} {c : Expr} {t : TT} (h : PT X c t) : PTs X [c] t := fun pins s σ H Q I hw => wpAny_tests_one (h pins s σ H Q I hw)
def cLoop (J : It) (tt : TT) (te : TE) (σ : St) (fin : List V → Hp → Prop) (H1 : Hp) : Prop :=
  ∃ W : Nat → Nat → List V → Hp → Prop, (∃ m, W 0 m [] H1) ∧ ∀ i m ys H, W i m ys H → (J.stop i H ∧ ys.length ≤ sizeLine ∧ fin ys H) ∨
    (J.go i H ∧ ys.length ≤ sizeLine ∧ ∃ N : List V → Hp → Prop, (∀ ys' H', N ys' H' → ∃ m', m' < m ∧ W (i + 1) m' ys' H') ∧ ∀ x H', J.yld i H x H' → tt (some x :: σ) H' fun b H2 =>
      if b = true then te (some x :: σ) H2 fun v H3 => N (ys ++ [v]) H3 else N ys H2)
def tComp (wi : TI) (tt : TT) (te : TE) : TE := fun σ H Q => wi σ H fun J H1 => cLoop J tt te σ (fun ys H2 => ∀ p, H2 p = none → Q (.ref p) (upd H2 p (.lst ys))) H1
theorem comp_list {K : PySem.W.Frag} {a : Addr} {xs : List V} {tt : TT} {te : TE} {σ : St} {fin : List V → Hp → Prop} {H : Hp} (Pv : Nat → List V → Hp → Prop) (h0 : Pv 0 [] H) (hl : ∀ i ys H, i ≤ xs.length → Pv i ys H → SqL K H a xs) (hz : ∀ i ys H, Pv i ys H → ys.length ≤ sizeLine)
    (hs : ∀ i x ys H, xs[i]? = some x → Pv i ys H → tt (some x :: σ) H fun b H2 => if b = true then te (some x :: σ) H2 fun v H3 => Pv (i + 1) (ys ++ [v]) H3 else Pv (i + 1) ys H2) (hd : ∀ ys H, Pv xs.length ys H → fin ys H) : cLoop (Itl K a) tt te σ fin H := by
  refine ⟨fun i m ys H => m = xs.length - i ∧ i ≤ xs.length ∧ Pv i ys H, ⟨xs.length, by simp, Nat.zero_le _, h0⟩, ?_⟩
  rintro i m ys H ⟨rfl, hi, p⟩
  have q := hl i ys H hi p
  by_cases hlt : i < xs.length
  · refine .inr ⟨⟨xs, xs[i], q, by simp [hlt]⟩, hz i ys H p, Pv (i + 1), fun ys' H' p' => ⟨xs.length - (i + 1), by omega, rfl, hlt, p'⟩, fun x H' y => ?_⟩
    obtain ⟨e, y⟩ := y
    subst e
    exact hs i x ys _ (y xs q) p
  · obtain rfl : i = xs.length := by omega
    exact .inl ⟨⟨xs, q, Nat.le_refl _⟩, hz _ ys H p, hd ys H p⟩
theorem comp_tup {K : PySem.W.Frag} {a : Addr} {xs : List V} {tt : TT} {te : TE} {σ : St} {fin : List V → Hp → Prop} {H : Hp} (Pv : Nat → List V → Hp → Prop) (h0 : Pv 0 [] H) (hl : ∀ i ys H, i ≤ xs.length → Pv i ys H → SqT K H a xs) (hz : ∀ i ys H, Pv i ys H → ys.length ≤ sizeLine)
    (hs : ∀ i x ys H, xs[i]? = some x → Pv i ys H → tt (some x :: σ) H fun b H2 => if b = true then te (some x :: σ) H2 fun v H3 => Pv (i + 1) (ys ++ [v]) H3 else Pv (i + 1) ys H2) (hd : ∀ ys H, Pv xs.length ys H → fin ys H) : cLoop (Itt K a) tt te σ fin H := by
  refine ⟨fun i m ys H => m = xs.length - i ∧ i ≤ xs.length ∧ Pv i ys H, ⟨xs.length, by simp, Nat.zero_le _, h0⟩, ?_⟩
  rintro i m ys H ⟨rfl, hi, p⟩
  have q := hl i ys H hi p
  by_cases hlt : i < xs.length
  · refine .inr ⟨⟨xs, xs[i], q, by simp [hlt]⟩, hz i ys H p, Pv (i + 1), fun ys' H' p' => ⟨xs.length - (i + 1), by omega, rfl, hlt, p'⟩, fun x H' y => ?_⟩
    obtain ⟨e, y⟩ := y
    subst e
    exact hs i x ys _ (y xs q) p
  · obtain rfl : i = xs.length := by omega
    exact .inl ⟨⟨xs, q, Nat.le_refl _⟩, hz _ ys H p, hd ys H p⟩
theorem comp_range {lo : Int} {n : Nat} {tt : TT} {te : TE} {σ : St} {fin : List V → Hp → Prop} {H : Hp} (Pv : Nat → List V → Hp → Prop) (h0 : Pv 0 [] H) (hz : ∀ i ys H, Pv i ys H → ys.length ≤ sizeLine)
    (hs : ∀ i ys H, i < n → Pv i ys H → tt (some (.int (lo + i)) :: σ) H fun b H2 => if b = true then te (some (.int (lo + i)) :: σ) H2 fun v H3 => Pv (i + 1) (ys ++ [v]) H3 else Pv (i + 1) ys H2) (hd : ∀ ys H, Pv n ys H → fin ys H) : cLoop (Itr lo n) tt te σ fin H := by
  refine ⟨fun i m ys H => m = n - i ∧ i ≤ n ∧ Pv i ys H, ⟨n, by simp, Nat.zero_le _, h0⟩, ?_⟩
  rintro i m ys H ⟨rfl, hi, p⟩
  by_cases hlt : i < n
  · refine .inr ⟨hlt, hz i ys H p, Pv (i + 1), fun ys' H' p' => ⟨n - (i + 1), by omega, rfl, hlt, p'⟩, fun x H' y => ?_⟩
    obtain ⟨e, y⟩ := y
    subst e y
    exact hs i ys _ hlt p
  · obtain rfl : i = n := by omega
    exact .inl ⟨Nat.le_refl _, hz _ ys H p, hd ys H p⟩
theorem relabel_kind {env : Env} {n : Str} {k : NameKind} : ∀ {names : List (Str × NameKind)},
    (names.map fun (n, k) => if (k == NameKind.free && env.scope.kind == .function && env.kindOf n == some .cell) then (n, NameKind.cell) else (n, k)).lookup n = some k →
    (n, k) ∈ names ∨ (k = .cell ∧ (n, NameKind.free) ∈ names)
  | [], h => by simp at h
  | (a, j) :: r, h => by
    have ih := @relabel_kind env n k r
    simp only [List.map_cons] at h
    cases e : n == a with
    | true =>
      have ea : n = a := eq_of_beq e
      subst ea
      by_cases hc : (j == NameKind.free && env.scope.kind == .function && env.kindOf n == some .cell) = true
      · rw [if_pos hc, List.lookup_cons_self] at h
        have hk : NameKind.cell = k := Option.some.inj h
        have hj : j = .free := by
          have : (j == NameKind.free) = true := by
            simp only [Bool.and_eq_true] at hc
            exact hc.1.1
          exact eq_of_beq this
        exact .inr ⟨hk.symm, by rw [← hj]; exact List.mem_cons_self⟩
      · rw [if_neg hc, List.lookup_cons_self] at h
        have hk : j = k := Option.some.inj h
        exact .inl (by rw [← hk]; exact List.mem_cons_self)
    | false =>
      have h2 : (r.map fun (n, k) => if (k == NameKind.free && env.scope.kind == .function && env.kindOf n == some .cell) then (n, NameKind.cell) else (n, k)).lookup n = some k := by
        by_cases hc : (j == NameKind.free && env.scope.kind == .function && env.kindOf a == some .cell) = true
        · rw [if_pos hc] at h
          simpa only [List.lookup_cons, e] using h
        · rw [if_neg hc] at h
          simpa only [List.lookup_cons, e] using h
      rcases ih h2 with q | ⟨q1, q2⟩
      · exact .inl (List.mem_cons_of_mem _ q)
      · exact .inr ⟨q1, List.mem_cons_of_mem _ q2⟩
theorem forIn_folds {α β : Type} {f : α → β → Sem (ForInStep β)} {g : β → α → β} : ∀ {l : List α} (c : β), (∀ x ∈ l, ∀ c, f x c = pure (.yield (g c x))) → forIn l c f = pure (l.foldl g c)
  | [], c, _ => rfl
  | x :: l, c, h => by
    rw [List.forIn_cons, h x List.mem_cons_self c]
    show forIn l (g c x) f = _
    rw [forIn_folds (g c x) fun y hy => h y (List.mem_cons_of_mem _ hy)]
    rfl
def clStep (env : Env) (c : List (Str × Addr)) (y : Str × NameKind) : List (Str × Addr) := if y.2 = .free then (y.1, (env.cells.lookup y.1).getD 0) :: c else c
theorem clStep_from {env : Env} : ∀ {names : List (Str × NameKind)} {acc : List (Str × Addr)}, (∀ y ∈ names, y.2 = .free → ∃ c, env.cells.lookup y.1 = some c) → (∀ n c, acc.lookup n = some c → env.cells.lookup n = some c) →
    ∀ n c, (names.foldl (clStep env) acc).lookup n = some c → env.cells.lookup n = some c
  | [], _, _, ha, n, c, e => ha n c e
  | y :: names, acc, hf, ha, n, c, e => by
    refine clStep_from (names := names) (acc := clStep env acc y) (fun z hz => hf z (List.mem_cons_of_mem _ hz)) (fun m d q => ?_) n c e
    unfold clStep at q
    split at q
    · rename_i hy
      obtain ⟨c', hc'⟩ := hf y List.mem_cons_self hy
      rw [hc'] at q
      rw [List.lookup_cons] at q
      cases hb : m == y.1 with
      | true => rw [hb] at q; rw [eq_of_beq hb, hc']; exact q
      | false => rw [hb] at q; exact ha m d q
    · exact ha m d q
theorem clStep_mono {env : Env} {n : Str} : ∀ {names : List (Str × NameKind)} {acc : List (Str × Addr)}, (∃ c, acc.lookup n = some c) → ∃ c, (names.foldl (clStep env) acc).lookup n = some c
  | [], _, h => h
  | y :: names, acc, h => by
    refine clStep_mono (names := names) (acc := clStep env acc y) ?_
    unfold clStep
    split
    · rw [List.lookup_cons]
      cases n == y.1
      · exact h
      · exact ⟨_, rfl⟩
    · exact h
theorem clStep_has {env : Env} {n : Str} : ∀ {names : List (Str × NameKind)} {acc : List (Str × Addr)}, (n, NameKind.free) ∈ names → ∃ c, (names.foldl (clStep env) acc).lookup n = some c
  | y :: names, acc, h => by
    rcases List.mem_cons.mp h with e | e
    · subst e
      refine clStep_mono (names := names) (acc := clStep env acc (n, .free)) ⟨(env.cells.lookup n).getD 0, ?_⟩
      unfold clStep
      rw [if_pos rfl, List.lookup_cons_self]
    · exact clStep_has (names := names) e
theorem closure_ok {scope : Scope} {env : Env} (hf : ∀ y ∈ scope.names, y.2 = .free → ∃ c, env.cells.lookup y.1 = some c) :
    ∃ cl, closureFor scope env = pure cl ∧ (∀ n c, cl.lookup n = some c → env.cells.lookup n = some c) ∧ ∀ n, (n, NameKind.free) ∈ scope.names → ∃ c, cl.lookup n = some c := by
  refine ⟨scope.names.foldl (clStep env) [], ?_, clStep_from hf (fun n c e => by simp at e), fun n hn => clStep_has hn⟩
  simp only [closureFor]
  rw [forIn_folds (g := clStep env) [] (fun y hy c => ?_)]
  · rfl
  · obtain ⟨n, kind⟩ := y
    by_cases hk : kind = .free
    · subst hk
      obtain ⟨a, ha⟩ := hf (n, .free) hy rfl
      have ha : env.cells.lookup n = some a := ha
      simp only [beq_self_eq_true, if_true, cellOf, ha, clStep, Option.getD_some]
      rfl
    · have hb : (kind == NameKind.free) = false := by simpa using hk
      simp only [hb, Bool.false_eq_true, if_false, clStep, if_neg hk]
structure CompScope (X : Cx) (scope : Scope) (x : Str) (N' : List Str) : Prop where
  kind : scope.kind = .function
  nocell : ∀ y ∈ scope.names, y.2 ≠ .cell
  names : ∀ y ∈ scope.names, y.2 = .local → scope.names.lookup y.1 = some .local
  own : ∀ y ∈ scope.names, y.2 = .local → y.1 = x ∨ y.1 = ".0"
  hx : scope.names.lookup x = some .local
  free : ∀ y ∈ scope.names, y.2 = .free → X.env.kindOf y.1 = some .cell
  nh : ∀ y ∈ scope.names, y.1 ≠ ".h"
  hN : N' = hidN x X.N
  nd : N'.Nodup
  n0 : (".0" : Str) ∉ N'
theorem Inv.track {X : Cx} {pins : List (Addr × Obj)} {σ : St} {H : Hp} {s : Shared} {a : Addr} {o : HO} (I : Inv X pins σ H s) (f : FpOk X pins H a) (new : ObjOk X.prog X.w (upd H a o) s.heap a o) : Inv X pins σ (upd H a o) s := by
  obtain ⟨hn, f1, f2, f3, f4, f5⟩ := f
  refine I.step (h' := s.heap) (g' := s.gens) (t' := s.toks) (d' := s.drawn) (ch := [a]) (fun b hb => ?_) (fun b u _ _ _ e _ => e) (fun b u _ _ _ e _ => ⟨u.slots, e⟩) (fun b u hb _ n => ?_) (fun b u _ e => ⟨u, e⟩) (fun b xs e => ?_) (fun b u v e => ?_) (fun b ps e => ?_) (fun m hm => hm) (fun b u e => ?_) I.bare
  · obtain rfl : b = a := by simpa using hb
    exact ⟨f3, f1, f4, f5⟩
  · rw [upd_ne (by simpa using hb)]; exact n
  · rw [upd_ne (ne_of_none e hn)]; exact e
  · rw [upd_ne (ne_of_none e hn)]; exact e
  · exact ⟨#[], by rw [upd_ne (ne_of_none e hn), e]; simp⟩
  · by_cases hb : b = a
    · subst hb
      rw [upd_same] at e
      cases e
      exact new
    · rw [upd_ne hb] at e
      exact (I.hok b u e).stay (fun c v _ q => q) (fun c q => by rw [upd_ne (ne_of_none q hn)]; exact q) fun c xs q => by rw [upd_ne (ne_of_none q hn)]; exact q
end L2
namespace L2
open PySem PySem.Spec PyProof.Rows
section
variable {X : Cx} {pins : List (Addr × Obj)} {σ : St} {H : Hp} {s : Shared}
theorem relab_of {scope : Scope} {x : Str} {N' : List Str} {cl : List (Str × Addr)} {C : Addr} (S : CompScope X scope x N') {n : Str} {k : NameKind} (h : (compEnvC scope cl C X.env).kindOf n = some k) (hk : k = .cell ∨ k = .free) : (n, NameKind.free) ∈ scope.names := by
  rcases relabel_kind (env := X.env) (names := scope.names) h with q | ⟨_, q⟩
  · rcases hk with e | e
    · exact absurd e (S.nocell _ q)
    · rw [← e]; exact q
  · exact q
theorem cxC_ok {scope : Scope} {x : Str} {N' : List Str} {cl : List (Str × Addr)} {fp : List Addr} (S : CompScope X scope x N') (I : Inv X pins σ H s) (hcl1 : ∀ n c, cl.lookup n = some c → X.env.cells.lookup n = some c) (hcl2 : ∀ n, (n, NameKind.free) ∈ scope.names → ∃ c, cl.lookup n = some c)
    (hf : ∀ b ∈ fp, FpOk X pins H b ∧ b < s.heap.objs.size) : (cxC X scope cl s.heap.objs.size N' s H fp (X.pn ++ pins)).Ok where
  mod := I.ok.mod
  kind := S.kind
  glob := I.ok.glob
  blt := I.ok.blt
  above := Nat.le_refl _
  inj := fun y z c h1 h2 => I.ok.inj y z c (hcl1 y c h1) (hcl1 z c h2)
  has := fun y hy => by
    rcases hy with hy | hy
    · exact hcl2 y (relab_of S hy (.inl rfl))
    · exact hcl2 y (relab_of S hy (.inr rfl))
  cab := fun y c h _ => by cases h
  hd := I.ok.hd
  frames := I.ok.frames
  stk := .inl rfl
  exf := fun b hb => ⟨Nat.ne_of_lt (hf b hb).2, fun y c e z => (hf b hb).1.2.2.2.2.1 y c (hcl1 y c e) z⟩
  bs := I.bs
  bsz := Nat.le_trans I.ok.bsz I.sz
  noex := fun b o e hb => by
    rcases (hf b hb).1.2.2.2.1 with z | z
    · exact I.ok.noex b o e z
    · exact absurd (Nat.lt_of_lt_of_le (Heap.lt_size (I.ok.bs b o e).1) z) (Nat.lt_irrefl _)
  exfs := fun b hb hs => by
    rcases List.mem_cons.mp (I.stkSub b hs) with z | z
    · exact (hf b hb).1.2.1 z
    · exact (hf b hb).1.2.2.1 z
  funs := I.stack
  frf := I.stkFree
theorem cxC_inv {scope : Scope} {x : Str} {N' : List Str} {cl : List (Str × Addr)} {fp : List Addr} {h1 : Heap} {t1 : Nat} {m1 : Str → Option Value} (S : CompScope X scope x N') (I : Inv X pins σ H s) (hcl1 : ∀ n c, cl.lookup n = some c → X.env.cells.lookup n = some c)
    (hcl2 : ∀ n, (n, NameKind.free) ∈ scope.names → ∃ c, cl.lookup n = some c) (hf : ∀ b ∈ fp, FpOk X pins H b ∧ b < s.heap.objs.size) (hns : h1.Ns s.heap.objs.size m1) (kp : ∀ b o, s.heap.get? b = some o → h1.get? b = some o) :
    Inv (cxC X scope cl s.heap.objs.size N' s H fp (X.pn ++ pins)) [] (none :: σ) H { s with heap := h1, toks := t1 } where
  ok := cxC_ok S I hcl1 hcl2 hf
  os := rfl
  bare := I.bare
  base := Un.kept kp
  loc := by
    refine ⟨m1, hns, fun i n v e1 e2 e3 => ?_⟩
    have e1 : N'[i]? = some n := e1
    have e3 : Vis (compEnvC scope cl s.heap.objs.size X.env).scope n := e3
    cases i with
    | zero => simp at e2
    | succ j =>
      have e2 : σ[j]? = some (some v) := by simpa using e2
      rw [S.hN, hidN, List.getElem?_cons_succ, List.getElem?_map] at e1
      cases e4 : X.N[j]? with
      | none => rw [e4] at e1; cases e1
      | some n0 =>
        rw [e4] at e1
        have e1 : (if n0 = x then (".h" : Str) else n0) = n := Option.some.inj e1
        have mem : ∃ k, (k = NameKind.local ∨ k = .free) ∧ (n, k) ∈ scope.names := by
          rcases e3 with q | q | q
          · rcases relabel_kind (env := X.env) (names := scope.names) q with z | ⟨z, _⟩
            · exact ⟨.local, .inl rfl, z⟩
            · cases z
          · exact ⟨.free, .inr rfl, relab_of S (cl := cl) (C := s.heap.objs.size) q (.inl rfl)⟩
          · exact ⟨.free, .inr rfl, relab_of S (cl := cl) (C := s.heap.objs.size) q (.inr rfl)⟩
        obtain ⟨k, hk, hm⟩ := mem
        by_cases hnx : n0 = x
        · rw [if_pos hnx] at e1
          exact absurd e1.symm (S.nh _ hm)
        · rw [if_neg hnx] at e1
          subst e1
          rcases hk with rfl | rfl
          · rcases S.own _ hm rfl with z | z
            · exact absurd z hnx
            · exfalso
              refine S.n0 ?_
              have z : n0 = ".0" := z
              rw [S.hN, hidN]
              refine List.mem_cons_of_mem _ (List.mem_map.mpr ⟨n0, List.mem_of_getElem? e4, ?_⟩)
              rw [if_neg hnx, z]
          · have hkx := S.free _ hm rfl
            obtain ⟨m, hn, hl⟩ := I.loc
            obtain ⟨u, r, l⟩ := hl j n0 v e4 e2 (.inr (.inl hkx))
            refine ⟨u, r, ?_⟩
            rcases l with ⟨q, _⟩ | ⟨_, c, hc, hcell⟩
            · have q : X.env.kindOf n0 = some .local := q
              rw [hkx] at q
              cases q
            · obtain ⟨c', hc'⟩ := hcl2 n0 hm
              have := hcl1 n0 c' hc'
              rw [hc] at this
              cases this
              refine .inr ⟨?_, c, hc', hcell.keeps kp⟩
              rcases e3 with q | q | q
              · rcases relabel_kind (env := X.env) (names := scope.names) q with z | ⟨z, _⟩
                · rcases S.own _ z rfl with y | y
                  · exact absurd y hnx
                  · exfalso
                    refine S.n0 ?_
                    have y : n0 = ".0" := y
                    rw [S.hN, hidN]
                    refine List.mem_cons_of_mem _ (List.mem_map.mpr ⟨n0, List.mem_of_getElem? e4, ?_⟩)
                    rw [if_neg hnx, y]
                · cases z
              · exact .inl q
              · exact .inr q
  cell := fun y c e => by
    obtain ⟨v, hv⟩ := I.cell y c (hcl1 y c e)
    exact ⟨v, hv.keeps kp⟩
  free := I.hok.fresh (Nat.le_refl _)
  freeC := fun y c e => I.freeC y c (hcl1 y c e)
  pin := fun p hp => by
    have hp : p ∈ X.pn ++ pins := by
      have hp : p ∈ (X.pn ++ pins) ++ [] := hp
      simpa using hp
    obtain ⟨e, n, n1, n2, d⟩ := I.pin p hp
    refine ⟨kp _ _ e, n, Nat.ne_of_lt (Heap.lt_size e), fun z => ?_, d⟩
    rcases List.mem_cons.mp (I.stkSub p.1 z) with y | y
    · exact n1 y
    · exact n2 y
  hok := I.hok.kept kp
  len := by
    have := I.len
    show (none :: σ).length = N'.length
    rw [S.hN, hidN, List.length_cons, List.length_cons, List.length_map, this]
theorem push_keeps {h : Heap} {o : Obj} : ∀ b u, h.get? b = some u → (h.push o).get? b = some u := fun b u e => Heap.get?_push_of_some _ e
theorem comp_go {E : Value → Shared → Prop} (nox : ∀ e s', X.xe e s' → False) (hc : X.calm = true) {elt iter : Expr} {x : Str} {px pos : Pos} {ifs : List Expr} {scope : Scope} {N' : List Str} {cl : List (Str × Addr)} {tt : TT} {te : TE} {it : Addr} {fp : List Addr} {tn : Nat → Heap → Prop} {J : It} {fin : List V → Hp → Prop}
    {RR : Value → Addr → Result → Shared → Prop}
    (S : CompScope X scope x N') (I : Inv X pins σ H s) (hcl1 : ∀ n c, cl.lookup n = some c → X.env.cells.lookup n = some c) (hcl2 : ∀ n, (n, NameKind.free) ∈ scope.names → ∃ c, cl.lookup n = some c)
    (T : Turn X.prog X.w X.K (.Name x px) J fp it tn) (st0 : tn 0 s.heap) (hf : ∀ b ∈ fp, FpOk X pins H b) (hloop : cLoop J tt te σ fin H)
    (ht : ∀ cl C s₀ H₀ ex pn, PTs (cxC X scope cl C N' s₀ H₀ ex pn) ifs tt) (he : ∀ cl C s₀ H₀ ex pn, PE (cxC X scope cl C N' s₀ H₀ ex pn) elt te)
    (hRR : ∀ D C ys H' s', D ≠ C → FpOk X pins H' D → FpOk X pins (upd H' D (.lst ys)) C → (∃ m, s'.heap.Ns C m) → Inv X pins σ (upd H' D (.lst ys)) s' → fin ys H' → RR (.ref D) C (.ok .next) s') :
    wpAny (model X.prog X.w) X.A (newList []) (fun acc s₃ => wpAny (model X.prog X.w) X.A (newFunctionEnv scope X.env.globals cl [] X.env.qual none .none (some X.env)) (fun cenv s₄ =>
      codeAny (model X.prog X.w) X.A (.compStart (.ListComp elt [⟨.Name x px, iter, ifs, 0⟩] scope pos) 0 (.ref it) acc { cenv with scope := relabel scope X.env }) (RR acc cenv.locals) s₄) E s₃) E s := by
  refine wpAny_newObj_type (wpAny_newFunctionEnv S.nocell (by intro y hy; simp at hy) (fun h₁ hns₁ hsb₁ => ?_) S.kind)
  dsimp only at hns₁ hsb₁ ⊢
  let s3 : Shared := { s with heap := s.heap.push { cls := .type "list", dict := none, data := .seq ([] : List Value).toArray } }
  have I3 : Inv X pins σ H s3 := I.kept (t' := s.toks) push_keeps
  have hD : s.heap.objs.size < s3.heap.objs.size := by
    show _ < (s.heap.push _).objs.size
    rw [Heap.size_push]; exact Nat.lt_succ_self _
  have fD : ∀ {H' : Hp}, H' s.heap.objs.size = none → FpOk X pins H' s.heap.objs.size := fun hn => I.fpOk (Nat.le_refl _) hn
  have lt : ∀ b ∈ fp, b < s.heap.objs.size := fun b hb => by
    obtain ⟨o, e, _⟩ := T.obj 0 _ st0 b hb
    exact Heap.lt_size e
  have hn0 : H s.heap.objs.size = none := I.hok.fresh (Nat.le_refl _)
  have hf3 : ∀ b ∈ s.heap.objs.size :: fp, FpOk X pins H b ∧ b < s3.heap.objs.size := fun b hb => by
    rcases List.mem_cons.mp hb with e | e
    · subst e; exact ⟨fD hn0, hD⟩
    · exact ⟨hf b e, Nat.lt_trans (lt b e) hD⟩
  have kp1 : ∀ b o, s3.heap.get? b = some o → h₁.get? b = some o := fun b o e => hsb₁.extBut b o (Nat.ne_of_lt (Heap.lt_size e)) (Heap.get?_push_of_some _ e)
  have IY := cxC_inv (t1 := s.toks + ([] : List (Str × Value)).length) S I3 hcl1 hcl2 hf3 hns₁ kp1
  have okY := IY.ok
  generalize hY : cxC X scope cl s3.heap.objs.size N' s3 H (s.heap.objs.size :: fp) (X.pn ++ pins) = Y at IY okY
  have Yp : Y.prog = X.prog := by rw [← hY]; rfl
  have Yw : Y.w = X.w := by rw [← hY]; rfl
  have YK : Y.K = X.K := by rw [← hY]; rfl
  have Yc : Y.calm = true := by rw [← hY]; exact hc
  have YA : Y.A = X.A := by rw [← hY]; rfl
  have Yxe : Y.xe = X.xe := by rw [← hY]; rfl
  have Yenv : Y.env = compEnvC scope cl s3.heap.objs.size X.env := by rw [← hY]; rfl
  have Yex : Y.ex = s.heap.objs.size :: fp := by rw [← hY]; rfl
  have Yfs : Y.fs = frs X.stack := by rw [← hY]; rfl
  have Ypn : Y.pn = X.pn ++ pins := by rw [← hY]; rfl
  have YN : Y.N = N' := by rw [← hY]; rfl
  have tY : PTs Y ifs tt := by rw [← hY]; exact ht _ _ _ _ _ _
  have eY : PE Y elt te := by rw [← hY]; exact he _ _ _ _ _ _
  have fY : ∀ {H' : Hp} {b : Addr} {ps : List (Addr × Obj)}, b ∈ s.heap.objs.size :: fp → H' b = none → (∀ p ∈ ps, p.1 ≠ b) → FpOk Y ps H' b := fun {H' b ps} hb hn hps => by
    obtain ⟨⟨_, g1, g2, g3, g4, g5⟩, g6⟩ := hf3 b hb
    refine ⟨hn, ?_, ?_, ?_, ?_, ?_⟩
    · rw [Yenv]; exact Nat.ne_of_lt g6
    · rw [Yfs]; intro z
      rcases List.mem_cons.mp (I.stkSub b z) with y | y
      · exact g1 y
      · exact g2 y
    · rw [Yex]; exact .inl hb
    · rw [Yenv]; exact fun y c e => g4 y c (hcl1 y c e)
    · rw [Ypn]; intro p hp
      rcases List.mem_append.mp hp with z | z
      · exact g5 p z
      · exact hps p z
  obtain ⟨W, ⟨m0, w0⟩, hW⟩ := hloop
  have never : ∀ {R : Value → Shared → Prop}, ∀ e s', X.xe e s' → R e s' := fun e s' h => (nox e s' h).elim
  have loop : codeAny (model X.prog X.w) X.A (.compLoop (.ListComp elt [⟨.Name x px, iter, ifs, 0⟩] scope pos) 0 (.ref it) (.ref s.heap.objs.size) (compEnvC scope cl s3.heap.objs.size X.env)) (RR (.ref s.heap.objs.size) s3.heap.objs.size)
      { s with heap := h₁, toks := s.toks + ([] : List (Str × Value)).length } := by
    refine codeAny_compLoop_tests (fun n s' => ∃ i ys H', Inv Y [] (none :: σ) H' s' ∧ tn i s'.heap ∧ (∀ b ∈ fp, H' b = none) ∧ H' s.heap.objs.size = none ∧ (∃ its : List Value, Vals ys its ∧ s'.heap.PlainList s.heap.objs.size its.toArray) ∧ W i n ys H') ?_ m0
      ⟨0, [], H, IY, T.keep 0 _ _ st0 (fun b hb o e => kp1 b o (push_keeps b o e)), fun b hb => (hf b hb).1, hn0, ⟨[], .nil, ⟨_, kp1 _ _ (Heap.get?_push_size _ rfl)⟩⟩, w0⟩
    rintro n s5 ⟨i, ys, H5, I5, st5, fr5, hD5, ⟨its, rv, pl⟩, w5⟩
    obtain ⟨nn, hob⟩ := id pl
    have pinD : Inv Y [(s.heap.objs.size, { cls := .type "list", data := .seq its.toArray nn })] (none :: σ) H5 s5 := I5.pins_of fun p hp => by
      obtain rfl : p = (s.heap.objs.size, { cls := .type "list", data := .seq its.toArray nn }) := by simpa using hp
      obtain ⟨_, q1, q2, _⟩ := fY (H' := H5) (ps := []) List.mem_cons_self hD5 (by simp)
      exact ⟨hob, hD5, q1, q2, fun v z => by cases z⟩
    have fpD : ∀ {H' : Hp}, (∀ b ∈ fp, H' b = none) → ∀ b ∈ fp, FpOk Y [(s.heap.objs.size, ({ cls := .type "list", data := .seq its.toArray nn } : Obj))] H' b := fun hn b hb =>
      fY (List.mem_cons_of_mem _ hb) (hn b hb) fun p hp => by
        obtain rfl : p = (s.heap.objs.size, { cls := .type "list", data := .seq its.toArray nn }) := by simpa using hp
        exact Nat.ne_of_gt (lt b hb)
    rcases hW i n ys H5 w5 with ⟨stop, hz, q⟩ | ⟨go, hz, N, hN, step⟩
    · have done := T.done Y Yp Yw YK Yc i _ s5 _ H5 X.xe pinD (fpD fr5) st5 stop
      rw [YA] at done
      refine wpAny_mono done (fun r s6 ⟨hr, I6⟩ => ?_) never
      subst hr
      have hob6 : s6.heap.get? s.heap.objs.size = some { cls := .type "list", data := .seq its.toArray nn } := (I6.pin (s.heap.objs.size, { cls := .type "list", data := .seq its.toArray nn }) (List.mem_append_right _ List.mem_cons_self)).1
      have hns6 : ∃ m, s6.heap.Ns s3.heap.objs.size m := by
        obtain ⟨m, hm, _⟩ := I6.loc
        rw [Yenv] at hm
        exact ⟨m, hm⟩
      have os6 := I6.os
      have un6 := I6.base
      have hok6 := I6.hok
      have fr6 := I6.free
      rw [Yenv] at fr6
      have fr6 : H5 s3.heap.objs.size = none := fr6
      rw [← hY] at os6 un6 hok6
      have os6 : s6.os = s3.os := os6
      have I7 : Inv X pins σ H5 s6 := I3.call' (ch := s.heap.objs.size :: fp) os6 un6 hok6 I6.bare fun b hb => by
        obtain ⟨⟨_, g1, g2, g3, g4, g5⟩, _⟩ := hf3 b hb
        exact ⟨g3, g1, g4, g5⟩
      have I8 := I7.track (o := .lst ys) (fD hD5) ⟨hz, its, nn, rv, hob6⟩
      refine hRR s.heap.objs.size s3.heap.objs.size ys H5 s6 (Nat.ne_of_lt hD) (fD hD5) (I3.fpOk (Nat.le_refl _) ?_) hns6 I8 q
      rw [upd_ne (Nat.ne_of_gt hD)]; exact fr6
    · have item := T.item Y Yp Yw YK Yc i _ s5 _ H5 X.xe pinD (fpD fr5) st5 go
      rw [YA] at item
      refine wpAny_mono item (fun r s6 ⟨u, hr, h6⟩ => ?_) never
      subst hr
      have h6' := wpAny_bind (f := fun _ => assign (.Name x px) (compEnvC scope cl s3.heap.objs.size X.env) u) (Q := fun _ s₂ =>
          wpAny (model X.prog X.w) X.A (forIn ifs true fun c r => if r = true then do let ok ← isTrue c (compEnvC scope cl s3.heap.objs.size X.env) (eval c (compEnvC scope cl s3.heap.objs.size X.env)); pure (ForInStep.yield ok) else pure (ForInStep.yield r)) (fun ok s₃ =>
            if ok = true then wpAny (model X.prog X.w) X.A (eval elt (compEnvC scope cl s3.heap.objs.size X.env)) (fun x s₄ =>
              wpAny (model X.prog X.w) X.A (call (.builtin "list.append") [.ref s.heap.objs.size, x]) (fun _ s₅ => ∃ m, m < n ∧ ∃ i ys H', Inv Y [] (none :: σ) H' s₅ ∧ tn i s₅.heap ∧ (∀ b ∈ fp, H' b = none) ∧ H' s.heap.objs.size = none ∧ (∃ its : List Value, Vals ys its ∧ s₅.heap.PlainList s.heap.objs.size its.toArray) ∧ W i m ys H') X.xe s₄) X.xe s₃
            else ∃ m, m < n ∧ ∃ i ys H', Inv Y [] (none :: σ) H' s₃ ∧ tn i s₃.heap ∧ (∀ b ∈ fp, H' b = none) ∧ H' s.heap.objs.size = none ∧ (∃ its : List Value, Vals ys its ∧ s₃.heap.PlainList s.heap.objs.size its.toArray) ∧ W i m ys H') X.xe s₂) (wpAny_mono h6 (fun _ s7 ⟨v, H7, I7, r7, y7, st7, fr7⟩ => ?_) fun _ _ z => z)
      · refine wpAny_mono h6' (fun _ s8 h8 => wpAny_mono h8 (fun ok s9 h9 => ?_) never) never
        split
        · rename_i hok
          rw [if_pos hok] at h9
          exact wpAny_mono h9 (fun y s10 h10 => wpAny_mono h10 (fun _ _ z => z) never) never
        · rename_i hok
          rw [if_neg hok] at h9
          exact h9
      · -- the item is stored
        have I7' := I7.pinned (fpD fr7) (T.obj _ _ st7)
        have hxl : Loc Y.env.scope x := by rw [Yenv]; exact .inl (lookup_relabel_local S.hx)
        have hN0 : Y.N[0]? = some x := by rw [YN, S.hN]; rfl
        have hNd : Y.N.Nodup := by rw [YN]; exact S.nd
        have store := store_ok (M := model X.prog X.w) (A := X.A) (E := X.xe) (Q := fun _ s' => Inv Y ([(s.heap.objs.size, ({ cls := .type "list", data := .seq its.toArray nn } : Obj))] ++ pinsAt fp s7.heap) (some v :: σ) H7 s') I7' hNd hN0 hxl r7 (fun s' h => h) (.inr (by rw [Yenv]; exact lookup_relabel_local S.hx))
        rw [Yenv] at store
        refine wpAny_assign_Name (wpAny_mono store (fun _ s8 I8 => ?_) fun _ _ z => z)
        have back : ∀ {H9 : Hp} {s9 : Shared} {v? : Option V}, Inv Y ([(s.heap.objs.size, ({ cls := .type "list", data := .seq its.toArray nn } : Obj))] ++ pinsAt fp s7.heap) (v? :: σ) H9 s9 →
            tn (i + 1) s9.heap ∧ (∀ b ∈ fp, H9 b = none) ∧ H9 s.heap.objs.size = none ∧ s9.heap.get? s.heap.objs.size = some { cls := .type "list", data := .seq its.toArray nn } ∧ Inv Y (pinsAt fp s7.heap) (none :: σ) H9 s9 := fun {H9 s9 v?} I9 => by
          have pn : ∀ p ∈ ([(s.heap.objs.size, ({ cls := .type "list", data := .seq its.toArray nn } : Obj))] : List (Addr × Obj)) ++ pinsAt fp s7.heap, s9.heap.get? p.1 = some p.2 ∧ H9 p.1 = none := fun p hp =>
            ⟨(I9.pin p (List.mem_append_right _ hp)).1, (I9.pin p (List.mem_append_right _ hp)).2.1⟩
          refine ⟨T.keep _ _ _ st7 fun b hb o e => (pn (b, o) (List.mem_append_right _ (mem_pinsAt hb e))).1, fun b hb => ?_, (pn _ (List.mem_append_left _ List.mem_cons_self)).2, (pn _ (List.mem_append_left _ List.mem_cons_self)).1, ?_⟩
          · obtain ⟨o, e, _⟩ := T.obj _ _ st7 b hb
            exact (pn (b, o) (List.mem_append_right _ (mem_pinsAt hb e))).2
          · have I9' : Inv Y (pinsAt fp s7.heap) (v? :: σ) H9 s9 := I9.pins_of fun p hp => I9.pin p (List.mem_append_right _ (List.mem_append_right _ hp))
            refine I9'.weak rfl fun j w e => ?_
            cases j with
            | zero => simp at e
            | succ j => simpa using e
        have test := tY _ s8 _ H7 _ I8 (step v H7 y7)
        rw [Yp, Yw, YA, Yxe, Yenv] at test
        refine wpAny_mono test (fun ok s9 ⟨H9, I9, q9⟩ => ?_) fun _ _ z => z
        split
        · rename_i hok
          dsimp only at q9
          rw [if_pos hok] at q9
          have elm := eY _ s9 _ H9 _ I9 q9
          rw [Yp, Yw, YA, Yxe, Yenv] at elm
          refine wpAny_mono elm (fun y s10 ⟨v', H10, I10, r10, n10⟩ => ?_) fun _ _ z => z
          obtain ⟨m', hm', w10⟩ := hN _ _ n10
          obtain ⟨b1, b2, b3, b4, b5⟩ := back I10
          have hsz : its.toArray.size ≤ sizeLine := by rw [List.size_toArray, ← rv.length]; exact hz
          refine wpAny_list_append_plain (hsz := hsz) ⟨nn, b4⟩ fun h11 hl11 hs11 => ⟨m', hm', i + 1, ys ++ [v'], H10, ?_, ?_, b2, b3, ⟨its ++ [y], rv.append (.cons r10 .nil), ?_⟩, w10⟩
          · have I11 := b5.pins_of (pins' := []) (fun p hp => nomatch hp)
            obtain ⟨_, q1, q2, q3, q4, q5⟩ := fY (H' := H10) (ps := []) List.mem_cons_self b3 (by simp)
            exact I11.turned (t' := s10.toks) (fun b o hb e => hs11.extBut b o hb e) b3 q1 q3 q4 q5
          · exact T.keep _ _ _ b1 fun b hb o e => hs11.extBut b o (Nat.ne_of_lt (lt b hb)) e
          · simpa using hl11
        · rename_i hok
          dsimp only at q9
          rw [if_neg hok] at q9
          obtain ⟨m', hm', w9⟩ := hN _ _ q9
          obtain ⟨b1, b2, b3, b4, b5⟩ := back I9
          exact ⟨m', hm', i + 1, ys, H9, b5.pins_of (pins' := []) (fun p hp => nomatch hp), b1, b2, b3, ⟨its, rv, nn, b4⟩, w9⟩
  exact codeAny_compStart_list loop (T.self X.A 0 _ _ _ (T.keep 0 _ _ st0 (fun b hb o e => kp1 b o (push_keeps b o e))) loop)
theorem pe_comp (nox : ∀ e s', X.xe e s' → False) (hc : X.calm = true) {elt iter : Expr} {x : Str} {px pos : Pos} {ifs : List Expr} {scope : Scope} {N' : List Str} {wi : TI} {tt : TT} {te : TE} (S : CompScope X scope x N') (hi : PI X (.Name x px) iter wi)
    (ht : ∀ cl C s₀ H₀ ex pn, PTs (cxC X scope cl C N' s₀ H₀ ex pn) ifs tt) (he : ∀ cl C s₀ H₀ ex pn, PE (cxC X scope cl C N' s₀ H₀ ex pn) elt te) (hs : ∀ v, foldedSetIterable iter X.env v = pure v := by intro _; rfl) :
    PE X (.ListComp elt [⟨.Name x px, iter, ifs, 0⟩] scope pos) (tComp wi tt te) := by
  intro pins s σ H Q I h
  obtain ⟨cl, hcl, hcl1, hcl2⟩ := closure_ok (scope := scope) (env := X.env) fun y hy hk => I.ok.has y.1 (.inl (S.free y hy hk))
  rw [eval_ListComp]
  refine wpAny_comprehension_free (use := none) rfl hs hcl S.kind S.names (thn (hi pins s σ H _ I h) fun v s1 h1 => thn h1 fun itv s2 h2 => ?_)
  obtain ⟨it, fp, tn, J, H2, rfl, I2, T, st2, f2, lp⟩ := h2
  refine comp_go (RR := fun acc C => compPost (model X.prog X.w) X.A X.xe none (EP X pins σ Q) acc C) nox hc S I2 hcl1 hcl2 T st2 f2 lp ht he fun D C ys H' s' hDC fD fC hns I' q => ?_
  obtain ⟨m, hm⟩ := hns
  refine ⟨m, hm, fun h' hs' => ?_⟩
  obtain ⟨c0, c1, c2, c3, c4, c5⟩ := fC
  exact ⟨.ref D, upd H' D (.lst ys), I'.turned (t' := s'.toks) (fun b o hb e => hs'.extBut b o hb e) c0 c1 c3 c4 c5, rfl, q D fD.1⟩
theorem ps_setComp (nox : ∀ e s', X.xe e s' → False) (hc : X.calm = true) {i : Nat} {y : Str} {py spos : Pos} {elt iter : Expr} {x : Str} {px pos : Pos} {ifs : List Expr} {scope : Scope} {N' : List Str} {wi : TI} {tt : TT} {te : TE} (hN : X.N.Nodup) (hy : X.N[i]? = some y) (hyl : X.env.scope.names.lookup y = some .local)
    (S : CompScope X scope x N') (hi : PI X (.Name x px) iter wi) (ht : ∀ cl C s₀ H₀ ex pn, PTs (cxC X scope cl C N' s₀ H₀ ex pn) ifs tt) (he : ∀ cl C s₀ H₀ ex pn, PE (cxC X scope cl C N' s₀ H₀ ex pn) elt te)
    (hsw : swapsWith (.ListComp elt [⟨.Name x px, iter, ifs, 0⟩] scope pos) (some (.Name y py)) spos.line X.env = pure true) (hs : ∀ v, foldedSetIterable iter X.env v = pure v := by intro _; rfl) :
    PS X (.Assign [.Name y py] (.ListComp elt [⟨.Name x px, iter, ifs, 0⟩] scope pos) spos) (fun D σ H => tComp wi tt te σ H fun v H1 => D.nx (σ.set i (some v)) H1) := by
  intro pins s σ H D I h
  obtain ⟨cl, hcl, hcl1, hcl2⟩ := closure_ok (scope := scope) (env := X.env) fun z hz hk => I.ok.has z.1 (.inl (S.free z hz hk))
  rw [exec_Assign_Name_used _ _ _ _ hsw]
  refine wpAny_bind (wpAny_standAt (wpAny_bind ?_))
  show wpAny _ X.A (comprehension (.ListComp elt [⟨.Name x px, iter, ifs, 0⟩] scope pos) scope X.env _ (newList []) false (eval iter X.env) (some (assign (.Name y py) X.env)) >>= fun _ => pure ()) _ _ s
  refine wpAny_bind (wpAny_mono (wpAny_comprehension_free (use := some (assign (.Name y py) X.env)) (Q := fun _ s' => SP X pins D .next s') rfl hs hcl S.kind S.names (thn (hi pins s σ H _ I h) fun v s1 h1 => thn h1 fun itv s2 h2 => ?_)) (fun _ s' q => wpAny_pure (wpAny_pure q)) fun _ _ z => z)
  obtain ⟨it, fp, tn, J, H2, rfl, I2, T, st2, f2, lp⟩ := h2
  refine comp_go (RR := fun acc C => compPost (model X.prog X.w) X.A X.xe (some (assign (.Name y py) X.env)) (fun _ s' => SP X pins D .next s') acc C) nox hc S I2 hcl1 hcl2 T st2 f2 lp ht he fun E C ys H' s' hDC fD fC hns I' q => ?_
  obtain ⟨m, hm⟩ := hns
  obtain ⟨c0, c1, c2, c3, c4, c5⟩ := fC
  refine wpAny_assign_Name (store_ok2 I' hN hy (.inl hyl) (v := .ref E) rfl (fun s'' I'' hsb => ?_) (.inr hyl))
  obtain ⟨a, sb, ha⟩ := hsb
  have hCa : C ≠ a := by
    rcases ha with e | e
    · rw [e]; exact c1
    · exact Ne.symm (c4 _ _ e)
  refine ⟨m, hm.sameBut sb hCa, fun h' hs' => ?_⟩
  exact ⟨σ.set i (some (.ref E)), upd H' E (.lst ys), I''.turned (t' := s''.toks) (fun b o hb e => hs'.extBut b o hb e) c0 c1 c3 c4 c5, q E fD.1⟩
end
end L2
namespace L2
open PySem PySem.Spec PyProof.Rows
section
variable {X : Cx}
theorem vals_of_get : ∀ {xs : List V} {us : List Value}, xs.length = us.length → (∀ (i : Nat) (x : V) (u : Value), xs[i]? = some x → us[i]? = some u → RelV x u) → Vals xs us
  | [], [], _, _ => .nil
  | x :: xs, u :: us, hl, h => .cons (h 0 x u rfl rfl) (vals_of_get (by simpa using hl) fun i x' u' h1 h2 => h (i + 1) x' u' (by simpa using h1) (by simpa using h2))
theorem call_isinst : CallR X (.builtin "isinstance") (fun xs H Q => ∃ x c t b, xs = [x, .ty c] ∧ TyOf X.K H x t ∧ PySem.W.kitOne X.K t (.type c) = some b ∧ Q (.bl b) H) := by
  intro pins s σ H xs us Q I r h
  obtain ⟨x, c, t, b, rfl, ty, e, q⟩ := h
  obtain ⟨u, w', rfl, r1, r2⟩ := vals2 r
  cases r2
  exact isinst_ok I r1 ty e fun tk => ⟨.bl b, H, I.tok _, rfl, q⟩
def rIndex : V → List V → Hp → VK → Prop := fun x vs H Q => ∃ l xs y j, x = .ref l ∧ vs = [y] ∧ H l = some (.lst xs) ∧ flatV y = true ∧ xs.all flatV = true ∧ (∃ z, xs[j]? = some z ∧ eqV z y = true) ∧ (∀ m z, m < j → xs[m]? = some z → eqV z y = false) ∧ Q (.int (j : Nat)) H
theorem mt_index : MtM X "list.index" rIndex := by
  intro pins s σ H x vs v us Q I rx rv h
  obtain ⟨l, xs, y, j, rfl, rfl, hH, fy, fs, ⟨z, hz, hzy⟩, hno, q⟩ := h
  cases rx
  obtain ⟨u, rfl, ru⟩ := rv.one
  obtain ⟨zz, its, n, r, hl, e⟩ := I.lstM hH
  have hs : sizeLine = 16777216 := sizeLine_eq
  have hjx : j < xs.length := (List.getElem?_eq_some_iff.mp hz).1
  have hj : j < its.toArray.size := by rw [List.size_toArray, ← hl]; exact hjx
  have at_ : ∀ (m : Nat) (hm : m < its.toArray.size) (w : V), xs[m]? = some w → eqU y its.toArray[m] = eqV w y := fun m hm w hw => by
    obtain ⟨u', hu', r'⟩ := r.get hw
    have e1 : its.toArray[m] = u' := by
      have : its.toArray[m]? = some u' := by simpa using hu'
      rw [Array.getElem?_eq_getElem hm] at this
      exact Option.some.inj this
    rw [e1]
    refine eqU_of r' ?_
    exact List.all_eq_true.mp fs w (List.mem_of_getElem? hw)
  refine call_meets F.slot_list_index ⟨_, e, rfl⟩ F.entry_list_index (F.args_list_index_2 _ _) (SeqAt.list_indexAt l its.toArray n none #[] u (eqU y) j hj (by omega) (by rw [at_ j hj z hz]; exact hzy) fun m hm hmj => ?_)
    ⟨e, fun w hw => mem_eqAt ru fy r fs w (by simpa using hw), ⟨.int (j : Nat), H, I.tok _, ⟨_, rfl⟩, q⟩⟩
  have hmx : m < xs.length := by omega
  rw [at_ m hm xs[m] (List.getElem?_eq_getElem hmx)]
  exact hno m _ hmj (List.getElem?_eq_getElem hmx)
def rInsert0 : V → List V → Hp → VK → Prop := fun x vs H Q => ∃ l xs y, x = .ref l ∧ vs = [.int 0, y] ∧ H l = some (.lst xs) ∧ xs.length < sizeLine ∧ Q .non (upd H l (.lst (y :: xs)))
theorem mt_insert0 : MtM X "list.insert" rInsert0 := by
  intro pins s σ H x vs v us Q I rx rv h
  obtain ⟨l, xs, y, rfl, rfl, hH, hz, q⟩ := h
  cases rx
  obtain ⟨u, w, rfl, ⟨t, rfl⟩, rw'⟩ := rv.two
  obtain ⟨zz, its, n, r, hl, e⟩ := I.lstM hH
  refine call_meets F.slot_list_insert ⟨_, e, rfl⟩ F.entry_list_insert (F.args_list_insert_3 _ _ _) (AutoListH.list_insert_list_int_val_1 l its.toArray n 0 t w (by rw [fitsIndex_both (by decide) (by decide)]; exact Bool.false_ne_true) (by rw [List.size_toArray]; omega)) ⟨e, ?_⟩
  refine ⟨.non, _, I.lset (its' := w :: its) (ys := y :: xs) hH e ?_ (.cons rw' r) ?_, rfl, q⟩
  · simp
  · rw [List.length_cons]; omega
theorem call_allB : CallR X (.builtin "all") (fun xs H Q => ∃ (p : Addr) (bs : List Bool), xs = [.ref p] ∧ H p = some (.lst (bs.map V.bl)) ∧ X.calm = true ∧ Q (.bl (bs.all id)) H) := by
  intro pins s σ H xs us Q I r h
  obtain ⟨p, bs, rfl, hp, hc, q⟩ := h
  obtain ⟨u, rfl, rx⟩ := vals1 r
  cases rx
  obtain ⟨zz, its, n, rv, hl, e⟩ := I.lstM hp
  have hlist : s.heap.IsList p its.toArray := ⟨_, e, rfl, n, rfl⟩
  have hd := I.ok.hd hc
  refine call_all_walk (wpAny_pyIter_list hlist ?_)
  have hne : p ≠ s.heap.objs.size := Nat.ne_of_lt (Heap.lt_size e)
  refine ⟨s.heap.objs.size, _, _, _, _, _, fun i => bs.getD i true, rfl, Walks.list (A := X.A.in1) hd s.heap.objs.size p hne its.toArray, ⟨⟨_, Heap.get?_push_size _ rfl, rfl, rfl⟩, hlist.extBut (fun b o _ e => Heap.get?_push_of_some _ e) hne⟩, fun i v s' Q' E' hv hQ' => ?_, fun h' tk kp => ?_⟩
  · dsimp only at hv hQ'
    have hi : i < its.length := by
      have := (Array.getElem?_eq_some_iff.mp hv).1
      simpa using this
    have hib : i < bs.length := by rw [List.length_map] at hl; omega
    obtain ⟨u', hu', r'⟩ := rv.get (i := i) (x := V.bl bs[i]) (by rw [List.getElem?_map, List.getElem?_eq_getElem hib]; rfl)
    have : u' = v := by
      have e2 : its.toArray[i]? = some u' := by simpa using hu'
      rw [e2] at hv
      exact Option.some.inj hv
    subst this
    cases r'
    have eb : bs.getD i true = bs[i] := by simp [List.getD, List.getElem?_eq_getElem hib]
    rw [eb] at hQ'
    exact wpAny_truthy_bool hQ'
  · have eall : (List.range its.toArray.size).all (fun i => bs.getD i true) = bs.all id := by
      rw [List.length_map] at hl
      rw [List.size_toArray, ← hl]
      have : bs = (List.range bs.length).map fun i => bs.getD i true := by
        apply List.ext_getElem?
        intro i
        rw [List.getElem?_map]
        by_cases hi : i < bs.length
        · rw [List.getElem?_range hi, List.getElem?_eq_getElem hi]; simp [List.getD, List.getElem?_eq_getElem hi]
        · rw [List.getElem?_eq_none (by omega), List.getElem?_eq_none (by simp; omega)]; rfl
      conv => rhs; rw [this]
      rw [List.all_map]; rfl
    rw [eall]
    refine ⟨.bl (bs.all id), H, I.kept (t' := tk) fun b o eb => ?_, rfl, q⟩
    exact kp b o (by simpa using Nat.ne_of_lt (Heap.lt_size eb)) (Heap.get?_push_of_some _ eb)
theorem call_sumI : CallR X (.builtin "sum") (fun xs H Q => ∃ (p : Addr) (ns : List Int), xs = [.ref p] ∧ H p = some (.lst (ns.map V.int)) ∧ X.calm = true ∧ Q (.int ns.sum) H) := by
  intro pins s σ H xs us Q I r h
  obtain ⟨p, ns, rfl, hp, hc, q⟩ := h
  obtain ⟨u, rfl, rx⟩ := vals1 r
  cases rx
  obtain ⟨zz, its, n, rv, hl, e⟩ := I.lstM hp
  have hlist : s.heap.IsList p its.toArray := ⟨_, e, rfl, n, rfl⟩
  have hd := I.ok.hd hc
  refine call_sum_walkG (wpAny_pyIter_list hlist ?_)
  have hne : p ≠ s.heap.objs.size := Nat.ne_of_lt (Heap.lt_size e)
  refine ⟨s.heap.objs.size, _, _, _, _, _, fun i => ns.getD i 0, rfl, Walks.list (A := X.A.in1) hd s.heap.objs.size p hne its.toArray, ⟨⟨_, Heap.get?_push_size _ rfl, rfl, rfl⟩, hlist.extBut (fun b o _ e => Heap.get?_push_of_some _ e) hne⟩, fun b hb => ?_, fun i v hv => ?_, fun h' tk t' kp => ?_⟩
  · rw [Heap.size_push]
    rcases List.mem_cons.mp hb with z | z
    · rw [z]; exact Nat.lt_succ_self _
    · have z : b = p := by simpa using z
      rw [z]; exact Nat.lt_succ_of_lt (Heap.lt_size e)
  · have hi : i < its.length := by
      have := (Array.getElem?_eq_some_iff.mp hv).1
      simpa using this
    have hib : i < ns.length := by rw [List.length_map] at hl; omega
    obtain ⟨u', hu', r'⟩ := rv.get (i := i) (x := V.int ns[i]) (by rw [List.getElem?_map, List.getElem?_eq_getElem hib]; rfl)
    have : u' = v := by
      have e2 : its.toArray[i]? = some u' := by simpa using hu'
      rw [e2] at hv
      exact Option.some.inj hv
    subst this
    obtain ⟨t, rfl⟩ := r'
    have eb : ns.getD i 0 = ns[i] := by simp [List.getD, List.getElem?_eq_getElem hib]
    exact ⟨t, by show _ = Value.int (ns.getD i 0) t; rw [eb]⟩
  · have es : preSum (fun i => ns.getD i 0) its.toArray.size = ns.sum := by
      rw [List.length_map] at hl
      rw [List.size_toArray, ← hl, preSum_getD, List.take_of_length_le (Nat.le_refl _)]
    rw [es]
    refine ⟨.int ns.sum, H, I.kept (t' := tk) fun b o eb => ?_, ⟨t', rfl⟩, q⟩
    exact kp b o (by simpa using Nat.ne_of_lt (Heap.lt_size eb)) (Heap.get?_push_of_some _ eb)
def rngI (lo : Int) (n : Nat) : List Int := (List.range n).map fun i : Nat => lo + (i : Int)
theorem rng_vals {lo : Int} {n : Nat} {acc : Array Value} (h : ItemsOf (fun i v => ∃ t, v = .int (lo + i * 1) t) acc n) : Vals ((rngI lo n).map V.int) acc.toList := by
  refine vals_of_get ?_ fun i x u hx hu => ?_
  · rw [List.length_map, rngI, List.length_map, List.length_range, Array.length_toList, h.1]
  · rw [List.getElem?_map, rngI, List.getElem?_map] at hx
    have hi : i < n := by
      have := (List.getElem?_eq_some_iff.mp hu).1
      rw [Array.length_toList, h.1] at this
      exact this
    rw [List.getElem?_range hi] at hx
    have hx : V.int (lo + (i : Int)) = x := Option.some.inj hx
    subst hx
    obtain ⟨t, rfl⟩ := h.2 i u (by simpa using hu)
    exact ⟨t, by rw [Int.mul_one]⟩
theorem call_rng1 : CallR X (.type "range") (fun xs H Q => ∃ j : Int, xs = [.int j] ∧ ∀ p, H p = none → Q (.ref p) (upd H p (.rng 0 j))) := by
  intro pins s σ H xs us Q I r h
  obtain ⟨j, rfl, q⟩ := h
  obtain ⟨u, rfl, t, rfl⟩ := vals1 r
  refine call_range_1 ?_
  refine ⟨.ref s.heap.objs.size, _, I.laid (o := .rng 0 j) push_keeps (Nat.le_refl _) ?_, rfl, q _ I.fresh⟩
  exact ⟨_, _, _, Heap.get?_push_size _ rfl⟩
theorem call_rng2 : CallR X (.type "range") (fun xs H Q => ∃ i j : Int, xs = [.int i, .int j] ∧ ∀ p, H p = none → Q (.ref p) (upd H p (.rng i j))) := by
  intro pins s σ H xs us Q I r h
  obtain ⟨i, j, rfl, q⟩ := h
  obtain ⟨u, w', rfl, ⟨t, rfl⟩, ⟨t', rfl⟩⟩ := vals2 r
  refine call_range_2 ?_
  refine ⟨.ref s.heap.objs.size, _, I.laid (o := .rng i j) push_keeps (Nat.le_refl _) ?_, rfl, q _ I.fresh⟩
  exact ⟨_, _, _, Heap.get?_push_size _ rfl⟩
theorem call_list_rng : CallR X (.type "list") (fun xs H Q => ∃ (p : Addr) (lo hi : Int), xs = [.ref p] ∧ H p = some (.rng lo hi) ∧ X.calm = true ∧ -(2 ^ 62) ≤ lo ∧ lo < 2 ^ 62 ∧ -(2 ^ 62) ≤ hi ∧ hi < 2 ^ 62 ∧ (hi - lo).toNat ≤ sizeLine ∧ ∀ l, H l = none → Q (.ref l) (upd H l (.lst ((rngI lo (hi - lo).toNat).map V.int)))) := by
  intro pins s σ H xs us Q I r h
  obtain ⟨p, lo, hi, rfl, hp, hc, h1, h2, h3, h4, hz, q⟩ := h
  obtain ⟨u, rfl, rx⟩ := vals1 r
  cases rx
  obtain ⟨t, u, v, e⟩ := I.hok p _ hp
  have hsz : Builtin.Range.rangeSize lo hi 1 = (((hi - lo).toNat : Nat) : Int) := by rw [rangeSize_one]; split <;> omega
  have hs : sizeLine = 16777216 := sizeLine_eq
  refine call_list_range (I.ok.hd hc) (show IsRange s.heap p lo hi 1 t u v from e) (small_one h1 h2 h3 h4) hsz (by omega) fun h' tk acc' c' kp e2 hit => ?_
  have hv := rng_vals hit
  refine ⟨.ref s.heap.objs.size, _, I.laid (t' := tk) (o := .lst ((rngI lo (hi - lo).toNat).map V.int)) kp (Nat.le_refl _) ?_, rfl, q _ I.fresh⟩
  exact ⟨by rw [List.length_map, rngI, List.length_map, List.length_range]; exact hz, acc'.toList, c', hv, by simpa using e2⟩
end
end L2
namespace L2
open PySem PySem.Spec PyProof.Rows
inductive Dt where
  | non | int (i : Int) | str (x : Str) | lst (xs : List Dt) | tup (xs : List Dt)
mutual
def Dt.dep : Dt → Nat
  | .lst xs => Dt.deps xs + 1
  | .tup xs => Dt.deps xs + 1
  | _ => 0
def Dt.deps : List Dt → Nat
  | [] => 0
  | x :: xs => Nat.max x.dep (Dt.deps xs)
end
theorem Dt.dep_le : ∀ {xs : List Dt} {j : Nat} {d : Dt}, xs[j]? = some d → d.dep ≤ Dt.deps xs
  | x :: xs, 0, d, h => by
    simp at h; subst h
    unfold Dt.deps; exact Nat.le_max_left _ _
  | x :: xs, j + 1, d, h => by
    have := Dt.dep_le (xs := xs) (j := j) (d := d) (by simpa using h)
    unfold Dt.deps; exact Nat.le_trans this (Nat.le_max_right _ _)
mutual
inductive DV (K : PySem.W.Frag) (H : Hp) : V → Dt → Prop where
  | non : DV K H .non .non
  | int (i : Int) : DV K H (.int i) (.int i)
  | str (x : Str) : DV K H (.str x) (.str x)
  | lst {p : Addr} {xs : List V} {ds : List Dt} : SqL K H p xs → DVs K H xs ds → DV K H (.ref p) (.lst ds)
  | tup {p : Addr} {xs : List V} {ds : List Dt} : SqT K H p xs → DVs K H xs ds → DV K H (.ref p) (.tup ds)
inductive DVs (K : PySem.W.Frag) (H : Hp) : List V → List Dt → Prop where
  | nil : DVs K H [] []
  | cons {x : V} {d : Dt} {xs : List V} {ds : List Dt} : DV K H x d → DVs K H xs ds → DVs K H (x :: xs) (d :: ds)
end
theorem DVs.length {K : PySem.W.Frag} {H : Hp} : ∀ {xs : List V} {ds : List Dt}, DVs K H xs ds → xs.length = ds.length
  | _, _, .nil => rfl
  | _, _, .cons _ t => by rw [List.length_cons, List.length_cons, t.length]
theorem DVs.get {K : PySem.W.Frag} {H : Hp} : ∀ {xs : List V} {ds : List Dt} {j : Nat} {x : V}, DVs K H xs ds → xs[j]? = some x → ∃ d, ds[j]? = some d ∧ DV K H x d
  | _, _, 0, _, .cons r _, e => by simp at e; subst e; exact ⟨_, rfl, r⟩
  | _, _, j + 1, x, .cons _ t, e => by
    obtain ⟨d, h1, h2⟩ := DVs.get (j := j) (x := x) t (by simpa using e)
    exact ⟨d, by simpa using h1, h2⟩
theorem DVs.ofInts {K : PySem.W.Frag} {H : Hp} : ∀ (ns : List Int), DVs K H (ns.map V.int) (ns.map Dt.int)
  | [] => .nil
  | n :: ns => .cons (.int n) (DVs.ofInts ns)
section
variable {X : Cx} {pins : List (Addr × Obj)} {σ : St} {H : Hp} {s : Shared}
theorem sq_apart {p : Addr} {xs ys : List V} (I : Inv X pins σ H s) (h : SqL X.K H p xs) (h' : SqT X.K H p ys) : False := by
  obtain ⟨its, _, pl, _⟩ := I.list h
  obtain ⟨its', _, pt, _⟩ := I.tuple h'
  exact SeqAt.ne_of_list_tuple pl.isList pt rfl
theorem DV.fn (I : Inv X pins σ H s) : ∀ (n : Nat) {x : V} {d e : Dt}, d.dep ≤ n → DV X.K H x d → DV X.K H x e → d = e := by
  intro n
  induction n with
  | zero =>
    intro x d e hn h h'
    cases h with
    | non => cases h'; rfl
    | int => cases h'; rfl
    | str => cases h'; rfl
    | lst => simp [Dt.dep] at hn
    | tup => simp [Dt.dep] at hn
  | succ n ih =>
    have all : ∀ {xs : List V} {ds es : List Dt}, Dt.deps ds ≤ n → DVs X.K H xs ds → DVs X.K H xs es → ds = es := by
      intro xs
      induction xs with
      | nil => intro ds es _ h h'; cases h; cases h'; rfl
      | cons x xs ihx =>
        intro ds es hd h h'
        cases h with
        | cons r t =>
          cases h' with
          | cons r' t' =>
            unfold Dt.deps at hd
            rw [ih (Nat.le_trans (Nat.le_max_left _ _) hd) r r', ihx (Nat.le_trans (Nat.le_max_right _ _) hd) t t']
    intro x d e hn h h'
    cases h with
    | non => cases h'; rfl
    | int => cases h'; rfl
    | str => cases h'; rfl
    | lst a b =>
      cases h' with
      | lst a' b' =>
        have := I.list_inj a a'
        subst this
        unfold Dt.dep at hn
        rw [all (by omega) b b']
      | tup a' b' => exact (sq_apart I a a').elim
    | tup a b =>
      cases h' with
      | lst a' b' => exact (sq_apart I a' a).elim
      | tup a' b' =>
        have := I.tuple_inj a a'
        subst this
        unfold Dt.dep at hn
        rw [all (by omega) b b']
open Classical in
theorem all_range_eq {α : Type} {ds es : List α} (hl : ds.length = es.length) : ((List.range ds.length).all fun j => decide (ds[j]? = es[j]?)) = decide (ds = es) := by
  rw [Bool.eq_iff_iff, List.all_eq_true, decide_eq_true_iff]
  constructor
  · intro h
    apply List.ext_getElem?
    intro i
    by_cases hi : i < ds.length
    · exact of_decide_eq_true (h i (List.mem_range.mpr hi))
    · rw [List.getElem?_eq_none (by omega), List.getElem?_eq_none (by omega)]
  · intro h j _
    rw [h]; exact decide_eq_true rfl
open Classical in
theorem DV.eqAt (I : Inv X pins σ H s) : ∀ (n : Nat) {A : Around} {x y : V} {d e : Dt} {u v : Value}, d.dep ≤ n → DV X.K H x d → DV X.K H y e → RelV x u → RelV y v → A.units + n < cLine → SeqAt.EqAt A s u v (decide (d = e)) := by
  intro n
  induction n with
  | zero =>
    intro A x y d e u v hn h h' rx ry hu
    cases h with
    | non =>
      cases rx
      cases h' with
      | non => cases ry; rw [decide_eq_true rfl]; exact SeqAt.EqAt.same _
      | int i => obtain ⟨t, rfl⟩ := ry; rw [decide_eq_false (by simp)]; exact SeqAt.EqAt.none_int i t
      | str z => obtain ⟨t, rfl⟩ := ry; rw [decide_eq_false (by simp)]; exact SeqAt.EqAt.none_str z t
      | lst a b => cases ry; obtain ⟨_, _, pl, _⟩ := I.list a; rw [decide_eq_false (by simp)]; exact SeqAt.EqAt.none_list pl.isList hu
      | tup a b => cases ry; obtain ⟨_, _, pl, _⟩ := I.tuple a; rw [decide_eq_false (by simp)]; exact SeqAt.EqAt.none_tuple pl hu
    | int i =>
      obtain ⟨t, rfl⟩ := rx
      cases h' with
      | non => cases ry; rw [decide_eq_false (by simp)]; exact SeqAt.EqAt.int_none i t
      | int j =>
        obtain ⟨t', rfl⟩ := ry
        have : decide (Dt.int i = Dt.int j) = (i == j) := by rw [Bool.eq_iff_iff]; simp
        rw [this]; exact SeqAt.EqAt.int_int i t j t'
      | str z => obtain ⟨t', rfl⟩ := ry; rw [decide_eq_false (by simp)]; exact SeqAt.EqAt.int_str i t z t'
      | lst a b => cases ry; obtain ⟨_, _, pl, _⟩ := I.list a; rw [decide_eq_false (by simp)]; exact SeqAt.EqAt.int_list i t pl.isList hu
      | tup a b => cases ry; obtain ⟨_, _, pl, _⟩ := I.tuple a; rw [decide_eq_false (by simp)]; exact SeqAt.EqAt.int_tuple i t pl hu
    | str z =>
      obtain ⟨t, rfl⟩ := rx
      cases h' with
      | non => cases ry; rw [decide_eq_false (by simp)]; exact SeqAt.EqAt.str_none z t
      | int j => obtain ⟨t', rfl⟩ := ry; rw [decide_eq_false (by simp)]; exact SeqAt.EqAt.str_int z t j t'
      | str z' =>
        obtain ⟨t', rfl⟩ := ry
        have : decide (Dt.str z = Dt.str z') = (z == z') := by rw [Bool.eq_iff_iff]; simp
        rw [this]; exact SeqAt.EqAt.str_str z t z' t'
      | lst a b => cases ry; obtain ⟨_, _, pl, _⟩ := I.list a; rw [decide_eq_false (by simp)]; exact SeqAt.EqAt.str_list z t pl.isList hu
      | tup a b => cases ry; obtain ⟨_, _, pl, _⟩ := I.tuple a; rw [decide_eq_false (by simp)]; exact SeqAt.EqAt.str_tuple z t pl hu
    | lst => simp [Dt.dep] at hn
    | tup => simp [Dt.dep] at hn
  | succ n ih =>
    intro A x y d e u v hn h h' rx ry hu
    cases h with
    | non => exact ih (d := .non) (by simp [Dt.dep]) .non h' rx ry (by omega)
    | int i => exact ih (d := .int i) (by simp [Dt.dep]) (.int i) h' rx ry (by omega)
    | str z => exact ih (d := .str z) (by simp [Dt.dep]) (.str z) h' rx ry (by omega)
    | @lst p xs ds a b =>
      obtain rfl : u = Value.ref p := rx
      obtain ⟨its, r, pl, hz⟩ := I.list a
      cases h' with
      | non => cases ry; rw [decide_eq_false (by simp)]; exact SeqAt.EqAt.list_none pl.isList (by omega)
      | int j => obtain ⟨t', rfl⟩ := ry; rw [decide_eq_false (by simp)]; exact SeqAt.EqAt.list_int j t' pl.isList (by omega)
      | str z' => obtain ⟨t', rfl⟩ := ry; rw [decide_eq_false (by simp)]; exact SeqAt.EqAt.list_str z' t' pl.isList (by omega)
      | @lst p' xs' es a' b' =>
        obtain rfl : v = Value.ref p' := ry
        by_cases hp : p = p'
        · subst hp
          rw [decide_eq_true (DV.fn I _ (Nat.le_refl _) (.lst a b) (.lst a' b'))]
          exact SeqAt.EqAt.same _
        · obtain ⟨its', r', pl', hz'⟩ := I.list a'
          have l1 := r.length
          have l2 := r'.length
          have l3 := b.length
          have l4 := b'.length
          refine SeqAt.EqAt.of_refs hp ?_
          by_cases hl : ds.length = es.length
          · have key := SeqAt.RcAt.lists (A := A) (e := fun j => decide (ds[j]? = es[j]?)) pl.isList pl'.isList (by rw [List.size_toArray, List.size_toArray]; omega) (by omega) (fun j h1 h2 => ?_)
            · rw [List.size_toArray, show its.length = ds.length by omega, all_range_eq hl] at key
              have e1 : decide (Dt.lst ds = Dt.lst es) = decide (ds = es) := by rw [Bool.eq_iff_iff]; simp
              rw [e1]; exact key
            · have j1 : j < xs.length := by rw [List.size_toArray] at h1; omega
              have j2 : j < xs'.length := by rw [List.size_toArray] at h2; omega
              obtain ⟨w1, q1, g1⟩ := r.get (List.getElem?_eq_getElem j1)
              obtain ⟨w2, q2, g2⟩ := r'.get (List.getElem?_eq_getElem j2)
              obtain ⟨d1, m1, n1⟩ := b.get (List.getElem?_eq_getElem j1)
              obtain ⟨d2, m2, n2⟩ := b'.get (List.getElem?_eq_getElem j2)
              have z1 : its.toArray[j] = w1 := by
                have : its.toArray[j]? = some w1 := by simpa using q1
                rw [Array.getElem?_eq_getElem h1] at this
                exact Option.some.inj this
              have z2 : its'.toArray[j] = w2 := by
                have : its'.toArray[j]? = some w2 := by simpa using q2
                rw [Array.getElem?_eq_getElem h2] at this
                exact Option.some.inj this
              rw [z1, z2, m1, m2]
              have e1 : decide (some d1 = some d2) = decide (d1 = d2) := by rw [Bool.eq_iff_iff]; simp
              rw [e1]
              unfold Dt.dep at hn
              refine ih (Nat.le_trans (Dt.dep_le m1) (by omega)) n1 n2 g1 g2 ?_
              show A.units + 1 + n < cLine
              omega
          · rw [decide_eq_false (by intro q; injection q with q; exact hl (by rw [q]))]
            refine SeqAt.RcAt.lists_lengths pl.isList pl'.isList ?_ (by omega)
            rw [List.size_toArray, List.size_toArray]
            simp; omega
      | @tup p' xs' es a' b' =>
        obtain rfl : v = Value.ref p' := ry
        obtain ⟨its', r', pl', hz'⟩ := I.tuple a'
        rw [decide_eq_false (by simp)]
        exact SeqAt.EqAt.list_tuple pl.isList pl' (by omega)
    | @tup p xs ds a b =>
      obtain rfl : u = Value.ref p := rx
      obtain ⟨its, r, pl, hz⟩ := I.tuple a
      cases h' with
      | non => cases ry; rw [decide_eq_false (by simp)]; exact SeqAt.EqAt.tuple_none pl (by omega)
      | int j => obtain ⟨t', rfl⟩ := ry; rw [decide_eq_false (by simp)]; exact SeqAt.EqAt.tuple_int j t' pl (by omega)
      | str z' => obtain ⟨t', rfl⟩ := ry; rw [decide_eq_false (by simp)]; exact SeqAt.EqAt.tuple_str z' t' pl (by omega)
      | @lst p' xs' es a' b' =>
        obtain rfl : v = Value.ref p' := ry
        obtain ⟨its', r', pl', hz'⟩ := I.list a'
        rw [decide_eq_false (by simp)]
        exact SeqAt.EqAt.tuple_list pl pl'.isList (by omega)
      | @tup p' xs' es a' b' =>
        obtain rfl : v = Value.ref p' := ry
        by_cases hp : p = p'
        · subst hp
          rw [decide_eq_true (DV.fn I _ (Nat.le_refl _) (.tup a b) (.tup a' b'))]
          exact SeqAt.EqAt.same _
        · obtain ⟨its', r', pl', hz'⟩ := I.tuple a'
          have l1 := r.length
          have l2 := r'.length
          have l3 := b.length
          have l4 := b'.length
          refine SeqAt.EqAt.of_refs hp ?_
          have key := SeqAt.RcAt.tuples (A := A) (e := fun j => decide (ds[j]? = es[j]?)) pl pl' (by omega) (fun j h1 h2 => ?_)
          · have e2 : ((List.range (min its.toArray.size its'.toArray.size)).all (fun j => decide (ds[j]? = es[j]?)) && its.toArray.size == its'.toArray.size) = decide (Dt.tup ds = Dt.tup es) := by
              rw [List.size_toArray, List.size_toArray, show its.length = ds.length by omega, show its'.length = es.length by omega]
              by_cases hl : ds.length = es.length
              · rw [← hl, Nat.min_self, all_range_eq hl]
                simp
              · have : (ds.length == es.length) = false := by simpa using hl
                rw [this, Bool.and_false, decide_eq_false (by intro q; injection q with q; exact hl (by rw [q]))]
            rw [e2] at key
            exact key
          · have j1 : j < xs.length := by rw [List.size_toArray] at h1; omega
            have j2 : j < xs'.length := by rw [List.size_toArray] at h2; omega
            obtain ⟨w1, q1, g1⟩ := r.get (List.getElem?_eq_getElem j1)
            obtain ⟨w2, q2, g2⟩ := r'.get (List.getElem?_eq_getElem j2)
            obtain ⟨d1, m1, n1⟩ := b.get (List.getElem?_eq_getElem j1)
            obtain ⟨d2, m2, n2⟩ := b'.get (List.getElem?_eq_getElem j2)
            have z1 : its.toArray[j] = w1 := by
              have : its.toArray[j]? = some w1 := by simpa using q1
              rw [Array.getElem?_eq_getElem h1] at this
              exact Option.some.inj this
            have z2 : its'.toArray[j] = w2 := by
              have : its'.toArray[j]? = some w2 := by simpa using q2
              rw [Array.getElem?_eq_getElem h2] at this
              exact Option.some.inj this
            rw [z1, z2, m1, m2]
            have e1 : decide (some d1 = some d2) = decide (d1 = d2) := by rw [Bool.eq_iff_iff]; simp
            rw [e1]
            unfold Dt.dep at hn
            refine ih (Nat.le_trans (Dt.dep_le m1) (by omega)) n1 n2 g1 g2 ?_
            show A.units + 1 + n < cLine
            omega
end
end L2
namespace L2
open PySem PySem.Spec PyProof.Rows
section
variable {X : Cx} {pins : List (Addr × Obj)} {σ : St} {H : Hp} {s : Shared}
open Classical in
theorem items_eqAt (I : Inv X pins σ H s) {n : Nat} {A : Around} {xs ys : List V} {ds es : List Dt} {its its' : List Value} (hn : Dt.deps ds ≤ n) (b : DVs X.K H xs ds) (b' : DVs X.K H ys es) (r : Vals xs its) (r' : Vals ys its') (hu : A.units + 1 + n < cLine) :
    ∀ j (h1 : j < its.toArray.size) (h2 : j < its'.toArray.size), SeqAt.EqAt A.in1 s its.toArray[j] its'.toArray[j] (decide (ds[j]? = es[j]?)) := fun j h1 h2 => by
  have l1 := r.length
  have l2 := r'.length
  have j1 : j < xs.length := by rw [List.size_toArray] at h1; omega
  have j2 : j < ys.length := by rw [List.size_toArray] at h2; omega
  obtain ⟨w1, q1, g1⟩ := r.get (List.getElem?_eq_getElem j1)
  obtain ⟨w2, q2, g2⟩ := r'.get (List.getElem?_eq_getElem j2)
  obtain ⟨d1, m1, n1⟩ := b.get (List.getElem?_eq_getElem j1)
  obtain ⟨d2, m2, n2⟩ := b'.get (List.getElem?_eq_getElem j2)
  have z1 : its.toArray[j] = w1 := by
    have : its.toArray[j]? = some w1 := by simpa using q1
    rw [Array.getElem?_eq_getElem h1] at this
    exact Option.some.inj this
  have z2 : its'.toArray[j] = w2 := by
    have : its'.toArray[j]? = some w2 := by simpa using q2
    rw [Array.getElem?_eq_getElem h2] at this
    exact Option.some.inj this
  rw [z1, z2, m1, m2]
  have e1 : decide (some d1 = some d2) = decide (d1 = d2) := by rw [Bool.eq_iff_iff]; simp
  rw [e1]
  exact DV.eqAt I n (Nat.le_trans (Dt.dep_le m1) hn) n1 n2 g1 g2 hu
end
section
variable {X : Cx}
def rEqD (K : PySem.W.Frag) (t f : Bool) : R2 := fun x y H Q => ∃ p q xs ys ds es, x = .ref p ∧ y = .ref q ∧ ((SqL K H p xs ∧ SqL K H q ys) ∨ (SqT K H p xs ∧ SqT K H q ys)) ∧ DVs K H xs ds ∧ DVs K H ys es ∧ Dt.deps ds ≤ 8 ∧ (ds = es → Q (.bl t) H) ∧ (ds ≠ es → Q (.bl f) H)
open Classical in
theorem op_eqD (hu : X.A.units + 16 < cLine) : OpR X (compareOp .Eq) (rEqD X.K true false) := by
  intro pins s σ H x y v u Q I rx ry h
  obtain ⟨p, q, xs, ys, ds, es, rfl, rfl, hh, b, b', hd, q1, q2⟩ := h
  cases rx
  cases ry
  have fin : Q (.bl (decide (ds = es))) H := by
    by_cases e : ds = es
    · rw [decide_eq_true e]; exact q1 e
    · rw [decide_eq_false e]; exact q2 e
  have l3 := b.length
  have l4 := b'.length
  rcases hh with ⟨a, a'⟩ | ⟨a, a'⟩
  · obtain ⟨its, r, pl, hz⟩ := I.list a
    obtain ⟨its', r', pl', hz'⟩ := I.list a'
    have l1 := r.length
    have l2 := r'.length
    by_cases hl : ds.length = es.length
    · refine SeqAt.eq_listAt (e := fun j => decide (ds[j]? = es[j]?)) pl.isList pl'.isList (by rw [List.size_toArray, List.size_toArray]; omega) (by omega) (items_eqAt I hd b b' r r' (by omega)) ?_
      rw [List.size_toArray, show its.length = ds.length by omega, all_range_eq hl]
      exact fin_bl I fin rfl
    · refine SeqAt.eq_list_lengthsAt pl.isList pl'.isList (by rw [List.size_toArray, List.size_toArray]; simp; omega) (by omega) ?_
      rw [decide_eq_false (by intro z; exact hl (by rw [z]))] at fin
      exact fin_bl I fin rfl
  · obtain ⟨its, r, pl, hz⟩ := I.tuple a
    obtain ⟨its', r', pl', hz'⟩ := I.tuple a'
    have l1 := r.length
    have l2 := r'.length
    refine SeqAt.eq_tupleAt (e := fun j => decide (ds[j]? = es[j]?)) pl pl' (by omega) (items_eqAt I hd b b' r r' (by omega)) ?_
    have e2 : ((List.range (min its.toArray.size its'.toArray.size)).all (fun j => decide (ds[j]? = es[j]?)) && its.toArray.size == its'.toArray.size) = decide (ds = es) := by
      rw [List.size_toArray, List.size_toArray, show its.length = ds.length by omega, show its'.length = es.length by omega]
      by_cases hl : ds.length = es.length
      · rw [← hl, Nat.min_self, all_range_eq hl]; simp
      · have : (ds.length == es.length) = false := by simpa using hl
        rw [this, Bool.and_false, decide_eq_false (by intro z; exact hl (by rw [z]))]
    rw [e2]
    exact fin_bl I fin rfl
end
end L2
namespace L2
open PySem PySem.Spec PyProof.Rows
theorem bt_len : bootBuiltins "len" = some (.builtin "len") := by decide +kernel
theorem bt_all : bootBuiltins "all" = some (.builtin "all") := by decide +kernel
theorem bt_sum : bootBuiltins "sum" = some (.builtin "sum") := by decide +kernel
theorem bt_isinstance : bootBuiltins "isinstance" = some (.builtin "isinstance") := by decide +kernel
theorem bt_int : bootBuiltins "int" = some (.type "int") := by decide +kernel
theorem bt_bool : bootBuiltins "bool" = some (.type "bool") := by decide +kernel
theorem bt_list : bootBuiltins "list" = some (.type "list") := by decide +kernel
theorem bt_tuple : bootBuiltins "tuple" = some (.type "tuple") := by decide +kernel
theorem bt_range : bootBuiltins "range" = some (.type "range") := by decide +kernel
structure CompS (os : Scope) (N : List Str) (scope : Scope) (x : Str) (N' : List Str) : Prop where
  kind : scope.kind = .function
  nocell : ∀ y ∈ scope.names, y.2 ≠ .cell
  names : ∀ y ∈ scope.names, y.2 = .local → scope.names.lookup y.1 = some .local
  own : ∀ y ∈ scope.names, y.2 = .local → y.1 = x ∨ y.1 = ".0"
  hx : scope.names.lookup x = some .local
  free : ∀ y ∈ scope.names, y.2 = .free → os.names.lookup y.1 = some .cell
  nh : ∀ y ∈ scope.names, y.1 ≠ ".h"
  hN : N' = hidN x N
  nd : N'.Nodup
  n0 : (".0" : Str) ∉ N'
theorem comp_on {X : Cx} {os : Scope} {N : List Str} {scope : Scope} {x : Str} {N' : List Str} (hs : X.env.scope = os) (hN : X.N = N) (c : CompS os N scope x N') : CompScope X scope x N' :=
  ⟨c.kind, c.nocell, c.names, c.own, c.hx, fun y hy hk => by rw [Env.kindOf, hs]; exact c.free y hy hk, c.nh, by rw [hN]; exact c.hN, c.nd, c.n0⟩
structure TFun (K : PySem.W.Frag) (mg : Str → Option Value) (x : Str) (st : Stmt) (ps : List Str) (f : Addr) (fd : FuncData) : Prop where
  fn : Fun K x x st f fd
  mg : mg x = some (.ref f)
  bd : Binds K fd ps []
structure Callee (P : Program) (w : World) (K : PySem.W.Frag) (mg : Str → Option Value) (base : Heap) (k : Nat) (x : Str) (ps : List Str) (sp : Sp) : Prop where
  ex : ∃ f fd, mg x = some (.ref f) ∧ PySem.W.keepIn K (.ref f) = true ∧ Binds K fd ps [] ∧ FnOk P w K mg base CX0 k f fd ps sp
section
variable {P : Program} {w : World} {K : PySem.W.Frag} {mg : Str → Option Value} {base : Heap}
theorem TFun.ok {x : Str} {st : Stmt} {f : Addr} {fd : FuncData} {N ps : List Str} {k : Nat} {sp : Sp} (F : TFun K mg x st ps f fd) (S : FnScope N ps (defScope st)) (len : ∀ vs H Q E, sp vs H Q E → vs.length = ps.length)
    (hbody : ∀ (cdv : Value) (A : Around) (outer : List Env) (s : Shared) (H : Hp) (vs : List V) (Q : VK) (E : XK), Room k (A.deeper (envOfC x (defScope st) s.heap.objs.size f cdv)) → sp vs H Q E →
      ∃ t, PSs (cxOf CX0 P w K mg base N x (defScope st) f cdv A outer s H E).nox (defBody st) t ∧ t { nx := fun _ H' => Q .non H', rt := Q } (start N vs) H) : Callee P w K mg base (k + 1) x ps sp :=
  ⟨f, fd, F.mg, F.fn.kp, F.bd, F.fn.ok S len hbody⟩
theorem Callee.mono {j k : Nat} {x : Str} {ps : List Str} {sp : Sp} (C : Callee P w K mg base j x ps sp) (h : j ≤ k) : Callee P w K mg base k x ps sp :=
  let ⟨f, fd, a, b, c, d⟩ := C.ex
  ⟨f, fd, a, b, c, d.mono h⟩
theorem Callee.imp {k : Nat} {x : Str} {ps : List Str} {sp sp' : Sp} (C : Callee P w K mg base k x ps sp) (h : ∀ vs H Q E, sp' vs H Q E → sp vs H Q E) : Callee P w K mg base k x ps sp' :=
  let ⟨f, fd, a, b, c, d⟩ := C.ex
  ⟨f, fd, a, b, c, d.imp h⟩
end
section
variable {X : Cx} {k : Nat} {x : Str} {ps : List Str} {sp : Sp} {p pos : Pos} {e : Expr} {es : List Expr} {t : TA}
theorem pe_callC (C : Callee X.prog X.w X.K X.mg X.base k x ps sp) (hr : Room k X.A) (hg : Gl X x) (ha : PA X (e :: es) t) (hdb : (x == ("__debug__" : Str)) = false := by decide) (he : starEach (e :: es) X.env = (false, eval e X.env) :: starEach es X.env := by rfl)
    (hpl : (backTo pos (starEach es X.env)).any (·.1) = false := by rfl) : PE X (.Call (.Name x p) (e :: es) [] pos) (tCall sp [] E0 t) := by
  obtain ⟨f, fd, hm, hk, hb, F⟩ := C.ex
  exact pe_call F hr hg hm hk hb .nil pass0 ha hdb he hpl
end
end L2
namespace L2
open PySem PySem.Spec PyProof.Rows
section
variable {κ : Type} [DecidableEq κ]
def valV (kvs : List (κ × V)) (k : κ) : Option V := (kvs.find? fun kv => decide (kv.1 = k)).map (·.2)
def putK (kvs : List (κ × V)) (k : κ) (v : V) : List (κ × V) :=
  if (kvs.any fun kv => decide (kv.1 = k)) = true then kvs.map (fun kv => if kv.1 = k then (kv.1, v) else kv) else kvs ++ [(k, v)]
def dropK (kvs : List (κ × V)) (k : κ) : List (κ × V) := kvs.filter fun kv => decide (kv.1 ≠ k)
theorem valV_pos {p : κ × V} {r : List (κ × V)} {k : κ} (e : p.1 = k) : valV (p :: r) k = some p.2 := by simp [valV, List.find?_cons, e]
theorem valV_neg {p : κ × V} {r : List (κ × V)} {k : κ} (e : ¬ p.1 = k) : valV (p :: r) k = valV r k := by simp [valV, List.find?_cons, e]
theorem valV_any (k : κ) : ∀ kvs : List (κ × V), (kvs.any fun kv => decide (kv.1 = k)) = (valV kvs k).isSome
  | [] => rfl
  | p :: r => by
    rw [List.any_cons]
    by_cases e : p.1 = k
    · simp only [valV_pos e, decide_eq_true e, Bool.true_or, Option.isSome_some]
    · rw [valV_neg e, decide_eq_false e, Bool.false_or]; exact valV_any k r
theorem length_putK (kvs : List (κ × V)) (k : κ) (v : V) : (putK kvs k v).length ≤ kvs.length + 1 := by
  unfold putK
  split
  · rw [List.length_map]; omega
  · rw [List.length_append, List.length_cons, List.length_nil]; omega
theorem RelO.isSome_eq {o : Option V} {u : Option Value} (r : RelO o u) : o.isSome = u.isSome := by
  cases o with
  | none => cases u with
    | none => rfl
    | some _ => exact (show False from r).elim
  | some _ => cases u with
    | none => exact (show False from r).elim
    | some _ => rfl
theorem RelO.getD {o : Option V} {u : Option Value} {d : V} {d' : Value} (r : RelO o u) (rd : RelV d d') : RelV (o.getD d) (u.getD d') := by
  cases o with
  | none => cases u with
    | none => exact rd
    | some _ => exact (show False from r).elim
  | some _ => cases u with
    | none => exact (show False from r).elim
    | some _ => exact r
theorem KV.val {kvs : List (κ × V)} {vs : List (κ × Value)} (r : KV kvs vs) (k : κ) : RelO (valV kvs k) (valueAt vs k) := by
  unfold KV at r
  induction r with
  | nil => exact True.intro
  | @cons p q ps qs h t ih =>
    obtain ⟨h1, h2⟩ := h
    by_cases e : p.1 = k
    · have e' : q.1 = k := h1.symm.trans e
      have b : valueAt (q :: qs) k = some q.2 := by simp [valueAt, List.find?_cons, e']
      rw [valV_pos e, b]; exact h2
    · have e' : ¬ q.1 = k := fun z => e (h1.trans z)
      have b : valueAt (q :: qs) k = valueAt qs k := by simp [valueAt, List.find?_cons, e']
      rw [valV_neg e, b]; exact ih
theorem KV.any {kvs : List (κ × V)} {vs : List (κ × Value)} (r : KV kvs vs) (k : κ) : (kvs.any fun kv => decide (kv.1 = k)) = vs.any fun kv => decide (kv.1 = k) := by
  unfold KV at r
  induction r with
  | nil => rfl
  | cons h t ih => rw [List.any_cons, List.any_cons, ih, h.1]
theorem KV.repl {kvs : List (κ × V)} {vs : List (κ × Value)} (r : KV kvs vs) (k : κ) {y : V} {u : Value} (ry : RelV y u) :
    KV (kvs.map fun kv => if kv.1 = k then (kv.1, y) else kv) (vs.map fun kv => if kv.1 = k then (kv.1, u) else kv) := by
  unfold KV at r ⊢
  induction r with
  | nil => exact .nil
  | @cons p q ps qs h t ih =>
    rw [List.map_cons, List.map_cons]
    refine .cons ?_ ih
    obtain ⟨h1, h2⟩ := h
    by_cases e : p.1 = k
    · rw [if_pos e, if_pos (h1.symm.trans e)]; exact ⟨h1, ry⟩
    · rw [if_neg e, if_neg (fun z => e (h1.trans z))]; exact ⟨h1, h2⟩
theorem KV.put {kvs : List (κ × V)} {vs : List (κ × Value)} (r : KV kvs vs) (k : κ) {y : V} {u : Value} (ry : RelV y u) : KV (putK kvs k y) (stored vs k u) := by
  unfold putK stored
  rw [r.any k]
  by_cases e : (vs.any fun kv => decide (kv.1 = k)) = true
  · rw [if_pos e, if_pos e]; exact r.repl k ry
  · rw [if_neg e, if_neg e]; exact Paired.snoc r ⟨rfl, ry⟩
theorem KV.drop {kvs : List (κ × V)} {vs : List (κ × Value)} (r : KV kvs vs) (k : κ) : KV (dropK kvs k) (without vs k) := by
  unfold KV at r ⊢
  unfold dropK without
  induction r with
  | nil => exact .nil
  | @cons p q ps qs h t ih =>
    obtain ⟨h1, h2⟩ := h
    rw [List.filter_cons, List.filter_cons]
    by_cases e : p.1 = k
    · have a : ¬ decide (p.1 ≠ k) = true := by simp [e]
      have b : ¬ decide (q.1 ≠ k) = true := by simp [h1.symm.trans e]
      rw [if_neg a, if_neg b]; exact ih
    · have e' : ¬ q.1 = k := fun z => e (h1.trans z)
      have a : decide (p.1 ≠ k) = true := by simp [e]
      have b : decide (q.1 ≠ k) = true := by simp [e']
      rw [if_pos a, if_pos b]; exact .cons ⟨h1, h2⟩ ih
theorem KV.keys {kvs : List (κ × V)} {vs : List (κ × Value)} (r : KV kvs vs) : kvs.map (·.1) = vs.map (·.1) := by
  unfold KV at r
  induction r with
  | nil => rfl
  | cons h t ih => rw [List.map_cons, List.map_cons, ih, h.1]
theorem KV.length {kvs : List (κ × V)} {vs : List (κ × Value)} (r : KV kvs vs) : kvs.length = vs.length := Paired.length r
end
theorem kV_is {P : Program} {w : World} {k : Key} {u : Value} (r : RelV (kV k) u) : (mixKind P w).is k u = true := by
  cases k with
  | inl i => obtain ⟨t, e⟩ := (show ∃ t, u = Value.int i t from r); subst e; exact mixKind_int P w i t
  | inr x => obtain ⟨t, e⟩ := (show ∃ t, u = Value.str x t from r); subst e; exact mixKind_str P w x t
theorem items_are {P : Program} {w : World} : ∀ {ks : List Key} {us : List Value}, Vals (ks.map kV) us → ItemsAre (mixKind P w) ks us
  | [], _, r => by rw [List.map_nil] at r; cases r; exact .nil
  | k :: ks, _, r => by
    rw [List.map_cons] at r
    cases r with
    | cons h t => exact .cons (kV_is h) (items_are t)
abbrev KT (H : Hp) : List (List Key × V) → List (List Key × Addr × Value) → Prop := Paired fun p q => p.1 = q.1 ∧ H q.2.1 = some (.tup (p.1.map kV)) ∧ RelV p.2 q.2.2
theorem KT.val {H : Hp} {kvs : List (List Key × V)} {xs : List (List Key × Addr × Value)} (r : KT H kvs xs) (k : List Key) : RelO (valV kvs k) ((atKey xs k).map (·.2)) := by
  induction r with
  | nil => exact True.intro
  | @cons p q ps qs h t ih =>
    obtain ⟨h1, _, h2⟩ := h
    by_cases e : p.1 = k
    · have e' : q.1 = k := h1.symm.trans e
      have b : atKey (q :: qs) k = some q.2 := by simp [atKey, List.find?_cons, e']
      rw [valV_pos e, b]; exact h2
    · have e' : ¬ q.1 = k := fun z => e (h1.trans z)
      have b : atKey (q :: qs) k = atKey qs k := by simp [atKey, List.find?_cons, e']
      rw [valV_neg e, b]; exact ih
theorem KT.repl {H : Hp} {kvs : List (List Key × V)} {xs : List (List Key × Addr × Value)} (r : KT H kvs xs) (k : List Key) {y : V} {u : Value} (ry : RelV y u) :
    KT H (kvs.map fun kv => if kv.1 = k then (kv.1, y) else kv) (xs.map (putAt k u)) := by
  induction r with
  | nil => exact .nil
  | @cons p q ps qs h t ih =>
    rw [List.map_cons, List.map_cons]
    refine .cons ?_ ih
    obtain ⟨h1, h2, h3⟩ := h
    unfold putAt
    by_cases e : p.1 = k
    · rw [if_pos e, if_pos (h1.symm.trans e)]; exact ⟨h1, h2, ry⟩
    · rw [if_neg e, if_neg (fun z => e (h1.trans z))]; exact ⟨h1, h2, h3⟩
theorem KT.put {H : Hp} {kvs : List (List Key × V)} {xs : List (List Key × Addr × Value)} (r : KT H kvs xs) (k : List Key) {b : Addr} {y : V} {u : Value} (hb : H b = some (.tup (k.map kV))) (ry : RelV y u) :
    KT H (putK kvs k y) (storedH xs k b u) := by
  have e : (kvs.any fun kv => decide (kv.1 = k)) = (atKey xs k).isSome := by
    rw [valV_any, (r.val k).isSome_eq, Option.isSome_map]
  unfold putK storedH
  rw [e]
  by_cases q : (atKey xs k).isSome = true
  · rw [if_pos q, if_pos q]; exact r.repl k ry
  · rw [if_neg q, if_neg q]; exact Paired.snoc r ⟨rfl, hb, ry⟩
theorem KT.keeps {H H' : Hp} {kvs : List (List Key × V)} {xs : List (List Key × Addr × Value)} (r : KT H kvs xs) (ht : ∀ b ys, H b = some (.tup ys) → H' b = some (.tup ys)) : KT H' kvs xs :=
  Paired.mapP r fun _ _ z => ⟨z.1, ht _ _ z.2.1, z.2.2⟩
section
variable {P : Program} {w : World} {H : Hp} {h : Heap} {a : Addr}
theorem rd_of {u : HO} (ok : HOk P w H h) (e : Rd H a u) : ObjOk P w H h a u := e.ok ok
theorem dk_rd {kvs : List (Key × V)} (ok : HOk P w H h) (e : Rd H a (.dK kvs)) : kvs.length ≤ sizeLine ∧ (a == sysModules) = false ∧ ∃ vs, KV kvs vs ∧ h.DictOf (mixKind P w) a vs :=
  show ObjOk P w H h a (.dK kvs) from rd_of ok e
theorem dk_of {kvs : List (Key × V)} (ok : HOk P w H h) (e : H a = some (.dK kvs)) : kvs.length ≤ sizeLine ∧ (a == sysModules) = false ∧ ∃ vs, KV kvs vs ∧ h.DictOf (mixKind P w) a vs := dk_rd ok (.inl e)
theorem key_of {ks : List Key} (ok : HOk P w H h) (e : H a = some (.tup (ks.map kV))) : (tupleKind (mixKind P w)).is h ks a := by
  obtain ⟨_, its, r, o, h1, h2, n, h3⟩ := (show ObjOk P w H h a (.tup (ks.map kV)) from ok a _ e)
  exact ⟨o, its.toArray, n, h1, h2, h3, by simpa using items_are r⟩
theorem dt_rd {kvs : List (List Key × V)} (ok : HOk P w H h) (e : Rd H a (.dT kvs)) : kvs.length ≤ sizeLine ∧ (a == sysModules) = false ∧
    ∃ xs, KT H kvs xs ∧ h.DictOfH (tupleKind (mixKind P w)) a xs := by
  obtain ⟨z, y, xs, r, o, es, ep, h1, h2, h3, h4, h5⟩ := (show ObjOk P w H h a (.dT kvs) from rd_of ok e)
  refine ⟨z, y, xs, r, o, es, ep, h1, h2, h3, h4, fun x hx => ?_, h5⟩
  have all : ∀ {l : List (List Key × V)} {m : List (List Key × Addr × Value)}, KT H l m → ∀ x ∈ m, (tupleKind (mixKind P w)).is h x.1 x.2.1 := by
    intro l m q
    induction q with
    | nil => intro x hx; exact nomatch hx
    | @cons p q ps qs hq t ih =>
      intro x hx
      rcases List.mem_cons.mp hx with e | hx
      · subst e
        exact key_of ok (by rw [← hq.1]; exact hq.2.1)
      · exact ih x hx
  exact all r x hx
end
def DGet (H : Hp) (a : Addr) (y : V) (r : Option V) : Prop :=
  (∃ kvs k, Rd H a (.dK kvs) ∧ y = kV k ∧ r = valV kvs k) ∨ ∃ kvs k b, Rd H a (.dT kvs) ∧ y = .ref b ∧ H b = some (.tup (k.map kV)) ∧ r = valV kvs k
def DPut (H : Hp) (a : Addr) (y v : V) (H' : Hp) : Prop :=
  (∃ kvs k, H a = some (.dK kvs) ∧ y = kV k ∧ kvs.length < sizeLine ∧ H' = upd H a (.dK (putK kvs k v))) ∨
  ∃ kvs k b, H a = some (.dT kvs) ∧ y = .ref b ∧ H b = some (.tup (k.map kV)) ∧ kvs.length < sizeLine ∧ H' = upd H a (.dT (putK kvs k v))
theorem DGet.k {H : Hp} {a : Addr} {kvs : List (Key × V)} {k : Key} (e : H a = some (.dK kvs)) : DGet H a (kV k) (valV kvs k) := .inl ⟨kvs, k, .inl e, rfl, rfl⟩
theorem DGet.t {H : Hp} {a b : Addr} {kvs : List (List Key × V)} {k : List Key} (e : H a = some (.dT kvs)) (eb : H b = some (.tup (k.map kV))) : DGet H a (.ref b) (valV kvs k) := .inr ⟨kvs, k, b, .inl e, rfl, eb, rfl⟩
theorem DPut.k {H : Hp} {a : Addr} {kvs : List (Key × V)} {k : Key} {v : V} (e : H a = some (.dK kvs)) (hl : kvs.length < sizeLine) : DPut H a (kV k) v (upd H a (.dK (putK kvs k v))) := .inl ⟨kvs, k, e, rfl, hl, rfl⟩
theorem DPut.t {H : Hp} {a b : Addr} {kvs : List (List Key × V)} {k : List Key} {v : V} (e : H a = some (.dT kvs)) (eb : H b = some (.tup (k.map kV))) (hl : kvs.length < sizeLine) :
    DPut H a (.ref b) v (upd H a (.dT (putK kvs k v))) := .inr ⟨kvs, k, b, e, rfl, eb, hl, rfl⟩
section
variable {X : Cx} {pins : List (Addr × Obj)} {σ : St} {H : Hp} {s : Shared} {a : Addr} {y v : V} {u r : Value} {o : Option V} {A : Around} {E : Value → Shared → Prop}
theorem Inv.big (I : Inv X pins σ H s) : sysModules < s.heap.objs.size := by
  have h : mainGlobals < s.heap.objs.size := (I.mod.glob.keeps I.bk).lt
  exact Nat.lt_trans (by decide) h
theorem d_write {h' : Heap} {t' : Nat} {ob : HO} (I : Inv X pins σ H s) (mu : Mut (H a)) (hs : Heap.SameBut a s.heap h') (he : ∃ q, h'.get? a = some q) (new : ObjOk X.prog X.w (upd H a ob) h' a ob) :
    Inv X pins σ (upd H a ob) { s with heap := h', toks := t' } :=
  I.write (x := a) (e := a) mu (.inl rfl) (fun b q hb z => (hs.2 b hb).trans z) he new
theorem dk_new {P : Program} {w : World} {H' : Hp} {h' : Heap} {kvs : List (Key × V)} {vs : List (Key × Value)} (z : kvs.length ≤ sizeLine) (hd : (a == sysModules) = false) (rel : KV kvs vs) (dd : h'.DictOf (mixKind P w) a vs) :
    ObjOk P w H' h' a (.dK kvs) := ⟨z, hd, vs, rel, dd⟩
end
section
variable {X : Cx} {pins : List (Addr × Obj)} {σ : St} {H : Hp} {s : Shared} {a : Addr} {kvs : List (Key × V)} {k : Key} {u : Value} {A : Around} {E : Value → Shared → Prop}
end
section
variable {X : Cx} {o i e value : Expr} {pos pos' tpos : Pos} {td ty tv : TE}
end
theorem dk_empty {P : Program} {w : World} {H : Hp} (h : Heap) (hb : sysModules < h.objs.size) : ObjOk P w H (h.push { cls := .type "dict", data := .dict #[] }) h.objs.size (.dK []) :=
  ⟨Nat.zero_le _, beq_eq_false_iff_ne.mpr (Ne.symm (Nat.ne_of_lt hb)), [], .nil, Heap.DictOf.new h⟩
section
variable {X : Cx} {pos : Pos}
end
def tPairs : List (TE × TE) → St → Hp → (List (V × V) → Hp → Prop) → Prop
  | [], _, H, Q => Q [] H
  | (tk, tv) :: r, σ, H, Q => tk σ H fun x H1 => tv σ H1 fun y H2 => tPairs r σ H2 fun ps H3 => Q ((x, y) :: ps) H3
abbrev VV : List (V × V) → List (Value × Value) → Prop := Paired fun p q => RelV p.1 q.1 ∧ RelV p.2 q.2
def PPs (X : Cx) (pos : Pos) (keys : List (Option Expr)) (values : List Expr) (trs : List (TE × TE)) : Prop :=
  ∀ (pins : List (Addr × Obj)) (s : Shared) (σ : St) (H : Hp) (Q : List (V × V) → Hp → Prop), Inv X pins σ H s → tPairs trs σ H Q →
    wpAny (model X.prog X.w) X.A (evalPairs (pairTrees keys values X.env pos)) (fun vs s' => ∃ ps H', Inv X pins σ H' s' ∧ VV ps vs ∧ Q ps H') X.xe s
theorem pps_nil {X : Cx} {pos : Pos} : PPs X pos [] [] [] := fun pins s σ H Q I h => pairTrees_nil_walk ⟨[], H, I, .nil, h⟩
theorem pps_cons {X : Cx} {pos : Pos} {k v : Expr} {ks : List (Option Expr)} {vs : List Expr} {tk tv : TE} {trs : List (TE × TE)} (hk : PE X k tk) (hv : PE X v tv) (hr : PPs X pos ks vs trs) :
    PPs X pos (some k :: ks) (v :: vs) ((tk, tv) :: trs) := fun pins s σ H Q I h =>
  pairTrees_cons_walk (thn (hk pins s σ H _ I h) fun u s1 ⟨x, H1, I1, rx, q1⟩ => thn (hv pins s1 σ H1 _ I1 q1) fun w2 s2 ⟨y, H2, I2, ry, q2⟩ =>
    thn (hr pins s2 σ H2 _ I2 q2) fun ws s3 ⟨ps, H3, I3, rel, q3⟩ => ⟨(x, y) :: ps, H3, I3, .cons ⟨rx, ry⟩ rel, q3⟩)
def mergeK (kvs more : List (Key × V)) : List (Key × V) := more.foldl (fun acc kv => putK acc kv.1 kv.2) kvs
theorem KV.merge : ∀ {more : List (Key × V)} {rs : List (Key × Value)} {kvs : List (Key × V)} {vs : List (Key × Value)}, KV more rs → KV kvs vs → KV (mergeK kvs more) (merged vs rs) := by
  intro more rs kvs vs r
  unfold KV at r
  induction r generalizing kvs vs with
  | nil => intro q; exact q
  | @cons p q ps qs h t ih =>
    intro r0
    have e : KV (putK kvs p.1 p.2) (stored vs q.1 q.2) := by
      have := r0.put p.1 h.2
      rw [← h.1]; exact this
    exact ih e
theorem length_mergeK : ∀ (more kvs : List (Key × V)), (mergeK kvs more).length ≤ kvs.length + more.length
  | [], kvs => by show kvs.length ≤ kvs.length + 0; omega
  | p :: r, kvs => by
    have h1 := length_mergeK r (putK kvs p.1 p.2)
    have h2 := length_putK kvs p.1 p.2
    show (mergeK (putK kvs p.1 p.2) r).length ≤ _
    rw [List.length_cons]; omega
theorem carries_of {P : Program} {w : World} : ∀ {kvs : List (Key × V)} {ws : List (Value × Value)}, VV (kvs.map fun kv => (kV kv.1, kv.2)) ws → ∃ rs, Carries (mixKind P w) ws rs ∧ KV kvs rs
  | [], _, r => by rw [List.map_nil] at r; cases r; exact ⟨[], True.intro, .nil⟩
  | p :: kvs, _, r => by
    rw [List.map_cons] at r
    cases r with
    | @cons a b as bs h t =>
      obtain ⟨rs, c, q⟩ := carries_of (P := P) (w := w) t
      obtain ⟨b1, b2⟩ := b
      exact ⟨(p.1, b2) :: rs, ⟨kV_is h.1, rfl, c⟩, .cons ⟨rfl, h.2⟩ q⟩
def tDisp (trs : List (TE × TE)) : TE := fun σ H Q => ∀ p, H p = none → tPairs trs σ (upd H p (.dK [])) fun ps H2 => H2 p = some (.dK []) ∧ ∃ kvs : List (Key × V), ps = kvs.map (fun kv => (kV kv.1, kv.2)) ∧ kvs.length ≤ 15 ∧ Q (.ref p) (upd H2 p (.dK (mergeK [] kvs)))
theorem pe_disp {X : Cx} {pos : Pos} {keys : List (Option Expr)} {values : List Expr} {trs : List (TE × TE)} (h : PPs X pos keys values trs) (hall : keys.all (·.isSome) = true) (hl : keys.length = values.length) (h0 : keys ≠ [])
    (h15 : keys.length ≤ 15) : PE X (.Dict keys values pos) (tDisp trs) := by
  intro pins s σ H Q I q
  have hn := I.hok.fresh (Nat.le_refl s.heap.objs.size)
  have I1 := I.laid (a := s.heap.objs.size) (o := .dK []) (h' := s.heap.push { cls := .type "dict", data := .dict #[] }) (t' := s.toks) (fun _ _ q => Heap.get?_push_of_some _ q) (Nat.le_refl _) (dk_empty s.heap I.big)
  refine wpAny_Dict_walk (knd := mixKind X.prog X.w) hall hl h0 h15 (thn (h pins _ σ _ _ I1 (q _ hn)) fun ws s2 ⟨ps, H2, I2, rel, e, kvs, ep, lk, q2⟩ => ?_)
  subst ep
  obtain ⟨rs, c, rk⟩ := carries_of (P := X.prog) (w := X.w) rel
  obtain ⟨z, hd, vs0, r0, dd⟩ := dk_of I2.hok e
  cases r0
  refine ⟨rs, c, dd, fun h' dd' hs => ⟨.ref s.heap.objs.size, _, ?_, rfl, q2⟩⟩
  have hz : (mergeK [] kvs).length ≤ sizeLine := by
    have h1 := length_mergeK kvs []
    rw [List.length_nil] at h1
    rw [sizeLine_eq]; omega
  have he : ∃ q, h'.get? s.heap.objs.size = some q := let ⟨q, _, _, hq, _⟩ := dd'; ⟨q, hq⟩
  exact d_write I2 (by rw [e]; exact True.intro) hs he (dk_new hz hd (rk.merge .nil) dd')
structure M2 (X : Cx) (o : Expr) (m : Str) (apos : Pos) (e f : Expr) (cpos : Pos) : Prop where
  base : attributeBase o m X.env (eval o X.env) = eval o X.env
  few : ((backTo cpos (starEach [e, f] X.env)).all (fun x => !x.1) && (backToKw cpos (keywordEach [] X.env)).all (fun x => x.1.isSome)
    && decide (([e, f] : List Expr).length + ([] : List Keyword).length + (if ([] : List Keyword).isEmpty then 0 else 1) < 30)) = true
  line : (apos.endLine == cpos.line) = true
  trees : backTo cpos (starEach [e, f] X.env) = [(false, eval e X.env), (false, eval f X.env)]
def IsD (H : Hp) (a : Addr) : Prop := (∃ kvs, Rd H a (.dK kvs)) ∨ ∃ kvs, Rd H a (.dT kvs)
theorem isD_at {X : Cx} {pins : List (Addr × Obj)} {σ : St} {H : Hp} {s : Shared} {a : Addr} (I : Inv X pins σ H s) (d : IsD H a) :
    s.TypeIs (.ref a) "dict" ∧ (∀ b, Value.ref a = .ref b → ∃ ob, s.heap.get? b = some ob ∧ ob.dict = none) ∧ (a == sysModules) = false := by
  rcases d with ⟨kvs, e⟩ | ⟨kvs, e⟩
  · obtain ⟨_, hd, vs, _, dd⟩ := dk_rd I.hok e
    refine ⟨dd.typeIs, fun b q => ?_, hd⟩
    cases q
    obtain ⟨ob, _, _, h1, h2, _⟩ := dd
    exact ⟨ob, h1, h2.2.1⟩
  · obtain ⟨_, hd, xs, _, dd⟩ := dt_rd I.hok e
    refine ⟨dd.typeIs, fun b q => ?_, hd⟩
    cases q
    obtain ⟨ob, _, _, h1, h2, _⟩ := dd
    exact ⟨ob, h1, h2.2.1⟩
section
variable {X : Cx} {pins : List (Addr × Obj)} {σ : St} {H : Hp} {s : Shared} {a : Addr} {y d : V} {u r : Value} {o : Option V} {A : Around} {E : Value → Shared → Prop}
theorem d_get2 {Q : Value → Shared → Prop} (hu : A.units + 1 < cLine) (I : Inv X pins σ H s) (g : DGet H a y o) (ry : RelV y u) (rd : RelV d r) (h : ∀ w' s', Inv X pins σ H s' → RelV (o.getD d) w' → Q w' s') :
    wpAny (model X.prog X.w) A (call (.builtin "dict.get") [.ref a, u, r]) Q E s := by
  rcases g with ⟨kvs, k, e, ey, l⟩ | ⟨kvs, k, b, e, ey, eb, l⟩
  · subst ey
    obtain ⟨z, hd, vs, rel, dd⟩ := dk_rd I.hok e
    refine call_meetsIn PySem.F.slot_dict_get dd.typeIs PySem.F.entry_dict_get (PySem.F.args_dict_get_3 _ _ _) (meets_dict_get_default (mixKind X.prog X.w) a (kV_is ry) hd r) ⟨_, dd.mapOf, h _ _ (I.tok _) ?_⟩
    rw [l]
    exact (rel.val k).getD rd
  · subst ey
    cases (show u = Value.ref b from ry)
    obtain ⟨z, hd, xs, rel, dd⟩ := dt_rd I.hok e
    refine call_meetsIn PySem.F.slot_dict_get dd.typeIs PySem.F.entry_dict_get (PySem.F.args_dict_get_3 _ _ _) (meetsH_dict_get_default (tupleKind (mixKind X.prog X.w)) a b hd r) ⟨tupleKind_room_in1 hu, k, xs, key_of I.hok eb, dd, h _ _ (I.tok _) ?_⟩
    rw [l]
    exact (rel.val k).getD rd
end
def tDGet2 (td ty tx : TE) : TE := fun σ H Q => td σ H fun x H1 => ∃ a, x = .ref a ∧ IsD H1 a ∧ ty σ H1 fun y H2 => tx σ H2 fun z H3 => ∃ o, DGet H3 a y o ∧ Q (o.getD z) H3
section
variable {X : Cx} {o e f : Expr} {apos cpos : Pos} {td ty tx : TE}
theorem pe_dget2 (hu : X.A.units + 1 < cLine) (ho : PE X o td) (he : PE X e ty) (hf : PE X f tx) (m : M2 X o "get" apos e f cpos) : PE X (.Call (.Attribute o "get" apos) [e, f] [] cpos) (tDGet2 td ty tx) := by
  intro pins s σ H Q I h
  refine wpAny_Call_method m.base m.few m.line PySem.F.plainAttrs_dict PySem.F.slot_dict_get PySem.F.type_dict_get (thn (ho pins s σ H _ I h) fun u s1 ⟨x, H1, I1, rx, a, ex, d, q1⟩ => ?_)
  subst ex
  obtain rfl : u = Value.ref a := rx
  obtain ⟨t1, t2, _⟩ := isD_at I1 d
  refine ⟨t1, t2, ?_⟩
  rw [m.trees]
  refine Calls.callWith_builtin rfl (Calls.evalArgs_plain (Calls.spliced_cons (thn (he pins s1 σ H1 _ I1 q1) fun iv s2 ⟨y, H2, I2, ry, q2⟩ =>
    Calls.spliced_cons (thn (hf pins s2 σ H2 _ I2 q2) fun fv s3 ⟨z, H3, I3, rz, ov, g, q3⟩ => Calls.spliced_nil ?_))))
  exact d_get2 hu I3 g ry rz fun w' s4 I4 rw' => ⟨_, H3, I4, rw', q3⟩
end
section
variable {X : Cx} {pins : List (Addr × Obj)} {σ : St} {H : Hp} {s : Shared} {a : Addr} {kvs : List (Key × V)} {A : Around} {E : Value → Shared → Prop}
end
section
variable {X : Cx} {pins : List (Addr × Obj)} {σ : St} {H : Hp} {s : Shared} {a : Addr} {y : V} {u : Value} {A : Around} {E : Value → Shared → Prop}
end
end L2
namespace L2
open PySem PySem.Spec PyProof.Rows
theorem bt_ord : bootBuiltins "ord" = some (.builtin "ord") := by decide +kernel
def Const (mg : Str → Option Value) (x : Str) (v : V) : Prop := ∃ u, mg x = some u ∧ RelV v u
theorem pe_const {X : Cx} {x : Str} {v : V} {pos : Pos} (hg : Gl X x) (c : Const X.mg x v) (hd : (x == ("__debug__" : Str)) = false := by decide) : PE X (.Name x pos) (tC v) := by
  obtain ⟨u, h, r⟩ := c
  exact pe_glob hg h r hd
structure MFun (K : PySem.W.Frag) (C : Addr) (m qual : Str) (st : Stmt) (ps : List Str) : Prop where
  cl : Cls K C
  ex : ∃ f fd, Fun K m qual st f fd ∧ Meth K C m f ∧ Binds K fd ps []
structure MOk (P : Program) (w : World) (K : PySem.W.Frag) (mg : Str → Option Value) (base : Heap) (k : Nat) (C : Addr) (m : Str) (ps : List Str) (sp : Sp) : Prop where
  cl : Cls K C
  ex : ∃ f fd, Meth K C m f ∧ Binds K fd ps [] ∧ FnOk P w K mg base CX0 k f fd ps sp
structure CFun (K : PySem.W.Frag) (mg : Str → Option Value) (x : Str) (C : Addr) (qual : Str) (st : Stmt) (ps : List Str) : Prop where
  cl : Cls K C
  hmg : mg x = some (.ref C)
  ex : ∃ f fd, Fun K "__init__" qual st f fd ∧ Mk K C f ∧ Binds K fd ps []
structure COk (P : Program) (w : World) (K : PySem.W.Frag) (mg : Str → Option Value) (base : Heap) (k : Nat) (x : Str) (C : Addr) (ps : List Str) (sp : Sp) : Prop where
  hmg : mg x = some (.ref C)
  ex : ∃ f fd, Mk K C f ∧ Binds K fd ps [] ∧ FnOk P w K mg base CX0 k f fd ps sp
section
variable {P : Program} {w : World} {K : PySem.W.Frag} {mg : Str → Option Value} {base : Heap}
theorem MFun.ok {C : Addr} {m qual : Str} {st : Stmt} {N ps : List Str} {k : Nat} {sp : Sp} (F : MFun K C m qual st ps) (S : FnScope N ps (defScope st)) (len : ∀ vs H Q E, sp vs H Q E → vs.length = ps.length)
    (hbody : ∀ (f : Addr) (cdv : Value) (A : Around) (outer : List Env) (s : Shared) (H : Hp) (vs : List V) (Q : VK) (E : XK), Room k (A.deeper (envOfC qual (defScope st) s.heap.objs.size f cdv)) → sp vs H Q E →
      ∃ t, PSs (cxOf CX0 P w K mg base N qual (defScope st) f cdv A outer s H E).nox (defBody st) t ∧ t { nx := fun _ H' => Q .non H', rt := Q } (start N vs) H) : MOk P w K mg base (k + 1) C m ps sp :=
  let ⟨f, fd, a, b, c⟩ := F.ex
  ⟨F.cl, f, fd, b, c, a.ok S len (hbody f)⟩
theorem CFun.ok {x : Str} {C : Addr} {qual : Str} {st : Stmt} {N ps : List Str} {k : Nat} {sp : Sp} (F : CFun K mg x C qual st ps) (S : FnScope N ps (defScope st)) (len : ∀ vs H Q E, sp vs H Q E → vs.length = ps.length)
    (hbody : ∀ (f : Addr) (cdv : Value) (A : Around) (outer : List Env) (s : Shared) (H : Hp) (vs : List V) (Q : VK) (E : XK), Room k (A.deeper (envOfC qual (defScope st) s.heap.objs.size f cdv)) → sp vs H Q E →
      ∃ t, PSs (cxOf CX0 P w K mg base N qual (defScope st) f cdv A outer s H E).nox (defBody st) t ∧ t { nx := fun _ H' => Q .non H', rt := Q } (start N vs) H) : COk P w K mg base (k + 1) x C ps sp :=
  let ⟨f, fd, a, b, c⟩ := F.ex
  ⟨F.hmg, f, fd, b, c, a.ok S len (hbody f)⟩
structure DFun (K : PySem.W.Frag) (mg : Str → Option Value) (x : Str) (st : Stmt) (ps : List Str) : Prop where
  ex : ∃ f fd, TFun K mg x st ps f fd
theorem DFun.ok {x : Str} {st : Stmt} {N ps : List Str} {k : Nat} {sp : Sp} (F : DFun K mg x st ps) (S : FnScope N ps (defScope st)) (len : ∀ vs H Q E, sp vs H Q E → vs.length = ps.length)
    (hbody : ∀ (f : Addr) (cdv : Value) (A : Around) (outer : List Env) (s : Shared) (H : Hp) (vs : List V) (Q : VK) (E : XK), Room k (A.deeper (envOfC x (defScope st) s.heap.objs.size f cdv)) → sp vs H Q E →
      ∃ t, PSs (cxOf CX0 P w K mg base N x (defScope st) f cdv A outer s H E).nox (defBody st) t ∧ t { nx := fun _ H' => Q .non H', rt := Q } (start N vs) H) : Callee P w K mg base (k + 1) x ps sp :=
  let ⟨f, fd, a⟩ := F.ex
  a.ok S len (hbody f)
theorem MOk.mono {j k : Nat} {C : Addr} {m : Str} {ps : List Str} {sp : Sp} (M : MOk P w K mg base j C m ps sp) (h : j ≤ k) : MOk P w K mg base k C m ps sp :=
  let ⟨f, fd, a, b, c⟩ := M.ex
  ⟨M.cl, f, fd, a, b, c.mono h⟩
theorem MOk.imp {k : Nat} {C : Addr} {m : Str} {ps : List Str} {sp sp' : Sp} (M : MOk P w K mg base k C m ps sp) (h : ∀ vs H Q E, sp' vs H Q E → sp vs H Q E) : MOk P w K mg base k C m ps sp' :=
  let ⟨f, fd, a, b, c⟩ := M.ex
  ⟨M.cl, f, fd, a, b, c.imp h⟩
theorem COk.mono {j k : Nat} {x : Str} {C : Addr} {ps : List Str} {sp : Sp} (M : COk P w K mg base j x C ps sp) (h : j ≤ k) : COk P w K mg base k x C ps sp :=
  let ⟨f, fd, a, b, c⟩ := M.ex
  ⟨M.hmg, f, fd, a, b, c.mono h⟩
end
section
variable {X : Cx} {k : Nat} {x m : Str} {C : Addr} {ps : List Str} {sp : Sp} {p pos apos : Pos} {o e : Expr} {es : List Expr} {ta : TE} {t : TA}
theorem pe_methC (M : MOk X.prog X.w X.K X.mg X.base k C m ps sp) (hr : Room k X.A) (he : PE X o ta) (ha : PA X (e :: es) t) {pl : Sem Bool}
    (hst : starEach (e :: es) X.env = (false, eval e X.env) :: starEach es X.env := by rfl) (hpl : (backTo pos (starEach es X.env)).any (·.1) = false := by rfl)
    (ht : eval (.Call (.Attribute o m apos) (e :: es) [] pos) X.env = (do
      let ov ← eval o X.env
      standAt apos.atName
      let (f, first) ← holding [ov] (getMethod ov m pl)
      callWith pos f first (backTo pos (starEach (e :: es) X.env)) (backToKw pos (keywordEach [] X.env))) := by rfl) :
    PE X (.Call (.Attribute o m apos) (e :: es) [] pos) (tMeth C m sp [] E0 ta t) :=
  let ⟨_, _, a, b, c⟩ := M.ex
  pe_meth (pl := pl) he M.cl a c hr b .nil pass0 ha hst hpl ht
theorem pe_methC0 (M : MOk X.prog X.w X.K X.mg X.base k C m ps sp) (hr : Room k X.A) (he : PE X o ta) {pl : Sem Bool}
    (ht : eval (.Call (.Attribute o m apos) [] [] pos) X.env = (do
      let ov ← eval o X.env
      standAt apos.atName
      let (f, first) ← holding [ov] (getMethod ov m pl)
      callWith pos f first (backTo pos (starEach [] X.env)) (backToKw pos (keywordEach [] X.env))) := by rfl) :
    PE X (.Call (.Attribute o m apos) [] [] pos) (tMeth C m sp [] E0 ta tNil) :=
  let ⟨_, _, a, b, c⟩ := M.ex
  pe_meth0 (pl := pl) he M.cl a c hr b .nil pass0 ht
def tMethF {ι : Type} (C : ι → Addr) (m : Str) (sp : ι → Sp) (ta : TE) (t : TA) : TE := fun σ H Q => ta σ H fun x H1 => ∃ i a dx fs, x = .ref a ∧ H1 a = some (.ins (C i) dx fs) ∧ fs.lookup m = none ∧
  t σ H1 fun vs H2 => sp i (x :: (vs ++ [])) H2 Q E0
theorem pe_methF {ι : Type} {C : ι → Addr} {sp : ι → Sp} (M : ∀ i, MOk X.prog X.w X.K X.mg X.base k (C i) m ps (sp i)) (hr : Room k X.A) (he : PE X o ta) (ha : PA X (e :: es) t) {pl : Sem Bool}
    (hst : starEach (e :: es) X.env = (false, eval e X.env) :: starEach es X.env := by rfl) (hpl : (backTo pos (starEach es X.env)).any (·.1) = false := by rfl)
    (ht : eval (.Call (.Attribute o m apos) (e :: es) [] pos) X.env = (do
      let ov ← eval o X.env
      standAt apos.atName
      let (f, first) ← holding [ov] (getMethod ov m pl)
      callWith pos f first (backTo pos (starEach (e :: es) X.env)) (backToKw pos (keywordEach [] X.env))) := by rfl) :
    PE X (.Call (.Attribute o m apos) (e :: es) [] pos) (tMethF C m sp ta t) := by
  intro pins s σ H Q I h
  refine PySem.W.methodCall_KW (pl := pl) (thn (he pins s σ H _ I h) fun u s1 ⟨x, H1, I1, rx, i, a, dx, fs, ex, ea, l, q⟩ => ?_) ht
  subst ex
  obtain rfl : u = Value.ref a := rx
  obtain ⟨f, fd, hm, hb, F⟩ := (M i).ex
  refine getmeth_ok I1 ea (M i).cl hm l ?_
  refine PySem.W.callWith_K (first := [.ref a]) (h₀ := X.base) I.ok.mod.kin hm.kp (thn (ha pos pins s1 σ H1 _ I1 q) fun us s2 ⟨vs, H2, I2, r, q2⟩ => ⟨I2.kIn, ?_⟩) hst hpl
  exact run_fn (us := .ref a :: us) (vs := .ref a :: vs) F hr hb .nil pass0 I2 (.cons rfl r) q2
theorem pe_methF0 {ι : Type} {C : ι → Addr} {sp : ι → Sp} (M : ∀ i, MOk X.prog X.w X.K X.mg X.base k (C i) m ps (sp i)) (hr : Room k X.A) (he : PE X o ta) {pl : Sem Bool}
    (ht : eval (.Call (.Attribute o m apos) [] [] pos) X.env = (do
      let ov ← eval o X.env
      standAt apos.atName
      let (f, first) ← holding [ov] (getMethod ov m pl)
      callWith pos f first (backTo pos (starEach [] X.env)) (backToKw pos (keywordEach [] X.env))) := by rfl) :
    PE X (.Call (.Attribute o m apos) [] [] pos) (tMethF C m sp ta tNil) := by
  intro pins s σ H Q I h
  refine PySem.W.methodCall_KW (pl := pl) (thn (he pins s σ H _ I h) fun u s1 ⟨x, H1, I1, rx, i, a, dx, fs, ex, ea, l, q⟩ => ?_) ht
  subst ex
  obtain rfl : u = Value.ref a := rx
  obtain ⟨f, fd, hm, hb, F⟩ := (M i).ex
  refine getmeth_ok I1 ea (M i).cl hm l ?_
  exact PySem.W.callWith_K0 (first := [.ref a]) I1.kIn hm.kp (run_fn (us := [.ref a]) (vs := [.ref a]) F hr hb .nil pass0 I1 (.cons rfl .nil) q)
theorem pe_makeC (M : COk X.prog X.w X.K X.mg X.base k x C ps sp) (hr : Room (k + 1) X.A) (hg : Gl X x) (ha : PA X (e :: es) t) (hdb : (x == ("__debug__" : Str)) = false := by decide)
    (he : starEach (e :: es) X.env = (false, eval e X.env) :: starEach es X.env := by rfl) (hpl : (backTo pos (starEach es X.env)).any (·.1) = false := by rfl) :
    PE X (.Call (.Name x p) (e :: es) [] pos) (tMake C sp [] E0 t) :=
  let ⟨_, _, a, b, c⟩ := M.ex
  pe_make a c hr hg M.hmg b .nil pass0 ha hdb he hpl
theorem pe_makeC0 (M : COk X.prog X.w X.K X.mg X.base k x C ps sp) (hr : Room (k + 1) X.A) (hg : Gl X x) (hdb : (x == ("__debug__" : Str)) = false := by decide) :
    PE X (.Call (.Name x p) [] [] pos) (tMake C sp [] E0 tNil) :=
  let ⟨_, _, a, b, c⟩ := M.ex
  pe_make0 a c hr hg M.hmg b .nil pass0 hdb
end
section
variable {X : Cx} {K : PySem.W.Frag}
theorem ix_listK (h : X.K = K) : IxR X (rIxL K) := h ▸ ix_list
theorem op_in_seqK (h : X.K = K) : OpR X (compareOp .In) (rIn K false) := h ▸ op_in_seq
end
theorem putF_nil {f : Str} {v : V} : putF f v [] = [(f, v)] := rfl
theorem putF_hd {f : Str} {v w : V} {r : List (Str × V)} : putF f v ((f, w) :: r) = (f, v) :: r := by unfold putF; rw [if_pos rfl]
theorem putF_tl {f g : Str} {v w : V} {r r' : List (Str × V)} (h : ¬ g = f) (e : putF f v r = r') : putF f v ((g, w) :: r) = (g, w) :: r' := by unfold putF; rw [if_neg h, e]
theorem lk_hd {f : Str} {v : V} {r : List (Str × V)} : ((f, v) :: r).lookup f = some v := by rw [List.lookup_cons, beq_self_eq_true]
theorem lk_tl {f g : Str} {v : V} {r : List (Str × V)} {o : Option V} (h : ¬ g = f) (e : r.lookup f = o) : ((g, v) :: r).lookup f = o := by
  rw [List.lookup_cons, show (f == g) = false from beq_eq_false_iff_ne.mpr (Ne.symm h)]; exact e
theorem lk_nil {f : Str} : ([] : List (Str × V)).lookup f = none := rfl
section
variable {K : PySem.W.Frag} {mg : Str → Option Value} {h : Heap}
theorem dfun_mk {x : Str} {st : Stmt} {ps : List Str} {f : Addr} {oc : Value} {od an : Option Addr} {osl : Array (Option Value)} {kV doc pm cdv ct : Value} (X : K.In h) (G : h.Ns mainGlobals mg)
    (a : PySem.W.nsIn K mainGlobals x = some (some (.ref f))) (l : K.lookup f = some ⟨oc, od, .func (PySem.W.fnOf x x (defArgs st) (defBody st) (defScope st) .none kV doc pm an cdv ct), osl⟩) (c : PySem.W.codeIn K cdv x = true) (k : PySem.W.keepIn K (.ref f) = true)
    (b : ∀ (kV doc pm : Value) (an : Option Addr) (cdv ct : Value) (us : List Value), us.length = ps.length → bindArgs (PySem.W.fnOf x x (defArgs st) (defBody st) (defScope st) .none kV doc pm an cdv ct) ⟨us, []⟩ = pure (ps.zip us)) : DFun K mg x st ps :=
  have F := fun_mk (st := st) l c k
  ⟨f, _, F, PySem.W.mg_of X G a, F.binds b⟩
theorem cfun_mk {x : Str} {C : Addr} {qual : Str} {st : Stmt} {ps : List Str} {f : Addr} {oc : Value} {od an : Option Addr} {osl : Array (Option Value)} {kV doc pm cdv ct : Value} (X : K.In h) (G : h.Ns mainGlobals mg) (cl : Cls K C)
    (aC : PySem.W.nsIn K mainGlobals x = some (some (.ref C))) (a : PySem.W.findIn K (.ref C) "__init__" = some (some (.ref f))) (i : PySem.W.isFn K (.ref f) = true)
    (l : K.lookup f = some ⟨oc, od, .func (PySem.W.fnOf "__init__" qual (defArgs st) (defBody st) (defScope st) .none kV doc pm an cdv ct), osl⟩) (c : PySem.W.codeIn K cdv qual = true) (k : PySem.W.keepIn K (.ref f) = true)
    (mk : PySem.W.makesIn K C = true) (kc : PySem.W.keepIn K (.ref C) = true)
    (b : ∀ (kV doc pm : Value) (an : Option Addr) (cdv ct : Value) (us : List Value), us.length = ps.length → bindArgs (PySem.W.fnOf "__init__" qual (defArgs st) (defBody st) (defScope st) .none kV doc pm an cdv ct) ⟨us, []⟩ = pure (ps.zip us)) : CFun K mg x C qual st ps :=
  have F := fun_mk (st := st) l c k
  ⟨cl, PySem.W.mg_of X G aC, f, _, F, ⟨mk, a, i, kc⟩, F.binds b⟩
theorem mfun_mk {m : Str} {C : Addr} {qual : Str} {st : Stmt} {ps : List Str} {f : Addr} {oc : Value} {od an : Option Addr} {osl : Array (Option Value)} {kV doc pm cdv ct : Value} (cl : Cls K C)
    (a : PySem.W.findIn K (.ref C) m = some (some (.ref f))) (i : PySem.W.isFn K (.ref f) = true)
    (l : K.lookup f = some ⟨oc, od, .func (PySem.W.fnOf m qual (defArgs st) (defBody st) (defScope st) .none kV doc pm an cdv ct), osl⟩) (c : PySem.W.codeIn K cdv qual = true) (k : PySem.W.keepIn K (.ref f) = true)
    (b : ∀ (kV doc pm : Value) (an : Option Addr) (cdv ct : Value) (us : List Value), us.length = ps.length → bindArgs (PySem.W.fnOf m qual (defArgs st) (defBody st) (defScope st) .none kV doc pm an cdv ct) ⟨us, []⟩ = pure (ps.zip us)) : MFun K C m qual st ps :=
  have F := fun_mk (st := st) l c k
  ⟨cl, f, _, F, ⟨a, i, k⟩, F.binds b⟩
theorem const_mk {x : Str} {v : V} {u : Value} (X : K.In h) (G : h.Ns mainGlobals mg) (a : PySem.W.nsIn K mainGlobals x = some (some u)) (r : RelV v u) : Const mg x v := ⟨u, PySem.W.mg_of X G a, r⟩
end
end L2
namespace Fm
def IsB (x : Int) : Prop := 0 ≤ x ∧ x < 256
def AllB (xs : List Int) : Prop := ∀ x ∈ xs, 0 ≤ x ∧ x < 256
theorem AllB.nil : AllB [] := fun _ h => nomatch h
theorem AllB.cons {x xs} : AllB (x :: xs) ↔ IsB x ∧ AllB xs := by simp [AllB, IsB]
theorem AllB.append {xs ys} : AllB (xs ++ ys) ↔ AllB xs ∧ AllB ys := by
  simp only [AllB, List.mem_append]
  exact ⟨fun h => ⟨fun x hx => h x (.inl hx), fun x hx => h x (.inr hx)⟩, fun h x hx => hx.elim (h.1 x) (h.2 x)⟩
abbrev Stp (S : Type) := S → Int → Option (S × List Int)
def run {S : Type} (f : Stp S) : S → List Int → Option (S × List Int)
  | s, [] => some (s, [])
  | s, y :: ys => (f s y).bind fun (s', o) => (run f s' ys).bind fun (s'', o') => some (s'', o ++ o')
theorem run_cons {S} {f : Stp S} {s s' y ys o} (h : f s y = some (s', o)) : run f s (y :: ys) = (run f s' ys).bind fun p => some (p.1, o ++ p.2) := by
  simp [run, h]
theorem run_cons_some {S} {f : Stp S} {s s' s'' y ys o o'} (h : f s y = some (s', o)) (h' : run f s' ys = some (s'', o')) : run f s (y :: ys) = some (s'', o ++ o') := by
  rw [run_cons h, h']; rfl
theorem run_inv {S} {f : Stp S} {s s'' y ys o''} (h : run f s (y :: ys) = some (s'', o'')) : ∃ s' o o', f s y = some (s', o) ∧ run f s' ys = some (s'', o') ∧ o'' = o ++ o' := by
  unfold run at h
  cases e : f s y with
  | none => rw [e] at h; cases h
  | some p =>
    obtain ⟨s', o⟩ := p
    rw [e] at h
    simp only [Option.bind_some] at h
    cases e' : run f s' ys with
    | none => rw [e'] at h; cases h
    | some q =>
      obtain ⟨a, o'⟩ := q
      rw [e'] at h
      simp only [Option.bind_some, Option.some.injEq, Prod.mk.injEq] at h
      exact ⟨s', o, o', rfl, by rw [e', h.1], h.2.symm⟩
theorem run_append {S} {f : Stp S} : ∀ {s xs ys}, run f s (xs ++ ys) = (run f s xs).bind fun p => (run f p.1 ys).bind fun q => some (q.1, p.2 ++ q.2)
  | s, [], ys => by
    simp only [List.nil_append, run, Option.bind_some]
    cases run f s ys <;> rfl
  | s, x :: xs, ys => by
    simp only [List.cons_append, run]
    cases e : f s x with
    | none => rfl
    | some p =>
      simp only [Option.bind_some]
      rw [run_append]
      cases e1 : run f p.1 xs with
      | none => rfl
      | some q =>
        simp only [Option.bind_some]
        cases e2 : run f q.1 ys with
        | none => rfl
        | some r => simp [List.append_assoc]
theorem run_append_some {S} {f : Stp S} {s s1 s2 xs ys o1 o2} (h1 : run f s xs = some (s1, o1)) (h2 : run f s1 ys = some (s2, o2)) : run f s (xs ++ ys) = some (s2, o1 ++ o2) := by
  rw [run_append, h1]; simp [h2]
theorem run_split {S} {f : Stp S} {s s2 xs ys o} (h : run f s (xs ++ ys) = some (s2, o)) : ∃ s1 o1 o2, run f s xs = some (s1, o1) ∧ run f s1 ys = some (s2, o2) ∧ o = o1 ++ o2 := by
  rw [run_append] at h
  cases e : run f s xs with
  | none => rw [e] at h; cases h
  | some p =>
    rw [e] at h
    simp only [Option.bind_some] at h
    cases e' : run f p.1 ys with
    | none => rw [e'] at h; cases h
    | some q =>
      rw [e'] at h
      simp only [Option.bind_some, Option.some.injEq, Prod.mk.injEq] at h
      exact ⟨p.1, p.2, q.2, rfl, by rw [e', ← h.1], h.2.symm⟩
end Fm
namespace Fm
inductive End where
  | ok (out : List Int) | cut | bad
  deriving DecidableEq
def addW (key : List Int) : Stp Nat := fun t b => some ((t + 1) % key.length, [(b + key.getD t 0) % 256])
def addR (key : List Int) : Stp Nat := fun t b => some ((t + 1) % key.length, [(b - key.getD t 0) % 256])
theorem add_sync (key : List Int) : ∀ (xs : List Int) (t : Nat), AllB xs → ∃ t' o, run (addW key) t xs = some (t', o) ∧ AllB o ∧ run (addR key) t o = some (t', xs)
  | [], t, _ => ⟨t, [], rfl, AllB.nil, rfl⟩
  | x :: xs, t, h => by
    obtain ⟨hx, hxs⟩ := AllB.cons.mp h
    obtain ⟨t', o, h1, h2, h3⟩ := add_sync key xs ((t + 1) % key.length) hxs
    have e : ((x + key.getD t 0) % 256 - key.getD t 0) % 256 = x := by
      unfold IsB at hx; omega
    refine ⟨t', (x + key.getD t 0) % 256 :: o, run_cons_some rfl h1, AllB.cons.mpr ⟨⟨by omega, by omega⟩, h2⟩, ?_⟩
    have := run_cons_some (f := addR key) (s := t) (y := (x + key.getD t 0) % 256) rfl h3
    rw [e] at this
    exact this
def frontW : Stp (List Int) := fun row b => some (b :: row.eraseIdx (row.idxOf b), [((row.idxOf b : Nat) : Int)])
def frontR : Stp (List Int) := fun row y => (row[y.toNat]?).map fun b => (b :: row.eraseIdx y.toNat, [b])
structure RowOk (row : List Int) : Prop where
  len : row.length = 256
  nd : row.Nodup
  all : ∀ b, IsB b ↔ b ∈ row
theorem eraseIdx_mem {α} {l : List α} {i : Nat} {x : α} (h : l[i]? = some x) (nd : l.Nodup) (y : α) : y ∈ l.eraseIdx i ↔ y ∈ l ∧ y ≠ x := by
  induction l generalizing i with
  | nil => simp at h
  | cons a l ih =>
    obtain ⟨h1, h2⟩ := List.nodup_cons.mp nd
    cases i with
    | zero =>
      simp at h; subst h
      simp only [List.eraseIdx_zero, List.tail_cons, List.mem_cons]
      constructor
      · intro hy; exact ⟨.inr hy, fun e => h1 (e ▸ hy)⟩
      · rintro ⟨e | hy, hn⟩
        · exact absurd e hn
        · exact hy
    | succ i =>
      simp at h
      simp only [List.eraseIdx_cons_succ, List.mem_cons, ih h h2]
      constructor
      · rintro (rfl | ⟨hy, hn⟩)
        · exact ⟨.inl rfl, fun e => h1 (e ▸ List.mem_of_getElem? h)⟩
        · exact ⟨.inr hy, hn⟩
      · rintro ⟨rfl | hy, hn⟩
        · exact .inl rfl
        · exact .inr ⟨hy, hn⟩
theorem eraseIdx_nodup {α} {l : List α} {i : Nat} (nd : l.Nodup) : (l.eraseIdx i).Nodup := nd.sublist (List.eraseIdx_sublist l i)
theorem RowOk.front {row : List Int} (r : RowOk row) {i : Nat} {b : Int} (h : row[i]? = some b) : RowOk (b :: row.eraseIdx i) := by
  have hi : i < row.length := (List.getElem?_eq_some_iff.mp h).1
  refine ⟨?_, ?_, fun y => ?_⟩
  · rw [List.length_cons, List.length_eraseIdx_of_lt hi, r.len]
  · refine List.nodup_cons.mpr ⟨fun hb => ?_, eraseIdx_nodup r.nd⟩
    exact ((eraseIdx_mem h r.nd b).mp hb).2 rfl
  · rw [r.all y, List.mem_cons, eraseIdx_mem h r.nd]
    constructor
    · intro hy
      by_cases e : y = b
      · exact .inl e
      · exact .inr ⟨hy, e⟩
    · rintro (rfl | hy)
      · exact List.mem_of_getElem? h
      · exact hy.1
def row0 : List Int := (List.range 256).map fun i : Nat => (i : Int)
theorem row0_ok : RowOk row0 := by
  refine ⟨by simp [row0], ?_, fun b => ?_⟩
  · unfold row0
    refine List.pairwise_map.mpr (List.nodup_range.imp ?_)
    intro a b h e; exact h (by omega)
  · simp only [row0, List.mem_map, List.mem_range, IsB]
    constructor
    · intro h; exact ⟨b.toNat, by omega, by omega⟩
    · rintro ⟨i, h, rfl⟩; omega
theorem RowOk.idx {row : List Int} (r : RowOk row) {b : Int} (hb : IsB b) : row.idxOf b < 256 ∧ row[row.idxOf b]? = some b := by
  have hm := (r.all b).mp hb
  have hl := List.idxOf_lt_length_of_mem hm
  refine ⟨r.len ▸ hl, ?_⟩
  rw [List.getElem?_eq_getElem hl, List.getElem_idxOf]
theorem RowOk.idxOf {row : List Int} (r : RowOk row) {i : Nat} {b : Int} (h : row[i]? = some b) : row.idxOf b = i := by
  obtain ⟨hi, e⟩ := List.getElem?_eq_some_iff.mp h
  have hb : IsB b := (r.all b).mpr (List.mem_of_getElem? h)
  obtain ⟨h1, h2⟩ := r.idx hb
  obtain ⟨h3, e2⟩ := List.getElem?_eq_some_iff.mp h2
  exact (List.getElem_inj r.nd).mp (e2.trans e.symm)
theorem front_sync : ∀ (xs : List Int) (row : List Int), RowOk row → AllB xs → ∃ row' o, RowOk row' ∧ run frontW row xs = some (row', o) ∧ AllB o ∧ run frontR row o = some (row', xs)
  | [], row, r, _ => ⟨row, [], r, rfl, AllB.nil, rfl⟩
  | x :: xs, row, r, h => by
    obtain ⟨hx, hxs⟩ := AllB.cons.mp h
    obtain ⟨h1, h2⟩ := r.idx hx
    obtain ⟨row', o, r', a1, a2, a3⟩ := front_sync xs _ (r.front h2) hxs
    refine ⟨row', _ :: o, r', run_cons_some rfl a1, AllB.cons.mpr ⟨⟨by omega, by omega⟩, a2⟩, ?_⟩
    refine run_cons_some (f := frontR) (o := [x]) ?_ a3
    simp [frontR, h2]
end Fm
namespace Fm
def nb (b : Int) (k : Int) : Int := (b + k) % 256
def escW (b : Int) : Stp Unit := fun _ x => some ((), if x = b then [nb b 1, nb b 2] else if x = nb b 1 then [nb b 1, nb b 3] else [x])
def escR (b : Int) : Stp Bool := fun m y => if m then (if y = nb b 2 then some (false, [b]) else if y = nb b 3 then some (false, [nb b 1]) else none)
  else if y = b then none else if y = nb b 1 then some (true, []) else some (false, [y])
theorem nb_ne {b : Int} (hb : IsB b) : nb b 1 ≠ b ∧ nb b 2 ≠ nb b 3 ∧ IsB (nb b 1) ∧ IsB (nb b 2) ∧ IsB (nb b 3) := by
  unfold IsB at *; unfold nb; omega
theorem esc_sync {b : Int} (hb : IsB b) : ∀ (xs : List Int), AllB xs → ∃ o, run (escW b) () xs = some ((), o) ∧ AllB o ∧ run (escR b) false o = some (false, xs)
  | [], _ => ⟨[], rfl, AllB.nil, rfl⟩
  | x :: xs, h => by
    obtain ⟨hx, hxs⟩ := AllB.cons.mp h
    obtain ⟨o, h1, h2, h3⟩ := esc_sync hb xs hxs
    obtain ⟨n1, n2, b1, b2, b3⟩ := nb_ne hb
    by_cases e1 : x = b
    · refine ⟨nb b 1 :: nb b 2 :: o, run_cons_some (o := [nb b 1, nb b 2]) (by simp [escW, e1]) h1, AllB.cons.mpr ⟨b1, AllB.cons.mpr ⟨b2, h2⟩⟩, ?_⟩
      refine run_cons_some (s' := true) (o := []) (by simp [escR, n1]) (run_cons_some (s' := false) (o := [b]) (by simp [escR]) h3) |>.trans (by simp [e1])
    · by_cases e2 : x = nb b 1
      · refine ⟨nb b 1 :: nb b 3 :: o, run_cons_some (o := [nb b 1, nb b 3]) (by simp [escW, e1, e2, n1]) h1, AllB.cons.mpr ⟨b1, AllB.cons.mpr ⟨b3, h2⟩⟩, ?_⟩
        refine run_cons_some (s' := true) (o := []) (by simp [escR, n1]) (run_cons_some (s' := false) (o := [nb b 1]) (by simp [escR, n2.symm]) h3) |>.trans (by simp [e2])
      · refine ⟨x :: o, run_cons_some (o := [x]) (by simp [escW, e1, e2]) h1, AllB.cons.mpr ⟨hx, h2⟩, ?_⟩
        exact run_cons_some (s' := false) (o := [x]) (by simp [escR, e1, e2]) h3
def rcl (c : Nat) (v : Int) : List Int := if c = 0 then [] else [(c : Int), v]
def runsW : Stp (Nat × Int) := fun (c, v) x =>
  let c1 := if x = v then c else 0
  let t1 := if x = v then [] else rcl c v
  if c1 + 1 = 255 then some ((0, x), t1 ++ [255, x]) else some ((c1 + 1, x), t1)
def runsR : Stp (Nat × Option Int) := fun (c, bar) y =>
  if c = 0 then (if y = 0 then none else some ((y.toNat, bar), []))
  else if bar = some y then none else some ((0, if c = 255 then none else some y), List.replicate c y)
structure RunI (c : Nat) (v : Int) (bar : Option Int) : Prop where
  lt : c < 255
  z : c = 0 → bar = none
  p : 0 < c → bar ≠ some v
theorem runs_pair {c : Nat} {v : Int} {bar : Option Int} (h0 : 0 < c) (hb : bar ≠ some v) : run runsR (0, bar) [(c : Int), v] = some ((0, if c = 255 then none else some v), List.replicate c v) := by
  have e1 : runsR (0, bar) (c : Int) = some ((c, bar), []) := by simp [runsR]; omega
  have e2 : runsR (c, bar) v = some ((0, if c = 255 then none else some v), List.replicate c v) := by
    simp only [runsR]; rw [if_neg (by omega), if_neg hb]
  exact (run_cons_some e1 (run_cons_some e2 rfl)).trans (by simp)
theorem runs_sync : ∀ (xs : List Int) (c : Nat) (v : Int) (bar : Option Int), RunI c v bar → AllB xs → IsB v → ∃ c' v' bar' o t, run runsW (c, v) xs = some ((c', v'), o) ∧ run runsR (0, bar) o = some ((0, bar'), t) ∧
    List.replicate c v ++ xs = t ++ List.replicate c' v' ∧ RunI c' v' bar' ∧ AllB o ∧ IsB v'
  | [], c, v, bar, i, _, hv => ⟨c, v, bar, [], [], rfl, rfl, by simp, i, AllB.nil, hv⟩
  | x :: xs, c, v, bar, i, h, hv => by
    obtain ⟨hx, hxs⟩ := AllB.cons.mp h
    obtain ⟨lt, z, p⟩ := i
    by_cases e : x = v
    · subst e
      by_cases f : c + 1 = 255
      · obtain ⟨c', v', bar', o, t, h1, h2, h3, h4, h5, h6⟩ := runs_sync xs 0 x none ⟨by omega, fun _ => rfl, by omega⟩ hxs hx
        have hc : 0 < c := by omega
        refine ⟨c', v', bar', 255 :: x :: o, List.replicate 255 x ++ t, run_cons_some (o := [255, x]) (by simp [runsW, f]) h1, ?_, ?_, h4, AllB.cons.mpr ⟨⟨by omega, by omega⟩, AllB.cons.mpr ⟨hx, h5⟩⟩, h6⟩
        · have q := runs_pair (c := 255) (v := x) (bar := bar) (by omega) (p hc)
          rw [if_pos rfl] at q
          exact run_append_some q h2
        · simp only [List.replicate_zero, List.nil_append] at h3
          rw [h3, ← f, List.replicate_succ']
          simp [List.append_assoc, ← h3]
      · obtain ⟨c', v', bar', o, t, h1, h2, h3, h4, h5, h6⟩ := runs_sync xs (c + 1) x bar ⟨by omega, by omega, fun _ => by
          by_cases hc : 0 < c
          · exact p hc
          · rw [z (by omega)]; simp⟩ hxs hx
        refine ⟨c', v', bar', o, t, ?_, h2, ?_, h4, h5, h6⟩
        · exact (run_cons_some (o := []) (by simp [runsW, f]) h1).trans (by simp)
        · rw [← h3, List.replicate_succ']; simp
    · by_cases hc : 0 < c
      · obtain ⟨c', v', bar', o, t, h1, h2, h3, h4, h5, h6⟩ := runs_sync xs 1 x (some v) ⟨by omega, by omega, fun _ => by simp; exact fun q => e q.symm⟩ hxs hx
        have hv' : IsB ((c : Nat) : Int) := ⟨by omega, by omega⟩
        refine ⟨c', v', bar', (c : Int) :: v :: o, List.replicate c v ++ t, run_cons_some (o := [(c : Int), v]) (by simp [runsW, e, rcl]; omega) h1, ?_, ?_, h4, AllB.cons.mpr ⟨hv', AllB.cons.mpr ⟨hv, h5⟩⟩, h6⟩
        · have q := runs_pair (c := c) (v := v) (bar := bar) hc (p hc)
          rw [if_neg (by omega)] at q
          simpa using run_append_some q h2
        · rw [List.append_assoc, ← h3]; simp
      · have c0 : c = 0 := by omega
        subst c0
        have b0 := z rfl
        subst b0
        obtain ⟨c', v', bar', o, t, h1, h2, h3, h4, h5, h6⟩ := runs_sync xs 1 x none ⟨by omega, by omega, fun _ => by simp⟩ hxs hx
        refine ⟨c', v', bar', o, t, ?_, h2, ?_, h4, h5, h6⟩
        · exact (run_cons_some (o := []) (by simp [runsW, e, rcl]) h1).trans (by simp)
        · rw [← h3]; simp
theorem runs_end {c : Nat} {v : Int} {bar : Option Int} (i : RunI c v bar) : ∃ bar', run runsR (0, bar) (rcl c v) = some ((0, bar'), List.replicate c v) := by
  by_cases hc : c = 0
  · subst hc; exact ⟨bar, by simp [rcl, run]⟩
  · exact ⟨_, by rw [rcl, if_neg hc]; exact runs_pair (by omega) (i.p (by omega))⟩
end Fm
namespace Fm
def chW (n : Nat) : Stp (List Int) := fun w x => if w.length + 1 < n then some (w ++ [x], []) else some ([], ((w.length + 1 : Nat) : Int) :: (w ++ [x]))
def chR (n : Nat) : Stp (Nat × Bool) := fun (left, last) y => if 0 < left then some ((left - 1, last), [y]) else if last = true ∨ (n : Int) < y then none else some ((y.toNat, decide (y < (n : Int))), [])
theorem chR_more {n : Nat} {last : Bool} : ∀ (xs : List Int) (left : Nat), xs.length ≤ left → run (chR n) (left, last) xs = some ((left - xs.length, last), xs)
  | [], left, _ => by simp [run]
  | x :: xs, left, h => by
    simp only [List.length_cons] at h
    have q := chR_more (n := n) (last := last) xs (left - 1) (by omega)
    refine (run_cons_some (o := [x]) (s' := (left - 1, last)) (by simp [chR]; omega) q).trans ?_
    simp; omega
theorem ch_sync {n : Nat} (h1 : 1 ≤ n) (hn : n ≤ 255) : ∀ (xs w : List Int), w.length < n → AllB xs → AllB w → ∃ w' o t, run (chW n) w xs = some (w', o) ∧ w'.length < n ∧ AllB w' ∧ AllB o ∧ run (chR n) (0, false) o = some ((0, false), t) ∧ w ++ xs = t ++ w'
  | [], w, hw, _, hb => ⟨w, [], [], rfl, hw, hb, AllB.nil, rfl, by simp⟩
  | x :: xs, w, hw, h, hb => by
    obtain ⟨hx, hxs⟩ := AllB.cons.mp h
    have hwx : AllB (w ++ [x]) := AllB.append.mpr ⟨hb, AllB.cons.mpr ⟨hx, AllB.nil⟩⟩
    by_cases f : w.length + 1 < n
    · obtain ⟨w', o, t, a1, a2, a3, a4, a5, a6⟩ := ch_sync h1 hn xs (w ++ [x]) (by simpa using f) hxs hwx
      exact ⟨w', o, t, (run_cons_some (o := []) (by simp [chW, f]) a1).trans (by simp), a2, a3, a4, a5, by rw [← a6]; simp⟩
    · obtain ⟨w', o, t, a1, a2, a3, a4, a5, a6⟩ := ch_sync h1 hn xs [] (by simp; omega) hxs AllB.nil
      have hl : w.length + 1 = n := by omega
      refine ⟨w', ((w.length + 1 : Nat) : Int) :: (w ++ [x]) ++ o, w ++ [x] ++ t, run_cons_some (by simp [chW, f]) a1, a2, a3, AllB.append.mpr ⟨AllB.cons.mpr ⟨⟨by omega, by omega⟩, hwx⟩, a4⟩, ?_, ?_⟩
      · refine run_append_some (s1 := (0, false)) ?_ a5
        have e : chR n (0, false) ((w.length + 1 : Nat) : Int) = some ((w.length + 1, false), []) := by simp [chR]; omega
        have q := chR_more (n := n) (last := false) (w ++ [x]) (w.length + 1) (by simp)
        refine (run_cons_some e q).trans ?_
        simp
      · simp only [List.nil_append] at a6
        rw [a6]; simp [← a6]
theorem ch_end {n : Nat} {w : List Int} (h : w.length < n) : run (chR n) (0, false) (((w.length : Nat) : Int) :: w) = some ((0, true), w) := by
  have e : chR n (0, false) ((w.length : Nat) : Int) = some ((w.length, true), []) := by simp [chR]; omega
  have q := chR_more (n := n) (last := true) w w.length (Nat.le_refl _)
  refine (run_cons_some e q).trans ?_
  simp
def nxt (c x : Int) : Int := (c * 257 + x + 1) % 65521
def two (c : Int) : List Int := [c / 256, c % 256]
def ckW (n : Nat) : Stp (Nat × Int) := fun (k, c) x => if k + 1 < n then some ((k + 1, nxt c x), [x]) else some ((0, nxt c x), x :: two (nxt c x))
def ckR (n : Nat) : Stp (Int × List Int) := fun (c, w) y => if w.length + 1 < n + 2 then some ((c, w ++ [y]), [])
  else if (w ++ [y]).drop n = two (((w ++ [y]).take n).foldl nxt c) then some ((((w ++ [y]).take n).foldl nxt c, []), (w ++ [y]).take n) else none
def ckE (c : Int) (w : List Int) : End := if w.length < 2 then .cut else if w.drop (w.length - 2) = two ((w.take (w.length - 2)).foldl nxt c) then .ok (w.take (w.length - 2)) else .bad
theorem nxt_le (c x : Int) : 0 ≤ nxt c x ∧ nxt c x < 65521 := by unfold nxt; omega
def CkI (c : Int) : Prop := 0 ≤ c ∧ c < 65521
theorem two_b {c : Int} (h : CkI c) : AllB (two c) := by
  unfold CkI at h
  intro x hx
  simp [two] at hx
  omega
theorem fold_ck {c : Int} (h : CkI c) : ∀ (w : List Int), CkI (w.foldl nxt c)
  | [] => h
  | x :: w => fold_ck (nxt_le c x) w
theorem ckR_wait {n : Nat} {c : Int} : ∀ (xs w : List Int), w.length + xs.length < n + 2 → run (ckR n) (c, w) xs = some ((c, w ++ xs), [])
  | [], w, _ => by simp [run]
  | x :: xs, w, h => by
    simp only [List.length_cons] at h
    have q := ckR_wait (n := n) (c := c) xs (w ++ [x]) (by simp; omega)
    refine (run_cons_some (o := []) (s' := (c, w ++ [x])) (by simp [ckR]; omega) q).trans ?_
    simp
theorem ckR_full {n : Nat} {c : Int} {w : List Int} (h : w.length = n) : run (ckR n) (c, []) (w ++ two (w.foldl nxt c)) = some ((w.foldl nxt c, []), w) := by
  have a := ckR_wait (n := n) (c := c) (w ++ [w.foldl nxt c / 256]) [] (by simp; omega)
  have e : w ++ two (w.foldl nxt c) = (w ++ [w.foldl nxt c / 256]) ++ [w.foldl nxt c % 256] := by simp [two]
  rw [e]
  refine (run_append_some a (s2 := (w.foldl nxt c, [])) (o2 := w) ?_).trans (by simp)
  have l : ckR n (c, w ++ [w.foldl nxt c / 256]) (w.foldl nxt c % 256) = some ((w.foldl nxt c, []), w) := by
    have e2 : (w ++ [w.foldl nxt c / 256] ++ [w.foldl nxt c % 256]).take n = w := by
      rw [List.append_assoc, List.take_append_of_le_length (by omega), List.take_of_length_le (by omega)]
    have e3 : (w ++ [w.foldl nxt c / 256] ++ [w.foldl nxt c % 256]).drop n = two (w.foldl nxt c) := by
      rw [List.append_assoc, List.drop_append_of_le_length (by omega), List.drop_of_length_le (by omega)]
      simp [two]
    simp only [ckR]
    rw [if_neg (by simp; omega), e2, e3, if_pos rfl]
  simp [run, l]
theorem ck_sync {n : Nat} (h1 : 1 ≤ n) : ∀ (xs w : List Int) (c : Int), CkI c → w.length < n → AllB xs → AllB w → ∃ k' cw' c' w' o t, run (ckW n) (w.length, w.foldl nxt c) xs = some ((k', cw'), o) ∧ w'.length = k' ∧ k' < n ∧ cw' = w'.foldl nxt c' ∧ CkI c' ∧ AllB w' ∧ AllB o ∧
    run (ckR n) (c, []) (w ++ o) = some ((c', w'), t) ∧ w ++ xs = t ++ w'
  | [], w, c, hc, hw, _, hb => ⟨w.length, w.foldl nxt c, c, w, [], [], rfl, rfl, hw, rfl, hc, hb, AllB.nil, by simpa using ckR_wait w [] (by simp; omega), by simp⟩
  | x :: xs, w, c, hc, hw, h, hb => by
    obtain ⟨hx, hxs⟩ := AllB.cons.mp h
    have hwx : AllB (w ++ [x]) := AllB.append.mpr ⟨hb, AllB.cons.mpr ⟨hx, AllB.nil⟩⟩
    have ef : nxt (w.foldl nxt c) x = (w ++ [x]).foldl nxt c := by simp
    by_cases f : w.length + 1 < n
    · obtain ⟨k', cw', c', w', o, t, a1, a2, a3, a4, a5, a6, a7, a8, a9⟩ := ck_sync h1 xs (w ++ [x]) c hc (by simpa using f) hxs hwx
      refine ⟨k', cw', c', w', x :: o, t, run_cons_some (o := [x]) (s' := (w.length + 1, nxt (w.foldl nxt c) x)) (by simp [ckW, f]) (by rw [ef]; simpa using a1), a2, a3, a4, a5, a6, AllB.cons.mpr ⟨hx, a7⟩, by simpa using a8, by rw [← a9]; simp⟩
    · have hl : w.length + 1 = n := by omega
      have hc2 : CkI ((w ++ [x]).foldl nxt c) := fold_ck hc _
      obtain ⟨k', cw', c', w', o, t, a1, a2, a3, a4, a5, a6, a7, a8, a9⟩ := ck_sync h1 xs [] ((w ++ [x]).foldl nxt c) hc2 (by simp; omega) hxs AllB.nil
      refine ⟨k', cw', c', w', x :: two ((w ++ [x]).foldl nxt c) ++ o, w ++ [x] ++ t, run_cons_some (s' := (0, (w ++ [x]).foldl nxt c)) (by simp only [ckW]; rw [if_neg f, ef]) (by simpa using a1), a2, a3, a4, a5, a6, ?_, ?_, ?_⟩
      · exact AllB.append.mpr ⟨AllB.cons.mpr ⟨hx, two_b hc2⟩, a7⟩
      · have q := ckR_full (n := n) (c := c) (w := w ++ [x]) (by simpa using hl)
        have := run_append_some q (by simpa using a8)
        simpa [List.append_assoc] using this
      · simp only [List.nil_append] at a9
        rw [a9]; simp [← a9]
theorem ck_end {n : Nat} {c : Int} {w : List Int} (hw : w.length < n) : run (ckR n) (c, w) (two (w.foldl nxt c)) = some ((c, w ++ two (w.foldl nxt c)), []) ∧ ckE c (w ++ two (w.foldl nxt c)) = .ok w := by
  refine ⟨ckR_wait _ _ (by simp [two]; omega), ?_⟩
  have hl : (w ++ two (w.foldl nxt c)).length - 2 = w.length := by simp [two]
  unfold ckE
  rw [hl, List.take_append_of_le_length (Nat.le_refl _), List.take_of_length_le (Nat.le_refl _), List.drop_append_of_le_length (Nat.le_refl _), List.drop_of_length_le (Nat.le_refl _)]
  rw [if_neg (by simp [two])]
  simp
end Fm
namespace Fm
def sgn (v : Int) : Int := if v = 0 then 45 else if v < 11 then 47 + v else if v < 37 then 54 + v else if v = 37 then 95 else 59 + v
def num (y : Int) : Option Int := if y = 45 then some 0 else if 48 ≤ y ∧ y ≤ 57 then some (y - 47) else if 65 ≤ y ∧ y ≤ 90 then some (y - 54) else if y = 95 then some 37 else if 97 ≤ y ∧ y ≤ 122 then some (y - 59) else none
theorem num_sgn {v : Int} (h0 : 0 ≤ v) (h1 : v < 64) : num (sgn v) = some v := by
  unfold num sgn
  repeat' split
  all_goals first | omega | (congr 1; omega)
theorem sgn_b {v : Int} (h0 : 0 ≤ v) (h1 : v < 64) : IsB (sgn v) := by
  unfold IsB sgn
  repeat' split
  all_goals omega
def sgW : Stp (Nat × Int) := fun (k, v) x =>
  if k = 0 then some ((2, x % 4), [sgn (x / 4)])
  else if k = 2 then some ((4, x % 16), [sgn (v * 16 + x / 16)])
  else some ((0, 0), [sgn (v * 4 + x / 64), sgn (x % 64)])
def sgF (k : Nat) (v : Int) : List Int := if k = 0 then [] else if k = 2 then [sgn (v * 16)] else [sgn (v * 4)]
def sgR : Stp (Nat × Int) := fun (k, v) y => (num y).bind fun u =>
  if k = 0 then some ((6, u), []) else if k = 6 then some ((4, u % 16), [v * 4 + u / 16]) else if k = 4 then some ((2, u % 4), [v * 16 + u / 4]) else some ((0, 0), [v * 64 + u])
def sgE (k : Nat) (v : Int) : End := if k = 6 then .cut else if v = 0 then .ok [] else .bad
inductive SgI : Nat → Int → Nat → Int → List Int → Prop
  | z : SgI 0 0 0 0 []
  | two {a b : Int} : 0 ≤ a → a < 64 → 0 ≤ b → b < 4 → SgI 2 b 6 a [a * 4 + b]
  | four {a b : Int} : 0 ≤ a → a < 16 → 0 ≤ b → b < 16 → SgI 4 b 4 a [a * 16 + b]
theorem sgR0 {u : Int} (h0 : 0 ≤ u) (h1 : u < 64) {a : Int} : sgR (0, a) (sgn u) = some ((6, u), []) := by simp [sgR, num_sgn h0 h1]
theorem sgR6 {u : Int} (h0 : 0 ≤ u) (h1 : u < 64) {a : Int} : sgR (6, a) (sgn u) = some ((4, u % 16), [a * 4 + u / 16]) := by simp [sgR, num_sgn h0 h1]
theorem sgR4 {u : Int} (h0 : 0 ≤ u) (h1 : u < 64) {a : Int} : sgR (4, a) (sgn u) = some ((2, u % 4), [a * 16 + u / 4]) := by simp [sgR, num_sgn h0 h1]
theorem sgR2 {u : Int} (h0 : 0 ≤ u) (h1 : u < 64) {a : Int} : sgR (2, a) (sgn u) = some ((0, 0), [a * 64 + u]) := by simp [sgR, num_sgn h0 h1]
theorem run1 {S} {f : Stp S} {s s' y o} (h : f s y = some (s', o)) : run f s [y] = some (s', o) := (run_cons_some h rfl).trans (by simp)
theorem sg_sync : ∀ (xs : List Int) (k : Nat) (b : Int) (j : Nat) (a : Int) (p : List Int), SgI k b j a p → AllB xs → ∃ k' b' j' a' p' o t, run sgW (k, b) xs = some ((k', b'), o) ∧ SgI k' b' j' a' p' ∧ AllB o ∧ run sgR (j, a) o = some ((j', a'), t) ∧ p ++ xs = t ++ p'
  | [], k, b, j, a, p, i, _ => ⟨k, b, j, a, p, [], [], rfl, i, AllB.nil, rfl, by simp⟩
  | x :: xs, k, b, j, a, p, i, h => by
    obtain ⟨hx, hxs⟩ := AllB.cons.mp h
    unfold IsB at hx
    cases i with
    | z =>
      obtain ⟨k', b', j', a', p', o, t, h1, h2, h3, h4, h5⟩ := sg_sync xs 2 (x % 4) 6 (x / 4) _ (.two (by omega) (by omega) (by omega) (by omega)) hxs
      refine ⟨k', b', j', a', p', sgn (x / 4) :: o, t, run_cons_some (o := [sgn (x / 4)]) (by simp [sgW]) h1, h2, AllB.cons.mpr ⟨sgn_b (by omega) (by omega), h3⟩, ?_, ?_⟩
      · exact (run_cons_some (sgR0 (by omega) (by omega)) h4).trans (by simp)
      · rw [← h5]; simp; omega
    | two a0 a1 b0 b1 =>
      have u0 : 0 ≤ b * 16 + x / 16 := by omega
      have u1 : b * 16 + x / 16 < 64 := by omega
      obtain ⟨k', b', j', a', p', o, t, h1, h2, h3, h4, h5⟩ := sg_sync xs 4 (x % 16) 4 ((b * 16 + x / 16) % 16) _ (.four (by omega) (by omega) (by omega) (by omega)) hxs
      refine ⟨k', b', j', a', p', _ :: o, _ :: t, run_cons_some (o := [sgn (b * 16 + x / 16)]) (by simp [sgW]) h1, h2, AllB.cons.mpr ⟨sgn_b u0 u1, h3⟩, run_cons_some (sgR6 u0 u1) h4, ?_⟩
      have e1 : (b * 16 + x / 16) / 16 = b := by omega
      have e2 : (b * 16 + x / 16) % 16 * 16 + x % 16 = x := by omega
      rw [e2] at h5
      simp only [List.singleton_append] at h5 ⊢
      rw [e1, h5]
      simp
    | four a0 a1 b0 b1 =>
      have u0 : 0 ≤ b * 4 + x / 64 := by omega
      have u1 : b * 4 + x / 64 < 64 := by omega
      obtain ⟨k', b', j', a', p', o, t, h1, h2, h3, h4, h5⟩ := sg_sync xs 0 0 0 0 [] .z hxs
      refine ⟨k', b', j', a', p', _ :: _ :: o, _ :: _ :: t, run_cons_some (o := [sgn (b * 4 + x / 64), sgn (x % 64)]) (by simp [sgW]) h1, h2, AllB.cons.mpr ⟨sgn_b u0 u1, AllB.cons.mpr ⟨sgn_b (by omega) (by omega), h3⟩⟩, run_cons_some (sgR4 u0 u1) (run_cons_some (sgR2 (by omega) (by omega)) h4), ?_⟩
      have e1 : (b * 4 + x / 64) / 4 = b := by omega
      have e2 : (b * 4 + x / 64) % 4 * 64 + x % 64 = x := by omega
      simp only [List.nil_append] at h5
      rw [e1, e2, h5]
      simp
theorem sg_end {k : Nat} {b : Int} {j : Nat} {a : Int} {p : List Int} (i : SgI k b j a p) : AllB (sgF k b) ∧ ∃ j' a', run sgR (j, a) (sgF k b) = some ((j', a'), p) ∧ sgE j' a' = .ok [] := by
  cases i with
  | z => exact ⟨AllB.nil, 0, 0, rfl, rfl⟩
  | two a0 a1 b0 b1 =>
    refine ⟨AllB.cons.mpr ⟨sgn_b (by omega) (by omega), AllB.nil⟩, 4, b * 16 % 16, ?_, by simp [sgE]⟩
    have e : b * 16 / 16 = b := by omega
    exact (run1 (sgR6 (by omega) (by omega))).trans (by rw [e])
  | four a0 a1 b0 b1 =>
    refine ⟨AllB.cons.mpr ⟨sgn_b (by omega) (by omega), AllB.nil⟩, 2, b * 4 % 4, ?_, by simp [sgE]⟩
    have e : b * 4 / 4 = b := by omega
    exact (run1 (sgR4 (by omega) (by omega))).trans (by rw [e])
end Fm
namespace Fm
inductive Ly where
  | add (key : List Int) | front | escape (b : Int) | runs | chunks (n : Nat) | checks (n : Nat) | signs
  deriving DecidableEq
def Ly.Ok : Ly → Prop
  | .add key => 1 ≤ key.length ∧ key.length ≤ 8 ∧ AllB key
  | .escape b => IsB b
  | .chunks n => 1 ≤ n ∧ n ≤ 255
  | .checks n => 1 ≤ n ∧ n ≤ 255
  | _ => True
inductive WS where
  | add (key : List Int) (t : Nat) | front (row : List Int) | escape (b : Int) | runs (c : Nat) (v : Int) | chunks (n : Nat) (w : List Int) | checks (n k : Nat) (c : Int) | signs (k : Nat) (v : Int)
inductive RS where
  | add (key : List Int) (t : Nat) | front (row : List Int) | escape (b : Int) (m : Bool) | runs (c : Nat) (bar : Option Int) | chunks (n left : Nat) (last : Bool) | checks (n : Nat) (c : Int) (w : List Int) | signs (k : Nat) (v : Int)
def wst : Ly → WS
  | .add key => .add key 0
  | .front => .front row0
  | .escape b => .escape b
  | .runs => .runs 0 0
  | .chunks n => .chunks n []
  | .checks n => .checks n 0 0
  | .signs => .signs 0 0
def rst : Ly → RS
  | .add key => .add key 0
  | .front => .front row0
  | .escape b => .escape b false
  | .runs => .runs 0 none
  | .chunks n => .chunks n 0 false
  | .checks n => .checks n 0 []
  | .signs => .signs 0 0
def wS : Stp WS
  | .add key t, x => (addW key t x).map fun p => (.add key p.1, p.2)
  | .front row, x => (frontW row x).map fun p => (.front p.1, p.2)
  | .escape b, x => (escW b () x).map fun p => (.escape b, p.2)
  | .runs c v, x => (runsW (c, v) x).map fun p => (.runs p.1.1 p.1.2, p.2)
  | .chunks n w, x => (chW n w x).map fun p => (.chunks n p.1, p.2)
  | .checks n k c, x => (ckW n (k, c) x).map fun p => (.checks n p.1.1 p.1.2, p.2)
  | .signs k v, x => (sgW (k, v) x).map fun p => (.signs p.1.1 p.1.2, p.2)
def wF : WS → List Int
  | .runs c v => rcl c v
  | .chunks n w => ((w.length : Nat) : Int) :: w
  | .checks n k c => two c
  | .signs k v => sgF k v
  | _ => []
def rS : Stp RS
  | .add key t, x => (addR key t x).map fun p => (.add key p.1, p.2)
  | .front row, x => (frontR row x).map fun p => (.front p.1, p.2)
  | .escape b m, x => (escR b m x).map fun p => (.escape b p.1, p.2)
  | .runs c bar, x => (runsR (c, bar) x).map fun p => (.runs p.1.1 p.1.2, p.2)
  | .chunks n left last, x => (chR n (left, last) x).map fun p => (.chunks n p.1.1 p.1.2, p.2)
  | .checks n c w, x => (ckR n (c, w) x).map fun p => (.checks n p.1.1 p.1.2, p.2)
  | .signs k v, x => (sgR (k, v) x).map fun p => (.signs p.1.1 p.1.2, p.2)
def rF : RS → End
  | .escape b m => if m then .cut else .ok []
  | .runs c bar => if c = 0 then .ok [] else .cut
  | .chunks n left last => if left = 0 ∧ last = true then .ok [] else .cut
  | .checks n c w => ckE c w
  | .signs k v => sgE k v
  | _ => .ok []
theorem run_map {S T : Type} {f : Stp S} {g : Stp T} (em : S → T) (h : ∀ s x, g (em s) x = (f s x).map fun p => (em p.1, p.2)) : ∀ (xs : List Int) (s : S), run g (em s) xs = (run f s xs).map fun p => (em p.1, p.2)
  | [], s => rfl
  | x :: xs, s => by
    simp only [run, h]
    cases e : f s x with
    | none => rfl
    | some p =>
      simp only [Option.map_some, Option.bind_some]
      rw [run_map em h xs p.1]
      cases run f p.1 xs <;> rfl
theorem wrun_add (key : List Int) (t : Nat) (xs : List Int) : run wS (.add key t) xs = (run (addW key) t xs).map fun p => (.add key p.1, p.2) := run_map (fun t => WS.add key t) (fun _ _ => rfl) xs t
theorem wrun_front (row xs : List Int) : run wS (.front row) xs = (run frontW row xs).map fun p => (.front p.1, p.2) := run_map WS.front (fun _ _ => rfl) xs row
theorem wrun_esc (b : Int) (xs : List Int) : run wS (.escape b) xs = (run (escW b) () xs).map fun p => (.escape b, p.2) := run_map (fun _ => WS.escape b) (fun _ _ => rfl) xs ()
theorem wrun_runs (c : Nat) (v : Int) (xs : List Int) : run wS (.runs c v) xs = (run runsW (c, v) xs).map fun p => (.runs p.1.1 p.1.2, p.2) := run_map (fun p : Nat × Int => WS.runs p.1 p.2) (fun _ _ => rfl) xs (c, v)
theorem wrun_ch (n : Nat) (w xs : List Int) : run wS (.chunks n w) xs = (run (chW n) w xs).map fun p => (.chunks n p.1, p.2) := run_map (WS.chunks n) (fun _ _ => rfl) xs w
theorem wrun_ck (n k : Nat) (c : Int) (xs : List Int) : run wS (.checks n k c) xs = (run (ckW n) (k, c) xs).map fun p => (.checks n p.1.1 p.1.2, p.2) := run_map (fun p : Nat × Int => WS.checks n p.1 p.2) (fun _ _ => rfl) xs (k, c)
theorem wrun_sg (k : Nat) (v : Int) (xs : List Int) : run wS (.signs k v) xs = (run sgW (k, v) xs).map fun p => (.signs p.1.1 p.1.2, p.2) := run_map (fun p : Nat × Int => WS.signs p.1 p.2) (fun _ _ => rfl) xs (k, v)
theorem rrun_add (key : List Int) (t : Nat) (xs : List Int) : run rS (.add key t) xs = (run (addR key) t xs).map fun p => (.add key p.1, p.2) := run_map (fun t => RS.add key t) (fun _ _ => rfl) xs t
theorem rrun_front (row xs : List Int) : run rS (.front row) xs = (run frontR row xs).map fun p => (.front p.1, p.2) := run_map RS.front (fun _ _ => rfl) xs row
theorem rrun_esc (b : Int) (m : Bool) (xs : List Int) : run rS (.escape b m) xs = (run (escR b) m xs).map fun p => (.escape b p.1, p.2) := run_map (RS.escape b) (fun _ _ => rfl) xs m
theorem rrun_runs (c : Nat) (bar : Option Int) (xs : List Int) : run rS (.runs c bar) xs = (run runsR (c, bar) xs).map fun p => (.runs p.1.1 p.1.2, p.2) := run_map (fun p : Nat × Option Int => RS.runs p.1 p.2) (fun _ _ => rfl) xs (c, bar)
theorem rrun_ch (n left : Nat) (last : Bool) (xs : List Int) : run rS (.chunks n left last) xs = (run (chR n) (left, last) xs).map fun p => (.chunks n p.1.1 p.1.2, p.2) := run_map (fun p : Nat × Bool => RS.chunks n p.1 p.2) (fun _ _ => rfl) xs (left, last)
theorem rrun_ck (n : Nat) (c : Int) (w xs : List Int) : run rS (.checks n c w) xs = (run (ckR n) (c, w) xs).map fun p => (.checks n p.1.1 p.1.2, p.2) := run_map (fun p : Int × List Int => RS.checks n p.1 p.2) (fun _ _ => rfl) xs (c, w)
theorem rrun_sg (k : Nat) (v : Int) (xs : List Int) : run rS (.signs k v) xs = (run sgR (k, v) xs).map fun p => (.signs p.1.1 p.1.2, p.2) := run_map (fun p : Nat × Int => RS.signs p.1 p.2) (fun _ _ => rfl) xs (k, v)
theorem lossless {l : Ly} (hl : l.Ok) {xs : List Int} (hx : AllB xs) : ∃ s o, run wS (wst l) xs = some (s, o) ∧ AllB (o ++ wF s) ∧ ∃ r t e, run rS (rst l) (o ++ wF s) = some (r, t) ∧ rF r = .ok e ∧ t ++ e = xs := by
  cases l with
  | add key =>
    obtain ⟨t', o, h1, h2, h3⟩ := add_sync key xs 0 hx
    refine ⟨.add key t', o, by rw [wst, wrun_add, h1]; rfl, by simpa [wF] using h2, .add key t', xs, [], ?_, rfl, by simp⟩
    simp only [wF, List.append_nil, rst, rrun_add, h3]; rfl
  | front =>
    obtain ⟨row', o, r', h1, h2, h3⟩ := front_sync xs row0 row0_ok hx
    refine ⟨.front row', o, by rw [wst, wrun_front, h1]; rfl, by simpa [wF] using h2, .front row', xs, [], ?_, rfl, by simp⟩
    simp only [wF, List.append_nil, rst, rrun_front, h3]; rfl
  | escape b =>
    obtain ⟨o, h1, h2, h3⟩ := esc_sync hl xs hx
    refine ⟨.escape b, o, by rw [wst, wrun_esc, h1]; rfl, by simpa [wF] using h2, .escape b false, xs, [], ?_, rfl, by simp⟩
    simp only [wF, List.append_nil, rst, rrun_esc, h3]; rfl
  | runs =>
    obtain ⟨c', v', bar', o, t, h1, h2, h3, h4, h5, h6⟩ := runs_sync xs 0 0 none ⟨by omega, fun _ => rfl, by omega⟩ hx ⟨by omega, by omega⟩
    obtain ⟨bar2, h7⟩ := runs_end h4
    have hb : AllB (rcl c' v') := by
      unfold rcl; split
      · exact AllB.nil
      · exact AllB.cons.mpr ⟨⟨by omega, by have := h4.lt; omega⟩, AllB.cons.mpr ⟨h6, AllB.nil⟩⟩
    refine ⟨.runs c' v', o, by rw [wst, wrun_runs, h1]; rfl, AllB.append.mpr ⟨h5, hb⟩, .runs 0 bar2, xs, [], ?_, rfl, by simp⟩
    have q := run_append_some h2 h7
    simp only [List.replicate_zero, List.nil_append] at h3
    rw [← h3] at q
    simp only [wF, rst, rrun_runs, q]; rfl
  | chunks n =>
    obtain ⟨w', o, t, h1, h2, h3, h4, h5, h6⟩ := ch_sync hl.1 hl.2 xs [] (by have := hl.1; simp; omega) hx AllB.nil
    have := hl.2
    refine ⟨.chunks n w', o, by rw [wst, wrun_ch, h1]; rfl, AllB.append.mpr ⟨h4, AllB.cons.mpr ⟨⟨by omega, by omega⟩, h3⟩⟩, .chunks n 0 true, xs, [], ?_, rfl, by simp⟩
    have q := run_append_some h5 (ch_end h2)
    simp only [List.nil_append] at h6
    rw [← h6] at q
    simp only [wF, rst, rrun_ch, q]; rfl
  | checks n =>
    obtain ⟨k', cw', c', w', o, t, h1, h2, h3, h4, h5, h6, h7, h8, h9⟩ := ck_sync hl.1 xs [] 0 ⟨by omega, by omega⟩ (by have := hl.1; simp; omega) hx AllB.nil
    subst h2 h4
    obtain ⟨e1, e2⟩ := ck_end (n := n) (c := c') (w := w') h3
    simp only [List.length_nil, List.foldl_nil, List.nil_append] at h1 h8 h9
    refine ⟨.checks n w'.length (w'.foldl nxt c'), o, by rw [wst, wrun_ck, h1]; rfl, AllB.append.mpr ⟨h7, two_b (fold_ck h5 w')⟩, .checks n c' (w' ++ two (w'.foldl nxt c')), t, w', ?_, e2, h9.symm⟩
    have q := run_append_some h8 e1
    simp only [List.append_nil] at q
    simp only [wF, rst, rrun_ck, q]; rfl
  | signs =>
    obtain ⟨k', b', j', a', p', o, t, h1, h2, h3, h4, h5⟩ := sg_sync xs 0 0 0 0 [] .z hx
    obtain ⟨f1, j2, a2, f2, f3⟩ := sg_end h2
    refine ⟨.signs k' b', o, by rw [wst, wrun_sg, h1]; rfl, AllB.append.mpr ⟨h3, f1⟩, .signs j2 a2, xs, [], ?_, f3, by simp⟩
    have q := run_append_some h4 f2
    simp only [List.nil_append] at h5
    rw [← h5] at q
    simp only [wF, rst, rrun_sg, q]; rfl
theorem map_some_inv {S T : Type} {em : S → T} {o : Option (S × List Int)} {r : T} {t : List Int} (h : (o.map fun p => (em p.1, p.2)) = some (r, t)) : ∃ s, o = some (s, t) ∧ r = em s := by
  cases o with
  | none => cases h
  | some p =>
    obtain ⟨s, t'⟩ := p
    simp only [Option.map_some, Option.some.injEq, Prod.mk.injEq] at h
    exact ⟨s, by rw [h.2], h.1.symm⟩
end Fm
namespace Fm
def wtake : List WS → List Int → Option (List WS × List Int)
  | [], row => some ([], row)
  | s :: ss, row => (run wS s row).bind fun p => (wtake ss p.2).bind fun q => some (p.1 :: q.1, q.2)
def wend : List WS → List Int → Option (List Int)
  | [], carry => some carry
  | s :: ss, carry => (run wS s carry).bind fun p => wend ss (p.2 ++ wF p.1)
def wAll (l : Ly) (xs : List Int) : List Int := match run wS (wst l) xs with
  | some (s, o) => o ++ wF s
  | none => []
def wrt (ls : List Ly) (xs : List Int) : List Int := ls.foldl (fun xs l => wAll l xs) xs
def LsOk (ls : List Ly) : Prop := ∀ l ∈ ls, l.Ok
inductive WAt : List Ly → List WS → List Int → List Int → Prop
  | nil {xs : List Int} : WAt [] [] xs xs
  | cons {l : Ly} {ls : List Ly} {s : WS} {ss : List WS} {xs o ys : List Int} : run wS (wst l) xs = some (s, o) → WAt ls ss o ys → WAt (l :: ls) (s :: ss) xs ys
theorem wAll_of {l : Ly} {xs o : List Int} {s : WS} (h : run wS (wst l) xs = some (s, o)) : wAll l xs = o ++ wF s := by unfold wAll; rw [h]
theorem wAll_b {l : Ly} (hl : l.Ok) {xs : List Int} (hx : AllB xs) : AllB (wAll l xs) := by
  obtain ⟨s, o, h1, h2, _⟩ := lossless hl hx
  rw [wAll_of h1]; exact h2
theorem wrt_b : ∀ {ls : List Ly} {xs : List Int}, LsOk ls → AllB xs → AllB (wrt ls xs)
  | [], _, _, h => h
  | l :: ls, xs, hl, h => wrt_b (ls := ls) (fun l' h' => hl l' (List.mem_cons_of_mem _ h')) (wAll_b (hl l List.mem_cons_self) h)
theorem run_b {l : Ly} (hl : l.Ok) {xs o : List Int} {s : WS} (hx : AllB xs) (h : run wS (wst l) xs = some (s, o)) : AllB o := by
  have := wAll_b hl hx
  rw [wAll_of h] at this
  exact (AllB.append.mp this).1
theorem WAt.start : ∀ (ls : List Ly), WAt ls (ls.map wst) [] []
  | [] => .nil
  | l :: ls => .cons rfl (WAt.start ls)
theorem WAt.take {ls : List Ly} {ss : List WS} {xs ys : List Int} (w : WAt ls ss xs ys) : ∀ {more : List Int}, LsOk ls → AllB (xs ++ more) → ∃ ss' t, wtake ss more = some (ss', t) ∧ WAt ls ss' (xs ++ more) (ys ++ t) := by
  induction w with
  | nil => intro more _ _; exact ⟨[], more, rfl, .nil⟩
  | @cons l ls s ss xs o ys h w ih =>
    intro more hl hb
    obtain ⟨s2, o2, h1, _⟩ := lossless (hl l List.mem_cons_self) hb
    obtain ⟨s1, oa, ob, e1, e2, e3⟩ := run_split h1
    rw [h] at e1
    obtain ⟨rfl, rfl⟩ : s = s1 ∧ o = oa := by simpa using e1
    subst e3
    have hb2 := run_b (hl l List.mem_cons_self) hb h1
    obtain ⟨ss', t, h2, h3⟩ := ih (more := ob) (fun l' h' => hl l' (List.mem_cons_of_mem _ h')) hb2
    exact ⟨s2 :: ss', t, by simp [wtake, e2, h2], .cons h1 h3⟩
theorem WAt.fin {ls : List Ly} {ss : List WS} {xs ys : List Int} (w : WAt ls ss xs ys) : ∀ {carry : List Int}, LsOk ls → AllB (xs ++ carry) → ∃ t, wend ss carry = some t ∧ wrt ls (xs ++ carry) = ys ++ t := by
  induction w with
  | nil => intro carry _ _; exact ⟨carry, rfl, rfl⟩
  | @cons l ls s ss xs o ys h w ih =>
    intro carry hl hb
    obtain ⟨s2, o2, h1, h2, _⟩ := lossless (hl l List.mem_cons_self) hb
    obtain ⟨s1, oa, ob, e1, e2, e3⟩ := run_split h1
    rw [h] at e1
    obtain ⟨rfl, rfl⟩ : s = s1 ∧ o = oa := by simpa using e1
    subst e3
    obtain ⟨t, f1, f2⟩ := ih (carry := ob ++ wF s2) (fun l' h' => hl l' (List.mem_cons_of_mem _ h')) (by simpa [List.append_assoc] using h2)
    refine ⟨t, by simp [wend, e2, f1], ?_⟩
    show wrt ls (wAll l (xs ++ carry)) = _
    rw [wAll_of h1, List.append_assoc]; exact f2
inductive Fault where
  | wrong (layer place : Nat) | cut (layer : Nat)
  deriving DecidableEq
abbrev Rds := List (RS × Nat)
structure Res where
  rs : Rds
  told : List Int
  fault : Option Fault
def goL (fd : Rds → List Int → Res) : RS → Nat → Rds → List Int → Res
  | r, p, rs, [] => ⟨(r, p) :: rs, [], none⟩
  | r, p, rs, b :: bs => match rS r b with
    | none => ⟨(r, p) :: rs, [], some (.wrong rs.length p)⟩
    | some (r', o) => match fd rs o with
      | ⟨rs', t, some f⟩ => ⟨(r', p + 1) :: rs', t, some f⟩
      | ⟨rs', t, none⟩ => match goL fd r' (p + 1) rs' bs with
        | ⟨x, t', f⟩ => ⟨x, t ++ t', f⟩
def feed : Nat → Rds → List Int → Res
  | 0, rs, bs => ⟨rs, bs, none⟩
  | _ + 1, [], bs => ⟨[], bs, none⟩
  | d + 1, (r, p) :: rs, bs => goL (feed d) r p rs bs
def finA : Nat → Rds → List Int × Option Fault
  | 0, _ => ([], none)
  | _ + 1, [] => ([], none)
  | d + 1, (r, p) :: rs => match rF r with
    | .cut => ([], some (.cut rs.length))
    | .bad => ([], some (.wrong rs.length (p - 1)))
    | .ok o => match feed d rs o with
      | ⟨_, t, some f⟩ => (t, some f)
      | ⟨rs', t, none⟩ => match finA d rs' with
        | (t', f) => (t ++ t', f)
def Res.then (a : Res) (k : Rds → Res) : Res := match a with
  | ⟨rs, t, some f⟩ => ⟨rs, t, some f⟩
  | ⟨rs, t, none⟩ => match k rs with
    | ⟨x, t', f⟩ => ⟨x, t ++ t', f⟩
end Fm
namespace Fm
def rdAll (d : Nat) (rs : Rds) (ys : List Int) : List Int × Option Fault := match feed d rs ys with
  | ⟨_, t, some f⟩ => (t, some f)
  | ⟨rs', t, none⟩ => match finA d rs' with
    | (t', f) => (t ++ t', f)
def rdr (ls : List Ly) : Rds := ls.reverse.map fun l => (rst l, 0)
def rd (ls : List Ly) (ys : List Int) : List Int × Option Fault := rdAll ls.length (rdr ls) ys
theorem LsOk.snoc {ls : List Ly} {l : Ly} (h : LsOk (ls ++ [l])) : LsOk ls ∧ l.Ok := ⟨fun l' h' => h l' (List.mem_append_left _ h'), h l (by simp)⟩
theorem wrt_snoc (ls : List Ly) (l : Ly) (xs : List Int) : wrt (ls ++ [l]) xs = wAll l (wrt ls xs) := by simp [wrt]
end Fm
namespace Fm
end Fm
namespace Fm
def WOk : WS → Prop
  | .add key t => t < key.length ∧ key.length ≤ 8 ∧ AllB key
  | .front row => RowOk row
  | .escape b => IsB b
  | .runs c v => c < 255 ∧ IsB v
  | .chunks n w => w.length < n ∧ n ≤ 255 ∧ AllB w
  | .checks n k c => k < n ∧ n ≤ 255 ∧ CkI c
  | .signs k v => (k = 0 ∧ v = 0) ∨ (k = 2 ∧ 0 ≤ v ∧ v < 4) ∨ (k = 4 ∧ 0 ≤ v ∧ v < 16)
def pend : WS → Nat
  | .runs c v => if c = 0 then 0 else 2
  | .chunks n w => 2 * w.length
  | _ => 0
theorem wOk_start {l : Ly} (h : l.Ok) : WOk (wst l) := by
  cases l with
  | add key => exact ⟨h.1, h.2⟩
  | front => exact row0_ok
  | escape b => exact h
  | runs => exact ⟨by omega, by unfold IsB; omega⟩
  | chunks n => exact ⟨h.1, h.2, AllB.nil⟩
  | checks n => exact ⟨h.1, h.2, by unfold CkI; omega⟩
  | signs => exact .inl ⟨rfl, rfl⟩
theorem pend_start (l : Ly) : pend (wst l) = 0 := by cases l <;> rfl
theorem wS_step {s : WS} {x : Int} (h : WOk s) (hx : IsB x) : ∃ s' o, wS s x = some (s', o) ∧ WOk s' ∧ AllB o ∧ o.length + pend s' ≤ 3 + pend s := by
  cases s with
  | add key t =>
    refine ⟨.add key ((t + 1) % key.length), [(x + key.getD t 0) % 256], rfl, ⟨Nat.mod_lt _ (by have := h.1; omega), h.2⟩, ?_, by simp [pend]⟩
    intro y hy; simp at hy; subst hy; omega
  | front row =>
    have hi := h.idx hx
    refine ⟨.front (x :: row.eraseIdx (row.idxOf x)), [((row.idxOf x : Nat) : Int)], rfl, h.front hi.2, ?_, by simp [pend]⟩
    intro y hy; simp at hy; subst hy; omega
  | escape b =>
    have hn := nb_ne h
    refine ⟨.escape b, _, rfl, h, ?_, ?_⟩
    · have e1 := hn.2.2.1; have e2 := hn.2.2.2.1; have e3 := hn.2.2.2.2
      unfold IsB at e1 e2 e3 hx
      dsimp only
      split
      · intro y hy; simp at hy; rcases hy with rfl | rfl <;> omega
      · split
        · intro y hy; simp at hy; rcases hy with rfl | rfl <;> omega
        · intro y hy; simp at hy; subst hy; omega
    · dsimp only; split
      · simp [pend]
      · split <;> simp [pend]
  | runs c v =>
    obtain ⟨hc, hv⟩ := h
    unfold IsB at hv hx
    by_cases e : x = v
    · subst e
      by_cases e2 : c + 1 = 255
      · refine ⟨.runs 0 x, [255, x], by simp [wS, runsW, e2], ⟨by omega, hx⟩, ?_, by simp [pend]; omega⟩
        intro y hy; simp at hy; rcases hy with rfl | rfl <;> omega
      · refine ⟨.runs (c + 1) x, [], by simp [wS, runsW, e2], ⟨by omega, hx⟩, AllB.nil, ?_⟩
        simp [pend]; split <;> omega
    · refine ⟨.runs 1 x, rcl c v, by simp [wS, runsW, e], ⟨by omega, hx⟩, ?_, ?_⟩
      · unfold rcl; split
        · exact AllB.nil
        · intro y hy; simp at hy; rcases hy with rfl | rfl <;> omega
      · unfold rcl; simp [pend]; split <;> simp
  | chunks n w =>
    obtain ⟨hl, hn, hw⟩ := h
    by_cases e : w.length + 1 < n
    · refine ⟨.chunks n (w ++ [x]), [], by simp [wS, chW, e], ⟨by simp; omega, hn, AllB.append.mpr ⟨hw, AllB.cons.mpr ⟨hx, AllB.nil⟩⟩⟩, AllB.nil, ?_⟩
      simp [pend]; omega
    · refine ⟨.chunks n [], ((w.length + 1 : Nat) : Int) :: (w ++ [x]), by simp [wS, chW, e], ⟨by simp; omega, hn, AllB.nil⟩, ?_, ?_⟩
      · exact AllB.cons.mpr ⟨by unfold IsB; omega, AllB.append.mpr ⟨hw, AllB.cons.mpr ⟨hx, AllB.nil⟩⟩⟩
      · simp [pend]; omega
  | checks n k c =>
    obtain ⟨hl, hn, hw⟩ := h
    have hc := nxt_le c x
    by_cases e : k + 1 < n
    · exact ⟨.checks n (k + 1) (nxt c x), [x], by simp [wS, ckW, e], ⟨e, hn, hc⟩, AllB.cons.mpr ⟨hx, AllB.nil⟩, by simp [pend]⟩
    · exact ⟨.checks n 0 (nxt c x), x :: two (nxt c x), by simp [wS, ckW, e], ⟨by omega, hn, hc⟩, AllB.cons.mpr ⟨hx, two_b hc⟩, by simp [pend, two]⟩
  | signs k v =>
    unfold IsB at hx
    have sb : ∀ u : Int, 0 ≤ u → u < 64 → IsB (sgn u) := fun u a b => sgn_b a b
    rcases h with ⟨rfl, rfl⟩ | ⟨rfl, h0, h1⟩ | ⟨rfl, h0, h1⟩
    · exact ⟨.signs 2 (x % 4), [sgn (x / 4)], rfl, .inr (.inl ⟨rfl, by omega, by omega⟩), AllB.cons.mpr ⟨sb _ (by omega) (by omega), AllB.nil⟩, by simp [pend]⟩
    · exact ⟨.signs 4 (x % 16), [sgn (v * 16 + x / 16)], rfl, .inr (.inr ⟨rfl, by omega, by omega⟩), AllB.cons.mpr ⟨sb _ (by omega) (by omega), AllB.nil⟩, by simp [pend]⟩
    · exact ⟨.signs 0 0, [sgn (v * 4 + x / 64), sgn (x % 64)], rfl, .inl ⟨rfl, rfl⟩, AllB.cons.mpr ⟨sb _ (by omega) (by omega), AllB.cons.mpr ⟨sb _ (by omega) (by omega), AllB.nil⟩⟩, by simp [pend]⟩
theorem wS_run : ∀ {xs : List Int} {s : WS}, WOk s → AllB xs → ∃ s' o, run wS s xs = some (s', o) ∧ WOk s' ∧ AllB o ∧ o.length + pend s' ≤ 3 * xs.length + pend s
  | [], s, h, _ => ⟨s, [], rfl, h, AllB.nil, by simp⟩
  | x :: xs, s, h, hx => by
    obtain ⟨hx1, hx2⟩ := AllB.cons.mp hx
    obtain ⟨s1, o1, a1, a2, a3, a4⟩ := wS_step h hx1
    obtain ⟨s2, o2, b1, b2, b3, b4⟩ := wS_run (xs := xs) a2 hx2
    refine ⟨s2, o1 ++ o2, run_cons_some a1 b1, b2, AllB.append.mpr ⟨a3, b3⟩, ?_⟩
    simp only [List.length_append, List.length_cons]; omega
theorem wF_len {s : WS} (h : WOk s) : (wF s).length ≤ pend s + 2 ∧ AllB (wF s) := by
  cases s with
  | add key t => exact ⟨by simp [wF], AllB.nil⟩
  | front row => exact ⟨by simp [wF], AllB.nil⟩
  | escape b => exact ⟨by simp [wF], AllB.nil⟩
  | runs c v =>
    obtain ⟨hc, hv⟩ := h
    unfold IsB at hv
    unfold wF rcl pend
    dsimp only
    split
    · exact ⟨by simp, AllB.nil⟩
    · refine ⟨by simp, ?_⟩
      intro y hy; simp at hy; rcases hy with rfl | rfl <;> omega
  | chunks n w =>
    refine ⟨by simp [wF, pend]; omega, AllB.cons.mpr ⟨?_, h.2.2⟩⟩
    have := h.1; have := h.2.1; unfold IsB; omega
  | checks n k c => exact ⟨by simp [wF, two, pend], two_b h.2.2⟩
  | signs k v =>
    have sb : ∀ u : Int, 0 ≤ u → u < 64 → IsB (sgn u) := fun u a b => sgn_b a b
    rcases h with ⟨rfl, rfl⟩ | ⟨rfl, h0, h1⟩ | ⟨rfl, h0, h1⟩
    · exact ⟨by simp [wF, sgF], AllB.nil⟩
    · exact ⟨by simp [wF, sgF], AllB.cons.mpr ⟨sb _ (by omega) (by omega), AllB.nil⟩⟩
    · exact ⟨by simp [wF, sgF], AllB.cons.mpr ⟨sb _ (by omega) (by omega), AllB.nil⟩⟩
end Fm
namespace Fm
theorem esc_form {b : Int} (hb : IsB b) : ∀ {xs o : List Int} {u : Unit}, AllB xs → run (escW b) () xs = some (u, o) → b ∉ o ∧ xs.length ≤ o.length ∧ o.length ≤ 2 * xs.length
  | [], o, u, _, h => by cases h; simp
  | x :: xs, o, u, hx, h => by
    obtain ⟨s', o1, o2, h1, h2, rfl⟩ := run_inv h
    obtain ⟨hx1, hx2⟩ := AllB.cons.mp hx
    obtain ⟨a1, a2, a3⟩ := esc_form hb hx2 h2
    have e := Option.some.inj h1
    cases e
    obtain ⟨n1, n2, n3, n4, n5⟩ := nb_ne hb
    have d2 : nb b 2 ≠ b := by unfold nb; unfold IsB at hb; omega
    have d3 : nb b 3 ≠ b := by unfold nb; unfold IsB at hb; omega
    by_cases e1 : x = b
    · rw [if_pos e1]
      refine ⟨?_, by simp; omega, by simp; omega⟩
      simp only [List.mem_append, List.mem_cons, List.not_mem_nil, or_false, not_or]
      exact ⟨⟨n1.symm, d2.symm⟩, a1⟩
    · rw [if_neg e1]
      by_cases e2 : x = nb b 1
      · rw [if_pos e2]
        refine ⟨?_, by simp; omega, by simp; omega⟩
        simp only [List.mem_append, List.mem_cons, List.not_mem_nil, or_false, not_or]
        exact ⟨⟨n1.symm, d3.symm⟩, a1⟩
      · rw [if_neg e2]
        refine ⟨?_, by simp; omega, by simp; omega⟩
        simp only [List.mem_append, List.mem_cons, List.not_mem_nil, or_false, not_or]
        exact ⟨fun z => e1 z.symm, a1⟩
def IsSg (y : Int) : Prop := y = 45 ∨ y = 95 ∨ (48 ≤ y ∧ y < 58) ∨ (65 ≤ y ∧ y < 91) ∨ (97 ≤ y ∧ y < 123)
theorem sgn_is {v : Int} (h0 : 0 ≤ v) (h1 : v < 64) : IsSg (sgn v) := by
  unfold IsSg sgn
  split
  · omega
  · split
    · omega
    · split
      · omega
      · split <;> omega
def SgOk (k : Nat) (v : Int) : Prop := (k = 0 ∧ v = 0) ∨ (k = 2 ∧ 0 ≤ v ∧ v < 4) ∨ (k = 4 ∧ 0 ≤ v ∧ v < 16)
theorem sg_form : ∀ {xs o : List Int} {k k' : Nat} {v v' : Int}, SgOk k v → AllB xs → run sgW (k, v) xs = some ((k', v'), o) → SgOk k' v' ∧ (∀ y ∈ o, IsSg y) ∧ 8 * xs.length + k = 6 * o.length + k'
  | [], o, k, k', v, v', ok, _, h => by cases h; exact ⟨ok, by simp, by simp⟩
  | x :: xs, o, k, k', v, v', ok, hx, h => by
    obtain ⟨⟨k1, v1⟩, o1, o2, h1, h2, rfl⟩ := run_inv h
    obtain ⟨hx1, hx2⟩ := AllB.cons.mp hx
    unfold IsB at hx1
    rcases ok with ⟨rfl, rfl⟩ | ⟨rfl, a, b⟩ | ⟨rfl, a, b⟩
    · cases (Option.some.inj h1)
      obtain ⟨b1, b2, b3⟩ := sg_form (.inr (.inl ⟨rfl, by omega, by omega⟩)) hx2 h2
      refine ⟨b1, fun y hy => ?_, by simp; omega⟩
      simp at hy
      rcases hy with rfl | hy
      · exact sgn_is (by omega) (by omega)
      · exact b2 y hy
    · cases (Option.some.inj h1)
      obtain ⟨b1, b2, b3⟩ := sg_form (.inr (.inr ⟨rfl, by omega, by omega⟩)) hx2 h2
      refine ⟨b1, fun y hy => ?_, by simp; omega⟩
      simp at hy
      rcases hy with rfl | hy
      · exact sgn_is (by omega) (by omega)
      · exact b2 y hy
    · cases (Option.some.inj h1)
      obtain ⟨b1, b2, b3⟩ := sg_form (.inl ⟨rfl, rfl⟩) hx2 h2
      refine ⟨b1, fun y hy => ?_, by simp; omega⟩
      simp at hy
      rcases hy with rfl | rfl | hy
      · exact sgn_is (by omega) (by omega)
      · exact sgn_is (by omega) (by omega)
      · exact b2 y hy
def evens : List Int → List Int
  | a :: _ :: r => a :: evens r
  | [a] => [a]
  | [] => []
inductive Prs : List Int → Nat → Prop
  | nil : Prs [] 0
  | cons {c : Nat} {v : Int} {r : List Int} {n : Nat} : 0 < c → Prs r n → Prs ((c : Int) :: v :: r) (c + n)
theorem Prs.append {a b : List Int} {n m : Nat} (h : Prs a n) (k : Prs b m) : Prs (a ++ b) (n + m) := by
  induction h with
  | nil => simpa using k
  | cons h0 _ ih => rw [Nat.add_assoc]; exact .cons h0 ih
theorem Prs.facts {a : List Int} {n : Nat} (h : Prs a n) : a.length % 2 = 0 ∧ (0 : Int) ∉ evens a ∧ (evens a).sum = (n : Int) ∧ a.length ≤ 2 * n := by
  induction h with
  | nil => simp [evens]
  | @cons c v r n h0 _ ih =>
    obtain ⟨i1, i2, i3, i4⟩ := ih
    refine ⟨by simp; omega, ?_, ?_, by simp; omega⟩
    · simp only [evens, List.mem_cons, not_or]
      exact ⟨by omega, i2⟩
    · simp only [evens, List.sum_cons, i3]; omega
theorem prs_rcl (c : Nat) (v : Int) : Prs (rcl c v) c := by
  unfold rcl
  split
  · rename_i h; subst h; exact .nil
  · rename_i h; exact .cons (n := 0) (by omega) .nil
theorem runs_form : ∀ {xs o : List Int} {c c' : Nat} {v v' : Int}, run runsW (c, v) xs = some ((c', v'), o) → ∃ n, Prs o n ∧ c + xs.length = n + c'
  | [], o, c, c', v, v', h => by cases h; exact ⟨0, .nil, by simp⟩
  | x :: xs, o, c, c', v, v', h => by
    obtain ⟨⟨c1, v1⟩, o1, o2, h1, h2, rfl⟩ := run_inv h
    obtain ⟨n, p1, e1⟩ := runs_form h2
    simp only [runsW] at h1
    by_cases e : x = v
    · subst e
      simp only [if_true, List.nil_append] at h1
      by_cases e2 : c + 1 = 255
      · rw [if_pos e2] at h1
        cases h1
        exact ⟨255 + n, (Prs.cons (c := 255) (n := 0) (by omega) .nil).append p1, by simp; omega⟩
      · rw [if_neg e2] at h1
        cases h1
        exact ⟨n, by simpa using p1, by simp; omega⟩
    · rw [if_neg e, if_neg e, if_neg (by omega)] at h1
      cases h1
      exact ⟨c + n, (prs_rcl c v).append p1, by simp; omega⟩
theorem ch_form {n : Nat} (hn : 1 ≤ n) : ∀ {xs o w w' : List Int}, w.length < n → run (chW n) w xs = some (w', o) → w'.length < n ∧ o.length + w'.length = w.length + xs.length + (w.length + xs.length) / n
  | [], o, w, w', hw, h => by cases h; exact ⟨hw, by simp [Nat.div_eq_of_lt hw]⟩
  | x :: xs, o, w, w', hw, h => by
    obtain ⟨w1, o1, o2, h1, h2, rfl⟩ := run_inv h
    simp only [chW] at h1
    by_cases e : w.length + 1 < n
    · rw [if_pos e] at h1
      cases h1
      obtain ⟨a, b⟩ := ch_form hn (by simpa using e) h2
      refine ⟨a, ?_⟩
      simp only [List.length_append, List.length_cons, List.length_nil, List.nil_append] at b ⊢
      rw [show w.length + (xs.length + 1) = w.length + (0 + 1) + xs.length by omega]; exact b
    · rw [if_neg e] at h1
      cases h1
      obtain ⟨a, b⟩ := ch_form hn (w := []) (by simp; omega) h2
      refine ⟨a, ?_⟩
      simp only [List.length_append, List.length_cons, List.length_nil, List.nil_append, Nat.zero_add] at b ⊢
      have ed : (w.length + (xs.length + 1)) / n = xs.length / n + 1 := by
        rw [show w.length + (xs.length + 1) = xs.length + n by omega, Nat.add_div_right _ (by omega)]
      rw [ed]; omega
theorem ck_form {n : Nat} (hn : 1 ≤ n) : ∀ {xs o : List Int} {k k' : Nat} {c c' : Int}, k < n → run (ckW n) (k, c) xs = some ((k', c'), o) → o.length = xs.length + 2 * ((k + xs.length) / n)
  | [], o, k, k', c, c', hk, h => by cases h; simp [Nat.div_eq_of_lt hk]
  | x :: xs, o, k, k', c, c', hk, h => by
    obtain ⟨⟨k1, c1⟩, o1, o2, h1, h2, rfl⟩ := run_inv h
    simp only [ckW] at h1
    by_cases e : k + 1 < n
    · rw [if_pos e] at h1
      cases h1
      have b := ck_form hn e h2
      simp only [List.length_append, List.length_cons, List.length_nil] at b ⊢
      rw [show k + (xs.length + 1) = k + 1 + xs.length by omega]; omega
    · rw [if_neg e] at h1
      cases h1
      have b := ck_form hn (k := 0) (by omega) h2
      simp only [List.length_append, List.length_cons, List.length_nil, Nat.zero_add, two] at b ⊢
      have ed : (k + (xs.length + 1)) / n = xs.length / n + 1 := by
        rw [show k + (xs.length + 1) = xs.length + n by omega, Nat.add_div_right _ (by omega)]
      rw [ed]; omega
theorem form_escape {b : Int} (hb : IsB b) {xs : List Int} (hx : AllB xs) : b ∉ wAll (.escape b) xs ∧ xs.length ≤ (wAll (.escape b) xs).length ∧ (wAll (.escape b) xs).length ≤ 2 * xs.length := by
  obtain ⟨s, o, h, _⟩ := lossless (l := .escape b) hb hx
  rw [wAll_of h]
  have h' := h
  rw [show wst (.escape b) = WS.escape b from rfl, wrun_esc] at h'
  obtain ⟨u, e, rfl⟩ := map_some_inv (em := fun _ => WS.escape b) h'
  simpa [wF] using esc_form hb hx e
theorem form_signs {xs : List Int} (hx : AllB xs) : (∀ y ∈ wAll .signs xs, IsSg y) ∧ (wAll .signs xs).length = (4 * xs.length + 2) / 3 := by
  obtain ⟨s, o, h, _⟩ := lossless (l := .signs) trivial hx
  rw [wAll_of h]
  have h' := h
  rw [show wst .signs = WS.signs 0 0 from rfl, wrun_sg] at h'
  obtain ⟨⟨k, v⟩, e, rfl⟩ := map_some_inv (em := fun p : Nat × Int => WS.signs p.1 p.2) h'
  obtain ⟨a, b, c⟩ := sg_form (.inl ⟨rfl, rfl⟩) hx e
  rcases a with ⟨rfl, rfl⟩ | ⟨rfl, a1, a2⟩ | ⟨rfl, a1, a2⟩
  · exact ⟨by simpa [wF, sgF] using b, by simp [wF, sgF]; omega⟩
  · refine ⟨fun y hy => ?_, by simp [wF, sgF]; omega⟩
    simp [wF, sgF] at hy
    rcases hy with hy | rfl
    · exact b y hy
    · exact sgn_is (by omega) (by omega)
  · refine ⟨fun y hy => ?_, by simp [wF, sgF]; omega⟩
    simp [wF, sgF] at hy
    rcases hy with hy | rfl
    · exact b y hy
    · exact sgn_is (by omega) (by omega)
theorem form_runs {xs : List Int} (hx : AllB xs) : Prs (wAll .runs xs) xs.length := by
  obtain ⟨s, o, h, _⟩ := lossless (l := .runs) trivial hx
  rw [wAll_of h]
  have h' := h
  rw [show wst .runs = WS.runs 0 0 from rfl, wrun_runs] at h'
  obtain ⟨⟨c, v⟩, e, rfl⟩ := map_some_inv (em := fun p : Nat × Int => WS.runs p.1 p.2) h'
  obtain ⟨n, p, e2⟩ := runs_form e
  rw [show xs.length = n + c by omega]
  exact p.append (prs_rcl c v)
theorem form_chunks {n : Nat} (hn : 1 ≤ n) (hn2 : n ≤ 255) {xs : List Int} (hx : AllB xs) : (wAll (.chunks n) xs).length = xs.length + (xs.length / n + 1) := by
  obtain ⟨s, o, h, _⟩ := lossless (l := .chunks n) ⟨hn, hn2⟩ hx
  rw [wAll_of h]
  have h' := h
  rw [show wst (.chunks n) = WS.chunks n [] from rfl, wrun_ch] at h'
  obtain ⟨w, e, rfl⟩ := map_some_inv (em := WS.chunks n) h'
  obtain ⟨a, b⟩ := ch_form hn (w := []) (by simp; omega) e
  simp [wF] at b ⊢
  omega
theorem form_checks {n : Nat} (hn : 1 ≤ n) (hn2 : n ≤ 255) {xs : List Int} (hx : AllB xs) : (wAll (.checks n) xs).length = xs.length + (xs.length / n + 1) * 2 := by
  obtain ⟨s, o, h, _⟩ := lossless (l := .checks n) ⟨hn, hn2⟩ hx
  rw [wAll_of h]
  have h' := h
  rw [show wst (.checks n) = WS.checks n 0 0 from rfl, wrun_ck] at h'
  obtain ⟨⟨k, c⟩, e, rfl⟩ := map_some_inv (em := fun p : Nat × Int => WS.checks n p.1 p.2) h'
  have b := ck_form hn (k := 0) (by omega) e
  simp [wF, two] at b ⊢
  omega
end Fm
namespace Fl
open PySem L2
def top (i : Nat) : Stmt := PySem.Challenge.pw_flowstack_k21_forms.main.body.getD i (.Pass ⟨0, 0, 0, 0⟩)
abbrev st_is_byte : Stmt := top 4
abbrev st_has_form : Stmt := top 5
abbrev st_is_chunks : Stmt := top 8
abbrev st_is_checks : Stmt := top 9
abbrev st_is_framed : Stmt := top 10
abbrev st_framed_writer : Stmt := top 11
abbrev st_is_escape : Stmt := top 17
abbrev st_is_runs : Stmt := top 18
abbrev st_is_marked : Stmt := top 19
abbrev st_marked_writer : Stmt := top 20
abbrev st_behind : Stmt := top 21
abbrev st_is_signs : Stmt := top 28
abbrev st_signs_writer : Stmt := top 29
abbrev st_sign_of : Stmt := top 30
abbrev st_is_add : Stmt := top 34
abbrev st_is_front : Stmt := top 35
abbrev st_is_simple : Stmt := top 36
abbrev st_simple_writer : Stmt := top 37
abbrev st_written : Stmt := top 44
abbrev st_refuse_too_many : Stmt := top 45
abbrev st_layer_writer : Stmt := top 46
abbrev st_law_cell : Stmt := top 49
abbrev st_law_mix : Stmt := top 50
abbrev st_law_whole : Stmt := top 51
abbrev st_law_layer : Stmt := top 52
abbrev st_law_layers : Stmt := top 53
abbrev st_law_row : Stmt := top 54
abbrev st_law_is_row : Stmt := top 56
abbrev st_law_fits : Stmt := top 58
abbrev st_law : Stmt := top 59
abbrev st_LayerWriter_take : Stmt := inClass (top 6) 0
abbrev st_LayerWriter_end : Stmt := inClass (top 6) 2
abbrev st_ChunksWriter___init : Stmt := inClass (top 12) 0
abbrev st_ChunksWriter_write_byte : Stmt := inClass (top 12) 1
abbrev st_ChunksWriter_close_chunk : Stmt := inClass (top 12) 2
abbrev st_ChunksWriter_end : Stmt := inClass (top 12) 3
abbrev st_RunningCheck___init : Stmt := inClass (top 13) 0
abbrev st_RunningCheck_count_byte : Stmt := inClass (top 13) 1
abbrev st_RunningCheck_as_bytes : Stmt := inClass (top 13) 2
abbrev st_ChecksWriter___init : Stmt := inClass (top 14) 0
abbrev st_ChecksWriter_write_byte : Stmt := inClass (top 14) 1
abbrev st_ChecksWriter_end : Stmt := inClass (top 14) 2
abbrev st_EscapeWriter___init : Stmt := inClass (top 22) 0
abbrev st_EscapeWriter_write_byte : Stmt := inClass (top 22) 1
abbrev st_RunsWriter___init : Stmt := inClass (top 23) 0
abbrev st_RunsWriter_write_byte : Stmt := inClass (top 23) 1
abbrev st_RunsWriter_close_run : Stmt := inClass (top 23) 2
abbrev st_RunsWriter_end : Stmt := inClass (top 23) 3
abbrev st_HeldDigits___init : Stmt := inClass (top 31) 0
abbrev st_HeldDigits_push : Stmt := inClass (top 31) 1
abbrev st_HeldDigits_draw_digits : Stmt := inClass (top 31) 2
abbrev st_SignsWriter___init : Stmt := inClass (top 32) 0
abbrev st_SignsWriter_write_byte : Stmt := inClass (top 32) 1
abbrev st_SignsWriter_end : Stmt := inClass (top 32) 2
abbrev st_TurningKey___init : Stmt := inClass (top 38) 0
abbrev st_TurningKey_draw : Stmt := inClass (top 38) 1
abbrev st_AddWriter___init : Stmt := inClass (top 39) 0
abbrev st_AddWriter_write_byte : Stmt := inClass (top 39) 1
abbrev st_FrontRow___init : Stmt := inClass (top 40) 0
abbrev st_FrontRow_place_of : Stmt := inClass (top 40) 1
abbrev st_FrontRow_bring_forward : Stmt := inClass (top 40) 2
abbrev st_FrontWriter___init : Stmt := inClass (top 41) 0
abbrev st_FrontWriter_write_byte : Stmt := inClass (top 41) 1
abbrev st_Writer___init : Stmt := inClass (top 47) 0
abbrev st_Writer_take : Stmt := inClass (top 47) 1
abbrev st_Writer_end : Stmt := inClass (top 47) 2
structure TChunksWriter (K : PySem.W.Frag) (mg : Str → Option Value) (C : Addr) : Prop where
  init : CFun K mg "ChunksWriter" C "ChunksWriter.__init__" st_ChunksWriter___init ["self", "n"]
  m_write_byte : MFun K C "write_byte" "ChunksWriter.write_byte" st_ChunksWriter_write_byte ["self", "byte"]
  m_close_chunk : MFun K C "close_chunk" "ChunksWriter.close_chunk" st_ChunksWriter_close_chunk ["self"]
  m_end : MFun K C "end" "ChunksWriter.end" st_ChunksWriter_end ["self"]
  m_take : MFun K C "take" "LayerWriter.take" st_LayerWriter_take ["self", "row"]
  n_n : NoAttr K C "n"
  n_waiting : NoAttr K C "waiting"
theorem TChunksWriter.cl {K : PySem.W.Frag} {mg : Str → Option Value} {C : Addr} (T : TChunksWriter K mg C) : Cls K C := T.init.cl
theorem mk_ChunksWriter {K : PySem.W.Frag} {mg : Str → Option Value} {h : Heap} (X : K.In h) (G : h.Ns mainGlobals mg) {C f_init f_write_byte f_close_chunk f_end f_take : Addr} {oc_init kV_init doc_init pm_init cdv_init ct_init oc_write_byte kV_write_byte doc_write_byte pm_write_byte cdv_write_byte ct_write_byte oc_close_chunk kV_close_chunk doc_close_chunk pm_close_chunk cdv_close_chunk ct_close_chunk oc_end kV_end doc_end pm_end cdv_end ct_end oc_take kV_take doc_take pm_take cdv_take ct_take : Value} {od_init an_init od_write_byte an_write_byte od_close_chunk an_close_chunk od_end an_end od_take an_take : Option Addr} {osl_init osl_write_byte osl_close_chunk osl_end osl_take : Array (Option Value)}
    (aC : PySem.W.nsIn K mainGlobals "ChunksWriter" = some (some (.ref C)))
    (pg : PySem.W.plainGet K C Str.empty = true)
    (hd : PySem.W.hasDictIn K C = true)
    (po : PySem.W.plainOver K C = true)
    (sa : PySem.W.findIn K (.ref C) "__setattr__" = some (some (.builtin "object.__setattr__")))
    (mk : PySem.W.makesIn K C = true)
    (kc : PySem.W.keepIn K (.ref C) = true)
    (a_init : PySem.W.findIn K (.ref C) "__init__" = some (some (.ref f_init)))
    (i_init : PySem.W.isFn K (.ref f_init) = true)
    (l_init : K.lookup f_init = some ⟨oc_init, od_init, .func (PySem.W.fnOf "__init__" "ChunksWriter.__init__" (defArgs st_ChunksWriter___init) (defBody st_ChunksWriter___init) (defScope st_ChunksWriter___init) .none kV_init doc_init pm_init an_init cdv_init ct_init), osl_init⟩)
    (c_init : PySem.W.codeIn K cdv_init "ChunksWriter.__init__" = true)
    (k_init : PySem.W.keepIn K (.ref f_init) = true)
    (a_write_byte : PySem.W.findIn K (.ref C) "write_byte" = some (some (.ref f_write_byte)))
    (i_write_byte : PySem.W.isFn K (.ref f_write_byte) = true)
    (l_write_byte : K.lookup f_write_byte = some ⟨oc_write_byte, od_write_byte, .func (PySem.W.fnOf "write_byte" "ChunksWriter.write_byte" (defArgs st_ChunksWriter_write_byte) (defBody st_ChunksWriter_write_byte) (defScope st_ChunksWriter_write_byte) .none kV_write_byte doc_write_byte pm_write_byte an_write_byte cdv_write_byte ct_write_byte), osl_write_byte⟩)
    (c_write_byte : PySem.W.codeIn K cdv_write_byte "ChunksWriter.write_byte" = true)
    (k_write_byte : PySem.W.keepIn K (.ref f_write_byte) = true)
    (a_close_chunk : PySem.W.findIn K (.ref C) "close_chunk" = some (some (.ref f_close_chunk)))
    (i_close_chunk : PySem.W.isFn K (.ref f_close_chunk) = true)
    (l_close_chunk : K.lookup f_close_chunk = some ⟨oc_close_chunk, od_close_chunk, .func (PySem.W.fnOf "close_chunk" "ChunksWriter.close_chunk" (defArgs st_ChunksWriter_close_chunk) (defBody st_ChunksWriter_close_chunk) (defScope st_ChunksWriter_close_chunk) .none kV_close_chunk doc_close_chunk pm_close_chunk an_close_chunk cdv_close_chunk ct_close_chunk), osl_close_chunk⟩)
    (c_close_chunk : PySem.W.codeIn K cdv_close_chunk "ChunksWriter.close_chunk" = true)
    (k_close_chunk : PySem.W.keepIn K (.ref f_close_chunk) = true)
    (a_end : PySem.W.findIn K (.ref C) "end" = some (some (.ref f_end)))
    (i_end : PySem.W.isFn K (.ref f_end) = true)
    (l_end : K.lookup f_end = some ⟨oc_end, od_end, .func (PySem.W.fnOf "end" "ChunksWriter.end" (defArgs st_ChunksWriter_end) (defBody st_ChunksWriter_end) (defScope st_ChunksWriter_end) .none kV_end doc_end pm_end an_end cdv_end ct_end), osl_end⟩)
    (c_end : PySem.W.codeIn K cdv_end "ChunksWriter.end" = true)
    (k_end : PySem.W.keepIn K (.ref f_end) = true)
    (a_take : PySem.W.findIn K (.ref C) "take" = some (some (.ref f_take)))
    (i_take : PySem.W.isFn K (.ref f_take) = true)
    (l_take : K.lookup f_take = some ⟨oc_take, od_take, .func (PySem.W.fnOf "take" "LayerWriter.take" (defArgs st_LayerWriter_take) (defBody st_LayerWriter_take) (defScope st_LayerWriter_take) .none kV_take doc_take pm_take an_take cdv_take ct_take), osl_take⟩)
    (c_take : PySem.W.codeIn K cdv_take "LayerWriter.take" = true)
    (k_take : PySem.W.keepIn K (.ref f_take) = true)
    (n_n : PySem.W.findIn K (.ref C) "n" = some none)
    (n_waiting : PySem.W.findIn K (.ref C) "waiting" = some none)
    : ∃ C, TChunksWriter K mg C :=
  ⟨C, cfun_mk (ps := ["self", "n"]) X G ⟨pg, hd, po, sa⟩ aC a_init i_init l_init c_init k_init mk kc (fun _ _ _ _ _ _ us hl => match us, hl with | [_, _], _ => rfl), mfun_mk (ps := ["self", "byte"]) ⟨pg, hd, po, sa⟩ a_write_byte i_write_byte l_write_byte c_write_byte k_write_byte (fun _ _ _ _ _ _ us hl => match us, hl with | [_, _], _ => rfl), mfun_mk (ps := ["self"]) ⟨pg, hd, po, sa⟩ a_close_chunk i_close_chunk l_close_chunk c_close_chunk k_close_chunk (fun _ _ _ _ _ _ us hl => match us, hl with | [_], _ => rfl), mfun_mk (ps := ["self"]) ⟨pg, hd, po, sa⟩ a_end i_end l_end c_end k_end (fun _ _ _ _ _ _ us hl => match us, hl with | [_], _ => rfl), mfun_mk (ps := ["self", "row"]) ⟨pg, hd, po, sa⟩ a_take i_take l_take c_take k_take (fun _ _ _ _ _ _ us hl => match us, hl with | [_, _], _ => rfl), n_n, n_waiting⟩
structure TRunningCheck (K : PySem.W.Frag) (mg : Str → Option Value) (C : Addr) : Prop where
  init : CFun K mg "RunningCheck" C "RunningCheck.__init__" st_RunningCheck___init ["self"]
  m_count_byte : MFun K C "count_byte" "RunningCheck.count_byte" st_RunningCheck_count_byte ["self", "byte"]
  m_as_bytes : MFun K C "as_bytes" "RunningCheck.as_bytes" st_RunningCheck_as_bytes ["self"]
  n_check : NoAttr K C "check"
theorem TRunningCheck.cl {K : PySem.W.Frag} {mg : Str → Option Value} {C : Addr} (T : TRunningCheck K mg C) : Cls K C := T.init.cl
theorem mk_RunningCheck {K : PySem.W.Frag} {mg : Str → Option Value} {h : Heap} (X : K.In h) (G : h.Ns mainGlobals mg) {C f_init f_count_byte f_as_bytes : Addr} {oc_init kV_init doc_init pm_init cdv_init ct_init oc_count_byte kV_count_byte doc_count_byte pm_count_byte cdv_count_byte ct_count_byte oc_as_bytes kV_as_bytes doc_as_bytes pm_as_bytes cdv_as_bytes ct_as_bytes : Value} {od_init an_init od_count_byte an_count_byte od_as_bytes an_as_bytes : Option Addr} {osl_init osl_count_byte osl_as_bytes : Array (Option Value)}
    (aC : PySem.W.nsIn K mainGlobals "RunningCheck" = some (some (.ref C)))
    (pg : PySem.W.plainGet K C Str.empty = true)
    (hd : PySem.W.hasDictIn K C = true)
    (po : PySem.W.plainOver K C = true)
    (sa : PySem.W.findIn K (.ref C) "__setattr__" = some (some (.builtin "object.__setattr__")))
    (mk : PySem.W.makesIn K C = true)
    (kc : PySem.W.keepIn K (.ref C) = true)
    (a_init : PySem.W.findIn K (.ref C) "__init__" = some (some (.ref f_init)))
    (i_init : PySem.W.isFn K (.ref f_init) = true)
    (l_init : K.lookup f_init = some ⟨oc_init, od_init, .func (PySem.W.fnOf "__init__" "RunningCheck.__init__" (defArgs st_RunningCheck___init) (defBody st_RunningCheck___init) (defScope st_RunningCheck___init) .none kV_init doc_init pm_init an_init cdv_init ct_init), osl_init⟩)
    (c_init : PySem.W.codeIn K cdv_init "RunningCheck.__init__" = true)
    (k_init : PySem.W.keepIn K (.ref f_init) = true)
    (a_count_byte : PySem.W.findIn K (.ref C) "count_byte" = some (some (.ref f_count_byte)))
    (i_count_byte : PySem.W.isFn K (.ref f_count_byte) = true)
    (l_count_byte : K.lookup f_count_byte = some ⟨oc_count_byte, od_count_byte, .func (PySem.W.fnOf "count_byte" "RunningCheck.count_byte" (defArgs st_RunningCheck_count_byte) (defBody st_RunningCheck_count_byte) (defScope st_RunningCheck_count_byte) .none kV_count_byte doc_count_byte pm_count_byte an_count_byte cdv_count_byte ct_count_byte), osl_count_byte⟩)
    (c_count_byte : PySem.W.codeIn K cdv_count_byte "RunningCheck.count_byte" = true)
    (k_count_byte : PySem.W.keepIn K (.ref f_count_byte) = true)
    (a_as_bytes : PySem.W.findIn K (.ref C) "as_bytes" = some (some (.ref f_as_bytes)))
    (i_as_bytes : PySem.W.isFn K (.ref f_as_bytes) = true)
    (l_as_bytes : K.lookup f_as_bytes = some ⟨oc_as_bytes, od_as_bytes, .func (PySem.W.fnOf "as_bytes" "RunningCheck.as_bytes" (defArgs st_RunningCheck_as_bytes) (defBody st_RunningCheck_as_bytes) (defScope st_RunningCheck_as_bytes) .none kV_as_bytes doc_as_bytes pm_as_bytes an_as_bytes cdv_as_bytes ct_as_bytes), osl_as_bytes⟩)
    (c_as_bytes : PySem.W.codeIn K cdv_as_bytes "RunningCheck.as_bytes" = true)
    (k_as_bytes : PySem.W.keepIn K (.ref f_as_bytes) = true)
    (n_check : PySem.W.findIn K (.ref C) "check" = some none)
    : ∃ C, TRunningCheck K mg C :=
  ⟨C, cfun_mk (ps := ["self"]) X G ⟨pg, hd, po, sa⟩ aC a_init i_init l_init c_init k_init mk kc (fun _ _ _ _ _ _ us hl => match us, hl with | [_], _ => rfl), mfun_mk (ps := ["self", "byte"]) ⟨pg, hd, po, sa⟩ a_count_byte i_count_byte l_count_byte c_count_byte k_count_byte (fun _ _ _ _ _ _ us hl => match us, hl with | [_, _], _ => rfl), mfun_mk (ps := ["self"]) ⟨pg, hd, po, sa⟩ a_as_bytes i_as_bytes l_as_bytes c_as_bytes k_as_bytes (fun _ _ _ _ _ _ us hl => match us, hl with | [_], _ => rfl), n_check⟩
structure TChecksWriter (K : PySem.W.Frag) (mg : Str → Option Value) (C : Addr) : Prop where
  init : CFun K mg "ChecksWriter" C "ChecksWriter.__init__" st_ChecksWriter___init ["self", "n"]
  m_write_byte : MFun K C "write_byte" "ChecksWriter.write_byte" st_ChecksWriter_write_byte ["self", "byte"]
  m_end : MFun K C "end" "ChecksWriter.end" st_ChecksWriter_end ["self"]
  m_take : MFun K C "take" "LayerWriter.take" st_LayerWriter_take ["self", "row"]
  n_n : NoAttr K C "n"
  n_running : NoAttr K C "running"
  n_unchecked : NoAttr K C "unchecked"
theorem TChecksWriter.cl {K : PySem.W.Frag} {mg : Str → Option Value} {C : Addr} (T : TChecksWriter K mg C) : Cls K C := T.init.cl
theorem mk_ChecksWriter {K : PySem.W.Frag} {mg : Str → Option Value} {h : Heap} (X : K.In h) (G : h.Ns mainGlobals mg) {C f_init f_write_byte f_end f_take : Addr} {oc_init kV_init doc_init pm_init cdv_init ct_init oc_write_byte kV_write_byte doc_write_byte pm_write_byte cdv_write_byte ct_write_byte oc_end kV_end doc_end pm_end cdv_end ct_end oc_take kV_take doc_take pm_take cdv_take ct_take : Value} {od_init an_init od_write_byte an_write_byte od_end an_end od_take an_take : Option Addr} {osl_init osl_write_byte osl_end osl_take : Array (Option Value)}
    (aC : PySem.W.nsIn K mainGlobals "ChecksWriter" = some (some (.ref C)))
    (pg : PySem.W.plainGet K C Str.empty = true)
    (hd : PySem.W.hasDictIn K C = true)
    (po : PySem.W.plainOver K C = true)
    (sa : PySem.W.findIn K (.ref C) "__setattr__" = some (some (.builtin "object.__setattr__")))
    (mk : PySem.W.makesIn K C = true)
    (kc : PySem.W.keepIn K (.ref C) = true)
    (a_init : PySem.W.findIn K (.ref C) "__init__" = some (some (.ref f_init)))
    (i_init : PySem.W.isFn K (.ref f_init) = true)
    (l_init : K.lookup f_init = some ⟨oc_init, od_init, .func (PySem.W.fnOf "__init__" "ChecksWriter.__init__" (defArgs st_ChecksWriter___init) (defBody st_ChecksWriter___init) (defScope st_ChecksWriter___init) .none kV_init doc_init pm_init an_init cdv_init ct_init), osl_init⟩)
    (c_init : PySem.W.codeIn K cdv_init "ChecksWriter.__init__" = true)
    (k_init : PySem.W.keepIn K (.ref f_init) = true)
    (a_write_byte : PySem.W.findIn K (.ref C) "write_byte" = some (some (.ref f_write_byte)))
    (i_write_byte : PySem.W.isFn K (.ref f_write_byte) = true)
    (l_write_byte : K.lookup f_write_byte = some ⟨oc_write_byte, od_write_byte, .func (PySem.W.fnOf "write_byte" "ChecksWriter.write_byte" (defArgs st_ChecksWriter_write_byte) (defBody st_ChecksWriter_write_byte) (defScope st_ChecksWriter_write_byte) .none kV_write_byte doc_write_byte pm_write_byte an_write_byte cdv_write_byte ct_write_byte), osl_write_byte⟩)
    (c_write_byte : PySem.W.codeIn K cdv_write_byte "ChecksWriter.write_byte" = true)
    (k_write_byte : PySem.W.keepIn K (.ref f_write_byte) = true)
    (a_end : PySem.W.findIn K (.ref C) "end" = some (some (.ref f_end)))
    (i_end : PySem.W.isFn K (.ref f_end) = true)
    (l_end : K.lookup f_end = some ⟨oc_end, od_end, .func (PySem.W.fnOf "end" "ChecksWriter.end" (defArgs st_ChecksWriter_end) (defBody st_ChecksWriter_end) (defScope st_ChecksWriter_end) .none kV_end doc_end pm_end an_end cdv_end ct_end), osl_end⟩)
    (c_end : PySem.W.codeIn K cdv_end "ChecksWriter.end" = true)
    (k_end : PySem.W.keepIn K (.ref f_end) = true)
    (a_take : PySem.W.findIn K (.ref C) "take" = some (some (.ref f_take)))
    (i_take : PySem.W.isFn K (.ref f_take) = true)
    (l_take : K.lookup f_take = some ⟨oc_take, od_take, .func (PySem.W.fnOf "take" "LayerWriter.take" (defArgs st_LayerWriter_take) (defBody st_LayerWriter_take) (defScope st_LayerWriter_take) .none kV_take doc_take pm_take an_take cdv_take ct_take), osl_take⟩)
    (c_take : PySem.W.codeIn K cdv_take "LayerWriter.take" = true)
    (k_take : PySem.W.keepIn K (.ref f_take) = true)
    (n_n : PySem.W.findIn K (.ref C) "n" = some none)
    (n_running : PySem.W.findIn K (.ref C) "running" = some none)
    (n_unchecked : PySem.W.findIn K (.ref C) "unchecked" = some none)
    : ∃ C, TChecksWriter K mg C :=
  ⟨C, cfun_mk (ps := ["self", "n"]) X G ⟨pg, hd, po, sa⟩ aC a_init i_init l_init c_init k_init mk kc (fun _ _ _ _ _ _ us hl => match us, hl with | [_, _], _ => rfl), mfun_mk (ps := ["self", "byte"]) ⟨pg, hd, po, sa⟩ a_write_byte i_write_byte l_write_byte c_write_byte k_write_byte (fun _ _ _ _ _ _ us hl => match us, hl with | [_, _], _ => rfl), mfun_mk (ps := ["self"]) ⟨pg, hd, po, sa⟩ a_end i_end l_end c_end k_end (fun _ _ _ _ _ _ us hl => match us, hl with | [_], _ => rfl), mfun_mk (ps := ["self", "row"]) ⟨pg, hd, po, sa⟩ a_take i_take l_take c_take k_take (fun _ _ _ _ _ _ us hl => match us, hl with | [_, _], _ => rfl), n_n, n_running, n_unchecked⟩
structure TEscapeWriter (K : PySem.W.Frag) (mg : Str → Option Value) (C : Addr) : Prop where
  init : CFun K mg "EscapeWriter" C "EscapeWriter.__init__" st_EscapeWriter___init ["self", "b"]
  m_write_byte : MFun K C "write_byte" "EscapeWriter.write_byte" st_EscapeWriter_write_byte ["self", "byte"]
  m_take : MFun K C "take" "LayerWriter.take" st_LayerWriter_take ["self", "row"]
  m_end : MFun K C "end" "LayerWriter.end" st_LayerWriter_end ["self"]
  n_pairs : NoAttr K C "pairs"
theorem TEscapeWriter.cl {K : PySem.W.Frag} {mg : Str → Option Value} {C : Addr} (T : TEscapeWriter K mg C) : Cls K C := T.init.cl
theorem mk_EscapeWriter {K : PySem.W.Frag} {mg : Str → Option Value} {h : Heap} (X : K.In h) (G : h.Ns mainGlobals mg) {C f_init f_write_byte f_take f_end : Addr} {oc_init kV_init doc_init pm_init cdv_init ct_init oc_write_byte kV_write_byte doc_write_byte pm_write_byte cdv_write_byte ct_write_byte oc_take kV_take doc_take pm_take cdv_take ct_take oc_end kV_end doc_end pm_end cdv_end ct_end : Value} {od_init an_init od_write_byte an_write_byte od_take an_take od_end an_end : Option Addr} {osl_init osl_write_byte osl_take osl_end : Array (Option Value)}
    (aC : PySem.W.nsIn K mainGlobals "EscapeWriter" = some (some (.ref C)))
    (pg : PySem.W.plainGet K C Str.empty = true)
    (hd : PySem.W.hasDictIn K C = true)
    (po : PySem.W.plainOver K C = true)
    (sa : PySem.W.findIn K (.ref C) "__setattr__" = some (some (.builtin "object.__setattr__")))
    (mk : PySem.W.makesIn K C = true)
    (kc : PySem.W.keepIn K (.ref C) = true)
    (a_init : PySem.W.findIn K (.ref C) "__init__" = some (some (.ref f_init)))
    (i_init : PySem.W.isFn K (.ref f_init) = true)
    (l_init : K.lookup f_init = some ⟨oc_init, od_init, .func (PySem.W.fnOf "__init__" "EscapeWriter.__init__" (defArgs st_EscapeWriter___init) (defBody st_EscapeWriter___init) (defScope st_EscapeWriter___init) .none kV_init doc_init pm_init an_init cdv_init ct_init), osl_init⟩)
    (c_init : PySem.W.codeIn K cdv_init "EscapeWriter.__init__" = true)
    (k_init : PySem.W.keepIn K (.ref f_init) = true)
    (a_write_byte : PySem.W.findIn K (.ref C) "write_byte" = some (some (.ref f_write_byte)))
    (i_write_byte : PySem.W.isFn K (.ref f_write_byte) = true)
    (l_write_byte : K.lookup f_write_byte = some ⟨oc_write_byte, od_write_byte, .func (PySem.W.fnOf "write_byte" "EscapeWriter.write_byte" (defArgs st_EscapeWriter_write_byte) (defBody st_EscapeWriter_write_byte) (defScope st_EscapeWriter_write_byte) .none kV_write_byte doc_write_byte pm_write_byte an_write_byte cdv_write_byte ct_write_byte), osl_write_byte⟩)
    (c_write_byte : PySem.W.codeIn K cdv_write_byte "EscapeWriter.write_byte" = true)
    (k_write_byte : PySem.W.keepIn K (.ref f_write_byte) = true)
    (a_take : PySem.W.findIn K (.ref C) "take" = some (some (.ref f_take)))
    (i_take : PySem.W.isFn K (.ref f_take) = true)
    (l_take : K.lookup f_take = some ⟨oc_take, od_take, .func (PySem.W.fnOf "take" "LayerWriter.take" (defArgs st_LayerWriter_take) (defBody st_LayerWriter_take) (defScope st_LayerWriter_take) .none kV_take doc_take pm_take an_take cdv_take ct_take), osl_take⟩)
    (c_take : PySem.W.codeIn K cdv_take "LayerWriter.take" = true)
    (k_take : PySem.W.keepIn K (.ref f_take) = true)
    (a_end : PySem.W.findIn K (.ref C) "end" = some (some (.ref f_end)))
    (i_end : PySem.W.isFn K (.ref f_end) = true)
    (l_end : K.lookup f_end = some ⟨oc_end, od_end, .func (PySem.W.fnOf "end" "LayerWriter.end" (defArgs st_LayerWriter_end) (defBody st_LayerWriter_end) (defScope st_LayerWriter_end) .none kV_end doc_end pm_end an_end cdv_end ct_end), osl_end⟩)
    (c_end : PySem.W.codeIn K cdv_end "LayerWriter.end" = true)
    (k_end : PySem.W.keepIn K (.ref f_end) = true)
    (n_pairs : PySem.W.findIn K (.ref C) "pairs" = some none)
    : ∃ C, TEscapeWriter K mg C :=
  ⟨C, cfun_mk (ps := ["self", "b"]) X G ⟨pg, hd, po, sa⟩ aC a_init i_init l_init c_init k_init mk kc (fun _ _ _ _ _ _ us hl => match us, hl with | [_, _], _ => rfl), mfun_mk (ps := ["self", "byte"]) ⟨pg, hd, po, sa⟩ a_write_byte i_write_byte l_write_byte c_write_byte k_write_byte (fun _ _ _ _ _ _ us hl => match us, hl with | [_, _], _ => rfl), mfun_mk (ps := ["self", "row"]) ⟨pg, hd, po, sa⟩ a_take i_take l_take c_take k_take (fun _ _ _ _ _ _ us hl => match us, hl with | [_, _], _ => rfl), mfun_mk (ps := ["self"]) ⟨pg, hd, po, sa⟩ a_end i_end l_end c_end k_end (fun _ _ _ _ _ _ us hl => match us, hl with | [_], _ => rfl), n_pairs⟩
structure TRunsWriter (K : PySem.W.Frag) (mg : Str → Option Value) (C : Addr) : Prop where
  init : CFun K mg "RunsWriter" C "RunsWriter.__init__" st_RunsWriter___init ["self"]
  m_write_byte : MFun K C "write_byte" "RunsWriter.write_byte" st_RunsWriter_write_byte ["self", "byte"]
  m_close_run : MFun K C "close_run" "RunsWriter.close_run" st_RunsWriter_close_run ["self"]
  m_end : MFun K C "end" "RunsWriter.end" st_RunsWriter_end ["self"]
  m_take : MFun K C "take" "LayerWriter.take" st_LayerWriter_take ["self", "row"]
  n_count : NoAttr K C "count"
  n_byte : NoAttr K C "byte"
theorem TRunsWriter.cl {K : PySem.W.Frag} {mg : Str → Option Value} {C : Addr} (T : TRunsWriter K mg C) : Cls K C := T.init.cl
theorem mk_RunsWriter {K : PySem.W.Frag} {mg : Str → Option Value} {h : Heap} (X : K.In h) (G : h.Ns mainGlobals mg) {C f_init f_write_byte f_close_run f_end f_take : Addr} {oc_init kV_init doc_init pm_init cdv_init ct_init oc_write_byte kV_write_byte doc_write_byte pm_write_byte cdv_write_byte ct_write_byte oc_close_run kV_close_run doc_close_run pm_close_run cdv_close_run ct_close_run oc_end kV_end doc_end pm_end cdv_end ct_end oc_take kV_take doc_take pm_take cdv_take ct_take : Value} {od_init an_init od_write_byte an_write_byte od_close_run an_close_run od_end an_end od_take an_take : Option Addr} {osl_init osl_write_byte osl_close_run osl_end osl_take : Array (Option Value)}
    (aC : PySem.W.nsIn K mainGlobals "RunsWriter" = some (some (.ref C)))
    (pg : PySem.W.plainGet K C Str.empty = true)
    (hd : PySem.W.hasDictIn K C = true)
    (po : PySem.W.plainOver K C = true)
    (sa : PySem.W.findIn K (.ref C) "__setattr__" = some (some (.builtin "object.__setattr__")))
    (mk : PySem.W.makesIn K C = true)
    (kc : PySem.W.keepIn K (.ref C) = true)
    (a_init : PySem.W.findIn K (.ref C) "__init__" = some (some (.ref f_init)))
    (i_init : PySem.W.isFn K (.ref f_init) = true)
    (l_init : K.lookup f_init = some ⟨oc_init, od_init, .func (PySem.W.fnOf "__init__" "RunsWriter.__init__" (defArgs st_RunsWriter___init) (defBody st_RunsWriter___init) (defScope st_RunsWriter___init) .none kV_init doc_init pm_init an_init cdv_init ct_init), osl_init⟩)
    (c_init : PySem.W.codeIn K cdv_init "RunsWriter.__init__" = true)
    (k_init : PySem.W.keepIn K (.ref f_init) = true)
    (a_write_byte : PySem.W.findIn K (.ref C) "write_byte" = some (some (.ref f_write_byte)))
    (i_write_byte : PySem.W.isFn K (.ref f_write_byte) = true)
    (l_write_byte : K.lookup f_write_byte = some ⟨oc_write_byte, od_write_byte, .func (PySem.W.fnOf "write_byte" "RunsWriter.write_byte" (defArgs st_RunsWriter_write_byte) (defBody st_RunsWriter_write_byte) (defScope st_RunsWriter_write_byte) .none kV_write_byte doc_write_byte pm_write_byte an_write_byte cdv_write_byte ct_write_byte), osl_write_byte⟩)
    (c_write_byte : PySem.W.codeIn K cdv_write_byte "RunsWriter.write_byte" = true)
    (k_write_byte : PySem.W.keepIn K (.ref f_write_byte) = true)
    (a_close_run : PySem.W.findIn K (.ref C) "close_run" = some (some (.ref f_close_run)))
    (i_close_run : PySem.W.isFn K (.ref f_close_run) = true)
    (l_close_run : K.lookup f_close_run = some ⟨oc_close_run, od_close_run, .func (PySem.W.fnOf "close_run" "RunsWriter.close_run" (defArgs st_RunsWriter_close_run) (defBody st_RunsWriter_close_run) (defScope st_RunsWriter_close_run) .none kV_close_run doc_close_run pm_close_run an_close_run cdv_close_run ct_close_run), osl_close_run⟩)
    (c_close_run : PySem.W.codeIn K cdv_close_run "RunsWriter.close_run" = true)
    (k_close_run : PySem.W.keepIn K (.ref f_close_run) = true)
    (a_end : PySem.W.findIn K (.ref C) "end" = some (some (.ref f_end)))
    (i_end : PySem.W.isFn K (.ref f_end) = true)
    (l_end : K.lookup f_end = some ⟨oc_end, od_end, .func (PySem.W.fnOf "end" "RunsWriter.end" (defArgs st_RunsWriter_end) (defBody st_RunsWriter_end) (defScope st_RunsWriter_end) .none kV_end doc_end pm_end an_end cdv_end ct_end), osl_end⟩)
    (c_end : PySem.W.codeIn K cdv_end "RunsWriter.end" = true)
    (k_end : PySem.W.keepIn K (.ref f_end) = true)
    (a_take : PySem.W.findIn K (.ref C) "take" = some (some (.ref f_take)))
    (i_take : PySem.W.isFn K (.ref f_take) = true)
    (l_take : K.lookup f_take = some ⟨oc_take, od_take, .func (PySem.W.fnOf "take" "LayerWriter.take" (defArgs st_LayerWriter_take) (defBody st_LayerWriter_take) (defScope st_LayerWriter_take) .none kV_take doc_take pm_take an_take cdv_take ct_take), osl_take⟩)
    (c_take : PySem.W.codeIn K cdv_take "LayerWriter.take" = true)
    (k_take : PySem.W.keepIn K (.ref f_take) = true)
    (n_count : PySem.W.findIn K (.ref C) "count" = some none)
    (n_byte : PySem.W.findIn K (.ref C) "byte" = some none)
    : ∃ C, TRunsWriter K mg C :=
  ⟨C, cfun_mk (ps := ["self"]) X G ⟨pg, hd, po, sa⟩ aC a_init i_init l_init c_init k_init mk kc (fun _ _ _ _ _ _ us hl => match us, hl with | [_], _ => rfl), mfun_mk (ps := ["self", "byte"]) ⟨pg, hd, po, sa⟩ a_write_byte i_write_byte l_write_byte c_write_byte k_write_byte (fun _ _ _ _ _ _ us hl => match us, hl with | [_, _], _ => rfl), mfun_mk (ps := ["self"]) ⟨pg, hd, po, sa⟩ a_close_run i_close_run l_close_run c_close_run k_close_run (fun _ _ _ _ _ _ us hl => match us, hl with | [_], _ => rfl), mfun_mk (ps := ["self"]) ⟨pg, hd, po, sa⟩ a_end i_end l_end c_end k_end (fun _ _ _ _ _ _ us hl => match us, hl with | [_], _ => rfl), mfun_mk (ps := ["self", "row"]) ⟨pg, hd, po, sa⟩ a_take i_take l_take c_take k_take (fun _ _ _ _ _ _ us hl => match us, hl with | [_, _], _ => rfl), n_count, n_byte⟩
structure THeldDigits (K : PySem.W.Frag) (mg : Str → Option Value) (C : Addr) : Prop where
  init : CFun K mg "HeldDigits" C "HeldDigits.__init__" st_HeldDigits___init ["self"]
  m_push : MFun K C "push" "HeldDigits.push" st_HeldDigits_push ["self", "number", "width"]
  m_draw_digits : MFun K C "draw_digits" "HeldDigits.draw_digits" st_HeldDigits_draw_digits ["self", "width"]
  n_held : NoAttr K C "held"
  n_width : NoAttr K C "width"
theorem THeldDigits.cl {K : PySem.W.Frag} {mg : Str → Option Value} {C : Addr} (T : THeldDigits K mg C) : Cls K C := T.init.cl
theorem mk_HeldDigits {K : PySem.W.Frag} {mg : Str → Option Value} {h : Heap} (X : K.In h) (G : h.Ns mainGlobals mg) {C f_init f_push f_draw_digits : Addr} {oc_init kV_init doc_init pm_init cdv_init ct_init oc_push kV_push doc_push pm_push cdv_push ct_push oc_draw_digits kV_draw_digits doc_draw_digits pm_draw_digits cdv_draw_digits ct_draw_digits : Value} {od_init an_init od_push an_push od_draw_digits an_draw_digits : Option Addr} {osl_init osl_push osl_draw_digits : Array (Option Value)}
    (aC : PySem.W.nsIn K mainGlobals "HeldDigits" = some (some (.ref C)))
    (pg : PySem.W.plainGet K C Str.empty = true)
    (hd : PySem.W.hasDictIn K C = true)
    (po : PySem.W.plainOver K C = true)
    (sa : PySem.W.findIn K (.ref C) "__setattr__" = some (some (.builtin "object.__setattr__")))
    (mk : PySem.W.makesIn K C = true)
    (kc : PySem.W.keepIn K (.ref C) = true)
    (a_init : PySem.W.findIn K (.ref C) "__init__" = some (some (.ref f_init)))
    (i_init : PySem.W.isFn K (.ref f_init) = true)
    (l_init : K.lookup f_init = some ⟨oc_init, od_init, .func (PySem.W.fnOf "__init__" "HeldDigits.__init__" (defArgs st_HeldDigits___init) (defBody st_HeldDigits___init) (defScope st_HeldDigits___init) .none kV_init doc_init pm_init an_init cdv_init ct_init), osl_init⟩)
    (c_init : PySem.W.codeIn K cdv_init "HeldDigits.__init__" = true)
    (k_init : PySem.W.keepIn K (.ref f_init) = true)
    (a_push : PySem.W.findIn K (.ref C) "push" = some (some (.ref f_push)))
    (i_push : PySem.W.isFn K (.ref f_push) = true)
    (l_push : K.lookup f_push = some ⟨oc_push, od_push, .func (PySem.W.fnOf "push" "HeldDigits.push" (defArgs st_HeldDigits_push) (defBody st_HeldDigits_push) (defScope st_HeldDigits_push) .none kV_push doc_push pm_push an_push cdv_push ct_push), osl_push⟩)
    (c_push : PySem.W.codeIn K cdv_push "HeldDigits.push" = true)
    (k_push : PySem.W.keepIn K (.ref f_push) = true)
    (a_draw_digits : PySem.W.findIn K (.ref C) "draw_digits" = some (some (.ref f_draw_digits)))
    (i_draw_digits : PySem.W.isFn K (.ref f_draw_digits) = true)
    (l_draw_digits : K.lookup f_draw_digits = some ⟨oc_draw_digits, od_draw_digits, .func (PySem.W.fnOf "draw_digits" "HeldDigits.draw_digits" (defArgs st_HeldDigits_draw_digits) (defBody st_HeldDigits_draw_digits) (defScope st_HeldDigits_draw_digits) .none kV_draw_digits doc_draw_digits pm_draw_digits an_draw_digits cdv_draw_digits ct_draw_digits), osl_draw_digits⟩)
    (c_draw_digits : PySem.W.codeIn K cdv_draw_digits "HeldDigits.draw_digits" = true)
    (k_draw_digits : PySem.W.keepIn K (.ref f_draw_digits) = true)
    (n_held : PySem.W.findIn K (.ref C) "held" = some none)
    (n_width : PySem.W.findIn K (.ref C) "width" = some none)
    : ∃ C, THeldDigits K mg C :=
  ⟨C, cfun_mk (ps := ["self"]) X G ⟨pg, hd, po, sa⟩ aC a_init i_init l_init c_init k_init mk kc (fun _ _ _ _ _ _ us hl => match us, hl with | [_], _ => rfl), mfun_mk (ps := ["self", "number", "width"]) ⟨pg, hd, po, sa⟩ a_push i_push l_push c_push k_push (fun _ _ _ _ _ _ us hl => match us, hl with | [_, _, _], _ => rfl), mfun_mk (ps := ["self", "width"]) ⟨pg, hd, po, sa⟩ a_draw_digits i_draw_digits l_draw_digits c_draw_digits k_draw_digits (fun _ _ _ _ _ _ us hl => match us, hl with | [_, _], _ => rfl), n_held, n_width⟩
structure TSignsWriter (K : PySem.W.Frag) (mg : Str → Option Value) (C : Addr) : Prop where
  init : CFun K mg "SignsWriter" C "SignsWriter.__init__" st_SignsWriter___init ["self"]
  m_write_byte : MFun K C "write_byte" "SignsWriter.write_byte" st_SignsWriter_write_byte ["self", "byte"]
  m_end : MFun K C "end" "SignsWriter.end" st_SignsWriter_end ["self"]
  m_take : MFun K C "take" "LayerWriter.take" st_LayerWriter_take ["self", "row"]
  n_digits : NoAttr K C "digits"
theorem TSignsWriter.cl {K : PySem.W.Frag} {mg : Str → Option Value} {C : Addr} (T : TSignsWriter K mg C) : Cls K C := T.init.cl
theorem mk_SignsWriter {K : PySem.W.Frag} {mg : Str → Option Value} {h : Heap} (X : K.In h) (G : h.Ns mainGlobals mg) {C f_init f_write_byte f_end f_take : Addr} {oc_init kV_init doc_init pm_init cdv_init ct_init oc_write_byte kV_write_byte doc_write_byte pm_write_byte cdv_write_byte ct_write_byte oc_end kV_end doc_end pm_end cdv_end ct_end oc_take kV_take doc_take pm_take cdv_take ct_take : Value} {od_init an_init od_write_byte an_write_byte od_end an_end od_take an_take : Option Addr} {osl_init osl_write_byte osl_end osl_take : Array (Option Value)}
    (aC : PySem.W.nsIn K mainGlobals "SignsWriter" = some (some (.ref C)))
    (pg : PySem.W.plainGet K C Str.empty = true)
    (hd : PySem.W.hasDictIn K C = true)
    (po : PySem.W.plainOver K C = true)
    (sa : PySem.W.findIn K (.ref C) "__setattr__" = some (some (.builtin "object.__setattr__")))
    (mk : PySem.W.makesIn K C = true)
    (kc : PySem.W.keepIn K (.ref C) = true)
    (a_init : PySem.W.findIn K (.ref C) "__init__" = some (some (.ref f_init)))
    (i_init : PySem.W.isFn K (.ref f_init) = true)
    (l_init : K.lookup f_init = some ⟨oc_init, od_init, .func (PySem.W.fnOf "__init__" "SignsWriter.__init__" (defArgs st_SignsWriter___init) (defBody st_SignsWriter___init) (defScope st_SignsWriter___init) .none kV_init doc_init pm_init an_init cdv_init ct_init), osl_init⟩)
    (c_init : PySem.W.codeIn K cdv_init "SignsWriter.__init__" = true)
    (k_init : PySem.W.keepIn K (.ref f_init) = true)
    (a_write_byte : PySem.W.findIn K (.ref C) "write_byte" = some (some (.ref f_write_byte)))
    (i_write_byte : PySem.W.isFn K (.ref f_write_byte) = true)
    (l_write_byte : K.lookup f_write_byte = some ⟨oc_write_byte, od_write_byte, .func (PySem.W.fnOf "write_byte" "SignsWriter.write_byte" (defArgs st_SignsWriter_write_byte) (defBody st_SignsWriter_write_byte) (defScope st_SignsWriter_write_byte) .none kV_write_byte doc_write_byte pm_write_byte an_write_byte cdv_write_byte ct_write_byte), osl_write_byte⟩)
    (c_write_byte : PySem.W.codeIn K cdv_write_byte "SignsWriter.write_byte" = true)
    (k_write_byte : PySem.W.keepIn K (.ref f_write_byte) = true)
    (a_end : PySem.W.findIn K (.ref C) "end" = some (some (.ref f_end)))
    (i_end : PySem.W.isFn K (.ref f_end) = true)
    (l_end : K.lookup f_end = some ⟨oc_end, od_end, .func (PySem.W.fnOf "end" "SignsWriter.end" (defArgs st_SignsWriter_end) (defBody st_SignsWriter_end) (defScope st_SignsWriter_end) .none kV_end doc_end pm_end an_end cdv_end ct_end), osl_end⟩)
    (c_end : PySem.W.codeIn K cdv_end "SignsWriter.end" = true)
    (k_end : PySem.W.keepIn K (.ref f_end) = true)
    (a_take : PySem.W.findIn K (.ref C) "take" = some (some (.ref f_take)))
    (i_take : PySem.W.isFn K (.ref f_take) = true)
    (l_take : K.lookup f_take = some ⟨oc_take, od_take, .func (PySem.W.fnOf "take" "LayerWriter.take" (defArgs st_LayerWriter_take) (defBody st_LayerWriter_take) (defScope st_LayerWriter_take) .none kV_take doc_take pm_take an_take cdv_take ct_take), osl_take⟩)
    (c_take : PySem.W.codeIn K cdv_take "LayerWriter.take" = true)
    (k_take : PySem.W.keepIn K (.ref f_take) = true)
    (n_digits : PySem.W.findIn K (.ref C) "digits" = some none)
    : ∃ C, TSignsWriter K mg C :=
  ⟨C, cfun_mk (ps := ["self"]) X G ⟨pg, hd, po, sa⟩ aC a_init i_init l_init c_init k_init mk kc (fun _ _ _ _ _ _ us hl => match us, hl with | [_], _ => rfl), mfun_mk (ps := ["self", "byte"]) ⟨pg, hd, po, sa⟩ a_write_byte i_write_byte l_write_byte c_write_byte k_write_byte (fun _ _ _ _ _ _ us hl => match us, hl with | [_, _], _ => rfl), mfun_mk (ps := ["self"]) ⟨pg, hd, po, sa⟩ a_end i_end l_end c_end k_end (fun _ _ _ _ _ _ us hl => match us, hl with | [_], _ => rfl), mfun_mk (ps := ["self", "row"]) ⟨pg, hd, po, sa⟩ a_take i_take l_take c_take k_take (fun _ _ _ _ _ _ us hl => match us, hl with | [_, _], _ => rfl), n_digits⟩
structure TTurningKey (K : PySem.W.Frag) (mg : Str → Option Value) (C : Addr) : Prop where
  init : CFun K mg "TurningKey" C "TurningKey.__init__" st_TurningKey___init ["self", "key"]
  m_draw : MFun K C "draw" "TurningKey.draw" st_TurningKey_draw ["self"]
  n_key : NoAttr K C "key"
  n_turn : NoAttr K C "turn"
theorem TTurningKey.cl {K : PySem.W.Frag} {mg : Str → Option Value} {C : Addr} (T : TTurningKey K mg C) : Cls K C := T.init.cl
theorem mk_TurningKey {K : PySem.W.Frag} {mg : Str → Option Value} {h : Heap} (X : K.In h) (G : h.Ns mainGlobals mg) {C f_init f_draw : Addr} {oc_init kV_init doc_init pm_init cdv_init ct_init oc_draw kV_draw doc_draw pm_draw cdv_draw ct_draw : Value} {od_init an_init od_draw an_draw : Option Addr} {osl_init osl_draw : Array (Option Value)}
    (aC : PySem.W.nsIn K mainGlobals "TurningKey" = some (some (.ref C)))
    (pg : PySem.W.plainGet K C Str.empty = true)
    (hd : PySem.W.hasDictIn K C = true)
    (po : PySem.W.plainOver K C = true)
    (sa : PySem.W.findIn K (.ref C) "__setattr__" = some (some (.builtin "object.__setattr__")))
    (mk : PySem.W.makesIn K C = true)
    (kc : PySem.W.keepIn K (.ref C) = true)
    (a_init : PySem.W.findIn K (.ref C) "__init__" = some (some (.ref f_init)))
    (i_init : PySem.W.isFn K (.ref f_init) = true)
    (l_init : K.lookup f_init = some ⟨oc_init, od_init, .func (PySem.W.fnOf "__init__" "TurningKey.__init__" (defArgs st_TurningKey___init) (defBody st_TurningKey___init) (defScope st_TurningKey___init) .none kV_init doc_init pm_init an_init cdv_init ct_init), osl_init⟩)
    (c_init : PySem.W.codeIn K cdv_init "TurningKey.__init__" = true)
    (k_init : PySem.W.keepIn K (.ref f_init) = true)
    (a_draw : PySem.W.findIn K (.ref C) "draw" = some (some (.ref f_draw)))
    (i_draw : PySem.W.isFn K (.ref f_draw) = true)
    (l_draw : K.lookup f_draw = some ⟨oc_draw, od_draw, .func (PySem.W.fnOf "draw" "TurningKey.draw" (defArgs st_TurningKey_draw) (defBody st_TurningKey_draw) (defScope st_TurningKey_draw) .none kV_draw doc_draw pm_draw an_draw cdv_draw ct_draw), osl_draw⟩)
    (c_draw : PySem.W.codeIn K cdv_draw "TurningKey.draw" = true)
    (k_draw : PySem.W.keepIn K (.ref f_draw) = true)
    (n_key : PySem.W.findIn K (.ref C) "key" = some none)
    (n_turn : PySem.W.findIn K (.ref C) "turn" = some none)
    : ∃ C, TTurningKey K mg C :=
  ⟨C, cfun_mk (ps := ["self", "key"]) X G ⟨pg, hd, po, sa⟩ aC a_init i_init l_init c_init k_init mk kc (fun _ _ _ _ _ _ us hl => match us, hl with | [_, _], _ => rfl), mfun_mk (ps := ["self"]) ⟨pg, hd, po, sa⟩ a_draw i_draw l_draw c_draw k_draw (fun _ _ _ _ _ _ us hl => match us, hl with | [_], _ => rfl), n_key, n_turn⟩
structure TAddWriter (K : PySem.W.Frag) (mg : Str → Option Value) (C : Addr) : Prop where
  init : CFun K mg "AddWriter" C "AddWriter.__init__" st_AddWriter___init ["self", "key"]
  m_write_byte : MFun K C "write_byte" "AddWriter.write_byte" st_AddWriter_write_byte ["self", "byte"]
  m_take : MFun K C "take" "LayerWriter.take" st_LayerWriter_take ["self", "row"]
  m_end : MFun K C "end" "LayerWriter.end" st_LayerWriter_end ["self"]
  n_turning : NoAttr K C "turning"
theorem TAddWriter.cl {K : PySem.W.Frag} {mg : Str → Option Value} {C : Addr} (T : TAddWriter K mg C) : Cls K C := T.init.cl
theorem mk_AddWriter {K : PySem.W.Frag} {mg : Str → Option Value} {h : Heap} (X : K.In h) (G : h.Ns mainGlobals mg) {C f_init f_write_byte f_take f_end : Addr} {oc_init kV_init doc_init pm_init cdv_init ct_init oc_write_byte kV_write_byte doc_write_byte pm_write_byte cdv_write_byte ct_write_byte oc_take kV_take doc_take pm_take cdv_take ct_take oc_end kV_end doc_end pm_end cdv_end ct_end : Value} {od_init an_init od_write_byte an_write_byte od_take an_take od_end an_end : Option Addr} {osl_init osl_write_byte osl_take osl_end : Array (Option Value)}
    (aC : PySem.W.nsIn K mainGlobals "AddWriter" = some (some (.ref C)))
    (pg : PySem.W.plainGet K C Str.empty = true)
    (hd : PySem.W.hasDictIn K C = true)
    (po : PySem.W.plainOver K C = true)
    (sa : PySem.W.findIn K (.ref C) "__setattr__" = some (some (.builtin "object.__setattr__")))
    (mk : PySem.W.makesIn K C = true)
    (kc : PySem.W.keepIn K (.ref C) = true)
    (a_init : PySem.W.findIn K (.ref C) "__init__" = some (some (.ref f_init)))
    (i_init : PySem.W.isFn K (.ref f_init) = true)
    (l_init : K.lookup f_init = some ⟨oc_init, od_init, .func (PySem.W.fnOf "__init__" "AddWriter.__init__" (defArgs st_AddWriter___init) (defBody st_AddWriter___init) (defScope st_AddWriter___init) .none kV_init doc_init pm_init an_init cdv_init ct_init), osl_init⟩)
    (c_init : PySem.W.codeIn K cdv_init "AddWriter.__init__" = true)
    (k_init : PySem.W.keepIn K (.ref f_init) = true)
    (a_write_byte : PySem.W.findIn K (.ref C) "write_byte" = some (some (.ref f_write_byte)))
    (i_write_byte : PySem.W.isFn K (.ref f_write_byte) = true)
    (l_write_byte : K.lookup f_write_byte = some ⟨oc_write_byte, od_write_byte, .func (PySem.W.fnOf "write_byte" "AddWriter.write_byte" (defArgs st_AddWriter_write_byte) (defBody st_AddWriter_write_byte) (defScope st_AddWriter_write_byte) .none kV_write_byte doc_write_byte pm_write_byte an_write_byte cdv_write_byte ct_write_byte), osl_write_byte⟩)
    (c_write_byte : PySem.W.codeIn K cdv_write_byte "AddWriter.write_byte" = true)
    (k_write_byte : PySem.W.keepIn K (.ref f_write_byte) = true)
    (a_take : PySem.W.findIn K (.ref C) "take" = some (some (.ref f_take)))
    (i_take : PySem.W.isFn K (.ref f_take) = true)
    (l_take : K.lookup f_take = some ⟨oc_take, od_take, .func (PySem.W.fnOf "take" "LayerWriter.take" (defArgs st_LayerWriter_take) (defBody st_LayerWriter_take) (defScope st_LayerWriter_take) .none kV_take doc_take pm_take an_take cdv_take ct_take), osl_take⟩)
    (c_take : PySem.W.codeIn K cdv_take "LayerWriter.take" = true)
    (k_take : PySem.W.keepIn K (.ref f_take) = true)
    (a_end : PySem.W.findIn K (.ref C) "end" = some (some (.ref f_end)))
    (i_end : PySem.W.isFn K (.ref f_end) = true)
    (l_end : K.lookup f_end = some ⟨oc_end, od_end, .func (PySem.W.fnOf "end" "LayerWriter.end" (defArgs st_LayerWriter_end) (defBody st_LayerWriter_end) (defScope st_LayerWriter_end) .none kV_end doc_end pm_end an_end cdv_end ct_end), osl_end⟩)
    (c_end : PySem.W.codeIn K cdv_end "LayerWriter.end" = true)
    (k_end : PySem.W.keepIn K (.ref f_end) = true)
    (n_turning : PySem.W.findIn K (.ref C) "turning" = some none)
    : ∃ C, TAddWriter K mg C :=
  ⟨C, cfun_mk (ps := ["self", "key"]) X G ⟨pg, hd, po, sa⟩ aC a_init i_init l_init c_init k_init mk kc (fun _ _ _ _ _ _ us hl => match us, hl with | [_, _], _ => rfl), mfun_mk (ps := ["self", "byte"]) ⟨pg, hd, po, sa⟩ a_write_byte i_write_byte l_write_byte c_write_byte k_write_byte (fun _ _ _ _ _ _ us hl => match us, hl with | [_, _], _ => rfl), mfun_mk (ps := ["self", "row"]) ⟨pg, hd, po, sa⟩ a_take i_take l_take c_take k_take (fun _ _ _ _ _ _ us hl => match us, hl with | [_, _], _ => rfl), mfun_mk (ps := ["self"]) ⟨pg, hd, po, sa⟩ a_end i_end l_end c_end k_end (fun _ _ _ _ _ _ us hl => match us, hl with | [_], _ => rfl), n_turning⟩
structure TFrontRow (K : PySem.W.Frag) (mg : Str → Option Value) (C : Addr) : Prop where
  init : CFun K mg "FrontRow" C "FrontRow.__init__" st_FrontRow___init ["self"]
  m_place_of : MFun K C "place_of" "FrontRow.place_of" st_FrontRow_place_of ["self", "byte"]
  m_bring_forward : MFun K C "bring_forward" "FrontRow.bring_forward" st_FrontRow_bring_forward ["self", "place"]
  n_standing : NoAttr K C "standing"
theorem TFrontRow.cl {K : PySem.W.Frag} {mg : Str → Option Value} {C : Addr} (T : TFrontRow K mg C) : Cls K C := T.init.cl
theorem mk_FrontRow {K : PySem.W.Frag} {mg : Str → Option Value} {h : Heap} (X : K.In h) (G : h.Ns mainGlobals mg) {C f_init f_place_of f_bring_forward : Addr} {oc_init kV_init doc_init pm_init cdv_init ct_init oc_place_of kV_place_of doc_place_of pm_place_of cdv_place_of ct_place_of oc_bring_forward kV_bring_forward doc_bring_forward pm_bring_forward cdv_bring_forward ct_bring_forward : Value} {od_init an_init od_place_of an_place_of od_bring_forward an_bring_forward : Option Addr} {osl_init osl_place_of osl_bring_forward : Array (Option Value)}
    (aC : PySem.W.nsIn K mainGlobals "FrontRow" = some (some (.ref C)))
    (pg : PySem.W.plainGet K C Str.empty = true)
    (hd : PySem.W.hasDictIn K C = true)
    (po : PySem.W.plainOver K C = true)
    (sa : PySem.W.findIn K (.ref C) "__setattr__" = some (some (.builtin "object.__setattr__")))
    (mk : PySem.W.makesIn K C = true)
    (kc : PySem.W.keepIn K (.ref C) = true)
    (a_init : PySem.W.findIn K (.ref C) "__init__" = some (some (.ref f_init)))
    (i_init : PySem.W.isFn K (.ref f_init) = true)
    (l_init : K.lookup f_init = some ⟨oc_init, od_init, .func (PySem.W.fnOf "__init__" "FrontRow.__init__" (defArgs st_FrontRow___init) (defBody st_FrontRow___init) (defScope st_FrontRow___init) .none kV_init doc_init pm_init an_init cdv_init ct_init), osl_init⟩)
    (c_init : PySem.W.codeIn K cdv_init "FrontRow.__init__" = true)
    (k_init : PySem.W.keepIn K (.ref f_init) = true)
    (a_place_of : PySem.W.findIn K (.ref C) "place_of" = some (some (.ref f_place_of)))
    (i_place_of : PySem.W.isFn K (.ref f_place_of) = true)
    (l_place_of : K.lookup f_place_of = some ⟨oc_place_of, od_place_of, .func (PySem.W.fnOf "place_of" "FrontRow.place_of" (defArgs st_FrontRow_place_of) (defBody st_FrontRow_place_of) (defScope st_FrontRow_place_of) .none kV_place_of doc_place_of pm_place_of an_place_of cdv_place_of ct_place_of), osl_place_of⟩)
    (c_place_of : PySem.W.codeIn K cdv_place_of "FrontRow.place_of" = true)
    (k_place_of : PySem.W.keepIn K (.ref f_place_of) = true)
    (a_bring_forward : PySem.W.findIn K (.ref C) "bring_forward" = some (some (.ref f_bring_forward)))
    (i_bring_forward : PySem.W.isFn K (.ref f_bring_forward) = true)
    (l_bring_forward : K.lookup f_bring_forward = some ⟨oc_bring_forward, od_bring_forward, .func (PySem.W.fnOf "bring_forward" "FrontRow.bring_forward" (defArgs st_FrontRow_bring_forward) (defBody st_FrontRow_bring_forward) (defScope st_FrontRow_bring_forward) .none kV_bring_forward doc_bring_forward pm_bring_forward an_bring_forward cdv_bring_forward ct_bring_forward), osl_bring_forward⟩)
    (c_bring_forward : PySem.W.codeIn K cdv_bring_forward "FrontRow.bring_forward" = true)
    (k_bring_forward : PySem.W.keepIn K (.ref f_bring_forward) = true)
    (n_standing : PySem.W.findIn K (.ref C) "standing" = some none)
    : ∃ C, TFrontRow K mg C :=
  ⟨C, cfun_mk (ps := ["self"]) X G ⟨pg, hd, po, sa⟩ aC a_init i_init l_init c_init k_init mk kc (fun _ _ _ _ _ _ us hl => match us, hl with | [_], _ => rfl), mfun_mk (ps := ["self", "byte"]) ⟨pg, hd, po, sa⟩ a_place_of i_place_of l_place_of c_place_of k_place_of (fun _ _ _ _ _ _ us hl => match us, hl with | [_, _], _ => rfl), mfun_mk (ps := ["self", "place"]) ⟨pg, hd, po, sa⟩ a_bring_forward i_bring_forward l_bring_forward c_bring_forward k_bring_forward (fun _ _ _ _ _ _ us hl => match us, hl with | [_, _], _ => rfl), n_standing⟩
structure TFrontWriter (K : PySem.W.Frag) (mg : Str → Option Value) (C : Addr) : Prop where
  init : CFun K mg "FrontWriter" C "FrontWriter.__init__" st_FrontWriter___init ["self"]
  m_write_byte : MFun K C "write_byte" "FrontWriter.write_byte" st_FrontWriter_write_byte ["self", "byte"]
  m_take : MFun K C "take" "LayerWriter.take" st_LayerWriter_take ["self", "row"]
  m_end : MFun K C "end" "LayerWriter.end" st_LayerWriter_end ["self"]
  n_front_row : NoAttr K C "front_row"
theorem TFrontWriter.cl {K : PySem.W.Frag} {mg : Str → Option Value} {C : Addr} (T : TFrontWriter K mg C) : Cls K C := T.init.cl
theorem mk_FrontWriter {K : PySem.W.Frag} {mg : Str → Option Value} {h : Heap} (X : K.In h) (G : h.Ns mainGlobals mg) {C f_init f_write_byte f_take f_end : Addr} {oc_init kV_init doc_init pm_init cdv_init ct_init oc_write_byte kV_write_byte doc_write_byte pm_write_byte cdv_write_byte ct_write_byte oc_take kV_take doc_take pm_take cdv_take ct_take oc_end kV_end doc_end pm_end cdv_end ct_end : Value} {od_init an_init od_write_byte an_write_byte od_take an_take od_end an_end : Option Addr} {osl_init osl_write_byte osl_take osl_end : Array (Option Value)}
    (aC : PySem.W.nsIn K mainGlobals "FrontWriter" = some (some (.ref C)))
    (pg : PySem.W.plainGet K C Str.empty = true)
    (hd : PySem.W.hasDictIn K C = true)
    (po : PySem.W.plainOver K C = true)
    (sa : PySem.W.findIn K (.ref C) "__setattr__" = some (some (.builtin "object.__setattr__")))
    (mk : PySem.W.makesIn K C = true)
    (kc : PySem.W.keepIn K (.ref C) = true)
    (a_init : PySem.W.findIn K (.ref C) "__init__" = some (some (.ref f_init)))
    (i_init : PySem.W.isFn K (.ref f_init) = true)
    (l_init : K.lookup f_init = some ⟨oc_init, od_init, .func (PySem.W.fnOf "__init__" "FrontWriter.__init__" (defArgs st_FrontWriter___init) (defBody st_FrontWriter___init) (defScope st_FrontWriter___init) .none kV_init doc_init pm_init an_init cdv_init ct_init), osl_init⟩)
    (c_init : PySem.W.codeIn K cdv_init "FrontWriter.__init__" = true)
    (k_init : PySem.W.keepIn K (.ref f_init) = true)
    (a_write_byte : PySem.W.findIn K (.ref C) "write_byte" = some (some (.ref f_write_byte)))
    (i_write_byte : PySem.W.isFn K (.ref f_write_byte) = true)
    (l_write_byte : K.lookup f_write_byte = some ⟨oc_write_byte, od_write_byte, .func (PySem.W.fnOf "write_byte" "FrontWriter.write_byte" (defArgs st_FrontWriter_write_byte) (defBody st_FrontWriter_write_byte) (defScope st_FrontWriter_write_byte) .none kV_write_byte doc_write_byte pm_write_byte an_write_byte cdv_write_byte ct_write_byte), osl_write_byte⟩)
    (c_write_byte : PySem.W.codeIn K cdv_write_byte "FrontWriter.write_byte" = true)
    (k_write_byte : PySem.W.keepIn K (.ref f_write_byte) = true)
    (a_take : PySem.W.findIn K (.ref C) "take" = some (some (.ref f_take)))
    (i_take : PySem.W.isFn K (.ref f_take) = true)
    (l_take : K.lookup f_take = some ⟨oc_take, od_take, .func (PySem.W.fnOf "take" "LayerWriter.take" (defArgs st_LayerWriter_take) (defBody st_LayerWriter_take) (defScope st_LayerWriter_take) .none kV_take doc_take pm_take an_take cdv_take ct_take), osl_take⟩)
    (c_take : PySem.W.codeIn K cdv_take "LayerWriter.take" = true)
    (k_take : PySem.W.keepIn K (.ref f_take) = true)
    (a_end : PySem.W.findIn K (.ref C) "end" = some (some (.ref f_end)))
    (i_end : PySem.W.isFn K (.ref f_end) = true)
    (l_end : K.lookup f_end = some ⟨oc_end, od_end, .func (PySem.W.fnOf "end" "LayerWriter.end" (defArgs st_LayerWriter_end) (defBody st_LayerWriter_end) (defScope st_LayerWriter_end) .none kV_end doc_end pm_end an_end cdv_end ct_end), osl_end⟩)
    (c_end : PySem.W.codeIn K cdv_end "LayerWriter.end" = true)
    (k_end : PySem.W.keepIn K (.ref f_end) = true)
    (n_front_row : PySem.W.findIn K (.ref C) "front_row" = some none)
    : ∃ C, TFrontWriter K mg C :=
  ⟨C, cfun_mk (ps := ["self"]) X G ⟨pg, hd, po, sa⟩ aC a_init i_init l_init c_init k_init mk kc (fun _ _ _ _ _ _ us hl => match us, hl with | [_], _ => rfl), mfun_mk (ps := ["self", "byte"]) ⟨pg, hd, po, sa⟩ a_write_byte i_write_byte l_write_byte c_write_byte k_write_byte (fun _ _ _ _ _ _ us hl => match us, hl with | [_, _], _ => rfl), mfun_mk (ps := ["self", "row"]) ⟨pg, hd, po, sa⟩ a_take i_take l_take c_take k_take (fun _ _ _ _ _ _ us hl => match us, hl with | [_, _], _ => rfl), mfun_mk (ps := ["self"]) ⟨pg, hd, po, sa⟩ a_end i_end l_end c_end k_end (fun _ _ _ _ _ _ us hl => match us, hl with | [_], _ => rfl), n_front_row⟩
structure TWriter (K : PySem.W.Frag) (mg : Str → Option Value) (C : Addr) : Prop where
  init : CFun K mg "Writer" C "Writer.__init__" st_Writer___init ["self", "layers"]
  m_take : MFun K C "take" "Writer.take" st_Writer_take ["self", "row"]
  m_end : MFun K C "end" "Writer.end" st_Writer_end ["self"]
  n_writers : NoAttr K C "writers"
theorem TWriter.cl {K : PySem.W.Frag} {mg : Str → Option Value} {C : Addr} (T : TWriter K mg C) : Cls K C := T.init.cl
theorem mk_Writer {K : PySem.W.Frag} {mg : Str → Option Value} {h : Heap} (X : K.In h) (G : h.Ns mainGlobals mg) {C f_init f_take f_end : Addr} {oc_init kV_init doc_init pm_init cdv_init ct_init oc_take kV_take doc_take pm_take cdv_take ct_take oc_end kV_end doc_end pm_end cdv_end ct_end : Value} {od_init an_init od_take an_take od_end an_end : Option Addr} {osl_init osl_take osl_end : Array (Option Value)}
    (aC : PySem.W.nsIn K mainGlobals "Writer" = some (some (.ref C)))
    (pg : PySem.W.plainGet K C Str.empty = true)
    (hd : PySem.W.hasDictIn K C = true)
    (po : PySem.W.plainOver K C = true)
    (sa : PySem.W.findIn K (.ref C) "__setattr__" = some (some (.builtin "object.__setattr__")))
    (mk : PySem.W.makesIn K C = true)
    (kc : PySem.W.keepIn K (.ref C) = true)
    (a_init : PySem.W.findIn K (.ref C) "__init__" = some (some (.ref f_init)))
    (i_init : PySem.W.isFn K (.ref f_init) = true)
    (l_init : K.lookup f_init = some ⟨oc_init, od_init, .func (PySem.W.fnOf "__init__" "Writer.__init__" (defArgs st_Writer___init) (defBody st_Writer___init) (defScope st_Writer___init) .none kV_init doc_init pm_init an_init cdv_init ct_init), osl_init⟩)
    (c_init : PySem.W.codeIn K cdv_init "Writer.__init__" = true)
    (k_init : PySem.W.keepIn K (.ref f_init) = true)
    (a_take : PySem.W.findIn K (.ref C) "take" = some (some (.ref f_take)))
    (i_take : PySem.W.isFn K (.ref f_take) = true)
    (l_take : K.lookup f_take = some ⟨oc_take, od_take, .func (PySem.W.fnOf "take" "Writer.take" (defArgs st_Writer_take) (defBody st_Writer_take) (defScope st_Writer_take) .none kV_take doc_take pm_take an_take cdv_take ct_take), osl_take⟩)
    (c_take : PySem.W.codeIn K cdv_take "Writer.take" = true)
    (k_take : PySem.W.keepIn K (.ref f_take) = true)
    (a_end : PySem.W.findIn K (.ref C) "end" = some (some (.ref f_end)))
    (i_end : PySem.W.isFn K (.ref f_end) = true)
    (l_end : K.lookup f_end = some ⟨oc_end, od_end, .func (PySem.W.fnOf "end" "Writer.end" (defArgs st_Writer_end) (defBody st_Writer_end) (defScope st_Writer_end) .none kV_end doc_end pm_end an_end cdv_end ct_end), osl_end⟩)
    (c_end : PySem.W.codeIn K cdv_end "Writer.end" = true)
    (k_end : PySem.W.keepIn K (.ref f_end) = true)
    (n_writers : PySem.W.findIn K (.ref C) "writers" = some none)
    : ∃ C, TWriter K mg C :=
  ⟨C, cfun_mk (ps := ["self", "layers"]) X G ⟨pg, hd, po, sa⟩ aC a_init i_init l_init c_init k_init mk kc (fun _ _ _ _ _ _ us hl => match us, hl with | [_, _], _ => rfl), mfun_mk (ps := ["self", "row"]) ⟨pg, hd, po, sa⟩ a_take i_take l_take c_take k_take (fun _ _ _ _ _ _ us hl => match us, hl with | [_, _], _ => rfl), mfun_mk (ps := ["self"]) ⟨pg, hd, po, sa⟩ a_end i_end l_end c_end k_end (fun _ _ _ _ _ _ us hl => match us, hl with | [_], _ => rfl), n_writers⟩
structure Adr where
  ChunksWriter : Addr
  RunningCheck : Addr
  ChecksWriter : Addr
  EscapeWriter : Addr
  RunsWriter : Addr
  HeldDigits : Addr
  SignsWriter : Addr
  TurningKey : Addr
  AddWriter : Addr
  FrontRow : Addr
  FrontWriter : Addr
  Writer : Addr
structure Tx (K : PySem.W.Frag) (mg : Str → Option Value) (A : Adr) : Prop where
  len : mg "len" = none
  all : mg "all" = none
  sum : mg "sum" = none
  isinstance : mg "isinstance" = none
  int : mg "int" = none
  bool : mg "bool" = none
  list : mg "list" = none
  tuple : mg "tuple" = none
  range : mg "range" = none
  max : mg "max" = none
  ord : mg "ord" = none
  LONGEST_RUN : Const mg "LONGEST_RUN" (.int 255)
  SIGNS : Const mg "SIGNS" (.str "-0123456789ABCDEFGHIJKLMNOPQRSTUVWXYZ_abcdefghijklmnopqrstuvwxyz")
  BYTE_WIDTH : Const mg "BYTE_WIDTH" (.int 8)
  SIGN_WIDTH : Const mg "SIGN_WIDTH" (.int 6)
  MOST_LAYERS : Const mg "MOST_LAYERS" (.int 8)
  f_is_byte : DFun K mg "is_byte" st_is_byte ["value"]
  f_has_form : DFun K mg "has_form" st_has_form ["layer", "word", "fewest", "most"]
  f_is_chunks : DFun K mg "is_chunks" st_is_chunks ["layer"]
  f_is_checks : DFun K mg "is_checks" st_is_checks ["layer"]
  f_is_framed : DFun K mg "is_framed" st_is_framed ["layer"]
  f_framed_writer : DFun K mg "framed_writer" st_framed_writer ["layer"]
  f_is_escape : DFun K mg "is_escape" st_is_escape ["layer"]
  f_is_runs : DFun K mg "is_runs" st_is_runs ["layer"]
  f_is_marked : DFun K mg "is_marked" st_is_marked ["layer"]
  f_marked_writer : DFun K mg "marked_writer" st_marked_writer ["layer"]
  f_behind : DFun K mg "behind" st_behind ["byte", "steps"]
  f_is_signs : DFun K mg "is_signs" st_is_signs ["layer"]
  f_signs_writer : DFun K mg "signs_writer" st_signs_writer ["layer"]
  f_sign_of : DFun K mg "sign_of" st_sign_of ["group"]
  f_is_add : DFun K mg "is_add" st_is_add ["layer"]
  f_is_front : DFun K mg "is_front" st_is_front ["layer"]
  f_is_simple : DFun K mg "is_simple" st_is_simple ["layer"]
  f_simple_writer : DFun K mg "simple_writer" st_simple_writer ["layer"]
  f_written : DFun K mg "written" st_written ["layers", "row"]
  f_refuse_too_many : DFun K mg "refuse_too_many" st_refuse_too_many ["layers"]
  f_layer_writer : DFun K mg "layer_writer" st_layer_writer ["layer"]
  f_law_cell : DFun K mg "_law_cell" st_law_cell ["_law_script", "_law_k"]
  f_law_mix : DFun K mg "_law_mix" st_law_mix ["_law_script", "_law_k"]
  f_law_whole : DFun K mg "_law_whole" st_law_whole ["_law_found"]
  f_law_layer : DFun K mg "_law_layer" st_law_layer ["_law_script", "_law_k"]
  f_law_layers : DFun K mg "_law_layers" st_law_layers ["_law_script", "_law_k", "_law_most"]
  f_law_row : DFun K mg "_law_row" st_law_row ["_law_script", "_law_k", "_law_pieces", "_law_long"]
  f_law_is_row : DFun K mg "_law_is_row" st_law_is_row ["_law_found"]
  f_law_fits : DFun K mg "_law_fits" st_law_fits ["_law_layer_here", "_law_row_here", "_law_stream"]
  k_ChunksWriter : TChunksWriter K mg A.ChunksWriter
  k_RunningCheck : TRunningCheck K mg A.RunningCheck
  k_ChecksWriter : TChecksWriter K mg A.ChecksWriter
  k_EscapeWriter : TEscapeWriter K mg A.EscapeWriter
  k_RunsWriter : TRunsWriter K mg A.RunsWriter
  k_HeldDigits : THeldDigits K mg A.HeldDigits
  k_SignsWriter : TSignsWriter K mg A.SignsWriter
  k_TurningKey : TTurningKey K mg A.TurningKey
  k_AddWriter : TAddWriter K mg A.AddWriter
  k_FrontRow : TFrontRow K mg A.FrontRow
  k_FrontWriter : TFrontWriter K mg A.FrontWriter
  k_Writer : TWriter K mg A.Writer
theorem lk_ChunksWriter_n {v0 v1 : V} : ([("n", v0), ("waiting", v1)] : List (Str × V)).lookup ("n" : Str) = some v0 := lk_hd
theorem ps_ChunksWriter_n  {w : V} : putF "n" w ([] : List (Str × V)) = ([("n", w)] : List (Str × V)) := putF_nil
theorem lk_ChunksWriter_waiting {v0 v1 : V} : ([("n", v0), ("waiting", v1)] : List (Str × V)).lookup ("waiting" : Str) = some v1 := lk_tl (show ¬ (("n" : Str) = "waiting") by decide +kernel) (lk_hd)
theorem pf_ChunksWriter_waiting {v0 v1 : V} {w : V} : putF "waiting" w ([("n", v0), ("waiting", v1)] : List (Str × V)) = ([("n", v0), ("waiting", w)] : List (Str × V)) := putF_tl (show ¬ (("n" : Str) = "waiting") by decide +kernel) (putF_hd)
theorem ps_ChunksWriter_waiting {v0 : V} {w : V} : putF "waiting" w ([("n", v0)] : List (Str × V)) = ([("n", v0), ("waiting", w)] : List (Str × V)) := putF_tl (show ¬ (("n" : Str) = "waiting") by decide +kernel) (putF_nil)
theorem nm_ChunksWriter_write_byte {v0 v1 : V} : ([("n", v0), ("waiting", v1)] : List (Str × V)).lookup ("write_byte" : Str) = none := lk_tl (show ¬ (("n" : Str) = "write_byte") by decide +kernel) (lk_tl (show ¬ (("waiting" : Str) = "write_byte") by decide +kernel) (lk_nil))
theorem nm_ChunksWriter_close_chunk {v0 v1 : V} : ([("n", v0), ("waiting", v1)] : List (Str × V)).lookup ("close_chunk" : Str) = none := lk_tl (show ¬ (("n" : Str) = "close_chunk") by decide +kernel) (lk_tl (show ¬ (("waiting" : Str) = "close_chunk") by decide +kernel) (lk_nil))
theorem nm_ChunksWriter_end {v0 v1 : V} : ([("n", v0), ("waiting", v1)] : List (Str × V)).lookup ("end" : Str) = none := lk_tl (show ¬ (("n" : Str) = "end") by decide +kernel) (lk_tl (show ¬ (("waiting" : Str) = "end") by decide +kernel) (lk_nil))
theorem nm_ChunksWriter_take {v0 v1 : V} : ([("n", v0), ("waiting", v1)] : List (Str × V)).lookup ("take" : Str) = none := lk_tl (show ¬ (("n" : Str) = "take") by decide +kernel) (lk_tl (show ¬ (("waiting" : Str) = "take") by decide +kernel) (lk_nil))
theorem lk_RunningCheck_check {v0 : V} : ([("check", v0)] : List (Str × V)).lookup ("check" : Str) = some v0 := lk_hd
theorem pf_RunningCheck_check {v0 : V} {w : V} : putF "check" w ([("check", v0)] : List (Str × V)) = ([("check", w)] : List (Str × V)) := putF_hd
theorem ps_RunningCheck_check  {w : V} : putF "check" w ([] : List (Str × V)) = ([("check", w)] : List (Str × V)) := putF_nil
theorem nm_RunningCheck_count_byte {v0 : V} : ([("check", v0)] : List (Str × V)).lookup ("count_byte" : Str) = none := lk_tl (show ¬ (("check" : Str) = "count_byte") by decide +kernel) (lk_nil)
theorem nm_RunningCheck_as_bytes {v0 : V} : ([("check", v0)] : List (Str × V)).lookup ("as_bytes" : Str) = none := lk_tl (show ¬ (("check" : Str) = "as_bytes") by decide +kernel) (lk_nil)
theorem lk_ChecksWriter_n {v0 v1 v2 : V} : ([("n", v0), ("running", v1), ("unchecked", v2)] : List (Str × V)).lookup ("n" : Str) = some v0 := lk_hd
theorem ps_ChecksWriter_n  {w : V} : putF "n" w ([] : List (Str × V)) = ([("n", w)] : List (Str × V)) := putF_nil
theorem lk_ChecksWriter_running {v0 v1 v2 : V} : ([("n", v0), ("running", v1), ("unchecked", v2)] : List (Str × V)).lookup ("running" : Str) = some v1 := lk_tl (show ¬ (("n" : Str) = "running") by decide +kernel) (lk_hd)
theorem ps_ChecksWriter_running {v0 : V} {w : V} : putF "running" w ([("n", v0)] : List (Str × V)) = ([("n", v0), ("running", w)] : List (Str × V)) := putF_tl (show ¬ (("n" : Str) = "running") by decide +kernel) (putF_nil)
theorem lk_ChecksWriter_unchecked {v0 v1 v2 : V} : ([("n", v0), ("running", v1), ("unchecked", v2)] : List (Str × V)).lookup ("unchecked" : Str) = some v2 := lk_tl (show ¬ (("n" : Str) = "unchecked") by decide +kernel) (lk_tl (show ¬ (("running" : Str) = "unchecked") by decide +kernel) (lk_hd))
theorem pf_ChecksWriter_unchecked {v0 v1 v2 : V} {w : V} : putF "unchecked" w ([("n", v0), ("running", v1), ("unchecked", v2)] : List (Str × V)) = ([("n", v0), ("running", v1), ("unchecked", w)] : List (Str × V)) := putF_tl (show ¬ (("n" : Str) = "unchecked") by decide +kernel) (putF_tl (show ¬ (("running" : Str) = "unchecked") by decide +kernel) (putF_hd))
theorem ps_ChecksWriter_unchecked {v0 v1 : V} {w : V} : putF "unchecked" w ([("n", v0), ("running", v1)] : List (Str × V)) = ([("n", v0), ("running", v1), ("unchecked", w)] : List (Str × V)) := putF_tl (show ¬ (("n" : Str) = "unchecked") by decide +kernel) (putF_tl (show ¬ (("running" : Str) = "unchecked") by decide +kernel) (putF_nil))
theorem nm_ChecksWriter_write_byte {v0 v1 v2 : V} : ([("n", v0), ("running", v1), ("unchecked", v2)] : List (Str × V)).lookup ("write_byte" : Str) = none := lk_tl (show ¬ (("n" : Str) = "write_byte") by decide +kernel) (lk_tl (show ¬ (("running" : Str) = "write_byte") by decide +kernel) (lk_tl (show ¬ (("unchecked" : Str) = "write_byte") by decide +kernel) (lk_nil)))
theorem nm_ChecksWriter_end {v0 v1 v2 : V} : ([("n", v0), ("running", v1), ("unchecked", v2)] : List (Str × V)).lookup ("end" : Str) = none := lk_tl (show ¬ (("n" : Str) = "end") by decide +kernel) (lk_tl (show ¬ (("running" : Str) = "end") by decide +kernel) (lk_tl (show ¬ (("unchecked" : Str) = "end") by decide +kernel) (lk_nil)))
theorem nm_ChecksWriter_take {v0 v1 v2 : V} : ([("n", v0), ("running", v1), ("unchecked", v2)] : List (Str × V)).lookup ("take" : Str) = none := lk_tl (show ¬ (("n" : Str) = "take") by decide +kernel) (lk_tl (show ¬ (("running" : Str) = "take") by decide +kernel) (lk_tl (show ¬ (("unchecked" : Str) = "take") by decide +kernel) (lk_nil)))
theorem lk_EscapeWriter_pairs {v0 : V} : ([("pairs", v0)] : List (Str × V)).lookup ("pairs" : Str) = some v0 := lk_hd
theorem ps_EscapeWriter_pairs  {w : V} : putF "pairs" w ([] : List (Str × V)) = ([("pairs", w)] : List (Str × V)) := putF_nil
theorem nm_EscapeWriter_write_byte {v0 : V} : ([("pairs", v0)] : List (Str × V)).lookup ("write_byte" : Str) = none := lk_tl (show ¬ (("pairs" : Str) = "write_byte") by decide +kernel) (lk_nil)
theorem nm_EscapeWriter_take {v0 : V} : ([("pairs", v0)] : List (Str × V)).lookup ("take" : Str) = none := lk_tl (show ¬ (("pairs" : Str) = "take") by decide +kernel) (lk_nil)
theorem nm_EscapeWriter_end {v0 : V} : ([("pairs", v0)] : List (Str × V)).lookup ("end" : Str) = none := lk_tl (show ¬ (("pairs" : Str) = "end") by decide +kernel) (lk_nil)
theorem lk_RunsWriter_count {v0 v1 : V} : ([("count", v0), ("byte", v1)] : List (Str × V)).lookup ("count" : Str) = some v0 := lk_hd
theorem pf_RunsWriter_count {v0 v1 : V} {w : V} : putF "count" w ([("count", v0), ("byte", v1)] : List (Str × V)) = ([("count", w), ("byte", v1)] : List (Str × V)) := putF_hd
theorem ps_RunsWriter_count  {w : V} : putF "count" w ([] : List (Str × V)) = ([("count", w)] : List (Str × V)) := putF_nil
theorem lk_RunsWriter_byte {v0 v1 : V} : ([("count", v0), ("byte", v1)] : List (Str × V)).lookup ("byte" : Str) = some v1 := lk_tl (show ¬ (("count" : Str) = "byte") by decide +kernel) (lk_hd)
theorem pf_RunsWriter_byte {v0 v1 : V} {w : V} : putF "byte" w ([("count", v0), ("byte", v1)] : List (Str × V)) = ([("count", v0), ("byte", w)] : List (Str × V)) := putF_tl (show ¬ (("count" : Str) = "byte") by decide +kernel) (putF_hd)
theorem ps_RunsWriter_byte {v0 : V} {w : V} : putF "byte" w ([("count", v0)] : List (Str × V)) = ([("count", v0), ("byte", w)] : List (Str × V)) := putF_tl (show ¬ (("count" : Str) = "byte") by decide +kernel) (putF_nil)
theorem nm_RunsWriter_write_byte {v0 v1 : V} : ([("count", v0), ("byte", v1)] : List (Str × V)).lookup ("write_byte" : Str) = none := lk_tl (show ¬ (("count" : Str) = "write_byte") by decide +kernel) (lk_tl (show ¬ (("byte" : Str) = "write_byte") by decide +kernel) (lk_nil))
theorem nm_RunsWriter_close_run {v0 v1 : V} : ([("count", v0), ("byte", v1)] : List (Str × V)).lookup ("close_run" : Str) = none := lk_tl (show ¬ (("count" : Str) = "close_run") by decide +kernel) (lk_tl (show ¬ (("byte" : Str) = "close_run") by decide +kernel) (lk_nil))
theorem nm_RunsWriter_end {v0 v1 : V} : ([("count", v0), ("byte", v1)] : List (Str × V)).lookup ("end" : Str) = none := lk_tl (show ¬ (("count" : Str) = "end") by decide +kernel) (lk_tl (show ¬ (("byte" : Str) = "end") by decide +kernel) (lk_nil))
theorem nm_RunsWriter_take {v0 v1 : V} : ([("count", v0), ("byte", v1)] : List (Str × V)).lookup ("take" : Str) = none := lk_tl (show ¬ (("count" : Str) = "take") by decide +kernel) (lk_tl (show ¬ (("byte" : Str) = "take") by decide +kernel) (lk_nil))
theorem lk_HeldDigits_held {v0 v1 : V} : ([("held", v0), ("width", v1)] : List (Str × V)).lookup ("held" : Str) = some v0 := lk_hd
theorem pf_HeldDigits_held {v0 v1 : V} {w : V} : putF "held" w ([("held", v0), ("width", v1)] : List (Str × V)) = ([("held", w), ("width", v1)] : List (Str × V)) := putF_hd
theorem ps_HeldDigits_held  {w : V} : putF "held" w ([] : List (Str × V)) = ([("held", w)] : List (Str × V)) := putF_nil
theorem lk_HeldDigits_width {v0 v1 : V} : ([("held", v0), ("width", v1)] : List (Str × V)).lookup ("width" : Str) = some v1 := lk_tl (show ¬ (("held" : Str) = "width") by decide +kernel) (lk_hd)
theorem pf_HeldDigits_width {v0 v1 : V} {w : V} : putF "width" w ([("held", v0), ("width", v1)] : List (Str × V)) = ([("held", v0), ("width", w)] : List (Str × V)) := putF_tl (show ¬ (("held" : Str) = "width") by decide +kernel) (putF_hd)
theorem ps_HeldDigits_width {v0 : V} {w : V} : putF "width" w ([("held", v0)] : List (Str × V)) = ([("held", v0), ("width", w)] : List (Str × V)) := putF_tl (show ¬ (("held" : Str) = "width") by decide +kernel) (putF_nil)
theorem nm_HeldDigits_push {v0 v1 : V} : ([("held", v0), ("width", v1)] : List (Str × V)).lookup ("push" : Str) = none := lk_tl (show ¬ (("held" : Str) = "push") by decide +kernel) (lk_tl (show ¬ (("width" : Str) = "push") by decide +kernel) (lk_nil))
theorem nm_HeldDigits_draw_digits {v0 v1 : V} : ([("held", v0), ("width", v1)] : List (Str × V)).lookup ("draw_digits" : Str) = none := lk_tl (show ¬ (("held" : Str) = "draw_digits") by decide +kernel) (lk_tl (show ¬ (("width" : Str) = "draw_digits") by decide +kernel) (lk_nil))
theorem lk_SignsWriter_digits {v0 : V} : ([("digits", v0)] : List (Str × V)).lookup ("digits" : Str) = some v0 := lk_hd
theorem ps_SignsWriter_digits  {w : V} : putF "digits" w ([] : List (Str × V)) = ([("digits", w)] : List (Str × V)) := putF_nil
theorem nm_SignsWriter_write_byte {v0 : V} : ([("digits", v0)] : List (Str × V)).lookup ("write_byte" : Str) = none := lk_tl (show ¬ (("digits" : Str) = "write_byte") by decide +kernel) (lk_nil)
theorem nm_SignsWriter_end {v0 : V} : ([("digits", v0)] : List (Str × V)).lookup ("end" : Str) = none := lk_tl (show ¬ (("digits" : Str) = "end") by decide +kernel) (lk_nil)
theorem nm_SignsWriter_take {v0 : V} : ([("digits", v0)] : List (Str × V)).lookup ("take" : Str) = none := lk_tl (show ¬ (("digits" : Str) = "take") by decide +kernel) (lk_nil)
theorem lk_TurningKey_key {v0 v1 : V} : ([("key", v0), ("turn", v1)] : List (Str × V)).lookup ("key" : Str) = some v0 := lk_hd
theorem ps_TurningKey_key  {w : V} : putF "key" w ([] : List (Str × V)) = ([("key", w)] : List (Str × V)) := putF_nil
theorem lk_TurningKey_turn {v0 v1 : V} : ([("key", v0), ("turn", v1)] : List (Str × V)).lookup ("turn" : Str) = some v1 := lk_tl (show ¬ (("key" : Str) = "turn") by decide +kernel) (lk_hd)
theorem pf_TurningKey_turn {v0 v1 : V} {w : V} : putF "turn" w ([("key", v0), ("turn", v1)] : List (Str × V)) = ([("key", v0), ("turn", w)] : List (Str × V)) := putF_tl (show ¬ (("key" : Str) = "turn") by decide +kernel) (putF_hd)
theorem ps_TurningKey_turn {v0 : V} {w : V} : putF "turn" w ([("key", v0)] : List (Str × V)) = ([("key", v0), ("turn", w)] : List (Str × V)) := putF_tl (show ¬ (("key" : Str) = "turn") by decide +kernel) (putF_nil)
theorem nm_TurningKey_draw {v0 v1 : V} : ([("key", v0), ("turn", v1)] : List (Str × V)).lookup ("draw" : Str) = none := lk_tl (show ¬ (("key" : Str) = "draw") by decide +kernel) (lk_tl (show ¬ (("turn" : Str) = "draw") by decide +kernel) (lk_nil))
theorem lk_AddWriter_turning {v0 : V} : ([("turning", v0)] : List (Str × V)).lookup ("turning" : Str) = some v0 := lk_hd
theorem ps_AddWriter_turning  {w : V} : putF "turning" w ([] : List (Str × V)) = ([("turning", w)] : List (Str × V)) := putF_nil
theorem nm_AddWriter_write_byte {v0 : V} : ([("turning", v0)] : List (Str × V)).lookup ("write_byte" : Str) = none := lk_tl (show ¬ (("turning" : Str) = "write_byte") by decide +kernel) (lk_nil)
theorem nm_AddWriter_take {v0 : V} : ([("turning", v0)] : List (Str × V)).lookup ("take" : Str) = none := lk_tl (show ¬ (("turning" : Str) = "take") by decide +kernel) (lk_nil)
theorem nm_AddWriter_end {v0 : V} : ([("turning", v0)] : List (Str × V)).lookup ("end" : Str) = none := lk_tl (show ¬ (("turning" : Str) = "end") by decide +kernel) (lk_nil)
theorem lk_FrontRow_standing {v0 : V} : ([("standing", v0)] : List (Str × V)).lookup ("standing" : Str) = some v0 := lk_hd
theorem ps_FrontRow_standing  {w : V} : putF "standing" w ([] : List (Str × V)) = ([("standing", w)] : List (Str × V)) := putF_nil
theorem nm_FrontRow_place_of {v0 : V} : ([("standing", v0)] : List (Str × V)).lookup ("place_of" : Str) = none := lk_tl (show ¬ (("standing" : Str) = "place_of") by decide +kernel) (lk_nil)
theorem nm_FrontRow_bring_forward {v0 : V} : ([("standing", v0)] : List (Str × V)).lookup ("bring_forward" : Str) = none := lk_tl (show ¬ (("standing" : Str) = "bring_forward") by decide +kernel) (lk_nil)
theorem lk_FrontWriter_front_row {v0 : V} : ([("front_row", v0)] : List (Str × V)).lookup ("front_row" : Str) = some v0 := lk_hd
theorem ps_FrontWriter_front_row  {w : V} : putF "front_row" w ([] : List (Str × V)) = ([("front_row", w)] : List (Str × V)) := putF_nil
theorem nm_FrontWriter_write_byte {v0 : V} : ([("front_row", v0)] : List (Str × V)).lookup ("write_byte" : Str) = none := lk_tl (show ¬ (("front_row" : Str) = "write_byte") by decide +kernel) (lk_nil)
theorem nm_FrontWriter_take {v0 : V} : ([("front_row", v0)] : List (Str × V)).lookup ("take" : Str) = none := lk_tl (show ¬ (("front_row" : Str) = "take") by decide +kernel) (lk_nil)
theorem nm_FrontWriter_end {v0 : V} : ([("front_row", v0)] : List (Str × V)).lookup ("end" : Str) = none := lk_tl (show ¬ (("front_row" : Str) = "end") by decide +kernel) (lk_nil)
theorem lk_Writer_writers {v0 : V} : ([("writers", v0)] : List (Str × V)).lookup ("writers" : Str) = some v0 := lk_hd
theorem ps_Writer_writers  {w : V} : putF "writers" w ([] : List (Str × V)) = ([("writers", w)] : List (Str × V)) := putF_nil
theorem nm_Writer_take {v0 : V} : ([("writers", v0)] : List (Str × V)).lookup ("take" : Str) = none := lk_tl (show ¬ (("writers" : Str) = "take") by decide +kernel) (lk_nil)
theorem nm_Writer_end {v0 : V} : ([("writers", v0)] : List (Str × V)).lookup ("end" : Str) = none := lk_tl (show ¬ (("writers" : Str) = "end") by decide +kernel) (lk_nil)
end Fl
namespace Fl
open PySem L2 Fm
structure Mv (F F' : List Addr) (H H' : Hp) : Prop where
  fr : ∀ b o, H b = some o → b ∉ F → H' b = some o
  nw : ∀ b ∈ F', b ∈ F ∨ H b = none
  al : ∀ b, H' b = none → H b = none
theorem Mv.refl (F : List Addr) (H : Hp) : Mv F F H H := ⟨fun _ _ h _ => h, fun _ h => .inl h, fun _ h => h⟩
theorem Mv.trans {F F1 F2 : List Addr} {H H1 H2 : Hp} (a : Mv F F1 H H1) (b : Mv F1 F2 H1 H2) : Mv F F2 H H2 := by
  refine ⟨fun c o h n => b.fr c o (a.fr c o h n) fun m => ?_, fun c m => ?_, fun c h => a.al c (b.al c h)⟩
  · rcases a.nw c m with q | q
    · exact n q
    · rw [q] at h; cases h
  · rcases b.nw c m with q | q
    · exact a.nw c q
    · exact .inr (a.al c q)
theorem Mv.upd {F F' : List Addr} {H H' : Hp} {p : Addr} {o : HO} (m : Mv F F' H H') (h : p ∈ F ∨ H p = none) : Mv F F' H (upd H' p o) := by
  refine ⟨fun b u e n => ?_, m.nw, fun b e => ?_⟩
  · rw [upd_ne (fun z => ?_)]
    · exact m.fr b u e n
    · subst z
      rcases h with h | h
      · exact n h
      · rw [h] at e; cases e
  · by_cases z : b = p
    · subst z; rw [upd_same] at e; cases e
    · rw [upd_ne z] at e; exact m.al b e
theorem Mv.wide {F G F' : List Addr} {H H' : Hp} (m : Mv F F' H H') (h : ∀ b ∈ F, b ∈ G) : Mv G F' H H' :=
  ⟨fun b o e n => m.fr b o e fun z => n (h b z), fun b z => (m.nw b z).imp (h b) id, m.al⟩
theorem Mv.own {F F' G : List Addr} {H H' : Hp} (m : Mv F F' H H') (h : ∀ b ∈ G, b ∈ F' ∨ b ∈ F ∨ H b = none) : Mv F G H H' :=
  ⟨m.fr, fun b z => by
    rcases h b z with q | q
    · exact m.nw b q
    · exact q, m.al⟩
theorem Mv.same {F' : List Addr} {H H' : Hp} (m : Mv [] F' H H') : Same H H' := fun b o h => m.fr b o h (by simp)
theorem Mv.ofSame {H H' : Hp} (m : Same H H') : Mv [] [] H H' := ⟨fun b o h _ => m b o h, fun b h => by simp at h, fun b h => m.free h⟩
abbrev intsV (xs : List Int) : List V := xs.map V.int
theorem ne_none {H : Hp} {a b : Addr} {o : HO} (h : H a = some o) (h' : H b = none) : b ≠ a := fun e => by subst e; rw [h] at h'; cases h'
section
variable {P : Program} {w : World} {K : PySem.W.Frag} {mg : Str → Option Value} {base : Heap} {A : Adr}
abbrev fTK (u : Addr) (t : Nat) : List (Str × V) := [("key", .ref u), ("turn", .int t)]
def spTKInit (A : Adr) : Sp := fun vs H Q _ => ∃ (q dq u : Addr), vs = [.ref q, .ref u] ∧ H q = some (.ins A.TurningKey dq []) ∧ Q .non (upd H q (.ins A.TurningKey dq (fTK u 0)))
def spDraw (A : Adr) : Sp := fun vs H Q _ => ∃ (q dq u : Addr) (key : List Int) (t : Nat), vs = [.ref q] ∧ H q = some (.ins A.TurningKey dq (fTK u t)) ∧ H u = some (.tup (intsV key)) ∧ t < key.length ∧
  Q (.int (key.getD t 0)) (upd H q (.ins A.TurningKey dq (fTK u ((t + 1) % key.length))))
theorem ok_TKInit (T : Tx K mg A) : COk P w K mg base 1 "TurningKey" A.TurningKey ["self", "key"] (spTKInit A) := by
  have sc : FnScope ["self", "key"] ["self", "key"] (defScope st_TurningKey___init) := ⟨rfl, rfl, rfl, by decide +kernel, rfl, by decide +kernel, by decide +kernel⟩
  refine T.k_TurningKey.init.ok sc (fun vs H Q E h => ?_) (fun f cdv A' outer s H vs Q E hr h => ?_)
  · obtain ⟨q, dq, u, rfl, _⟩ := h; rfl
  · obtain ⟨q, dq, u, rfl, hq, k⟩ := h
    refine ⟨_, (pss_cons (ps_fld (pv 0) (pv 1) rfl)
    (pss_one (ps_fld (pv 0) pe_int rfl))), ?_⟩
    refine ⟨_, rfl, _, rfl, q, _, dq, _, rfl, hq, T.k_TurningKey.cl, T.k_TurningKey.n_key, by decide, ?_⟩
    refine ⟨_, rfl, q, _, dq, _, rfl, upd_same, T.k_TurningKey.cl, T.k_TurningKey.n_turn, by show 1 < 1000; decide, ?_⟩
    rw [upd_upd, ps_TurningKey_key, ps_TurningKey_turn]
    exact k
theorem ok_draw (T : Tx K mg A) : MOk P w K mg base 1 A.TurningKey "draw" ["self"] (spDraw A) := by
  have sc : FnScope ["self", "byte"] ["self"] (defScope st_TurningKey_draw) := ⟨rfl, rfl, rfl, by decide +kernel, rfl, by decide +kernel, by decide +kernel⟩
  refine T.k_TurningKey.m_draw.ok sc (fun vs H Q E h => ?_) (fun f cdv A' outer s H vs Q E hr h => ?_)
  · obtain ⟨q, dq, u, key, t, rfl, _⟩ := h; rfl
  · obtain ⟨q, dq, u, key, t, rfl, hq, hu, ht, k⟩ := h
    have cl := T.k_TurningKey.cl
    have n1 := T.k_TurningKey.n_key
    have n2 := T.k_TurningKey.n_turn
    refine ⟨_, (pss_cons (ps_set (i := 1) sc.nd rfl (Or.inl rfl) (pe_ix ix_tup (pe_fld (pv 0) rfl) (pe_fld (pv 0) rfl) (fun _ _ => rfl)))
    (pss_cons (ps_fld (pv 0) (pe_op op_mod (pe_op op_add (pe_fld (pv 0) rfl) pe_int) (pe_callB call_len_seq rfl T.len bt_len (pa_cons (pe_fld (pv 0) rfl) pa_nil))) rfl)
    (pss_one (ps_ret (pv 1))))), ?_⟩
    have hg : atI (intsV key) ((t : Nat) : Int) = some (V.int (key.getD t 0)) := by
      refine atI_nat ?_
      rw [List.getElem?_map, List.getD_eq_getElem?_getD, List.getElem?_eq_getElem ht]; rfl
    refine ⟨_, rfl, q, _, dq, _, _, rfl, hq, cl, n1, lk_TurningKey_key, _, rfl, q, _, dq, _, _, rfl, hq, cl, n2, lk_TurningKey_turn, u, _, _, _, rfl, rfl, SqT.of hu, hg, ?_⟩
    refine ⟨_, rfl, q, _, dq, _, _, rfl, hq, cl, n2, lk_TurningKey_turn, _, _, rfl, rfl, _, rfl, q, _, dq, _, _, rfl, hq, cl, n1, lk_TurningKey_key, u, _, rfl, .inr (SqT.of hu), _, _, rfl, rfl, ?_, ?_⟩
    · simp [intsV]; omega
    refine ⟨_, rfl, q, _, dq, _, rfl, hq, cl, n2, by show 2 < 1000; decide, ?_⟩
    rw [pf_TurningKey_turn]
    refine ⟨_, rfl, ?_⟩
    have e : ((t : Int) + 1) % ((intsV key).length : Int) = (((t + 1) % key.length : Nat) : Int) := by simp [intsV]
    dsimp only
    rw [e]
    exact k
end
end Fl
namespace Fl
open PySem L2 Fm
theorem flat_ints (xs : List Int) : (intsV xs).all flatV = true := by
  rw [List.all_eq_true]
  intro v hv
  obtain ⟨i, _, rfl⟩ := List.mem_map.mp hv
  rfl
theorem row0_rng : rngI 0 256 = row0 := by
  unfold rngI row0
  exact List.map_congr_left fun i _ => by omega
theorem ints_get {xs : List Int} {i : Nat} {x : Int} (h : xs[i]? = some x) : (intsV xs)[i]? = some (V.int x) := by rw [List.getElem?_map, h]; rfl
theorem ints_get' {xs : List Int} {i : Nat} {v : V} (h : (intsV xs)[i]? = some v) : ∃ x, xs[i]? = some x ∧ v = .int x := by
  rw [List.getElem?_map] at h
  cases e : xs[i]? with
  | none => rw [e] at h; cases h
  | some x => rw [e] at h; exact ⟨x, rfl, (Option.some.inj h).symm⟩
theorem ints_erase : ∀ (xs : List Int) (i : Nat), (intsV xs).eraseIdx i = intsV (xs.eraseIdx i)
  | [], _ => rfl
  | _ :: _, 0 => rfl
  | x :: xs, i + 1 => congrArg (V.int x :: ·) (ints_erase xs i)
section
variable {P : Program} {w : World} {K : PySem.W.Frag} {mg : Str → Option Value} {base : Heap} {A : Adr}
abbrev fFR (l : Addr) : List (Str × V) := [("standing", .ref l)]
def spFRInit (A : Adr) : Sp := fun vs H Q _ => ∃ (q dq : Addr), vs = [.ref q] ∧ H q = some (.ins A.FrontRow dq []) ∧
  ∀ (H' : Hp) (l : Addr), Mv [q] [q, l] H H' → H l = none → H' q = some (.ins A.FrontRow dq (fFR l)) → H' l = some (.lst (intsV row0)) → Q .non H'
def spPlace (A : Adr) : Sp := fun vs H Q _ => ∃ (q dq l : Addr) (row : List Int) (b : Int), vs = [.ref q, .int b] ∧ H q = some (.ins A.FrontRow dq (fFR l)) ∧ H l = some (.lst (intsV row)) ∧ RowOk row ∧ IsB b ∧
  Q (.int ((row.idxOf b : Nat) : Int)) H
def spBring (A : Adr) : Sp := fun vs H Q _ => ∃ (q dq l : Addr) (row : List Int) (i : Nat) (b : Int), vs = [.ref q, .int (i : Int)] ∧ H q = some (.ins A.FrontRow dq (fFR l)) ∧ H l = some (.lst (intsV row)) ∧ row.length ≤ 256 ∧ row[i]? = some b ∧
  Q (.int b) (upd H l (.lst (intsV (b :: row.eraseIdx i))))
theorem ok_FRInit (T : Tx K mg A) : COk P w K mg base 1 "FrontRow" A.FrontRow ["self"] (spFRInit A) := by
  have sc : FnScope ["self"] ["self"] (defScope st_FrontRow___init) := ⟨rfl, rfl, rfl, by decide +kernel, rfl, by decide +kernel, by decide +kernel⟩
  refine T.k_FrontRow.init.ok sc (fun vs H Q E h => ?_) (fun f cdv A' outer s H vs Q E hr h => ?_)
  · obtain ⟨q, dq, rfl, _⟩ := h; rfl
  · obtain ⟨q, dq, rfl, hq, k⟩ := h
    refine ⟨_, (pss_one (ps_fld (pv 0) (pe_callTy call_list_rng rfl T.list bt_list (pa_cons (pe_callTy call_rng1 rfl T.range bt_range (pa_cons pe_int pa_nil)) pa_nil)) rfl)), ?_⟩
    refine ⟨_, rfl, fun r hr0 => ?_⟩
    refine ⟨r, 0, 256, rfl, upd_same, rfl, by decide, by decide, by decide, by decide, by decide, fun l hl => ?_⟩
    have hlr : l ≠ r := ne_none upd_same hl
    have hl0 : H l = none := by rw [upd_ne hlr] at hl; exact hl
    have nq : q ≠ r := ne_of_none hq hr0
    have nl : q ≠ l := ne_of_none hq hl0
    refine ⟨_, rfl, q, _, dq, _, rfl, by rw [upd_ne nl, upd_ne nq]; exact hq, T.k_FrontRow.cl, T.k_FrontRow.n_standing, by decide, ?_⟩
    refine k _ l (((((Mv.refl [q] H).upd (.inr hr0)).upd (.inr hl0)).upd (.inl (by simp))).own fun b m => ?_) hl0 (by rw [upd_same, ps_FrontRow_standing]) (by rw [upd_ne nl.symm, upd_same]; rw [show ((256 : Int) - 0).toNat = 256 from rfl, row0_rng])
    simp at m; rcases m with rfl | rfl
    · exact .inl (by simp)
    · exact .inr (.inr hl0)
theorem ok_place (T : Tx K mg A) : MOk P w K mg base 1 A.FrontRow "place_of" ["self", "byte"] (spPlace A) := by
  have sc : FnScope ["self", "byte"] ["self", "byte"] (defScope st_FrontRow_place_of) := ⟨rfl, rfl, rfl, by decide +kernel, rfl, by decide +kernel, by decide +kernel⟩
  refine T.k_FrontRow.m_place_of.ok sc (fun vs H Q E h => ?_) (fun f cdv A' outer s H vs Q E hr h => ?_)
  · obtain ⟨q, dq, l, row, b, rfl, _⟩ := h; rfl
  · obtain ⟨q, dq, l, row, b, rfl, hq, hl, ok, hb, k⟩ := h
    refine ⟨_, (pss_one (ps_ret (pe_bm PySem.F.plainAttrs_list PySem.F.slot_list_index PySem.F.type_list_index mt_index (pe_fld (pv 0) rfl) (pa_cons (pv 1) pa_nil)))), ?_⟩
    have hi := ok.idx hb
    refine ⟨_, rfl, q, _, dq, _, _, rfl, hq, T.k_FrontRow.cl, T.k_FrontRow.n_standing, lk_FrontRow_standing, .inl ⟨rfl, _, SqL.of hl⟩, _, rfl, l, intsV row, _, row.idxOf b, rfl, rfl, hl, rfl, flat_ints _, ⟨_, ints_get hi.2, ?_⟩, ?_, k⟩
    · show (b == b) = true; simp
    · intro m z hm hz
      obtain ⟨x, hx, rfl⟩ := ints_get' hz
      show (x == b) = false
      rw [beq_eq_false_iff_ne]
      intro e; subst e
      have := ok.idxOf hx
      omega
theorem ok_bring (T : Tx K mg A) : MOk P w K mg base 1 A.FrontRow "bring_forward" ["self", "place"] (spBring A) := by
  have sc : FnScope ["self", "place", "byte"] ["self", "place"] (defScope st_FrontRow_bring_forward) := ⟨rfl, rfl, rfl, by decide +kernel, rfl, by decide +kernel, by decide +kernel⟩
  refine T.k_FrontRow.m_bring_forward.ok sc (fun vs H Q E h => ?_) (fun f cdv A' outer s H vs Q E hr h => ?_)
  · obtain ⟨q, dq, l, row, i, b, rfl, _⟩ := h; rfl
  · obtain ⟨q, dq, l, row, i, b, rfl, hq, hl, hn, hi, k⟩ := h
    have cl := T.k_FrontRow.cl
    have n1 := T.k_FrontRow.n_standing
    have nl : q ≠ l := ne_of hq hl (by intro z; cases z)
    have hil : i < row.length := (List.getElem?_eq_some_iff.mp hi).1
    refine ⟨_, (pss_cons (ps_set (i := 2) sc.nd rfl (Or.inl rfl) (pe_bm PySem.F.plainAttrs_list PySem.F.slot_list_pop PySem.F.type_list_pop mt_popAt (pe_fld (pv 0) rfl) (pa_cons (pv 1) pa_nil)))
    (pss_cons (ps_expr (pe_bm PySem.F.plainAttrs_list PySem.F.slot_list_insert PySem.F.type_list_insert mt_insert0 (pe_fld (pv 0) rfl) (pa_cons pe_int (pa_cons (pv 2) pa_nil))))
    (pss_one (ps_ret (pv 2))))), ?_⟩
    have sx : seqIndex? (i : Int) (intsV row).length = some i := by
      refine (ixN_seq (n := (intsV row).length) (i := (i : Int)) (j := i) ?_).1
      unfold ixN
      rw [if_pos (by omega), if_pos (by simp; omega)]; simp
    refine ⟨_, rfl, q, _, dq, _, _, rfl, hq, cl, n1, lk_FrontRow_standing, .inl ⟨rfl, _, SqL.of hl⟩, _, rfl, l, intsV row, _, i, _, rfl, rfl, hl, by omega, by omega, sx, ints_get hi, ?_⟩
    have hq' : (upd H l (.lst ((intsV row).eraseIdx i))) q = some (.ins A.FrontRow dq (fFR l)) := by rw [upd_ne nl]; exact hq
    refine ⟨_, rfl, q, _, dq, _, _, rfl, hq', cl, n1, lk_FrontRow_standing, .inl ⟨rfl, _, SqL.of upd_same⟩, _, rfl, l, _, _, rfl, rfl, upd_same, ?_, _, rfl, ?_⟩
    · have := len_erase (intsV row) i; rw [List.length_map] at this; exact Nat.lt_of_le_of_lt (Nat.le_trans this hn) (by decide)
    rw [upd_upd, ints_erase]
    exact k
abbrev fRC (c : Int) : List (Str × V) := [("check", .int c)]
def spRCInit (A : Adr) : Sp := fun vs H Q _ => ∃ (q dq : Addr), vs = [.ref q] ∧ H q = some (.ins A.RunningCheck dq []) ∧ Q .non (upd H q (.ins A.RunningCheck dq (fRC 0)))
def spCount (A : Adr) : Sp := fun vs H Q _ => ∃ (q dq : Addr) (c b : Int), vs = [.ref q, .int b] ∧ H q = some (.ins A.RunningCheck dq (fRC c)) ∧ CkI c ∧ Q .non (upd H q (.ins A.RunningCheck dq (fRC (nxt c b))))
def spAsBytes (A : Adr) : Sp := fun vs H Q _ => ∃ (q dq : Addr) (c : Int), vs = [.ref q] ∧ H q = some (.ins A.RunningCheck dq (fRC c)) ∧ ∀ p, H p = none → Q (.ref p) (upd H p (.lst (intsV (two c))))
theorem ok_RCInit (T : Tx K mg A) : COk P w K mg base 1 "RunningCheck" A.RunningCheck ["self"] (spRCInit A) := by
  have sc : FnScope ["self"] ["self"] (defScope st_RunningCheck___init) := ⟨rfl, rfl, rfl, by decide +kernel, rfl, by decide +kernel, by decide +kernel⟩
  refine T.k_RunningCheck.init.ok sc (fun vs H Q E h => ?_) (fun f cdv A' outer s H vs Q E hr h => ?_)
  · obtain ⟨q, dq, rfl, _⟩ := h; rfl
  · obtain ⟨q, dq, rfl, hq, k⟩ := h
    refine ⟨_, (pss_one (ps_fld (pv 0) pe_int rfl)), ?_⟩
    refine ⟨_, rfl, q, _, dq, _, rfl, hq, T.k_RunningCheck.cl, T.k_RunningCheck.n_check, by decide, ?_⟩
    rw [ps_RunningCheck_check]
    exact k
theorem ok_count (T : Tx K mg A) : MOk P w K mg base 1 A.RunningCheck "count_byte" ["self", "byte"] (spCount A) := by
  have sc : FnScope ["self", "byte"] ["self", "byte"] (defScope st_RunningCheck_count_byte) := ⟨rfl, rfl, rfl, by decide +kernel, rfl, by decide +kernel, by decide +kernel⟩
  refine T.k_RunningCheck.m_count_byte.ok sc (fun vs H Q E h => ?_) (fun f cdv A' outer s H vs Q E hr h => ?_)
  · obtain ⟨q, dq, c, b, rfl, _⟩ := h; rfl
  · obtain ⟨q, dq, c, b, rfl, hq, hc, k⟩ := h
    have cl := T.k_RunningCheck.cl
    have n1 := T.k_RunningCheck.n_check
    refine ⟨_, (pss_one (ps_fld (pv 0) (pe_op op_mod (pe_op op_add (pe_op op_add (pe_op op_mul (pe_fld (pv 0) rfl) pe_int) (pv 1)) pe_int) pe_int) rfl)), ?_⟩
    refine ⟨_, rfl, q, _, dq, _, _, rfl, hq, cl, n1, lk_RunningCheck_check, _, _, rfl, rfl, .inr ⟨by decide, by decide⟩, _, rfl, _, _, rfl, rfl, _, _, rfl, rfl, _, _, rfl, rfl, (by show (0 : Int) < 65521; decide), ?_⟩
    refine ⟨_, rfl, q, _, dq, _, rfl, hq, cl, n1, by show 1 < 1000; decide, ?_⟩
    rw [pf_RunningCheck_check]
    exact k
theorem ok_asBytes (T : Tx K mg A) : MOk P w K mg base 1 A.RunningCheck "as_bytes" ["self"] (spAsBytes A) := by
  have sc : FnScope ["self"] ["self"] (defScope st_RunningCheck_as_bytes) := ⟨rfl, rfl, rfl, by decide +kernel, rfl, by decide +kernel, by decide +kernel⟩
  refine T.k_RunningCheck.m_as_bytes.ok sc (fun vs H Q E h => ?_) (fun f cdv A' outer s H vs Q E hr h => ?_)
  · obtain ⟨q, dq, c, rfl, _⟩ := h; rfl
  · obtain ⟨q, dq, c, rfl, hq, k⟩ := h
    have cl := T.k_RunningCheck.cl
    have n1 := T.k_RunningCheck.n_check
    refine ⟨_, (pss_one (ps_ret (pe_lst (pa_cons (pe_op op_fdiv (pe_fld (pv 0) rfl) pe_int) (pa_cons (pe_op op_mod (pe_fld (pv 0) rfl) pe_int) pa_nil))))), ?_⟩
    refine ⟨_, rfl, q, _, dq, _, _, rfl, hq, cl, n1, lk_RunningCheck_check, _, _, rfl, rfl, ⟨by decide, by decide⟩, _, rfl, q, _, dq, _, _, rfl, hq, cl, n1, lk_RunningCheck_check, _, _, rfl, rfl, (by show (0 : Int) < 256; decide), by show 2 ≤ sizeLine; decide, fun p hp => ?_⟩
    exact k p hp
abbrev fHD (h : Int) (m : Nat) : List (Str × V) := [("held", .int h), ("width", .int (m : Int))]
def spHDInit (A : Adr) : Sp := fun vs H Q _ => ∃ (q dq : Addr), vs = [.ref q] ∧ H q = some (.ins A.HeldDigits dq []) ∧ Q .non (upd H q (.ins A.HeldDigits dq (fHD 0 0)))
def spPush (A : Adr) : Sp := fun vs H Q _ => ∃ (q dq : Addr) (h x : Int) (m n : Nat), vs = [.ref q, .int x, .int (n : Int)] ∧ H q = some (.ins A.HeldDigits dq (fHD h m)) ∧ 0 ≤ h ∧ h < 65536 ∧ n ≤ 64 ∧
  Q .non (upd H q (.ins A.HeldDigits dq (fHD (h * 2 ^ n + x) (m + n))))
def spDrawD (A : Adr) : Sp := fun vs H Q _ => ∃ (q dq : Addr) (h : Int) (m n : Nat), vs = [.ref q, .int (n : Int)] ∧ H q = some (.ins A.HeldDigits dq (fHD h m)) ∧ 0 ≤ h ∧ h < 65536 ∧ n ≤ m ∧ m ≤ 64 ∧
  Q (.int (h / 2 ^ (m - n))) (upd H q (.ins A.HeldDigits dq (fHD (h - h / 2 ^ (m - n) * 2 ^ (m - n)) (m - n))))
theorem ok_HDInit (T : Tx K mg A) : COk P w K mg base 1 "HeldDigits" A.HeldDigits ["self"] (spHDInit A) := by
  have sc : FnScope ["self"] ["self"] (defScope st_HeldDigits___init) := ⟨rfl, rfl, rfl, by decide +kernel, rfl, by decide +kernel, by decide +kernel⟩
  refine T.k_HeldDigits.init.ok sc (fun vs H Q E h => ?_) (fun f cdv A' outer s H vs Q E hr h => ?_)
  · obtain ⟨q, dq, rfl, _⟩ := h; rfl
  · obtain ⟨q, dq, rfl, hq, k⟩ := h
    refine ⟨_, (pss_cons (ps_fld (pv 0) pe_int rfl)
    (pss_one (ps_fld (pv 0) pe_int rfl))), ?_⟩
    refine ⟨_, rfl, q, _, dq, _, rfl, hq, T.k_HeldDigits.cl, T.k_HeldDigits.n_held, by decide, ?_⟩
    refine ⟨_, rfl, q, _, dq, _, rfl, upd_same, T.k_HeldDigits.cl, T.k_HeldDigits.n_width, by show 1 < 1000; decide, ?_⟩
    rw [upd_upd, ps_HeldDigits_held, ps_HeldDigits_width]
    exact k
theorem ok_push (T : Tx K mg A) : MOk P w K mg base 1 A.HeldDigits "push" ["self", "number", "width"] (spPush A) := by
  have sc : FnScope ["self", "number", "width"] ["self", "number", "width"] (defScope st_HeldDigits_push) := ⟨rfl, rfl, rfl, by decide +kernel, rfl, by decide +kernel, by decide +kernel⟩
  refine T.k_HeldDigits.m_push.ok sc (fun vs H Q E h => ?_) (fun f cdv A' outer s H vs Q E hr h => ?_)
  · obtain ⟨q, dq, hh, x, m, n, rfl, _⟩ := h; rfl
  · obtain ⟨q, dq, hh, x, m, n, rfl, hq, h0, h1, hn, k⟩ := h
    have cl := T.k_HeldDigits.cl
    have n1 := T.k_HeldDigits.n_held
    have n2 := T.k_HeldDigits.n_width
    refine ⟨_, (pss_cons (ps_fld (pv 0) (pe_op op_add (pe_op op_shl (pe_fld (pv 0) rfl) (pv 2)) (pv 1)) rfl)
    (pss_one (ps_fldaug (pv 0) (pv 2) in_add))), ?_⟩
    refine ⟨_, rfl, q, _, dq, _, _, rfl, hq, cl, n1, lk_HeldDigits_held, _, rfl, _, _, rfl, rfl, ⟨by omega, by omega, by omega⟩, _, rfl, _, _, rfl, rfl, ?_⟩
    refine ⟨_, rfl, q, _, dq, _, rfl, hq, cl, n1, by show 2 < 1000; decide, ?_⟩
    rw [pf_HeldDigits_held]
    refine ⟨_, rfl, q, _, dq, _, _, rfl, upd_same, cl, n2, lk_HeldDigits_width, _, rfl, _, _, rfl, rfl, ?_⟩
    refine ⟨dq, _, upd_same, by show 2 < 1000; decide, ?_⟩
    rw [upd_upd, pf_HeldDigits_width]
    exact k
theorem ok_drawD (T : Tx K mg A) : MOk P w K mg base 1 A.HeldDigits "draw_digits" ["self", "width"] (spDrawD A) := by
  have sc : FnScope ["self", "width", "number"] ["self", "width"] (defScope st_HeldDigits_draw_digits) := ⟨rfl, rfl, rfl, by decide +kernel, rfl, by decide +kernel, by decide +kernel⟩
  refine T.k_HeldDigits.m_draw_digits.ok sc (fun vs H Q E h => ?_) (fun f cdv A' outer s H vs Q E hr h => ?_)
  · obtain ⟨q, dq, hh, m, n, rfl, _⟩ := h; rfl
  · obtain ⟨q, dq, hh, m, n, rfl, hq, h0, h1, hn, hm, k⟩ := h
    have cl := T.k_HeldDigits.cl
    have n1 := T.k_HeldDigits.n_held
    have n2 := T.k_HeldDigits.n_width
    refine ⟨_, (pss_cons (ps_fldaug (pv 0) (pv 1) in_sub)
    (pss_cons (ps_set (i := 2) sc.nd rfl (Or.inl rfl) (pe_op op_shr (pe_fld (pv 0) rfl) (pe_fld (pv 0) rfl)))
    (pss_cons (ps_fldaug (pv 0) (pe_op op_shl (pv 2) (pe_fld (pv 0) rfl)) in_sub)
    (pss_one (ps_ret (pv 2)))))), ?_⟩
    refine ⟨_, rfl, q, _, dq, _, _, rfl, hq, cl, n2, lk_HeldDigits_width, _, rfl, _, _, rfl, rfl, ?_⟩
    refine ⟨dq, _, hq, by show 2 < 1000; decide, ?_⟩
    rw [pf_HeldDigits_width]
    refine ⟨_, rfl, q, _, dq, _, _, rfl, upd_same, cl, n1, lk_HeldDigits_held, _, rfl, q, _, dq, _, _, rfl, upd_same, cl, n2, lk_HeldDigits_width, _, _, rfl, rfl, by omega, ?_⟩
    have e1 : (m : Int) - (n : Int) = ((m - n : Nat) : Int) := by omega
    rw [e1]
    have hp : (0 : Int) < 2 ^ (m - n) := by exact_mod_cast Nat.pow_pos (by decide)
    have hd0 : 0 ≤ hh / 2 ^ (m - n) := Int.ediv_nonneg h0 (by omega)
    have hd1 : hh / 2 ^ (m - n) ≤ hh := Int.ediv_le_self _ h0
    refine ⟨_, rfl, q, _, dq, _, _, rfl, upd_same, cl, n1, lk_HeldDigits_held, _, rfl, _, rfl, q, _, dq, _, _, rfl, upd_same, cl, n2, lk_HeldDigits_width, _, _, rfl, rfl, ⟨by omega, by omega, ?_⟩, _, _, rfl, rfl, ?_⟩
    · show (hh / 2 ^ (m - n)).natAbs < 2 ^ 64; omega
    refine ⟨dq, _, upd_same, by show 2 < 1000; decide, ?_⟩
    rw [upd_upd, pf_HeldDigits_held]
    exact ⟨_, rfl, k⟩
def spBehind : Sp := fun vs H Q _ => ∃ (b k : Int), vs = [.int b, .int k] ∧ Q (.int (nb b k)) H
theorem ok_behind (T : Tx K mg A) : Callee P w K mg base 1 "behind" ["byte", "steps"] spBehind := by
  have sc : FnScope ["byte", "steps"] ["byte", "steps"] (defScope st_behind) := ⟨rfl, rfl, rfl, by decide +kernel, rfl, by decide +kernel, by decide +kernel⟩
  refine T.f_behind.ok sc (fun vs H Q E h => ?_) (fun f cdv A' outer s H vs Q E hr h => ?_)
  · obtain ⟨b, k, rfl, _⟩ := h; rfl
  · obtain ⟨b, k, rfl, q⟩ := h
    refine ⟨_, (pss_one (ps_ret (pe_op op_mod (pe_op op_add (pv 0) (pv 1)) pe_int))), ?_⟩
    exact ⟨_, rfl, _, rfl, _, _, rfl, rfl, _, _, rfl, rfl, (by show (0 : Int) < 256; decide), q⟩
abbrev signsS : Str := "-0123456789ABCDEFGHIJKLMNOPQRSTUVWXYZ_abcdefghijklmnopqrstuvwxyz"
theorem signs_at : ∀ v : Fin 64, signsS.cps.toList[v.val]? = some (sgn ((v.val : Nat) : Int)).toNat := by decide +kernel
def spSignOf : Sp := fun vs H Q _ => ∃ (v : Int), vs = [.int v] ∧ 0 ≤ v ∧ v < 64 ∧ Q (.int (sgn v)) H
theorem ok_signOf (T : Tx K mg A) : Callee P w K mg base 1 "sign_of" ["group"] spSignOf := by
  have sc : FnScope ["group"] ["group"] (defScope st_sign_of) := ⟨rfl, rfl, rfl, by decide +kernel, rfl, by decide +kernel, by decide +kernel⟩
  refine T.f_sign_of.ok sc (fun vs H Q E h => ?_) (fun f cdv A' outer s H vs Q E hr h => ?_)
  · obtain ⟨v, rfl, _⟩ := h; rfl
  · obtain ⟨v, rfl, h0, h1, q⟩ := h
    refine ⟨_, (pss_one (ps_ret (pe_callB call_ord rfl T.ord bt_ord (pa_cons (pe_ix ix_str (pe_const rfl T.SIGNS) (pv 0) (fun _ _ => rfl)) pa_nil)))), ?_⟩
    obtain ⟨n, rfl⟩ : ∃ n : Nat, v = (n : Int) := ⟨v.toNat, by omega⟩
    have hs := signs_at ⟨n, by omega⟩
    have hb := sgn_b h0 h1
    refine ⟨_, rfl, signsS, _, _, rfl, rfl, by decide +kernel, atI_nat hs, _, rfl, rfl, ?_⟩
    unfold IsB at hb
    have e : (((#[(sgn (n : Int)).toNat] : Array Nat).getD 0 0 : Nat) : Int) = sgn (n : Int) := by show ((sgn (n : Int)).toNat : Int) = _; omega
    dsimp only
    rw [e]
    exact q
end
end Fl
namespace Fl
open PySem L2 Fm
def WO (A : Adr) (H : Hp) (p : Addr) (F : List Addr) : WS → Prop
  | .add key t => ∃ dx q dq u, F = [p, q] ∧ p ≠ q ∧ H p = some (.ins A.AddWriter dx [("turning", .ref q)]) ∧ H q = some (.ins A.TurningKey dq (fTK u t)) ∧ H u = some (.tup (intsV key))
  | .front row => ∃ dx q dq l, F = [p, q, l] ∧ p ≠ q ∧ H p = some (.ins A.FrontWriter dx [("front_row", .ref q)]) ∧ H q = some (.ins A.FrontRow dq (fFR l)) ∧ H l = some (.lst (intsV row))
  | .escape b => ∃ dx d u1 u2, F = [p] ∧ H p = some (.ins A.EscapeWriter dx [("pairs", .ref d)]) ∧ H d = some (.dK [(Sum.inl b, .ref u1), (Sum.inl (nb b 1), .ref u2)]) ∧ H u1 = some (.tup (intsV [nb b 1, nb b 2])) ∧ H u2 = some (.tup (intsV [nb b 1, nb b 3]))
  | .runs c v => ∃ dx, F = [p] ∧ H p = some (.ins A.RunsWriter dx [("count", .int (c : Int)), ("byte", .int v)])
  | .chunks n w => ∃ dx l, F = [p, l] ∧ H p = some (.ins A.ChunksWriter dx [("n", .int (n : Int)), ("waiting", .ref l)]) ∧ H l = some (.lst (intsV w))
  | .checks n k c => ∃ dx q dq, F = [p, q] ∧ p ≠ q ∧ H p = some (.ins A.ChecksWriter dx [("n", .int (n : Int)), ("running", .ref q), ("unchecked", .int (k : Int))]) ∧ H q = some (.ins A.RunningCheck dq (fRC c))
  | .signs k v => ∃ dx q dq, F = [p, q] ∧ p ≠ q ∧ H p = some (.ins A.SignsWriter dx [("digits", .ref q)]) ∧ H q = some (.ins A.HeldDigits dq (fHD v k))
inductive WK where
  | add | front | escape | runs | chunks | checks | signs
def kd : WS → WK
  | .add _ _ => .add | .front _ => .front | .escape _ => .escape | .runs _ _ => .runs | .chunks _ _ => .chunks | .checks _ _ _ => .checks | .signs _ _ => .signs
def cW (A : Adr) : WK → Addr
  | .add => A.AddWriter | .front => A.FrontWriter | .escape => A.EscapeWriter | .runs => A.RunsWriter | .chunks => A.ChunksWriter | .checks => A.ChecksWriter | .signs => A.SignsWriter
def Imm : HO → Prop
  | .ins _ _ _ => False
  | .lst _ => False
  | _ => True
section
variable {A : Adr} {H H' : Hp} {p : Addr} {F : List Addr} {s : WS}
theorem WO.ins (h : WO A H p F s) : ∃ dx fs, H p = some (.ins (cW A (kd s)) dx fs) ∧ fs.lookup ("write_byte" : Str) = none ∧ fs.lookup ("take" : Str) = none ∧ fs.lookup ("end" : Str) = none := by
  cases s with
  | add key t => obtain ⟨dx, q, dq, u, _, _, h1, _⟩ := h; exact ⟨dx, _, h1, nm_AddWriter_write_byte, nm_AddWriter_take, nm_AddWriter_end⟩
  | front row => obtain ⟨dx, q, dq, u, _, _, h1, _⟩ := h; exact ⟨dx, _, h1, nm_FrontWriter_write_byte, nm_FrontWriter_take, nm_FrontWriter_end⟩
  | escape b => obtain ⟨dx, q, dq, u, _, h1, _⟩ := h; exact ⟨dx, _, h1, nm_EscapeWriter_write_byte, nm_EscapeWriter_take, nm_EscapeWriter_end⟩
  | runs c v => obtain ⟨dx, _, h1⟩ := h; exact ⟨dx, _, h1, nm_RunsWriter_write_byte, nm_RunsWriter_take, nm_RunsWriter_end⟩
  | chunks n l => obtain ⟨dx, q, _, h1, _⟩ := h; exact ⟨dx, _, h1, nm_ChunksWriter_write_byte, nm_ChunksWriter_take, nm_ChunksWriter_end⟩
  | checks n k c => obtain ⟨dx, q, dq, _, _, h1, _⟩ := h; exact ⟨dx, _, h1, nm_ChecksWriter_write_byte, nm_ChecksWriter_take, nm_ChecksWriter_end⟩
  | signs k v => obtain ⟨dx, q, dq, _, _, h1, _⟩ := h; exact ⟨dx, _, h1, nm_SignsWriter_write_byte, nm_SignsWriter_take, nm_SignsWriter_end⟩
theorem WO.mu (h : WO A H p F s) : ∀ b ∈ F, ∃ o, H b = some o ∧ ¬ Imm o := by
  intro b hb
  cases s with
  | add key t => obtain ⟨dx, q, dq, u, rfl, _, h1, h2, _⟩ := h; simp at hb; rcases hb with rfl | rfl <;> first | exact ⟨_, h1, id⟩ | exact ⟨_, h2, id⟩
  | front row => obtain ⟨dx, q, dq, l, rfl, _, h1, h2, h3⟩ := h; simp at hb; rcases hb with rfl | rfl | rfl <;> first | exact ⟨_, h1, id⟩ | exact ⟨_, h2, id⟩ | exact ⟨_, h3, id⟩
  | escape b => obtain ⟨dx, q, dq, u, rfl, h1, _⟩ := h; simp at hb; subst hb; exact ⟨_, h1, id⟩
  | runs c v => obtain ⟨dx, rfl, h1⟩ := h; simp at hb; subst hb; exact ⟨_, h1, id⟩
  | chunks n l => obtain ⟨dx, q, rfl, h1, h2⟩ := h; simp at hb; rcases hb with rfl | rfl <;> first | exact ⟨_, h1, id⟩ | exact ⟨_, h2, id⟩
  | checks n k c => obtain ⟨dx, q, dq, rfl, _, h1, h2⟩ := h; simp at hb; rcases hb with rfl | rfl <;> first | exact ⟨_, h1, id⟩ | exact ⟨_, h2, id⟩
  | signs k v => obtain ⟨dx, q, dq, rfl, _, h1, h2⟩ := h; simp at hb; rcases hb with rfl | rfl <;> first | exact ⟨_, h1, id⟩ | exact ⟨_, h2, id⟩
theorem WO.keep (h : WO A H p F s) (k : ∀ b o, H b = some o → (b ∈ F ∨ Imm o) → H' b = some o) : WO A H' p F s := by
  cases s with
  | add key t => obtain ⟨dx, q, dq, u, rfl, n, h1, h2, h3⟩ := h; exact ⟨dx, q, dq, u, rfl, n, k _ _ h1 (.inl (by simp)), k _ _ h2 (.inl (by simp)), k _ _ h3 (.inr trivial)⟩
  | front row => obtain ⟨dx, q, dq, l, rfl, n, h1, h2, h3⟩ := h; exact ⟨dx, q, dq, l, rfl, n, k _ _ h1 (.inl (by simp)), k _ _ h2 (.inl (by simp)), k _ _ h3 (.inl (by simp))⟩
  | escape b => obtain ⟨dx, d, u1, u2, rfl, h1, h2, h3, h4⟩ := h; exact ⟨dx, d, u1, u2, rfl, k _ _ h1 (.inl (by simp)), k _ _ h2 (.inr trivial), k _ _ h3 (.inr trivial), k _ _ h4 (.inr trivial)⟩
  | runs c v => obtain ⟨dx, rfl, h1⟩ := h; exact ⟨dx, rfl, k _ _ h1 (.inl (by simp))⟩
  | chunks n l => obtain ⟨dx, q, rfl, h1, h2⟩ := h; exact ⟨dx, q, rfl, k _ _ h1 (.inl (by simp)), k _ _ h2 (.inl (by simp))⟩
  | checks n k' c => obtain ⟨dx, q, dq, rfl, n, h1, h2⟩ := h; exact ⟨dx, q, dq, rfl, n, k _ _ h1 (.inl (by simp)), k _ _ h2 (.inl (by simp))⟩
  | signs k' v => obtain ⟨dx, q, dq, rfl, n, h1, h2⟩ := h; exact ⟨dx, q, dq, rfl, n, k _ _ h1 (.inl (by simp)), k _ _ h2 (.inl (by simp))⟩
theorem WO.same (h : WO A H p F s) (e : Same H H') : WO A H' p F s := h.keep fun b o q _ => e b o q
end
def spWB (A : Adr) (i : WK) : Sp := fun vs H Q _ => ∃ (p : Addr) (F : List Addr) (s : WS) (b : Int) (s' : WS) (o : List Int), vs = [.ref p, .int b] ∧ kd s = i ∧ WO A H p F s ∧ WOk s ∧ IsB b ∧ wS s b = some (s', o) ∧
  ∀ (H' : Hp) (F' : List Addr) (q : Addr), Mv F F' H H' → WO A H' p F' s' → H q = none → q ∉ F' → H' q = some (.lst (intsV o)) → Q (.ref q) H'
def spWE (A : Adr) (i : WK) : Sp := fun vs H Q _ => ∃ (p : Addr) (F : List Addr) (s : WS), vs = [.ref p] ∧ kd s = i ∧ WO A H p F s ∧ WOk s ∧
  ∀ (H' : Hp) (F' : List Addr) (q : Addr), Mv F F' H H' → H q = none → H' q = some (.lst (intsV (wF s))) → Q (.ref q) H'
def spWT (A : Adr) (i : WK) : Sp := fun vs H Q _ => ∃ (p r : Addr) (F : List Addr) (s : WS) (xs : List Int) (s' : WS) (o : List Int), vs = [.ref p, .ref r] ∧ kd s = i ∧ WO A H p F s ∧ WOk s ∧ H r = some (.lst (intsV xs)) ∧ r ∉ F ∧ AllB xs ∧
  Fm.run wS s xs = some (s', o) ∧ o.length ≤ sizeLine ∧
  ∀ (H' : Hp) (F' : List Addr) (q : Addr), Mv F F' H H' → WO A H' p F' s' → H q = none → q ∉ F' → H' q = some (.lst (intsV o)) → Q (.ref q) H'
section
variable {P : Program} {w : World} {K : PySem.W.Frag} {mg : Str → Option Value} {base : Heap} {A : Adr}
theorem ok_AddW_init (T : Tx K mg A) : COk P w K mg base 3 "AddWriter" A.AddWriter ["self", "key"] (fun vs H Q _ => ∃ (p dx u : Addr) (key : List Int), vs = [.ref p, .ref u] ∧ H u = some (.tup (intsV key)) ∧ H p = some (.ins A.AddWriter dx []) ∧
    ∀ (H' : Hp) (F' : List Addr), Mv [p] F' H H' → WO A H' p F' (.add key 0) → Q .non H') := by
  have sc : FnScope ["self", "key"] ["self", "key"] (defScope st_AddWriter___init) := ⟨rfl, rfl, rfl, by decide +kernel, rfl, by decide +kernel, by decide +kernel⟩
  refine T.k_AddWriter.init.ok sc (fun vs H Q E h => ?_) (fun f cdv A' outer s H vs Q E hr h => ?_)
  · obtain ⟨p, dx, u, key, rfl, _⟩ := h; rfl
  · obtain ⟨p, dx, u, key, rfl, hu, hp, k⟩ := h
    have mTurningKey := ok_TKInit (P := P) (w := w) (base := base) T
    refine ⟨_, (pss_one (ps_fld (pv 0) (pe_makeC mTurningKey (hr.mono (by decide)) rfl (pa_cons (pv 1) pa_nil)) rfl)), ?_⟩
    refine ⟨_, rfl, fun q dq nq ndq ne => ⟨q, dq, u, rfl, upd_same, rfl, ?_⟩⟩
    have npq : p ≠ q := ne_of_none hp nq
    have npd : p ≠ dq := ne_of_none hp ndq
    refine ⟨_, rfl, p, _, dx, _, rfl, by rw [upd_ne npq, upd_ne npq, upd_ne npd]; exact hp, T.k_AddWriter.cl, T.k_AddWriter.n_turning, by decide, ?_⟩
    rw [ps_AddWriter_turning]
    refine k _ [p, q] ((((((Mv.refl [p] H).upd (.inr ndq)).upd (.inr nq)).upd (.inr nq)).upd (.inl (by simp))).own fun b m => ?_) ⟨dx, q, dq, u, rfl, npq, upd_same, by rw [upd_ne npq.symm, upd_same], ?_⟩
    · simp at m; rcases m with rfl | rfl
      · exact .inl (by simp)
      · exact .inr (.inr nq)
    · rw [upd_ne (ne_of hu hp (by intro z; cases z)), upd_ne (ne_of_none hu nq), upd_ne (ne_of_none hu nq), upd_ne (ne_of_none hu ndq)]; exact hu
theorem ok_AddW_byte (T : Tx K mg A) : MOk P w K mg base 2 A.AddWriter "write_byte" ["self", "byte"] (spWB A .add) := by
  have sc : FnScope ["self", "byte"] ["self", "byte"] (defScope st_AddWriter_write_byte) := ⟨rfl, rfl, rfl, by decide +kernel, rfl, by decide +kernel, by decide +kernel⟩
  refine T.k_AddWriter.m_write_byte.ok sc (fun vs H Q E h => ?_) (fun f cdv A' outer s H vs Q E hr h => ?_)
  · obtain ⟨p, F, s, b, s', o, rfl, _⟩ := h; rfl
  · obtain ⟨p, F, s, b, s', o, rfl, hk, hW, hO, hb, hs, k⟩ := h
    cases s <;> cases hk
    obtain ⟨dx, q, dq, u, rfl, npq, h1, h2, h3⟩ := hW
    have h_draw := ok_draw (P := P) (w := w) (base := base) T
    have e := Option.some.inj hs
    cases e
    refine ⟨_, (pss_one (ps_ret (pe_lst (pa_cons (pe_op op_mod (pe_op op_add (pv 1) (pe_methC0 h_draw (hr.mono (by decide)) (pe_fld (pv 0) rfl))) pe_int) pa_nil)))), ?_⟩
    refine ⟨_, rfl, _, rfl, p, _, dx, _, _, rfl, h1, T.k_AddWriter.cl, T.k_AddWriter.n_turning, lk_AddWriter_turning, q, dq, _, rfl, h2, nm_TurningKey_draw, q, dq, u, _, _, rfl, h2, h3, hO.1, _, _, rfl, rfl, _, _, rfl, rfl, (by show (0 : Int) < 256; decide), by show 1 ≤ sizeLine; decide, fun l hl => ?_⟩
    have hlq : l ≠ q := ne_none upd_same hl
    have hl0 : H l = none := by rw [upd_ne hlq] at hl; exact hl
    have hup : u ≠ q := ne_of h3 h2 (by intro z; cases z)
    refine k _ [p, q] l (((Mv.refl [p, q] H).upd (.inl (by simp))).upd (.inr hl0)) ⟨dx, q, dq, u, rfl, npq, ?_, ?_, ?_⟩ hl0 ?_ upd_same
    · rw [upd_ne (ne_of_none h1 hl0), upd_ne npq]; exact h1
    · rw [upd_ne hlq.symm, upd_same]
    · rw [upd_ne (ne_of_none h3 hl0), upd_ne hup]; exact h3
    · simp; exact ⟨(ne_of_none h1 hl0).symm, hlq⟩
end
end Fl
namespace Fl
open PySem L2 Fm
theorem Mv.make {F : List Addr} {H : Hp} {q dq : Addr} {o1 o2 : HO} (nq : H q = none) (ndq : H dq = none) : Mv F (q :: F) H (L2.upd (L2.upd H dq o1) q o2) :=
  (((Mv.refl F H).upd (.inr ndq)).upd (.inr nq)).own fun b m => by
    rcases List.mem_cons.mp m with rfl | m
    · exact .inr (.inr nq)
    · exact .inl m
section
variable {P : Program} {w : World} {K : PySem.W.Frag} {mg : Str → Option Value} {base : Heap} {A : Adr}
theorem ok_FrontW_init (T : Tx K mg A) : COk P w K mg base 3 "FrontWriter" A.FrontWriter ["self"] (fun vs H Q _ => ∃ (p dx : Addr), vs = [.ref p] ∧ H p = some (.ins A.FrontWriter dx []) ∧
    ∀ (H' : Hp) (F' : List Addr), Mv [p] F' H H' → WO A H' p F' (.front row0) → Q .non H') := by
  have sc : FnScope ["self"] ["self"] (defScope st_FrontWriter___init) := ⟨rfl, rfl, rfl, by decide +kernel, rfl, by decide +kernel, by decide +kernel⟩
  refine T.k_FrontWriter.init.ok sc (fun vs H Q E h => ?_) (fun f cdv A' outer s H vs Q E hr h => ?_)
  · obtain ⟨p, dx, rfl, _⟩ := h; rfl
  · obtain ⟨p, dx, rfl, hp, k⟩ := h
    have mFrontRow := ok_FRInit (P := P) (w := w) (base := base) T
    refine ⟨_, (pss_one (ps_fld (pv 0) (pe_makeC0 mFrontRow (hr.mono (by decide)) rfl) rfl)), ?_⟩
    refine fun q dq nq ndq ne => ⟨q, dq, rfl, upd_same, fun H1 l m hl h1 h2 => ⟨rfl, ?_⟩⟩
    have npq : p ≠ q := ne_of_none hp nq
    have npd : p ≠ dq := ne_of_none hp ndq
    have hp1 : H1 p = some (.ins A.FrontWriter dx []) := m.fr p _ (by rw [upd_ne npq, upd_ne npd]; exact hp) (by simp; exact npq)
    have npl : p ≠ l := fun z => by subst z; rw [hp1] at h2; cases h2
    refine ⟨_, rfl, p, _, dx, _, rfl, hp1, T.k_FrontWriter.cl, T.k_FrontWriter.n_front_row, by decide, ?_⟩
    rw [ps_FrontWriter_front_row]
    refine k _ [p, q, l] (((Mv.make nq ndq).trans ((m.wide (G := [q, p]) (by simp)).own (G := [p, q, l]) fun b z => ?_)).upd (.inl (by simp))) ⟨dx, q, dq, l, rfl, npq, upd_same, by rw [upd_ne npq.symm]; exact h1, by rw [upd_ne npl.symm]; exact h2⟩
    simp at z; rcases z with rfl | rfl | rfl
    · exact .inr (.inl (by simp))
    · exact .inl (by simp)
    · exact .inl (by simp)
theorem ok_FrontW_byte (T : Tx K mg A) : MOk P w K mg base 2 A.FrontWriter "write_byte" ["self", "byte"] (spWB A .front) := by
  have sc : FnScope ["self", "byte", "place"] ["self", "byte"] (defScope st_FrontWriter_write_byte) := ⟨rfl, rfl, rfl, by decide +kernel, rfl, by decide +kernel, by decide +kernel⟩
  refine T.k_FrontWriter.m_write_byte.ok sc (fun vs H Q E h => ?_) (fun f cdv A' outer s H vs Q E hr h => ?_)
  · obtain ⟨p, F, s, b, s', o, rfl, _⟩ := h; rfl
  · obtain ⟨p, F, s, b, s', o, rfl, hk, hW, hO, hb, hs, k⟩ := h
    cases s <;> cases hk
    rename_i row
    obtain ⟨dx, q, dq, l, rfl, npq, h1, h2, h3⟩ := hW
    have h_place_of := ok_place (P := P) (w := w) (base := base) T
    have h_bring_forward := ok_bring (P := P) (w := w) (base := base) T
    have e := Option.some.inj hs
    cases e
    have hO : RowOk row := hO
    have hi := hO.idx hb
    have npl : p ≠ l := ne_of h1 h3 (by intro z; cases z)
    have nql : q ≠ l := ne_of h2 h3 (by intro z; cases z)
    refine ⟨_, (pss_cons (ps_set (i := 2) sc.nd rfl (Or.inl rfl) (pe_methC h_place_of (hr.mono (by decide)) (pe_fld (pv 0) rfl) (pa_cons (pv 1) pa_nil)))
    (pss_cons (ps_expr (pe_methC h_bring_forward (hr.mono (by decide)) (pe_fld (pv 0) rfl) (pa_cons (pv 2) pa_nil)))
    (pss_one (ps_ret (pe_lst (pa_cons (pv 2) pa_nil)))))), ?_⟩
    refine ⟨_, rfl, p, _, dx, _, _, rfl, h1, T.k_FrontWriter.cl, T.k_FrontWriter.n_front_row, lk_FrontWriter_front_row, q, dq, _, rfl, h2, nm_FrontRow_place_of, _, rfl, q, dq, l, row, b, rfl, h2, h3, hO, hb, ?_⟩
    refine ⟨_, rfl, p, _, dx, _, _, rfl, h1, T.k_FrontWriter.cl, T.k_FrontWriter.n_front_row, lk_FrontWriter_front_row, q, dq, _, rfl, h2, nm_FrontRow_bring_forward, _, rfl, q, dq, l, row, row.idxOf b, b, rfl, h2, h3, by have := hO.len; omega, hi.2, ?_⟩
    refine ⟨_, rfl, by show 1 ≤ sizeLine; decide, fun r hr0 => ?_⟩
    have nrl : r ≠ l := ne_none upd_same hr0
    have hr1 : H r = none := by rw [upd_ne nrl] at hr0; exact hr0
    refine k _ [p, q, l] r (((Mv.refl _ H).upd (.inl (by simp))).upd (.inr hr1)) ⟨dx, q, dq, l, rfl, npq, ?_, ?_, ?_⟩ hr1 ?_ upd_same
    · rw [upd_ne (ne_of_none h1 hr1), upd_ne npl]; exact h1
    · rw [upd_ne (ne_of_none h2 hr1), upd_ne nql]; exact h2
    · rw [upd_ne nrl.symm, upd_same]
    · simp; exact ⟨(ne_of_none h1 hr1).symm, (ne_of_none h2 hr1).symm, nrl⟩
theorem ok_EscapeW_init (T : Tx K mg A) : COk P w K mg base 2 "EscapeWriter" A.EscapeWriter ["self", "b"] (fun vs H Q _ => ∃ (p dx : Addr) (b : Int), vs = [.ref p, .int b] ∧ IsB b ∧ H p = some (.ins A.EscapeWriter dx []) ∧
    ∀ (H' : Hp) (F' : List Addr), Mv [p] F' H H' → WO A H' p F' (.escape b) → Q .non H') := by
  have sc : FnScope ["self", "b", "c"] ["self", "b"] (defScope st_EscapeWriter___init) := ⟨rfl, rfl, rfl, by decide +kernel, rfl, by decide +kernel, by decide +kernel⟩
  refine T.k_EscapeWriter.init.ok sc (fun vs H Q E h => ?_) (fun f cdv A' outer s H vs Q E hr h => ?_)
  · obtain ⟨p, dx, b, rfl, _⟩ := h; rfl
  · obtain ⟨p, dx, b, rfl, hb, hp, k⟩ := h
    have cbehind := ok_behind (P := P) (w := w) (base := base) T
    refine ⟨_, (pss_cons (ps_set (i := 2) sc.nd rfl (Or.inl rfl) (pe_callC cbehind (hr.mono (by decide)) rfl (pa_cons (pv 1) (pa_cons pe_int pa_nil))))
    (pss_one (ps_fld (pv 0) (pe_disp (pps_cons (pv 1) (pe_tup (pa_cons (pv 2) (pa_cons (pe_callC cbehind (hr.mono (by decide)) rfl (pa_cons (pv 1) (pa_cons pe_int pa_nil))) pa_nil))) (pps_cons (pv 2) (pe_tup (pa_cons (pv 2) (pa_cons (pe_callC cbehind (hr.mono (by decide)) rfl (pa_cons (pv 1) (pa_cons pe_int pa_nil))) pa_nil))) pps_nil)) rfl rfl (by simp) (by decide)) rfl))), ?_⟩
    refine ⟨_, rfl, b, 1, rfl, ?_⟩
    refine fun d hd => ⟨_, rfl, _, rfl, _, rfl, b, 2, rfl, by show 2 ≤ sizeLine; decide, fun u1 hu1 => ⟨_, rfl, _, rfl, _, rfl, b, 3, rfl, by show 2 ≤ sizeLine; decide, fun u2 hu2 => ?_⟩⟩
    have n1 : u1 ≠ d := ne_none upd_same hu1
    have hu1' : H u1 = none := by rw [upd_ne n1] at hu1; exact hu1
    have n21 : u2 ≠ u1 := ne_none upd_same hu2
    have hu2a : (L2.upd H d (.dK [])) u2 = none := by rw [upd_ne n21] at hu2; exact hu2
    have n2 : u2 ≠ d := ne_none upd_same hu2a
    have hu2' : H u2 = none := by rw [upd_ne n2] at hu2a; exact hu2a
    have hne : ¬ b = nb b 1 := fun z => (nb_ne hb).1 z.symm
    refine ⟨by rw [upd_ne n2.symm, upd_ne n1.symm, upd_same], [(Sum.inl b, .ref u1), (Sum.inl (nb b 1), .ref u2)], rfl, by show 2 ≤ 15; decide, ?_⟩
    have npd : p ≠ d := ne_of_none hp hd
    have np1 : p ≠ u1 := ne_of_none hp hu1'
    have np2 : p ≠ u2 := ne_of_none hp hu2'
    refine ⟨_, rfl, p, _, dx, _, rfl, by rw [upd_ne npd, upd_ne np2, upd_ne np1, upd_ne npd]; exact hp, T.k_EscapeWriter.cl, T.k_EscapeWriter.n_pairs, by decide, ?_⟩
    rw [ps_EscapeWriter_pairs]
    have em : mergeK [] [((Sum.inl b : Key), V.ref u1), (Sum.inl (nb b 1), V.ref u2)] = [((Sum.inl b : Key), V.ref u1), (Sum.inl (nb b 1), V.ref u2)] := by
      simp [mergeK, putK, hne]
    rw [em]
    refine k _ [p] ((((((Mv.refl [p] H).upd (.inr hd)).upd (.inr hu1')).upd (.inr hu2')).upd (.inr hd)).upd (.inl (by simp))) ⟨dx, d, u1, u2, rfl, upd_same, ?_, ?_, ?_⟩
    · rw [upd_ne npd.symm, upd_same]
    · rw [upd_ne np1.symm, upd_ne n1, upd_ne n21.symm, upd_same]; rfl
    · rw [upd_ne np2.symm, upd_ne n2, upd_same]; rfl
theorem ok_EscapeW_byte (T : Tx K mg A) : MOk P w K mg base 1 A.EscapeWriter "write_byte" ["self", "byte"] (spWB A .escape) := by
  have sc : FnScope ["self", "byte"] ["self", "byte"] (defScope st_EscapeWriter_write_byte) := ⟨rfl, rfl, rfl, by decide +kernel, rfl, by decide +kernel, by decide +kernel⟩
  refine T.k_EscapeWriter.m_write_byte.ok sc (fun vs H Q E h => ?_) (fun f cdv A' outer s H vs Q E hr h => ?_)
  · obtain ⟨p, F, s, b, s', o, rfl, _⟩ := h; rfl
  · obtain ⟨p, F, s, x, s', o, rfl, hk, hW, hO, hx, hs, k⟩ := h
    cases s <;> cases hk
    rename_i b
    obtain ⟨dx, d, u1, u2, rfl, h1, h2, h3, h4⟩ := hW
    have hu := hu_of hr
    have e := Option.some.inj hs
    cases e
    refine ⟨_, (pss_one (ps_ret (pe_callTy call_list_of rfl T.list bt_list (pa_cons (pe_dget2 hu (pe_fld (pv 0) rfl) (pv 1) (pe_tup (pa_cons (pv 1) pa_nil)) ⟨rfl, rfl, rfl, rfl⟩) pa_nil)))), ?_⟩
    refine ⟨_, rfl, p, _, dx, _, _, rfl, h1, T.k_EscapeWriter.cl, T.k_EscapeWriter.n_pairs, lk_EscapeWriter_pairs, d, rfl, .inl ⟨_, .inl h2⟩, _, rfl, _, rfl, by show 1 ≤ sizeLine; decide, fun u hu0 => ?_⟩
    have nud : d ≠ u := ne_of_none h2 hu0
    refine ⟨_, DGet.k (k := Sum.inl x) (by rw [upd_ne nud]; exact h2), ?_⟩
    have fin : ∀ (t : Addr) (os : List Int), (L2.upd H u (.tup [V.int x])) t = some (.tup (intsV os)) → (os = if x = b then [nb b 1, nb b 2] else if x = nb b 1 then [nb b 1, nb b 3] else [x]) →
        ∃ p_1 ys, [V.ref t] = [V.ref p_1] ∧ (SqL K (L2.upd H u (.tup [V.int x])) p_1 ys ∨ SqT K (L2.upd H u (.tup [V.int x])) p_1 ys) ∧ ∀ l, (L2.upd H u (.tup [V.int x])) l = none → Q (.ref l) (L2.upd (L2.upd H u (.tup [V.int x])) l (.lst ys)) := by
      intro t os ht ho
      refine ⟨t, _, rfl, .inr (SqT.of ht), fun l hl => ?_⟩
      have nlu : l ≠ u := ne_none upd_same hl
      have hl0 : H l = none := by rw [upd_ne nlu] at hl; exact hl
      refine k _ [p] l (((Mv.refl [p] H).upd (.inr hu0)).upd (.inr hl0)) (WO.same (H := H) (s := .escape b) ⟨dx, d, u1, u2, rfl, h1, h2, h3, h4⟩ ?_) hl0 (by simp; exact (ne_of_none h1 hl0).symm) ?_
      · intro c oc hc
        rw [upd_ne (ne_of_none hc hl0), upd_ne (ne_of_none hc hu0)]; exact hc
      · rw [upd_same, ho]
    by_cases e1 : x = b
    · have ev : valV [((Sum.inl b : Key), V.ref u1), (Sum.inl (nb b 1), V.ref u2)] (Sum.inl x) = some (V.ref u1) := valV_pos (by rw [e1])
      rw [ev]
      exact fin u1 [nb b 1, nb b 2] (by rw [upd_ne (ne_of_none h3 hu0)]; exact h3) (by rw [if_pos e1])
    · by_cases e2 : x = nb b 1
      · have ev : valV [((Sum.inl b : Key), V.ref u1), (Sum.inl (nb b 1), V.ref u2)] (Sum.inl x) = some (V.ref u2) := by
          rw [valV_neg (fun z => e1 (Sum.inl.inj z).symm)]; exact valV_pos (by rw [e2])
        rw [ev]
        exact fin u2 [nb b 1, nb b 3] (by rw [upd_ne (ne_of_none h4 hu0)]; exact h4) (by rw [if_neg e1, if_pos e2])
      · have ev : valV [((Sum.inl b : Key), V.ref u1), (Sum.inl (nb b 1), V.ref u2)] (Sum.inl x) = none := by
          rw [valV_neg (fun z => e1 (Sum.inl.inj z).symm), valV_neg (fun z => e2 (Sum.inl.inj z).symm)]; rfl
        rw [ev]
        exact fin u [x] (by rw [upd_same]; rfl) (by rw [if_neg e1, if_neg e2])
end
end Fl
namespace Fl
open PySem L2 Fm
theorem ints_app (xs ys : List Int) : intsV xs ++ intsV ys = intsV (xs ++ ys) := (List.map_append ..).symm
theorem ints_len (xs : List Int) : (intsV xs).length = xs.length := List.length_map ..
section
variable {P : Program} {w : World} {K : PySem.W.Frag} {mg : Str → Option Value} {base : Heap} {A : Adr}
abbrev fRW (c : Nat) (v : Int) : List (Str × V) := [("count", .int (c : Int)), ("byte", .int v)]
theorem ok_RunsW_init (T : Tx K mg A) : COk P w K mg base 1 "RunsWriter" A.RunsWriter ["self"] (fun vs H Q _ => ∃ (p dx : Addr), vs = [.ref p] ∧ H p = some (.ins A.RunsWriter dx []) ∧
    ∀ (H' : Hp) (F' : List Addr), Mv [p] F' H H' → WO A H' p F' (.runs 0 0) → Q .non H') := by
  have sc : FnScope ["self"] ["self"] (defScope st_RunsWriter___init) := ⟨rfl, rfl, rfl, by decide +kernel, rfl, by decide +kernel, by decide +kernel⟩
  refine T.k_RunsWriter.init.ok sc (fun vs H Q E h => ?_) (fun f cdv A' outer s H vs Q E hr h => ?_)
  · obtain ⟨p, dx, rfl, _⟩ := h; rfl
  · obtain ⟨p, dx, rfl, hp, k⟩ := h
    refine ⟨_, (pss_cons (ps_fld (pv 0) pe_int rfl)
    (pss_one (ps_fld (pv 0) pe_int rfl))), ?_⟩
    refine ⟨_, rfl, p, _, dx, _, rfl, hp, T.k_RunsWriter.cl, T.k_RunsWriter.n_count, by decide, ?_⟩
    refine ⟨_, rfl, p, _, dx, _, rfl, upd_same, T.k_RunsWriter.cl, T.k_RunsWriter.n_byte, by show 1 < 1000; decide, ?_⟩
    rw [upd_upd, ps_RunsWriter_count, ps_RunsWriter_byte]
    exact k _ [p] ((Mv.refl [p] H).upd (.inl (by simp))) ⟨dx, rfl, upd_same⟩
def spCloseRun (A : Adr) : Sp := fun vs H Q _ => ∃ (p dx : Addr) (c : Nat) (v : Int), vs = [.ref p] ∧ H p = some (.ins A.RunsWriter dx (fRW c v)) ∧
  ∀ (H' : Hp) (q : Addr), H q = none → Mv [p] [p] H H' → H' p = some (.ins A.RunsWriter dx (fRW 0 v)) → H' q = some (.lst (intsV (rcl c v))) → Q (.ref q) H'
theorem ok_closeRun (T : Tx K mg A) : MOk P w K mg base 1 A.RunsWriter "close_run" ["self"] (spCloseRun A) := by
  have sc : FnScope ["self", "run"] ["self"] (defScope st_RunsWriter_close_run) := ⟨rfl, rfl, rfl, by decide +kernel, rfl, by decide +kernel, by decide +kernel⟩
  refine T.k_RunsWriter.m_close_run.ok sc (fun vs H Q E h => ?_) (fun f cdv A' outer s H vs Q E hr h => ?_)
  · obtain ⟨p, dx, c, v, rfl, _⟩ := h; rfl
  · obtain ⟨p, dx, c, v, rfl, hp, k⟩ := h
    have cl := T.k_RunsWriter.cl
    have n1 := T.k_RunsWriter.n_count
    have n2 := T.k_RunsWriter.n_byte
    refine ⟨_, (pss_cons (ps_if (pt_cmpR (op_eq) (pe_fld (pv 0) rfl) pe_int (nomark _))
    (pss_one (ps_ret (pe_lst pa_nil)))
    pss_nil)
    (pss_cons (ps_set (i := 1) sc.nd rfl (Or.inl rfl) (pe_lst (pa_cons (pe_fld (pv 0) rfl) (pa_cons (pe_fld (pv 0) rfl) pa_nil))))
    (pss_cons (ps_fld (pv 0) pe_int rfl)
    (pss_one (ps_ret (pv 1)))))), ?_⟩
    refine ⟨_, rfl, p, _, dx, _, _, rfl, hp, cl, n1, lk_RunsWriter_count, rfl, _, rfl, ?_⟩
    by_cases e : c = 0
    · subst e
      refine iteT ?_
      refine ⟨by decide, fun q hq => ?_⟩
      exact k _ q hq ((Mv.refl [p] H).upd (.inr hq)) (by rw [upd_ne (ne_of_none hp hq)]; exact hp) (by rw [upd_same]; rfl)
    · have ne : ¬ V.int (c : Int) = V.int 0 := fun z => e (by have := V.int.inj z; omega)
      rw [decide_eq_false ne]
      refine iteF ?_
      refine ⟨_, rfl, p, _, dx, _, _, rfl, hp, cl, n1, lk_RunsWriter_count, _, rfl, p, _, dx, _, _, rfl, hp, cl, n2, lk_RunsWriter_byte, by show 2 ≤ sizeLine; decide, fun q hq => ?_⟩
      refine ⟨_, rfl, p, _, dx, _, rfl, by rw [upd_ne (ne_of_none hp hq)]; exact hp, cl, n1, by show 2 < 1000; decide, ?_⟩
      rw [pf_RunsWriter_count]
      refine ⟨_, rfl, ?_⟩
      refine k _ q hq (((Mv.refl [p] H).upd (.inr hq)).upd (.inl (by simp))) upd_same ?_
      rw [upd_ne (ne_of_none hp hq).symm, upd_same]
      unfold rcl
      rw [if_neg e]; rfl
theorem ok_RunsW_byte (T : Tx K mg A) : MOk P w K mg base 2 A.RunsWriter "write_byte" ["self", "byte"] (spWB A .runs) := by
  have sc : FnScope ["self", "byte", "told"] ["self", "byte"] (defScope st_RunsWriter_write_byte) := ⟨rfl, rfl, rfl, by decide +kernel, rfl, by decide +kernel, by decide +kernel⟩
  refine T.k_RunsWriter.m_write_byte.ok sc (fun vs H Q E h => ?_) (fun f cdv A' outer s H vs Q E hr h => ?_)
  · obtain ⟨p, F, s, b, s', o, rfl, _⟩ := h; rfl
  · obtain ⟨p, F, s, x, s', o, rfl, hk, hW, hO, hx, hs, k⟩ := h
    cases s <;> cases hk
    rename_i c v
    obtain ⟨dx, rfl, h1⟩ := hW
    have cl := T.k_RunsWriter.cl
    have n1 := T.k_RunsWriter.n_count
    have n2 := T.k_RunsWriter.n_byte
    have h_close_run := ok_closeRun (P := P) (w := w) (base := base) T
    refine ⟨_, (pss_cons (ps_set (i := 2) sc.nd rfl (Or.inl rfl) (pe_lst pa_nil))
    (pss_cons (ps_if (pt_cmpR (op_ne) (pv 1) (pe_fld (pv 0) rfl) (nomark _))
    (pss_one (ps_expr (pe_bm PySem.F.plainAttrs_list PySem.F.slot_list_extend PySem.F.type_list_extend mt_extend (pv 2) (pa_cons (pe_methC0 h_close_run (hr.mono (by decide)) (pv 0)) pa_nil))))
    pss_nil)
    (pss_cons (ps_fld (pv 0) (pv 1) rfl)
    (pss_cons (ps_fldaug (pv 0) pe_int in_add)
    (pss_cons (ps_if (pt_cmpR (op_eq) (pe_fld (pv 0) rfl) (pe_const rfl T.LONGEST_RUN) (nomark _))
    (pss_one (ps_expr (pe_bm PySem.F.plainAttrs_list PySem.F.slot_list_extend PySem.F.type_list_extend mt_extend (pv 2) (pa_cons (pe_methC0 h_close_run (hr.mono (by decide)) (pv 0)) pa_nil))))
    pss_nil)
    (pss_one (ps_ret (pv 2)))))))), ?_⟩
    refine ⟨by decide, fun t ht => ?_⟩
    have npt : p ≠ t := ne_of_none h1 ht
    have h1t : (L2.upd H t (.lst [])) p = some (.ins A.RunsWriter dx (fRW c v)) := by rw [upd_ne npt]; exact h1
    refine ⟨_, rfl, _, rfl, p, _, dx, _, _, rfl, h1t, cl, n2, lk_RunsWriter_byte, rfl, _, rfl, ?_⟩
    by_cases e : x = v
    · subst e
      refine iteNS rfl ?_
      refine ⟨_, rfl, _, rfl, p, _, dx, _, rfl, h1t, cl, n2, by show 2 < 1000; decide, ?_⟩
      rw [pf_RunsWriter_byte]
      refine ⟨_, rfl, p, _, dx, _, _, rfl, upd_same, cl, n1, lk_RunsWriter_count, _, _, rfl, rfl, dx, _, upd_same, by show 2 < 1000; decide, ?_⟩
      rw [pf_RunsWriter_count, upd_upd]
      refine ⟨_, rfl, p, _, dx, _, _, rfl, upd_same, cl, n1, lk_RunsWriter_count, rfl, _, rfl, ?_⟩
      by_cases e2 : c + 1 = 255
      · have ee : V.int ((c : Int) + 1) = V.int 255 := by rw [show ((c : Int) + 1) = 255 by omega]
        rw [decide_eq_true ee]
        refine iteT ?_
        have hq1 : (L2.upd (L2.upd H t (.lst [])) p (.ins A.RunsWriter dx [("count", .int ((c : Int) + 1)), ("byte", .int x)])) t = some (.lst []) := by rw [upd_ne npt.symm, upd_same]
        refine ⟨_, rfl, .inl ⟨rfl, _, SqL.of hq1⟩, _, rfl, p, dx, _, rfl, upd_same, nm_RunsWriter_close_run, p, dx, c + 1, x, rfl, upd_same, fun H2 q hq m2 g1 g2 => ?_⟩
        have gt : H2 t = some (.lst []) := m2.fr t _ hq1 (by simp; exact npt.symm)
        refine ⟨t, q, _, _, rfl, rfl, gt, g2, by rw [ints_len]; unfold rcl; split <;> (simp [sizeLine_eq]), ?_⟩
        refine ⟨_, rfl, ?_⟩
        have e' : wS (.runs c x) x = some (.runs 0 x, [255, x]) := by simp [wS, runsW, e2]
        rw [e'] at hs; cases hs
        refine k _ [p] t ((((((Mv.refl [p] H).upd (.inr ht)).upd (.inl (by simp)))).trans m2).upd (.inr ht)) ⟨dx, rfl, by rw [upd_ne npt]; exact g1⟩ ht (by simp; exact npt.symm) ?_
        rw [upd_same]; unfold rcl; rw [if_neg (by omega)]; rw [show ((c + 1 : Nat) : Int) = 255 by omega]; rfl
      · have ee : ¬ V.int ((c : Int) + 1) = V.int 255 := fun z => e2 (by have := V.int.inj z; omega)
        rw [decide_eq_false ee]
        refine iteF ⟨_, rfl, ?_⟩
        have e' : wS (.runs c x) x = some (.runs (c + 1) x, []) := by simp [wS, runsW, e2]
        rw [e'] at hs; cases hs
        exact k _ [p] t (((Mv.refl [p] H).upd (.inr ht)).upd (.inl (by simp))) ⟨dx, rfl, upd_same⟩ ht (by simp; exact npt.symm) (by rw [upd_ne npt.symm, upd_same]; rfl)
    · have ne : ¬ V.int x = V.int v := fun z => e (V.int.inj z)
      rw [decide_eq_false ne]
      refine iteT ?_
      refine ⟨_, rfl, .inl ⟨rfl, _, SqL.of upd_same⟩, _, rfl, p, dx, _, rfl, h1t, nm_RunsWriter_close_run, p, dx, c, v, rfl, h1t, fun H2 q hq m2 g1 g2 => ?_⟩
      have gt : H2 t = some (.lst []) := m2.fr t _ upd_same (by simp; exact npt.symm)
      have nqt : q ≠ t := ne_none upd_same hq
      refine ⟨t, q, _, _, rfl, rfl, gt, g2, by rw [ints_len]; unfold rcl; split <;> (simp [sizeLine_eq]), ?_⟩
      have g1t : (L2.upd H2 t (.lst ([] ++ intsV (rcl c v)))) p = some (.ins A.RunsWriter dx (fRW 0 v)) := by rw [upd_ne npt]; exact g1
      refine ⟨_, rfl, _, rfl, p, _, dx, _, rfl, g1t, cl, n2, by show 2 < 1000; decide, ?_⟩
      rw [pf_RunsWriter_byte]
      refine ⟨_, rfl, p, _, dx, _, _, rfl, upd_same, cl, n1, lk_RunsWriter_count, _, _, rfl, rfl, dx, _, upd_same, by show 2 < 1000; decide, ?_⟩
      rw [pf_RunsWriter_count, upd_upd]
      refine ⟨_, rfl, p, _, dx, _, _, rfl, upd_same, cl, n1, lk_RunsWriter_count, rfl, _, rfl, ?_⟩
      refine iteF ⟨_, rfl, ?_⟩
      have e' : wS (.runs c v) x = some (.runs 1 x, rcl c v) := by simp [wS, runsW, e]
      rw [e'] at hs; cases hs
      exact k _ [p] t (((((Mv.refl [p] H).upd (.inr ht)).trans m2).upd (.inr ht)).upd (.inl (by simp))) ⟨dx, rfl, upd_same⟩ ht (by simp; exact npt.symm) (by rw [upd_ne npt.symm, upd_same]; rfl)
theorem ok_RunsW_end (T : Tx K mg A) : MOk P w K mg base 2 A.RunsWriter "end" ["self"] (spWE A .runs) := by
  have sc : FnScope ["self"] ["self"] (defScope st_RunsWriter_end) := ⟨rfl, rfl, rfl, by decide +kernel, rfl, by decide +kernel, by decide +kernel⟩
  refine T.k_RunsWriter.m_end.ok sc (fun vs H Q E h => ?_) (fun f cdv A' outer s H vs Q E hr h => ?_)
  · obtain ⟨p, F, s, rfl, _⟩ := h; rfl
  · obtain ⟨p, F, s, rfl, hk, hW, hO, k⟩ := h
    cases s <;> cases hk
    rename_i c v
    obtain ⟨dx, rfl, h1⟩ := hW
    have h_close_run := ok_closeRun (P := P) (w := w) (base := base) T
    refine ⟨_, (pss_one (ps_ret (pe_methC0 h_close_run (hr.mono (by decide)) (pv 0)))), ?_⟩
    exact ⟨_, rfl, p, dx, _, rfl, h1, nm_RunsWriter_close_run, p, dx, c, v, rfl, h1, fun H2 q hq m2 g1 g2 => k _ [p] q m2 hq g2⟩
abbrev fCW (n : Nat) (l : Addr) : List (Str × V) := [("n", .int (n : Int)), ("waiting", .ref l)]
theorem ok_ChunksW_init (T : Tx K mg A) : COk P w K mg base 1 "ChunksWriter" A.ChunksWriter ["self", "n"] (fun vs H Q _ => ∃ (p dx : Addr) (n : Nat), vs = [.ref p, .int (n : Int)] ∧ H p = some (.ins A.ChunksWriter dx []) ∧
    ∀ (H' : Hp) (F' : List Addr), Mv [p] F' H H' → WO A H' p F' (.chunks n []) → Q .non H') := by
  have sc : FnScope ["self", "n"] ["self", "n"] (defScope st_ChunksWriter___init) := ⟨rfl, rfl, rfl, by decide +kernel, rfl, by decide +kernel, by decide +kernel⟩
  refine T.k_ChunksWriter.init.ok sc (fun vs H Q E h => ?_) (fun f cdv A' outer s H vs Q E hr h => ?_)
  · obtain ⟨p, dx, n, rfl, _⟩ := h; rfl
  · obtain ⟨p, dx, n, rfl, hp, k⟩ := h
    refine ⟨_, (pss_cons (ps_fld (pv 0) (pv 1) rfl)
    (pss_one (ps_fld (pv 0) (pe_lst pa_nil) rfl))), ?_⟩
    refine ⟨_, rfl, _, rfl, p, _, dx, _, rfl, hp, T.k_ChunksWriter.cl, T.k_ChunksWriter.n_n, by decide, ?_⟩
    refine ⟨by decide, fun l hl => ?_⟩
    have nlp : l ≠ p := ne_none upd_same hl
    have hl0 : H l = none := by rw [upd_ne nlp] at hl; exact hl
    refine ⟨_, rfl, p, _, dx, _, rfl, by rw [upd_ne nlp.symm]; exact upd_same, T.k_ChunksWriter.cl, T.k_ChunksWriter.n_waiting, by show 1 < 1000; decide, ?_⟩
    rw [ps_ChunksWriter_n, ps_ChunksWriter_waiting]
    refine k _ [p, l] (((((Mv.refl [p] H).upd (.inl (by simp))).upd (.inr hl0)).upd (.inl (by simp))).own fun b m => ?_) ⟨dx, l, rfl, upd_same, by rw [upd_ne nlp, upd_same]; rfl⟩
    simp at m; rcases m with rfl | rfl
    · exact .inl (by simp)
    · exact .inr (.inr hl0)
def spCloseChunk (A : Adr) : Sp := fun vs H Q _ => ∃ (p dx l : Addr) (n : Nat) (ws : List Int), vs = [.ref p] ∧ H p = some (.ins A.ChunksWriter dx (fCW n l)) ∧ H l = some (.lst (intsV ws)) ∧ ws.length ≤ 255 ∧
  ∀ (H' : Hp) (q l' : Addr), H q = none → Mv [p] [p, l'] H H' → l' ≠ q → q ≠ p → H' p = some (.ins A.ChunksWriter dx (fCW n l')) → H' l' = some (.lst []) → H' q = some (.lst (intsV (((ws.length : Nat) : Int) :: ws))) → Q (.ref q) H'
theorem ok_closeChunk (T : Tx K mg A) : MOk P w K mg base 1 A.ChunksWriter "close_chunk" ["self"] (spCloseChunk A) := by
  have sc : FnScope ["self", "chunk"] ["self"] (defScope st_ChunksWriter_close_chunk) := ⟨rfl, rfl, rfl, by decide +kernel, rfl, by decide +kernel, by decide +kernel⟩
  refine T.k_ChunksWriter.m_close_chunk.ok sc (fun vs H Q E h => ?_) (fun f cdv A' outer s H vs Q E hr h => ?_)
  · obtain ⟨p, dx, l, n, ws, rfl, _⟩ := h; rfl
  · obtain ⟨p, dx, l, n, ws, rfl, hp, hl, hn, k⟩ := h
    have cl := T.k_ChunksWriter.cl
    have n2 := T.k_ChunksWriter.n_waiting
    refine ⟨_, (pss_cons (ps_set (i := 1) sc.nd rfl (Or.inl rfl) (pe_op op_cat (pe_lst (pa_cons (pe_callB call_len_seq rfl T.len bt_len (pa_cons (pe_fld (pv 0) rfl) pa_nil)) pa_nil)) (pe_fld (pv 0) rfl)))
    (pss_cons (ps_fld (pv 0) (pe_lst pa_nil) rfl)
    (pss_one (ps_ret (pv 1))))), ?_⟩
    refine ⟨_, rfl, p, _, dx, _, _, rfl, hp, cl, n2, lk_ChunksWriter_waiting, l, _, rfl, .inl (SqL.of hl), by show 1 ≤ sizeLine; decide, fun a1 ha1 => ?_⟩
    have hl1 : ∀ o, (L2.upd H a1 o) l = some (.lst (intsV ws)) := fun o => by rw [upd_ne (ne_of_none hl ha1)]; exact hl
    have hp1 : ∀ o, (L2.upd H a1 o) p = some (.ins A.ChunksWriter dx (fCW n l)) := fun o => by rw [upd_ne (ne_of_none hp ha1)]; exact hp
    refine ⟨_, rfl, p, _, dx, _, _, rfl, hp1 _, cl, n2, lk_ChunksWriter_waiting, a1, l, _, _, rfl, rfl, upd_same, hl1 _, ?_, fun q hq => ?_⟩
    · rw [ints_len]; simp [sizeLine_eq]; omega
    have nq1 : q ≠ a1 := ne_none upd_same hq
    have hq0 : H q = none := by rw [upd_ne nq1] at hq; exact hq
    refine ⟨by decide, fun l' hl' => ?_⟩
    have nlq : l' ≠ q := ne_none upd_same hl'
    have hl2 := hl'
    rw [upd_ne nlq] at hl2
    have nl1 : l' ≠ a1 := ne_none upd_same hl2
    rw [upd_ne nl1] at hl2
    have npq : p ≠ q := ne_of_none hp hq0
    have npl : p ≠ l' := ne_of_none hp hl2
    refine ⟨_, rfl, p, _, dx, _, rfl, by rw [upd_ne npl, upd_ne npq]; exact hp1 _, cl, n2, by show 2 < 1000; decide, ?_⟩
    rw [pf_ChunksWriter_waiting]
    refine ⟨_, rfl, ?_⟩
    refine k _ q l' hq0 ((((((Mv.refl [p] H).upd (.inr ha1)).upd (.inr hq0)).upd (.inr hl2)).upd (.inl (by simp))).own fun b m => ?_) nlq npq.symm upd_same (by rw [upd_ne npl.symm, upd_same]) ?_
    · simp at m; rcases m with rfl | rfl
      · exact .inl (by simp)
      · exact .inr (.inr hl2)
    · rw [upd_ne npq.symm, upd_ne nlq.symm, upd_same, ints_len]; rfl
theorem ok_ChunksW_byte (T : Tx K mg A) : MOk P w K mg base 2 A.ChunksWriter "write_byte" ["self", "byte"] (spWB A .chunks) := by
  have sc : FnScope ["self", "byte"] ["self", "byte"] (defScope st_ChunksWriter_write_byte) := ⟨rfl, rfl, rfl, by decide +kernel, rfl, by decide +kernel, by decide +kernel⟩
  refine T.k_ChunksWriter.m_write_byte.ok sc (fun vs H Q E h => ?_) (fun f cdv A' outer s H vs Q E hr h => ?_)
  · obtain ⟨p, F, s, b, s', o, rfl, _⟩ := h; rfl
  · obtain ⟨p, F, s, x, s', o, rfl, hk, hW, hO, hx, hs, k⟩ := h
    cases s <;> cases hk
    rename_i n ws
    obtain ⟨dx, l, rfl, h1, h2⟩ := hW
    obtain ⟨o1, o2, o3⟩ := hO
    have cl := T.k_ChunksWriter.cl
    have n1 := T.k_ChunksWriter.n_n
    have n2 := T.k_ChunksWriter.n_waiting
    have h_close_chunk := ok_closeChunk (P := P) (w := w) (base := base) T
    have npl : p ≠ l := ne_of h1 h2 (by intro z; cases z)
    refine ⟨_, (pss_cons (ps_expr (pe_bm PySem.F.plainAttrs_list PySem.F.slot_list_append PySem.F.type_list_append mt_append (pe_fld (pv 0) rfl) (pa_cons (pv 1) pa_nil)))
    (pss_cons (ps_if (pt_cmpR (op_lt) (pe_callB call_len_seq rfl T.len bt_len (pa_cons (pe_fld (pv 0) rfl) pa_nil)) (pe_fld (pv 0) rfl) (nomark _))
    (pss_one (ps_ret (pe_lst pa_nil)))
    pss_nil)
    (pss_one (ps_ret (pe_methC0 h_close_chunk (hr.mono (by decide)) (pv 0)))))), ?_⟩
    refine ⟨_, rfl, p, _, dx, _, _, rfl, h1, cl, n2, lk_ChunksWriter_waiting, .inl ⟨rfl, _, SqL.of h2⟩, _, rfl, l, _, _, rfl, rfl, h2, by rw [ints_len, sizeLine_eq]; omega, ?_⟩
    have ea : intsV ws ++ [V.int x] = intsV (ws ++ [x]) := by rw [← ints_app]; rfl
    rw [ea]
    have h1' : (L2.upd H l (.lst (intsV (ws ++ [x])))) p = some (.ins A.ChunksWriter dx (fCW n l)) := by rw [upd_ne npl]; exact h1
    refine ⟨_, rfl, p, _, dx, _, _, rfl, h1', cl, n2, lk_ChunksWriter_waiting, l, _, rfl, .inl (SqL.of upd_same), _, rfl, p, _, dx, _, _, rfl, h1', cl, n1, lk_ChunksWriter_n, _, _, rfl, rfl, _, rfl, ?_⟩
    have el : (intsV (ws ++ [x])).length = ws.length + 1 := by rw [ints_len]; simp
    rw [el]
    by_cases e : ws.length + 1 < n
    · rw [decide_eq_true (show ((ws.length + 1 : Nat) : Int) < (n : Int) by omega)]
      refine iteT ⟨by decide, fun q hq => ?_⟩
      have nql : q ≠ l := ne_none upd_same hq
      have hq0 : H q = none := by rw [upd_ne nql] at hq; exact hq
      have e' : wS (.chunks n ws) x = some (.chunks n (ws ++ [x]), []) := by simp [wS, chW, e]
      rw [e'] at hs; cases hs
      refine k _ [p, l] q (((Mv.refl _ H).upd (.inl (by simp))).upd (.inr hq0)) ⟨dx, l, rfl, ?_, ?_⟩ hq0 (by simp; exact ⟨(ne_of_none h1 hq0).symm, nql⟩) (by rw [upd_same]; rfl)
      · rw [upd_ne (ne_of_none h1 hq0)]; exact h1'
      · rw [upd_ne nql.symm, upd_same]
    · rw [decide_eq_false (show ¬ ((ws.length + 1 : Nat) : Int) < (n : Int) by omega)]
      refine iteF ?_
      refine ⟨_, rfl, p, dx, _, rfl, h1', nm_ChunksWriter_close_chunk, p, dx, l, n, ws ++ [x], rfl, h1', upd_same, by simp; omega, fun H2 q l' hq m2 nlq nqp g1 g2 g3 => ?_⟩
      have nql : q ≠ l := ne_none upd_same hq
      have hq0 : H q = none := by rw [upd_ne nql] at hq; exact hq
      have e' : wS (.chunks n ws) x = some (.chunks n [], ((ws.length + 1 : Nat) : Int) :: (ws ++ [x])) := by simp [wS, chW, e]
      rw [e'] at hs; cases hs
      have ea2 : (ws ++ [x]).length = ws.length + 1 := by simp
      rw [ea2] at g3
      exact k _ [p, l'] q (((((Mv.refl [p, l] H).upd (.inl (by simp)))).trans (m2.wide (G := [p, l]) (by simp)))) ⟨dx, l', rfl, g1, g2⟩ hq0 (by simp; exact ⟨nqp, nlq.symm⟩) g3
theorem ok_ChunksW_end (T : Tx K mg A) : MOk P w K mg base 2 A.ChunksWriter "end" ["self"] (spWE A .chunks) := by
  have sc : FnScope ["self"] ["self"] (defScope st_ChunksWriter_end) := ⟨rfl, rfl, rfl, by decide +kernel, rfl, by decide +kernel, by decide +kernel⟩
  refine T.k_ChunksWriter.m_end.ok sc (fun vs H Q E h => ?_) (fun f cdv A' outer s H vs Q E hr h => ?_)
  · obtain ⟨p, F, s, rfl, _⟩ := h; rfl
  · obtain ⟨p, F, s, rfl, hk, hW, hO, k⟩ := h
    cases s <;> cases hk
    rename_i n ws
    obtain ⟨dx, l, rfl, h1, h2⟩ := hW
    obtain ⟨o1, o2, o3⟩ := hO
    have h_close_chunk := ok_closeChunk (P := P) (w := w) (base := base) T
    refine ⟨_, (pss_one (ps_ret (pe_methC0 h_close_chunk (hr.mono (by decide)) (pv 0)))), ?_⟩
    exact ⟨_, rfl, p, dx, _, rfl, h1, nm_ChunksWriter_close_chunk, p, dx, l, n, ws, rfl, h1, h2, by omega, fun H2 q l' hq m2 nlq nqp g1 g2 g3 => k _ [p, l'] q (m2.wide (by simp)) hq g3⟩
end
end Fl
namespace Fl
open PySem L2 Fm
section
variable {P : Program} {w : World} {K : PySem.W.Frag} {mg : Str → Option Value} {base : Heap} {A : Adr}
abbrev fKW (n : Nat) (q : Addr) (k : Nat) : List (Str × V) := [("n", .int (n : Int)), ("running", .ref q), ("unchecked", .int (k : Int))]
theorem ok_ChecksW_init (T : Tx K mg A) : COk P w K mg base 3 "ChecksWriter" A.ChecksWriter ["self", "n"] (fun vs H Q _ => ∃ (p dx : Addr) (n : Nat), vs = [.ref p, .int (n : Int)] ∧ H p = some (.ins A.ChecksWriter dx []) ∧
    ∀ (H' : Hp) (F' : List Addr), Mv [p] F' H H' → WO A H' p F' (.checks n 0 0) → Q .non H') := by
  have sc : FnScope ["self", "n"] ["self", "n"] (defScope st_ChecksWriter___init) := ⟨rfl, rfl, rfl, by decide +kernel, rfl, by decide +kernel, by decide +kernel⟩
  refine T.k_ChecksWriter.init.ok sc (fun vs H Q E h => ?_) (fun f cdv A' outer s H vs Q E hr h => ?_)
  · obtain ⟨p, dx, n, rfl, _⟩ := h; rfl
  · obtain ⟨p, dx, n, rfl, hp, k⟩ := h
    have mRunningCheck := ok_RCInit (P := P) (w := w) (base := base) T
    have cl := T.k_ChecksWriter.cl
    refine ⟨_, (pss_cons (ps_fld (pv 0) (pv 1) rfl)
    (pss_cons (ps_fld (pv 0) (pe_makeC0 mRunningCheck (hr.mono (by decide)) rfl) rfl)
    (pss_one (ps_fld (pv 0) pe_int rfl)))), ?_⟩
    refine ⟨_, rfl, _, rfl, p, _, dx, _, rfl, hp, cl, T.k_ChecksWriter.n_n, by decide, ?_⟩
    rw [ps_ChecksWriter_n]
    refine fun q dq nq ndq ne => ⟨q, dq, rfl, upd_same, rfl, ?_⟩
    have nqp : q ≠ p := ne_none upd_same nq
    have nq0 : H q = none := by rw [upd_ne nqp] at nq; exact nq
    have ndp : dq ≠ p := ne_none upd_same ndq
    have nd0 : H dq = none := by rw [upd_ne ndp] at ndq; exact ndq
    refine ⟨_, rfl, p, _, dx, _, rfl, by rw [upd_ne nqp.symm, upd_ne nqp.symm, upd_ne ndp.symm]; exact upd_same, cl, T.k_ChecksWriter.n_running, by show 1 < 1000; decide, ?_⟩
    rw [ps_ChecksWriter_running]
    refine ⟨_, rfl, p, _, dx, _, rfl, upd_same, cl, T.k_ChecksWriter.n_unchecked, by show 2 < 1000; decide, ?_⟩
    rw [upd_upd, ps_ChecksWriter_unchecked]
    refine k _ [p, q] ((((((((Mv.refl [p] H).upd (.inl (by simp))).upd (.inr nd0)).upd (.inr nq0)).upd (.inr nq0)).upd (.inl (by simp)))).own fun b m => ?_) ⟨dx, q, dq, rfl, nqp.symm, upd_same, by rw [upd_ne nqp, upd_same]⟩
    simp at m; rcases m with rfl | rfl
    · exact .inl (by simp)
    · exact .inr (.inr nq0)
theorem ok_ChecksW_byte (T : Tx K mg A) : MOk P w K mg base 2 A.ChecksWriter "write_byte" ["self", "byte"] (spWB A .checks) := by
  have sc : FnScope ["self", "byte"] ["self", "byte"] (defScope st_ChecksWriter_write_byte) := ⟨rfl, rfl, rfl, by decide +kernel, rfl, by decide +kernel, by decide +kernel⟩
  refine T.k_ChecksWriter.m_write_byte.ok sc (fun vs H Q E h => ?_) (fun f cdv A' outer s H vs Q E hr h => ?_)
  · obtain ⟨p, F, s, b, s', o, rfl, _⟩ := h; rfl
  · obtain ⟨p, F, s, x, s', o, rfl, hk, hW, hO, hx, hs, k⟩ := h
    cases s <;> cases hk
    rename_i n kk c
    obtain ⟨dx, q, dq, rfl, npq, h1, h2⟩ := hW
    obtain ⟨o1, o2, o3⟩ := hO
    have cl := T.k_ChecksWriter.cl
    have n1 := T.k_ChecksWriter.n_n
    have n2 := T.k_ChecksWriter.n_running
    have n3 := T.k_ChecksWriter.n_unchecked
    have h_count_byte := ok_count (P := P) (w := w) (base := base) T
    have h_as_bytes := ok_asBytes (P := P) (w := w) (base := base) T
    refine ⟨_, (pss_cons (ps_expr (pe_methC h_count_byte (hr.mono (by decide)) (pe_fld (pv 0) rfl) (pa_cons (pv 1) pa_nil)))
    (pss_cons (ps_fldaug (pv 0) pe_int in_add)
    (pss_cons (ps_if (pt_cmpR (op_lt) (pe_fld (pv 0) rfl) (pe_fld (pv 0) rfl) (nomark _))
    (pss_one (ps_ret (pe_lst (pa_cons (pv 1) pa_nil))))
    pss_nil)
    (pss_cons (ps_fld (pv 0) pe_int rfl)
    (pss_one (ps_ret (pe_op op_cat (pe_lst (pa_cons (pv 1) pa_nil)) (pe_methC0 h_as_bytes (hr.mono (by decide)) (pe_fld (pv 0) rfl))))))))), ?_⟩
    refine ⟨_, rfl, p, _, dx, _, _, rfl, h1, cl, n2, lk_ChecksWriter_running, q, dq, _, rfl, h2, nm_RunningCheck_count_byte, _, rfl, q, dq, c, x, rfl, h2, o3, ?_⟩
    have h1' : (L2.upd H q (.ins A.RunningCheck dq (fRC (nxt c x)))) p = some (.ins A.ChecksWriter dx (fKW n q kk)) := by rw [upd_ne npq]; exact h1
    refine ⟨_, rfl, p, _, dx, _, _, rfl, h1', cl, n3, lk_ChecksWriter_unchecked, _, _, rfl, rfl, dx, _, h1', by show 3 < 1000; decide, ?_⟩
    rw [pf_ChecksWriter_unchecked]
    refine ⟨_, rfl, p, _, dx, _, _, rfl, upd_same, cl, n3, lk_ChecksWriter_unchecked, _, rfl, p, _, dx, _, _, rfl, upd_same, cl, n1, lk_ChecksWriter_n, _, _, rfl, rfl, _, rfl, ?_⟩
    by_cases e : kk + 1 < n
    · rw [decide_eq_true (show ((kk : Int) + 1) < (n : Int) by omega)]
      refine iteT ⟨_, rfl, by show 1 ≤ sizeLine; decide, fun r hr0 => ?_⟩
      have nrp : r ≠ p := ne_none upd_same hr0
      rw [upd_ne nrp] at hr0
      have nrq : r ≠ q := ne_none upd_same hr0
      rw [upd_ne nrq] at hr0
      have e' : wS (.checks n kk c) x = some (.checks n (kk + 1) (nxt c x), [x]) := by simp [wS, ckW, e]
      rw [e'] at hs; cases hs
      refine k _ [p, q] r ((((Mv.refl _ H).upd (.inl (by simp))).upd (.inl (by simp))).upd (.inr hr0)) ⟨dx, q, dq, rfl, npq, ?_, ?_⟩ hr0 (by simp; exact ⟨nrp, nrq⟩) (by rw [upd_same]; rfl)
      · rw [upd_ne nrp.symm, upd_same]; rfl
      · rw [upd_ne nrq.symm, upd_ne npq.symm, upd_same]
    · rw [decide_eq_false (show ¬ ((kk : Int) + 1) < (n : Int) by omega)]
      refine iteF ⟨_, rfl, p, _, dx, _, rfl, upd_same, cl, n3, by show 3 < 1000; decide, ?_⟩
      rw [pf_ChecksWriter_unchecked, upd_upd]
      refine ⟨_, rfl, by show 1 ≤ sizeLine; decide, fun a ha => ?_⟩
      have nap : a ≠ p := ne_none upd_same ha
      rw [upd_ne nap] at ha
      have naq : a ≠ q := ne_none upd_same ha
      rw [upd_ne naq] at ha
      have g1 : ∀ o, (L2.upd (L2.upd (L2.upd H q (.ins A.RunningCheck dq (fRC (nxt c x)))) p (.ins A.ChecksWriter dx (fKW n q 0))) a o) p = some (.ins A.ChecksWriter dx (fKW n q 0)) := fun o => by rw [upd_ne nap.symm, upd_same]
      have g2 : ∀ o, (L2.upd (L2.upd (L2.upd H q (.ins A.RunningCheck dq (fRC (nxt c x)))) p (.ins A.ChecksWriter dx (fKW n q 0))) a o) q = some (.ins A.RunningCheck dq (fRC (nxt c x))) := fun o => by rw [upd_ne naq.symm, upd_ne npq.symm, upd_same]
      refine ⟨_, rfl, p, _, dx, _, _, rfl, g1 _, cl, n2, lk_ChecksWriter_running, q, dq, _, rfl, g2 _, nm_RunningCheck_as_bytes, q, dq, _, rfl, g2 _, fun t ht => ?_⟩
      have nta : t ≠ a := ne_none upd_same ht
      rw [upd_ne nta] at ht
      have ntp : t ≠ p := ne_none upd_same ht
      rw [upd_ne ntp] at ht
      have ntq : t ≠ q := ne_none upd_same ht
      rw [upd_ne ntq] at ht
      refine ⟨a, t, _, _, rfl, rfl, by rw [upd_ne nta.symm]; exact upd_same, upd_same, by rw [ints_len]; simp [two, sizeLine_eq], fun r hr0 => ?_⟩
      have nrt : r ≠ t := ne_none upd_same hr0
      rw [upd_ne nrt] at hr0
      have nra : r ≠ a := ne_none upd_same hr0
      rw [upd_ne nra] at hr0
      have nrp : r ≠ p := ne_none upd_same hr0
      rw [upd_ne nrp] at hr0
      have nrq : r ≠ q := ne_none upd_same hr0
      rw [upd_ne nrq] at hr0
      have e' : wS (.checks n kk c) x = some (.checks n 0 (nxt c x), x :: two (nxt c x)) := by simp [wS, ckW, e]
      rw [e'] at hs; cases hs
      refine k _ [p, q] r ((((((Mv.refl _ H).upd (.inl (by simp))).upd (.inl (by simp))).upd (.inr ha)).upd (.inr ht)).upd (.inr hr0)) ⟨dx, q, dq, rfl, npq, ?_, ?_⟩ hr0 (by simp; exact ⟨nrp, nrq⟩) (by rw [upd_same]; rfl)
      · rw [upd_ne nrp.symm, upd_ne ntp.symm, upd_ne nap.symm, upd_same]; rfl
      · rw [upd_ne nrq.symm, upd_ne ntq.symm, upd_ne naq.symm, upd_ne npq.symm, upd_same]
theorem ok_ChecksW_end (T : Tx K mg A) : MOk P w K mg base 2 A.ChecksWriter "end" ["self"] (spWE A .checks) := by
  have sc : FnScope ["self"] ["self"] (defScope st_ChecksWriter_end) := ⟨rfl, rfl, rfl, by decide +kernel, rfl, by decide +kernel, by decide +kernel⟩
  refine T.k_ChecksWriter.m_end.ok sc (fun vs H Q E h => ?_) (fun f cdv A' outer s H vs Q E hr h => ?_)
  · obtain ⟨p, F, s, rfl, _⟩ := h; rfl
  · obtain ⟨p, F, s, rfl, hk, hW, hO, k⟩ := h
    cases s <;> cases hk
    rename_i n kk c
    obtain ⟨dx, q, dq, rfl, npq, h1, h2⟩ := hW
    have h_as_bytes := ok_asBytes (P := P) (w := w) (base := base) T
    refine ⟨_, (pss_one (ps_ret (pe_methC0 h_as_bytes (hr.mono (by decide)) (pe_fld (pv 0) rfl)))), ?_⟩
    exact ⟨_, rfl, p, _, dx, _, _, rfl, h1, T.k_ChecksWriter.cl, T.k_ChecksWriter.n_running, lk_ChecksWriter_running, q, dq, _, rfl, h2, nm_RunningCheck_as_bytes, q, dq, c, rfl, h2, fun t ht => k _ [p, q] t ((Mv.refl _ H).upd (.inr ht)) ht upd_same⟩
theorem ok_SignsW_init (T : Tx K mg A) : COk P w K mg base 3 "SignsWriter" A.SignsWriter ["self"] (fun vs H Q _ => ∃ (p dx : Addr), vs = [.ref p] ∧ H p = some (.ins A.SignsWriter dx []) ∧
    ∀ (H' : Hp) (F' : List Addr), Mv [p] F' H H' → WO A H' p F' (.signs 0 0) → Q .non H') := by
  have sc : FnScope ["self"] ["self"] (defScope st_SignsWriter___init) := ⟨rfl, rfl, rfl, by decide +kernel, rfl, by decide +kernel, by decide +kernel⟩
  refine T.k_SignsWriter.init.ok sc (fun vs H Q E h => ?_) (fun f cdv A' outer s H vs Q E hr h => ?_)
  · obtain ⟨p, dx, rfl, _⟩ := h; rfl
  · obtain ⟨p, dx, rfl, hp, k⟩ := h
    have mHeldDigits := ok_HDInit (P := P) (w := w) (base := base) T
    refine ⟨_, (pss_one (ps_fld (pv 0) (pe_makeC0 mHeldDigits (hr.mono (by decide)) rfl) rfl)), ?_⟩
    refine fun q dq nq ndq ne => ⟨q, dq, rfl, upd_same, rfl, ?_⟩
    have npq : p ≠ q := ne_of_none hp nq
    have npd : p ≠ dq := ne_of_none hp ndq
    refine ⟨_, rfl, p, _, dx, _, rfl, by rw [upd_ne npq, upd_ne npq, upd_ne npd]; exact hp, T.k_SignsWriter.cl, T.k_SignsWriter.n_digits, by decide, ?_⟩
    rw [ps_SignsWriter_digits]
    refine k _ [p, q] ((((((Mv.refl [p] H).upd (.inr ndq)).upd (.inr nq)).upd (.inr nq)).upd (.inl (by simp))).own fun b m => ?_) ⟨dx, q, dq, rfl, npq, upd_same, by rw [upd_ne npq.symm, upd_same]⟩
    simp at m; rcases m with rfl | rfl
    · exact .inl (by simp)
    · exact .inr (.inr nq)
def SgAt (k : Nat) (v x : Int) (m : Nat) (h : Int) (o : List Int) : Prop :=
  (m = k + 8 ∧ h = v * 256 + x ∧ o = []) ∨ (k = 4 ∧ m = 6 ∧ h = x % 64 ∧ o = [sgn (v * 4 + x / 64)]) ∨ (m < 6 ∧ sgW (k, v) x = some ((m, h), o))
theorem SgAt.lt {k : Nat} {v x : Int} {m : Nat} {h : Int} {o : List Int} (a : SgAt k v x m h o) (hO : WOk (.signs k v)) (hx : IsB x) : 0 ≤ h ∧ h < 4096 ∧ m ≤ 12 ∧ o.length ≤ 2 ∧ (h < 2 ^ m) := by
  unfold IsB at hx
  rcases a with ⟨rfl, rfl, rfl⟩ | ⟨rfl, rfl, rfl, rfl⟩ | ⟨h6, e⟩
  · rcases hO with ⟨rfl, rfl⟩ | ⟨rfl, a, b⟩ | ⟨rfl, a, b⟩ <;> simp <;> omega
  · simp; omega
  · rcases hO with ⟨rfl, rfl⟩ | ⟨rfl, a, b⟩ | ⟨rfl, a, b⟩ <;> simp [sgW] at e <;> obtain ⟨⟨rfl, rfl⟩, rfl⟩ := e <;> simp <;> omega
theorem SgAt.draw {k : Nat} {v x : Int} {m : Nat} {h : Int} {o : List Int} (a : SgAt k v x m h o) (hO : WOk (.signs k v)) (hx : IsB x) (h6 : 6 ≤ m) :
    0 ≤ h / 2 ^ (m - 6) ∧ h / 2 ^ (m - 6) < 64 ∧ SgAt k v x (m - 6) (h - h / 2 ^ (m - 6) * 2 ^ (m - 6)) (o ++ [sgn (h / 2 ^ (m - 6))]) := by
  unfold IsB at hx
  rcases a with ⟨rfl, rfl, rfl⟩ | ⟨rfl, rfl, rfl, rfl⟩ | ⟨h7, e⟩
  · rcases hO with ⟨rfl, rfl⟩ | ⟨rfl, a, b⟩ | ⟨rfl, a, b⟩
    · simp only [Nat.reduceAdd, Nat.reduceSub, Int.reducePow, List.nil_append]
      refine ⟨by omega, by omega, .inr (.inr ⟨by omega, ?_⟩)⟩
      simp [sgW]; omega
    · simp only [Nat.reduceAdd, Nat.reduceSub, Int.reducePow, List.nil_append]
      refine ⟨by omega, by omega, .inr (.inr ⟨by omega, ?_⟩)⟩
      have e1 : (v * 256 + x) / 16 = v * 16 + x / 16 := by omega
      simp [sgW, e1]; omega
    · simp only [Nat.reduceAdd, Nat.reduceSub, Int.reducePow, List.nil_append]
      refine ⟨by omega, by omega, .inr (.inl ⟨rfl, rfl, by omega, ?_⟩)⟩
      rw [show (v * 256 + x) / 64 = v * 4 + x / 64 by omega]
  · simp only [Nat.sub_self, Int.pow_zero, Int.ediv_one, Int.mul_one, Int.sub_self]
    refine ⟨by omega, by omega, .inr (.inr ⟨by omega, ?_⟩)⟩
    simp [sgW]
  · omega
theorem ok_SignsW_byte (T : Tx K mg A) : MOk P w K mg base 2 A.SignsWriter "write_byte" ["self", "byte"] (spWB A .signs) := by
  have sc : FnScope ["self", "byte", "told"] ["self", "byte"] (defScope st_SignsWriter_write_byte) := ⟨rfl, rfl, rfl, by decide +kernel, rfl, by decide +kernel, by decide +kernel⟩
  refine T.k_SignsWriter.m_write_byte.ok sc (fun vs H Q E h => ?_) (fun f cdv A' outer s H vs Q E hr h => ?_)
  · obtain ⟨p, F, s, b, s', o, rfl, _⟩ := h; rfl
  · obtain ⟨p, F, s, x, s', o, rfl, hk, hW, hO, hx, hs, k⟩ := h
    cases s <;> cases hk
    rename_i kk v
    obtain ⟨dx, q, dq, rfl, npq, h1, h2⟩ := hW
    have cl := T.k_SignsWriter.cl
    have n1 := T.k_SignsWriter.n_digits
    have h_push := ok_push (P := P) (w := w) (base := base) T
    have h_draw_digits := ok_drawD (P := P) (w := w) (base := base) T
    have csign_of := ok_signOf (P := P) (w := w) (base := base) T
    have hv : 0 ≤ v ∧ v < 16 := by rcases hO with ⟨rfl, rfl⟩ | ⟨rfl, a, b⟩ | ⟨rfl, a, b⟩ <;> omega
    refine ⟨_, (pss_cons (ps_expr (pe_methC h_push (hr.mono (by decide)) (pe_fld (pv 0) rfl) (pa_cons (pv 1) (pa_cons (pe_const rfl T.BYTE_WIDTH) pa_nil))))
    (pss_cons (ps_set (i := 2) sc.nd rfl (Or.inl rfl) (pe_lst pa_nil))
    (pss_cons (ps_while PassesOwn.never (pt_cmpR (op_ge) (pe_fld (pe_fld (pv 0) rfl) rfl) (pe_const rfl T.SIGN_WIDTH) (nomark _))
    (pss_one (ps_expr (pe_bm PySem.F.plainAttrs_list PySem.F.slot_list_append PySem.F.type_list_append mt_append (pv 2) (pa_cons (pe_callC csign_of (hr.mono (by decide)) rfl (pa_cons (pe_methC h_draw_digits (hr.mono (by decide)) (pe_fld (pv 0) rfl) (pa_cons (pe_const rfl T.SIGN_WIDTH) pa_nil)) pa_nil)) pa_nil)))))
    (pss_one (ps_ret (pv 2)))))), ?_⟩
    refine ⟨_, rfl, p, _, dx, _, _, rfl, h1, cl, n1, lk_SignsWriter_digits, q, dq, _, rfl, h2, nm_HeldDigits_push, _, rfl, q, dq, v, x, kk, 8, rfl, h2, hv.1, by omega, by decide, ?_⟩
    refine ⟨by decide, fun t ht => ?_⟩
    have ntq : t ≠ q := ne_none upd_same ht
    rw [upd_ne ntq] at ht
    have npt : p ≠ t := ne_of_none h1 ht
    refine ⟨fun m σ H2 => ∃ (h : Int) (os : List Int), σ = [some (.ref p), some (.int x), some (.ref t)] ∧ Mv [p, q] [p, q] H H2 ∧ H2 p = some (.ins A.SignsWriter dx [("digits", .ref q)]) ∧ H2 q = some (.ins A.HeldDigits dq (fHD h m)) ∧ H2 t = some (.lst (intsV os)) ∧ SgAt kk v x m h os,
      ⟨kk + 8, v * 256 + x, [], rfl, ((Mv.refl _ H).upd (.inl (by simp))).upd (.inr ht), ?_, ?_, upd_same, .inl ⟨rfl, rfl, rfl⟩⟩, ?_⟩
    · rw [upd_ne npt, upd_ne npq]; exact h1
    · rw [upd_ne ntq.symm, upd_same]; rfl
    rintro m σ H2 ⟨h, os, rfl, mv, g1, g2, g3, sg⟩
    obtain ⟨b0, b1, b2, b3, b4⟩ := sg.lt hO hx
    refine ⟨_, rfl, p, _, dx, _, _, rfl, g1, cl, n1, lk_SignsWriter_digits, q, _, dq, _, _, rfl, g2, T.k_HeldDigits.cl, T.k_HeldDigits.n_width, lk_HeldDigits_width, _, _, rfl, rfl, _, rfl, ?_⟩
    by_cases e : 6 ≤ m
    · rw [decide_eq_true (show (6 : Int) ≤ (m : Int) by omega)]
      refine iteT ?_
      obtain ⟨c0, c1, c2⟩ := sg.draw hO hx e
      refine ⟨fun σ H3 => ∃ (h : Int) (os : List Int), σ = [some (.ref p), some (.int x), some (.ref t)] ∧ Mv [p, q] [p, q] H H3 ∧ H3 p = some (.ins A.SignsWriter dx [("digits", .ref q)]) ∧ H3 q = some (.ins A.HeldDigits dq (fHD h (m - 6))) ∧ H3 t = some (.lst (intsV os)) ∧ SgAt kk v x (m - 6) h os,
        fun σ' H' hN => ⟨m - 6, by omega, hN⟩, ?_⟩
      refine ⟨_, rfl, .inl ⟨rfl, _, SqL.of g3⟩, _, rfl, p, _, dx, _, _, rfl, g1, cl, n1, lk_SignsWriter_digits, q, dq, _, rfl, g2, nm_HeldDigits_draw_digits, q, dq, h, m, 6, rfl, g2, b0, by omega, e, by omega, _, rfl, c0, c1, ?_⟩
      have g3' : ∀ o, (L2.upd H2 q o) t = some (.lst (intsV os)) := fun o => by rw [upd_ne ntq]; exact g3
      refine ⟨t, _, _, rfl, rfl, g3' _, by rw [ints_len, sizeLine_eq]; omega, ?_⟩
      refine ⟨_, os ++ [sgn (h / 2 ^ (m - 6))], rfl, (mv.upd (.inl (by simp))).upd (.inr ht), ?_, ?_, ?_, c2⟩
      · rw [upd_ne npt, upd_ne npq]; exact g1
      · rw [upd_ne ntq.symm, upd_same]
      · rw [upd_same, ← ints_app]; rfl
    · rw [decide_eq_false (show ¬ (6 : Int) ≤ (m : Int) by omega)]
      refine iteF ⟨_, rfl, ?_⟩
      have fin : sgW (kk, v) x = some ((m, h), os) := by
        rcases sg with ⟨rfl, _⟩ | ⟨_, rfl, _⟩ | ⟨_, e⟩
        · omega
        · omega
        · exact e
      have e' : wS (.signs kk v) x = some (.signs m h, os) := by simp [wS, fin]
      rw [e'] at hs; cases hs
      exact k _ [p, q] t mv ⟨dx, q, dq, rfl, npq, g1, g2⟩ ht (by simp; exact ⟨npt.symm, ntq⟩) g3
theorem ok_SignsW_end (T : Tx K mg A) : MOk P w K mg base 2 A.SignsWriter "end" ["self"] (spWE A .signs) := by
  have sc : FnScope ["self"] ["self"] (defScope st_SignsWriter_end) := ⟨rfl, rfl, rfl, by decide +kernel, rfl, by decide +kernel, by decide +kernel⟩
  refine T.k_SignsWriter.m_end.ok sc (fun vs H Q E h => ?_) (fun f cdv A' outer s H vs Q E hr h => ?_)
  · obtain ⟨p, F, s, rfl, _⟩ := h; rfl
  · obtain ⟨p, F, s, rfl, hk, hW, hO, k⟩ := h
    cases s <;> cases hk
    rename_i kk v
    obtain ⟨dx, q, dq, rfl, npq, h1, h2⟩ := hW
    have cl := T.k_SignsWriter.cl
    have n1 := T.k_SignsWriter.n_digits
    have h_push := ok_push (P := P) (w := w) (base := base) T
    have h_draw_digits := ok_drawD (P := P) (w := w) (base := base) T
    have csign_of := ok_signOf (P := P) (w := w) (base := base) T
    have hv : 0 ≤ v ∧ v < 16 := by rcases hO with ⟨rfl, rfl⟩ | ⟨rfl, a, b⟩ | ⟨rfl, a, b⟩ <;> omega
    have hk6 : kk ≤ 4 := by rcases hO with ⟨rfl, rfl⟩ | ⟨rfl, a, b⟩ | ⟨rfl, a, b⟩ <;> omega
    refine ⟨_, (pss_cons (ps_if (pt_cmpR (op_eq) (pe_fld (pe_fld (pv 0) rfl) rfl) pe_int (nomark _))
    (pss_one (ps_ret (pe_lst pa_nil)))
    pss_nil)
    (pss_cons (ps_expr (pe_methC h_push (hr.mono (by decide)) (pe_fld (pv 0) rfl) (pa_cons pe_int (pa_cons (pe_op op_sub (pe_const rfl T.SIGN_WIDTH) (pe_fld (pe_fld (pv 0) rfl) rfl)) pa_nil))))
    (pss_one (ps_ret (pe_lst (pa_cons (pe_callC csign_of (hr.mono (by decide)) rfl (pa_cons (pe_methC h_draw_digits (hr.mono (by decide)) (pe_fld (pv 0) rfl) (pa_cons (pe_const rfl T.SIGN_WIDTH) pa_nil)) pa_nil)) pa_nil)))))), ?_⟩
    refine ⟨_, rfl, p, _, dx, _, _, rfl, h1, cl, n1, lk_SignsWriter_digits, q, _, dq, _, _, rfl, h2, T.k_HeldDigits.cl, T.k_HeldDigits.n_width, lk_HeldDigits_width, rfl, _, rfl, ?_⟩
    by_cases e : kk = 0
    · subst e
      refine iteT ⟨by decide, fun r hr0 => ?_⟩
      exact k _ [p, q] r ((Mv.refl _ H).upd (.inr hr0)) hr0 (by rw [upd_same]; rfl)
    · have ne : ¬ V.int (kk : Int) = V.int 0 := fun z => e (by have := V.int.inj z; omega)
      rw [decide_eq_false ne]
      refine iteF ?_
      have e6 : (6 : Int) - (kk : Int) = ((6 - kk : Nat) : Int) := by omega
      refine ⟨_, rfl, p, _, dx, _, _, rfl, h1, cl, n1, lk_SignsWriter_digits, q, dq, _, rfl, h2, nm_HeldDigits_push, _, rfl, p, _, dx, _, _, rfl, h1, cl, n1, lk_SignsWriter_digits, q, _, dq, _, _, rfl, h2, T.k_HeldDigits.cl, T.k_HeldDigits.n_width, lk_HeldDigits_width, _, _, rfl, rfl, q, dq, v, 0, kk, 6 - kk, by rw [← e6]; rfl, h2, hv.1, by omega, by omega, ?_⟩
      have ek : kk + (6 - kk) = 6 := by omega
      rw [ek]
      have h1' : ∀ o, (L2.upd H q o) p = some (.ins A.SignsWriter dx [("digits", .ref q)]) := fun o => by rw [upd_ne npq]; exact h1
      have hb : 0 ≤ v * 2 ^ (6 - kk) + 0 ∧ v * 2 ^ (6 - kk) + 0 < 64 ∧ [sgn (v * 2 ^ (6 - kk) + 0)] = wF (.signs kk v) := by
        rcases hO with ⟨rfl, rfl⟩ | ⟨rfl, a, b⟩ | ⟨rfl, a, b⟩
        · exact absurd rfl e
        · simp [wF, sgF]; omega
        · simp [wF, sgF]; omega
      refine ⟨_, rfl, p, _, dx, _, _, rfl, h1' _, cl, n1, lk_SignsWriter_digits, q, dq, _, rfl, upd_same, nm_HeldDigits_draw_digits, q, dq, _, 6, 6, rfl, upd_same, hb.1, by omega, by decide, by decide, ?_⟩
      rw [show (v * 2 ^ (6 - kk) + 0) / 2 ^ (6 - 6) = v * 2 ^ (6 - kk) + 0 by simp]
      refine ⟨_, rfl, hb.1, hb.2.1, by show 1 ≤ sizeLine; decide, fun r hr0 => ?_⟩
      have nrq : r ≠ q := ne_none upd_same hr0
      rw [upd_ne nrq] at hr0
      rw [upd_ne nrq] at hr0
      refine k _ [p, q] r ((((Mv.refl _ H).upd (.inl (by simp))).upd (.inl (by simp))).upd (.inr hr0)) hr0 ?_
      rw [upd_same, ← hb.2.2]; rfl
end
end Fl
namespace L2
theorem ifT {c : Bool} {A B : Prop} (h : c = true) (a : A) : if c = true then A else B := by rw [if_pos h]; exact a
theorem ifF {c : Bool} {A B : Prop} (h : c = false) (b : B) : if c = true then A else B := by rw [if_neg (by rw [h]; exact Bool.false_ne_true)]; exact b
theorem Same.upd {H H' : Hp} {p : PySem.Addr} {o : HO} (e : Same H H') (h : H' p = none) : Same H (upd H' p o) := fun b u q => by
  rw [upd_ne (ne_of_none (e b u q) h)]; exact e b u q
end L2
namespace Fl
open PySem L2 Fm
theorem WO.updL {A : Adr} {H : Hp} {p t : Addr} {F : List Addr} {s : WS} {ys : List V} {o : HO} (h : WO A H p F s) (ht : H t = some (.lst ys)) (n : t ∉ F) : WO A (L2.upd H t o) p F s :=
  h.keep fun b u q z => by
    rw [upd_ne fun e => ?_]
    · exact q
    · subst e
      rcases z with z | z
      · exact n z
      · rw [ht] at q; cases q; exact z
theorem WO.alloc {A : Adr} {H : Hp} {p t : Addr} {F : List Addr} {s : WS} (h : WO A H p F s) (ht : H t = none) : t ∉ F := fun m => by
  obtain ⟨o, q, _⟩ := h.mu t m
  rw [ht] at q; cases q
section
variable {P : Program} {w : World} {K : PySem.W.Frag} {mg : Str → Option Value} {base : Heap} {A : Adr}
theorem hWB (T : Tx K mg A) : ∀ i, MOk P w K mg base 2 (cW A i) "write_byte" ["self", "byte"] (spWB A i)
  | .add => ok_AddW_byte T
  | .front => ok_FrontW_byte T
  | .escape => (ok_EscapeW_byte T).mono (by decide)
  | .runs => ok_RunsW_byte T
  | .chunks => ok_ChunksW_byte T
  | .checks => ok_ChecksW_byte T
  | .signs => ok_SignsW_byte T
theorem ok_takeC (T : Tx K mg A) {C : Addr} (M : MFun K C "take" "LayerWriter.take" st_LayerWriter_take ["self", "row"]) (i : WK) : MOk P w K mg base 3 C "take" ["self", "row"] (spWT A i) := by
  have sc : FnScope ["self", "row", "told", "byte"] ["self", "row"] (defScope st_LayerWriter_take) := ⟨rfl, rfl, rfl, by decide +kernel, rfl, by decide +kernel, by decide +kernel⟩
  refine M.ok sc (fun vs H Q E h => ?_) (fun f cdv A' outer s H vs Q E hr h => ?_)
  · obtain ⟨p, r, F, s, xs, s', o, rfl, _⟩ := h; rfl
  · obtain ⟨p, r, F, s, xs, s', o, rfl, hk, hW, hO, hr0, hrF, hx, hrun, hlen, k⟩ := h
    have h_write_byte := hWB (P := P) (w := w) (base := base) T
    refine ⟨_, (pss_cons (ps_set (i := 2) sc.nd rfl (Or.inl rfl) (pe_lst pa_nil))
    (pss_cons (ps_for PassesOwn.never rfl (pi_list (pv 1)) (pg_name (i := 3) sc.nd rfl (Or.inl rfl))
    (pss_one (ps_expr (pe_bm PySem.F.plainAttrs_list PySem.F.slot_list_extend PySem.F.type_list_extend mt_extend (pv 2) (pa_cons (pe_methF h_write_byte (hr.mono (by decide)) (pv 0) (pa_cons (pv 3) pa_nil)) pa_nil)))))
    (pss_one (ps_ret (pv 2))))), ?_⟩
    refine ⟨by decide, fun t ht => ?_⟩
    have htF : t ∉ F := hW.alloc ht
    have nrt : r ≠ t := ne_of_none hr0 ht
    refine ⟨_, rfl, r, rfl, ⟨_, SqL.of (by rw [upd_ne nrt]; exact hr0)⟩, for_list (K := K) (a := r) (xs := intsV xs)
      (fun j σ H2 => ∃ (v : Option V) (F1 : List Addr) (s1 : WS) (o1 : List Int), σ = [some (.ref p), some (.ref r), some (.ref t), v] ∧ j ≤ xs.length ∧ Mv F F1 H H2 ∧ WO A H2 p F1 s1 ∧ WOk s1 ∧ Fm.run wS s (xs.take j) = some (s1, o1) ∧ H2 t = some (.lst (intsV o1)) ∧ t ∉ F1)
      ⟨none, F, s, [], rfl, Nat.zero_le _, (Mv.refl F H).upd (.inr ht), hW.same (Same.upd (Same.refl H) ht), hO, rfl, upd_same, htF⟩ ?_ ?_ ?_⟩
    · rintro j σ H2 _ ⟨v, F1, s1, o1, rfl, _, mv, _⟩
      exact SqL.of (mv.fr r _ hr0 hrF)
    · rintro j y σ H2 hj ⟨v, F1, s1, o1, rfl, hjl, mv, wo, ok, run1', ht1, htF1⟩
      obtain ⟨x, hxj, rfl⟩ := ints_get' hj
      have hjlt : j < xs.length := (List.getElem?_eq_some_iff.mp hxj).1
      have hxb : IsB x := hx x (List.mem_of_getElem? hxj)
      obtain ⟨s2, o2, st, ok2, _, _⟩ := wS_step ok hxb
      obtain ⟨dx, fs, hp, nm, _, _⟩ := wo.ins
      have etk : xs.take (j + 1) = xs.take j ++ [x] := by rw [List.take_add_one, hxj]; rfl
      have run2 : Fm.run wS s (xs.take (j + 1)) = some (s2, o1 ++ o2) := by rw [etk]; exact run_append_some run1' (run1 st)
      have hol : (o1 ++ o2).length ≤ o.length := by
        have e : xs = xs.take (j + 1) ++ xs.drop (j + 1) := (List.take_append_drop _ _).symm
        rw [e] at hrun
        obtain ⟨sa, oa, ob, ra, rb, ro⟩ := run_split hrun
        rw [run2] at ra; cases ra
        rw [ro]; simp
      refine ⟨_, rfl, .inl ⟨rfl, _, SqL.of ht1⟩, _, rfl, kd s1, p, dx, fs, rfl, hp, nm, _, rfl, p, F1, s1, x, s2, o2, rfl, rfl, wo, ok, hxb, st, fun H3 F3 q mv3 wo3 hq nq hq3 => ?_⟩
      have ht3 : H3 t = some (.lst (intsV o1)) := mv3.fr t _ ht1 htF1
      have htF3 : t ∉ F3 := fun z => by
        rcases mv3.nw t z with z | z
        · exact htF1 z
        · rw [ht1] at z; cases z
      refine ⟨t, q, _, _, rfl, rfl, ht3, hq3, by rw [← List.length_append, ints_app, ints_len]; omega, ?_⟩
      exact ⟨_, F3, s2, o1 ++ o2, rfl, hjlt, (mv.trans mv3).upd (.inr ht), wo3.updL ht3 htF3, ok2, run2, by rw [upd_same, ints_app], htF3⟩
    · rintro σ H2 ⟨v, F1, s1, o1, rfl, _, mv, wo, ok, run1', ht1, htF1⟩
      rw [ints_len, List.take_of_length_le (Nat.le_refl _), hrun] at run1'
      cases run1'
      exact ⟨_, rfl, k _ F1 t mv wo ht htF1 ht1⟩
theorem hWT (T : Tx K mg A) : ∀ i, MOk P w K mg base 3 (cW A i) "take" ["self", "row"] (spWT A i)
  | .add => ok_takeC T T.k_AddWriter.m_take _
  | .front => ok_takeC T T.k_FrontWriter.m_take _
  | .escape => ok_takeC T T.k_EscapeWriter.m_take _
  | .runs => ok_takeC T T.k_RunsWriter.m_take _
  | .chunks => ok_takeC T T.k_ChunksWriter.m_take _
  | .checks => ok_takeC T T.k_ChecksWriter.m_take _
  | .signs => ok_takeC T T.k_SignsWriter.m_take _
theorem ok_endC {C : Addr} (M : MFun K C "end" "LayerWriter.end" st_LayerWriter_end ["self"]) {i : WK} (hi : ∀ s, kd s = i → wF s = []) : MOk P w K mg base 2 C "end" ["self"] (spWE A i) := by
  have sc : FnScope ["self"] ["self"] (defScope st_LayerWriter_end) := ⟨rfl, rfl, rfl, by decide +kernel, rfl, by decide +kernel, by decide +kernel⟩
  refine M.ok sc (fun vs H Q E h => ?_) (fun f cdv A' outer s H vs Q E hr h => ?_)
  · obtain ⟨p, F, s, rfl, _⟩ := h; rfl
  · obtain ⟨p, F, s, rfl, hk, hW, hO, k⟩ := h
    refine ⟨_, (pss_one (ps_ret (pe_lst pa_nil))), ?_⟩
    refine ⟨by decide, fun t ht => ?_⟩
    rw [hi s hk] at k
    exact k _ F t ((Mv.refl F H).upd (.inr ht)) ht upd_same
theorem hWE (T : Tx K mg A) : ∀ i, MOk P w K mg base 2 (cW A i) "end" ["self"] (spWE A i)
  | .add => ok_endC T.k_AddWriter.m_end fun s e => by cases s <;> cases e; rfl
  | .front => ok_endC T.k_FrontWriter.m_end fun s e => by cases s <;> cases e; rfl
  | .escape => ok_endC T.k_EscapeWriter.m_end fun s e => by cases s <;> cases e; rfl
  | .runs => ok_RunsW_end T
  | .chunks => ok_ChunksW_end T
  | .checks => ok_ChecksW_end T
  | .signs => ok_SignsW_end T
def inB (n : Int) : Bool := decide (0 ≤ n) && decide (n ≤ 255)
def spIsByte : Sp := fun vs H Q _ => ∃ (n : Int), vs = [.int n] ∧ Q (.bl (inB n)) H
theorem ok_isByte (T : Tx K mg A) : Callee P w K mg base 1 "is_byte" ["value"] spIsByte := by
  have sc : FnScope ["value"] ["value"] (defScope st_is_byte) := ⟨rfl, rfl, rfl, by decide +kernel, rfl, by decide +kernel, by decide +kernel⟩
  refine T.f_is_byte.ok sc (fun vs H Q E h => ?_) (fun f cdv A' outer s H vs Q E hr h => ?_)
  · obtain ⟨n, rfl, _⟩ := h; rfl
  · obtain ⟨n, rfl, q⟩ := h
    refine ⟨_, (pss_one (ps_ret (pe_and (pe_callB call_isinst rfl T.isinstance bt_isinstance (pa_cons (pv 0) (pa_cons (pe_bltn (v := .ty "int") rfl T.int bt_int rfl) pa_nil))) (pe_and (pe_not (pe_callB call_isinst rfl T.isinstance bt_isinstance (pa_cons (pv 0) (pa_cons (pe_bltn (v := .ty "bool") rfl T.bool bt_bool rfl) pa_nil)))) (pe_one (pe_chain op_le op_le pe_int (pv 0) pe_int)))))), ?_⟩
    refine ⟨_, rfl, _, _, _, true, rfl, .int n, rfl, _, rfl, iteT ?_⟩
    refine ⟨_, rfl, _, _, _, false, rfl, .int n, rfl, _, rfl, _, rfl, iteT ?_⟩
    refine ⟨_, rfl, _, _, rfl, rfl, decide (0 ≤ n), rfl, ?_⟩
    by_cases h0 : 0 ≤ n
    · refine ifT (decide_eq_true h0) ?_
      refine ⟨_, _, rfl, rfl, ?_⟩
      unfold inB at q; rw [decide_eq_true h0, Bool.true_and] at q; exact q
    · refine ifF (decide_eq_false h0) ?_
      unfold inB at q; rw [decide_eq_false h0, Bool.false_and] at q; exact q
def LyT (H : Hp) (t : Addr) (wd : Str) (ns : List Int) : Prop := H t = some (.tup (.str wd :: intsV ns))
def formB (wd : Str) (ns : List Int) (x : Str) (a b : Int) : Bool := decide (wd = x) && (decide (a ≤ (ns.length : Int)) && (decide ((ns.length : Int) ≤ b) && ns.all inB))
def spHasForm : Sp := fun vs H Q _ => ∃ (t : Addr) (wd : Str) (ns : List Int) (x : Str) (a b : Int), vs = [.ref t, .str x, .int a, .int b] ∧ LyT H t wd ns ∧ ns.length ≤ 100 ∧ ∀ H', Same H H' → Q (.bl (formB wd ns x a b)) H'
theorem cut1 {v : V} {xs : List V} : cutV (v :: xs) (some 1) none = xs := by
  unfold cutV
  have e : HT.sIx (v :: xs).length 0 (some 1) = 1 := by rw [show (some (1 : Int)) = some ((1 : Nat) : Int) from rfl, HT.sIx_nat]; simp
  rw [e, HT.sIx_none]
  simp
theorem at0 {v : V} {xs : List V} : atI (v :: xs) 0 = some v := atI_nat (j := 0) rfl
theorem at1 {v u : V} {xs : List V} : atI (v :: u :: xs) 1 = some u := atI_nat (j := 1) rfl
theorem ok_hasForm (T : Tx K mg A) : Callee P w K mg base 2 "has_form" ["layer", "word", "fewest", "most"] spHasForm := by
  have sc : FnScope ["layer", "word", "fewest", "most", "numbers"] ["layer", "word", "fewest", "most"] (defScope st_has_form) := ⟨rfl, rfl, rfl, by decide +kernel, rfl, by decide +kernel, by decide +kernel⟩
  refine T.f_has_form.ok sc (fun vs H Q E h => ?_) (fun f cdv A' outer s H vs Q E hr h => ?_)
  · obtain ⟨t, wd, ns, x, a, b, rfl, _⟩ := h; rfl
  · obtain ⟨t, wd, ns, x, a, b, rfl, ht, hn, q⟩ := h
    have cis_byte := ok_isByte (P := P) (w := w) (base := base) T
    refine ⟨_, (pss_cons (ps_if (PW.pt (pw_or (pt_not (pt_val (pe_callB call_isinst rfl T.isinstance bt_isinstance (pa_cons (pv 0) (pa_cons (pe_bltn (v := .ty "tuple") rfl T.tuple bt_tuple rfl) pa_nil))))) (pw_or (pt_cmpR (op_eq) (pe_callB call_len_seq rfl T.len bt_len (pa_cons (pv 0) pa_nil)) pe_int (nomark _)) (pw_or1 (pt_cmpR (op_ne) (pe_ix ix_tup (pv 0) pe_int (fun _ _ => rfl)) (pv 1) (nomark _))))))
    (pss_one (ps_ret pe_bl))
    pss_nil)
    (pss_cons (ps_set (i := 4) sc.nd rfl (Or.inl rfl) (pe_slice sl_tup (pv 0) (po_some pe_int) po_none))
    (pss_one (ps_ret (pe_and (pe_chain op_le op_le (pv 2) (pe_callB call_len_seq rfl T.len bt_len (pa_cons (pv 4) pa_nil)) (pv 3)) (pe_one (pe_callB call_allB rfl T.all bt_all (pa_cons (pe_comp (N' := ["number", "layer", "word", "fewest", "most", "numbers"]) (fun _ _ h => h) rfl (comp_on (os := defScope st_has_form) (N := ["layer", "word", "fewest", "most", "numbers"]) rfl rfl ⟨rfl, by decide +kernel, by decide +kernel, by decide +kernel, rfl, by decide +kernel, by decide +kernel, by decide +kernel, by decide +kernel, by decide +kernel⟩) (pi_tup (pv 4)) (fun _ _ _ _ _ _ => pts_nil) (fun _ _ _ _ _ _ => (pe_callC cis_byte (hr.mono (by decide)) rfl (pa_cons (pv 0) pa_nil)))) pa_nil)))))))), ?_⟩
    refine ⟨_, rfl, _, _, _, true, rfl, .tup ht, rfl, _, rfl, iteF ?_⟩
    refine ⟨_, rfl, t, _, rfl, .inr (SqT.of ht), rfl, _, rfl, ?_⟩
    refine ifF (decide_eq_false fun z => by have := V.int.inj z; simp at this; omega) ?_
    refine ⟨_, rfl, t, _, 0, .str wd, rfl, rfl, SqT.of ht, at0, _, rfl, rfl, _, rfl, ?_⟩
    by_cases e : wd = x
    · subst e
      refine iteNS rfl ?_
      refine ⟨_, rfl, _, rfl, t, _, rfl, SqT.of ht, ?_, fun u hu => ?_⟩
      · rintro ⟨z, _⟩
        rw [show (some (1 : Int)) = some ((1 : Nat) : Int) from rfl, HT.sIx_nat] at z
        simp at z
      rw [cut1]
      have hu1 : (L2.upd H u (.tup (intsV ns))) u = some (.tup (intsV ns)) := upd_same
      have s1 : Same H (L2.upd H u (.tup (intsV ns))) := Same.upd (Same.refl H) hu
      refine ⟨_, rfl, _, rfl, u, _, rfl, .inr (SqT.of hu1), _, _, rfl, rfl, decide (a ≤ (ns.length : Int)), by rw [ints_len], ?_⟩
      by_cases ha : a ≤ (ns.length : Int)
      · refine ifT (decide_eq_true ha) ⟨_, rfl, _, _, rfl, rfl, decide ((ns.length : Int) ≤ b), by rw [ints_len], ?_⟩
        by_cases hb : (ns.length : Int) ≤ b
        · refine ifT (decide_eq_true hb) ?_
          refine ⟨_, rfl, u, rfl, ⟨_, SqT.of hu1⟩, comp_tup (K := K) (a := u) (xs := intsV ns) (fun i ys H2 => H2 = L2.upd H u (.tup (intsV ns)) ∧ i ≤ ns.length ∧ ys = (ns.take i).map fun n => V.bl (inB n)) ⟨rfl, Nat.zero_le _, rfl⟩ ?_ ?_ ?_ ?_⟩
          · rintro i ys H2 _ ⟨rfl, _⟩; exact SqT.of hu1
          · rintro i ys H2 ⟨_, hi, rfl⟩; rw [List.length_map, List.length_take, sizeLine_eq]; omega
          · rintro i y ys H2 hy ⟨rfl, hi, rfl⟩
            obtain ⟨n, hn', rfl⟩ := ints_get' hy
            have hil : i < ns.length := (List.getElem?_eq_some_iff.mp hn').1
            refine ⟨_, rfl, n, rfl, rfl, hil, ?_⟩
            rw [List.take_add_one, hn']; simp
          · rintro ys H2 ⟨rfl, _, rfl⟩ p2 hp2
            rw [ints_len, List.take_of_length_le (Nat.le_refl _)]
            refine ⟨p2, ns.map inB, rfl, ?_, rfl, ?_⟩
            · rw [upd_same, List.map_map]; rfl
            · have := q _ (s1.upd (p := p2) (o := .lst ((ns.map fun n => V.bl (inB n)))) hp2)
              unfold formB at this
              rw [decide_eq_true rfl, decide_eq_true ha, decide_eq_true hb, Bool.true_and, Bool.true_and, Bool.true_and] at this
              rw [List.all_map]
              exact this
        · refine ifF (decide_eq_false hb) ?_
          have := q _ s1
          unfold formB at this
          rw [decide_eq_false hb, Bool.false_and, Bool.and_false, Bool.and_false] at this
          exact this
      · refine ifF (decide_eq_false ha) ?_
        refine ⟨_, rfl, iteF ?_⟩
        have := q _ s1
        unfold formB at this
        rw [decide_eq_false ha, Bool.false_and, Bool.and_false] at this
        exact this
    · refine ifT (by rw [decide_eq_false fun z => e (V.str.inj z)]; rfl) ?_
      have := q H (Same.refl H)
      unfold formB at this
      rw [decide_eq_false e, Bool.false_and] at this
      exact this
end
end Fl
namespace Fl
open PySem L2 Fm
def spIs (g : Str → List Int → Bool) : Sp := fun vs H Q _ => ∃ (t : Addr) (wd : Str) (ns : List Int), vs = [.ref t] ∧ LyT H t wd ns ∧ ns.length ≤ 100 ∧ ∀ H', Same H H' → Q (.bl (g wd ns)) H'
theorem LyT.same {H H' : Hp} {t : Addr} {wd : Str} {ns : List Int} (h : LyT H t wd ns) (e : Same H H') : LyT H' t wd ns := e _ _ h
def b_add (wd : Str) (ns : List Int) : Bool := formB wd ns "add" 1 8
def b_front (wd : Str) (ns : List Int) : Bool := formB wd ns "front" 0 0
def b_escape (wd : Str) (ns : List Int) : Bool := formB wd ns "escape" 1 1
def b_runs (wd : Str) (ns : List Int) : Bool := formB wd ns "runs" 0 0
def b_signs (wd : Str) (ns : List Int) : Bool := formB wd ns "signs" 0 0
def b_chunks (wd : Str) (ns : List Int) : Bool := formB wd ns "chunks" 1 1 && decide (0 < ns.getD 0 0)
def b_checks (wd : Str) (ns : List Int) : Bool := formB wd ns "checks" 1 1 && decide (0 < ns.getD 0 0)
def b_simple (wd : Str) (ns : List Int) : Bool := b_add wd ns || b_front wd ns
def b_marked (wd : Str) (ns : List Int) : Bool := b_escape wd ns || b_runs wd ns
def b_framed (wd : Str) (ns : List Int) : Bool := b_chunks wd ns || b_checks wd ns
section
variable {P : Program} {w : World} {K : PySem.W.Frag} {mg : Str → Option Value} {base : Heap} {A : Adr}
theorem ok_is_add (T : Tx K mg A) : Callee P w K mg base 3 "is_add" ["layer"] (spIs b_add) := by
  have sc : FnScope ["layer"] ["layer"] (defScope st_is_add) := ⟨rfl, rfl, rfl, by decide +kernel, rfl, by decide +kernel, by decide +kernel⟩
  refine T.f_is_add.ok sc (fun vs H Q E h => ?_) (fun f cdv A' outer s H vs Q E hr h => ?_)
  · obtain ⟨t, wd, ns, rfl, _⟩ := h; rfl
  · obtain ⟨t, wd, ns, rfl, ht, hn, q⟩ := h
    have chas_form := ok_hasForm (P := P) (w := w) (base := base) T
    refine ⟨_, (pss_one (ps_ret (pe_callC chas_form (hr.mono (by decide)) rfl (pa_cons (pv 0) (pa_cons pe_str (pa_cons pe_int (pa_cons pe_int pa_nil))))))), ?_⟩
    exact ⟨_, rfl, t, wd, ns, _, _, _, rfl, ht, hn, q⟩
theorem ok_is_front (T : Tx K mg A) : Callee P w K mg base 3 "is_front" ["layer"] (spIs b_front) := by
  have sc : FnScope ["layer"] ["layer"] (defScope st_is_front) := ⟨rfl, rfl, rfl, by decide +kernel, rfl, by decide +kernel, by decide +kernel⟩
  refine T.f_is_front.ok sc (fun vs H Q E h => ?_) (fun f cdv A' outer s H vs Q E hr h => ?_)
  · obtain ⟨t, wd, ns, rfl, _⟩ := h; rfl
  · obtain ⟨t, wd, ns, rfl, ht, hn, q⟩ := h
    have chas_form := ok_hasForm (P := P) (w := w) (base := base) T
    refine ⟨_, (pss_one (ps_ret (pe_callC chas_form (hr.mono (by decide)) rfl (pa_cons (pv 0) (pa_cons pe_str (pa_cons pe_int (pa_cons pe_int pa_nil))))))), ?_⟩
    exact ⟨_, rfl, t, wd, ns, _, _, _, rfl, ht, hn, q⟩
theorem ok_is_escape (T : Tx K mg A) : Callee P w K mg base 3 "is_escape" ["layer"] (spIs b_escape) := by
  have sc : FnScope ["layer"] ["layer"] (defScope st_is_escape) := ⟨rfl, rfl, rfl, by decide +kernel, rfl, by decide +kernel, by decide +kernel⟩
  refine T.f_is_escape.ok sc (fun vs H Q E h => ?_) (fun f cdv A' outer s H vs Q E hr h => ?_)
  · obtain ⟨t, wd, ns, rfl, _⟩ := h; rfl
  · obtain ⟨t, wd, ns, rfl, ht, hn, q⟩ := h
    have chas_form := ok_hasForm (P := P) (w := w) (base := base) T
    refine ⟨_, (pss_one (ps_ret (pe_callC chas_form (hr.mono (by decide)) rfl (pa_cons (pv 0) (pa_cons pe_str (pa_cons pe_int (pa_cons pe_int pa_nil))))))), ?_⟩
    exact ⟨_, rfl, t, wd, ns, _, _, _, rfl, ht, hn, q⟩
theorem ok_is_runs (T : Tx K mg A) : Callee P w K mg base 3 "is_runs" ["layer"] (spIs b_runs) := by
  have sc : FnScope ["layer"] ["layer"] (defScope st_is_runs) := ⟨rfl, rfl, rfl, by decide +kernel, rfl, by decide +kernel, by decide +kernel⟩
  refine T.f_is_runs.ok sc (fun vs H Q E h => ?_) (fun f cdv A' outer s H vs Q E hr h => ?_)
  · obtain ⟨t, wd, ns, rfl, _⟩ := h; rfl
  · obtain ⟨t, wd, ns, rfl, ht, hn, q⟩ := h
    have chas_form := ok_hasForm (P := P) (w := w) (base := base) T
    refine ⟨_, (pss_one (ps_ret (pe_callC chas_form (hr.mono (by decide)) rfl (pa_cons (pv 0) (pa_cons pe_str (pa_cons pe_int (pa_cons pe_int pa_nil))))))), ?_⟩
    exact ⟨_, rfl, t, wd, ns, _, _, _, rfl, ht, hn, q⟩
theorem ok_is_signs (T : Tx K mg A) : Callee P w K mg base 3 "is_signs" ["layer"] (spIs b_signs) := by
  have sc : FnScope ["layer"] ["layer"] (defScope st_is_signs) := ⟨rfl, rfl, rfl, by decide +kernel, rfl, by decide +kernel, by decide +kernel⟩
  refine T.f_is_signs.ok sc (fun vs H Q E h => ?_) (fun f cdv A' outer s H vs Q E hr h => ?_)
  · obtain ⟨t, wd, ns, rfl, _⟩ := h; rfl
  · obtain ⟨t, wd, ns, rfl, ht, hn, q⟩ := h
    have chas_form := ok_hasForm (P := P) (w := w) (base := base) T
    refine ⟨_, (pss_one (ps_ret (pe_callC chas_form (hr.mono (by decide)) rfl (pa_cons (pv 0) (pa_cons pe_str (pa_cons pe_int (pa_cons pe_int pa_nil))))))), ?_⟩
    exact ⟨_, rfl, t, wd, ns, _, _, _, rfl, ht, hn, q⟩
theorem ok_is_chunks (T : Tx K mg A) : Callee P w K mg base 3 "is_chunks" ["layer"] (spIs b_chunks) := by
  have sc : FnScope ["layer"] ["layer"] (defScope st_is_chunks) := ⟨rfl, rfl, rfl, by decide +kernel, rfl, by decide +kernel, by decide +kernel⟩
  refine T.f_is_chunks.ok sc (fun vs H Q E h => ?_) (fun f cdv A' outer s H vs Q E hr h => ?_)
  · obtain ⟨t, wd, ns, rfl, _⟩ := h; rfl
  · obtain ⟨t, wd, ns, rfl, ht, hn, q⟩ := h
    have chas_form := ok_hasForm (P := P) (w := w) (base := base) T
    refine ⟨_, (pss_one (ps_ret (pe_and (pe_callC chas_form (hr.mono (by decide)) rfl (pa_cons (pv 0) (pa_cons pe_str (pa_cons pe_int (pa_cons pe_int pa_nil))))) (pe_one (pe_cmpR (op_gt) (pe_ix ix_tup (pv 0) pe_int (fun _ _ => rfl)) pe_int (nomark _)))))), ?_⟩
    refine ⟨_, rfl, t, wd, ns, _, _, _, rfl, ht, hn, fun H1 s1 => ⟨_, rfl, ?_⟩⟩
    unfold b_chunks at q
    cases e : formB wd ns "chunks" 1 1 with
    | false => exact iteF (by rw [e, Bool.false_and] at q; exact q H1 s1)
    | true =>
      rw [e, Bool.true_and] at q
      refine iteT ?_
      obtain ⟨n, rfl⟩ : ∃ n, ns = [n] := by
        unfold formB at e
        simp only [Bool.and_eq_true, decide_eq_true_eq] at e
        match ns, e with
        | [n], _ => exact ⟨n, rfl⟩
        | [], e => simp at e
        | _ :: _ :: _, e => simp at e; omega
      exact ⟨_, rfl, t, _, 1, .int n, rfl, rfl, SqT.of (ht.same s1), at1, _, _, rfl, rfl, q H1 s1⟩
theorem ok_is_checks (T : Tx K mg A) : Callee P w K mg base 3 "is_checks" ["layer"] (spIs b_checks) := by
  have sc : FnScope ["layer"] ["layer"] (defScope st_is_checks) := ⟨rfl, rfl, rfl, by decide +kernel, rfl, by decide +kernel, by decide +kernel⟩
  refine T.f_is_checks.ok sc (fun vs H Q E h => ?_) (fun f cdv A' outer s H vs Q E hr h => ?_)
  · obtain ⟨t, wd, ns, rfl, _⟩ := h; rfl
  · obtain ⟨t, wd, ns, rfl, ht, hn, q⟩ := h
    have chas_form := ok_hasForm (P := P) (w := w) (base := base) T
    refine ⟨_, (pss_one (ps_ret (pe_and (pe_callC chas_form (hr.mono (by decide)) rfl (pa_cons (pv 0) (pa_cons pe_str (pa_cons pe_int (pa_cons pe_int pa_nil))))) (pe_one (pe_cmpR (op_gt) (pe_ix ix_tup (pv 0) pe_int (fun _ _ => rfl)) pe_int (nomark _)))))), ?_⟩
    refine ⟨_, rfl, t, wd, ns, _, _, _, rfl, ht, hn, fun H1 s1 => ⟨_, rfl, ?_⟩⟩
    unfold b_checks at q
    cases e : formB wd ns "checks" 1 1 with
    | false => exact iteF (by rw [e, Bool.false_and] at q; exact q H1 s1)
    | true =>
      rw [e, Bool.true_and] at q
      refine iteT ?_
      obtain ⟨n, rfl⟩ : ∃ n, ns = [n] := by
        unfold formB at e
        simp only [Bool.and_eq_true, decide_eq_true_eq] at e
        match ns, e with
        | [n], _ => exact ⟨n, rfl⟩
        | [], e => simp at e
        | _ :: _ :: _, e => simp at e; omega
      exact ⟨_, rfl, t, _, 1, .int n, rfl, rfl, SqT.of (ht.same s1), at1, _, _, rfl, rfl, q H1 s1⟩
theorem ok_is_simple (T : Tx K mg A) : Callee P w K mg base 4 "is_simple" ["layer"] (spIs b_simple) := by
  have sc : FnScope ["layer"] ["layer"] (defScope st_is_simple) := ⟨rfl, rfl, rfl, by decide +kernel, rfl, by decide +kernel, by decide +kernel⟩
  refine T.f_is_simple.ok sc (fun vs H Q E h => ?_) (fun f cdv A' outer s H vs Q E hr h => ?_)
  · obtain ⟨t, wd, ns, rfl, _⟩ := h; rfl
  · obtain ⟨t, wd, ns, rfl, ht, hn, q⟩ := h
    have cis_add := ok_is_add (P := P) (w := w) (base := base) T
    have cis_front := ok_is_front (P := P) (w := w) (base := base) T
    refine ⟨_, (pss_one (ps_ret (pe_or (pe_callC cis_add (hr.mono (by decide)) rfl (pa_cons (pv 0) pa_nil)) (pe_one (pe_callC cis_front (hr.mono (by decide)) rfl (pa_cons (pv 0) pa_nil)))))), ?_⟩
    refine ⟨_, rfl, t, wd, ns, rfl, ht, hn, fun H1 s1 => ⟨_, rfl, ?_⟩⟩
    unfold b_simple at q
    cases e : b_add wd ns with
    | true => exact iteT (by rw [e, Bool.true_or] at q; exact q H1 s1)
    | false =>
      rw [e, Bool.false_or] at q
      exact iteF ⟨_, rfl, t, wd, ns, rfl, ht.same s1, hn, fun H2 s2 => q H2 (s1.trans s2)⟩
theorem ok_is_marked (T : Tx K mg A) : Callee P w K mg base 4 "is_marked" ["layer"] (spIs b_marked) := by
  have sc : FnScope ["layer"] ["layer"] (defScope st_is_marked) := ⟨rfl, rfl, rfl, by decide +kernel, rfl, by decide +kernel, by decide +kernel⟩
  refine T.f_is_marked.ok sc (fun vs H Q E h => ?_) (fun f cdv A' outer s H vs Q E hr h => ?_)
  · obtain ⟨t, wd, ns, rfl, _⟩ := h; rfl
  · obtain ⟨t, wd, ns, rfl, ht, hn, q⟩ := h
    have cis_escape := ok_is_escape (P := P) (w := w) (base := base) T
    have cis_runs := ok_is_runs (P := P) (w := w) (base := base) T
    refine ⟨_, (pss_one (ps_ret (pe_or (pe_callC cis_escape (hr.mono (by decide)) rfl (pa_cons (pv 0) pa_nil)) (pe_one (pe_callC cis_runs (hr.mono (by decide)) rfl (pa_cons (pv 0) pa_nil)))))), ?_⟩
    refine ⟨_, rfl, t, wd, ns, rfl, ht, hn, fun H1 s1 => ⟨_, rfl, ?_⟩⟩
    unfold b_marked at q
    cases e : b_escape wd ns with
    | true => exact iteT (by rw [e, Bool.true_or] at q; exact q H1 s1)
    | false =>
      rw [e, Bool.false_or] at q
      exact iteF ⟨_, rfl, t, wd, ns, rfl, ht.same s1, hn, fun H2 s2 => q H2 (s1.trans s2)⟩
theorem ok_is_framed (T : Tx K mg A) : Callee P w K mg base 4 "is_framed" ["layer"] (spIs b_framed) := by
  have sc : FnScope ["layer"] ["layer"] (defScope st_is_framed) := ⟨rfl, rfl, rfl, by decide +kernel, rfl, by decide +kernel, by decide +kernel⟩
  refine T.f_is_framed.ok sc (fun vs H Q E h => ?_) (fun f cdv A' outer s H vs Q E hr h => ?_)
  · obtain ⟨t, wd, ns, rfl, _⟩ := h; rfl
  · obtain ⟨t, wd, ns, rfl, ht, hn, q⟩ := h
    have cis_chunks := ok_is_chunks (P := P) (w := w) (base := base) T
    have cis_checks := ok_is_checks (P := P) (w := w) (base := base) T
    refine ⟨_, (pss_one (ps_ret (pe_or (pe_callC cis_chunks (hr.mono (by decide)) rfl (pa_cons (pv 0) pa_nil)) (pe_one (pe_callC cis_checks (hr.mono (by decide)) rfl (pa_cons (pv 0) pa_nil)))))), ?_⟩
    refine ⟨_, rfl, t, wd, ns, rfl, ht, hn, fun H1 s1 => ⟨_, rfl, ?_⟩⟩
    unfold b_framed at q
    cases e : b_chunks wd ns with
    | true => exact iteT (by rw [e, Bool.true_or] at q; exact q H1 s1)
    | false =>
      rw [e, Bool.false_or] at q
      exact iteF ⟨_, rfl, t, wd, ns, rfl, ht.same s1, hn, fun H2 s2 => q H2 (s1.trans s2)⟩
end
def lword : Ly → Str
  | .add _ => "add" | .front => "front" | .escape _ => "escape" | .runs => "runs" | .chunks _ => "chunks" | .checks _ => "checks" | .signs => "signs"
def lnums : Ly → List Int
  | .add key => key | .escape b => [b] | .chunks n => [(n : Int)] | .checks n => [(n : Int)] | _ => []
def LyAt (H : Hp) (t : Addr) (l : Ly) : Prop := LyT H t (lword l) (lnums l)
theorem lnums_len {l : Ly} (h : l.Ok) : (lnums l).length ≤ 100 := by
  cases l with
  | add key => have := h.2.1; show key.length ≤ 100; omega
  | _ => simp [lnums]
theorem fb_ne {wd x : Str} {ns : List Int} {a b : Int} (h : ¬ wd = x) : formB wd ns x a b = false := by unfold formB; rw [decide_eq_false h, Bool.false_and]
theorem inB_of {n : Int} (h : IsB n) : inB n = true := by unfold inB; unfold IsB at h; simp; omega
theorem v_add {l : Ly} (h : l.Ok) : b_add (lword l) (lnums l) = (match l with | .add _ => true | _ => false) := by
  cases l with
  | add key =>
    obtain ⟨h1, h2, h3⟩ := h
    have ha : key.all inB = true := List.all_eq_true.mpr fun n hn => inB_of (h3 n hn)
    show formB "add" key "add" 1 8 = true
    unfold formB
    rw [ha]; simp; omega
  | _ => exact fb_ne (by dsimp only [lword]; decide +kernel)
theorem v_front {l : Ly} (h : l.Ok) : b_front (lword l) (lnums l) = (match l with | .front => true | _ => false) := by
  cases l with
  | front => show formB "front" [] "front" 0 0 = true; decide +kernel
  | _ => exact fb_ne (by dsimp only [lword]; decide +kernel)
theorem v_runs {l : Ly} (h : l.Ok) : b_runs (lword l) (lnums l) = (match l with | .runs => true | _ => false) := by
  cases l with
  | runs => show formB "runs" [] "runs" 0 0 = true; decide +kernel
  | _ => exact fb_ne (by dsimp only [lword]; decide +kernel)
theorem v_signs {l : Ly} (h : l.Ok) : b_signs (lword l) (lnums l) = (match l with | .signs => true | _ => false) := by
  cases l with
  | signs => show formB "signs" [] "signs" 0 0 = true; decide +kernel
  | _ => exact fb_ne (by dsimp only [lword]; decide +kernel)
theorem v_escape {l : Ly} (h : l.Ok) : b_escape (lword l) (lnums l) = (match l with | .escape _ => true | _ => false) := by
  cases l with
  | escape b =>
    show formB "escape" [b] "escape" 1 1 = true
    unfold formB
    have h : IsB b := h
    simp [inB_of h]
  | _ => exact fb_ne (by dsimp only [lword]; decide +kernel)
theorem v_chunks {l : Ly} (h : l.Ok) : b_chunks (lword l) (lnums l) = (match l with | .chunks _ => true | _ => false) := by
  cases l with
  | chunks n =>
    obtain ⟨h1, h2⟩ := h
    show (formB "chunks" [(n : Int)] "chunks" 1 1 && decide (0 < (n : Int))) = true
    unfold formB
    have h : IsB (n : Int) := by unfold IsB; omega
    simp [inB_of h]; omega
  | _ => unfold b_chunks; rw [fb_ne (by dsimp only [lword]; decide +kernel), Bool.false_and]
theorem v_checks {l : Ly} (h : l.Ok) : b_checks (lword l) (lnums l) = (match l with | .checks _ => true | _ => false) := by
  cases l with
  | checks n =>
    obtain ⟨h1, h2⟩ := h
    show (formB "checks" [(n : Int)] "checks" 1 1 && decide (0 < (n : Int))) = true
    unfold formB
    have h : IsB (n : Int) := by unfold IsB; omega
    simp [inB_of h]; omega
  | _ => unfold b_checks; rw [fb_ne (by dsimp only [lword]; decide +kernel), Bool.false_and]
def isSimple : Ly → Bool | .add _ => true | .front => true | _ => false
def isMarked : Ly → Bool | .escape _ => true | .runs => true | _ => false
def isFramed : Ly → Bool | .chunks _ => true | .checks _ => true | _ => false
def isSigns : Ly → Bool | .signs => true | _ => false
theorem v_simple {l : Ly} (h : l.Ok) : b_simple (lword l) (lnums l) = isSimple l := by unfold b_simple; rw [v_add h, v_front h]; cases l <;> rfl
theorem v_marked {l : Ly} (h : l.Ok) : b_marked (lword l) (lnums l) = isMarked l := by unfold b_marked; rw [v_escape h, v_runs h]; cases l <;> rfl
theorem v_framed {l : Ly} (h : l.Ok) : b_framed (lword l) (lnums l) = isFramed l := by unfold b_framed; rw [v_chunks h, v_checks h]; cases l <;> rfl
theorem v_sgn {l : Ly} (h : l.Ok) : b_signs (lword l) (lnums l) = isSigns l := by rw [v_signs h]; cases l <;> rfl
def spLW (A : Adr) (g : Ly → Bool) : Sp := fun vs H Q _ => ∃ (t : Addr) (l : Ly), vs = [.ref t] ∧ LyAt H t l ∧ l.Ok ∧ g l = true ∧ ∀ (H' : Hp) (F : List Addr) (p : Addr), Mv [] F H H' → WO A H' p F (wst l) → Q (.ref p) H'
theorem mv_made {H H2 H' : Hp} {x dx : Addr} {o1 o2 : HO} {F : List Addr} (m0 : Mv [] [] H H2) (nx : H2 x = none) (ndx : H2 dx = none) (mv : Mv [x] F (L2.upd (L2.upd H2 dx o1) x o2) H') : Mv [] F H H' := (m0.trans (Mv.make nx ndx)).trans mv
section
variable {P : Program} {w : World} {K : PySem.W.Frag} {mg : Str → Option Value} {base : Heap} {A : Adr}
theorem ok_simple_writer (T : Tx K mg A) : Callee P w K mg base 5 "simple_writer" ["layer"] (spLW A isSimple) := by
  have sc : FnScope ["layer"] ["layer"] (defScope st_simple_writer) := ⟨rfl, rfl, rfl, by decide +kernel, rfl, by decide +kernel, by decide +kernel⟩
  refine T.f_simple_writer.ok sc (fun vs H Q E h => ?_) (fun f cdv A' outer s H vs Q E hr h => ?_)
  · obtain ⟨t, l, rfl, _⟩ := h; rfl
  · obtain ⟨t, l, rfl, ht, hl, hg, k⟩ := h
    have cis_add := ok_is_add (P := P) (w := w) (base := base) T
    have cis_front := ok_is_front (P := P) (w := w) (base := base) T
    have mAddWriter := ok_AddW_init (P := P) (w := w) (base := base) T
    have mFrontWriter := ok_FrontW_init (P := P) (w := w) (base := base) T
    refine ⟨_, (pss_cons (ps_if (pt_val (pe_callC cis_add (hr.mono (by decide)) rfl (pa_cons (pv 0) pa_nil)))
    (pss_one (ps_ret (pe_makeC mAddWriter (hr.mono (by decide)) rfl (pa_cons (pe_slice sl_tup (pv 0) (po_some pe_int) po_none) pa_nil))))
    pss_nil)
    (pss_cons (ps_if (pt_val (pe_callC cis_front (hr.mono (by decide)) rfl (pa_cons (pv 0) pa_nil)))
    (pss_one (ps_ret (pe_makeC0 mFrontWriter (hr.mono (by decide)) rfl)))
    pss_nil)
    (pss_one ps_never))), ?_⟩
    refine ⟨_, rfl, t, _, _, rfl, ht, lnums_len hl, fun H1 s1 => ⟨_, rfl, ?_⟩⟩
    rw [v_add hl]
    cases l <;> cases hg
    · rename_i key
      refine iteT ?_
      have ht1 : H1 t = some (.tup (.str "add" :: intsV key)) := ht.same s1
      refine ⟨_, rfl, _, rfl, t, _, rfl, SqT.of ht1, ?_, fun u hu => ?_⟩
      · rintro ⟨z, _⟩
        rw [show (some (1 : Int)) = some ((1 : Nat) : Int) from rfl, HT.sIx_nat] at z
        simp at z
      rw [cut1]
      refine fun x dx nx ndx ne => ⟨x, dx, u, key, rfl, ?_, upd_same, fun H' F' mv wo => ⟨rfl, ?_⟩⟩
      · rw [upd_ne (ne_of_none upd_same nx), upd_ne (ne_of_none upd_same ndx)]; exact upd_same
      · exact k H' F' x (mv_made (((Mv.ofSame s1)).upd (.inr (s1.free hu))) nx ndx mv) wo
    · refine iteF ⟨_, rfl, t, _, _, rfl, ht.same s1, by decide, fun H2 s2 => ⟨_, rfl, ?_⟩⟩
      rw [v_front hl]
      refine iteT ?_
      exact fun x dx nx ndx ne => ⟨x, dx, rfl, upd_same, fun H' F' mv wo => ⟨rfl, k H' F' x (mv_made (Mv.ofSame (s1.trans s2)) nx ndx mv) wo⟩⟩
theorem ok_marked_writer (T : Tx K mg A) : Callee P w K mg base 5 "marked_writer" ["layer"] (spLW A isMarked) := by
  have sc : FnScope ["layer"] ["layer"] (defScope st_marked_writer) := ⟨rfl, rfl, rfl, by decide +kernel, rfl, by decide +kernel, by decide +kernel⟩
  refine T.f_marked_writer.ok sc (fun vs H Q E h => ?_) (fun f cdv A' outer s H vs Q E hr h => ?_)
  · obtain ⟨t, l, rfl, _⟩ := h; rfl
  · obtain ⟨t, l, rfl, ht, hl, hg, k⟩ := h
    have cis_escape := ok_is_escape (P := P) (w := w) (base := base) T
    have cis_runs := ok_is_runs (P := P) (w := w) (base := base) T
    have mEscapeWriter := ok_EscapeW_init (P := P) (w := w) (base := base) T
    have mRunsWriter := ok_RunsW_init (P := P) (w := w) (base := base) T
    refine ⟨_, (pss_cons (ps_if (pt_val (pe_callC cis_escape (hr.mono (by decide)) rfl (pa_cons (pv 0) pa_nil)))
    (pss_one (ps_ret (pe_makeC mEscapeWriter (hr.mono (by decide)) rfl (pa_cons (pe_ix ix_tup (pv 0) pe_int (fun _ _ => rfl)) pa_nil))))
    pss_nil)
    (pss_cons (ps_if (pt_val (pe_callC cis_runs (hr.mono (by decide)) rfl (pa_cons (pv 0) pa_nil)))
    (pss_one (ps_ret (pe_makeC0 mRunsWriter (hr.mono (by decide)) rfl)))
    pss_nil)
    (pss_one ps_never))), ?_⟩
    refine ⟨_, rfl, t, _, _, rfl, ht, lnums_len hl, fun H1 s1 => ⟨_, rfl, ?_⟩⟩
    rw [v_escape hl]
    cases l <;> cases hg
    · rename_i b
      refine iteT ?_
      refine ⟨_, rfl, t, _, 1, .int b, rfl, rfl, SqT.of (ht.same s1), at1, ?_⟩
      exact fun x dx nx ndx ne => ⟨x, dx, b, rfl, hl, upd_same, fun H' F' mv wo => ⟨rfl, k H' F' x (mv_made (Mv.ofSame s1) nx ndx mv) wo⟩⟩
    · refine iteF ⟨_, rfl, t, _, _, rfl, ht.same s1, by decide, fun H2 s2 => ⟨_, rfl, ?_⟩⟩
      rw [v_runs hl]
      refine iteT ?_
      exact fun x dx nx ndx ne => ⟨x, dx, rfl, upd_same, fun H' F' mv wo => ⟨rfl, k H' F' x (mv_made (Mv.ofSame (s1.trans s2)) nx ndx mv) wo⟩⟩
theorem ok_framed_writer (T : Tx K mg A) : Callee P w K mg base 5 "framed_writer" ["layer"] (spLW A isFramed) := by
  have sc : FnScope ["layer"] ["layer"] (defScope st_framed_writer) := ⟨rfl, rfl, rfl, by decide +kernel, rfl, by decide +kernel, by decide +kernel⟩
  refine T.f_framed_writer.ok sc (fun vs H Q E h => ?_) (fun f cdv A' outer s H vs Q E hr h => ?_)
  · obtain ⟨t, l, rfl, _⟩ := h; rfl
  · obtain ⟨t, l, rfl, ht, hl, hg, k⟩ := h
    have cis_chunks := ok_is_chunks (P := P) (w := w) (base := base) T
    have cis_checks := ok_is_checks (P := P) (w := w) (base := base) T
    have mChunksWriter := ok_ChunksW_init (P := P) (w := w) (base := base) T
    have mChecksWriter := ok_ChecksW_init (P := P) (w := w) (base := base) T
    refine ⟨_, (pss_cons (ps_if (pt_val (pe_callC cis_chunks (hr.mono (by decide)) rfl (pa_cons (pv 0) pa_nil)))
    (pss_one (ps_ret (pe_makeC mChunksWriter (hr.mono (by decide)) rfl (pa_cons (pe_ix ix_tup (pv 0) pe_int (fun _ _ => rfl)) pa_nil))))
    pss_nil)
    (pss_cons (ps_if (pt_val (pe_callC cis_checks (hr.mono (by decide)) rfl (pa_cons (pv 0) pa_nil)))
    (pss_one (ps_ret (pe_makeC mChecksWriter (hr.mono (by decide)) rfl (pa_cons (pe_ix ix_tup (pv 0) pe_int (fun _ _ => rfl)) pa_nil))))
    pss_nil)
    (pss_one ps_never))), ?_⟩
    refine ⟨_, rfl, t, _, _, rfl, ht, lnums_len hl, fun H1 s1 => ⟨_, rfl, ?_⟩⟩
    rw [v_chunks hl]
    cases l <;> cases hg
    · rename_i n
      refine iteT ?_
      refine ⟨_, rfl, t, _, 1, .int (n : Int), rfl, rfl, SqT.of (ht.same s1), at1, ?_⟩
      exact fun x dx nx ndx ne => ⟨x, dx, n, rfl, upd_same, fun H' F' mv wo => ⟨rfl, k H' F' x (mv_made (Mv.ofSame s1) nx ndx mv) wo⟩⟩
    · rename_i n
      refine iteF ⟨_, rfl, t, _, _, rfl, ht.same s1, by show 1 ≤ 100; decide, fun H2 s2 => ⟨_, rfl, ?_⟩⟩
      rw [v_checks hl]
      refine iteT ?_
      refine ⟨_, rfl, t, _, 1, .int (n : Int), rfl, rfl, SqT.of (ht.same (s1.trans s2)), at1, ?_⟩
      exact fun x dx nx ndx ne => ⟨x, dx, n, rfl, upd_same, fun H' F' mv wo => ⟨rfl, k H' F' x (mv_made (Mv.ofSame (s1.trans s2)) nx ndx mv) wo⟩⟩
theorem ok_signs_writer (T : Tx K mg A) : Callee P w K mg base 5 "signs_writer" ["layer"] (spLW A isSigns) := by
  have sc : FnScope ["layer"] ["layer"] (defScope st_signs_writer) := ⟨rfl, rfl, rfl, by decide +kernel, rfl, by decide +kernel, by decide +kernel⟩
  refine T.f_signs_writer.ok sc (fun vs H Q E h => ?_) (fun f cdv A' outer s H vs Q E hr h => ?_)
  · obtain ⟨t, l, rfl, _⟩ := h; rfl
  · obtain ⟨t, l, rfl, ht, hl, hg, k⟩ := h
    have cis_signs := ok_is_signs (P := P) (w := w) (base := base) T
    have mSignsWriter := ok_SignsW_init (P := P) (w := w) (base := base) T
    refine ⟨_, (pss_cons (ps_if (pt_val (pe_callC cis_signs (hr.mono (by decide)) rfl (pa_cons (pv 0) pa_nil)))
    (pss_one (ps_ret (pe_makeC0 mSignsWriter (hr.mono (by decide)) rfl)))
    pss_nil)
    (pss_one ps_never)), ?_⟩
    refine ⟨_, rfl, t, _, _, rfl, ht, lnums_len hl, fun H1 s1 => ⟨_, rfl, ?_⟩⟩
    rw [v_signs hl]
    cases l <;> cases hg
    refine iteT ?_
    exact fun x dx nx ndx ne => ⟨x, dx, rfl, upd_same, fun H' F' mv wo => ⟨rfl, k H' F' x (mv_made (Mv.ofSame s1) nx ndx mv) wo⟩⟩
theorem ok_layer_writer (T : Tx K mg A) : Callee P w K mg base 6 "layer_writer" ["layer"] (spLW A fun _ => true) := by
  have sc : FnScope ["layer"] ["layer"] (defScope st_layer_writer) := ⟨rfl, rfl, rfl, by decide +kernel, rfl, by decide +kernel, by decide +kernel⟩
  refine T.f_layer_writer.ok sc (fun vs H Q E h => ?_) (fun f cdv A' outer s H vs Q E hr h => ?_)
  · obtain ⟨t, l, rfl, _⟩ := h; rfl
  · obtain ⟨t, l, rfl, ht, hl, _, k⟩ := h
    have cis_simple := ok_is_simple (P := P) (w := w) (base := base) T
    have cis_marked := ok_is_marked (P := P) (w := w) (base := base) T
    have cis_framed := ok_is_framed (P := P) (w := w) (base := base) T
    have cis_signs := ok_is_signs (P := P) (w := w) (base := base) T
    have c_simple_writer := ok_simple_writer (P := P) (w := w) (base := base) T
    have cmarked_writer := ok_marked_writer (P := P) (w := w) (base := base) T
    have cframed_writer := ok_framed_writer (P := P) (w := w) (base := base) T
    have csigns_writer := ok_signs_writer (P := P) (w := w) (base := base) T
    have hn := lnums_len hl
    refine ⟨_, (pss_cons (ps_if (pt_val (pe_callC cis_simple (hr.mono (by decide)) rfl (pa_cons (pv 0) pa_nil)))
    (pss_one (ps_ret (pe_callC c_simple_writer (hr.mono (by decide)) rfl (pa_cons (pv 0) pa_nil))))
    pss_nil)
    (pss_cons (ps_if (pt_val (pe_callC cis_marked (hr.mono (by decide)) rfl (pa_cons (pv 0) pa_nil)))
    (pss_one (ps_ret (pe_callC cmarked_writer (hr.mono (by decide)) rfl (pa_cons (pv 0) pa_nil))))
    pss_nil)
    (pss_cons (ps_if (pt_val (pe_callC cis_framed (hr.mono (by decide)) rfl (pa_cons (pv 0) pa_nil)))
    (pss_one (ps_ret (pe_callC cframed_writer (hr.mono (by decide)) rfl (pa_cons (pv 0) pa_nil))))
    pss_nil)
    (pss_cons (ps_if (pt_val (pe_callC cis_signs (hr.mono (by decide)) rfl (pa_cons (pv 0) pa_nil)))
    (pss_one (ps_ret (pe_callC csigns_writer (hr.mono (by decide)) rfl (pa_cons (pv 0) pa_nil))))
    pss_nil)
    (pss_one ps_never))))), ?_⟩
    have fin : ∀ {H1 : Hp}, Same H H1 → ∀ (H' : Hp) (F : List Addr) (p : Addr), Mv [] F H1 H' → WO A H' p F (wst l) → Q (.ref p) H' := fun s H' F p mv wo => k H' F p ((Mv.ofSame s).trans mv) wo
    refine ⟨_, rfl, t, _, _, rfl, ht, hn, fun H1 s1 => ⟨_, rfl, ?_⟩⟩
    rw [v_simple hl]
    cases e1 : isSimple l with
    | true => exact iteT ⟨_, rfl, t, l, rfl, ht.same s1, hl, e1, fin s1⟩
    | false =>
      refine iteF ⟨_, rfl, t, _, _, rfl, ht.same s1, hn, fun H2 s2 => ⟨_, rfl, ?_⟩⟩
      have s2 := s1.trans s2
      rw [v_marked hl]
      cases e2 : isMarked l with
      | true => exact iteT ⟨_, rfl, t, l, rfl, ht.same s2, hl, e2, fin s2⟩
      | false =>
        refine iteF ⟨_, rfl, t, _, _, rfl, ht.same s2, hn, fun H3 s3 => ⟨_, rfl, ?_⟩⟩
        have s3 := s2.trans s3
        rw [v_framed hl]
        cases e3 : isFramed l with
        | true => exact iteT ⟨_, rfl, t, l, rfl, ht.same s3, hl, e3, fin s3⟩
        | false =>
          refine iteF ⟨_, rfl, t, _, _, rfl, ht.same s3, hn, fun H4 s4 => ⟨_, rfl, ?_⟩⟩
          have s4 := s3.trans s4
          rw [v_sgn hl]
          have e4 : isSigns l = true := by cases l <;> first | rfl | exact absurd e1 Bool.noConfusion | exact absurd e2 Bool.noConfusion | exact absurd e3 Bool.noConfusion
          rw [e4]
          exact iteT ⟨_, rfl, t, l, rfl, ht.same s4, hl, e4, fin s4⟩
end
end Fl
namespace Fl
open PySem L2 Fm
abbrev Wt := Addr × List Addr × WS
def fo (wl : List Wt) : List Addr := wl.flatMap (·.2.1)
def refsW (wl : List Wt) : List V := wl.map fun x => .ref x.1
def wsOf (wl : List Wt) : List WS := wl.map (·.2.2)
structure WOs (A : Adr) (H : Hp) (wl : List Wt) : Prop where
  each : ∀ x ∈ wl, WO A H x.1 x.2.1 x.2.2 ∧ WOk x.2.2
  apart : wl.Pairwise fun x y => ∀ b ∈ x.2.1, b ∉ y.2.1
theorem mem_fo {wl : List Wt} {b : Addr} : b ∈ fo wl ↔ ∃ x ∈ wl, b ∈ x.2.1 := List.mem_flatMap
theorem fo_append (a b : List Wt) : fo (a ++ b) = fo a ++ fo b := List.flatMap_append ..
theorem fo_cons (x : Wt) (b : List Wt) : fo (x :: b) = x.2.1 ++ fo b := List.flatMap_cons ..
section
variable {A : Adr} {H H' : Hp} {wl dn rs : List Wt} {x : Wt}
theorem WOs.keep (h : WOs A H wl) (k : ∀ b o, H b = some o → (b ∈ fo wl ∨ Imm o) → H' b = some o) : WOs A H' wl :=
  ⟨fun x m => ⟨(h.each x m).1.keep fun b o q z => k b o q (z.imp (fun y => mem_fo.mpr ⟨x, m, y⟩) id), (h.each x m).2⟩, h.apart⟩
theorem WOs.mu (h : WOs A H wl) : ∀ b ∈ fo wl, ∃ o, H b = some o ∧ ¬ Imm o := fun b m =>
  let ⟨x, mx, mb⟩ := mem_fo.mp m
  (h.each x mx).1.mu b mb
theorem WOs.same (h : WOs A H wl) (e : Same H H') : WOs A H' wl := h.keep fun b o q _ => e b o q
theorem WOs.updL {t : Addr} {ys : List V} {o : HO} (h : WOs A H wl) (ht : H t = some (.lst ys)) (n : t ∉ fo wl) : WOs A (L2.upd H t o) wl :=
  h.keep fun b u q z => by
    rw [upd_ne fun e => ?_]
    · exact q
    · subst e
      rcases z with z | z
      · exact n z
      · rw [ht] at q; cases q; exact z
theorem WOs.alloc {t : Addr} (h : WOs A H wl) (ht : H t = none) : t ∉ fo wl := fun m => by
  obtain ⟨o, q, _⟩ := h.mu t m
  rw [ht] at q; cases q
theorem WOs.move {F3 : List Addr} {s3 : WS} (h : WOs A H (dn ++ x :: rs)) (mv : Mv x.2.1 F3 H H') (wo : WO A H' x.1 F3 s3) (ok : WOk s3) :
    WOs A H' (dn ++ (x.1, F3, s3) :: rs) ∧ Mv (fo (dn ++ x :: rs)) (fo (dn ++ (x.1, F3, s3) :: rs)) H H' := by
  have hx := h.each x (by simp)
  obtain ⟨ap1, ap2, ap3⟩ := List.pairwise_append.mp h.apart
  obtain ⟨ap4, ap5⟩ := List.pairwise_cons.mp ap2
  have oth : ∀ y, y ∈ dn ∨ y ∈ rs → WO A H' y.1 y.2.1 y.2.2 ∧ WOk y.2.2 := fun y my => by
    have hy := h.each y (by rcases my with m | m <;> simp [m])
    refine ⟨hy.1.keep fun b o q z => mv.fr b o q fun m => ?_, hy.2⟩
    rcases z with z | z
    · rcases my with my | my
      · exact ap3 y my x (by simp) b z m
      · exact ap4 y my b m z
    · obtain ⟨o', q', z'⟩ := hx.1.mu b m
      rw [q] at q'; cases q'; exact z' z
  have new : ∀ b ∈ F3, ∀ y, y ∈ dn ∨ y ∈ rs → b ∉ y.2.1 := fun b mb y my m => by
    rcases mv.nw b mb with z | z
    · rcases my with my | my
      · exact ap3 y my x (by simp) b m z
      · exact ap4 y my b z m
    · obtain ⟨o', q', _⟩ := (h.each y (by rcases my with m | m <;> simp [m])).1.mu b m
      rw [z] at q'; cases q'
  refine ⟨⟨fun y my => ?_, ?_⟩, ?_⟩
  · rcases List.mem_append.mp my with m | m
    · exact oth y (.inl m)
    · rcases List.mem_cons.mp m with rfl | m
      · exact ⟨wo, ok⟩
      · exact oth y (.inr m)
  · refine List.pairwise_append.mpr ⟨ap1, List.pairwise_cons.mpr ⟨fun y my b mb => new b mb y (.inr my), ap5⟩, fun y my z mz b mb m => ?_⟩
    rcases List.mem_cons.mp mz with rfl | mz
    · exact new b m y (.inl my) mb
    · exact ap3 y my z (by simp [mz]) b mb m
  · refine (mv.wide fun b m => by simp [fo_append, fo_cons, m]).own fun b m => ?_
    simp only [fo_append, fo_cons, List.mem_append] at m ⊢
    rcases m with m | m | m
    · exact .inr (.inl (.inl m))
    · exact .inl m
    · exact .inr (.inl (.inr (.inr m)))
theorem WOs.tail (h : WOs A H (x :: rs)) : WOs A H rs := ⟨fun y m => h.each y (by simp [m]), (List.pairwise_cons.mp h.apart).2⟩
theorem WOs.drop {F3 : List Addr} (h : WOs A H (x :: rs)) (mv : Mv x.2.1 F3 H H') : WOs A H' rs ∧ Mv (fo (x :: rs)) (fo rs) H H' := by
  have hx := h.each x (by simp)
  have ap4 := (List.pairwise_cons.mp h.apart).1
  refine ⟨h.tail.keep fun b o q z => mv.fr b o q fun m => ?_, (mv.wide fun b m => by simp [fo_cons, m]).own fun b m => .inr (.inl (by simp [fo_cons, m]))⟩
  rcases z with z | z
  · obtain ⟨y, my, z⟩ := mem_fo.mp z
    exact ap4 y my b m z
  · obtain ⟨o', q', z'⟩ := hx.1.mu b m
    rw [q] at q'; cases q'; exact z' z
end
theorem pend_le {s : WS} (h : WOk s) : pend s ≤ 510 := by
  cases s <;> simp only [pend] <;> try omega
  · split <;> omega
  · have := h.1; have := h.2.1; omega
def WrO (A : Adr) (H : Hp) (p : Addr) (F : List Addr) (ss : List WS) : Prop := ∃ dx l wl, H p = some (.ins A.Writer dx [("writers", .ref l)]) ∧ H l = some (.lst (refsW wl)) ∧ F = p :: l :: fo wl ∧ p ∉ fo wl ∧ l ∉ fo wl ∧ WOs A H wl ∧ wsOf wl = ss
theorem WrO.keep {A : Adr} {H H' : Hp} {p : Addr} {F : List Addr} {ss : List WS} (h : WrO A H p F ss) (k : ∀ b o, H b = some o → (b ∈ F ∨ Imm o) → H' b = some o) : WrO A H' p F ss := by
  obtain ⟨dx, l, wl, h1, h2, rfl, h3, h4, h5, h6⟩ := h
  exact ⟨dx, l, wl, k _ _ h1 (.inl (by simp)), k _ _ h2 (.inl (by simp)), rfl, h3, h4, h5.keep fun b o q z => k b o q (z.imp (fun m => by simp [m]) id), h6⟩
theorem WrO.mu {A : Adr} {H : Hp} {p : Addr} {F : List Addr} {ss : List WS} (h : WrO A H p F ss) : ∀ b ∈ F, ∃ o, H b = some o ∧ ¬ Imm o := by
  obtain ⟨dx, l, wl, h1, h2, rfl, h3, h4, h5, h6⟩ := h
  intro b m
  rcases List.mem_cons.mp m with rfl | m
  · exact ⟨_, h1, id⟩
  · rcases List.mem_cons.mp m with rfl | m
    · exact ⟨_, h2, id⟩
    · exact h5.mu b m
def LysAt (H : Hp) (a : Addr) (tl : List (Addr × Ly)) : Prop := H a = some (.lst (tl.map fun x => V.ref x.1)) ∧ ∀ x ∈ tl, LyAt H x.1 x.2
theorem LysAt.same {H H' : Hp} {a : Addr} {tl : List (Addr × Ly)} (h : LysAt H a tl) (e : Same H H') : LysAt H' a tl := ⟨e _ _ h.1, fun x m => e _ _ (h.2 x m)⟩
def lysOf (tl : List (Addr × Ly)) : List Ly := tl.map (·.2)
section
variable {P : Program} {w : World} {K : PySem.W.Frag} {mg : Str → Option Value} {base : Heap} {A : Adr}
def spRefuse : Sp := fun vs H Q _ => ∃ (a : Addr) (xs : List V), vs = [.ref a] ∧ H a = some (.lst xs) ∧ xs.length ≤ 8 ∧ Q .non H
theorem ok_refuse (T : Tx K mg A) : Callee P w K mg base 1 "refuse_too_many" ["layers"] spRefuse := by
  have sc : FnScope ["layers"] ["layers"] (defScope st_refuse_too_many) := ⟨rfl, rfl, rfl, by decide +kernel, rfl, by decide +kernel, by decide +kernel⟩
  refine T.f_refuse_too_many.ok sc (fun vs H Q E h => ?_) (fun f cdv A' outer s H vs Q E hr h => ?_)
  · obtain ⟨a, xs, rfl, _⟩ := h; rfl
  · obtain ⟨a, xs, rfl, ha, hn, q⟩ := h
    refine ⟨_, (pss_one (ps_if (pt_cmpR (op_gt) (pe_callB call_len_seq rfl T.len bt_len (pa_cons (pv 0) pa_nil)) (pe_const rfl T.MOST_LAYERS) (nomark _))
    (pss_one ps_never)
    pss_nil)), ?_⟩
    refine ⟨_, rfl, a, _, rfl, .inl (SqL.of ha), _, _, rfl, rfl, _, rfl, ?_⟩
    exact ifF (decide_eq_false (by omega)) q
def spWrInit (A : Adr) : Sp := fun vs H Q _ => ∃ (p dx a : Addr) (tl : List (Addr × Ly)), vs = [.ref p, .ref a] ∧ H p = some (.ins A.Writer dx []) ∧ LysAt H a tl ∧ LsOk (lysOf tl) ∧ tl.length ≤ 8 ∧
  ∀ (H' : Hp) (F' : List Addr), Mv [p] F' H H' → WrO A H' p F' ((lysOf tl).map wst) → Q .non H'
theorem ok_WrInit (T : Tx K mg A) : COk P w K mg base 7 "Writer" A.Writer ["self", "layers"] (spWrInit A) := by
  have sc : FnScope ["self", "layers"] ["self", "layers"] (defScope st_Writer___init) := ⟨rfl, rfl, rfl, by decide +kernel, rfl, by decide +kernel, by decide +kernel⟩
  refine T.k_Writer.init.ok sc (fun vs H Q E h => ?_) (fun f cdv A' outer s H vs Q E hr h => ?_)
  · obtain ⟨p, dx, a, tl, rfl, _⟩ := h; rfl
  · obtain ⟨p, dx, a, tl, rfl, hp, ha, hl, hn, k⟩ := h
    have crefuse_too_many := ok_refuse (P := P) (w := w) (base := base) T
    have clayer_writer := ok_layer_writer (P := P) (w := w) (base := base) T
    refine ⟨_, (pss_cons (ps_expr (pe_callC crefuse_too_many (hr.mono (by decide)) rfl (pa_cons (pv 1) pa_nil)))
    (pss_one (ps_fld (pv 0) (pe_comp (N' := ["layer", "self", "layers"]) (fun _ _ h => h) rfl (comp_on (os := defScope st_Writer___init) (N := ["self", "layers"]) rfl rfl ⟨rfl, by decide +kernel, by decide +kernel, by decide +kernel, rfl, by decide +kernel, by decide +kernel, by decide +kernel, by decide +kernel, by decide +kernel⟩) (pi_list (pv 1)) (fun _ _ _ _ _ _ => pts_nil) (fun _ _ _ _ _ _ => (pe_callC clayer_writer (hr.mono (by decide)) rfl (pa_cons (pv 0) pa_nil)))) rfl))), ?_⟩
    refine ⟨_, rfl, a, _, rfl, ha.1, by rw [List.length_map]; exact hn, ?_⟩
    refine ⟨_, rfl, a, rfl, ⟨_, SqL.of ha.1⟩, comp_list (K := K) (a := a) (xs := tl.map fun x => V.ref x.1)
      (fun i ys H2 => ∃ wl, ys = refsW wl ∧ i ≤ tl.length ∧ wl.length = i ∧ wsOf wl = ((lysOf tl).take i).map wst ∧ WOs A H2 wl ∧ Mv [] (fo wl) H H2)
      ⟨[], rfl, Nat.zero_le _, rfl, rfl, ⟨by simp, List.Pairwise.nil⟩, Mv.refl [] H⟩ ?_ ?_ ?_ ?_⟩
    · rintro i ys H2 _ ⟨wl, _, _, _, _, _, mv⟩
      exact SqL.of (ha.same mv.same).1
    · rintro i ys H2 ⟨wl, rfl, hi, hw, _⟩
      rw [refsW, List.length_map, sizeLine_eq]; omega
    · rintro i y ys H2 hy ⟨wl, rfl, hi, hw, hs, wo, mv⟩
      rw [List.getElem?_map] at hy
      cases e : tl[i]? with
      | none => rw [e] at hy; cases hy
      | some x =>
        rw [e] at hy
        cases hy
        have hil : i < tl.length := (List.getElem?_eq_some_iff.mp e).1
        have hxm : x ∈ tl := List.mem_of_getElem? e
        refine ⟨_, rfl, x.1, x.2, rfl, (ha.same mv.same).2 x hxm, hl x.2 (List.mem_map.mpr ⟨x, hxm, rfl⟩), rfl, fun H3 F q m3 w3 => ?_⟩
        have ok3 : WOk (wst x.2) := wOk_start (hl x.2 (List.mem_map.mpr ⟨x, hxm, rfl⟩))
        refine ⟨wl ++ [(q, F, wst x.2)], by simp [refsW], hil, by simp [hw], ?_, ⟨fun z mz => ?_, ?_⟩, ?_⟩
        · have e2 : (lysOf tl)[i]? = some x.2 := by rw [lysOf, List.getElem?_map, e]; rfl
          rw [List.take_add_one, e2, wsOf, List.map_append]
          have hs' : List.map (fun z : Wt => z.2.2) wl = ((lysOf tl).take i).map wst := hs
          rw [hs']; simp
        · rcases List.mem_append.mp mz with m | m
          · exact (wo.same m3.same).each z m
          · simp at m; subst m; exact ⟨w3, ok3⟩
        · refine List.pairwise_append.mpr ⟨wo.apart, List.pairwise_singleton _ _, fun z mz u mu b mb m => ?_⟩
          simp at mu; subst mu
          rcases m3.nw b m with q' | q'
          · simp at q'
          · obtain ⟨o', q2, _⟩ := (wo.each z mz).1.mu b mb
            rw [q'] at q2; cases q2
        · refine (mv.trans (m3.wide (G := fo wl) (by simp))).own fun b m => ?_
          rw [fo_append] at m
          rcases List.mem_append.mp m with m | m
          · exact .inr (mv.nw b m)
          · simp only [fo, List.flatMap_cons, List.flatMap_nil, List.append_nil] at m; exact .inl m
    · rintro ys H2 ⟨wl, rfl, _, hw, hs, wo, mv⟩ l hl0
      rw [List.length_map] at hs hw
      have et : (lysOf tl).take tl.length = lysOf tl := List.take_of_length_le (by simp [lysOf])
      rw [et] at hs
      have hp2 : H2 p = some (.ins A.Writer dx []) := mv.same _ _ hp
      have npl : p ≠ l := ne_of_none hp2 hl0
      have hlH : H l = none := mv.al l hl0
      have fresh : ∀ b ∈ fo wl, H b = none := fun b m => by
        rcases mv.nw b m with z | z
        · simp at z
        · exact z
      have pf : p ∉ fo wl := fun m => by rw [fresh p m] at hp; cases hp
      have lf : l ∉ fo wl := wo.alloc hl0
      refine ⟨_, rfl, p, _, dx, _, rfl, by rw [upd_ne npl]; exact hp2, T.k_Writer.cl, T.k_Writer.n_writers, by decide, ?_⟩
      rw [ps_Writer_writers]
      refine k _ (p :: l :: fo wl) ((((mv.wide (G := [p]) (by simp)).upd (.inr hlH)).upd (.inl (by simp))).own fun b m => ?_) ⟨dx, l, wl, upd_same, by rw [upd_ne npl.symm, upd_same], rfl, pf, lf, ?_, hs⟩
      · rcases List.mem_cons.mp m with rfl | m
        · exact .inr (.inl (by simp))
        · rcases List.mem_cons.mp m with rfl | m
          · exact .inr (.inr hlH)
          · exact .inl m
      · refine (wo.same (H' := L2.upd H2 l (.lst (refsW wl))) (Same.upd (Same.refl H2) hl0)).keep fun b o q z => ?_
        rw [upd_ne fun e => ?_]
        · exact q
        · subst e
          rcases z with z | z
          · exact pf z
          · rw [upd_ne npl, hp2] at q; cases q; exact z
end
end Fl
namespace Fl
open PySem L2 Fm
theorem take_head {dn rs : List Wt} {y : V} {i : Nat} (hd : dn.length = i) (h : (refsW (dn ++ rs))[i]? = some y) : ∃ x rs2, rs = x :: rs2 ∧ y = .ref x.1 := by
  subst hd
  rw [refsW, List.map_append, List.getElem?_append_right (by simp)] at h
  rw [List.length_map, Nat.sub_self] at h
  match rs, h with
  | x :: rs2, h => exact ⟨x, rs2, rfl, (Option.some.inj h).symm⟩
section
variable {P : Program} {w : World} {K : PySem.W.Frag} {mg : Str → Option Value} {base : Heap} {A : Adr}
def spWrTake (A : Adr) : Sp := fun vs H Q _ => ∃ (p r : Addr) (F : List Addr) (ss ss' : List WS) (xs o : List Int), vs = [.ref p, .ref r] ∧ WrO A H p F ss ∧ H r = some (.lst (intsV xs)) ∧ AllB xs ∧ wtake ss xs = some (ss', o) ∧
  3 ^ ss.length * (xs.length + 255) ≤ sizeLine ∧
  ∀ (H' : Hp) (F' : List Addr) (q : Addr), Mv F F' H H' → WrO A H' p F' ss' → H q = none → q ∉ F' → H' q = some (.lst (intsV o)) → Q (.ref q) H'
theorem ok_WrTake (T : Tx K mg A) : MOk P w K mg base 4 A.Writer "take" ["self", "row"] (spWrTake A) := by
  have sc : FnScope ["self", "row", "told", "writer"] ["self", "row"] (defScope st_Writer_take) := ⟨rfl, rfl, rfl, by decide +kernel, rfl, by decide +kernel, by decide +kernel⟩
  refine T.k_Writer.m_take.ok sc (fun vs H Q E h => ?_) (fun f cdv A' outer s H vs Q E hr h => ?_)
  · obtain ⟨p, r, F, ss, ss', xs, o, rfl, _⟩ := h; rfl
  · obtain ⟨p, r, F, ss, ss', xs, o, rfl, hW, hr0, hx, hwt, hsz, k⟩ := h
    obtain ⟨dx, l, wl, h1, h2, rfl, pf, lf, wo, rfl⟩ := hW
    have h_take := hWT (P := P) (w := w) (base := base) T
    refine ⟨_, (pss_cons (ps_set (i := 2) sc.nd rfl (Or.inl rfl) (pe_callTy call_list_of rfl T.list bt_list (pa_cons (pv 1) pa_nil)))
    (pss_cons (ps_for PassesOwn.never rfl (pi_list (pe_fld (pv 0) rfl)) (pg_name (i := 3) sc.nd rfl (Or.inl rfl))
    (pss_one (ps_set (i := 2) sc.nd rfl (Or.inl rfl) (pe_methF h_take (hr.mono (by decide)) (pv 3) (pa_cons (pv 2) pa_nil)))))
    (pss_one (ps_ret (pv 2))))), ?_⟩
    refine ⟨_, rfl, r, _, rfl, .inl (SqL.of hr0), fun t ht => ?_⟩
    have npt : p ≠ t := ne_of_none h1 ht
    have nlt : l ≠ t := ne_of_none h2 ht
    have tf : t ∉ fo wl := wo.alloc ht
    have h1t : (L2.upd H t (.lst (intsV xs))) p = some (.ins A.Writer dx [("writers", .ref l)]) := by rw [upd_ne npt]; exact h1
    have h2t : (L2.upd H t (.lst (intsV xs))) l = some (.lst (refsW wl)) := by rw [upd_ne nlt]; exact h2
    refine ⟨_, rfl, p, _, dx, _, _, rfl, h1t, T.k_Writer.cl, T.k_Writer.n_writers, lk_Writer_writers, l, rfl, ⟨_, SqL.of h2t⟩, for_list (K := K) (a := l) (xs := refsW wl)
      (fun i σ H2 => ∃ (v : Option V) (ta : Addr) (tc : List Int) (dn rs : List Wt) (rs' : List WS), σ = [some (.ref p), some (.ref r), some (.ref ta), v] ∧ dn.length = i ∧ refsW (dn ++ rs) = refsW wl ∧ WOs A H2 (dn ++ rs) ∧ Mv (fo wl) (fo (dn ++ rs)) H H2 ∧
        H2 ta = some (.lst (intsV tc)) ∧ H ta = none ∧ ta ∉ fo (dn ++ rs) ∧ AllB tc ∧ 3 ^ rs.length * (tc.length + 255) ≤ sizeLine ∧ wtake (wsOf rs) tc = some (rs', o) ∧ ss' = wsOf dn ++ rs')
      ⟨none, t, xs, [], wl, ss', rfl, rfl, rfl, wo.same (Same.upd (Same.refl H) ht), (Mv.refl (fo wl) H).upd (.inr ht), upd_same, ht, tf, hx, by rw [wsOf, List.length_map] at hsz; exact hsz, hwt, rfl⟩ ?_ ?_ ?_⟩
    · rintro i σ H2 _ ⟨v, ta, tc, dn, rs, rs', rfl, _, _, _, mv, _⟩
      exact SqL.of (mv.fr l _ h2 lf)
    · rintro i y σ H2 hy ⟨v, ta, tc, dn, rs, rs', rfl, hdn, hrf, wo2, mv, hta, hta0, taf, htc, hsz2, hwt2, hss⟩
      rw [← hrf] at hy
      obtain ⟨x, rs2, rfl, rfl⟩ := take_head hdn hy
      obtain ⟨wx, okx⟩ := wo2.each x (by simp)
      obtain ⟨s1, o1, hrun, ok1, ho1, hl1⟩ := wS_run okx htc
      have hp5 := pend_le okx
      simp only [List.length_cons, Nat.pow_succ] at hsz2
      have hsz3 : 3 ^ rs2.length * (o1.length + 255) ≤ sizeLine := by
        refine Nat.le_trans (Nat.mul_le_mul_left _ (show o1.length + 255 ≤ 3 * (tc.length + 255) by omega)) ?_
        rw [← Nat.mul_assoc]; exact hsz2
      have hol : o1.length ≤ sizeLine := by
        have : 1 ≤ 3 ^ rs2.length := Nat.pow_pos (by decide)
        have h2 := Nat.mul_le_mul_right (o1.length + 255) this
        omega
      have hwt3 : ∃ rs2', wtake (wsOf rs2) o1 = some (rs2', o) ∧ rs' = s1 :: rs2' := by
        have e : wsOf (x :: rs2) = x.2.2 :: wsOf rs2 := rfl
        rw [e, wtake, hrun] at hwt2
        simp only [Option.bind_some] at hwt2
        cases e2 : wtake (wsOf rs2) o1 with
        | none => rw [e2] at hwt2; cases hwt2
        | some z => rw [e2] at hwt2; cases hwt2; exact ⟨z.1, rfl, rfl⟩
      obtain ⟨rs2', hwt4, rfl⟩ := hwt3
      obtain ⟨dx', fs, hp', _, nm, _⟩ := wx.ins
      have tax : ta ∉ x.2.1 := fun m => taf (by simp [fo_append, fo_cons, m])
      refine ⟨_, rfl, kd x.2.2, x.1, dx', fs, rfl, hp', nm, _, rfl, x.1, ta, x.2.1, x.2.2, tc, s1, o1, rfl, rfl, wx, okx, hta, tax, htc, hrun, hol, fun H3 F3 q mv3 wo3 hq nq hq3 => ?_⟩
      obtain ⟨wo4, mv4⟩ := wo2.move mv3 wo3 ok1
      have e1 : dn ++ (x.1, F3, s1) :: rs2 = (dn ++ [(x.1, F3, s1)]) ++ rs2 := by simp
      refine ⟨_, q, o1, dn ++ [(x.1, F3, s1)], rs2, rs2', rfl, by simp [hdn], ?_, e1 ▸ wo4, e1 ▸ (mv.trans mv4), hq3, mv.al q hq, ?_, ho1, hsz3, hwt4, ?_⟩
      · rw [← e1, ← hrf]; simp [refsW]
      · rw [← e1]
        intro m
        simp only [fo_append, fo_cons, List.mem_append] at m
        rcases m with m | m | m
        · exact wo2.alloc hq (by simp [fo_append, m])
        · exact nq m
        · exact wo2.alloc hq (by simp [fo_append, fo_cons, m])
      · rw [hss]; simp [wsOf]
    · rintro σ H2 ⟨v, ta, tc, dn, rs, rs', rfl, hdn, hrf, wo2, mv, hta, hta0, taf, htc, hsz2, hwt2, hss⟩
      have hrs : rs = [] := by
        have := congrArg List.length hrf
        simp only [refsW, List.length_map, List.length_append] at this hdn
        exact List.length_eq_zero_iff.mp (by omega)
      subst hrs
      rw [List.append_nil] at hrf wo2 mv taf
      have e : wtake (wsOf []) tc = some ([], tc) := rfl
      rw [e] at hwt2
      cases hwt2
      rw [List.append_nil] at hss
      refine ⟨_, rfl, k H2 (p :: l :: fo dn) ta ((mv.wide (G := p :: l :: fo wl) fun b m => by simp [m]).own fun b m => ?_) ⟨dx, l, dn, mv.fr p _ h1 pf, by rw [hrf]; exact mv.fr l _ h2 lf, rfl, ?_, ?_, wo2, hss.symm⟩ hta0 ?_ hta⟩
      · rcases List.mem_cons.mp m with rfl | m
        · exact .inr (.inl (by simp))
        · rcases List.mem_cons.mp m with rfl | m
          · exact .inr (.inl (by simp))
          · exact .inl m
      · intro m
        rcases mv.nw p m with z | z
        · exact pf z
        · rw [h1] at z; cases z
      · intro m
        rcases mv.nw l m with z | z
        · exact lf z
        · rw [h2] at z; cases z
      · intro m
        rcases List.mem_cons.mp m with rfl | m
        · rw [h1] at hta0; cases hta0
        · rcases List.mem_cons.mp m with rfl | m
          · rw [h2] at hta0; cases hta0
          · exact taf m
def spWrEnd (A : Adr) : Sp := fun vs H Q _ => ∃ (p : Addr) (F : List Addr) (ss : List WS) (o : List Int), vs = [.ref p] ∧ WrO A H p F ss ∧ wend ss [] = some o ∧ 3 ^ ss.length * 256 ≤ sizeLine ∧
  ∀ (H' : Hp) (q : Addr), Mv F [] H H' → H q = none → H' q = some (.lst (intsV o)) → Q (.ref q) H'
theorem ok_WrEnd (T : Tx K mg A) : MOk P w K mg base 4 A.Writer "end" ["self"] (spWrEnd A) := by
  have sc : FnScope ["self", "told", "writer"] ["self"] (defScope st_Writer_end) := ⟨rfl, rfl, rfl, by decide +kernel, rfl, by decide +kernel, by decide +kernel⟩
  refine T.k_Writer.m_end.ok sc (fun vs H Q E h => ?_) (fun f cdv A' outer s H vs Q E hr h => ?_)
  · obtain ⟨p, F, ss, o, rfl, _⟩ := h; rfl
  · obtain ⟨p, F, ss, o, rfl, hW, hwe, hsz, k⟩ := h
    obtain ⟨dx, l, wl, h1, h2, rfl, pf, lf, wo, rfl⟩ := hW
    have h_take := hWT (P := P) (w := w) (base := base) T
    have h_end := hWE (P := P) (w := w) (base := base) T
    refine ⟨_, (pss_cons (ps_set (i := 1) sc.nd rfl (Or.inl rfl) (pe_lst pa_nil))
    (pss_cons (ps_for PassesOwn.never rfl (pi_list (pe_fld (pv 0) rfl)) (pg_name (i := 2) sc.nd rfl (Or.inl rfl))
    (pss_one (ps_set (i := 1) sc.nd rfl (Or.inl rfl) (pe_op op_cat (pe_methF h_take (hr.mono (by decide)) (pv 2) (pa_cons (pv 1) pa_nil)) (pe_methF0 h_end (hr.mono (by decide)) (pv 2))))))
    (pss_one (ps_ret (pv 1))))), ?_⟩
    refine ⟨by decide, fun t ht => ?_⟩
    have npt : p ≠ t := ne_of_none h1 ht
    have nlt : l ≠ t := ne_of_none h2 ht
    have tf : t ∉ fo wl := wo.alloc ht
    have h1t : (L2.upd H t (.lst [])) p = some (.ins A.Writer dx [("writers", .ref l)]) := by rw [upd_ne npt]; exact h1
    have h2t : (L2.upd H t (.lst [])) l = some (.lst (refsW wl)) := by rw [upd_ne nlt]; exact h2
    refine ⟨_, rfl, p, _, dx, _, _, rfl, h1t, T.k_Writer.cl, T.k_Writer.n_writers, lk_Writer_writers, l, rfl, ⟨_, SqL.of h2t⟩, for_list (K := K) (a := l) (xs := refsW wl)
      (fun i σ H2 => ∃ (v : Option V) (ta : Addr) (tc : List Int) (rs : List Wt), σ = [some (.ref p), some (.ref ta), v] ∧ refsW rs = (refsW wl).drop i ∧ WOs A H2 rs ∧ Mv (fo wl) (fo rs) H H2 ∧
        H2 ta = some (.lst (intsV tc)) ∧ H ta = none ∧ ta ∉ fo rs ∧ AllB tc ∧ 3 ^ rs.length * (tc.length + 256) ≤ sizeLine ∧ wend (wsOf rs) tc = some o)
      ⟨none, t, [], wl, rfl, rfl, wo.same (Same.upd (Same.refl H) ht), (Mv.refl (fo wl) H).upd (.inr ht), upd_same, ht, tf, AllB.nil, by rw [wsOf, List.length_map] at hsz; simpa using hsz, hwe⟩ ?_ ?_ ?_⟩
    · rintro i σ H2 _ ⟨v, ta, tc, rs, rfl, _, _, mv, _⟩
      exact SqL.of (mv.fr l _ h2 lf)
    · rintro i y σ H2 hy ⟨v, ta, tc, rs, rfl, hrf, wo2, mv, hta, hta0, taf, htc, hsz2, hwe2⟩
      have hy2 : (refsW rs)[0]? = some y := by rw [hrf, List.getElem?_drop]; simpa using hy
      obtain ⟨x, rs2, rfl, rfl⟩ := take_head (dn := []) rfl hy2
      obtain ⟨wx, okx⟩ := wo2.each x (by simp)
      obtain ⟨s1, o1, hrun, ok1, ho1, hl1⟩ := wS_run okx htc
      have hp5 := pend_le okx
      obtain ⟨hl2, hb2⟩ := wF_len ok1
      simp only [List.length_cons, Nat.pow_succ] at hsz2
      have hlo : (o1 ++ wF s1).length + 256 ≤ 3 * (tc.length + 256) := by rw [List.length_append]; omega
      have hsz3 : 3 ^ rs2.length * ((o1 ++ wF s1).length + 256) ≤ sizeLine := by
        refine Nat.le_trans (Nat.mul_le_mul_left _ hlo) ?_
        rw [← Nat.mul_assoc]; exact hsz2
      have hol : (o1 ++ wF s1).length ≤ sizeLine := by
        have : 1 ≤ 3 ^ rs2.length := Nat.pow_pos (by decide)
        have h2 := Nat.mul_le_mul_right ((o1 ++ wF s1).length + 256) this
        omega
      have hwe3 : wend (wsOf rs2) (o1 ++ wF s1) = some o := by
        have e : wsOf (x :: rs2) = x.2.2 :: wsOf rs2 := rfl
        rw [e, wend, hrun] at hwe2
        exact hwe2
      obtain ⟨dx', fs, hp', _, nm, _⟩ := wx.ins
      have tax : ta ∉ x.2.1 := fun m => taf (by simp [fo_cons, m])
      refine ⟨_, rfl, kd x.2.2, x.1, dx', fs, rfl, hp', nm, _, rfl, x.1, ta, x.2.1, x.2.2, tc, s1, o1, rfl, rfl, wx, okx, hta, tax, htc, hrun, by rw [List.length_append] at hol; omega, fun H3 F3 q mv3 wo3 hq nq hq3 => ?_⟩
      obtain ⟨dx3, fs3, hp3, _, _, nm3⟩ := wo3.ins
      refine ⟨_, rfl, kd s1, x.1, dx3, fs3, rfl, hp3, nm3, x.1, F3, s1, rfl, rfl, wo3, ok1, fun H4 F4 q4 mv4 hq4 hq4' => ?_⟩
      have hq34 : H4 q = some (.lst (intsV o1)) := mv4.fr q _ hq3 nq
      refine ⟨q, q4, _, _, rfl, rfl, hq34, hq4', by rw [← List.length_append, ints_app, ints_len]; exact hol, fun z hz => ?_⟩
      obtain ⟨wo5, mv5⟩ := wo2.drop (mv3.trans mv4)
      have hz2 : H2 z = none := mv5.al z hz
      refine ⟨_, z, o1 ++ wF s1, rs2, rfl, ?_, wo5.same (Same.upd (Same.refl H4) hz), (mv.trans mv5).upd (.inr (mv.al z hz2)), by rw [upd_same, ints_app], mv.al z hz2, wo5.alloc hz, AllB.append.mpr ⟨ho1, hb2⟩, hsz3, hwe3⟩
      have e : refsW rs2 = (refsW (x :: rs2)).drop 1 := rfl
      rw [e, hrf, List.drop_drop]
    · rintro σ H2 ⟨v, ta, tc, rs, rfl, hrf, wo2, mv, hta, hta0, taf, htc, hsz2, hwe2⟩
      rw [List.drop_length] at hrf
      have hrs : rs = [] := List.map_eq_nil_iff.mp hrf
      subst hrs
      have e : wend (wsOf []) tc = some tc := rfl
      rw [e] at hwe2
      cases hwe2
      exact ⟨_, rfl, k H2 ta ((mv.wide (G := p :: l :: fo wl) fun b m => by simp [m]).own fun b m => by simp at m) hta0 hta⟩
def spWritten : Sp := fun vs H Q _ => ∃ (a r : Addr) (tl : List (Addr × Ly)) (xs : List Int), vs = [.ref a, .ref r] ∧ LysAt H a tl ∧ LsOk (lysOf tl) ∧ tl.length ≤ 8 ∧ H r = some (.lst (intsV xs)) ∧ AllB xs ∧ 3 ^ tl.length * (xs.length + 511) ≤ sizeLine ∧
  ∀ (H' : Hp) (q : Addr), Mv [] [] H H' → H q = none → H' q = some (.lst (intsV (wrt (lysOf tl) xs))) → Q (.ref q) H'
theorem wtake_len : ∀ {ss ss' : List WS} {xs o : List Int}, (∀ s ∈ ss, WOk s) → AllB xs → wtake ss xs = some (ss', o) → ss'.length = ss.length ∧ o.length + 255 ≤ 3 ^ ss.length * (xs.length + 255) ∧ (∀ s ∈ ss', WOk s)
  | [], ss', xs, o, _, _, h => by
    have e : wtake [] xs = some ([], xs) := rfl
    rw [e] at h; cases h; simp
  | s :: ss, ss', xs, o, ok, hx, h => by
    obtain ⟨s1, o1, hrun, ok1, ho1, hl1⟩ := wS_run (ok s (by simp)) hx
    have hp5 := pend_le (ok s (by simp))
    rw [wtake, hrun] at h
    simp only [Option.bind_some] at h
    cases e2 : wtake ss o1 with
    | none => rw [e2] at h; cases h
    | some z =>
      obtain ⟨a1, a2, a3⟩ := wtake_len (ss' := z.1) (o := z.2) (fun s' m => ok s' (by simp [m])) ho1 e2
      rw [e2] at h; cases h
      refine ⟨by simp [a1], ?_, fun s' m => ?_⟩
      · refine Nat.le_trans a2 ?_
        rw [List.length_cons, Nat.pow_succ, Nat.mul_assoc]
        exact Nat.mul_le_mul_left _ (by omega)
      · rcases List.mem_cons.mp m with rfl | m
        · exact ok1
        · exact a3 s' m
theorem wend_len : ∀ {ss : List WS} {xs o : List Int}, (∀ s ∈ ss, WOk s) → AllB xs → wend ss xs = some o → o.length + 256 ≤ 3 ^ ss.length * (xs.length + 256)
  | [], xs, o, _, _, h => by
    have e : wend [] xs = some xs := rfl
    rw [e] at h; cases h; simp
  | s :: ss, xs, o, ok, hx, h => by
    obtain ⟨s1, o1, hrun, ok1, ho1, hl1⟩ := wS_run (ok s (by simp)) hx
    have hp5 := pend_le (ok s (by simp))
    obtain ⟨hl2, hb2⟩ := wF_len ok1
    rw [wend, hrun] at h
    have a2 := wend_len (ss := ss) (xs := o1 ++ wF s1) (fun s' m => ok s' (by simp [m])) (AllB.append.mpr ⟨ho1, hb2⟩) h
    refine Nat.le_trans a2 ?_
    rw [List.length_cons, Nat.pow_succ, Nat.mul_assoc]
    exact Nat.mul_le_mul_left _ (by rw [List.length_append]; omega)
theorem ok_written (T : Tx K mg A) : Callee P w K mg base 9 "written" ["layers", "row"] spWritten := by
  have sc : FnScope ["layers", "row", "writer", "stream"] ["layers", "row"] (defScope st_written) := ⟨rfl, rfl, rfl, by decide +kernel, rfl, by decide +kernel, by decide +kernel⟩
  refine T.f_written.ok sc (fun vs H Q E h => ?_) (fun f cdv A' outer s H vs Q E hr h => ?_)
  · obtain ⟨a, r, tl, xs, rfl, _⟩ := h; rfl
  · obtain ⟨a, r, tl, xs, rfl, ha, hl, hn, hr0, hx, hsz, k⟩ := h
    have mWriter := ok_WrInit (P := P) (w := w) (base := base) T
    have h_take := ok_WrTake (P := P) (w := w) (base := base) T
    have h_end := ok_WrEnd (P := P) (w := w) (base := base) T
    have ok0 : ∀ s ∈ (lysOf tl).map wst, WOk s := fun s m => by
      obtain ⟨l, ml, rfl⟩ := List.mem_map.mp m
      exact wOk_start (hl l ml)
    obtain ⟨ss', t1, e1, wat⟩ := (WAt.start (lysOf tl)).take (more := xs) hl (by simpa using hx)
    obtain ⟨t2, e2, e3⟩ := wat.fin (carry := []) hl (by simpa using hx)
    simp only [List.nil_append, List.append_nil] at e3
    obtain ⟨n1, n2, n3⟩ := wtake_len ok0 hx e1
    have n4 := wend_len n3 AllB.nil e2
    have nn : ((lysOf tl).map wst).length = tl.length := by simp [lysOf]
    rw [nn] at n1 n2
    rw [n1] at n4
    have hs1 : 3 ^ tl.length * (xs.length + 255) ≤ sizeLine := Nat.le_trans (Nat.mul_le_mul_left _ (by omega)) hsz
    have hs2 : 3 ^ tl.length * 256 ≤ sizeLine := Nat.le_trans (Nat.mul_le_mul_left _ (by omega)) hsz
    have hs3 : t1.length + t2.length ≤ sizeLine := by
      simp only [List.length_nil, Nat.zero_add] at n4
      have : 3 ^ tl.length * (xs.length + 511) = 3 ^ tl.length * (xs.length + 255) + 3 ^ tl.length * 256 := by rw [← Nat.mul_add]
      omega
    refine ⟨_, (pss_cons (ps_set (i := 2) sc.nd rfl (Or.inl rfl) (pe_makeC mWriter (hr.mono (by decide)) rfl (pa_cons (pv 0) pa_nil)))
    (pss_cons (ps_set (i := 3) sc.nd rfl (Or.inl rfl) (pe_methC h_take (hr.mono (by decide)) (pv 2) (pa_cons (pv 1) pa_nil)))
    (pss_one (ps_ret (pe_op op_cat (pv 3) (pe_methC0 h_end (hr.mono (by decide)) (pv 2))))))), ?_⟩
    refine ⟨_, rfl, fun x dx nx ndx ne => ?_⟩
    have s0 : Same H (L2.upd (L2.upd H dx (.own x)) x (.ins A.Writer dx [])) := (Mv.make (F := []) nx ndx).same
    refine ⟨x, dx, a, tl, rfl, upd_same, ha.same s0, hl, hn, fun H1 F1 mv1 w1 => ⟨rfl, ?_⟩⟩
    have m1 : Mv [] F1 H H1 := mv_made (Mv.refl [] H) nx ndx mv1
    obtain ⟨dx1, l1, wl1, hp1, _⟩ := id w1
    refine ⟨_, rfl, x, dx1, _, rfl, hp1, nm_Writer_take, _, rfl, x, r, F1, _, ss', xs, t1, rfl, w1, m1.same _ _ hr0, hx, e1, by rw [nn]; exact hs1, fun H2 F2 q mv2 w2 hq nq hq2 => ?_⟩
    obtain ⟨dx2, l2, wl2, hp2, _⟩ := id w2
    refine ⟨_, rfl, _, rfl, x, dx2, _, rfl, hp2, nm_Writer_end, x, F2, ss', t2, rfl, w2, e2, by rw [n1]; exact hs2, fun H3 q3 mv3 hq3 hq3' => ?_⟩
    have hq23 : H3 q = some (.lst (intsV t1)) := mv3.fr q _ hq2 nq
    refine ⟨q, q3, _, _, rfl, rfl, hq23, hq3', by rw [ints_len, ints_len]; exact hs3, fun z hz => ?_⟩
    have m3 : Mv [] [] H H3 := (m1.trans mv2).trans mv3
    refine k _ z (m3.upd (.inr (m3.al z hz))) (m3.al z hz) ?_
    rw [upd_same, ints_app, e3]
end
end Fl
namespace Fl
open PySem L2 Fm
theorem hu16_of {A : Around} {k : Nat} (hr : Room k A) : A.units + 16 < cLine := Nat.lt_of_le_of_lt (Nat.add_le_add_left (by decide : 16 ≤ 64) _) hr.units
theorem atI_mod {α : Type} {xs : List α} {i : Int} (h0 : 0 ≤ i) (h1 : i < xs.length) : ∃ v, v ∈ xs ∧ atI xs i = some v := by
  obtain ⟨n, rfl⟩ : ∃ n : Nat, i = (n : Int) := ⟨i.toNat, by omega⟩
  have hn : n < xs.length := by omega
  exact ⟨xs[n], List.getElem_mem hn, atI_nat (List.getElem?_eq_getElem hn)⟩
section
variable {P : Program} {w : World} {K : PySem.W.Frag} {mg : Str → Option Value} {base : Heap} {A : Adr}
def spCell (K : PySem.W.Frag) : Sp := fun vs H Q _ => ∃ (a : Addr) (ns : List Int) (k : Int), vs = [.ref a, .int k] ∧ SqL K H a (intsV ns) ∧ ∀ i, Q (.int i) H
def spMix (K : PySem.W.Frag) : Sp := fun vs H Q _ => ∃ (a : Addr) (ns : List Int) (k : Int), vs = [.ref a, .int k] ∧ SqL K H a (intsV ns) ∧ ∀ m, 0 ≤ m → m < 4294967231 → Q (.int m) H
theorem ok_cell (T : Tx K mg A) : Callee P w K mg base 1 "_law_cell" ["_law_script", "_law_k"] (spCell K) := by
  have sc : FnScope ["_law_script", "_law_k"] ["_law_script", "_law_k"] (defScope st_law_cell) := ⟨rfl, rfl, rfl, by decide +kernel, rfl, by decide +kernel, by decide +kernel⟩
  refine T.f_law_cell.ok sc (fun vs H Q E h => ?_) (fun f cdv A' outer s H vs Q E hr h => ?_)
  · obtain ⟨a, ns, k, rfl, _⟩ := h; rfl
  · obtain ⟨a, ns, k, rfl, hS, q⟩ := h
    refine ⟨_, (pss_cons (ps_if (pt_truth (pv 0) (fun _ => rfl))
    (pss_one (ps_ret (pe_ix ix_list (pv 0) (pe_op op_mod (pv 1) (pe_callB call_len_seq rfl T.len bt_len (pa_cons (pv 0) pa_nil))) (fun _ _ => rfl))))
    pss_nil)
    (pss_one (ps_ret pe_int))), ?_⟩
    refine ⟨_, rfl, !(intsV ns).isEmpty, .inl ⟨_, hS, rfl⟩, ?_⟩
    cases ns with
    | nil => exact iteF (q _)
    | cons n r =>
      refine iteT ?_
      have hp : (0 : Int) < ((intsV (n :: r)).length : Int) := by rw [ints_len, List.length_cons]; omega
      obtain ⟨v, hv, e⟩ := atI_mod (xs := intsV (n :: r)) (i := k % ((intsV (n :: r)).length : Int)) (Int.emod_nonneg _ (by omega)) (Int.emod_lt_of_pos _ hp)
      obtain ⟨i, _, rfl⟩ := List.mem_map.mp hv
      exact ⟨_, rfl, _, rfl, _, rfl, a, _, rfl, .inl hS, k, _, rfl, rfl, hp, a, _, _, V.int i, rfl, rfl, hS, e, q i⟩
theorem ok_mix (T : Tx K mg A) : Callee P w K mg base 2 "_law_mix" ["_law_script", "_law_k"] (spMix K) := by
  have sc : FnScope ["_law_script", "_law_k", "_law_number"] ["_law_script", "_law_k"] (defScope st_law_mix) := ⟨rfl, rfl, rfl, by decide +kernel, rfl, by decide +kernel, by decide +kernel⟩
  refine T.f_law_mix.ok sc (fun vs H Q E h => ?_) (fun f cdv A' outer s H vs Q E hr h => ?_)
  · obtain ⟨a, ns, k, rfl, _⟩ := h; rfl
  · obtain ⟨a, ns, k, rfl, hS, q⟩ := h
    have c_law_cell := ok_cell (P := P) (w := w) (base := base) T
    refine ⟨_, (pss_cons (ps_set (i := 2) sc.nd rfl (Or.inl rfl) (pe_op op_mod (pe_op op_add (pe_callC c_law_cell (hr.mono (by decide)) rfl (pa_cons (pv 0) (pa_cons (pv 1) pa_nil))) (pe_op op_mul pe_int (pe_op op_add (pv 1) pe_int))) pe_int))
    (pss_cons (ps_set (i := 2) sc.nd rfl (Or.inl rfl) (pe_op op_mod (pe_op op_mul (pv 2) pe_int) pe_int))
    (pss_one (ps_ret (pe_op op_mod (pe_op op_add (pe_op op_mul (pe_op op_fdiv (pv 2) pe_int) pe_int) (pv 2)) pe_int))))), ?_⟩
    refine ⟨_, rfl, _, rfl, a, ns, k, rfl, hS, fun i => ⟨_, rfl, _, _, rfl, rfl, _, _, rfl, rfl, .inl ⟨by decide, by decide⟩, _, _, rfl, rfl, _, _, rfl, rfl, (by show (0 : Int) < 4294967291; decide), ?_⟩⟩
    refine ⟨_, rfl, _, _, rfl, rfl, .inl ?_, _, _, rfl, rfl, (by show (0 : Int) < 4294967279; decide), ?_⟩
    · constructor <;> omega
    refine ⟨_, rfl, _, _, rfl, rfl, ⟨by decide, by decide⟩, _, _, rfl, rfl, .inl ?_, _, rfl, _, _, rfl, rfl, _, _, rfl, rfl, (by show (0 : Int) < 4294967231; decide), ?_⟩
    · constructor <;> omega
    exact q _ (by omega) (by omega)
def spLayer (K : PySem.W.Frag) : Sp := fun vs H Q _ => ∃ (a : Addr) (ns : List Int) (k : Int), vs = [.ref a, .int k] ∧ SqL K H a (intsV ns) ∧ ∀ (H' : Hp) (t : Addr) (l : Ly), Same H H' → l.Ok → LyAt H' t l → Q (.ref t) H'
abbrev wordsV : List V := [.str "add", .str "front", .str "escape", .str "runs", .str "chunks", .str "checks", .str "signs", .str "checks"]
theorem ok_layer (T : Tx K mg A) : Callee P w K mg base 3 "_law_layer" ["_law_script", "_law_k"] (spLayer K) := by
  have sc : FnScope ["_law_script", "_law_k", "_law_number", "_law_word"] ["_law_script", "_law_k"] (defScope st_law_layer) := ⟨rfl, rfl, rfl, by decide +kernel, rfl, by decide +kernel, by decide +kernel⟩
  refine T.f_law_layer.ok sc (fun vs H Q E h => ?_) (fun f cdv A' outer s H vs Q E hr h => ?_)
  · obtain ⟨a, ns, k, rfl, _⟩ := h; rfl
  · obtain ⟨a, ns, k, rfl, hS, q⟩ := h
    have c_law_mix := ok_mix (P := P) (w := w) (base := base) T
    refine ⟨_, (pss_cons (ps_set (i := 2) sc.nd rfl (Or.inl rfl) (pe_callC c_law_mix (hr.mono (by decide)) rfl (pa_cons (pv 0) (pa_cons (pv 1) pa_nil))))
    (pss_cons (ps_set (i := 3) sc.nd rfl (Or.inl rfl) (pe_ix ix_list (pe_lst (pa_cons pe_str (pa_cons pe_str (pa_cons pe_str (pa_cons pe_str (pa_cons pe_str (pa_cons pe_str (pa_cons pe_str (pa_cons pe_str pa_nil))))))))) (pe_op op_mod (pv 2) pe_int) (fun _ _ => rfl)))
    (pss_cons (ps_if (pt_cmpR (op_eq) (pv 3) pe_str (nomark _))
    (pss_one (ps_ret (pe_op op_catT (pe_tup (pa_cons (pv 3) pa_nil)) (pe_callTy call_tuple_of rfl T.tuple bt_tuple (pa_cons (pe_comp (N' := ["_law_j", "_law_script", "_law_k", "_law_number", "_law_word"]) (fun _ _ h => h) rfl (comp_on (os := defScope st_law_layer) (N := ["_law_script", "_law_k", "_law_number", "_law_word"]) rfl rfl ⟨rfl, by decide +kernel, by decide +kernel, by decide +kernel, rfl, by decide +kernel, by decide +kernel, by decide +kernel, by decide +kernel, by decide +kernel⟩) (pi_range1 rfl T.range (pa_cons (pe_op op_add pe_int (pe_op op_mod (pe_op op_fdiv (pv 2) pe_int) pe_int)) pa_nil)) (fun _ _ _ _ _ _ => pts_nil) (fun _ _ _ _ _ _ => (pe_op op_mod (pe_op op_fdiv (pe_callC c_law_mix (hr.mono (by decide)) rfl (pa_cons (pv 1) (pa_cons (pe_op op_add (pe_op op_add (pv 2) pe_int) (pv 0)) pa_nil))) pe_int) pe_int))) pa_nil)))))
    pss_nil)
    (pss_cons (ps_if (pt_cmpR (op_eq) (pv 3) pe_str (nomark _))
    (pss_one (ps_ret (pe_tup (pa_cons (pv 3) (pa_cons (pe_ix ix_list (pe_lst (pa_cons pe_int (pa_cons pe_int (pa_cons pe_int (pa_cons pe_int (pa_cons pe_int (pa_cons (pe_op op_mod (pe_op op_fdiv (pv 2) pe_int) pe_int) pa_nil))))))) (pe_op op_mod (pe_op op_fdiv (pv 2) pe_int) pe_int) (fun _ _ => rfl)) pa_nil)))))
    pss_nil)
    (pss_cons (ps_if (pt_cmpR (op_in_seq) (pv 3) (pe_tup (pa_cons pe_str (pa_cons pe_str pa_nil))) (by with_unfolding_all rfl))
    (pss_one (ps_ret (pe_tup (pa_cons (pv 3) (pa_cons (pe_ix ix_list (pe_lst (pa_cons pe_int (pa_cons pe_int (pa_cons pe_int (pa_cons pe_int (pa_cons pe_int (pa_cons (pe_op op_add pe_int (pe_op op_mod (pe_op op_fdiv (pv 2) pe_int) pe_int)) pa_nil))))))) (pe_op op_mod (pe_op op_fdiv (pv 2) pe_int) pe_int) (fun _ _ => rfl)) pa_nil)))))
    pss_nil)
    (pss_one (ps_ret (pe_tup (pa_cons (pv 3) pa_nil))))))))), ?_⟩
    refine ⟨_, rfl, _, rfl, a, ns, k, rfl, hS, fun m hm0 hm1 => ?_⟩
    refine ⟨by show 8 ≤ sizeLine; decide, fun ww hww => ?_⟩
    have s1 : Same H (L2.upd H ww (.lst wordsV)) := Same.upd (Same.refl H) hww
    have fin1 : ∀ (x : Str), V.str x ∈ wordsV → ∀ (l : Ly), lword l = x → lnums l = [] → l.Ok → ∀ (H1 : Hp), Same (L2.upd H ww (.lst wordsV)) H1 → (1 ≤ sizeLine ∧ ∀ t, H1 t = none → Q (.ref t) (L2.upd H1 t (.tup [.str x]))) := by
      intro x _ l e1 e2 ok H1 s2
      refine ⟨by decide, fun t ht => q _ t l ((s1.trans s2).upd ht) ok ?_⟩
      unfold LyAt LyT
      rw [upd_same, e1, e2]; rfl
    have hix : ∃ j : Nat, j < 8 ∧ m % 8 = (j : Int) := ⟨(m % 8).toNat, by omega, by omega⟩
    obtain ⟨j, hj, ej⟩ := hix
    have m6 : 0 ≤ m / 2048 % 6 ∧ m / 2048 % 6 < 6 := by omega
    have one : ∀ (x : Str) (six : List Int), six.length = 6 → (∀ n ∈ six, ∃ l : Ly, l.Ok ∧ lword l = x ∧ lnums l = [n]) → ∀ (H1 : Hp), Same H H1 → ∀ (u : Addr), H1 u = none →
        ∃ p_1 xs i v, V.ref u = .ref p_1 ∧ V.int (m / 2048 % 6) = .int i ∧ SqL K (L2.upd H1 u (.lst (intsV six))) p_1 xs ∧ atI xs i = some v ∧
          (2 ≤ sizeLine ∧ ∀ t, (L2.upd H1 u (.lst (intsV six))) t = none → Q (.ref t) (L2.upd (L2.upd H1 u (.lst (intsV six))) t (.tup [.str x, v]))) := by
      intro x six h6 hall H1 s2 u hu
      obtain ⟨v, hv, e⟩ := atI_mod (xs := intsV six) (i := m / 2048 % 6) m6.1 (by rw [ints_len, h6]; exact m6.2)
      obtain ⟨n, hn, rfl⟩ := List.mem_map.mp hv
      obtain ⟨l, ok, e1, e2⟩ := hall n hn
      refine ⟨u, _, _, _, rfl, rfl, SqL.of upd_same, e, by decide, fun t ht => q _ t l ((s2.upd hu).upd ht) ok ?_⟩
      unfold LyAt LyT
      rw [upd_same, e1, e2]; rfl
    have go : ∀ (x : Str), atI wordsV (j : Int) = some (.str x) → wordsV[j]? = some (V.str x) → True := fun _ _ _ => trivial
    have ewd : ∃ x : Str, wordsV[j]? = some (.str x) ∧ V.str x ∈ wordsV := by
      match j, hj with
      | 0, _ => exact ⟨_, rfl, by simp⟩
      | 1, _ => exact ⟨_, rfl, by simp⟩
      | 2, _ => exact ⟨_, rfl, by simp⟩
      | 3, _ => exact ⟨_, rfl, by simp⟩
      | 4, _ => exact ⟨_, rfl, by simp⟩
      | 5, _ => exact ⟨_, rfl, by simp⟩
      | 6, _ => exact ⟨_, rfl, by simp⟩
      | 7, _ => exact ⟨_, rfl, by simp⟩
    obtain ⟨x, hx, hxm⟩ := ewd
    refine ⟨_, rfl, _, _, rfl, rfl, (by show (0 : Int) < 8; decide), ww, _, _, .str x, rfl, rfl, SqL.of upd_same, (by show atI wordsV (m % 8) = _; rw [ej]; exact atI_nat hx), ?_⟩
    refine ⟨_, rfl, rfl, _, rfl, ?_⟩
    by_cases ea : x = "add"
    · subst ea
      refine iteT ?_
      refine ⟨_, rfl, by show 1 ≤ sizeLine; decide, fun t0 ht0 => ?_⟩
      have s2 : Same H (L2.upd (L2.upd H ww (.lst wordsV)) t0 (.tup [.str "add"])) := s1.upd ht0
      refine ⟨_, rfl, _, _, rfl, rfl, ⟨by decide, by decide⟩, _, _, rfl, rfl, (by show (0 : Int) < 8; decide), _, _, rfl, rfl, _, rfl, ?_, ?_, ?_⟩
      · show -(2 ^ 62) ≤ 1 + m / 8 % 8; omega
      · show 1 + m / 8 % 8 < 2 ^ 62; omega
      refine comp_range (fun i ys H2 => ∃ key : List Int, ys = intsV key ∧ key.length = i ∧ AllB key ∧ H2 = L2.upd (L2.upd H ww (.lst wordsV)) t0 (.tup [.str "add"]) ∧ i ≤ 8) ⟨[], rfl, rfl, AllB.nil, rfl, by decide⟩ ?_ ?_ ?_
      · rintro i ys H2 ⟨key, rfl, hk, _, _, h8⟩; rw [ints_len, sizeLine_eq]; omega
      · rintro i ys H2 hi ⟨key, rfl, hk, hb, rfl, h8⟩
        refine ⟨_, rfl, _, rfl, _, _, rfl, rfl, _, rfl, _, _, rfl, rfl, a, ns, _, rfl, s2.seq hS, fun m2 hm20 hm21 => ⟨_, _, rfl, rfl, ⟨by decide, by decide⟩, _, _, rfl, rfl, (by show (0 : Int) < 256; decide), ?_⟩⟩
        refine ⟨key ++ [m2 / 3 % 256], by rw [← ints_app]; rfl, by simp [hk], AllB.append.mpr ⟨hb, AllB.cons.mpr ⟨by unfold IsB; omega, AllB.nil⟩⟩, rfl, ?_⟩
        have : (1 + m / 8 % 8).toNat ≤ 8 := by omega
        omega
      · rintro ys H2 ⟨key, rfl, hk, hb, rfl, h8⟩ p hp
        refine ⟨p, _, rfl, .inl ⟨SqL.of upd_same, fun t1 ht1 => ?_⟩⟩
        have np : t0 ≠ p := ne_of_none upd_same hp
        have ht0' : (L2.upd (L2.upd (L2.upd (L2.upd H ww (.lst wordsV)) t0 (.tup [.str "add"])) p (.lst (intsV key))) t1 (.tup (intsV key))) t0 = some (.tup [.str "add"]) := by
          rw [upd_ne (ne_of_none (by rw [upd_ne np]; exact upd_same) ht1), upd_ne np, upd_same]
        refine ⟨t0, t1, _, _, rfl, rfl, SqT.of ht0', SqT.of upd_same, by simp, by rw [ints_len, sizeLine_eq, hk]; simp; omega, fun hn => ?_, fun hn t2 ht2 => ?_⟩
        · have : key = [] := List.map_eq_nil_iff.mp hn
          subst this
          simp at hk; omega
        · refine q _ t2 (.add key) (((s2.upd hp).upd ht1).upd ht2) ⟨by omega, by omega, hb⟩ ?_
          unfold LyAt LyT
          rw [upd_same]; rfl
    · have ne : ¬ V.str x = V.str "add" := fun z => ea (V.str.inj z)
      refine ifF (decide_eq_false ne) ?_
      refine ⟨_, rfl, rfl, _, rfl, ?_⟩
      by_cases ee : x = "escape"
      · subst ee
        refine iteT ?_
        refine ⟨_, rfl, _, rfl, _, _, rfl, rfl, ⟨by decide, by decide⟩, _, _, rfl, rfl, (by show (0 : Int) < 256; decide), by show 6 ≤ sizeLine; decide, fun u hu => ⟨_, rfl, _, _, rfl, rfl, ⟨by decide, by decide⟩, _, _, rfl, rfl, (by show (0 : Int) < 6; decide), ?_⟩⟩
        refine one "escape" [0, 1, 253, 254, 255, m / 8 % 256] rfl (fun n hn => ⟨.escape n, ?_, rfl, rfl⟩) _ s1 u hu
        show IsB n
        unfold IsB
        simp at hn; omega
      · have ne : ¬ V.str x = V.str "escape" := fun z => ee (V.str.inj z)
        refine ifF (decide_eq_false ne) ?_
        refine ⟨_, rfl, by show 2 ≤ sizeLine; decide, fun tt htt => ?_⟩
        have s2 : Same H (L2.upd (L2.upd H ww (.lst wordsV)) tt (.tup [.str "chunks", .str "checks"])) := s1.upd htt
        refine ⟨tt, _, rfl, .inr (SqT.of upd_same), rfl, rfl, _, rfl, ?_⟩
        have ein : inV (.str x) [.str "chunks", .str "checks"] = (("chunks" : Str) == x || (("checks" : Str) == x)) := by simp [inV, eqV]
        rw [if_neg Bool.false_ne_true, ein]
        by_cases ec : x = "chunks" ∨ x = "checks"
        · refine ifT (by rcases ec with rfl | rfl <;> simp) ?_
          refine ⟨_, rfl, _, rfl, _, _, rfl, rfl, ⟨by decide, by decide⟩, _, _, rfl, rfl, (by show (0 : Int) < 255; decide), _, _, rfl, rfl, by show 6 ≤ sizeLine; decide, fun u hu => ⟨_, rfl, _, _, rfl, rfl, ⟨by decide, by decide⟩, _, _, rfl, rfl, (by show (0 : Int) < 6; decide), ?_⟩⟩
          refine one x [1, 2, 3, 5, 255, 1 + m / 8 % 255] rfl (fun n hn => ?_) _ s2 u hu
          have hn1 : 1 ≤ n ∧ n ≤ 255 := by simp at hn; omega
          have hnn : ((n.toNat : Nat) : Int) = n := by omega
          rcases ec with rfl | rfl
          · exact ⟨.chunks n.toNat, ⟨by omega, by omega⟩, rfl, by simp [lnums, hnn]⟩
          · exact ⟨.checks n.toNat, ⟨by omega, by omega⟩, rfl, by simp [lnums, hnn]⟩
        · have nc : ¬ x = "chunks" := fun z => ec (.inl z)
          have nk : ¬ x = "checks" := fun z => ec (.inr z)
          refine ifF (by rw [beq_eq_false_iff_ne.mpr fun z => nc z.symm, beq_eq_false_iff_ne.mpr fun z => nk z.symm]; rfl) ?_
          refine ⟨_, rfl, ?_⟩
          have hl : ∃ l : Ly, l.Ok ∧ lword l = x ∧ lnums l = [] := by
            simp [wordsV] at hxm
            rcases hxm with rfl | rfl | rfl | rfl | rfl | rfl | rfl | rfl
            · exact absurd rfl ea
            · exact ⟨.front, trivial, rfl, rfl⟩
            · exact absurd rfl ee
            · exact ⟨.runs, trivial, rfl, rfl⟩
            · exact absurd rfl nc
            · exact absurd rfl nk
            · exact ⟨.signs, trivial, rfl, rfl⟩
            · exact absurd rfl nk
          obtain ⟨l, ok, e1, e2⟩ := hl
          refine ⟨by show 1 ≤ sizeLine; decide, fun t ht => q _ t l (s2.upd ht) ok ?_⟩
          unfold LyAt LyT
          rw [upd_same, e1, e2]; rfl
end
end Fl
namespace Fl
open PySem L2 Fm
theorem rep_ints (b : Int) (k : Nat) : (List.replicate k [V.int b]).flatten = intsV (List.replicate k b) := by
  induction k with
  | zero => rfl
  | succ k ih => rw [List.replicate_succ, List.flatten_cons, ih]; rfl
theorem allB_rep {b : Int} (h : IsB b) (k : Nat) : AllB (List.replicate k b) := fun x hx => by
  rw [(List.mem_replicate.mp hx).2]; exact h
section
variable {P : Program} {w : World} {K : PySem.W.Frag} {mg : Str → Option Value} {base : Heap} {A : Adr}
def spLayers (K : PySem.W.Frag) : Sp := fun vs H Q _ => ∃ (a : Addr) (ns : List Int) (k : Int) (most : Nat), vs = [.ref a, .int k, .int (most : Int)] ∧ SqL K H a (intsV ns) ∧ most ≤ 100 ∧
  ∀ (H' : Hp) (p : Addr) (tl : List (Addr × Ly)), Same H H' → H p = none → LysAt H' p tl → LsOk (lysOf tl) → tl.length ≤ most → Q (.ref p) H'
theorem ok_layers (T : Tx K mg A) : Callee P w K mg base 4 "_law_layers" ["_law_script", "_law_k", "_law_most"] (spLayers K) := by
  have sc : FnScope ["_law_script", "_law_k", "_law_most"] ["_law_script", "_law_k", "_law_most"] (defScope st_law_layers) := ⟨rfl, rfl, rfl, by decide +kernel, rfl, by decide +kernel, by decide +kernel⟩
  refine T.f_law_layers.ok sc (fun vs H Q E h => ?_) (fun f cdv A' outer s H vs Q E hr h => ?_)
  · obtain ⟨a, ns, k, most, rfl, _⟩ := h; rfl
  · obtain ⟨a, ns, k, most, rfl, hS, hm, q⟩ := h
    have c_law_mix := ok_mix (P := P) (w := w) (base := base) T
    have c_law_layer := ok_layer (P := P) (w := w) (base := base) T
    refine ⟨_, (pss_one (ps_ret (pe_comp (N' := ["_law_j", "_law_script", "_law_k", "_law_most"]) (fun _ _ h => h) rfl (comp_on (os := defScope st_law_layers) (N := ["_law_script", "_law_k", "_law_most"]) rfl rfl ⟨rfl, by decide +kernel, by decide +kernel, by decide +kernel, rfl, by decide +kernel, by decide +kernel, by decide +kernel, by decide +kernel, by decide +kernel⟩) (pi_range1 rfl T.range (pa_cons (pe_op op_mod (pe_callC c_law_mix (hr.mono (by decide)) rfl (pa_cons (pv 0) (pa_cons (pv 1) pa_nil))) (pe_op op_add (pv 2) pe_int)) pa_nil)) (fun _ _ _ _ _ _ => pts_nil) (fun _ _ _ _ _ _ => (pe_callC c_law_layer (hr.mono (by decide)) rfl (pa_cons (pv 1) (pa_cons (pe_op op_add (pe_op op_add (pv 2) pe_int) (pe_op op_mul pe_int (pv 0))) pa_nil))))))), ?_⟩
    refine ⟨_, rfl, _, rfl, a, ns, k, rfl, hS, fun m hm0 hm1 => ⟨_, rfl, _, _, rfl, rfl, _, _, rfl, rfl, (by show (0 : Int) < (most : Int) + 1; omega), _, rfl, ?_, ?_, ?_⟩⟩
    · show -(2 ^ 62) ≤ m % ((most : Int) + 1); have := Int.emod_nonneg m (b := (most : Int) + 1) (by omega); omega
    · show m % ((most : Int) + 1) < 2 ^ 62; have := Int.emod_lt_of_pos m (b := (most : Int) + 1) (by omega); omega
    have hle : (m % ((most : Int) + 1)).toNat ≤ most := by
      have := Int.emod_lt_of_pos m (b := (most : Int) + 1) (by omega); omega
    refine comp_range (fun i ys H2 => ∃ tl : List (Addr × Ly), ys = tl.map (fun x => V.ref x.1) ∧ tl.length = i ∧ i ≤ most ∧ Same H H2 ∧ (∀ x ∈ tl, LyAt H2 x.1 x.2) ∧ LsOk (lysOf tl)) ⟨[], rfl, rfl, Nat.zero_le _, Same.refl H, by simp, by intro l h; simp [lysOf] at h⟩ ?_ ?_ ?_
    · rintro i ys H2 ⟨tl, rfl, hl, hi, _⟩; rw [List.length_map, sizeLine_eq]; omega
    · rintro i ys H2 hi ⟨tl, rfl, hl, him, s2, ht, hok⟩
      refine ⟨_, rfl, _, rfl, _, _, rfl, rfl, _, rfl, _, _, rfl, rfl, .inl ⟨by decide, by decide⟩, _, _, rfl, rfl, a, ns, _, rfl, s2.seq hS, fun H3 t l s3 ok hl3 => ?_⟩
      refine ⟨tl ++ [(t, l)], by simp, by simp [hl], by omega, s2.trans s3, fun x hx => ?_, fun x hx => ?_⟩
      · rcases List.mem_append.mp hx with h | h
        · exact (ht x h).same s3
        · simp at h; subst h; exact hl3
      · simp only [lysOf, List.map_append, List.mem_append] at hx
        rcases hx with h | h
        · exact hok x h
        · simp at h; subst h; exact ok
    · rintro ys H2 ⟨tl, rfl, hl, him, s2, ht, hok⟩ p hp
      exact q _ p tl (s2.upd hp) (s2.free hp) ⟨upd_same, fun x hx => (ht x hx).same (Same.upd (Same.refl H2) hp)⟩ hok (by omega)
def spRow (K : PySem.W.Frag) : Sp := fun vs H Q _ => ∃ (a : Addr) (ns : List Int) (k : Int) (pieces : Nat) (long : Bool), vs = [.ref a, .int k, .int (pieces : Int), .bl long] ∧ SqL K H a (intsV ns) ∧ pieces ≤ 100 ∧
  ∀ (H' : Hp) (p : Addr) (xs : List Int), Same H H' → H p = none → H' p = some (.lst (intsV xs)) → AllB xs → xs.length ≤ 4 * pieces + (if long then 252 else 0) → Q (.ref p) H'
theorem ok_row (T : Tx K mg A) : Callee P w K mg base 3 "_law_row" ["_law_script", "_law_k", "_law_pieces", "_law_long"] (spRow K) := by
  have sc : FnScope ["_law_script", "_law_k", "_law_pieces", "_law_long", "_law_found", "_law_j", "_law_number", "_law_byte", "_law_many"] ["_law_script", "_law_k", "_law_pieces", "_law_long"] (defScope st_law_row) := ⟨rfl, rfl, rfl, by decide +kernel, rfl, by decide +kernel, by decide +kernel⟩
  refine T.f_law_row.ok sc (fun vs H Q E h => ?_) (fun f cdv A' outer s H vs Q E hr h => ?_)
  · obtain ⟨a, ns, k, pieces, long, rfl, _⟩ := h; rfl
  · obtain ⟨a, ns, k, pieces, long, rfl, hS, hm, q⟩ := h
    have c_law_mix := ok_mix (P := P) (w := w) (base := base) T
    refine ⟨_, (pss_cons (ps_set (i := 4) sc.nd rfl (Or.inl rfl) (pe_lst pa_nil))
    (pss_cons (ps_for PassesOwn.never rfl (pi_range1 rfl T.range (pa_cons (pe_op op_mod (pe_callC c_law_mix (hr.mono (by decide)) rfl (pa_cons (pv 0) (pa_cons (pv 1) pa_nil))) (pe_op op_add (pv 2) pe_int)) pa_nil)) (pg_name (i := 5) sc.nd rfl (Or.inl rfl))
    (pss_cons (ps_set (i := 6) sc.nd rfl (Or.inl rfl) (pe_callC c_law_mix (hr.mono (by decide)) rfl (pa_cons (pv 0) (pa_cons (pe_op op_add (pe_op op_add (pv 1) pe_int) (pv 5)) pa_nil))))
      (pss_cons (ps_set (i := 7) sc.nd rfl (Or.inl rfl) (pe_ix ix_list (pe_lst (pa_cons pe_int (pa_cons pe_int (pa_cons pe_int (pa_cons pe_int (pa_cons (pe_op op_mod (pe_op op_fdiv (pv 6) pe_int) pe_int) (pa_cons (pe_op op_mod (pe_op op_fdiv (pv 6) pe_int) pe_int) pa_nil))))))) (pe_op op_mod (pv 6) pe_int) (fun _ _ => rfl)))
      (pss_cons (ps_set (i := 8) sc.nd rfl (Or.inl rfl) (pe_ix ix_list (pe_lst (pa_cons pe_int (pa_cons pe_int (pa_cons pe_int (pa_cons pe_int (pa_cons pe_int (pa_cons pe_int (pa_cons pe_int (pa_cons pe_int pa_nil))))))))) (pe_op op_mod (pe_op op_fdiv (pv 6) pe_int) pe_int) (fun _ _ => rfl)))
      (pss_cons (ps_if (PW.pt (pw_and (pt_cmpR (op_eq) (pv 5) pe_int (nomark _)) (pw_and (pt_val (pv 3)) (pw_and1 (pt_cmpR (op_eq) (pe_op op_mod (pe_op op_fdiv (pv 6) pe_int) pe_int) pe_int (nomark _))))))
      (pss_one (ps_set (i := 8) sc.nd rfl (Or.inl rfl) (pe_ix ix_list (pe_lst (pa_cons pe_int (pa_cons pe_int (pa_cons pe_int (pa_cons pe_int pa_nil))))) (pe_op op_mod (pe_op op_fdiv (pv 6) pe_int) pe_int) (fun _ _ => rfl))))
      pss_nil)
      (pss_one (ps_set (i := 4) sc.nd rfl (Or.inl rfl) (pe_op op_cat (pv 4) (pe_op op_rep (pe_lst (pa_cons (pv 7) pa_nil)) (pv 8))))))))))
    (pss_one (ps_ret (pv 4))))), ?_⟩
    refine ⟨by decide, fun t ht => ?_⟩
    have s1 : Same H (L2.upd H t (.lst [])) := Same.upd (Same.refl H) ht
    refine ⟨_, rfl, _, rfl, a, ns, k, rfl, s1.seq hS, fun m hm0 hm1 => ⟨_, rfl, _, _, rfl, rfl, _, _, rfl, rfl, (by show (0 : Int) < (pieces : Int) + 1; omega), _, rfl, ?_, ?_, ?_⟩⟩
    · show -(2 ^ 62) ≤ m % ((pieces : Int) + 1); have := Int.emod_nonneg m (b := (pieces : Int) + 1) (by omega); omega
    · show m % ((pieces : Int) + 1) < 2 ^ 62; have := Int.emod_lt_of_pos m (b := (pieces : Int) + 1) (by omega); omega
    have hle : (m % ((pieces : Int) + 1)).toNat ≤ pieces := by
      have := Int.emod_lt_of_pos m (b := (pieces : Int) + 1) (by omega); omega
    refine for_range (fun i σ H2 => ∃ (p : Addr) (xs : List Int) (v5 v6 v7 v8 : Option V), σ = [some (.ref a), some (.int k), some (.int (pieces : Int)), some (.bl long), some (.ref p), v5, v6, v7, v8] ∧ Same H H2 ∧ H p = none ∧ H2 p = some (.lst (intsV xs)) ∧ AllB xs ∧ xs.length ≤ 4 * i + (if long && decide (0 < i) then 252 else 0) ∧ i ≤ pieces)
      ⟨t, [], none, none, none, none, rfl, s1, ht, upd_same, AllB.nil, by simp, Nat.zero_le _⟩ ?_ ?_
    · rintro i σ H2 hi ⟨p, xs, v5, v6, v7, v8, rfl, s2, hp, hp2, hx, hl, hip⟩
      refine ⟨_, rfl, _, rfl, _, _, rfl, rfl, _, rfl, _, _, rfl, rfl, a, ns, _, rfl, s2.seq hS, fun n hn0 hn1 => ?_⟩
      refine ⟨_, rfl, _, _, rfl, rfl, ⟨by decide, by decide⟩, _, _, rfl, rfl, (by show (0 : Int) < 256; decide), _, rfl, _, _, rfl, rfl, ⟨by decide, by decide⟩, _, _, rfl, rfl, (by show (0 : Int) < 256; decide), by show 6 ≤ sizeLine; decide, fun u1 hu1 => ?_⟩
      have s3 : Same H2 (L2.upd H2 u1 (.lst (intsV [0, 1, 2, 255, n / 16 % 256, n / 16 % 256]))) := Same.upd (Same.refl H2) hu1
      obtain ⟨bv, hbv, eb⟩ := atI_mod (xs := intsV [0, 1, 2, 255, n / 16 % 256, n / 16 % 256]) (i := n % 6) (by omega) (by rw [ints_len]; simp; omega)
      obtain ⟨b, hb, rfl⟩ := List.mem_map.mp hbv
      have hbB : IsB b := by unfold IsB; simp at hb; omega
      refine ⟨_, rfl, _, _, rfl, rfl, (by show (0 : Int) < 6; decide), u1, _, _, _, rfl, rfl, SqL.of upd_same, eb, ?_⟩
      refine ⟨by show 8 ≤ sizeLine; decide, fun u2 hu2 => ?_⟩
      have s4 : Same H2 (L2.upd (L2.upd H2 u1 (.lst (intsV [0, 1, 2, 255, n / 16 % 256, n / 16 % 256]))) u2 (.lst (intsV [1, 1, 2, 3, 1, 1, 4, 1]))) := s3.upd hu2
      obtain ⟨mv, hmv, em⟩ := atI_mod (xs := intsV [1, 1, 2, 3, 1, 1, 4, 1]) (i := n / 6 % 8) (by omega) (by rw [ints_len]; simp; omega)
      obtain ⟨many, hmany, rfl⟩ := List.mem_map.mp hmv
      have hm4 : 1 ≤ many ∧ many ≤ 4 := by simp at hmany; omega
      refine ⟨_, rfl, _, _, rfl, rfl, ⟨by decide, by decide⟩, _, _, rfl, rfl, (by show (0 : Int) < 8; decide), u2, _, _, _, rfl, rfl, SqL.of upd_same, em, ?_⟩
      have fin : ∀ (H3 : Hp) (mn : Int), Same H2 H3 → 0 ≤ mn → (mn ≤ 4 ∨ (mn ≤ 256 ∧ long = true ∧ i = 0)) → ∀ (u : Addr), H3 u = none →
          ∃ l k_1 xs_1, V.ref u = .ref l ∧ V.int mn = .int k_1 ∧ (L2.upd H3 u (.lst [V.int b])) l = some (.lst xs_1) ∧ -(2 ^ 63) ≤ k_1 ∧ k_1 < 2 ^ 63 ∧ xs_1.length * k_1.toNat ≤ sizeLine ∧
            ∀ q_1, (L2.upd H3 u (.lst [V.int b])) q_1 = none → ∃ l_1 b_1 xs_2 zs, V.ref p = .ref l_1 ∧ V.ref q_1 = .ref b_1 ∧ (L2.upd (L2.upd H3 u (.lst [V.int b])) q_1 (.lst (List.replicate k_1.toNat xs_1).flatten)) l_1 = some (.lst xs_2) ∧
              (L2.upd (L2.upd H3 u (.lst [V.int b])) q_1 (.lst (List.replicate k_1.toNat xs_1).flatten)) b_1 = some (.lst zs) ∧ xs_2.length + zs.length ≤ sizeLine ∧
              ∀ r, (L2.upd (L2.upd H3 u (.lst [V.int b])) q_1 (.lst (List.replicate k_1.toNat xs_1).flatten)) r = none →
                ∃ (p' : Addr) (xs' : List Int) (w5 w6 w7 w8 : Option V), [some (V.ref a), some (.int k), some (.int (pieces : Int)), some (.bl long), some (.ref r), some (.int (0 + (i : Int))), some (.int n), some (.int b), some (.int mn)] = [some (.ref a), some (.int k), some (.int (pieces : Int)), some (.bl long), some (.ref p'), w5, w6, w7, w8] ∧
                  Same H (L2.upd (L2.upd (L2.upd H3 u (.lst [V.int b])) q_1 (.lst (List.replicate k_1.toNat xs_1).flatten)) r (.lst (xs_2 ++ zs))) ∧ H p' = none ∧ (L2.upd (L2.upd (L2.upd H3 u (.lst [V.int b])) q_1 (.lst (List.replicate k_1.toNat xs_1).flatten)) r (.lst (xs_2 ++ zs))) p' = some (.lst (intsV xs')) ∧ AllB xs' ∧
                  xs'.length ≤ 4 * (i + 1) + (if long && decide (0 < i + 1) then 252 else 0) ∧ i + 1 ≤ pieces := by
        intro H3 mn s5 h0 h4 u hu
        have h256 : mn ≤ 256 := by rcases h4 with h | h <;> omega
        have hlx : xs.length ≤ 4 * 100 + 252 := by
          refine Nat.le_trans hl ?_
          have : (if (long && decide (0 < i)) = true then 252 else 0) ≤ 252 := by split <;> omega
          omega
        refine ⟨u, mn, [V.int b], rfl, rfl, upd_same, by omega, by omega, by simp [sizeLine_eq]; omega, fun q1 hq1 => ?_⟩
        rw [rep_ints]
        have s6 : Same H2 (L2.upd (L2.upd H3 u (.lst [V.int b])) q1 (.lst (intsV (List.replicate mn.toNat b)))) := (s5.upd hu).upd hq1
        refine ⟨p, q1, _, _, rfl, rfl, s6 _ _ hp2, upd_same, by rw [ints_len, ints_len, List.length_replicate, sizeLine_eq]; omega, fun r hr0 => ?_⟩
        have s7 := s6.upd (o := .lst (intsV xs ++ intsV (List.replicate mn.toNat b))) hr0
        refine ⟨r, xs ++ List.replicate mn.toNat b, _, _, _, _, rfl, s2.trans s7, s2.free (s6.free hr0), by rw [upd_same, ints_app], AllB.append.mpr ⟨hx, allB_rep hbB _⟩, ?_, by omega⟩
        rw [List.length_append, List.length_replicate]
        rcases h4 with h | ⟨h, hlong, hi0⟩
        · have : (if (long && decide (0 < i)) = true then 252 else 0) ≤ (if (long && decide (0 < i + 1)) = true then 252 else 0) := by
            cases long
            · simp
            · simp; split <;> omega
          omega
        · subst hi0
          have hz : xs.length = 0 := by rw [hlong] at hl; simpa using hl
          rw [hz, hlong]; simp; omega
      refine ⟨_, rfl, rfl, _, rfl, ?_⟩
      by_cases e0 : i = 0
      · subst e0
        refine ifT (by rfl) ?_
        refine ⟨_, rfl, long, rfl, ?_⟩
        cases hlg : long with
        | false =>
          refine iteF (iteF ?_)
          refine ⟨_, rfl, _, rfl, by show 1 ≤ sizeLine; decide, fun u hu => ⟨_, rfl, ?_⟩⟩
          have := fin _ many s4 (by omega) (.inl hm4.2) u hu
          rw [hlg] at this
          exact this
        | true =>
          refine iteT ⟨_, rfl, _, _, rfl, rfl, ⟨by decide, by decide⟩, _, _, rfl, rfl, (by show (0 : Int) < 3; decide), rfl, _, rfl, ?_⟩
          by_cases e3 : n / 48 % 3 = 0
          · refine ifT (decide_eq_true (by show V.int (n / 48 % 3) = V.int 0; rw [e3])) ?_
            refine ⟨by show 4 ≤ sizeLine; decide, fun u3 hu3 => ?_⟩
            have s5 := s4.upd (o := .lst (intsV [254, 255, 256, 100])) hu3
            obtain ⟨lv, hlv, el⟩ := atI_mod (xs := intsV [254, 255, 256, 100]) (i := n / 192 % 4) (by omega) (by rw [ints_len]; simp; omega)
            obtain ⟨lm, hlm, rfl⟩ := List.mem_map.mp hlv
            have hl256 : 0 ≤ lm ∧ lm ≤ 256 := by simp at hlm; omega
            refine ⟨_, rfl, _, _, rfl, rfl, ⟨by decide, by decide⟩, _, _, rfl, rfl, (by show (0 : Int) < 4; decide), u3, _, _, _, rfl, rfl, SqL.of upd_same, el, ?_⟩
            refine ⟨_, rfl, _, rfl, by show 1 ≤ sizeLine; decide, fun u hu => ⟨_, rfl, ?_⟩⟩
            have := fin _ lm s5 hl256.1 (.inr ⟨hl256.2, hlg, rfl⟩) u hu
            rw [hlg] at this
            exact this
          · refine ifF (decide_eq_false fun z => e3 (V.int.inj z)) ?_
            refine ⟨_, rfl, _, rfl, by show 1 ≤ sizeLine; decide, fun u hu => ⟨_, rfl, ?_⟩⟩
            have := fin _ many s4 (by omega) (.inl hm4.2) u hu
            rw [hlg] at this
            exact this
      · refine ifF (decide_eq_false fun z => e0 (by have := V.int.inj z; omega)) (iteF ?_)
        refine ⟨_, rfl, _, rfl, by show 1 ≤ sizeLine; decide, fun u hu => ⟨_, rfl, ?_⟩⟩
        exact fin _ many s4 (by omega) (.inl hm4.2) u hu
    · rintro σ H2 ⟨p, xs, v5, v6, v7, v8, rfl, s2, hp, hp2, hx, hl, hip⟩
      refine ⟨_, rfl, q _ p xs s2 hp hp2 hx ?_⟩
      refine Nat.le_trans hl ?_
      cases long
      · simp; omega
      · simp; split <;> omega
def spWhole : Sp := fun vs H Q _ => ∃ (i : Int), vs = [.int i] ∧ Q (.bl true) H
def spIsRow : Sp := fun vs H Q _ => ∃ (p : Addr) (ns : List Int), vs = [.ref p] ∧ H p = some (.lst (intsV ns)) ∧ AllB ns ∧ ns.length ≤ sizeLine ∧ ∀ H', Same H H' → Q (.bl true) H'
theorem ok_whole (T : Tx K mg A) : Callee P w K mg base 1 "_law_whole" ["_law_found"] spWhole := by
  have sc : FnScope ["_law_found"] ["_law_found"] (defScope st_law_whole) := ⟨rfl, rfl, rfl, by decide +kernel, rfl, by decide +kernel, by decide +kernel⟩
  refine T.f_law_whole.ok sc (fun vs H Q E h => ?_) (fun f cdv A' outer s H vs Q E hr h => ?_)
  · obtain ⟨i, rfl, _⟩ := h; rfl
  · obtain ⟨i, rfl, q⟩ := h
    refine ⟨_, (pss_one (ps_ret (pe_and (pe_callB call_isinst rfl T.isinstance bt_isinstance (pa_cons (pv 0) (pa_cons (pe_bltn (v := .ty "int") rfl T.int bt_int rfl) pa_nil))) (pe_one (pe_not (pe_callB call_isinst rfl T.isinstance bt_isinstance (pa_cons (pv 0) (pa_cons (pe_bltn (v := .ty "bool") rfl T.bool bt_bool rfl) pa_nil)))))))), ?_⟩
    refine ⟨_, rfl, _, _, _, true, rfl, .int i, rfl, _, rfl, iteT ?_⟩
    exact ⟨_, rfl, _, _, _, false, rfl, .int i, rfl, _, rfl, q⟩
theorem ok_isRow (T : Tx K mg A) : Callee P w K mg base 2 "_law_is_row" ["_law_found"] spIsRow := by
  have sc : FnScope ["_law_found"] ["_law_found"] (defScope st_law_is_row) := ⟨rfl, rfl, rfl, by decide +kernel, rfl, by decide +kernel, by decide +kernel⟩
  refine T.f_law_is_row.ok sc (fun vs H Q E h => ?_) (fun f cdv A' outer s H vs Q E hr h => ?_)
  · obtain ⟨p, ns, rfl, _⟩ := h; rfl
  · obtain ⟨p, ns, rfl, hp, hb, hz, q⟩ := h
    have c_law_whole := ok_whole (P := P) (w := w) (base := base) T
    refine ⟨_, (pss_one (ps_ret (pe_and (pe_callB call_isinst rfl T.isinstance bt_isinstance (pa_cons (pv 0) (pa_cons (pe_bltn (v := .ty "list") rfl T.list bt_list rfl) pa_nil))) (pe_one (pe_callB call_allB rfl T.all bt_all (pa_cons (pe_comp (N' := ["_law_byte", "_law_found"]) (fun _ _ h => h) rfl (comp_on (os := defScope st_law_is_row) (N := ["_law_found"]) rfl rfl ⟨rfl, by decide +kernel, by decide +kernel, by decide +kernel, rfl, by decide +kernel, by decide +kernel, by decide +kernel, by decide +kernel, by decide +kernel⟩) (pi_list (pv 0)) (fun _ _ _ _ _ _ => pts_nil) (fun _ _ _ _ _ _ => (pe_and (pe_callC c_law_whole (hr.mono (by decide)) rfl (pa_cons (pv 0) pa_nil)) (pe_one (pe_chain op_le op_lt pe_int (pv 0) pe_int))))) pa_nil)))))), ?_⟩
    refine ⟨_, rfl, _, _, _, true, rfl, .lst hp, rfl, _, rfl, iteT ?_⟩
    refine ⟨_, rfl, p, rfl, ⟨_, SqL.of hp⟩, comp_list (K := K) (a := p) (xs := intsV ns) (fun i ys H2 => H2 = H ∧ i ≤ ns.length ∧ ys = List.replicate i (V.bl true)) ⟨rfl, Nat.zero_le _, rfl⟩ ?_ ?_ ?_ ?_⟩
    · rintro i ys H2 _ ⟨rfl, _⟩; exact SqL.of hp
    · rintro i ys H2 ⟨_, hi, rfl⟩; rw [List.length_replicate]; omega
    · rintro i x ys H2 hx ⟨rfl, hi, rfl⟩
      obtain ⟨n, hn, rfl⟩ := ints_get' hx
      have hil : i < ns.length := (List.getElem?_eq_some_iff.mp hn).1
      have hnb := hb n (List.mem_of_getElem? hn)
      refine ⟨_, rfl, n, rfl, true, rfl, iteT ?_⟩
      refine ⟨_, rfl, _, _, rfl, rfl, decide (0 ≤ n), rfl, ?_⟩
      refine ifT (decide_eq_true hnb.1) ?_
      refine ⟨_, _, rfl, rfl, rfl, hil, ?_⟩
      dsimp only
      rw [List.replicate_succ', decide_eq_true hnb.2]
    · rintro ys H2 ⟨rfl, _, rfl⟩ p2 hp2
      refine ⟨p2, List.replicate (intsV ns).length true, rfl, ?_, rfl, ?_⟩
      · rw [upd_same, List.map_replicate]
      · rw [show (List.replicate (intsV ns).length true).all id = true by rw [List.all_eq_true]; intro x hx; rw [(List.mem_replicate.mp hx).2]; rfl]
        exact q _ (Same.upd (Same.refl _) hp2)
end
end Fl
namespace Fl
open PySem L2 Fm
theorem strT {x : Str} : decide (V.str x = V.str x) = true := decide_eq_true rfl
theorem strF {x y : Str} (h : ¬ x = y) : decide (V.str x = V.str y) = false := decide_eq_false fun z => h (V.str.inj z)
theorem inV_ints (b : Int) : ∀ xs : List Int, inV (.int b) (intsV xs) = decide (b ∈ xs)
  | [] => by simp [inV]
  | x :: xs => by
    have ih := inV_ints b xs
    unfold inV at ih ⊢
    rw [intsV, List.map_cons, List.any_cons, ih]
    show ((x == b) || decide (b ∈ xs)) = decide (b ∈ x :: xs)
    by_cases e : b = x
    · subst e; simp
    · have e2 : (x == b) = false := beq_eq_false_iff_ne.mpr fun z => e z.symm
      simp [e, e2]
theorem evens_snoc : ∀ (a : List Int) (x : Int), evens (a ++ [x]) = if a.length % 2 = 0 then evens a ++ [x] else evens a
  | [], x => rfl
  | [y], x => rfl
  | y :: z :: r, x => by
    have ih := evens_snoc r x
    simp only [List.cons_append, evens, List.length_cons]
    rw [ih]
    by_cases h : r.length % 2 = 0
    · rw [if_pos h, if_pos (by omega)]
    · rw [if_neg h, if_neg (by omega)]
abbrev sgs : List Int := [45, 95] ++ rngI 48 10 ++ rngI 65 26 ++ rngI 97 26
theorem mem_rngI {lo : Int} {n : Nat} {y : Int} (h0 : lo ≤ y) (h1 : y < lo + n) : y ∈ rngI lo n :=
  List.mem_map.mpr ⟨(y - lo).toNat, List.mem_range.mpr (by omega), by omega⟩
theorem sgs_mem {y : Int} (h : IsSg y) : y ∈ sgs := by
  rcases h with rfl | rfl | h | h | h
  · exact List.mem_append_left _ (List.mem_append_left _ (List.mem_append_left _ (by simp)))
  · exact List.mem_append_left _ (List.mem_append_left _ (List.mem_append_left _ (by simp)))
  · exact List.mem_append_left _ (List.mem_append_left _ (List.mem_append_right _ (mem_rngI h.1 h.2)))
  · exact List.mem_append_left _ (List.mem_append_right _ (mem_rngI h.1 h.2))
  · exact List.mem_append_right _ (mem_rngI h.1 h.2)
def dtL (l : Ly) : Dt := .tup (.str (lword l) :: (lnums l).map .int)
theorem deps_ints : ∀ ns : List Int, Dt.deps (ns.map Dt.int) = 0
  | [] => rfl
  | n :: ns => by rw [List.map_cons, Dt.deps, deps_ints ns]; rfl
theorem dtL_dep (l : Ly) : (dtL l).dep = 1 := by unfold dtL; rw [Dt.dep, Dt.deps, deps_ints]; rfl
theorem dv_layer {K : PySem.W.Frag} {H : Hp} {t : Addr} {l : Ly} (h : LyAt H t l) : DV K H (.ref t) (dtL l) := .tup (SqT.of h) (.cons (.str _) (DVs.ofInts _))
theorem dv_layers {K : PySem.W.Frag} {H : Hp} : ∀ {tl : List (Addr × Ly)}, (∀ x ∈ tl, LyAt H x.1 x.2) → DVs K H (tl.map fun x => V.ref x.1) ((lysOf tl).map dtL)
  | [], _ => .nil
  | x :: tl, h => .cons (dv_layer (h x (by simp))) (dv_layers fun y hy => h y (by simp [hy]))
theorem deps_layers : ∀ (ls : List Ly), Dt.deps (ls.map dtL) ≤ 1
  | [] => by simp [Dt.deps]
  | l :: ls => by rw [List.map_cons, Dt.deps, dtL_dep]; exact Nat.max_le.mpr ⟨Nat.le_refl _, deps_layers ls⟩
def isFive : Ly → Bool
  | .add _ => false | .front => false | _ => true
section
variable {P : Program} {w : World} {K : PySem.W.Frag} {mg : Str → Option Value} {base : Heap} {A : Adr}
def spFits : Sp := fun vs H Q _ => ∃ (t r st : Addr) (l : Ly) (xs : List Int), vs = [.ref t, .ref r, .ref st] ∧ LyAt H t l ∧ l.Ok ∧ isFive l = true ∧ H r = some (.lst (intsV xs)) ∧ AllB xs ∧ H st = some (.lst (intsV (wAll l xs))) ∧ xs.length ≤ 1000000 ∧
  ∀ H', Same H H' → Q (.bl true) H'
theorem ok_fits (T : Tx K mg A) : Callee P w K mg base 1 "_law_fits" ["_law_layer_here", "_law_row_here", "_law_stream"] spFits := by
  have sc : FnScope ["_law_layer_here", "_law_row_here", "_law_stream", "_law_many", "_law_signs", "_law_counts", "_law_pieces"] ["_law_layer_here", "_law_row_here", "_law_stream"] (defScope st_law_fits) := ⟨rfl, rfl, rfl, by decide +kernel, rfl, by decide +kernel, by decide +kernel⟩
  refine T.f_law_fits.ok sc (fun vs H Q E h => ?_) (fun f cdv A' outer s H vs Q E hr h => ?_)
  · obtain ⟨t, r, st, l, xs, rfl, _⟩ := h; rfl
  · obtain ⟨t, r, st, l, xs, rfl, ht, hl, h5, hr0, hx, hst, hz, q⟩ := h
    refine ⟨_, (pss_cons (ps_set (i := 3) sc.nd rfl (Or.inl rfl) (pe_callB call_len_seq rfl T.len bt_len (pa_cons (pv 1) pa_nil)))
    (pss_cons (ps_if (pt_cmpR (op_eq) (pe_ix ix_tup (pv 0) pe_int (fun _ _ => rfl)) pe_str (nomark _))
    (pss_one (ps_ret (pe_and (pe_cmpR (op_notIn_seq) (pe_ix ix_tup (pv 0) pe_int (fun _ _ => rfl)) (pv 2) (by with_unfolding_all rfl)) (pe_one (pe_chain op_le op_le (pv 3) (pe_callB call_len_seq rfl T.len bt_len (pa_cons (pv 2) pa_nil)) (pe_op op_mul pe_int (pv 3)))))))
    pss_nil)
    (pss_cons (ps_if (pt_cmpR (op_eq) (pe_ix ix_tup (pv 0) pe_int (fun _ _ => rfl)) pe_str (nomark _))
    (pss_cons (ps_set (i := 4) sc.nd rfl (Or.inr rfl) (pe_op op_cat (pe_op op_cat (pe_op op_cat (pe_lst (pa_cons pe_int (pa_cons pe_int pa_nil))) (pe_callTy call_list_rng rfl T.list bt_list (pa_cons (pe_callTy call_rng2 rfl T.range bt_range (pa_cons pe_int (pa_cons pe_int pa_nil))) pa_nil))) (pe_callTy call_list_rng rfl T.list bt_list (pa_cons (pe_callTy call_rng2 rfl T.range bt_range (pa_cons pe_int (pa_cons pe_int pa_nil))) pa_nil))) (pe_callTy call_list_rng rfl T.list bt_list (pa_cons (pe_callTy call_rng2 rfl T.range bt_range (pa_cons pe_int (pa_cons pe_int pa_nil))) pa_nil))))
      (pss_one (ps_ret (pe_and (pe_callB call_allB rfl T.all bt_all (pa_cons (pe_comp (N' := ["_law_byte", "_law_layer_here", "_law_row_here", "_law_stream", "_law_many", "_law_signs", "_law_counts", "_law_pieces"]) (fun _ _ h => h) rfl (comp_on (os := defScope st_law_fits) (N := ["_law_layer_here", "_law_row_here", "_law_stream", "_law_many", "_law_signs", "_law_counts", "_law_pieces"]) rfl rfl ⟨rfl, by decide +kernel, by decide +kernel, by decide +kernel, rfl, by decide +kernel, by decide +kernel, by decide +kernel, by decide +kernel, by decide +kernel⟩) (pi_list (pv 2)) (fun _ _ _ _ _ _ => pts_nil) (fun _ _ _ _ _ _ => (pe_cmpR ((op_in_seqK (K := K) rfl)) (pv 0) (pv 5) (by with_unfolding_all rfl)))) pa_nil)) (pe_one (pe_cmpR (op_eq) (pe_callB call_len_seq rfl T.len bt_len (pa_cons (pv 2) pa_nil)) (pe_op op_fdiv (pe_op op_add (pe_op op_mul pe_int (pv 3)) pe_int) pe_int) (nomark _)))))))
    pss_nil)
    (pss_cons (ps_if (pt_cmpR (op_eq) (pe_ix ix_tup (pv 0) pe_int (fun _ _ => rfl)) pe_str (nomark _))
    (pss_cons (ps_setComp (i := 5) (N' := ["_law_k", "_law_layer_here", "_law_row_here", "_law_stream", "_law_many", "_law_signs", "_law_counts", "_law_pieces"]) (fun _ _ h => h) rfl sc.nd rfl rfl (comp_on (os := defScope st_law_fits) (N := ["_law_layer_here", "_law_row_here", "_law_stream", "_law_many", "_law_signs", "_law_counts", "_law_pieces"]) rfl rfl ⟨rfl, by decide +kernel, by decide +kernel, by decide +kernel, rfl, by decide +kernel, by decide +kernel, by decide +kernel, by decide +kernel, by decide +kernel⟩) (pi_range1 rfl T.range (pa_cons (pe_callB call_len_seq rfl T.len bt_len (pa_cons (pv 2) pa_nil)) pa_nil)) (fun _ _ _ _ _ _ => (pts_one (pt_cmpR (op_eq) (pe_op op_mod (pv 0) pe_int) pe_int (nomark _)))) (fun _ _ _ _ _ _ => (pe_ix (ix_listK (K := K) rfl) (pv 3) (pv 0) (fun _ _ => rfl))) rfl)
      (pss_one (ps_ret (pe_and (pe_cmpR (op_eq) (pe_op op_mod (pe_callB call_len_seq rfl T.len bt_len (pa_cons (pv 2) pa_nil)) pe_int) pe_int (nomark _)) (pe_and (pe_cmpR (op_notIn_seq) pe_int (pv 5) (by with_unfolding_all rfl)) (pe_and (pe_cmpR (op_eq) (pe_callB call_sumI rfl T.sum bt_sum (pa_cons (pv 5) pa_nil)) (pv 3) (nomark _)) (pe_one (pe_cmpR (op_le) (pe_callB call_len_seq rfl T.len bt_len (pa_cons (pv 2) pa_nil)) (pe_op op_mul pe_int (pv 3)) (nomark _)))))))))
    pss_nil)
    (pss_cons (ps_set (i := 6) sc.nd rfl (Or.inl rfl) (pe_op op_add (pe_op op_fdiv (pv 3) (pe_ix ix_tup (pv 0) pe_int (fun _ _ => rfl))) pe_int))
    (pss_one (ps_ret (pe_cmpR (op_eq) (pe_callB call_len_seq rfl T.len bt_len (pa_cons (pv 2) pa_nil)) (pe_op op_add (pv 3) (pe_op op_mul (pv 6) (pe_ix ix_list (pe_lst (pa_cons pe_int (pa_cons pe_int pa_nil))) (pe_callTy call_int1 rfl T.int bt_int (pa_cons (pe_cmpR (op_eq) (pe_ix ix_tup (pv 0) pe_int (fun _ _ => rfl)) pe_str (nomark _)) pa_nil)) (fun _ _ => rfl)))) (nomark _))))))))), ?_⟩
    refine ⟨_, rfl, r, _, rfl, .inl (SqL.of hr0), ?_⟩
    rw [ints_len]
    refine ⟨_, rfl, t, _, 0, .str (lword l), rfl, rfl, SqT.of ht, at0, rfl, _, rfl, ?_⟩
    cases l with
    | add key => cases h5
    | front => cases h5
    | escape b =>
      obtain ⟨f1, f2, f3⟩ := form_escape hl hx
      refine ifT strT ?_
      refine ⟨_, rfl, t, _, 1, .int b, rfl, rfl, SqT.of ht, at1, _, rfl, st, _, rfl, .inl (SqL.of hst), rfl, flat_ints _, ?_⟩
      rw [if_pos rfl, inV_ints, decide_eq_false f1]
      refine ⟨_, rfl, iteT ⟨_, rfl, _, rfl, st, _, rfl, .inl (SqL.of hst), _, _, rfl, rfl, true, ?_, iteT ⟨_, rfl, _, _, rfl, rfl, .inl ⟨by decide, by decide⟩, _, _, rfl, rfl, ?_⟩⟩⟩
      · dsimp only; rw [ints_len, decide_eq_true (by omega)]
      · dsimp only
        rw [ints_len, decide_eq_true (by omega)]
        exact q H (Same.refl H)
    | signs =>
      obtain ⟨f1, f2⟩ := form_signs hx
      refine ifF (strF (by dsimp only [lword]; decide +kernel)) ?_
      refine ⟨_, rfl, t, _, 0, .str (lword .signs), rfl, rfl, SqT.of ht, at0, rfl, _, rfl, ifT strT ?_⟩
      refine ⟨by show 2 ≤ sizeLine; decide, fun a1 ha1 => ⟨_, _, rfl, fun r1 hr1 => ⟨r1, 48, 58, rfl, upd_same, rfl, by decide, by decide, by decide, by decide, by decide, fun b1 hb1 => ?_⟩⟩⟩
      have s1 : Same H (L2.upd (L2.upd (L2.upd H a1 (.lst (intsV [45, 95]))) r1 (.rng 48 58)) b1 (.lst (intsV (rngI 48 10)))) := (((Same.refl H).upd ha1).upd hr1).upd hb1
      refine ⟨a1, b1, _, _, rfl, rfl, (Same.upd (Same.upd (Same.refl _) hr1) hb1) _ _ upd_same, upd_same, by rw [ints_len]; simp [sizeLine_eq, rngI], fun c1 hc1 => ?_⟩
      refine ⟨_, _, rfl, fun r2 hr2 => ⟨r2, 65, 91, rfl, upd_same, rfl, by decide, by decide, by decide, by decide, by decide, fun b2 hb2 => ?_⟩⟩
      refine ⟨c1, b2, _, _, rfl, rfl, (Same.upd (Same.upd (Same.refl _) hr2) hb2) _ _ upd_same, upd_same, by simp [sizeLine_eq, rngI], fun c2 hc2 => ?_⟩
      refine ⟨_, _, rfl, fun r3 hr3 => ⟨r3, 97, 123, rfl, upd_same, rfl, by decide, by decide, by decide, by decide, by decide, fun b3 hb3 => ?_⟩⟩
      refine ⟨c2, b3, _, _, rfl, rfl, (Same.upd (Same.upd (Same.refl _) hr3) hb3) _ _ upd_same, upd_same, by simp [sizeLine_eq, rngI], fun c3 hc3 => ?_⟩
      generalize hH1 : L2.upd _ c3 _ = H1
      have sH : Same H H1 := by
        rw [← hH1]
        exact (((((((s1.upd hc1).upd hr2).upd hb2).upd hc2).upd hr3).upd hb3).upd hc3)
      have hc : H1 c3 = some (.lst (intsV sgs)) := by
        rw [← hH1, upd_same]
        simp only [sgs, intsV, List.map_append]
        rfl
      have hst1 := sH _ _ hst
      refine ⟨_, rfl, st, rfl, ⟨_, SqL.of hst1⟩, comp_list (K := K) (a := st) (xs := intsV (wAll .signs xs)) (fun i ys H2 => H2 = H1 ∧ i ≤ (wAll .signs xs).length ∧ ys = List.replicate i (V.bl true)) ⟨rfl, Nat.zero_le _, rfl⟩ ?_ ?_ ?_ ?_⟩
      · rintro i ys H2 _ ⟨rfl, _⟩; exact SqL.of hst1
      · rintro i ys H2 ⟨_, hi, rfl⟩; rw [List.length_replicate, sizeLine_eq]; omega
      · rintro i y ys H2 hy ⟨rfl, hi, rfl⟩
        obtain ⟨n, hn, rfl⟩ := ints_get' hy
        have hil : i < (wAll .signs xs).length := (List.getElem?_eq_some_iff.mp hn).1
        refine ⟨_, rfl, _, rfl, c3, _, rfl, .inl (SqL.of hc), rfl, flat_ints _, rfl, hil, ?_⟩
        rw [if_neg Bool.false_ne_true, inV_ints, decide_eq_true (sgs_mem (f1 n (List.mem_of_getElem? hn))), List.replicate_succ']
      · rintro ys H2 ⟨rfl, _, rfl⟩ p2 hp2
        refine ⟨p2, List.replicate (intsV (wAll .signs xs)).length true, rfl, ?_, rfl, true, ?_, iteT ?_⟩
        · rw [upd_same, List.map_replicate]
        · rw [show (List.replicate (intsV (wAll .signs xs)).length true).all id = true by rw [List.all_eq_true]; intro x hx; rw [(List.mem_replicate.mp hx).2]; rfl]
        refine ⟨_, rfl, st, _, rfl, .inl (SqL.of ((Same.upd (Same.refl _) hp2) _ _ hst1)), _, rfl, _, _, rfl, rfl, .inl ⟨by decide, by decide⟩, _, _, rfl, rfl, _, _, rfl, rfl, ⟨by decide, by decide⟩, rfl, ?_⟩
        dsimp only
        rw [ints_len, f2, decide_eq_true (by rw [show ((((4 * xs.length + 2) / 3 : Nat)) : Int) = (4 * (xs.length : Int) + 2) / 3 by omega])]
        exact q _ (sH.upd hp2)
    | runs =>
      obtain ⟨f1, f2, f3, f4⟩ := (form_runs hx).facts
      refine ifF (strF (by dsimp only [lword]; decide +kernel)) ?_
      refine ⟨_, rfl, t, _, 0, .str (lword .runs), rfl, rfl, SqT.of ht, at0, rfl, _, rfl, ifF (strF (by dsimp only [lword]; decide +kernel)) ?_⟩
      refine ⟨_, rfl, t, _, 0, .str (lword .runs), rfl, rfl, SqT.of ht, at0, rfl, _, rfl, ifT strT ?_⟩
      generalize hst' : wAll .runs xs = out at *
      refine ⟨_, rfl, st, _, rfl, .inl (SqL.of hst), _, rfl, ?_, ?_, ?_⟩
      · show -(2 ^ 62) ≤ ((intsV out).length : Int); omega
      · show ((intsV out).length : Int) < 2 ^ 62; rw [ints_len]; omega
      refine comp_range (fun i ys H2 => H2 = H ∧ i ≤ out.length ∧ ys = intsV (evens (out.take i))) ⟨rfl, Nat.zero_le _, rfl⟩ ?_ ?_ ?_
      · rintro i ys H2 ⟨_, hi, rfl⟩
        have : ∀ a : List Int, (evens a).length ≤ a.length := fun a => by
          have h2 : ∀ n (a : List Int), a.length ≤ n → (evens a).length ≤ a.length := fun n => by
            induction n with
            | zero => intro a h; match a, h with | [], _ => simp [evens]
            | succ n ih =>
              intro a h
              match a, h with
              | [], _ => simp [evens]
              | [_], _ => simp [evens]
              | a :: b :: r, h => have := ih r (by simp at h; omega); simp [evens]; omega
          exact h2 _ a (Nat.le_refl _)
        have h3 := this (out.take i)
        rw [ints_len, sizeLine_eq]; rw [List.length_take] at h3; omega
      · rintro i ys H2 hi ⟨rfl, hil, rfl⟩
        rw [ints_len, Int.toNat_natCast] at hi
        obtain ⟨v, hv⟩ : ∃ v, out[i]? = some v := ⟨out[i], List.getElem?_eq_getElem hi⟩
        have etk : out.take (i + 1) = out.take i ++ [v] := by rw [List.take_add_one, hv]; rfl
        have elen : (out.take i).length = i := by rw [List.length_take]; omega
        refine ⟨_, rfl, _, _, rfl, rfl, (by show (0 : Int) < 2; decide), rfl, _, rfl, ?_⟩
        by_cases e2 : i % 2 = 0
        · refine ifT (decide_eq_true (by show V.int ((0 + (i : Int)) % 2) = V.int 0; rw [show ((0 + (i : Int)) % 2) = 0 by omega])) ?_
          refine ⟨_, rfl, _, rfl, st, _, _, .int v, rfl, rfl, SqL.of hst, by rw [show (0 + (i : Int)) = ((i : Nat) : Int) by omega]; exact atI_nat (ints_get hv), rfl, hi, ?_⟩
          rw [etk, evens_snoc, elen, if_pos e2, ← ints_app]; rfl
        · refine ifF (decide_eq_false fun z => e2 (by have := V.int.inj z; omega)) ?_
          refine ⟨rfl, hi, ?_⟩
          rw [etk, evens_snoc, elen, if_neg e2]
      · rintro ys H2 ⟨rfl, hil, rfl⟩ p hp
        rw [ints_len, Int.toNat_natCast, List.take_of_length_le (Nat.le_refl _)]
        have s1 : Same H2 (L2.upd H2 p (.lst (intsV (evens out)))) := Same.upd (Same.refl H2) hp
        have hst1 := s1 _ _ hst
        refine ⟨_, rfl, st, _, rfl, .inl (SqL.of hst1), _, _, rfl, rfl, (by show (0 : Int) < 2; decide), rfl, true, ?_, iteT ?_⟩
        · dsimp only
          rw [ints_len, decide_eq_true (by rw [show ((out.length : Int) % 2) = 0 by omega])]
        refine ⟨_, rfl, p, _, rfl, .inl (SqL.of upd_same), rfl, flat_ints _, true, ?_, iteT ?_⟩
        · rw [if_pos rfl, inV_ints, decide_eq_false f2]; rfl
        refine ⟨_, rfl, p, _, rfl, upd_same, rfl, _, rfl, rfl, true, ?_, iteT ?_⟩
        · rw [f3, decide_eq_true rfl]
        refine ⟨_, rfl, st, _, rfl, .inl (SqL.of hst1), _, rfl, _, _, rfl, rfl, .inl ⟨by decide, by decide⟩, _, _, rfl, rfl, ?_⟩
        dsimp only
        rw [ints_len, decide_eq_true (by omega)]
        exact q _ s1
    | chunks n =>
      obtain ⟨hn1, hn2⟩ := hl
      have f1 := form_chunks hn1 hn2 hx
      refine ifF (strF (by dsimp only [lword]; decide +kernel)) ?_
      refine ⟨_, rfl, t, _, 0, .str (lword (.chunks n)), rfl, rfl, SqT.of ht, at0, rfl, _, rfl, ifF (strF (by dsimp only [lword]; decide +kernel)) ?_⟩
      refine ⟨_, rfl, t, _, 0, .str (lword (.chunks n)), rfl, rfl, SqT.of ht, at0, rfl, _, rfl, ifF (strF (by dsimp only [lword]; decide +kernel)) ?_⟩
      refine ⟨_, rfl, _, rfl, t, _, 1, .int (n : Int), rfl, rfl, SqT.of ht, at1, _, _, rfl, rfl, ⟨by omega, by omega⟩, _, _, rfl, rfl, ?_⟩
      refine ⟨_, rfl, st, _, rfl, .inl (SqL.of hst), _, rfl, _, rfl, by show 2 ≤ sizeLine; decide, fun u hu => ?_⟩
      have s1 : Same H (L2.upd H u (.lst [.int 1, .int 2])) := Same.upd (Same.refl H) hu
      refine ⟨_, rfl, t, _, 0, .str (lword (.chunks n)), rfl, rfl, SqT.of (s1 _ _ ht), at0, rfl, .inr ⟨false, ?_, u, _, 0, .int 1, rfl, rfl, SqL.of upd_same, at0, _, _, rfl, rfl, .inr ⟨by decide, by decide⟩, _, _, rfl, rfl, rfl, ?_⟩⟩
      · rw [strF (by dsimp only [lword]; decide +kernel)]
      dsimp only
      rw [ints_len, f1, decide_eq_true (by rw [show ((xs.length + (xs.length / n + 1) : Nat) : Int) = (xs.length : Int) + ((xs.length : Int) / (n : Int) + 1) * 1 by simp])]
      exact q _ s1
    | checks n =>
      obtain ⟨hn1, hn2⟩ := hl
      have f1 := form_checks hn1 hn2 hx
      refine ifF (strF (by dsimp only [lword]; decide +kernel)) ?_
      refine ⟨_, rfl, t, _, 0, .str (lword (.checks n)), rfl, rfl, SqT.of ht, at0, rfl, _, rfl, ifF (strF (by dsimp only [lword]; decide +kernel)) ?_⟩
      refine ⟨_, rfl, t, _, 0, .str (lword (.checks n)), rfl, rfl, SqT.of ht, at0, rfl, _, rfl, ifF (strF (by dsimp only [lword]; decide +kernel)) ?_⟩
      refine ⟨_, rfl, _, rfl, t, _, 1, .int (n : Int), rfl, rfl, SqT.of ht, at1, _, _, rfl, rfl, ⟨by omega, by omega⟩, _, _, rfl, rfl, ?_⟩
      refine ⟨_, rfl, st, _, rfl, .inl (SqL.of hst), _, rfl, _, rfl, by show 2 ≤ sizeLine; decide, fun u hu => ?_⟩
      have s1 : Same H (L2.upd H u (.lst [.int 1, .int 2])) := Same.upd (Same.refl H) hu
      refine ⟨_, rfl, t, _, 0, .str (lword (.checks n)), rfl, rfl, SqT.of (s1 _ _ ht), at0, rfl, .inr ⟨true, ?_, u, _, 1, .int 2, rfl, rfl, SqL.of upd_same, at1, _, _, rfl, rfl, .inr ⟨by decide, by decide⟩, _, _, rfl, rfl, rfl, ?_⟩⟩
      · show [V.bl (decide (V.str "checks" = V.str "checks"))] = _; rw [strT]
      dsimp only
      rw [ints_len, f1, decide_eq_true (by rw [show ((xs.length + (xs.length / n + 1) * 2 : Nat) : Int) = (xs.length : Int) + ((xs.length : Int) / (n : Int) + 1) * 2 by simp])]
      exact q _ s1
theorem wrt_len : ∀ {ls : List Ly} {xs : List Int}, LsOk ls → AllB xs → (wrt ls xs).length + 1 ≤ 3 ^ ls.length * (xs.length + 511)
  | [], xs, _, _ => by simp [wrt]
  | l :: ls, xs, ok, hx => by
    obtain ⟨s1, o1, hrun, ok1, ho1, hl1⟩ := wS_run (wOk_start (ok l (by simp))) hx
    obtain ⟨hl2, hb2⟩ := wF_len ok1
    rw [pend_start] at hl1
    have e : wrt (l :: ls) xs = wrt ls (o1 ++ wF s1) := by show wrt ls (wAll l xs) = _; rw [wAll_of hrun]
    rw [e]
    refine Nat.le_trans (wrt_len (ls := ls) (fun l' m => ok l' (by simp [m])) (AllB.append.mpr ⟨ho1, hb2⟩)) ?_
    rw [List.length_cons, Nat.pow_succ, Nat.mul_assoc]
    exact Nat.mul_le_mul_left _ (by rw [List.length_append]; omega)
def spLaw (K : PySem.W.Frag) : Sp := fun vs H Q _ => ∃ (a : Addr) (ns : List Int), vs = [.ref a] ∧ SqL K H a (intsV ns) ∧ ns.length ≤ 63 ∧ ∀ H', Q (.bl true) H'
theorem ok_law (T : Tx K mg A) {fl : Addr} {fd : FuncData} (F : Fun K "law" "law" st_law fl fd) : FnOk P w K mg base CX0 20 fl fd ["_law_script"] (spLaw K) := by
  have sc : FnScope ["_law_script", "_law_inner", "_law_size", "_law_some", "_law_layer_here", "_law_row_here", "_law_stream"] ["_law_script"] (defScope st_law) := ⟨rfl, rfl, rfl, by decide +kernel, rfl, by decide +kernel, by decide +kernel⟩
  refine F.ok sc (fun vs H Q E h => ?_) (fun cdv A' outer s H vs Q E hr h => ?_)
  · obtain ⟨a, ns, rfl, _⟩ := h; rfl
  · obtain ⟨a, ns, rfl, hS, hn, q⟩ := h
    have hu16 := hu16_of hr
    have c_law_mix := ok_mix (P := P) (w := w) (base := base) T
    have c_law_layers := ok_layers (P := P) (w := w) (base := base) T
    have c_law_row := ok_row (P := P) (w := w) (base := base) T
    have c_law_is_row := ok_isRow (P := P) (w := w) (base := base) T
    have c_law_fits := ok_fits (P := P) (w := w) (base := base) T
    have cwritten := ok_written (P := P) (w := w) (base := base) T
    refine ⟨_, (pss_cons (ps_set (i := 1) sc.nd rfl (Or.inl rfl) (pe_callC c_law_layers (hr.mono (by decide)) rfl (pa_cons (pv 0) (pa_cons pe_int (pa_cons pe_int pa_nil)))))
    (pss_cons (ps_set (i := 2) sc.nd rfl (Or.inl rfl) (pe_ix ix_list (pe_lst (pa_cons pe_int (pa_cons pe_int (pa_cons pe_int (pa_cons pe_int (pa_cons pe_int (pa_cons (pe_op op_add pe_int (pe_op op_mod (pe_callC c_law_mix (hr.mono (by decide)) rfl (pa_cons (pv 0) (pa_cons pe_int pa_nil))) pe_int)) pa_nil))))))) (pe_op op_mod (pe_callC c_law_mix (hr.mono (by decide)) rfl (pa_cons (pv 0) (pa_cons pe_int pa_nil))) pe_int) (fun _ _ => rfl)))
    (pss_cons (ps_set (i := 3) sc.nd rfl (Or.inl rfl) (pe_lst (pa_cons (pe_tup (pa_cons pe_str (pa_cons (pe_op op_mod (pe_callC c_law_mix (hr.mono (by decide)) rfl (pa_cons (pv 0) (pa_cons pe_int pa_nil))) pe_int) pa_nil))) (pa_cons (pe_tup (pa_cons pe_str pa_nil)) (pa_cons (pe_tup (pa_cons pe_str (pa_cons (pv 2) pa_nil))) (pa_cons (pe_tup (pa_cons pe_str (pa_cons (pv 2) pa_nil))) (pa_cons (pe_tup (pa_cons pe_str pa_nil)) pa_nil)))))))
    (pss_cons (ps_set (i := 4) sc.nd rfl (Or.inl rfl) (pe_ix ix_list (pv 3) (pe_op op_mod (pe_callC c_law_mix (hr.mono (by decide)) rfl (pa_cons (pv 0) (pa_cons pe_int pa_nil))) pe_int) (fun _ _ => rfl)))
    (pss_cons (ps_set (i := 5) sc.nd rfl (Or.inl rfl) (pe_callC c_law_row (hr.mono (by decide)) rfl (pa_cons (pv 0) (pa_cons pe_int (pa_cons pe_int (pa_cons (pe_cmpR (op_eqD hu16) (pv 1) (pe_lst pa_nil) (nomark _)) pa_nil))))))
    (pss_cons (ps_set (i := 6) sc.nd rfl (Or.inl rfl) (pe_callC cwritten (hr.mono (by decide)) rfl (pa_cons (pe_op op_cat (pv 1) (pe_lst (pa_cons (pv 4) pa_nil))) (pa_cons (pv 5) pa_nil))))
    (pss_one (ps_ret (pe_and (pe_callC c_law_is_row (hr.mono (by decide)) rfl (pa_cons (pv 6) pa_nil)) (pe_one (pe_callC c_law_fits (hr.mono (by decide)) rfl (pa_cons (pv 4) (pa_cons (pe_callC cwritten (hr.mono (by decide)) rfl (pa_cons (pv 1) (pa_cons (pv 5) pa_nil))) (pa_cons (pv 6) pa_nil)))))))))))))), ?_⟩
    refine ⟨_, rfl, a, ns, 0, 2, rfl, hS, by decide, fun H1 pl tl s1 npl hly hok hlen => ?_⟩
    refine ⟨_, rfl, a, ns, _, rfl, s1.seq hS, fun m1 m10 m11 => ⟨_, _, rfl, rfl, (by show (0 : Int) < 255; decide), _, _, rfl, rfl, by show 6 ≤ sizeLine; decide, fun u1 hu1 => ?_⟩⟩
    have s2 := Same.upd (o := .lst (intsV [1, 2, 3, 7, 255, 1 + m1 % 255])) s1 hu1
    have s12 : Same H1 (L2.upd H1 u1 (.lst (intsV [1, 2, 3, 7, 255, 1 + m1 % 255]))) := Same.upd (Same.refl H1) hu1
    refine ⟨_, rfl, a, ns, _, rfl, s2.seq hS, fun m2 m20 m21 => ?_⟩
    obtain ⟨sv, hsv, es⟩ := atI_mod (xs := intsV [1, 2, 3, 7, 255, 1 + m1 % 255]) (i := m2 % 6) (by omega) (by rw [ints_len]; simp; omega)
    obtain ⟨sz, hsz, rfl⟩ := List.mem_map.mp hsv
    have hsz1 : 1 ≤ sz ∧ sz ≤ 255 := by simp at hsz; omega
    obtain ⟨n, rfl⟩ : ∃ n : Nat, sz = (n : Int) := ⟨sz.toNat, by omega⟩
    refine ⟨_, _, rfl, rfl, (by show (0 : Int) < 6; decide), u1, _, _, _, rfl, rfl, SqL.of upd_same, es, ?_⟩
    refine ⟨_, rfl, a, ns, _, rfl, s2.seq hS, fun m3 m30 m31 => ⟨_, _, rfl, rfl, (by show (0 : Int) < 256; decide), by show 2 ≤ sizeLine; decide, fun t1 ht1 => ?_⟩⟩
    refine ⟨by show 1 ≤ sizeLine; decide, fun t2 ht2 => ⟨_, rfl, by show 2 ≤ sizeLine; decide, fun t3 ht3 => ⟨_, rfl, by show 2 ≤ sizeLine; decide, fun t4 ht4 => ⟨by show 1 ≤ sizeLine; decide, fun t5 ht5 => ⟨by show 5 ≤ sizeLine; decide, fun u2 hu2 => ?_⟩⟩⟩⟩⟩
    generalize hH2 : L2.upd _ u2 _ = H2
    have k1 : LyAt H2 t1 (.escape (m3 % 256)) := by
      rw [← hH2]; refine ((((((Same.refl _).upd ht2).upd ht3).upd ht4).upd ht5).upd hu2) _ _ ?_; rw [upd_same]; rfl
    have k2 : LyAt H2 t2 (.runs) := by
      rw [← hH2]; refine (((((Same.refl _).upd ht3).upd ht4).upd ht5).upd hu2) _ _ ?_; rw [upd_same]; rfl
    have k3 : LyAt H2 t3 (.chunks n) := by
      rw [← hH2]; refine ((((Same.refl _).upd ht4).upd ht5).upd hu2) _ _ ?_; rw [upd_same]; rfl
    have k4 : LyAt H2 t4 (.checks n) := by
      rw [← hH2]; refine (((Same.refl _).upd ht5).upd hu2) _ _ ?_; rw [upd_same]; rfl
    have k5 : LyAt H2 t5 (.signs) := by
      rw [← hH2]; refine ((Same.refl _).upd hu2) _ _ ?_; rw [upd_same]; rfl
    have ku : H2 u2 = some (.lst [.ref t1, .ref t2, .ref t3, .ref t4, .ref t5]) := by rw [← hH2, upd_same]
    have sH : Same H1 H2 := by rw [← hH2]; exact ((((((s12.upd ht1).upd ht2).upd ht3).upd ht4).upd ht5).upd hu2)
    have sHH : Same H H2 := s1.trans sH
    refine ⟨_, rfl, _, rfl, a, ns, _, rfl, sHH.seq hS, fun m4 m40 m41 => ?_⟩
    obtain ⟨lv, hlv, el⟩ := atI_mod (xs := [V.ref t1, V.ref t2, V.ref t3, V.ref t4, V.ref t5]) (i := m4 % 5) (by omega) (by simp; omega)
    obtain ⟨t, l, rfl, kt, okl, h5⟩ : ∃ t l, lv = .ref t ∧ LyAt H2 t l ∧ l.Ok ∧ isFive l = true := by
      simp at hlv
      rcases hlv with rfl | rfl | rfl | rfl | rfl
      · exact ⟨t1, _, rfl, k1, (by show IsB (m3 % 256); unfold IsB; omega), rfl⟩
      · exact ⟨t2, _, rfl, k2, trivial, rfl⟩
      · exact ⟨t3, _, rfl, k3, ⟨by omega, by omega⟩, rfl⟩
      · exact ⟨t4, _, rfl, k4, ⟨by omega, by omega⟩, rfl⟩
      · exact ⟨t5, _, rfl, k5, trivial, rfl⟩
    refine ⟨_, _, rfl, rfl, (by show (0 : Int) < 5; decide), u2, _, _, _, rfl, rfl, SqL.of ku, el, ?_⟩
    refine ⟨_, rfl, _, rfl, by decide, fun e0 he0 => ?_⟩
    have s3 : Same H2 (L2.upd H2 e0 (.lst [])) := Same.upd (Same.refl H2) he0
    have hly2 := hly.same (sH.trans s3)
    refine ⟨pl, e0, _, _, (lysOf tl).map dtL, [], rfl, rfl, .inl ⟨SqL.of hly2.1, SqL.of upd_same⟩, dv_layers hly2.2, .nil, Nat.le_trans (deps_layers _) (by decide), fun _ => ?_, fun _ => ?_⟩
    all_goals
      refine ⟨a, ns, 20, 14, _, rfl, (sHH.trans s3).seq hS, by decide, fun H3 p xs s4 _ hp hb hl => ?_⟩
      have hl : xs.length ≤ 308 := by simp at hl; omega
      have s5 : Same H2 H3 := s3.trans s4
      have hly3 := hly.same (sH.trans s5)
      refine ⟨_, rfl, _, rfl, by show 1 ≤ sizeLine; decide, fun u3 hu3 => ?_⟩
      have s6 : Same H3 (L2.upd H3 u3 (.lst [.ref t])) := Same.upd (Same.refl H3) hu3
      refine ⟨pl, u3, _, _, rfl, rfl, s6 _ _ hly3.1, upd_same, by rw [List.length_map, sizeLine_eq]; simp; omega, fun u4 hu4 => ⟨_, rfl, ?_⟩⟩
      have s7 : Same H3 (L2.upd (L2.upd H3 u3 (.lst [.ref t])) u4 (.lst (tl.map (fun x => V.ref x.1) ++ [.ref t]))) := s6.upd hu4
      have hok2 : LsOk (lysOf (tl ++ [(t, l)])) := fun x hx => by
        simp only [lysOf, List.map_append, List.mem_append] at hx
        rcases hx with h | h
        · exact hok x h
        · simp at h; subst h; exact okl
      have e3 : lysOf (tl ++ [(t, l)]) = lysOf tl ++ [l] := by simp [lysOf]
      have hpow : ∀ k : Nat, k ≤ 3 → 3 ^ k * (xs.length + 511) ≤ sizeLine := fun k hk => by
        have : 3 ^ k ≤ 3 ^ 3 := Nat.pow_le_pow_right (by decide) hk
        have h2 : 3 ^ k * (xs.length + 511) ≤ 27 * 819 := Nat.mul_le_mul this (by omega)
        rw [sizeLine_eq]; omega
      refine ⟨u4, p, tl ++ [(t, l)], xs, rfl, ⟨by rw [upd_same]; simp, fun x hx => ?_⟩, hok2, by simp; omega, s7 _ _ hp, hb, hpow _ (by simp; omega), fun H5 z m5 _ hz => ?_⟩
      · rcases List.mem_append.mp hx with h | h
        · exact (hly3.2 x h).same s7
        · simp at h; subst h; exact (kt.same s5).same s7
      have s8 : Same H3 H5 := s7.trans m5.same
      have hxb : AllB (wrt (lysOf tl) xs) := wrt_b hok hb
      have hzb : AllB (wrt (lysOf (tl ++ [(t, l)])) xs) := wrt_b hok2 hb
      have hlen1 := wrt_len hok hb
      have hlen2 := wrt_len hok2 hb
      have p1 := hpow (lysOf tl).length (by simp [lysOf]; omega)
      have p2 := hpow (lysOf (tl ++ [(t, l)])).length (by simp [lysOf]; omega)
      refine ⟨_, rfl, z, _, rfl, hz, hzb, by omega, fun H6 s9 => ⟨_, rfl, iteT ?_⟩⟩
      have s10 := s8.trans s9
      refine ⟨_, rfl, _, rfl, _, rfl, pl, p, tl, xs, rfl, hly3.same s10, hok, by omega, s10 _ _ hp, hb, hpow _ (by omega), fun H7 y m7 _ hy => ?_⟩
      have s11 := s10.trans m7.same
      rw [e3, wrt_snoc] at hz
      have hx1 : (wrt (lysOf tl) xs).length ≤ 1000000 := by
        have h1 : 3 ^ (lysOf tl).length ≤ 3 ^ 3 := Nat.pow_le_pow_right (by decide) (by simp [lysOf]; omega)
        have h2 : 3 ^ (lysOf tl).length * (xs.length + 511) ≤ 27 * 819 := Nat.mul_le_mul h1 (by omega)
        omega
      exact ⟨_, rfl, t, y, z, l, _, rfl, (kt.same s5).same s11, okl, h5, hy, hxb, m7.same _ _ (s9 _ _ hz), hx1, fun H8 _ => q H8⟩
end
end Fl
namespace Fl
open PySem L2
theorem fin {P : Program} {w : World} {K : PySem.W.Frag} {h : Heap} {mg : Str → Option Value} {A : Adr} {fa f : Addr} {oc : Value} {od an : Option Addr} {osl : Array (Option Value)} {kV doc pm cdv ct : Value} (X : K.In h) (G : h.Ns mainGlobals mg) (hfa : mg "law" = some (.ref fa)) (TX : Tx K mg A)
    (a : PySem.W.nsIn K mainGlobals "law" = some (some (.ref f))) (l : K.lookup f = some ⟨oc, od, .func (PySem.W.fnOf "law" "law" (defArgs st_law) (defBody st_law) (defScope st_law) .none kV doc pm an cdv ct), osl⟩) (c : PySem.W.codeIn K cdv "law" = true) (k : PySem.W.keepIn K (.ref f) = true) :
    ∃ fd : FuncData, (∀ (s : Shared) (u : Value), BindsTo s fd ⟨[u], []⟩ [("_law_script", u)]) ∧ ∀ base : Heap, K.In base → base.Ns mainGlobals mg → FnOk P w K mg base CX0 20 fa fd ["_law_script"] (spLaw K) := by
  have e := hfa.symm.trans (PySem.W.mg_of X G a)
  cases e
  exact ⟨_, fun s v => .of_eq rfl, fun base _ _ => ok_law TX (fun_mk (st := st_law) l c k)⟩
theorem walk {l : PySem.W.OpenLaw} {q : Program} {loose : List Str} {XP : (Str → Option Value) → Heap → Prop} {YP : World → Heap → Prop} {d : DefRec} {K : Params → PySem.W.Frag} (hn : l.most = some 63) (hdf : d.params.defaults = [])
    (hY : ∀ (w : World) (h : Heap), YP w h → (K w.params).In h)
    (F : ∀ (w : World) (mg : Str → Option Value) (fa : Addr) (h : Heap), (K w.params).In h → h.Ns mainGlobals mg → mg d.name = some (.ref fa) →
      ∃ fd : FuncData, (∀ (s : Shared) (u : Value), BindsTo s fd ⟨[u], []⟩ [("_law_script", u)]) ∧ ∀ base : Heap, (K w.params).In base → base.Ns mainGlobals mg → FnOk l.prog w (K w.params) mg base CX0 20 fa fd ["_law_script"] (spLaw (K w.params))) :
    PySem.W.WalkO q loose XP YP l.row.toRowW d [] (fun f vs => PySem.call f vs) :=
  L2.walk_of (n := 63) (k := 20) (x := "_law_script") (CX := fun _ => CX0) (sp := fun w => spLaw (K w.params)) hn (by decide) hdf ⟨rfl, by decide, by decide⟩ hY F (fun _ _ a ns hl _ hS => ⟨a, ns, rfl, hS, hl, fun _ => rfl⟩) fun _ _ _ _ _ z => z
end Fl
open PySem PySem.W PyProof.Rows
set_option maxRecDepth 100000 in
set_option maxHeartbeats 0 in
theorem PySem.Challenge.cw_flowstack_k21_forms_holds : PySem.Challenge.rw_flowstack_k21_forms.Holds := by
  w_on; o_law; k_head; (case hw => w_witness2)
  k_fill
  refine Fl.walk (l := PySem.Challenge.rw_flowstack_k21_forms) rfl rfl (fun w h Y => PySem.W.kIn_of Y) ?F
  case F =>
    intro w mg fa h KX G hmg
    have h_len : mg "len" = none := by
      refine' PySem.W.mg_none_of KX G ?a
      (case a => k_is)
    have h_all : mg "all" = none := by
      refine' PySem.W.mg_none_of KX G ?a
      (case a => k_is)
    have h_sum : mg "sum" = none := by
      refine' PySem.W.mg_none_of KX G ?a
      (case a => k_is)
    have h_isinstance : mg "isinstance" = none := by
      refine' PySem.W.mg_none_of KX G ?a
      (case a => k_is)
    have h_int : mg "int" = none := by
      refine' PySem.W.mg_none_of KX G ?a
      (case a => k_is)
    have h_bool : mg "bool" = none := by
      refine' PySem.W.mg_none_of KX G ?a
      (case a => k_is)
    have h_list : mg "list" = none := by
      refine' PySem.W.mg_none_of KX G ?a
      (case a => k_is)
    have h_tuple : mg "tuple" = none := by
      refine' PySem.W.mg_none_of KX G ?a
      (case a => k_is)
    have h_range : mg "range" = none := by
      refine' PySem.W.mg_none_of KX G ?a
      (case a => k_is)
    have h_max : mg "max" = none := by
      refine' PySem.W.mg_none_of KX G ?a
      (case a => k_is)
    have h_ord : mg "ord" = none := by
      refine' PySem.W.mg_none_of KX G ?a
      (case a => k_is)
    have h_LONGEST_RUN : L2.Const mg "LONGEST_RUN" (L2.V.int 255) := by
      refine' L2.const_mk KX G ?a ?r
      (case a => k_is); (case r => exact ⟨_, rfl⟩)
    have h_SIGNS : L2.Const mg "SIGNS" (L2.V.str "-0123456789ABCDEFGHIJKLMNOPQRSTUVWXYZ_abcdefghijklmnopqrstuvwxyz") := by
      refine' L2.const_mk KX G ?a ?r
      (case a => k_is); (case r => exact ⟨_, rfl⟩)
    have h_BYTE_WIDTH : L2.Const mg "BYTE_WIDTH" (L2.V.int 8) := by
      refine' L2.const_mk KX G ?a ?r
      (case a => k_is); (case r => exact ⟨_, rfl⟩)
    have h_SIGN_WIDTH : L2.Const mg "SIGN_WIDTH" (L2.V.int 6) := by
      refine' L2.const_mk KX G ?a ?r
      (case a => k_is); (case r => exact ⟨_, rfl⟩)
    have h_MOST_LAYERS : L2.Const mg "MOST_LAYERS" (L2.V.int 8) := by
      refine' L2.const_mk KX G ?a ?r
      (case a => k_is); (case r => exact ⟨_, rfl⟩)
    have h_is_byte : L2.DFun (L2.KOf KX) mg "is_byte" Fl.st_is_byte ["value"] := by
      dsimp only [L2.KOf]
      refine' L2.dfun_mk (ps := ["value"]) KX G ?a ?l ?c ?k ?b
      (case a => k_is); (case l => k_is); (case c => k_is); (case k => k_is); (case b => exact fun _ _ _ _ _ _ us hl => match us, hl with | [_], _ => rfl)
    have h_has_form : L2.DFun (L2.KOf KX) mg "has_form" Fl.st_has_form ["layer", "word", "fewest", "most"] := by
      dsimp only [L2.KOf]
      refine' L2.dfun_mk (ps := ["layer", "word", "fewest", "most"]) KX G ?a ?l ?c ?k ?b
      (case a => k_is); (case l => k_is); (case c => k_is); (case k => k_is); (case b => exact fun _ _ _ _ _ _ us hl => match us, hl with | [_, _, _, _], _ => rfl)
    have h_is_chunks : L2.DFun (L2.KOf KX) mg "is_chunks" Fl.st_is_chunks ["layer"] := by
      dsimp only [L2.KOf]
      refine' L2.dfun_mk (ps := ["layer"]) KX G ?a ?l ?c ?k ?b
      (case a => k_is); (case l => k_is); (case c => k_is); (case k => k_is); (case b => exact fun _ _ _ _ _ _ us hl => match us, hl with | [_], _ => rfl)
    have h_is_checks : L2.DFun (L2.KOf KX) mg "is_checks" Fl.st_is_checks ["layer"] := by
      dsimp only [L2.KOf]
      refine' L2.dfun_mk (ps := ["layer"]) KX G ?a ?l ?c ?k ?b
      (case a => k_is); (case l => k_is); (case c => k_is); (case k => k_is); (case b => exact fun _ _ _ _ _ _ us hl => match us, hl with | [_], _ => rfl)
    have h_is_framed : L2.DFun (L2.KOf KX) mg "is_framed" Fl.st_is_framed ["layer"] := by
      dsimp only [L2.KOf]
      refine' L2.dfun_mk (ps := ["layer"]) KX G ?a ?l ?c ?k ?b
      (case a => k_is); (case l => k_is); (case c => k_is); (case k => k_is); (case b => exact fun _ _ _ _ _ _ us hl => match us, hl with | [_], _ => rfl)
    have h_framed_writer : L2.DFun (L2.KOf KX) mg "framed_writer" Fl.st_framed_writer ["layer"] := by
      dsimp only [L2.KOf]
      refine' L2.dfun_mk (ps := ["layer"]) KX G ?a ?l ?c ?k ?b
      (case a => k_is); (case l => k_is); (case c => k_is); (case k => k_is); (case b => exact fun _ _ _ _ _ _ us hl => match us, hl with | [_], _ => rfl)
    have h_is_escape : L2.DFun (L2.KOf KX) mg "is_escape" Fl.st_is_escape ["layer"] := by
      dsimp only [L2.KOf]
      refine' L2.dfun_mk (ps := ["layer"]) KX G ?a ?l ?c ?k ?b
      (case a => k_is); (case l => k_is); (case c => k_is); (case k => k_is); (case b => exact fun _ _ _ _ _ _ us hl => match us, hl with | [_], _ => rfl)
    have h_is_runs : L2.DFun (L2.KOf KX) mg "is_runs" Fl.st_is_runs ["layer"] := by
      dsimp only [L2.KOf]
      refine' L2.dfun_mk (ps := ["layer"]) KX G ?a ?l ?c ?k ?b
      (case a => k_is); (case l => k_is); (case c => k_is); (case k => k_is); (case b => exact fun _ _ _ _ _ _ us hl => match us, hl with | [_], _ => rfl)
    have h_is_marked : L2.DFun (L2.KOf KX) mg "is_marked" Fl.st_is_marked ["layer"] := by
      dsimp only [L2.KOf]
      refine' L2.dfun_mk (ps := ["layer"]) KX G ?a ?l ?c ?k ?b
      (case a => k_is); (case l => k_is); (case c => k_is); (case k => k_is); (case b => exact fun _ _ _ _ _ _ us hl => match us, hl with | [_], _ => rfl)
    have h_marked_writer : L2.DFun (L2.KOf KX) mg "marked_writer" Fl.st_marked_writer ["layer"] := by
      dsimp only [L2.KOf]
      refine' L2.dfun_mk (ps := ["layer"]) KX G ?a ?l ?c ?k ?b
      (case a => k_is); (case l => k_is); (case c => k_is); (case k => k_is); (case b => exact fun _ _ _ _ _ _ us hl => match us, hl with | [_], _ => rfl)
    have h_behind : L2.DFun (L2.KOf KX) mg "behind" Fl.st_behind ["byte", "steps"] := by
      dsimp only [L2.KOf]
      refine' L2.dfun_mk (ps := ["byte", "steps"]) KX G ?a ?l ?c ?k ?b
      (case a => k_is); (case l => k_is); (case c => k_is); (case k => k_is); (case b => exact fun _ _ _ _ _ _ us hl => match us, hl with | [_, _], _ => rfl)
    have h_is_signs : L2.DFun (L2.KOf KX) mg "is_signs" Fl.st_is_signs ["layer"] := by
      dsimp only [L2.KOf]
      refine' L2.dfun_mk (ps := ["layer"]) KX G ?a ?l ?c ?k ?b
      (case a => k_is); (case l => k_is); (case c => k_is); (case k => k_is); (case b => exact fun _ _ _ _ _ _ us hl => match us, hl with | [_], _ => rfl)
    have h_signs_writer : L2.DFun (L2.KOf KX) mg "signs_writer" Fl.st_signs_writer ["layer"] := by
      dsimp only [L2.KOf]
      refine' L2.dfun_mk (ps := ["layer"]) KX G ?a ?l ?c ?k ?b
      (case a => k_is); (case l => k_is); (case c => k_is); (case k => k_is); (case b => exact fun _ _ _ _ _ _ us hl => match us, hl with | [_], _ => rfl)
    have h_sign_of : L2.DFun (L2.KOf KX) mg "sign_of" Fl.st_sign_of ["group"] := by
      dsimp only [L2.KOf]
      refine' L2.dfun_mk (ps := ["group"]) KX G ?a ?l ?c ?k ?b
      (case a => k_is); (case l => k_is); (case c => k_is); (case k => k_is); (case b => exact fun _ _ _ _ _ _ us hl => match us, hl with | [_], _ => rfl)
    have h_is_add : L2.DFun (L2.KOf KX) mg "is_add" Fl.st_is_add ["layer"] := by
      dsimp only [L2.KOf]
      refine' L2.dfun_mk (ps := ["layer"]) KX G ?a ?l ?c ?k ?b
      (case a => k_is); (case l => k_is); (case c => k_is); (case k => k_is); (case b => exact fun _ _ _ _ _ _ us hl => match us, hl with | [_], _ => rfl)
    have h_is_front : L2.DFun (L2.KOf KX) mg "is_front" Fl.st_is_front ["layer"] := by
      dsimp only [L2.KOf]
      refine' L2.dfun_mk (ps := ["layer"]) KX G ?a ?l ?c ?k ?b
      (case a => k_is); (case l => k_is); (case c => k_is); (case k => k_is); (case b => exact fun _ _ _ _ _ _ us hl => match us, hl with | [_], _ => rfl)
    have h_is_simple : L2.DFun (L2.KOf KX) mg "is_simple" Fl.st_is_simple ["layer"] := by
      dsimp only [L2.KOf]
      refine' L2.dfun_mk (ps := ["layer"]) KX G ?a ?l ?c ?k ?b
      (case a => k_is); (case l => k_is); (case c => k_is); (case k => k_is); (case b => exact fun _ _ _ _ _ _ us hl => match us, hl with | [_], _ => rfl)
    have h_simple_writer : L2.DFun (L2.KOf KX) mg "simple_writer" Fl.st_simple_writer ["layer"] := by
      dsimp only [L2.KOf]
      refine' L2.dfun_mk (ps := ["layer"]) KX G ?a ?l ?c ?k ?b
      (case a => k_is); (case l => k_is); (case c => k_is); (case k => k_is); (case b => exact fun _ _ _ _ _ _ us hl => match us, hl with | [_], _ => rfl)
    have h_written : L2.DFun (L2.KOf KX) mg "written" Fl.st_written ["layers", "row"] := by
      dsimp only [L2.KOf]
      refine' L2.dfun_mk (ps := ["layers", "row"]) KX G ?a ?l ?c ?k ?b
      (case a => k_is); (case l => k_is); (case c => k_is); (case k => k_is); (case b => exact fun _ _ _ _ _ _ us hl => match us, hl with | [_, _], _ => rfl)
    have h_refuse_too_many : L2.DFun (L2.KOf KX) mg "refuse_too_many" Fl.st_refuse_too_many ["layers"] := by
      dsimp only [L2.KOf]
      refine' L2.dfun_mk (ps := ["layers"]) KX G ?a ?l ?c ?k ?b
      (case a => k_is); (case l => k_is); (case c => k_is); (case k => k_is); (case b => exact fun _ _ _ _ _ _ us hl => match us, hl with | [_], _ => rfl)
    have h_layer_writer : L2.DFun (L2.KOf KX) mg "layer_writer" Fl.st_layer_writer ["layer"] := by
      dsimp only [L2.KOf]
      refine' L2.dfun_mk (ps := ["layer"]) KX G ?a ?l ?c ?k ?b
      (case a => k_is); (case l => k_is); (case c => k_is); (case k => k_is); (case b => exact fun _ _ _ _ _ _ us hl => match us, hl with | [_], _ => rfl)
    have h_law_cell : L2.DFun (L2.KOf KX) mg "_law_cell" Fl.st_law_cell ["_law_script", "_law_k"] := by
      dsimp only [L2.KOf]
      refine' L2.dfun_mk (ps := ["_law_script", "_law_k"]) KX G ?a ?l ?c ?k ?b
      (case a => k_is); (case l => k_is); (case c => k_is); (case k => k_is); (case b => exact fun _ _ _ _ _ _ us hl => match us, hl with | [_, _], _ => rfl)
    have h_law_mix : L2.DFun (L2.KOf KX) mg "_law_mix" Fl.st_law_mix ["_law_script", "_law_k"] := by
      dsimp only [L2.KOf]
      refine' L2.dfun_mk (ps := ["_law_script", "_law_k"]) KX G ?a ?l ?c ?k ?b
      (case a => k_is); (case l => k_is); (case c => k_is); (case k => k_is); (case b => exact fun _ _ _ _ _ _ us hl => match us, hl with | [_, _], _ => rfl)
    have h_law_whole : L2.DFun (L2.KOf KX) mg "_law_whole" Fl.st_law_whole ["_law_found"] := by
      dsimp only [L2.KOf]
      refine' L2.dfun_mk (ps := ["_law_found"]) KX G ?a ?l ?c ?k ?b
      (case a => k_is); (case l => k_is); (case c => k_is); (case k => k_is); (case b => exact fun _ _ _ _ _ _ us hl => match us, hl with | [_], _ => rfl)
    have h_law_layer : L2.DFun (L2.KOf KX) mg "_law_layer" Fl.st_law_layer ["_law_script", "_law_k"] := by
      dsimp only [L2.KOf]
      refine' L2.dfun_mk (ps := ["_law_script", "_law_k"]) KX G ?a ?l ?c ?k ?b
      (case a => k_is); (case l => k_is); (case c => k_is); (case k => k_is); (case b => exact fun _ _ _ _ _ _ us hl => match us, hl with | [_, _], _ => rfl)
    have h_law_layers : L2.DFun (L2.KOf KX) mg "_law_layers" Fl.st_law_layers ["_law_script", "_law_k", "_law_most"] := by
      dsimp only [L2.KOf]
      refine' L2.dfun_mk (ps := ["_law_script", "_law_k", "_law_most"]) KX G ?a ?l ?c ?k ?b
      (case a => k_is); (case l => k_is); (case c => k_is); (case k => k_is); (case b => exact fun _ _ _ _ _ _ us hl => match us, hl with | [_, _, _], _ => rfl)
    have h_law_row : L2.DFun (L2.KOf KX) mg "_law_row" Fl.st_law_row ["_law_script", "_law_k", "_law_pieces", "_law_long"] := by
      dsimp only [L2.KOf]
      refine' L2.dfun_mk (ps := ["_law_script", "_law_k", "_law_pieces", "_law_long"]) KX G ?a ?l ?c ?k ?b
      (case a => k_is); (case l => k_is); (case c => k_is); (case k => k_is); (case b => exact fun _ _ _ _ _ _ us hl => match us, hl with | [_, _, _, _], _ => rfl)
    have h_law_is_row : L2.DFun (L2.KOf KX) mg "_law_is_row" Fl.st_law_is_row ["_law_found"] := by
      dsimp only [L2.KOf]
      refine' L2.dfun_mk (ps := ["_law_found"]) KX G ?a ?l ?c ?k ?b
      (case a => k_is); (case l => k_is); (case c => k_is); (case k => k_is); (case b => exact fun _ _ _ _ _ _ us hl => match us, hl with | [_], _ => rfl)
    have h_law_fits : L2.DFun (L2.KOf KX) mg "_law_fits" Fl.st_law_fits ["_law_layer_here", "_law_row_here", "_law_stream"] := by
      dsimp only [L2.KOf]
      refine' L2.dfun_mk (ps := ["_law_layer_here", "_law_row_here", "_law_stream"]) KX G ?a ?l ?c ?k ?b
      (case a => k_is); (case l => k_is); (case c => k_is); (case k => k_is); (case b => exact fun _ _ _ _ _ _ us hl => match us, hl with | [_, _, _], _ => rfl)
    have h_ChunksWriter : ∃ C, Fl.TChunksWriter (L2.KOf KX) mg C := by
      dsimp only [L2.KOf]
      refine' Fl.mk_ChunksWriter KX G ?aC ?pg ?hd ?po ?sa ?mk ?kc ?a_init ?i_init ?l_init ?c_init ?k_init ?a_write_byte ?i_write_byte ?l_write_byte ?c_write_byte ?k_write_byte ?a_close_chunk ?i_close_chunk ?l_close_chunk ?c_close_chunk ?k_close_chunk ?a_end ?i_end ?l_end ?c_end ?k_end ?a_take ?i_take ?l_take ?c_take ?k_take ?n_n ?n_waiting
      (case aC => k_is); (case pg => k_is); (case hd => k_is); (case po => k_is); (case sa => k_is); (case mk => k_is); (case kc => k_is); (case a_init => k_is); (case i_init => k_is); (case l_init => k_is); (case c_init => k_is); (case k_init => k_is); (case a_write_byte => k_is); (case i_write_byte => k_is); (case l_write_byte => k_is); (case c_write_byte => k_is); (case k_write_byte => k_is); (case a_close_chunk => k_is); (case i_close_chunk => k_is); (case l_close_chunk => k_is); (case c_close_chunk => k_is); (case k_close_chunk => k_is); (case a_end => k_is); (case i_end => k_is); (case l_end => k_is); (case c_end => k_is); (case k_end => k_is); (case a_take => k_is); (case i_take => k_is); (case l_take => k_is); (case c_take => k_is); (case k_take => k_is); (case n_n => k_is); (case n_waiting => k_is)
    have h_RunningCheck : ∃ C, Fl.TRunningCheck (L2.KOf KX) mg C := by
      dsimp only [L2.KOf]
      refine' Fl.mk_RunningCheck KX G ?aC ?pg ?hd ?po ?sa ?mk ?kc ?a_init ?i_init ?l_init ?c_init ?k_init ?a_count_byte ?i_count_byte ?l_count_byte ?c_count_byte ?k_count_byte ?a_as_bytes ?i_as_bytes ?l_as_bytes ?c_as_bytes ?k_as_bytes ?n_check
      (case aC => k_is); (case pg => k_is); (case hd => k_is); (case po => k_is); (case sa => k_is); (case mk => k_is); (case kc => k_is); (case a_init => k_is); (case i_init => k_is); (case l_init => k_is); (case c_init => k_is); (case k_init => k_is); (case a_count_byte => k_is); (case i_count_byte => k_is); (case l_count_byte => k_is); (case c_count_byte => k_is); (case k_count_byte => k_is); (case a_as_bytes => k_is); (case i_as_bytes => k_is); (case l_as_bytes => k_is); (case c_as_bytes => k_is); (case k_as_bytes => k_is); (case n_check => k_is)
    have h_ChecksWriter : ∃ C, Fl.TChecksWriter (L2.KOf KX) mg C := by
      dsimp only [L2.KOf]
      refine' Fl.mk_ChecksWriter KX G ?aC ?pg ?hd ?po ?sa ?mk ?kc ?a_init ?i_init ?l_init ?c_init ?k_init ?a_write_byte ?i_write_byte ?l_write_byte ?c_write_byte ?k_write_byte ?a_end ?i_end ?l_end ?c_end ?k_end ?a_take ?i_take ?l_take ?c_take ?k_take ?n_n ?n_running ?n_unchecked
      (case aC => k_is); (case pg => k_is); (case hd => k_is); (case po => k_is); (case sa => k_is); (case mk => k_is); (case kc => k_is); (case a_init => k_is); (case i_init => k_is); (case l_init => k_is); (case c_init => k_is); (case k_init => k_is); (case a_write_byte => k_is); (case i_write_byte => k_is); (case l_write_byte => k_is); (case c_write_byte => k_is); (case k_write_byte => k_is); (case a_end => k_is); (case i_end => k_is); (case l_end => k_is); (case c_end => k_is); (case k_end => k_is); (case a_take => k_is); (case i_take => k_is); (case l_take => k_is); (case c_take => k_is); (case k_take => k_is); (case n_n => k_is); (case n_running => k_is); (case n_unchecked => k_is)
    have h_EscapeWriter : ∃ C, Fl.TEscapeWriter (L2.KOf KX) mg C := by
      dsimp only [L2.KOf]
      refine' Fl.mk_EscapeWriter KX G ?aC ?pg ?hd ?po ?sa ?mk ?kc ?a_init ?i_init ?l_init ?c_init ?k_init ?a_write_byte ?i_write_byte ?l_write_byte ?c_write_byte ?k_write_byte ?a_take ?i_take ?l_take ?c_take ?k_take ?a_end ?i_end ?l_end ?c_end ?k_end ?n_pairs
      (case aC => k_is); (case pg => k_is); (case hd => k_is); (case po => k_is); (case sa => k_is); (case mk => k_is); (case kc => k_is); (case a_init => k_is); (case i_init => k_is); (case l_init => k_is); (case c_init => k_is); (case k_init => k_is); (case a_write_byte => k_is); (case i_write_byte => k_is); (case l_write_byte => k_is); (case c_write_byte => k_is); (case k_write_byte => k_is); (case a_take => k_is); (case i_take => k_is); (case l_take => k_is); (case c_take => k_is); (case k_take => k_is); (case a_end => k_is); (case i_end => k_is); (case l_end => k_is); (case c_end => k_is); (case k_end => k_is); (case n_pairs => k_is)
    have h_RunsWriter : ∃ C, Fl.TRunsWriter (L2.KOf KX) mg C := by
      dsimp only [L2.KOf]
      refine' Fl.mk_RunsWriter KX G ?aC ?pg ?hd ?po ?sa ?mk ?kc ?a_init ?i_init ?l_init ?c_init ?k_init ?a_write_byte ?i_write_byte ?l_write_byte ?c_write_byte ?k_write_byte ?a_close_run ?i_close_run ?l_close_run ?c_close_run ?k_close_run ?a_end ?i_end ?l_end ?c_end ?k_end ?a_take ?i_take ?l_take ?c_take ?k_take ?n_count ?n_byte
      (case aC => k_is); (case pg => k_is); (case hd => k_is); (case po => k_is); (case sa => k_is); (case mk => k_is); (case kc => k_is); (case a_init => k_is); (case i_init => k_is); (case l_init => k_is); (case c_init => k_is); (case k_init => k_is); (case a_write_byte => k_is); (case i_write_byte => k_is); (case l_write_byte => k_is); (case c_write_byte => k_is); (case k_write_byte => k_is); (case a_close_run => k_is); (case i_close_run => k_is); (case l_close_run => k_is); (case c_close_run => k_is); (case k_close_run => k_is); (case a_end => k_is); (case i_end => k_is); (case l_end => k_is); (case c_end => k_is); (case k_end => k_is); (case a_take => k_is); (case i_take => k_is); (case l_take => k_is); (case c_take => k_is); (case k_take => k_is); (case n_count => k_is); (case n_byte => k_is)
    have h_HeldDigits : ∃ C, Fl.THeldDigits (L2.KOf KX) mg C := by
      dsimp only [L2.KOf]
      refine' Fl.mk_HeldDigits KX G ?aC ?pg ?hd ?po ?sa ?mk ?kc ?a_init ?i_init ?l_init ?c_init ?k_init ?a_push ?i_push ?l_push ?c_push ?k_push ?a_draw_digits ?i_draw_digits ?l_draw_digits ?c_draw_digits ?k_draw_digits ?n_held ?n_width
      (case aC => k_is); (case pg => k_is); (case hd => k_is); (case po => k_is); (case sa => k_is); (case mk => k_is); (case kc => k_is); (case a_init => k_is); (case i_init => k_is); (case l_init => k_is); (case c_init => k_is); (case k_init => k_is); (case a_push => k_is); (case i_push => k_is); (case l_push => k_is); (case c_push => k_is); (case k_push => k_is); (case a_draw_digits => k_is); (case i_draw_digits => k_is); (case l_draw_digits => k_is); (case c_draw_digits => k_is); (case k_draw_digits => k_is); (case n_held => k_is); (case n_width => k_is)
    have h_SignsWriter : ∃ C, Fl.TSignsWriter (L2.KOf KX) mg C := by
      dsimp only [L2.KOf]
      refine' Fl.mk_SignsWriter KX G ?aC ?pg ?hd ?po ?sa ?mk ?kc ?a_init ?i_init ?l_init ?c_init ?k_init ?a_write_byte ?i_write_byte ?l_write_byte ?c_write_byte ?k_write_byte ?a_end ?i_end ?l_end ?c_end ?k_end ?a_take ?i_take ?l_take ?c_take ?k_take ?n_digits
      (case aC => k_is); (case pg => k_is); (case hd => k_is); (case po => k_is); (case sa => k_is); (case mk => k_is); (case kc => k_is); (case a_init => k_is); (case i_init => k_is); (case l_init => k_is); (case c_init => k_is); (case k_init => k_is); (case a_write_byte => k_is); (case i_write_byte => k_is); (case l_write_byte => k_is); (case c_write_byte => k_is); (case k_write_byte => k_is); (case a_end => k_is); (case i_end => k_is); (case l_end => k_is); (case c_end => k_is); (case k_end => k_is); (case a_take => k_is); (case i_take => k_is); (case l_take => k_is); (case c_take => k_is); (case k_take => k_is); (case n_digits => k_is)
    have h_TurningKey : ∃ C, Fl.TTurningKey (L2.KOf KX) mg C := by
      dsimp only [L2.KOf]
      refine' Fl.mk_TurningKey KX G ?aC ?pg ?hd ?po ?sa ?mk ?kc ?a_init ?i_init ?l_init ?c_init ?k_init ?a_draw ?i_draw ?l_draw ?c_draw ?k_draw ?n_key ?n_turn
      (case aC => k_is); (case pg => k_is); (case hd => k_is); (case po => k_is); (case sa => k_is); (case mk => k_is); (case kc => k_is); (case a_init => k_is); (case i_init => k_is); (case l_init => k_is); (case c_init => k_is); (case k_init => k_is); (case a_draw => k_is); (case i_draw => k_is); (case l_draw => k_is); (case c_draw => k_is); (case k_draw => k_is); (case n_key => k_is); (case n_turn => k_is)
    have h_AddWriter : ∃ C, Fl.TAddWriter (L2.KOf KX) mg C := by
      dsimp only [L2.KOf]
      refine' Fl.mk_AddWriter KX G ?aC ?pg ?hd ?po ?sa ?mk ?kc ?a_init ?i_init ?l_init ?c_init ?k_init ?a_write_byte ?i_write_byte ?l_write_byte ?c_write_byte ?k_write_byte ?a_take ?i_take ?l_take ?c_take ?k_take ?a_end ?i_end ?l_end ?c_end ?k_end ?n_turning
      (case aC => k_is); (case pg => k_is); (case hd => k_is); (case po => k_is); (case sa => k_is); (case mk => k_is); (case kc => k_is); (case a_init => k_is); (case i_init => k_is); (case l_init => k_is); (case c_init => k_is); (case k_init => k_is); (case a_write_byte => k_is); (case i_write_byte => k_is); (case l_write_byte => k_is); (case c_write_byte => k_is); (case k_write_byte => k_is); (case a_take => k_is); (case i_take => k_is); (case l_take => k_is); (case c_take => k_is); (case k_take => k_is); (case a_end => k_is); (case i_end => k_is); (case l_end => k_is); (case c_end => k_is); (case k_end => k_is); (case n_turning => k_is)
    have h_FrontRow : ∃ C, Fl.TFrontRow (L2.KOf KX) mg C := by
      dsimp only [L2.KOf]
      refine' Fl.mk_FrontRow KX G ?aC ?pg ?hd ?po ?sa ?mk ?kc ?a_init ?i_init ?l_init ?c_init ?k_init ?a_place_of ?i_place_of ?l_place_of ?c_place_of ?k_place_of ?a_bring_forward ?i_bring_forward ?l_bring_forward ?c_bring_forward ?k_bring_forward ?n_standing
      (case aC => k_is); (case pg => k_is); (case hd => k_is); (case po => k_is); (case sa => k_is); (case mk => k_is); (case kc => k_is); (case a_init => k_is); (case i_init => k_is); (case l_init => k_is); (case c_init => k_is); (case k_init => k_is); (case a_place_of => k_is); (case i_place_of => k_is); (case l_place_of => k_is); (case c_place_of => k_is); (case k_place_of => k_is); (case a_bring_forward => k_is); (case i_bring_forward => k_is); (case l_bring_forward => k_is); (case c_bring_forward => k_is); (case k_bring_forward => k_is); (case n_standing => k_is)
    have h_FrontWriter : ∃ C, Fl.TFrontWriter (L2.KOf KX) mg C := by
      dsimp only [L2.KOf]
      refine' Fl.mk_FrontWriter KX G ?aC ?pg ?hd ?po ?sa ?mk ?kc ?a_init ?i_init ?l_init ?c_init ?k_init ?a_write_byte ?i_write_byte ?l_write_byte ?c_write_byte ?k_write_byte ?a_take ?i_take ?l_take ?c_take ?k_take ?a_end ?i_end ?l_end ?c_end ?k_end ?n_front_row
      (case aC => k_is); (case pg => k_is); (case hd => k_is); (case po => k_is); (case sa => k_is); (case mk => k_is); (case kc => k_is); (case a_init => k_is); (case i_init => k_is); (case l_init => k_is); (case c_init => k_is); (case k_init => k_is); (case a_write_byte => k_is); (case i_write_byte => k_is); (case l_write_byte => k_is); (case c_write_byte => k_is); (case k_write_byte => k_is); (case a_take => k_is); (case i_take => k_is); (case l_take => k_is); (case c_take => k_is); (case k_take => k_is); (case a_end => k_is); (case i_end => k_is); (case l_end => k_is); (case c_end => k_is); (case k_end => k_is); (case n_front_row => k_is)
    have h_Writer : ∃ C, Fl.TWriter (L2.KOf KX) mg C := by
      dsimp only [L2.KOf]
      refine' Fl.mk_Writer KX G ?aC ?pg ?hd ?po ?sa ?mk ?kc ?a_init ?i_init ?l_init ?c_init ?k_init ?a_take ?i_take ?l_take ?c_take ?k_take ?a_end ?i_end ?l_end ?c_end ?k_end ?n_writers
      (case aC => k_is); (case pg => k_is); (case hd => k_is); (case po => k_is); (case sa => k_is); (case mk => k_is); (case kc => k_is); (case a_init => k_is); (case i_init => k_is); (case l_init => k_is); (case c_init => k_is); (case k_init => k_is); (case a_take => k_is); (case i_take => k_is); (case l_take => k_is); (case c_take => k_is); (case k_take => k_is); (case a_end => k_is); (case i_end => k_is); (case l_end => k_is); (case c_end => k_is); (case k_end => k_is); (case n_writers => k_is)
    obtain ⟨c_ChunksWriter, h_ChunksWriter⟩ := h_ChunksWriter
    obtain ⟨c_RunningCheck, h_RunningCheck⟩ := h_RunningCheck
    obtain ⟨c_ChecksWriter, h_ChecksWriter⟩ := h_ChecksWriter
    obtain ⟨c_EscapeWriter, h_EscapeWriter⟩ := h_EscapeWriter
    obtain ⟨c_RunsWriter, h_RunsWriter⟩ := h_RunsWriter
    obtain ⟨c_HeldDigits, h_HeldDigits⟩ := h_HeldDigits
    obtain ⟨c_SignsWriter, h_SignsWriter⟩ := h_SignsWriter
    obtain ⟨c_TurningKey, h_TurningKey⟩ := h_TurningKey
    obtain ⟨c_AddWriter, h_AddWriter⟩ := h_AddWriter
    obtain ⟨c_FrontRow, h_FrontRow⟩ := h_FrontRow
    obtain ⟨c_FrontWriter, h_FrontWriter⟩ := h_FrontWriter
    obtain ⟨c_Writer, h_Writer⟩ := h_Writer
    have TX : Fl.Tx (L2.KOf KX) mg ⟨c_ChunksWriter, c_RunningCheck, c_ChecksWriter, c_EscapeWriter, c_RunsWriter, c_HeldDigits, c_SignsWriter, c_TurningKey, c_AddWriter, c_FrontRow, c_FrontWriter, c_Writer⟩ := ⟨h_len, h_all, h_sum, h_isinstance, h_int, h_bool, h_list, h_tuple, h_range, h_max, h_ord, h_LONGEST_RUN, h_SIGNS, h_BYTE_WIDTH, h_SIGN_WIDTH, h_MOST_LAYERS, h_is_byte, h_has_form, h_is_chunks, h_is_checks, h_is_framed, h_framed_writer, h_is_escape, h_is_runs, h_is_marked, h_marked_writer, h_behind, h_is_signs, h_signs_writer, h_sign_of, h_is_add, h_is_front, h_is_simple, h_simple_writer, h_written, h_refuse_too_many, h_layer_writer, h_law_cell, h_law_mix, h_law_whole, h_law_layer, h_law_layers, h_law_row, h_law_is_row, h_law_fits, h_ChunksWriter, h_RunningCheck, h_ChecksWriter, h_EscapeWriter, h_RunsWriter, h_HeldDigits, h_SignsWriter, h_TurningKey, h_AddWriter, h_FrontRow, h_FrontWriter, h_Writer⟩
    refine' Fl.fin KX G hmg TX ?a ?l ?c ?k
    (case a => k_is); (case l => k_is); (case c => k_is); (case k => k_is)
