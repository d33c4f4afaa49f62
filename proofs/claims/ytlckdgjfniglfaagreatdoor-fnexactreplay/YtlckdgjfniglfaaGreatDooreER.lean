import Derived.Test.YtlckdgjfniglfaaGreatDooreEM
import Derived.Test.YtlckdgjfniglfaaGreatDooreEN
import Derived.Test.YtlckdgjfniglfaaGreatDoorS1
set_option linter.unusedVariables false
set_option maxHeartbeats 8000000
set_option maxRecDepth 100000
namespace Go.Proofs.YtlckdgjfniglfaaGreatDoor
open Proofs.Tryz
open Go.RowKit
def LsLk (l:List UInt8) (x:L4) (ok:Bool):Prop:=(∀ y,LkOk y->l=lookB y->ok=true/\x=y)/\(isW l=false->ok=false)
def Is13 (l:List UInt8) (e:Ending):Prop:=∃ (x:L4) (ok:Bool),e=.returned (.tuple #[x.v,.bool ok])/\LsLk l x ok/\x.le 1048576
theorem lsk_no {l:List UInt8} (h:isW l=false) (x:L4):LsLk l x false:=by
 refine ⟨fun y hy e=>?_,fun _=>rfl⟩;obtain ⟨a,_⟩:=look_parts hy.1;rw [<- e] at a;rw [(word_isW a).1] at h;cases h
theorem lsk_yes {l:List UInt8} {c:Int} {t:ByteArray} (h:isW l=true) (hr:LsRes (restOf (restOf l)) c t):LsLk l ⟨hasW l,ofL (wordOf (restOf l)),c,t⟩ true:=by
 constructor
 · intro y hy e
   obtain ⟨a,b,d⟩:=look_parts hy.1;rw [<- e] at a b d;obtain ⟨h1,h2⟩:=hr _ _ (lk_code hy).1 (lk_code hy).2 d;refine ⟨rfl,?_⟩;rw [(word_isW a).2,b,h1,h2];rfl
 · intro e;rw [h] at e;cases e
theorem c33g (l:List UInt8) (w:World) (hs:l.length<=16000):
 Calls prog 33 #[.string (ofL l)] w fun e w'=>Is13 l e/\Below w.heap.size w w':=by
 have hB0:Below w.heap.size w (w.alloc (.cells #[.bool false,.string ⟨#[]⟩,.int .i64 0,.string ⟨#[]⟩] 74)):=bA_;have hr:=rest_small l;have hr2:=rest_small (restOf l);have h1:=has_eq l;have h2:=ask_eq l;have hI:isW l=(hasW l || decide (wordOf l=[97,115,107])):=rfl;go_enter func33,ntmps33
 go_wp2_with fail
 refine (c30o l _ om_ 2 om_ om_).mono ?_;rintro e w1 ⟨⟨g,cp,rfl,hg0,hln⟩,hb1⟩;have c0:w1.cell? ⟨g,0,none⟩=some (.string (ofL (wordOf l))):=hln.2 0 (by simp [wordsN]);have c1:w1.cell? ⟨g,1,none⟩=some (.string (ofL (wordOf (restOf l)))):=hln.2 1 (by simp [wordsN]);have hg1:=hln.1;have hx1:Below (w.heap.size+1) (w.alloc (.cells #[.bool false,.string ⟨#[]⟩,.int .i64 0,.string ⟨#[]⟩] 74)) w1:=by simpa using hb1
 have hg2:w.heap.size<g:=by have h:=hg0;simp at h;omega
 have hB1:Below w.heap.size w w1:=hB0.trans (hx1.mono om_);clear hb1 hln hg0;obtain ⟨bA,oA⟩:=blk_keep (vs:=[.bool false,.string ⟨#[]⟩,.int .i64 0,.string ⟨#[]⟩]) hx1;have HNo:isW l=false->Hid (Is13 l (.returned (.tuple #[.agg #[.bool false,.string ⟨#[]⟩,.int .i64 0,.string ⟨#[]⟩],.bool false]))):=fun h=>⟨l4z,false,rfl,lsk_no h _,⟨Nat.zero_le _,Nat.zero_le _⟩⟩;have HYes:isW l=true->∀ c t,LsRes (restOf (restOf l)) c t->t.size<=1048576->Hid (Is13 l (.returned (.tuple #[.agg #[.bool (hasW l),.string (ofL (wordOf (restOf l))),.int .i64 c,.string t],.bool true]))):=fun h c t hq ht=>⟨⟨hasW l,ofL (wordOf (restOf l)),c,t⟩,true,rfl,lsk_yes h hq,⟨by show (ofL (wordOf (restOf l))).size<=1048576;rw [ofL_size];omega,ht⟩⟩;have h50:=c34 (restOf (restOf l));have hrN:ofL (restN l 2)=ofL (restOf (restOf l)):=rfl;rw [hrN];have hlen:(restOf (restOf l)).length<=16000:=om_;clear hrN;generalize restOf (restOf l)=R at*;generalize ofL (wordOf (restOf l))=B at*;generalize decide (wordOf l=[97,115,107])=a at*;generalize hasW l=h at*;generalize isW l=i at*;generalize ofL (wordOf l)=s at*;have hz1:w.heap.size<w1.heap.size:=by have h:=hx1.size;simp at h;omega
 subst hI;clear hr hr2;cases h
 · cases a
   · have HI:=HNo rfl
     clear HNo HYes h50
     go_wp2_with (refine wpList_store_blk rfl 74 (.tmp 2) (.tmp 21) rfl w.heap.size 0 rfl [.bool false,.string ⟨#[]⟩,.int .i64 0,.string ⟨#[]⟩] rfl (blk_someE bA _ rfl) oA (by simp [Value.oneCell']) kr_ rfl ?_)
     have FF:=BlkAt.fill (B:=w.heap.size) [.bool false,.string ⟨#[]⟩,.int .i64 0,.string ⟨#[]⟩] [] [.bool false,.string ⟨#[]⟩,.int .i64 0,.string ⟨#[]⟩] [] 0 bA rfl rfl;refine bodyPost_ret (v:=.tuple #[.agg #[.bool false,.string ⟨#[]⟩,.int .i64 0,.string ⟨#[]⟩],.bool false]) (by exact results_blk2 Tryz.results33 _ _ w.heap.size _ _ _ rfl rfl FF underlying74 rfl kr_) rfl ⟨HI.out,by exact below_fill lr_ _ 0 hB1⟩
   · clear HNo
     go_wp2_with fail
     refine wp_region_held_drew (S:=(fun u=>u.cell? ⟨g,0,none⟩=some (.string s)/\u.cell? ⟨g,1,none⟩=some (.string B))) kr_ ?_ fun hHeld=>?_
     · exact ⟨c0,c1⟩
     refine tq 0 hHeld ?_
     try simp only [qq]
     refine tq 1 hHeld ?_
     try simp only [qq]
     refine tq 2 hHeld ?_
     try simp only [qq]
     refine tq 3 hHeld ?_
     try simp only [qq]
     refine tq 4 hHeld ?_
     try simp only [qq]
     refine tq 5 hHeld ?_
     try simp only [qq]
     refine tq 6 hHeld ?_
     try simp only [qq]
     refine tq 7 hHeld ?_
     try simp only [qq]
     refine rq 8 fun K hK=>?_;go_simp;refine (h50 _ hlen).mono ?_;rintro e w2 ⟨⟨c,t,rfl,hrr,hts⟩,hb2⟩;have hbc:Below w1.heap.size w1 w2:=((Below.refl _ _).drew).trans hb2;have hA2:=bA.below hbc hz1;have hO2:=oA.below hbc hz1;have hB2:Below w.heap.size w w2:=bT_ hB1 hbc;have HI:=HYes (by first | rfl | trivial) c t hrr hts;have e0:=(hbc.cell (p:=⟨g,0,none⟩) hg1).trans c0;have e1:=(hbc.cell (p:=⟨g,1,none⟩) hg1).trans c1;clear HYes hrr hb2 hbc
     go_wp2_with fail
     clear hHeld;refine hK.out _ _ ?_ fun hHeld=>?_
     · exact ⟨e0,e1⟩
     clear hK K
     try simp only [qq]
     refine tq 9 hHeld ?_
     try simp only [qq]
     refine rq 10 fun K hK=>?_;refine step_store_blk rfl 74 (.tmp 2) (.tmp 31) rfl w.heap.size 0 rfl [.bool false,.string B,.int .i64 c,.string t] rfl (blk_someE hA2 _ rfl) hO2 (by simp [Value.oneCell']) kr_ rfl ?_;clear hHeld;refine hK.out _ _ ?_ fun hHeld=>?_
     · exact ⟨(cell_fill _ 0 ⟨g,0,none⟩ (by show g≠w.heap.size;omega)).trans e0,(cell_fill _ 0 ⟨g,1,none⟩ (by show g≠w.heap.size;omega)).trans e1⟩
     clear hK K
     try simp only [qq]
     refine tq 11 hHeld ?_
     try simp only [qq]
     refine wpAnyH_done kr_ ?_ _;clear hHeld;go_wp2;have FF:=BlkAt.fill (B:=w.heap.size) [.bool false,.string B,.int .i64 c,.string t] [] [.bool false,.string ⟨#[]⟩,.int .i64 0,.string ⟨#[]⟩] [] 0 hA2 rfl rfl;refine bodyPost_ret (v:=.tuple #[.agg #[.bool false,.string B,.int .i64 c,.string t],.bool true]) (by exact results_blk2 Tryz.results33 _ _ w.heap.size _ _ _ rfl rfl FF underlying74 rfl kr_) rfl ⟨HI.out,by exact below_fill lr_ _ 0 hB2⟩
 · clear HNo
   cases a
   · go_wp2_with fail
     refine wp_region_held_drew (S:=(fun u=>u.cell? ⟨g,0,none⟩=some (.string s)/\u.cell? ⟨g,1,none⟩=some (.string B))) kr_ ?_ fun hHeld=>?_
     · exact ⟨c0,c1⟩
     refine tq 0 hHeld ?_
     try simp only [qq]
     refine tq 1 hHeld ?_
     try simp only [qq]
     refine tq 2 hHeld ?_
     try simp only [qq]
     refine tq 3 hHeld ?_
     try simp only [qq]
     refine tq 4 hHeld ?_
     try simp only [qq]
     refine tq 5 hHeld ?_
     try simp only [qq]
     refine tq 6 hHeld ?_
     try simp only [qq]
     refine tq 7 hHeld ?_
     try simp only [qq]
     refine rq 8 fun K hK=>?_;go_simp;refine (h50 _ hlen).mono ?_;rintro e w2 ⟨⟨c,t,rfl,hrr,hts⟩,hb2⟩;have hbc:Below w1.heap.size w1 w2:=((Below.refl _ _).drew).trans hb2;have hA2:=bA.below hbc hz1;have hO2:=oA.below hbc hz1;have hB2:Below w.heap.size w w2:=bT_ hB1 hbc;have HI:=HYes (by first | rfl | trivial) c t hrr hts;have e0:=(hbc.cell (p:=⟨g,0,none⟩) hg1).trans c0;have e1:=(hbc.cell (p:=⟨g,1,none⟩) hg1).trans c1;clear HYes hrr hb2 hbc
     go_wp2_with fail
     clear hHeld;refine hK.out _ _ ?_ fun hHeld=>?_
     · exact ⟨e0,e1⟩
     clear hK K
     try simp only [qq]
     refine tq 9 hHeld ?_
     try simp only [qq]
     refine rq 10 fun K hK=>?_;refine step_store_blk rfl 74 (.tmp 2) (.tmp 31) rfl w.heap.size 0 rfl [.bool true,.string B,.int .i64 c,.string t] rfl (blk_someE hA2 _ rfl) hO2 (by simp [Value.oneCell']) kr_ rfl ?_;clear hHeld;refine hK.out _ _ ?_ fun hHeld=>?_
     · exact ⟨(cell_fill _ 0 ⟨g,0,none⟩ (by show g≠w.heap.size;omega)).trans e0,(cell_fill _ 0 ⟨g,1,none⟩ (by show g≠w.heap.size;omega)).trans e1⟩
     clear hK K
     try simp only [qq]
     refine tq 11 hHeld ?_
     try simp only [qq]
     refine wpAnyH_done kr_ ?_ _;clear hHeld;go_wp2;have FF:=BlkAt.fill (B:=w.heap.size) [.bool true,.string B,.int .i64 c,.string t] [] [.bool false,.string ⟨#[]⟩,.int .i64 0,.string ⟨#[]⟩] [] 0 hA2 rfl rfl;refine bodyPost_ret (v:=.tuple #[.agg #[.bool true,.string B,.int .i64 c,.string t],.bool true]) (by exact results_blk2 Tryz.results33 _ _ w.heap.size _ _ _ rfl rfl FF underlying74 rfl kr_) rfl ⟨HI.out,by exact below_fill lr_ _ 0 hB2⟩
   · go_wp2_with fail
     refine wp_region_held_drew (S:=(fun u=>u.cell? ⟨g,0,none⟩=some (.string s)/\u.cell? ⟨g,1,none⟩=some (.string B))) kr_ ?_ fun hHeld=>?_
     · exact ⟨c0,c1⟩
     refine tq 0 hHeld ?_
     try simp only [qq]
     refine tq 1 hHeld ?_
     try simp only [qq]
     refine tq 2 hHeld ?_
     try simp only [qq]
     refine tq 3 hHeld ?_
     try simp only [qq]
     refine tq 4 hHeld ?_
     try simp only [qq]
     refine tq 5 hHeld ?_
     try simp only [qq]
     refine tq 6 hHeld ?_
     try simp only [qq]
     refine tq 7 hHeld ?_
     try simp only [qq]
     refine rq 8 fun K hK=>?_;go_simp;refine (h50 _ hlen).mono ?_;rintro e w2 ⟨⟨c,t,rfl,hrr,hts⟩,hb2⟩;have hbc:Below w1.heap.size w1 w2:=((Below.refl _ _).drew).trans hb2;have hA2:=bA.below hbc hz1;have hO2:=oA.below hbc hz1;have hB2:Below w.heap.size w w2:=bT_ hB1 hbc;have HI:=HYes (by first | rfl | trivial) c t hrr hts;have e0:=(hbc.cell (p:=⟨g,0,none⟩) hg1).trans c0;have e1:=(hbc.cell (p:=⟨g,1,none⟩) hg1).trans c1;clear HYes hrr hb2 hbc
     go_wp2_with fail
     clear hHeld;refine hK.out _ _ ?_ fun hHeld=>?_
     · exact ⟨e0,e1⟩
     clear hK K
     try simp only [qq]
     refine tq 9 hHeld ?_
     try simp only [qq]
     refine rq 10 fun K hK=>?_;refine step_store_blk rfl 74 (.tmp 2) (.tmp 31) rfl w.heap.size 0 rfl [.bool true,.string B,.int .i64 c,.string t] rfl (blk_someE hA2 _ rfl) hO2 (by simp [Value.oneCell']) kr_ rfl ?_;clear hHeld;refine hK.out _ _ ?_ fun hHeld=>?_
     · exact ⟨(cell_fill _ 0 ⟨g,0,none⟩ (by show g≠w.heap.size;omega)).trans e0,(cell_fill _ 0 ⟨g,1,none⟩ (by show g≠w.heap.size;omega)).trans e1⟩
     clear hK K
     try simp only [qq]
     refine tq 11 hHeld ?_
     try simp only [qq]
     refine wpAnyH_done kr_ ?_ _;clear hHeld;go_wp2;have FF:=BlkAt.fill (B:=w.heap.size) [.bool true,.string B,.int .i64 c,.string t] [] [.bool false,.string ⟨#[]⟩,.int .i64 0,.string ⟨#[]⟩] [] 0 hA2 rfl rfl;refine bodyPost_ret (v:=.tuple #[.agg #[.bool true,.string B,.int .i64 c,.string t],.bool true]) (by exact results_blk2 Tryz.results33 _ _ w.heap.size _ _ _ rfl rfl FF underlying74 rfl kr_) rfl ⟨HI.out,by exact below_fill lr_ _ 0 hB2⟩
theorem c35 (x:N10) (ai:Option Addr) (ci:Nat) (w:World) (hle:x.le 1048576) (hat:LksAt w ai x.ls):
 Calls prog 35 #[.agg (x.c ai ci).toArray] w fun e w'=>IsT (EntOk x) (entL x) e/\Below w.heap.size w w':=by
 show Calls prog 35 #[.agg #[.int .i64 x.kd,.int .i64 x.ep,.string x.fn,.string x.ft,.string x.km.nm,.string x.km.tl,.string x.km.ar,.slice ai x.ls.length ci,.int .i64 x.cd,.string x.tx]] w _;by_cases h1:x.kd=1
 · have:=c35_1 x h1 ai ci w hle hat
   rw [h1];exact this
 by_cases h2:x.kd=2
 · have:=c35_2 x h2 ai ci w hle hat
   rw [h2];exact this
 by_cases h3:x.kd=3
 · have:=c35_3 x h3 ai ci w hle hat
   rw [h3];exact this
 by_cases h4:x.kd=4
 · have:=c35_4 x h4 ai ci w hle hat
   rw [h4];exact this
 by_cases h5:x.kd=5
 · have:=c35_5 x h5 ai ci w hle hat
   rw [h5];exact this
 exact c35_no x ai ci w h1 h2 h3 h4 h5
def RES (l:List UInt8) (x:N10) (ok:Bool):Prop:=(ok=true->EntOk x/\entL x=l/\∀ y,EntOk y->entL y=l->x=y)/\(ok=false->∀ y,EntOk y->entL y≠l)
def Is4 (l:List UInt8) (w':World) (e:Ending):Prop:=∃ (x:N10) (ok:Bool) (ai:Option Addr) (ci:Nat),e=.returned (.tuple #[.agg (x.c ai ci).toArray,.bool ok])/\RES l x ok/\(ok=false->x=n10z/\ai=none/\ci=0)/\x.le 1048576/\LksAt w' ai x.ls
def LsE (l:List UInt8) (x:N10):Prop:=∀ y,EntOk y->entL y=l->x=y
theorem res_yes {l:List UInt8} {str:ByteArray} {x:N10} (hx:LsE l x) (hT:(EntOk x/\str=ofL (entL x))\/(¬ EntOk x/\str=⟨#[]⟩)) (hl:l≠[]) (he:str.data.toList=l):RES l x true:=by
 refine ⟨fun _=>?_,(fun h=>by cases h)⟩;rcases hT with ⟨h1,h2⟩ | ⟨h1,h2⟩
 · exact ⟨h1,by rw [<- he,h2];rfl,hx⟩
 · rw [h2] at he
   exact absurd he.symm hl
theorem res_no {l:List UInt8} {str:ByteArray} {x:N10} (hx:LsE l x) (hT:(EntOk x/\str=ofL (entL x))\/(¬ EntOk x/\str=⟨#[]⟩)) (he:str.data.toList≠l):RES l n10z false:=by
 refine ⟨(fun h=>by cases h),fun _ y hy e=>?_⟩;have:=hx y hy e;subst this;rcases hT with ⟨h1,h2⟩ | ⟨h1,h2⟩
 · apply he;rw [h2];exact e
 · exact h1 hy
theorem res_out {l:List UInt8} (h:l=[]\/16000<l.length):RES l n10z false:=by
 refine ⟨(fun h=>by cases h),fun _ y hy e=>?_⟩;have:=ent_len hy;rw [e] at this;rcases h with h | h
 · rw [h] at this;simp at this
 · omega
theorem fin4 {w u:World} {a:Act} {l:List UInt8} (x:N10) (ai:Option Addr) (ci:Nat) (ok:Bool) (hn:RES l x ok) (hz:ok=false->x=n10z/\ai=none/\ci=0) (hx:x.le 1048576) (hlk:LksAt (fill u w.heap.size 0 (x.c ai ci)) ai x.ls) (h4:a.tmps.getD 2 undef=.pointer (some ⟨w.heap.size,0,none⟩)) (h5:a.tmps.getD 3 undef=.bool ok) (hd:a.defers=[]) (hA:BlkAt u w.heap.size zE) (hb:Below w.heap.size w u):
 bodyPost prog Tryz.f14 (fun e w'=>Is4 l w' e/\Below w.heap.size w w') .ret a (fill u w.heap.size 0 (x.c ai ci)):=by
 have FF:=BlkAt.fill (B:=w.heap.size) (x.c ai ci) [] zE [] 0 hA rfl rfl;exact bodyPost_ret (v:=.tuple #[.agg (x.c ai ci).toArray,.bool ok]) (results_blk2 Tryz.results14 _ _ w.heap.size _ _ _ h4 h5 FF underlying47 rfl kr_) hd ⟨⟨x,ok,ai,ci,rfl,hn,hz,hx,hlk⟩,below_fill lr_ _ 0 hb⟩
theorem fin4_no {w u:World} {a:Act} {l:List UInt8} (hn:RES l n10z false) (h4:a.tmps.getD 2 undef=.pointer (some ⟨w.heap.size,0,none⟩)) (h5:a.tmps.getD 3 undef=.bool false) (hd:a.defers=[]) (hA:BlkAt u w.heap.size zE) (hb:Below w.heap.size w u):
 bodyPost prog Tryz.f14 (fun e w'=>Is4 l w' e/\Below w.heap.size w w') .ret a (fill u w.heap.size 0 zE):=
 fin4 n10z none 0 false hn (fun _=>⟨rfl,rfl,rfl⟩) n10z_le (.inl rfl) h4 h5 hd hA hb
theorem lks_filo {u:World} {B:Nat} (vs:List Value) {ai:Option Addr} {is:List L4} (h:LksAt u ai is) (hb:∀ g o,ai=some ⟨g,o,none⟩->g≠B):LksAt (fill u B 0 vs) ai is:=by
 rcases h with h | ⟨b,off,h1,h2,h3⟩
 · exact .inl h
 · refine .inr ⟨b,off,h1,by rw [size_fill];exact h2,fun i hi=>?_⟩
   have hne:=hb b off h1;rw [cell_fill _ _ _ hne,cell_fill _ _ _ hne,cell_fill _ _ _ hne,cell_fill _ _ _ hne];exact h3 i hi
theorem own_setE {w:World} {B e size n:Nat} {v:Value} {xs:List Value} (h:w.ownsRow B e size v n xs) (p:Addr) (y:Value) (hp:p.block<B):(w.setCell p y).ownsRow B e size v n xs:=by
 refine ⟨h.1,?_⟩;rcases h.2 with h0 | ⟨g,cap,cur,hv,hg,hh,r⟩
 · exact .inl h0
 · refine .inr ⟨g,cap,cur,hv,hg,?_,r⟩
   rw [Go.Deep.blk_setCell_other w p y g om_];exact hh
theorem wpList_load_blkW {P:Program} {ops:Array Oper} {rest:List Oper} {o:Oper} {a:Act} {w:World} {Q:Exit->Act->World->Prop} (hw:Region.wanted o (yielded ops a.tmps)=true) (ty:TypeId) (x:Operand) (ho:o.op=.load ty x)
 (B:Nat) (hx:a.eval x=.pointer (some ⟨B,0,none⟩)) (cs:List Value) (d:TypeDesc) (hc:BlkAt w B cs)
 (hu:P.underlying ty=some d) (hd:(match d with | .struct _ | .array _ _=>true | _=>false)=true) (hi:(P.info? ty).map (·.size)=some cs.length)
 (h:wpList P ops Q rest (a.put o.dst (.agg cs.toArray)) w):wpList P ops Q (o::rest) a w:=by
 refine wpList_step fun K hK=>?_;rw [if_pos hw];unfold Oper.wp execOp;simp only [ho,hx,Instr.loadAt,Instr.sureAddr,Sem.run_bind,Sem.run_pure,Result.andThen_ok,run_loadVar_blk w B ty cs d hc hu hd hi];exact hK _ _ h
theorem ent_lines {l:List UInt8} {y:N10} (hy:EntOk y) (e:entL y=l):cutS 10 l=linesE y++[[]]:=by
 rw [<- e];exact cut_join _ (lines_no hy)
theorem ent_word {l:List UInt8} {y:N10} (hy:EntOk y) (e:entL y=l):wordOf ((cutS 10 l).getD 0 [])=wrdE y:=by
 rw [ent_lines hy e];have hne:linesE y≠[]:=by unfold linesE;(repeat' split) <;> simp
 obtain ⟨f,b,hfb⟩:=List.exists_cons_of_ne_nil hne;rw [hfb];exact (first_word hy hfb.symm).1
theorem lsE_none {l:List UInt8} (x:N10) (h1:wordOf ((cutS 10 l).getD 0 [])≠wRan) (h2:wordOf ((cutS 10 l).getD 0 [])≠wEpoch) (h3:wordOf ((cutS 10 l).getD 0 [])≠wFile) (h4:wordOf ((cutS 10 l).getD 0 [])≠wDrop) (h5:wordOf ((cutS 10 l).getD 0 [])≠wClear):LsE l x:=by
 intro y hy e;exfalso;have hw:=ent_word hy e;unfold wrdE at hw;split at hw
 · exact h2 hw
 · split at hw
   · exact h3 hw
   · split at hw
     · exact h4 hw
     · split at hw
       · exact h1 hw
       · exact h5 hw
theorem lsE_1 {l F:List UInt8} (hF:(cutS 10 l).getD 0 []=F) (hw:wordOf F=wEpoch):LsE l (eEpoch (n29 (restOf F))):=by
 intro y hy e;have h1:=ent_word hy e;rw [hF] at h1;obtain ⟨n,hn,rfl⟩:=is_epoch hy (of_word hy (.inl rfl) h1 (by rw [hw];rfl));rw [ent_lines hy e] at hF;have e':wEpoch++32::dec n=F:=hF;have hr:restOf F=dec n:=by rw [<- e'];exact (word_split dc_).2
 rw [hr,n29_back om_ om_]
theorem lsE_2 {l F t:List UInt8} (hF:(cutS 10 l).getD 0 []=F) (hw:wordOf F=wFile) (ht:∀ q,restOf (restOf F)=quoteL q->t=q):LsE l (eFile (ofL (wordOf (restOf F))) (ofL t)):=by
 intro y hy e;have h1:=ent_word hy e;rw [hF] at h1;obtain ⟨a,b,hn,rfl⟩:=is_file hy (of_word hy (.inr (.inl rfl)) h1 (by rw [hw];rfl));rw [ent_lines hy e] at hF;have e':wFile++32::(a.data.toList++32::quoteL b.data.toList)=F:=hF;have hr:restOf F=a.data.toList++32::quoteL b.data.toList:=by rw [<- e'];exact (word_split dc_).2
 obtain ⟨w1,w2⟩:=word_split (r:=quoteL b.data.toList) (name_no hn.1).1;rw [<- hr] at w1 w2;rw [w1,ht _ w2];rfl
theorem lsE_3 {l F:List UInt8} (hF:(cutS 10 l).getD 0 []=F) (hw:wordOf F=wDrop):LsE l (eDrop (ofL (restOf F))):=by
 intro y hy e;have h1:=ent_word hy e;rw [hF] at h1;obtain ⟨a,hn,rfl⟩:=is_drop hy (of_word hy (.inr (.inr (.inl rfl))) h1 (by rw [hw];rfl));rw [ent_lines hy e] at hF;have e':wDrop++32::a.data.toList=F:=hF;have hr:restOf F=a.data.toList:=by rw [<- e'];exact (word_split dc_).2
 rw [hr];rfl
theorem lsE_5 {l F:List UInt8} (hF:(cutS 10 l).getD 0 []=F) (hw:wordOf F=wClear):LsE l eClear:=by
 intro y hy e;have h1:=ent_word hy e;rw [hF] at h1;exact (is_clear hy (of_word hy (.inr (.inr (.inr (.inr rfl)))) h1 (by rw [hw];rfl))).symm
def RnSo (Ls:List (List UInt8)) (k:Nat) (xs:List L4) (c:Int) (t:ByteArray):Prop:=∀ (f:List UInt8) (ys:List L4) (c':Int) (t':ByteArray),LksOk ys->vr c' t'.data.toList=true->Ls=f::(ys.map lookB++[wGave++32::resL c' t',[]])->xs=ys.take (k - 1)/\(ys.length+1<k->c=c'/\t=t')
theorem rn_start (Ls:List (List UInt8)) (c:Int) (t:ByteArray):RnSo Ls 1 [] c t:=fun _ ys _ _ _ _ _=>⟨sm_,fun h=>om_⟩
theorem gave_no (r:List UInt8):isW (wGave++32::r)=false:=by
 have:=(word_split (a:=wGave) (r:=r) dc_).1;unfold isW hasW;rw [this];decide
theorem rn_line {Ls:List (List UInt8)} {k:Nat} {f:List UInt8} {ys:List L4} {g:List UInt8} (hk1:1<=k) (hk:k<Ls.length) (e:Ls=f::(ys.map lookB++[g,[]])):
 (∃ h:k - 1<ys.length,Ls.getD k []=lookB (ys[k - 1]))\/(k=ys.length+1/\Ls.getD k []=g)\/(k=ys.length+2/\Ls.getD k []=[]):=by
 subst e;obtain ⟨j,rfl⟩:∃ j,k=j+1:=⟨k - 1,om_⟩;have hg:(f::(ys.map lookB++[g,[]])).getD (j+1) []=(ys.map lookB++[g,[]]).getD j []:=rfl;rw [hg];simp only [List.length_cons,List.length_append,List.length_map,List.length_nil] at hk;rcases Nat.lt_or_ge j ys.length with hl | hl
 · refine .inl ⟨om_,?_⟩
   rw [List.getD_eq_getElem?_getD,List.getElem?_append_left (by simpa using hl)];simp [hl]
 · right
   rw [List.getD_eq_getElem?_getD,List.getElem?_append_right (by simpa using hl)];simp only [List.length_map];have:j - ys.length=0\/j - ys.length=1:=om_;rcases this with h | h
   · exact .inl ⟨om_,by rw [h];rfl⟩
   · exact .inr ⟨om_,by rw [h];rfl⟩
theorem rn_look {Ls:List (List UInt8)} {k:Nat} {xs:List L4} {c:Int} {t:ByteArray} {x:L4} (h:RnSo Ls k xs c t) (hk1:1<=k) (hk:k<Ls.length) (hx:LsLk (Ls.getD k []) x true):RnSo Ls (k+1) (xs++[x]) c t:=by
 intro f ys c' t' hy hv e;obtain ⟨h1,h2⟩:=h f ys c' t' hy hv e;rcases rn_line hk1 hk e with ⟨hl,e1⟩ | ⟨rfl,e1⟩ | ⟨rfl,e1⟩
 · have hok:=hy.2 _ hl
   have eg:ys.getD (k - 1) l4z=ys[k - 1]:=by simp [hl]
   rw [eg] at hok;obtain ⟨_,hx2⟩:=hx.1 _ hok e1;refine ⟨?_,fun h=>om_⟩;rw [h1,hx2,show k+1 - 1=(k - 1)+1 by omega,List.take_succ_eq_append_getElem hl]
 · have:=hx.2 (by rw [e1];exact gave_no _)
   cases this
 · have:=hx.2 (by rw [e1];decide)
   cases this
theorem rn_res {Ls:List (List UInt8)} {k:Nat} {xs:List L4} {c c2:Int} {t t2:ByteArray} {x:L4} (h:RnSo Ls k xs c t) (hk1:1<=k) (hk:k<Ls.length) (hx:LsLk (Ls.getD k []) x false) (hl5:5<(Ls.getD k []).length) (hr:LsRes ((Ls.getD k []).drop 5) c2 t2):RnSo Ls (k+1) xs c2 t2:=by
 intro f ys c' t' hy hv e;obtain ⟨h1,h2⟩:=h f ys c' t' hy hv e;rcases rn_line hk1 hk e with ⟨hl,e1⟩ | ⟨rfl,e1⟩ | ⟨rfl,e1⟩
 · have hok:=hy.2 _ hl
   have eg:ys.getD (k - 1) l4z=ys[k - 1]:=by simp [hl]
   rw [eg] at hok;have:=(hx.1 _ hok e1).1;cases this
 · refine ⟨?_,fun _=>hr _ _ (vr_codeE hv).1 (vr_codeE hv).2 (by rw [e1];rfl)⟩
   rw [h1,List.take_of_length_le om_,List.take_of_length_le om_]
 · rw [e1] at hl5;simp at hl5
theorem rn_skip {Ls:List (List UInt8)} {k:Nat} {xs:List L4} {c:Int} {t:ByteArray} {x:L4} (h:RnSo Ls k xs c t) (hk1:1<=k) (hk:k<Ls.length) (hx:LsLk (Ls.getD k []) x false) (hl5:¬ 5<(Ls.getD k []).length):RnSo Ls (k+1) xs c t:=by
 intro f ys c' t' hy hv e;obtain ⟨h1,h2⟩:=h f ys c' t' hy hv e;rcases rn_line hk1 hk e with ⟨hl,e1⟩ | ⟨rfl,e1⟩ | ⟨rfl,e1⟩
 · have hok:=hy.2 _ hl
   have eg:ys.getD (k - 1) l4z=ys[k - 1]:=by simp [hl]
   rw [eg] at hok;have:=(hx.1 _ hok e1).1;cases this
 · exfalso
   rw [e1] at hl5;have hne:resL c' t'≠[]:=resL_ne _ _;have:0<(resL c' t').length:=List.length_pos_iff.2 hne;apply hl5;simp only [List.length_append,List.length_cons,wGave,List.length_nil];omega
 · exact ⟨by rw [h1,List.take_of_length_le om_,List.take_of_length_le om_],fun _=>h2 om_⟩
theorem lsE_4 {l F q:List UInt8} {xs:List L4} {c:Int} {t:ByteArray} (hF:(cutS 10 l).getD 0 []=F) (hw:wordOf F=wRan) (hq:∀ p,restN (restOf F) 2=quoteL p->q=p) (hs:RnSo (cutS 10 l) (cutS 10 l).length xs c t):LsE l (eRan ⟨ofL (wordOf (restOf F)),ofL (wordOf (restN (restOf F) 1)),ofL q⟩ xs c t):=by
 intro y hy e;have h1:=ent_word hy e;rw [hF] at h1;obtain ⟨m,ls,c',t',⟨n1,n2,n3⟩,rfl⟩:=is_ran hy (of_word hy (.inr (.inr (.inr (.inl rfl)))) h1 (by rw [hw];rfl));have hl:=ent_lines hy e;have hl2:cutS 10 l=(wRan++32::bodyL m)::(ls.map lookB++[wGave++32::resL c' t',[]]):=by rw [hl];simp [linesE,eRan]
 obtain ⟨s1,s2⟩:=hs _ ls c' t' n2 n3 hl2;have hlen:(cutS 10 l).length=ls.length+3:=by rw [hl2];simp
 obtain ⟨rfl,rfl⟩:=s2 om_;rw [List.take_of_length_le om_] at s1;rw [hl2] at hF;have e':wRan++32::bodyL m=F:=hF;have hr:restOf F=bodyL m:=by rw [<- e'];exact (word_split dc_).2
 obtain ⟨k1,k2,_⟩:=okM_facts n1;rw [body_form] at hr;obtain ⟨w1,w2⟩:=word_split (r:=m.tl.data.toList++32::quoteL m.ar.data.toList) (name_no k1).1;obtain ⟨w3,w4⟩:=word_split (r:=quoteL m.ar.data.toList) (name_no k2).1;have r1:restN (restOf F) 1=m.tl.data.toList++32::quoteL m.ar.data.toList:=by rw [hr];exact w2
 have r2:restN (restOf F) 2=quoteL m.ar.data.toList:=by
  show restOf (restN (restOf F) 1)=_;rw [r1];exact w4
 have hq':=hq _ r2;rw [r1,hr,w1,w3,hq',s1];rfl
theorem c32l (l:List UInt8) (w:World) (hs:l.length<=1048700):Calls prog 32 #[.string (ofL l)] w fun e w'=>(∃ t,e=.returned (.string (ofL t))/\t.length<=l.length+1/\∀ q,l=quoteL q->t=q)/\Below w.heap.size w w':=by
 have h:=c32 (ofL l) w (by rw [ofL_size];exact hs);rw [ofL_size] at h;exact h
theorem c14_file (s:ByteArray) (w:World) (h1:1<=s.size) (h16:s.size<=16000) (hw:wordOf ((cutS 10 s.data.toList).getD 0 [])=wFile):
 Calls prog 14 #[.string s] w fun e w'=>Is4 s.data.toList w' e/\Below w.heap.size w w':=by
 have hB0:Below w.heap.size w ((w.alloc (.cells zE.toArray 47)).alloc (.cells zE.toArray 47)):=bA_.alloc sm_ _;have hsl:s.data.toList.length=s.size:=sm_;have HNE:Hid (s.data.toList≠[]):=fun h=>by rw [h] at hsl;simp at hsl;omega
 have hse:(s.toList==[])=false:=by
  rw [ByteArray.toList_eq];exact beq_eq_false_iff_ne.2 HNE.out
 have hse2:¬ s.toList=[]:=by simpa using hse
 have h16':decide (16000<(s.size:Int))=false:=so_;go_enter func14,ntmps14
 go_wp2_with fail
 refine (c29 s 10 _ om_).mono ?_;rintro e w1 ⟨⟨g2,cp,rfl,hg2,hL1⟩,hb1⟩;have hz1w:((w.alloc (.cells zE.toArray 47)).alloc (.cells zE.toArray 47)).heap.size=w.heap.size+2:=sm_;have hx1:Below (w.heap.size+2) ((w.alloc (.cells zE.toArray 47)).alloc (.cells zE.toArray 47)) w1:=hb1.mono sm_;have hg2a:w.heap.size+2<=g2:=by have h:=hg2;simp at h;omega
 have hz1:w.heap.size+2<=w1.heap.size:=by have h:=hx1.size;rw [hz1w] at h;exact h
 have bR1:BlkAt w1 w.heap.size zE:=((blk_new w zE 47).below bA_ sm_).below hx1 om_;have oR1:OpnAt w1 w.heap.size:=((opn_new w zE.toArray 47).below bA_ sm_).below hx1 om_;have bM1:BlkAt w1 (w.heap.size+1) zE:=BlkAt.below (by have h:=blk_new (w.alloc (.cells zE.toArray 47)) zE 47;simp at h;exact h) hx1 om_;have oM1:OpnAt w1 (w.heap.size+1):=OpnAt.below (by have h:=opn_new (w.alloc (.cells zE.toArray 47)) zE.toArray 47;simp at h;exact h) hx1 om_;have hB1:Below w.heap.size w w1:=hB0.trans (hx1.mono om_);have hcl:=cut_len 10 s.data.toList;have hcs:=cut_smallE 10 s.data.toList;clear hb1 hg2 hz1w hx1;obtain ⟨Ls,hLs⟩:∃ Ls,Ls=cutS 10 s.data.toList:=⟨_,rfl⟩;rw [<- hLs] at hL1 hcl hcs hw ⊢;have HLS:Hid (cutS 10 s.data.toList=Ls):=hLs.symm;have HCS:Hid (∀ k,(Ls.getD k []).length<=16000):=fun k=>Nat.le_trans (hcs k) om_;obtain ⟨F,hF⟩:∃ F,F=Ls.getD 0 []:=⟨_,rfl⟩;have HF:Hid (Ls.getD 0 []=F):=hF.symm;have hFl:F.length<=16000:=by rw [hF];exact HCS.out 0
 rw [<- hF] at hw;have hcl1:1<=Ls.length:=hcl.1;have hcl2:Ls.length<=16001:=by have:=hcl.2;omega
 have c0:w1.cell? ⟨g2,0,none⟩=some (.string (ofL F)):=by rw [hF];exact hL1.2 0 hcl1
 have hg2b:=hL1.1;clear hF hLs hcs hcl
 go_wp2_with fail
 refine (c30o F _ om_ 1 om_ om_).mono ?_;rintro e w3 ⟨⟨g3,cp3,rfl,hg3,hl3⟩,hb3⟩;have hz3:w1.heap.size<=w3.heap.size:=hb3.size;have bR:=BlkAt.below bR1 hb3 om_;have oR:=OpnAt.below oR1 hb3 om_;have bM:=BlkAt.below bM1 hb3 om_;have oM:=OpnAt.below oM1 hb3 om_;have hL3:Hid (LinesAt w3 g2 Ls):=lines_below hL1 hb3;have hB3:Below w.heap.size w w3:=bT_ hB1 hb3;have d0:w3.cell? ⟨g3,0,none⟩=some (.string (ofL (wordOf F))):=hl3.2 0 (by simp [wordsN]);have hg3b:g3<w3.heap.size:=hl3.1;have hrs:=rest_small F;have hrN:ofL (restN F 1)=ofL (restOf F):=rfl;rw [hrN];clear hrN hb3 bR1 oR1 bM1 oM1 hL1 hB1 hl3 c0 hB0;have hMz:w.heap.size+1<w3.heap.size:=om_;have hRB:w.heap.size<w.heap.size+1:=om_;have hg3M:w.heap.size+1<g3:=om_;have hg2M:w.heap.size+1<g2:=om_;have hg2z:g2<w3.heap.size:=om_;clear hg3 hg2b hg2a hz1 hz3;generalize w.heap.size+1=Bm at*;have HXg:=fun t ht=>lsE_2 (l:=s.data.toList) (F:=F) (t:=t) (by rw [HLS.out];exact HF.out) hw ht;have HW:Hid (wordOf F=wFile):=hw;have hes:ofL (wordOf F)=⟨#[102,105,108,101]⟩:=by rw [hw];rfl
 rw [hes] at d0;clear hw hes;have k0:=bM 0 _ rfl;have f0:=oM 0;have hrs2:=rest_small (restOf F);have hrs3:=rest_small (restOf (restOf F))
 go_wp2_with fail
 refine (c30o (restOf F) _ om_ 1 om_ om_).mono ?_;rintro e w4 ⟨⟨g4,cp4,rfl,hg4,hl4⟩,hb4⟩;have hzs:(w3.setCell ⟨Bm,0,none⟩ (.int .i64 2)).heap.size=w3.heap.size:=sm_;have hz4:w3.heap.size<=w4.heap.size:=by have h:=hb4.size;rw [hzs] at h;exact h
 have bM4:=BlkAt.below (bM.set 0 (.int .i64 2) (by show 0<10;omega)) hb4 (by rw [hzs];exact hMz);have oM4:=OpnAt.below (oM.set ⟨Bm,0,none⟩ (.int .i64 2)) hb4 (by rw [hzs];exact hMz);have bR4:=BlkAt.below (bR.other ⟨Bm,0,none⟩ (.int .i64 2) (by show Bm≠w.heap.size;omega)) hb4 (by rw [hzs];omega);have oR4:=OpnAt.below (oR.set ⟨Bm,0,none⟩ (.int .i64 2)) hb4 (by rw [hzs];omega);have hB4:Below w.heap.size w w4:=(hB3.setCell (by show w.heap.size<=Bm;omega) _).trans (hb4.mono (by rw [hzs];omega));have hg4a:w3.heap.size<=g4:=by rw [hzs] at hg4;exact hg4
 have hg4b:g4<w4.heap.size:=hl4.1;have hL4:Hid (LinesAt w4 g2 Ls):=⟨om_,fun i hi=>(hb4.cell (p:=⟨g2,i,none⟩) (by rw [hzs];exact hg2z)).trans (pset (q:=⟨Bm,0,none⟩) (p:=⟨g2,i,none⟩) (by show Bm≠g2;omega) (hL3.out.2 i hi) _)⟩;have e0:w4.cell? ⟨g4,0,none⟩=some (.string (ofL (wordOf (restOf F)))):=hl4.2 0 (by simp [wordsN]);have hrN2:ofL (restN (restOf F) 1)=ofL (restOf (restOf F)):=rfl;rw [hrN2];clear hrN2 hb4 hzs bM oM bR oR hB3 hl4 hg4 hL3 d0 k0 f0;have a1:(wordOf (restOf F)).length<=16000:=om_;have a2:(restOf (restOf F)).length<=16000:=om_;clear hrs hrs2 hrs3;generalize wordOf (restOf F)=A1 at*;generalize restOf (restOf F)=A2 at*
 go_wp2_with fail
 refine wp_region_held_drew (S:=(fun u=>u.cell? ⟨g4,0,none⟩=some (.string (ofL A1)))) kr_ ?_ fun hHeld=>?_
 · exact e0
 refine tq 0 hHeld ?_
 try simp only [qq]
 refine tq 1 hHeld ?_
 try simp only [qq]
 refine tq 2 hHeld ?_
 try simp only [qq]
 refine tq 3 hHeld ?_
 try simp only [qq]
 refine rq 4 fun K hK=>?_;go_simp;refine (c32l A2 _ om_).mono ?_;rintro e w5 ⟨⟨t,rfl,htl,htq⟩,hbn⟩;have hbc:Below w4.heap.size w4 w5:=((Below.refl _ _).drew).trans hbn;have HTQ:Hid (∀ q,A2=quoteL q->t=q):=htq;clear hbn htq
 go_wp2_with fail
 clear hHeld;refine hK.out _ _ ?_ fun hHeld=>?_
 · exact (hbc.cell (p:=⟨g4,0,none⟩) hg4b).trans e0
 clear hK K
 try simp only [qq]
 refine tq 5 hHeld ?_
 try simp only [qq]
 refine tq 6 hHeld ?_
 try simp only [qq]
 have bM5:=BlkAt.below bM4 hbc om_;have oM5:=OpnAt.below oM4 hbc om_;have e5:w5.cell? ⟨g4,0,none⟩=some (.string (ofL A1)):=(hbc.cell (p:=⟨g4,0,none⟩) hg4b).trans e0;refine rq 7 fun K hK=>?_;refine step_store_blk rfl 40 (.tmp 52) (.tmp 51) rfl Bm 2 rfl [.string (ofL A1),.string (ofL t)] rfl (fun i hi=>by rcases i with _ | _ | i;exact (by rw [bM5 2 _ rfl];rfl);exact (by rw [bM5 3 _ rfl];rfl);simp at hi;omega) oM5 (by simp [Value.oneCell']) kr_ rfl ?_;clear hHeld;refine hK.out _ _ ?_ fun hHeld=>?_
 · exact (cell_fill _ 2 ⟨g4,0,none⟩ (by show g4≠Bm;omega)).trans e5
 clear hK K
 try simp only [qq]
 refine wpAnyH_done kr_ ?_ _;clear hHeld;have hz5:w4.heap.size<=w5.heap.size:=hbc.size;have bR5:=BlkAt.below bR4 hbc om_;have oR5:=OpnAt.below oR4 hbc om_;have hB5:Below w.heap.size w w5:=bT_ hB4 hbc;have HX:Hid (LsE s.data.toList (eFile (ofL A1) (ofL t))):=HXg t HTQ.out;have HM:BlkAt (fill w5 Bm 2 [.string (ofL A1),.string (ofL t)]) Bm ((eFile (ofL A1) (ofL t)).c none 0):=BlkAt.fill (B:=Bm) [.string (ofL A1),.string (ofL t)] [.int .i64 2,.int .i64 0] [.string ⟨#[]⟩,.string ⟨#[]⟩] [.string ⟨#[]⟩,.string ⟨#[]⟩,.string ⟨#[]⟩,.slice none 0 0,.int .i64 0,.string ⟨#[]⟩] 2 bM5 rfl rfl;have HR:BlkAt (fill w5 Bm 2 [.string (ofL A1),.string (ofL t)]) w.heap.size zE:=BlkAt.fillO om_ _ 2 bR5;have HO:OpnAt (fill w5 Bm 2 [.string (ofL A1),.string (ofL t)]) w.heap.size:=OpnAt.fill _ 2 oR5;have hBU:Below w.heap.size w (fill w5 Bm 2 [.string (ofL A1),.string (ofL t)]):=below_fill om_ _ 2 hB5;have hMU:Bm<(fill w5 Bm 2 [.string (ofL A1),.string (ofL t)]).heap.size:=by rw [size_fill];omega
 have hRU:w.heap.size<(fill w5 Bm 2 [.string (ofL A1),.string (ofL t)]).heap.size:=by rw [size_fill];omega
 have HLK:LksAt (fill w5 Bm 2 [.string (ofL A1),.string (ofL t)]) none (eFile (ofL A1) (ofL t)).ls:=.inl rfl;have hle:(eFile (ofL A1) (ofL t)).le 1048576:=⟨by show (ofL A1).size<=1048576;rw [ofL_size];omega,by show (ofL t).size<=1048576;rw [ofL_size];omega,⟨Nat.zero_le _,Nat.zero_le _,Nat.zero_le _⟩,⟨Nat.zero_le _,fun _=>⟨Nat.zero_le _,Nat.zero_le _⟩⟩,Nat.zero_le _⟩;have hAne:∀ g o,(none:Option Addr)=some ⟨g,o,none⟩->g≠w.heap.size:=fun _ _ h=>by cases h
 clear bM4 oM4 bM5 oM5 bR4 oR4 bR5 oR5 hB4 hB5 hbc HXg e0 e5;generalize fill w5 Bm 2 [.string (ofL A1),.string (ofL t)]=U at*;generalize ofL A1=rA at*;generalize ofL t=rT at*
 go_wp2_with (refine wpList_load_blkW (by rfl) 47 (.tmp 4) rfl Bm rfl ((eFile rA rT).c none 0) _ HM underlying47 rfl kr_ ?_)
 refine (c35 (eFile rA rT) none 0 _ hle HLK).mono ?_;rintro e U1 ⟨⟨str,rfl,hT⟩,hbU⟩;have HM1:=BlkAt.below HM hbU hMU;have HR1:=BlkAt.below HR hbU hRU;have HO1:=OpnAt.below HO hbU hRU;have hB1:Below w.heap.size w U1:=bT_ hBU hbU;have HLK1:=lks_below HLK hbU;clear HM HR HO HLK hBU hbU;by_cases he:str.data.toList=s.data.toList
 · have HN:Hid (RES s.data.toList (eFile rA rT) true):=res_yes HX.out hT HNE.out he
   have e2:str.toList=s.toList:=by rw [ByteArray.toList_eq,ByteArray.toList_eq];exact he
   have e1:(str.toList==s.toList)=true:=by simpa using e2
   clear hT HX he
   go_wp2_with (first | refine wpList_load_blk rfl 47 (.tmp 4) rfl Bm rfl ((eFile rA rT).c none 0) _ HM1 underlying47 rfl kr_ ?_ | refine wpList_store_blk rfl 47 (.tmp 2) (.tmp 123) rfl w.heap.size 0 rfl ((eFile rA rT).c none 0) rfl (blk_someE HR1 _ rfl) HO1 (N10.c_one _ _ _) kr_ rfl ?_)
   exact fin4 (eFile rA rT) none 0 true HN.out (fun h=>by cases h) hle (lks_filo _ HLK1 hAne) rfl rfl rfl HR1 hB1
 · have HN:Hid (RES s.data.toList n10z false):=res_no HX.out hT he
   have e2:¬ str.toList=s.toList:=by rw [ByteArray.toList_eq,ByteArray.toList_eq];exact he
   have e1:(str.toList==s.toList)=false:=by simpa using e2
   clear hT HX he
   go_wp2_with (refine wpList_store_blk rfl 47 (.tmp 2) (.tmp 122) rfl w.heap.size 0 rfl zE rfl (blk_someE HR1 zE rfl) HO1 (by simp [zE,Value.oneCell']) kr_ rfl ?_)
   exact fin4_no HN.out rfl rfl rfl HR1 hB1
end Go.Proofs.YtlckdgjfniglfaaGreatDoor
