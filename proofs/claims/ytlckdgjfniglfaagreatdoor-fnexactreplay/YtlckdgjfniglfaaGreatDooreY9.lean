import Derived.Test.YtlckdgjfniglfaaGreatDooreY1
import Derived.Lib.AppendStr
set_option maxRecDepth 100000
set_option linter.unusedVariables false
set_option maxHeartbeats 8000000
namespace Go.Proofs.YtlckdgjfniglfaaGreatDoor
open Proofs.Tryz
open Go.RowKit
theorem dec_size (n:Int) (h0:0<=n) (h1:n<=1000000):(ofL (dec n)).size<=100000001:=by rw [ofL_size];exact dec_len n h0 om_
theorem quote_size (s:ByteArray):(ofL (quoteL s.data.toList)).size<=3*s.size+2:=by
 rw [ofL_size];have:=flat_len s.data.toList;have e:s.data.toList.length=s.size:=sm_;unfold quoteL;simp only [List.length_cons,List.length_append,List.length_nil];omega
def resL (c:Int) (t:ByteArray):List UInt8:=dec c++[32]++quoteL t.data.toList
theorem resL_eq (c:Int) (t:ByteArray):ofL (dec c)++⟨#[32]⟩++ofL (quoteL t.data.toList)=ofL (resL c t):=by
 show ofL (dec c)++ofL [32]++ofL (quoteL t.data.toList)=_;rw [cat_ofL,cat_ofL];rfl
theorem c65 (c:Int) (t:ByteArray) (w:World) (hc0:0<=c) (hc1:c<=1000) (ht:t.size<=1048600):
 Calls prog 65 #[.agg #[.int .i64 c,.string t]] w fun e w'=>e=.returned (.string (ofL (resL c t)))/\Below w.heap.size w w':=by
 have z1:=dec_size c hc0 om_;have z2:=quote_size t;have HE:Hid (ofL (dec c)++⟨#[32]⟩++ofL (quoteL t.data.toList)=ofL (resL c t)):=resL_eq c t;have k1:¬ 9223372036854775807<(ofL (dec c)).size+1:=om_;have k1':¬ 9223372036854775807<=(ofL (dec c)).size:=om_;have k2:¬ 9223372036854775807<(ofL (dec c)).size+1+(ofL (quoteL t.data.toList)).size:=om_;go_enter func65,ntmps65
 go_wp2_with fail
 have hBV:Below w.heap.size w (w.alloc (.cells #[.int .i64 c,.string t] 45)):=bA_;have hzV:w.heap.size<(w.alloc (.cells #[.int .i64 c,.string t] 45)).heap.size:=sm_;have a0:(w.alloc (.cells #[.int .i64 c,.string t] 45)).cell? ⟨w.heap.size,0,none⟩=some (.int .i64 c):=by simp [go_sem]
 have a1:(w.alloc (.cells #[.int .i64 c,.string t] 45)).cell? ⟨w.heap.size,1,none⟩=some (.string t):=by simp [go_sem]
 generalize (w.alloc (.cells #[.int .i64 c,.string t] 45))=V at*;refine wp_region_held_drew (S:=(fun u=>u.cell? ⟨w.heap.size,0,none⟩=some (.int .i64 c)/\u.cell? ⟨w.heap.size,1,none⟩=some (.string t))) kr_ ?_ fun hHeld=>?_
 · ((try dsimp only);go_keep)
 refine tq 0 hHeld ?_
 try simp only [qq]
 refine tq 1 hHeld ?_
 try simp only [qq]
 refine tq 4 hHeld ?_
 try simp only [qq]
 refine tq 5 hHeld ?_
 try simp only [qq]
 refine rq 2 fun K hK=>?_;go_simp;refine (c57 (c.toNat+1) c _ hc0 om_ (Nat.lt_succ_self _)).mono ?_;rintro e w1 ⟨rfl,hb1⟩;have HB1:Hid (Below V.heap.size V w1):=((Below.refl _ _).drew).trans hb1;have b0:=(HB1.out.cell (p:=⟨w.heap.size,0,none⟩) (by exact hzV)).trans a0;have b1:=(HB1.out.cell (p:=⟨w.heap.size,1,none⟩) (by exact hzV)).trans a1;clear hb1
 go_wp2_with fail
 clear hHeld;refine hK.out _ _ ?_ fun hHeld=>?_
 · ((try dsimp only);go_keep)
 clear hK K
 try simp only [qq]
 refine tq 3 hHeld ?_
 try simp only [qq]
 refine rq 6 fun K hK=>?_;go_simp;refine (c61' t _ om_).mono ?_;rintro e w2 ⟨rfl,hb2⟩;have HB2:Hid (Below w1.heap.size w1 w2):=hb2;have hzw:w.heap.size<w1.heap.size:=Nat.lt_of_lt_of_le hzV HB1.out.size;have d0:=(HB2.out.cell (p:=⟨w.heap.size,0,none⟩) (by exact hzw)).trans b0;have d1:=(HB2.out.cell (p:=⟨w.heap.size,1,none⟩) (by exact hzw)).trans b1;clear hb2
 go_wp2_with fail
 clear hHeld;refine hK.out _ _ ?_ fun hHeld=>?_
 · ((try dsimp only);go_keep)
 clear hK K
 try simp only [qq]
 refine tq 7 hHeld ?_
 try simp only [qq]
 refine tq 8 hHeld ?_
 try simp only [qq]
 refine wpAnyH_done kr_ ?_ _;have hB2:Below w.heap.size w w2:=(bT_ hBV HB1.out).trans (HB2.out.mono (bT_ hBV HB1.out).size);clear hHeld;go_wp2;go_ret;exact ⟨by rw [<- HE.out];rfl,hB2⟩
theorem step_apps {P:Program} {ops:Array Oper} {o:Oper} {a:Act} {w:World} {K:Act->World->Prop} {Q:Exit->Act->World->Prop} {E:Prop}
 (hg:o.guard=none) (s x:Operand) (t u:TypeId) (hop:o.op=Op.call { callee:=Callee.builtin Builtin.append,args:=#[s,x],argTypes:=#[t,u] })
 (base:Nat) (e:TypeId) (i:TypeInfo) (h1:P.underlying t=some (.slice e)) (hu:P.underlying u=some .string) (h2:P.info? e=some i) (h3:i.zero=some (.int .u8 0)) (h4:i.size=1) (h5:i.bytes=1)
 (v:Value) (n:Nat) (xs:List Value) (hs:a.eval s=v) (hown:w.ownsRow base e 1 v n xs) (str:ByteArray) (hx:a.eval x=.string str)
 (b1:n+str.size<=maxLen) (b2:n+str.size<=140737488355328) (hb:base<=w.heap.size)
 (hK:∀ v' w',w'.ownsRow base e 1 v' (n+str.size) (xs++Lib.strCells str)->w.grownBy w' v.ownBlock->(v'=.slice none 0 0↔v=.slice none 0 0/\str.size=0)->K (a.put o.dst v') w'):
 if Region.wanted o (yielded ops a.tmps)=true then Oper.wp P o a w K Q else E:=by
 have hw:Region.wanted o (yielded ops a.tmps)=true:=by simp [Region.wanted,hg]
 rw [if_pos hw];obtain ⟨v',w',hrun,r1,r2,r3⟩:=Lib.run_append_own_string (P:=P) w base t u o.type e i h1 hu h2 h3 h4 h5 v n xs hown str b1 b2 hb;unfold Oper.wp;simp [execOp,hop,resolve,invoke,builtin,hs,hx,hrun,Result.andThen];exact hK v' w' r1 r2 r3
theorem conv_own' {w:World} {base:Nat} {v:Value} {n:Nat} {l:List UInt8} (h:w.ownsRow base 5 1 v n (Lib.byteCells l)) (hne:v≠.slice none 0 0):(convert 122 9 v).run prog w=.ok (.string ⟨l.toArray⟩) w:=by
 have h':=h;obtain ⟨h1,h2⟩:=h;rcases h2 with ⟨h0,_⟩ | ⟨g,cp,cur,rfl,hg,hh,_⟩
 · exact absurd h0 hne
 · have hl:l.length=n:=by rw [cells_len] at h1;omega
   have:=run_convert_bytes_arg (P:=prog) w 122 5 underlying122 underlying5 g 0 n cp (l.map fun b=>(b.toNat:Int)) (by simpa using hl) (fun i hi=>by
    rw [Nat.zero_add,h'.cellAt i om_];have hi':i<l.length:=om_;simp [Lib.byteCells,hi']) 9 underlying9
   rw [this];have e:l.map ((fun n:Int=>UInt8.ofNat n.toNat)∘fun b=>(b.toNat:Int))=l:=(List.map_congr_left (fun b _=>sm_)).trans (List.map_id l);simp only [strOfNums,List.map_map,e]
theorem vr_codeE {c:Int} {l:List UInt8} (h:vr c l=true):0<=c/\c<=7:=by
 unfold vr at h;by_cases h1:c=0\/c=1
 · omega
 · rw [if_neg h1] at h
   by_cases h2:c=2
   · omega
   · rw [if_neg h2] at h
     by_cases h3:c=3
     · omega
     · rw [if_neg h3] at h
       by_cases h4:c=4\/c=5\/c=7
       · omega
       · rw [if_neg h4] at h;cases h
theorem lk_code {x:L4} (h:LkOk x):0<=x.cd/\x.cd<=7:=by
 rcases h.2 with ⟨_,⟨h,_⟩ | ⟨h,_⟩⟩ | ⟨_,h⟩
 · omega
 · omega
 · exact vr_codeE h
def wordA (b:Bool):ByteArray:=if b=true then ⟨#[104,97,115,32]⟩ else ⟨#[97,115,107,32]⟩
def lookL (x:L4):List UInt8:=(wordA x.has).data.toList++x.nm.data.toList++[32]++resL x.cd x.tx++[10]
theorem lookL_eq (x:L4):wordA x.has++x.nm++⟨#[32]⟩++ofL (resL x.cd x.tx)++⟨#[10]⟩=ofL (lookL x):=by
 show ofL (wordA x.has).data.toList++ofL x.nm.data.toList++ofL [32]++ofL (resL x.cd x.tx)++ofL [10]=_;rw [cat_ofL,cat_ofL,cat_ofL,cat_ofL];rfl
theorem res_size (c:Int) (t:ByteArray) (h0:0<=c) (h1:c<=1000):(ofL (resL c t)).size<=100000004+3*t.size:=by
 have a:=dec_size c h0 om_;have b:=quote_size t;rw [ofL_size] at a b ⊢;unfold resL;simp only [List.length_append,List.length_cons,List.length_nil];omega
theorem word_size (b:Bool):(wordA b).size=4:=by cases b <;> rfl
def looksL (ls:List L4):List UInt8:=ls.flatMap lookL
theorem looks_snoc (ls:List L4) (k:Nat) (h:k<ls.length):looksL (ls.take (k+1))=looksL (ls.take k)++lookL (ls.getD k l4z):=by
 unfold looksL;have e:ls.take (k+1)=ls.take k++[ls.getD k l4z]:=by
  rw [List.take_add_one];simp [List.getD,List.getElem?_eq_getElem h]
 rw [e,List.flatMap_append];simp
theorem c64 (a:Option Addr) (cap:Nat) (ls:List L4) (w:World) (hok:LksOk ls) (hs:∀ i,(ls.getD i l4z).le 1048576) (hat:LksAt w a ls):
 Calls prog 64 #[.slice a ls.length cap] w fun e w'=>e=.returned (.string (ofL (looksL ls)))/\Below w.heap.size w w':=by
 obtain ⟨i0,hi,hz0,hz1,hz2⟩:=info_parts info5;obtain ⟨b,off,hc⟩:=lks_some hat;have HC:Hid (ls=[]\/(a=some ⟨b,off,none⟩/\b<w.heap.size/\∀ i,i<ls.length->w.cell? ⟨b,off+i*4,none⟩=some (.bool (ls.getD i l4z).has)/\w.cell? ⟨b,off+i*4+1,none⟩=some (.string (ls.getD i l4z).nm)/\w.cell? ⟨b,off+i*4+2,none⟩=some (.int .i64 (ls.getD i l4z).cd)/\w.cell? ⟨b,off+i*4+3,none⟩=some (.string (ls.getD i l4z).tx))):=hc;have HS:Hid (∀ i,(ls.getD i l4z).le 1048576):=hs;have HOK:Hid (LksOk ls):=hok;have hl:ls.length<=15:=hok.1;clear hc hat hs hok;go_enter func64,ntmps64
 go_wp2_with fail
 go_loopw [3,4] (fun v vi wr=>∃ k:Nat,k<=ls.length/\vi=.int .i64 k/\Hid (wr.ownsRow w.heap.size 5 1 v (looksL (ls.take k)).length (Lib.byteCells (looksL (ls.take k))))/\Hid (v≠.slice none 0 0)/\(looksL (ls.take k)).length<=k*110000000/\Below w.heap.size w wr) (fun _ vi _=>ls.length - (intOf vi).toNat)
 case atStart=>exact ⟨0,Nat.zero_le _,rfl,World.ownsRow_lit _ #[] 0 lr_ (by unfold maxLen;omega) rfl,(fun e=>by cases e),by simp [looksL],bA_⟩
 case round=>
  obtain ⟨k,hk,rfl,hown,hne,hlen,hb⟩:=hrel;by_cases hlt:k<ls.length
  · rcases HC.out with hss | ⟨ha,hbw,hcell⟩
    · rw [hss] at hlt;exact absurd hlt (Nat.not_lt_zero _)
    subst ha;obtain ⟨n0,n1,n2,n3⟩:=hcell k hlt;have g0:=(hb.cell (p:=⟨b,off+k*4,none⟩) hbw).trans n0;have g1:=(hb.cell (p:=⟨b,off+k*4+1,none⟩) hbw).trans n1;have g2:=(hb.cell (p:=⟨b,off+k*4+2,none⟩) hbw).trans n2;have g3:=(hb.cell (p:=⟨b,off+k*4+3,none⟩) hbw).trans n3;have hbr:b<wr.heap.size:=Nat.lt_of_lt_of_le hbw hb.size;have hxs:=HS.out k;have hcd:=lk_code (HOK.out.2 k hlt);have HSN:Hid (looksL (ls.take (k+1))=looksL (ls.take k)++lookL (ls.getD k l4z)):=looks_snoc ls k hlt;generalize ls.getD k l4z=x at*;generalize looksL (ls.take k)=l at*;have hki:(k:Int)<(ls.length:Int):=om_;have zr:=res_size x.cd x.tx hcd.1 om_;have s1:=hxs.1;have s2:=hxs.2;have HLK:Hid ((lookL x).length<=110000000):=by
     have:=congrArg ByteArray.size (lookL_eq x);rw [ofL_size] at this;simp only [ByteArray.size_append] at this;have w4:=word_size x.has;have e1:(⟨#[32]⟩:ByteArray).size=1:=rfl;have e2:(⟨#[10]⟩:ByteArray).size=1:=rfl;show (lookL x).length<=110000000;omega
    have k1:¬ 9223372036854775807<4+x.nm.size:=om_;have k2:¬ 9223372036854775807<4+x.nm.size+1:=om_;have k2':¬ 9223372036854775807<=4+x.nm.size:=om_;have k3:¬ 9223372036854775807<4+x.nm.size+1+(ofL (resL x.cd x.tx)).size:=om_;have k4:¬ 9223372036854775807<4+x.nm.size+1+(ofL (resL x.cd x.tx)).size+1:=om_;have k4':¬ 9223372036854775807<=4+x.nm.size+1+(ofL (resL x.cd x.tx)).size:=om_;have e32:(⟨#[32]⟩:ByteArray).size=1:=rfl;have e10:(⟨#[10]⟩:ByteArray).size=1:=rfl;have hk15:k<=14:=om_;clear hcell;cases hh:x.has
    · rw [hh] at g0 n0
      have HW:Hid (wordA x.has=⟨#[97,115,107,32]⟩):=by rw [hh];rfl
      have HE:Hid (⟨#[97,115,107,32]⟩++x.nm++⟨#[32]⟩++ofL (resL x.cd x.tx)++⟨#[10]⟩=ofL (lookL x)):=by rw [<- HW.out];exact lookL_eq x
      have e4:(⟨#[97,115,107,32]⟩:ByteArray).size=4:=rfl
      go_wp2_with fail
      refine wp_region_held_drew (S:=(fun u=>u.cell? ⟨b,off+k*4,none⟩=some (.bool false)/\u.cell? ⟨b,off+k*4+1,none⟩=some (.string x.nm)/\u.cell? ⟨b,off+k*4+2,none⟩=some (.int .i64 x.cd)/\u.cell? ⟨b,off+k*4+3,none⟩=some (.string x.tx))) kr_ ?_ fun hHeld=>?_
      · ((try dsimp only);go_keep)
      refine tq 0 hHeld ?_
      try simp only [qq]
      refine tq 1 hHeld ?_
      try simp only [qq]
      refine tq 2 hHeld ?_
      try simp only [qq]
      refine tq 3 hHeld ?_
      try simp only [qq]
      refine tq 4 hHeld ?_
      try simp only [qq]
      refine tq 5 hHeld ?_
      try simp only [qq]
      refine tq 6 hHeld ?_
      try simp only [qq]
      refine tq 7 hHeld ?_
      try simp only [qq]
      refine tq 8 hHeld ?_
      try simp only [qq]
      refine tq 9 hHeld ?_
      try simp only [qq]
      refine tq 10 hHeld ?_
      try simp only [qq]
      refine tq 11 hHeld ?_
      try simp only [qq]
      refine tq 12 hHeld ?_
      try simp only [qq]
      refine tq 13 hHeld ?_
      try simp only [qq]
      refine rq 14 fun K hK=>?_;go_simp;refine (c65 x.cd x.tx _ hcd.1 om_ (by have:=hxs.2;omega)).mono ?_;rintro e w2 ⟨rfl,hb2⟩;have HB2:Hid (Below wr.heap.size wr w2):=((Below.refl _ _).drew).trans hb2;have b0:=(HB2.out.cell (p:=⟨b,off+k*4,none⟩) (by exact hbr)).trans g0;have b1:=(HB2.out.cell (p:=⟨b,off+k*4+1,none⟩) (by exact hbr)).trans g1;have b2:=(HB2.out.cell (p:=⟨b,off+k*4+2,none⟩) (by exact hbr)).trans g2;have b3:=(HB2.out.cell (p:=⟨b,off+k*4+3,none⟩) (by exact hbr)).trans g3;clear hb2
      go_wp2_with fail
      clear hHeld;refine hK.out _ _ ?_ fun hHeld=>?_
      · ((try dsimp only);go_keep)
      clear hK K
      try simp only [qq]
      refine tq 15 hHeld ?_
      try simp only [qq]
      refine tq 16 hHeld ?_
      try simp only [qq]
      refine rq 17 fun K hK=>?_;refine step_apps rfl (.tmp 18) (.tmp 34) 122 9 rfl w.heap.size 5 i0 underlying122 underlying9 hi hz0 hz1 hz2 _ _ _ rfl (ownsRow_below hown.out HB2.out) _ rfl (by simp only [ByteArray.size_append];unfold maxLen;omega) (by simp only [ByteArray.size_append];omega) (by have h1:=HB2.out.size;have h2:=hb.size;omega) ?_;intro v' w3 hown' hgrow hnil;have hB3:Below w.heap.size w w3:=(bT_ hb HB2.out).grown hgrow (by have h1:=HB2.out.size;have h2:=hb.size;omega) (fun j hj=>(hown.out.lt j hj).1);have m0:=(hB3.cell (p:=⟨b,off+k*4,none⟩) hbw).trans n0;have m1:=(hB3.cell (p:=⟨b,off+k*4+1,none⟩) hbw).trans n1;have m2:=(hB3.cell (p:=⟨b,off+k*4+2,none⟩) hbw).trans n2;have m3:=(hB3.cell (p:=⟨b,off+k*4+3,none⟩) hbw).trans n3;clear hHeld;refine hK.out _ _ ?_ fun hHeld=>?_
      · ((try dsimp only);go_keep)
      clear hK K
      try simp only [qq]
      refine tq 18 hHeld ?_
      try simp only [qq]
      refine wpAnyH_done kr_ ?_ _;have HF:Hid (ByteArray.size _=_/\_):=⟨congrArg ByteArray.size HE.out,HE.out⟩;clear hHeld;go_wp2;go_roundw
      case rel=>
       refine ⟨k+1,om_,by go_num,?_,fun e=>hne.out (hnil.1 e).1,by rw [HSN.out,List.length_append];have:=HLK.out;omega,hB3⟩;rw [HSN.out,cells_snoc,List.length_append];have hq:=hown';rw [HE.out] at hq;rw [ofL_size] at hq;exact hq
      case measure=>simp [intOf];omega
    · rw [hh] at g0 n0
      have HW:Hid (wordA x.has=⟨#[104,97,115,32]⟩):=by rw [hh];rfl
      have HE:Hid (⟨#[104,97,115,32]⟩++x.nm++⟨#[32]⟩++ofL (resL x.cd x.tx)++⟨#[10]⟩=ofL (lookL x)):=by rw [<- HW.out];exact lookL_eq x
      have e4:(⟨#[104,97,115,32]⟩:ByteArray).size=4:=rfl
      go_wp2_with fail
      refine wp_region_held_drew (S:=(fun u=>u.cell? ⟨b,off+k*4,none⟩=some (.bool true)/\u.cell? ⟨b,off+k*4+1,none⟩=some (.string x.nm)/\u.cell? ⟨b,off+k*4+2,none⟩=some (.int .i64 x.cd)/\u.cell? ⟨b,off+k*4+3,none⟩=some (.string x.tx))) kr_ ?_ fun hHeld=>?_
      · ((try dsimp only);go_keep)
      refine tq 0 hHeld ?_
      try simp only [qq]
      refine tq 1 hHeld ?_
      try simp only [qq]
      refine tq 2 hHeld ?_
      try simp only [qq]
      refine tq 3 hHeld ?_
      try simp only [qq]
      refine tq 4 hHeld ?_
      try simp only [qq]
      refine tq 5 hHeld ?_
      try simp only [qq]
      refine tq 6 hHeld ?_
      try simp only [qq]
      refine tq 7 hHeld ?_
      try simp only [qq]
      refine tq 8 hHeld ?_
      try simp only [qq]
      refine tq 9 hHeld ?_
      try simp only [qq]
      refine tq 10 hHeld ?_
      try simp only [qq]
      refine tq 11 hHeld ?_
      try simp only [qq]
      refine tq 12 hHeld ?_
      try simp only [qq]
      refine tq 13 hHeld ?_
      try simp only [qq]
      refine rq 14 fun K hK=>?_;go_simp;refine (c65 x.cd x.tx _ hcd.1 om_ (by have:=hxs.2;omega)).mono ?_;rintro e w2 ⟨rfl,hb2⟩;have HB2:Hid (Below wr.heap.size wr w2):=((Below.refl _ _).drew).trans hb2;have b0:=(HB2.out.cell (p:=⟨b,off+k*4,none⟩) (by exact hbr)).trans g0;have b1:=(HB2.out.cell (p:=⟨b,off+k*4+1,none⟩) (by exact hbr)).trans g1;have b2:=(HB2.out.cell (p:=⟨b,off+k*4+2,none⟩) (by exact hbr)).trans g2;have b3:=(HB2.out.cell (p:=⟨b,off+k*4+3,none⟩) (by exact hbr)).trans g3;clear hb2
      go_wp2_with fail
      clear hHeld;refine hK.out _ _ ?_ fun hHeld=>?_
      · ((try dsimp only);go_keep)
      clear hK K
      try simp only [qq]
      refine tq 15 hHeld ?_
      try simp only [qq]
      refine tq 16 hHeld ?_
      try simp only [qq]
      refine rq 17 fun K hK=>?_;refine step_apps rfl (.tmp 18) (.tmp 34) 122 9 rfl w.heap.size 5 i0 underlying122 underlying9 hi hz0 hz1 hz2 _ _ _ rfl (ownsRow_below hown.out HB2.out) _ rfl (by simp only [ByteArray.size_append];unfold maxLen;omega) (by simp only [ByteArray.size_append];omega) (by have h1:=HB2.out.size;have h2:=hb.size;omega) ?_;intro v' w3 hown' hgrow hnil;have hB3:Below w.heap.size w w3:=(bT_ hb HB2.out).grown hgrow (by have h1:=HB2.out.size;have h2:=hb.size;omega) (fun j hj=>(hown.out.lt j hj).1);have m0:=(hB3.cell (p:=⟨b,off+k*4,none⟩) hbw).trans n0;have m1:=(hB3.cell (p:=⟨b,off+k*4+1,none⟩) hbw).trans n1;have m2:=(hB3.cell (p:=⟨b,off+k*4+2,none⟩) hbw).trans n2;have m3:=(hB3.cell (p:=⟨b,off+k*4+3,none⟩) hbw).trans n3;clear hHeld;refine hK.out _ _ ?_ fun hHeld=>?_
      · ((try dsimp only);go_keep)
      clear hK K
      try simp only [qq]
      refine tq 18 hHeld ?_
      try simp only [qq]
      refine wpAnyH_done kr_ ?_ _;have HF:Hid (ByteArray.size _=_/\_):=⟨congrArg ByteArray.size HE.out,HE.out⟩;clear hHeld;go_wp2;go_roundw
      case rel=>
       refine ⟨k+1,om_,by go_num,?_,fun e=>hne.out (hnil.1 e).1,by rw [HSN.out,List.length_append];have:=HLK.out;omega,hB3⟩;rw [HSN.out,cells_snoc,List.length_append];have hq:=hown';rw [HE.out] at hq;rw [ofL_size] at hq;exact hq
      case measure=>simp [intOf];omega
  · have HT:Hid (looksL (ls.take k)=looksL ls):=by rw [List.take_of_length_le om_];rfl
    have hcv:=conv_own' hown.out hne.out;go_wp2;go_ret;exact ⟨by rw [<- HT.out];rfl,hb⟩
end Go.Proofs.YtlckdgjfniglfaaGreatDoor
