import Derived.Test.YthjhakdpikdoeaaGreatDoorKG9
set_option linter.unusedVariables false
set_option maxHeartbeats 8000000
set_option maxRecDepth 100000
namespace Go.Proofs.YthjhakdpikdoeaaGreatDoor
open Proofs.Tryz
open Go.RowKit
theorem lks_keep {w w':World} {b:Option Addr} {is:List M.L4} (h:M.LksAt w b is) (hz:w.heap.size<=w'.heap.size) (hk:∀ g off,b=some ⟨g,off,none⟩->is≠[]->g<w.heap.size->w'.heap[g]?=w.heap[g]?):M.LksAt w' b is:=by
 by_cases hn:is=[]
 · exact .inl hn
 rcases h with h | ⟨g,off,h1,h2,h3⟩
 · exact .inl h
 have e:∀ j,w'.cell? ⟨g,j,none⟩=w.cell? ⟨g,j,none⟩:=fun j=>World.cell?_of_block (hk g off h1 hn h2);refine .inr ⟨g,off,h1,Nat.lt_of_lt_of_le h2 hz,fun i hi=>?_⟩;rw [e,e,e,e];exact h3 i hi
theorem lks_but0 {w w':World} {q P:Nat} {b:Option Addr} {is:List M.L4} (h:M.LksAt w b is) (hr:RdTo w q P) (hb:But q w w'):M.LksAt w' b is:=lks_keep h hb.size fun g off e hn hg=>by
 rcases h with h | ⟨g',off',h1,h2,h3⟩
 · exact absurd h hn
 obtain ⟨rfl,rfl⟩:g=g'/\off=off':=by rw [h1] at e;injection e with e;injection e with e1 e2 _;exact ⟨e1.symm,e2.symm⟩
 have hp:0<is.length:=List.length_pos_iff.2 hn;exact hb.block g hg (rd_ne hr (h3 0 hp).1 (fun _ _ _ e=>by cases e) (fun _ e=>by cases e))
theorem lks_on {w w':World} {b:Option Addr} {n:Nat} {is:List M.L4} {B:Nat} {t:TypeId} {vs:List Value} (h:M.LksAt w b is) (hN:M.NS b n is) (hC:Cl w B t vs) (h0:∀ x,vs[0]?≠some (.bool x)) (ho:OnB B w w'):M.LksAt w' b is:=lks_keep h (Nat.le_of_eq ho.size.symm) fun g off e hn hg=>by
 refine ho.block g fun hB=>?_;subst hB;rcases hN with ⟨g',hN⟩ | hN;rotate_left
 · exact absurd hN hn
 rcases h with h | ⟨g2,off2,h1,h2,h3⟩
 · exact absurd h hn
 rw [e] at hN h1;injection hN with hN;injection hN with e1 e2 _;injection h1 with h1;injection h1 with e3 e4 _;subst e2 e3 e4;have hp:0<is.length:=List.length_pos_iff.2 hn;have:=(h3 0 hp).1;rw [hC.cell] at this;exact h0 _ this
def mc (x:M.G16) (b:Option Addr) (n:Nat):List Value:=[.int .i64 x.kd,.int .i64 x.to,.int .i64 x.fr,.int .i64 x.ep,.int .i64 x.ed,.string x.km.nm,.string x.km.tl,.string x.km.ar,.slice b x.ls.length n,.int .i64 x.ct,.bool x.tn.over,.int .i64 x.tn.cd,.string x.tn.tx,.bool x.tn.has,.string x.tn.nm,.int .i64 x.tn.st]
theorem mc_one (x:M.G16) (b:Option Addr) (n:Nat):∀ v∈mc x b n,v.oneCell'=true:=by simp [mc,Value.oneCell']
structure MsI (K:Nat) (w:World) (x:M.G16) (b:Option Addr) (n:Nat):Prop where
 le:x.le K
 at':M.LksAt w b x.ls
 ns:M.NS b n x.ls
theorem le_mono4 {x:M.L4} {K K':Nat} (h:x.le K) (hK:K<=K'):x.le K':=⟨Nat.le_trans h.1 hK,Nat.le_trans h.2 hK⟩
theorem le_mono3 {x:M3} {K K':Nat} (h:x.le K) (hK:K<=K'):x.le K':=⟨Nat.le_trans h.1 hK,Nat.le_trans h.2.1 hK,Nat.le_trans h.2.2 hK⟩
theorem le_mono {x:M.G16} {K K':Nat} (h:x.le K) (hK:K<=K'):x.le K':=⟨le_mono3 h.1 hK,⟨Nat.le_trans h.2.1.1 hK,fun i=>le_mono4 (h.2.1.2 i) hK⟩,⟨Nat.le_trans h.2.2.1 hK,Nat.le_trans h.2.2.2 hK⟩⟩
variable {K q P:Nat} {w w':World} {x:M.G16} {b:Option Addr} {n:Nat}
theorem MsI.mono (h:MsI K w x b n) {K':Nat} (hK:K<=K'):MsI K' w x b n:=⟨le_mono h.le hK,h.at',h.ns⟩
theorem MsI.below (h:MsI K w x b n) (hb:Below w.heap.size w w'):MsI K w' x b n:=⟨h.le,M.lks_below h.at' hb,h.ns⟩
theorem MsI.but (h:MsI K w x b n) (hr:RdTo w q P) (hb:But q w w'):MsI K w' x b n:=⟨h.le,lks_but0 h.at' hr hb,h.ns⟩
theorem MsI.on (h:MsI K w x b n) {B:Nat} {t:TypeId} {vs:List Value} (hC:Cl w B t vs) (h0:∀ x,vs[0]?≠some (.bool x)) (ho:OnB B w w'):MsI K w' x b n:=⟨h.le,lks_on h.at' h.ns hC h0 ho,h.ns⟩
theorem row_ns {w:World} {base:Nat} {v:Value} {ls:List M.L4} (h:w.ownsRow base 74 4 v ls.length (lkCells ls)):∃ b n,v=.slice b ls.length n/\M.LksAt w b ls/\M.NS b n ls:=by
 obtain ⟨a,c,hv,hat⟩:=row_lks h;refine ⟨a,c,hv,hat,?_⟩;rcases h.2 with ⟨hv',h0⟩ | ⟨g,cap,cur,hv',_⟩
 · rw [hv'] at hv;injection hv with e1 e2 e3
   exact .inr (List.length_eq_zero_iff.1 h0)
 rw [hv'] at hv;injection hv with e1 e2 e3;exact .inl ⟨g,e1.symm⟩
theorem ms_zero (w:World):MsI K w M.g16z none 0:=⟨⟨⟨Nat.zero_le _,Nat.zero_le _,Nat.zero_le _⟩,⟨Nat.zero_le _,fun i=>⟨Nat.zero_le _,Nat.zero_le _⟩⟩,⟨Nat.zero_le _,Nat.zero_le _⟩⟩,.inl rfl,.inr rfl⟩
def wk (no:Int) (up has:Bool) (ms:List Value):List Value:=.int .i64 no::.bool up::.bool has::ms
theorem wk_one {no:Int} {up has:Bool} {ms:List Value} (h:∀ v∈ms,v.oneCell'=true):∀ v∈wk no up has ms,v.oneCell'=true:=by
 intro v hv;simp only [wk,List.mem_cons] at hv;rcases hv with rfl | rfl | rfl | hv
 · rfl
 · rfl
 · rfl
 exact h v hv
section
variable {ops:Array Oper} {rest:List Oper} {o:Oper} {a:Act} {u:World} {Q:Exit->Act->World->Prop}
theorem wp_ldm (hgd:o.guard=none) (x:Operand) (ho:o.op=.load 31 x) {B j:Nat} (hx:a.eval x=.pointer (some ⟨B,j,none⟩)) {t:TypeId} {pre vs:List Value} (hB:Cl u B t (pre++vs)) (hl:vs.length=16) (hj:pre.length=j)
 (h:wpList prog ops Q rest (a.put o.dst (.agg vs.toArray)) u):wpList prog ops Q (o::rest) a u:=
 wl_val hgd (ex_ldN 31 x ho hx (fun i v e=>by rw [hB.cell,List.getElem?_append_right om_,<- e];congr 1;omega) underlying31 rfl (by rw [hl];kernel_rfl)) h
theorem wp_stm (hgd:o.guard=none) (x y:Operand) (ho:o.op=.store 31 x y) {B j:Nat} (hx:a.eval x=.pointer (some ⟨B,j,none⟩)) {t:TypeId} {pre vs xs:List Value} (hy:a.eval y=.agg vs.toArray) (hB:Cl u B t (pre++xs)) (hl:vs.length=16) (hxl:xs.length=16) (hj:pre.length=j) (h1:∀ v∈vs,v.oneCell'=true) (hd:o.dst=none)
 (h:∀ u',Cl u' B t (pre++vs)->OnB B u u'->wpList prog ops Q rest a u'):wpList prog ops Q (o::rest) a u:=
 wl_stN hgd 31 x y ho hx hy hB so_ h1 (by rw [hl];kernel_rfl) (fun w' k1 k2=>by
  have e:putL (pre++xs) j vs=pre++vs:=by
   unfold putL;rw [<- hj,List.take_left,List.drop_eq_nil_of_le so_,List.append_nil]
  rw [e] at k1;rw [hd];exact h w' k1 k2)
theorem wp_ldk (hgd:o.guard=none) (x:Operand) (ho:o.op=.load 33 x) {B:Nat} (hx:a.eval x=.pointer (some ⟨B,0,none⟩)) {t:TypeId} {vs:List Value} (hB:Cl u B t vs) (hl:vs.length=19)
 (h:wpList prog ops Q rest (a.put o.dst (.agg vs.toArray)) u):wpList prog ops Q (o::rest) a u:=
 wl_val hgd (ex_ldN 33 x ho hx (fun i v e=>by rw [Nat.zero_add];exact (hB.cell i).trans e) underlying33 rfl (by rw [hl];kernel_rfl)) h
theorem wp_stk (hgd:o.guard=none) (x y:Operand) (ho:o.op=.store 33 x y) {B:Nat} (hx:a.eval x=.pointer (some ⟨B,0,none⟩)) {t:TypeId} {vs xs:List Value} (hy:a.eval y=.agg vs.toArray) (hB:Cl u B t xs) (hl:vs.length=19) (hxl:xs.length=19) (h1:∀ v∈vs,v.oneCell'=true) (hd:o.dst=none)
 (h:∀ u',Cl u' B t vs->OnB B u u'->wpList prog ops Q rest a u'):wpList prog ops Q (o::rest) a u:=
 wl_stN hgd 33 x y ho hx hy hB om_ h1 (by rw [hl];kernel_rfl) (fun w' k1 k2=>by rw [putL_all om_] at k1;rw [hd];exact h w' k1 k2)
end
end Go.Proofs.YthjhakdpikdoeaaGreatDoor
namespace Go.Proofs.YthjhakdpikdoeaaGreatDoor
open Proofs.Tryz
open Go.RowKit
theorem c13 (m:M3) (a:Option Addr) (cap:Nat) (ls:List M.L4) (w:World) (hm:m.le 1048576) (hl:ls.length<=1048576) (hs:∀ i,(ls.getD i M.l4z).le 1048576) (hat:M.LksAt w a ls) (hsh:ShapesAt w) (hmx:MaxAt w):
 Calls prog 13 #[.agg #[.string m.nm,.string m.tl,.string m.ar],.slice a ls.length cap] w fun e w'=>e=.returned (goT m ls).v/\Below w.heap.size w w':=by
 by_cases hk:okM m=true
 · by_cases h15:ls.length<=15
   · rw [goT_yes hk h15]
     exact c13y m a cap ls w hm hk h15 hs hat hsh hmx
   rw [goT_no (.inr om_)];exact c13n m a cap ls w hm hl (.inr om_)
 have hk':okM m=false:=by simpa using hk
 rw [goT_no (.inl hk')];exact c13n m a cap ls w hm hl (.inl hk')
theorem c26t {o:Bool} {c:Int} {t:ByteArray} {h:Bool} {n:ByteArray} {k:Int} (m:M3) (a:Option Addr) (cap:Nat) (ls:List M.L4) (w:World) (hm:m.le 1048576) (hl:ls.length<=1048576) (hs:∀ i,(ls.getD i M.l4z).le 1048576) (hat:M.LksAt w a ls) (e:goT m ls=⟨o,c,t,h,n,k⟩):
 Calls prog 26 #[.agg #[.string m.nm,.string m.tl,.string m.ar],.slice a ls.length cap] w fun e w'=>e=.returned (.agg #[.bool o,.int .i64 c,.string t,.bool h,.string n,.int .i64 k])/\Below w.heap.size w w':=by
 have:=c26 m a cap ls w hm hl hs hat;rw [e] at this;exact this
theorem c13t {o:Bool} {c:Int} {t:ByteArray} {h:Bool} {n:ByteArray} {k:Int} (m:M3) (a:Option Addr) (cap:Nat) (ls:List M.L4) (w:World) (hm:m.le 1048576) (hl:ls.length<=1048576) (hs:∀ i,(ls.getD i M.l4z).le 1048576) (hat:M.LksAt w a ls) (hsh:ShapesAt w) (hmx:MaxAt w) (e:goT m ls=⟨o,c,t,h,n,k⟩):
 Calls prog 13 #[.agg #[.string m.nm,.string m.tl,.string m.ar],.slice a ls.length cap] w fun e w'=>e=.returned (.agg #[.bool o,.int .i64 c,.string t,.bool h,.string n,.int .i64 k])/\Below w.heap.size w w':=by
 have:=c13 m a cap ls w hm hl hs hat hsh hmx;rw [e] at this;exact this
def Thin (t:TN):Prop:=(t.over=true->t.name=⟨#[]⟩)/\(t.over=false->t.text=⟨#[]⟩)
theorem thin_over (c:Int) (x:ByteArray) (k:Int):Thin (overT c x k):=⟨fun _=>rfl,nofun⟩
theorem thin_zero:Thin zeroT:=⟨nofun,fun _=>rfl⟩
theorem thin_look {x:I3} {reps:List R2} {s:ST} {t:TN} (h:look x reps s=.inr t):Thin t:=by
 unfold look at h
 repeat' split at h
 all_goals first | (cases h;done) | skip
 all_goals injection h with h
 all_goals subst h
 all_goals first | exact thin_over _ _ _ | exact ⟨nofun,fun _=>rfl⟩
theorem thin_act {ar:ByteArray} {x:I3} {reps:List R2} {s:ST} {t:TN} (h:act ar reps x s=.inr t):Thin t:=by
 unfold act at h
 repeat' split at h
 all_goals first | (cases h;done) | exact thin_look h | skip
 all_goals injection h with h
 all_goals subst h
 all_goals exact thin_over _ _ _
theorem thin_run {T:List I3} {ar:ByteArray} {reps:List R2}:∀ (n:Nat) (s:ST),Thin (runF T ar reps n s)
 | 0,s=>thin_zero
 | n+1,s=>by
  unfold runF;split
  · exact thin_run n _
  rename_i r h;unfold step at h
  repeat' split at h
  · injection h with h;subst h;exact thin_over _ _ _
  · injection h with h;subst h;exact thin_over _ _ _
  exact thin_act h
theorem thin_next {T:List I3} {ar:ByteArray} {reps:List R2}:Thin (nextT T ar reps):=by
 unfold nextT;split
 · exact thin_run _ _
 exact thin_zero
theorem thin_nextR {tl ar:ByteArray} {s:RS} {r:R2}:Thin (nextR tl ar s r).1:=by
 unfold nextR
 repeat' split
 · exact thin_next
 · show Thin (firstR _ _ _)
   unfold firstR;split
   · exact thin_next
   exact thin_over _ _ _
 · exact thin_over _ _ _
 exact thin_over _ _ _
theorem thin_goL {tl ar:ByteArray}:∀ (ls:List M.L4) (t:TN) (s:RS),Thin t->Thin (goL tl ar t s ls)
 | [],t,s,h=>h
 | x::xs,t,s,h=>by
  by_cases hh:Halt t x
  · rw [goL_halt hh];exact thin_zero
  rw [goL_go hh];exact thin_goL xs _ _ thin_nextR
theorem lkOk_vr {x:M.L4} (h:M.LkOk x):vr x.cd x.tx.data.toList=true:=by
 rcases h.2 with ⟨_,⟨h1,h2⟩ | ⟨h1,h2⟩⟩ | ⟨_,h'⟩
 · rw [h1,h2];rfl
 · rw [h1,h2];simp [vr,h.1]
 exact h'
theorem goL_inv {m:M3} (hm:okM m=true):∀ (b a:List M.L4),RInv m a->goL m.tl m.ar (tn m a) (rsF m a) b=zeroT\/(goL m.tl m.ar (tn m a) (rsF m a) b=tn m (a++b)/\RInv m (a++b))
 | [],a,h=>.inr ⟨by rw [List.append_nil];rfl,by rw [List.append_nil];exact h⟩
 | x::b,a,h=>by
  by_cases hh:Halt (tn m a) x
  · exact .inl (goL_halt hh)
  have ho:(tn m a).over=false:=by
   cases e:(tn m a).over
   · rfl
   exact absurd (.inl e) hh
  have hx:M.LkOk x:=Classical.byContradiction fun k=>hh (.inr (.inr (.inr k)));rw [goL_go hh,<- tn_snoc,<- rsF_snoc];have:=goL_inv hm b (a++[x]) (rinv_snoc hm h ho (lkOk_vr hx))
  rwa [List.append_assoc] at this
theorem goT_small (m:M3) (ls:List M.L4):(goT m ls).text.size<=300/\(goT m ls).name.size<=300:=by
 by_cases hk:okM m=true/\ls.length<=15;rotate_left
 · have:goT m ls=zeroT:=goT_no (by
    by_cases h:okM m=true
    · exact .inr (Nat.lt_of_not_le fun h'=>hk ⟨h,h'⟩)
    exact .inl (by simpa using h))
   rw [this];exact ⟨dc_,dc_⟩
 have ht:Thin (goT m ls):=by
  rw [goT_yes hk.1 hk.2];exact thin_goL _ _ _ ⟨nofun,fun _=>rfl⟩
 rw [goT_yes hk.1 hk.2] at ht ⊢;have:=goL_inv hk.1 ls [] (rinv_nil hk.1);rw [List.nil_append] at this;have e1:tn m []=turn0 m.tl:=rfl;have e2:rsF m []=rs0:=rfl;rw [e1,e2] at this;rcases this with h | ⟨h,hR⟩
 · rw [h]
   exact ⟨dc_,dc_⟩
 rw [h] at ht ⊢;cases ho:(tn m ls).over
 · rw [ht.2 ho]
   have:=name_le (hR.name ho).1;exact ⟨dc_,om_⟩
 rw [ht.1 ho];have:=vr_small (hR.over ho);rw [ba_len] at this;exact ⟨this,dc_⟩
def kd4 (K:Nat):Nat->Value->Bool
 | 0,.bool _=>true
 | 1,.string s=>decide (s.size<=K)
 | 2,.int .i64 _=>true
 | 3,.string s=>decide (s.size<=K)
 | _,_=>false
theorem kd_0 {K:Nat} {v:Value} (h:kd4 K 0 v=true):∃ b,v=.bool b:=by
 cases v <;> first | (cases h;done) | exact ⟨_,rfl⟩
theorem kd_1 {K:Nat} {v:Value} (h:kd4 K 1 v=true):∃ s,v=.string s/\s.size<=K:=by
 cases v <;> first | (cases h;done) | exact ⟨_,rfl,by simpa [kd4] using h⟩
theorem kd_2 {K:Nat} {v:Value} (h:kd4 K 2 v=true):∃ i,v=.int .i64 i:=by
 cases v with
 | int k i=>cases k <;> first | (cases h;done) | exact ⟨_,rfl⟩
 | _=>cases h
theorem kd_3 {K:Nat} {v:Value} (h:kd4 K 3 v=true):∃ s,v=.string s/\s.size<=K:=by
 cases v <;> first | (cases h;done) | exact ⟨_,rfl,by simpa [kd4] using h⟩
def LR (K n:Nat) (xs:List Value):Prop:=xs.length=n*4/\∀ j v,xs[j]?=some v->kd4 K (j % 4) v=true
theorem LR.set {K n j:Nat} {xs:List Value} {v:Value} (h:LR K n xs) (hv:kd4 K (j % 4) v=true):LR K n (xs.set j v):=
 ⟨by rw [List.length_set];exact h.1,fun i y hy=>by
  rw [List.getElem?_set] at hy;split at hy
  · rename_i e;subst e
    split at hy
    · injection hy with hy;subst hy;exact hv
    cases hy
  exact h.2 i y hy⟩
theorem LR.app {K n m:Nat} {xs ys:List Value} (h:LR K n xs) (k:LR K m ys):LR K (n+m) (xs++ys):=
 ⟨by rw [List.length_append,h.1,k.1];omega,fun i y hy=>by
  rcases Nat.lt_or_ge i xs.length with hi | hi
  · rw [List.getElem?_append_left hi] at hy;exact h.2 i y hy
  rw [List.getElem?_append_right hi] at hy;have:=k.2 _ y hy;rw [h.1] at this hi
  rwa [show (i - n*4) % 4=i % 4 by omega] at this⟩
theorem lr_of {K:Nat} {ls:List M.L4} (h:∀ i,(ls.getD i M.l4z).le K):LR K ls.length (lkCells ls):=
 ⟨lkCells_len ls,fun j v hv=>by
  have hj:=(List.getElem?_eq_some_iff.1 hv).1;rw [lkCells_len] at hj;have hi:j / 4<ls.length:=om_;have hm:j % 4<4:=Nat.mod_lt _ dc_;have ej:j=j / 4*4+j % 4:=om_;rw [ej,lkCells_get ls _ _ hi hm] at hv;have hle:=h (j / 4);rcases (by omega:j % 4=0\/j % 4=1\/j % 4=2\/j % 4=3) with h0 | h0 | h0 | h0
  all_goals rw [h0] at hv ⊢
  all_goals simp at hv;subst hv
  · rfl
  · simpa [kd4] using hle.1
  · rfl
  simpa [kd4] using hle.2⟩
theorem LR.get {K n:Nat} {xs:List Value} (h:LR K n xs) {k:Nat} (hk:k<n):∃ (b:Bool) (s:ByteArray) (c:Int) (t:ByteArray),xs[k*4]?=some (.bool b)/\xs[k*4+1]?=some (.string s)/\xs[k*4+2]?=some (.int .i64 c)/\xs[k*4+3]?=some (.string t)/\s.size<=K/\t.size<=K:=by
 have e:∀ j,j<4->∃ v,xs[k*4+j]?=some v/\kd4 K j v=true:=fun j hj=>by
  have hl:k*4+j<xs.length:=by rw [h.1];omega
  refine ⟨_,List.getElem?_eq_getElem hl,?_⟩;have:=h.2 _ _ (List.getElem?_eq_getElem hl)
  rwa [show (k*4+j) % 4=j by omega] at this
 obtain ⟨v0,h0,k0⟩:=e 0 om_;obtain ⟨v1,h1,k1⟩:=e 1 om_;obtain ⟨v2,h2,k2⟩:=e 2 om_;obtain ⟨v3,h3,k3⟩:=e 3 om_;obtain ⟨b,rfl⟩:=kd_0 k0;obtain ⟨s,rfl,hs⟩:=kd_1 k1;obtain ⟨c,rfl⟩:=kd_2 k2;obtain ⟨t,rfl,ht⟩:=kd_3 k3;exact ⟨b,s,c,t,h0,h1,h2,h3,hs,ht⟩
theorem LR.mk {K:Nat}:∀ {n:Nat} {xs:List Value},LR K n xs->∃ ls:List M.L4,ls.length=n/\xs=lkCells ls/\∀ x∈ls,x.le K
 | 0,xs,h=>⟨[],rfl,by simpa [lkCells] using h.1,fun x h=>nomatch h⟩
 | n+1,[],h=>by simp [LR] at h
 | n+1,[_],h=>by have:=h.1;simp at this;omega
 | n+1,[_,_],h=>by have:=h.1;simp at this;omega
 | n+1,[_,_,_],h=>by have:=h.1;simp at this;omega
 | n+1,x::y::z::t::r,h=>by
  obtain ⟨b,rfl⟩:=kd_0 (h.2 0 x rfl);obtain ⟨s,rfl,hs⟩:=kd_1 (h.2 1 y rfl);obtain ⟨c,rfl⟩:=kd_2 (h.2 2 z rfl);obtain ⟨u,rfl,hu⟩:=kd_3 (h.2 3 t rfl);obtain ⟨gs,h1,h2,h3⟩:=LR.mk (n:=n) (xs:=r) ⟨by have:=h.1;simp at this;omega,fun j v hv=>by
   have:=h.2 (j+4) v (by simpa using hv)
   rwa [show (j+4) % 4=j % 4 by omega] at this⟩
  exact ⟨⟨b,s,c,u⟩::gs,by simp [h1],by rw [h2];rfl,fun x hx=>by rcases List.mem_cons.1 hx with rfl | hx;exact ⟨hs,hu⟩;exact h3 x hx⟩
theorem LR.mono {K K' n:Nat} {xs:List Value} (h:LR K n xs) (hK:K<=K'):LR K' n xs:=by
 obtain ⟨ls,rfl,rfl,h3⟩:=h.mk;refine lr_of fun i=>?_;rcases Nat.lt_or_ge i ls.length with hi | hi
 · rw [show ls.getD i M.l4z=ls[i] from by simp [List.getD,hi]];exact le_mono4 (h3 _ (List.getElem_mem hi)) hK
 rw [show ls.getD i M.l4z=M.l4z from by simp [List.getD,hi]];exact ⟨Nat.zero_le _,Nat.zero_le _⟩
structure LS (q P:Nat) (w:World) (n:Nat) (v:Value) (xs:List Value) (K:Nat) (u:World):Prop where
 rd:RdTo u q P
 bu:But q w u
 qw:q<w.heap.size
 row:u.ownsRow w.heap.size 74 4 v n xs
 lr:LR K n xs
variable {q P P' n m K:Nat} {w u u':World} {v v':Value} {xs ys:List Value}
theorem LS.call (h:LS q P w n v xs K u) (hr:RdTo u' q P') (hb:But q u u'):LS q P' w n v xs K u':=⟨hr,h.bu.trans hb,h.qw,own_but h.row hb h.qw,h.lr⟩
theorem LS.later (h:LS q P w n v xs K u) (hb:Below u.heap.size u u'):LS q P w n v xs K u':=h.call (h.rd.later hb) (But.of_below hb)
theorem LS.rdm (h:LS q P w n v xs K u) (hp:P<=P'):LS q P' w n v xs K u:=h.call (h.rd.mono hp) (But.refl _ _)
theorem LS.set {g c:Nat} {y:Value} (h:LS q P w n (.slice (some ⟨g,0,none⟩) n c) xs K u) (j:Nat) (hy:kd4 K (j % 4) y=true):LS q P w n (.slice (some ⟨g,0,none⟩) n c) (xs.set j y) K (u.setCell ⟨g,j,none⟩ y):=by
 have hg:=(h.row.lt g rfl).1;have:=h.qw;exact ⟨rd_set1 h.rd om_ _ _,but_set1 h.bu hg _ _,h.qw,(h.row.stored j y).1,h.lr.set hy⟩
theorem LS.app (h:LS q P w n v xs K u) (hr:u'.ownsRow w.heap.size 74 4 v' (n+m) (xs++ys)) (hg:u.grownBy u' v.ownBlock) (hx:LR K m ys):LS q P w (n+m) v' (xs++ys) K u':=by
 have hb:=gr_bW (Below.refl w.heap.size u) hg h.bu.size (fun k e=>(h.row.lt k e).1);exact ⟨h.rd.laterB hb h.qw,h.bu.laterB hb lr_,h.qw,hr,h.lr.app hx⟩
def Is51 (K q P:Nat) (w:World) (e:Ending) (w':World):Prop:=(∃ (b:Option Addr) (n:Nat) (ls:List M.L4),e=.returned (.slice b ls.length n)/\ls.length<=K/\(∀ i,(ls.getD i M.l4z).le K)/\M.LksAt w' b ls/\M.NS b n ls)/\RdTo w' q P/\But q w w'
theorem LS.fin (h:LS q P w n v xs K u) (hn:n<=K) (hp:P<=P'):Is51 K q P' w (.returned v) u:=by
 obtain ⟨ls,rfl,rfl,h3⟩:=h.lr.mk;obtain ⟨b,c,rfl,hat,hns⟩:=row_ns h.row;refine ⟨⟨b,c,ls,rfl,hn,fun i=>?_,hat,hns⟩,h.rd.mono hp,h.bu⟩;rcases Nat.lt_or_ge i ls.length with hi | hi
 · rw [show ls.getD i M.l4z=ls[i] from by simp [List.getD,hi]];exact h3 _ (List.getElem_mem hi)
 rw [show ls.getD i M.l4z=M.l4z from by simp [List.getD,hi]];exact ⟨Nat.zero_le _,Nat.zero_le _⟩
theorem lks_source {w:World} {b:Option Addr} {n:Nat} {ls:List M.L4} (h:M.LksAt w b ls):Src w (.slice b ls.length n) 4 ls.length (lkCells ls):=by
 cases b with
 | some ad=>exact .inr ⟨ad,n,rfl,lkCells_len ls,lks_cellsAt h⟩
 | none=>
  rcases h with rfl | ⟨b,off,e,_⟩
  · exact .inl ⟨⟨n,rfl⟩,rfl,rfl⟩
  cases e
theorem LS.cells {g c k:Nat} (h:LS q P w n (.slice (some ⟨g,0,none⟩) n c) xs K u) (hk:k<n):∃ (hs:Bool) (nm:ByteArray) (cd:Int) (tx:ByteArray),u.cell? ⟨g,k*4,none⟩=some (.bool hs)/\u.cell? ⟨g,k*4+1,none⟩=some (.string nm)/\u.cell? ⟨g,k*4+2,none⟩=some (.int .i64 cd)/\u.cell? ⟨g,k*4+3,none⟩=some (.string tx)/\nm.size<=K/\tx.size<=K:=by
 obtain ⟨hs,nm,cd,tx,e0,e1,e2,e3,hnm,htx⟩:=h.lr.get hk;exact ⟨hs,nm,cd,tx,(h.row.cellAt (k*4) om_).trans e0,(h.row.cellAt (k*4+1) om_).trans e1,(h.row.cellAt (k*4+2) om_).trans e2,(h.row.cellAt (k*4+3) om_).trans e3,hnm,htx⟩
theorem kd_a {K k:Nat} {b:Bool}:kd4 K (k*4 % 4) (.bool b)=true:=by rw [show k*4 % 4=0 by omega];rfl
theorem kd_b {K k:Nat} {s:ByteArray} (h:s.size<=K):kd4 K ((k*4+1) % 4) (.string s)=true:=by rw [show (k*4+1) % 4=1 by omega];simpa [kd4] using h
theorem kd_c {K k:Nat} {i:Int}:kd4 K ((k*4+2) % 4) (.int .i64 i)=true:=by rw [show (k*4+2) % 4=2 by omega];rfl
theorem kd_d {K k:Nat} {s:ByteArray} (h:s.size<=K):kd4 K ((k*4+3) % 4) (.string s)=true:=by rw [show (k*4+3) % 4=3 by omega];simpa [kd4] using h
theorem lr_one {K:Nat} {hs:Bool} {nm:ByteArray} {cd:Int} {tx:ByteArray} (h1:nm.size<=K) (h2:tx.size<=K):LR K 1 [.bool hs,.string nm,.int .i64 cd,.string tx]:=
 lr_of (ls:=[⟨hs,nm,cd,tx⟩]) fun i=>by
  rcases i with _ | i
  · exact ⟨h1,h2⟩
  exact ⟨Nat.zero_le _,Nat.zero_le _⟩
def lenV:Value->Nat | .slice _ n _=>n | _=>0
theorem c51 (q P:Nat) (b:Option Addr) (n:Nat) (ls:List M.L4) (w:World) (hp:P<=80000) (hr:RdTo w q P) (hl:ls.length<=999999) (hs:∀ i,(ls.getD i M.l4z).le 999999) (hat:M.LksAt w b ls):
 Calls prog 51 #[.pointer (some ⟨q,0,none⟩),.slice b ls.length n] w (Is51 1000000 q (P+10) w):=by
 have HR:=hdI hr;have hq:=hr.lt;have HS:=hdI hs;have HAT:=hdI hat;clear hr hs hat;go_enter func51,ntmps51;have hb0:Below w.heap.size w (w.alloc (.cells #[] 74)):=bA;have H0:Hid (LS q P w 0 (.slice (some ⟨w.heap.size,0,none⟩) 0 0) [] 999999 (w.alloc (.cells #[] 74))):=⟨HR.out.later hb0,But.of_below hb0,hq,row0 w 74 4 lr_,rfl,fun j v h=>by cases h⟩
 go_wp2_with (at_builtin;refine wl_app rfl _ _ 25 rfl w.heap.size 74 4 underlying25 inf74 dc_ _ 0 [] rfl H0.out.row _ ls.length (lkCells ls) rfl (lks_source (M.lks_below HAT.out hb0)) (lkCells_one ls) om_ sm_ ?_;intro v1 y1 O1 g1 hn1;have H1:Hid (LS q P w ls.length v1 (lkCells ls) 999999 y1):=(by have h:=H0.out.app O1 g1 (lr_of HS.out);rw [Nat.zero_add] at h;exact h);clear O1 g1 hn1;obtain ⟨a1,c1,e1⟩:=row_sl H1.out.row;subst e1)
 clear H0 hb0 HR HAT HS;refine (pickU y1 q P ls.length om_ om_ H1.out.rd).mono ?_;rintro e y2 ⟨⟨k,rfl,hk1,hk2⟩,hr,ho⟩;have H2:=hdI (H1.out.call hr ho.but);clear H1 hr ho;rcases Nat.eq_zero_or_pos ls.length with h0 | h0
 · obtain rfl:=List.length_eq_zero_iff.1 h0
   go_wp2;go_ret;have hb:Below y2.heap.size y2 (y2.alloc (.cells #[.bool false,.string ⟨#[116,48]⟩,.int .i64 0,.string ⟨#[101,110,100,10]⟩] 74)):=bA;have C:=cl_new y2 [.bool false,.string ⟨#[116,48]⟩,.int .i64 0,.string ⟨#[101,110,100,10]⟩] 74;refine ⟨⟨_,_,[⟨false,⟨#[116,48]⟩,0,⟨#[101,110,100,10]⟩⟩],rfl,dc_,fun i=>?_,.inr ⟨_,0,rfl,sm_,fun i hi=>?_⟩,.inl ⟨_,rfl⟩⟩,(H2.out.rd.later hb).mono om_,H2.out.bu.later hb⟩
   · rcases i with _ | i
     · exact ⟨dc_,dc_⟩
     exact ⟨Nat.zero_le _,Nat.zero_le _⟩
   obtain rfl:i=0:=by simp at hi;exact hi
   exact ⟨C.cell 0,C.cell 1,C.cell 2,C.cell 3⟩
 have hk:k<ls.length:=om_;have hne:((ls.length:Int)==0)=false:=by simp only [beq_eq_false_iff_ne];omega
 obtain ⟨g,rfl⟩:=row_pos H2.out.row h0;generalize lkCells ls=xs at H2;clear hk1 hk2
 go_wp2_with fail
 refine (pickT y2 q (P+1) 7 om_ om_ om_ H2.out.rd).mono ?_;rintro e y3 ⟨⟨r,rfl,r0,r1⟩,hr,ho⟩;have H3:=hdI (H2.out.call hr ho.but);clear H2 hr ho;obtain ⟨hs,nm,cd,tx,c0,c1,c2,c3,hnm,htx⟩:=H3.out.cells hk;have H3:Hid (LS q (P+2) w ls.length (.slice (some ⟨g,0,none⟩) ls.length _) xs 1000000 y3):=⟨H3.out.rd,H3.out.bu,H3.out.qw,H3.out.row,H3.out.lr.mono om_⟩;have f0:=H3.out.row.frozenAt (k*4);have f1:=H3.out.row.frozenAt (k*4+1);have f2:=H3.out.row.frozenAt (k*4+2);have f3:=H3.out.row.frozenAt (k*4+3);obtain rfl | rfl | rfl | rfl | rfl | rfl | rfl:r=0\/r=1\/r=2\/r=3\/r=4\/r=5\/r=6:=om_
 · go_wp2
   go_ret;exact (H3.out.set (k*4) kd_a).fin om_ om_
 · go_wp2_with fail
   obtain ⟨y4,hy⟩:∃ y:World,y=y3.alloc (.cells #[.string ⟨#[]⟩,.string ⟨#[97]⟩,.string ⟨#[98]⟩] 9):=⟨_,rfl⟩;rw [<- hy];have H4:Hid (LS q (P+2) w ls.length _ xs 1000000 y4):=(by rw [hy];exact H3.out.later bA);have C4:Hid (Cl y4 y3.heap.size 9 [.string ⟨#[]⟩,.string ⟨#[97]⟩,.string ⟨#[98]⟩]):=by show Cl _ _ _ _;rw [hy];exact cl_new y3 _ 9
   have hq3:=H3.out.rd.lt;clear hy H3 c0 c1 c2 c3 f0 f1 f2 f3;refine (pickT y4 q (P+2) 3 om_ om_ om_ H4.out.rd).mono ?_;rintro e y5 ⟨⟨r5,rfl,r50,r51⟩,hr,ho⟩;have H5:=hdI (H4.out.call hr ho.but);have C5:Hid (Cl y5 y3.heap.size 9 [.string ⟨#[]⟩,.string ⟨#[97]⟩,.string ⟨#[98]⟩]):=(ho.block _ om_).trans C4.out;clear H4 C4 hr ho;obtain ⟨hs,nm,cd,tx,c0,c1,c2,c3,hnm,htx⟩:=H5.out.cells hk;have f1:=H5.out.row.frozenAt (k*4+1);obtain ⟨z,hz,hzs⟩:=lit_str [.string ⟨#[]⟩,.string ⟨#[97]⟩,.string ⟨#[98]⟩] 1 dc_ r50 (by simpa using r51);have cz:=(C5.out.cell r5.toNat).trans hz;go_wp2;go_ret;exact (H5.out.set (k*4+1) (kd_b om_)).fin om_ om_
 · go_wp2_with fail
   refine (c82 q (P+2) y3 om_ H3.out.rd).mono ?_;rintro e y4 ⟨⟨c4,x4,rfl,hx4⟩,hr,ho⟩;have H4:=hdI (H3.out.call hr ho);clear H3 c0 c1 c2 c3 f0 f1 f2 f3 hr ho;obtain ⟨hs,nm,cd,tx,c0,c1,c2,c3,hnm,htx⟩:=H4.out.cells hk;have f2:=H4.out.row.frozenAt (k*4+2);have f3:=H4.out.row.frozenAt (k*4+3);go_wp2;go_ret;exact ((H4.out.set (k*4+2) kd_c).set (k*4+3) (kd_d om_)).fin om_ om_
 · go_wp2_with fail
   refine (pickT y3 q (P+2) 3 om_ om_ om_ H3.out.rd).mono ?_;rintro e y4 ⟨⟨r5,rfl,r50,r51⟩,hr,ho⟩;have H4:=hdI (H3.out.call hr ho.but);clear H3 c0 c1 c2 c3 f0 f1 f2 f3 hr ho;obtain ⟨hs,nm,cd,tx,c0,c1,c2,c3,hnm,htx⟩:=H4.out.cells hk;have f2:=H4.out.row.frozenAt (k*4+2);go_wp2;go_ret;exact (H4.out.set (k*4+2) kd_c).fin om_ om_
 · have hb4:Below y3.heap.size y3 (y3.alloc (.cells #[.bool hs,.string nm,.int .i64 cd,.string tx] 74)):=bA
   have H4:=hdI (H3.out.later hb4)
   go_wp2_with (at_builtin;refine wl_app rfl _ _ 25 rfl w.heap.size 74 4 underlying25 inf74 dc_ _ ls.length xs rfl H4.out.row _ 1 [.bool hs,.string nm,.int .i64 cd,.string tx] rfl (.inr ⟨⟨_,0,none⟩,1,rfl,rfl,cl_row (cl_new y3 [.bool hs,.string nm,.int .i64 cd,.string tx] 74)⟩) (by simp [Value.oneCell']) om_ H4.out.bu.size ?_;intro v1 y5 O1 g1 hn1;have H5:=hdI (H4.out.app O1 g1 (lr_one om_ om_));clear O1 g1 hn1)
   go_ret;exact H5.out.fin om_ om_
 · go_wp2_with fail
   refine (pickT y3 q (P+2) 2 om_ om_ om_ H3.out.rd).mono ?_;rintro e y4 ⟨⟨r5,rfl,r50,r51⟩,hr,ho⟩;have H4:=hdI (H3.out.call hr ho.but);clear H3 c0 c1 c2 c3 f0 f1 f2 f3 hr ho
   go_wp2_with fail
   go_loopw [5] (fun o wr=>∃ (m g c:Nat) (xs:List Value),o=.slice (some ⟨g,0,none⟩) m c/\k<m/\m<=999999/\Hid (LS q (P+3) w m (.slice (some ⟨g,0,none⟩) m c) xs 1000000 wr)) (fun o _=>20 - lenV o)
   case atStart=>exact ⟨_,_,_,_,rfl,hk,om_,H4.out⟩
   clear H4;obtain ⟨m,g,c,xs,rfl,hkm,hm,H4⟩:=hrel;by_cases hlt:(m:Int)<15+r5;rotate_left
   · go_wp2
     go_ret;exact H4.out.fin om_ om_
   obtain ⟨hs,nm,cd,tx,c0,c1,c2,c3,hnm,htx⟩:=H4.out.cells hkm;have hb4:Below wr.heap.size wr (wr.alloc (.cells #[.bool hs,.string nm,.int .i64 cd,.string tx] 74)):=bA;have H5:=hdI (H4.out.later hb4)
   go_wp2_with (at_builtin;refine wl_app rfl _ _ 25 rfl w.heap.size 74 4 underlying25 inf74 dc_ _ m xs rfl H5.out.row _ 1 [.bool hs,.string nm,.int .i64 cd,.string tx] rfl (.inr ⟨⟨_,0,none⟩,1,rfl,rfl,cl_row (cl_new wr [.bool hs,.string nm,.int .i64 cd,.string tx] 74)⟩) (by simp [Value.oneCell']) om_ H5.out.bu.size ?_;intro v1 y5 O1 g1 hn1;have H6:=hdI (H5.out.app O1 g1 (lr_one hnm htx));clear O1 g1 hn1;obtain ⟨a6,c6,e6⟩:=row_sl H6.out.row;subst e6;obtain ⟨g6,e6⟩:=row_pos H6.out.row om_;subst e6)
   go_roundw
   case rel=>exact ⟨m+1,_,_,_,rfl,om_,om_,H6.out⟩
   case measure=>simp [lenV];omega
 have hn:¬9223372036854775807<tx.size+1:=om_;go_wp2;go_ret;exact (H3.out.set (k*4+3) (kd_d (by rw [ByteArray.size_append];show tx.size+1<=_;omega))).fin om_ om_
end Go.Proofs.YthjhakdpikdoeaaGreatDoor
namespace Go.Proofs.YthjhakdpikdoeaaGreatDoor
open Proofs.Tryz
open Go.RowKit
theorem WayOk.only {w w':World} {q P:Nat} {x:W8} (h:WayOk w x) (hr:RdTo w q P) (ho:OnlyAt q w w'):WayOk w' x:=by
 obtain ⟨a,c,h1,h2,h3,h4⟩:=h.lv;exact ⟨h.m,h.l,h.s,h.t,a,c,h1,lks_only h2 hr ho,fun k e=>by rw [ho.size];exact h3 k e,h4⟩
theorem WayOk.below {w w':World} {x:W8} (h:WayOk w x) (hb:Below w.heap.size w w'):WayOk w' x:=⟨h.m,h.l,h.s,h.t,h.lv.below hb⟩
theorem lks_far {w:World} {g off:Nat} {is:List M.L4} {B:Nat} {t:TypeId} {vs:List Value} (h:M.LksAt w (some ⟨g,off,none⟩) is) (hn:is≠[]) (hC:Cl w B t vs) (h0:∀ x∈vs,∀ c,x≠.bool c):g≠B:=by
 rintro rfl;rcases h with h | ⟨g2,off2,h1,h2,h3⟩
 · exact hn h
 injection h1 with h1;injection h1 with e3 e4 _;subst e3 e4;have:=(h3 0 (List.length_pos_iff.2 hn)).1;rw [hC.cell] at this;exact h0 _ (List.mem_of_getElem? this) _ rfl
structure P39 (q P:Nat) (w wr:World) (A B:Nat) (x y z c t:Value) (u:World):Prop where
 a:Cl u A 24 [x,y,z]
 b:Cl u B 27 [c,t]
 rd:RdTo u q P
 bu:But q w u
 sz:u.heap.size=wr.heap.size
 bl:∀ g,g≠A->g≠B->u.heap[g]?=wr.heap[g]?
theorem put39 {q P:Nat} {w u:World} {A B:Nat} {x0 y0 z0 c0 t0:Value} (x y z c t:Value) (hA:Cl u A 24 [x0,y0,z0]) (hB:Cl u B 27 [c0,t0]) (hr:RdTo u q P) (hb:But q w u) (hq:q<w.heap.size) (h1:w.heap.size<=A) (h2:w.heap.size<=B):
 P39 q P w u A B x y z c t (((((u.setCell ⟨A,0,none⟩ x).setCell ⟨A,1,none⟩ y).setCell ⟨A,2,none⟩ z).setCell ⟨B,0,none⟩ c).setCell ⟨B,1,none⟩ t):=by
 have hne:=hA.ne hB dc_;refine ⟨?_,?_,?_,?_,sm_,fun g ga gb=>?_⟩
 · exact ((((hA.set 0 x).set 1 y).set 2 z).on (on_set _ _ _ _) hne).on (on_set _ _ _ _) hne
 · exact ((((hB.on (on_set _ _ _ _) hne.symm).on (on_set _ _ _ _) hne.symm).on (on_set _ _ _ _) hne.symm).set 0 c).set 1 t
 · exact rd_set1 (rd_set1 (rd_set1 (rd_set1 (rd_set1 hr om_ _ _) om_ _ _) om_ _ _) om_ _ _) om_ _ _
 · exact but_set1 (but_set1 (but_set1 (but_set1 (but_set1 hb h1 _ _) h1 _ _) h1 _ _) h2 _ _) h2 _ _
 rw [(on_set _ B _ _).block g gb,(on_set _ B _ _).block g gb,(on_set _ A _ _).block g ga,(on_set _ A _ _).block g ga,(on_set _ A _ _).block g ga]
theorem fin39 {q P:Nat} {w wr u:World} {m:M3} {cd:Int} {tx:ByteArray} {a:Option Addr} {c:Nat} {ls:List M.L4} (h:P39 q P w wr (w.heap.size+1) (w.heap.size+1+1) (.string m.nm) (.string m.tl) (.string m.ar) (.int .i64 cd) (.string tx) u) (hm:m.le 999999) (hl:ls.length<=15) (hc:ls.length<=c) (hs:∀ i,(ls.getD i M.l4z).le 999999) (ht:tx.size<=999999) (hat:M.LksAt u a ls) (tm:Array Value) (t4:tm[4]?=some (.pointer (some ⟨w.heap.size+1,0,none⟩))) (t5:tm[5]?=some (.slice a ls.length c)) (t6:tm[6]?=some (.pointer (some ⟨w.heap.size+1+1,0,none⟩))):bodyPost prog f39 (Is39 q P w) .ret ⟨tm,[]⟩ u:=by
 have e0:=h.a.cell 0;have e1:=h.a.cell 1;have e2:=h.a.cell 2;have g0:=h.b.cell 0;have g1:=h.b.cell 1;exact bodyPost_ret (v:=.tuple #[.agg #[.string m.nm,.string m.tl,.string m.ar],.slice a ls.length c,.agg #[.int .i64 cd,.string tx]]) (by simp [results,Tryz.results39,go_sem,e0,e1,e2,g0,g1,t4,t5,t6]) rfl ⟨⟨_,rfl,m,a,c,ls,cd,tx,rfl,hm,hl,hc,hs,ht,hat⟩,h.rd,h.bu⟩
theorem P39.later {q P:Nat} {w wr u u':World} {A B:Nat} {x y z c t:Value} (h:P39 q P w wr A B x y z c t u) (hb:Below u.heap.size u u') (hs:u'.heap.size=wr.heap.size+1):P39 q P w u' A B x y z c t u':=
 ⟨h.a.below hb h.a.lt,h.b.below hb h.b.lt,h.rd.later hb,h.bu.later hb,rfl,fun _ _ _=>rfl⟩
theorem c39 (q P:Nat) (v:Value) (w:World) (hp:P<=90000) (hr:RdTo w q P) (hv:TrB 40 w v):
 Calls prog 39 #[.pointer (some ⟨q,0,none⟩),.agg #[v]] w (Is39 q (P+1) w):=by
 obtain ⟨a,cap,fs,rfl,hat,hl,hs⟩:=hv;have HR:=hdI hr;have hq:=hr.lt;have HAT:=hdI hat;have HS:=hdI hs;clear hr hat hs;go_enter func39,ntmps39
 go_wp2_with fail
 obtain ⟨y0,hy⟩:∃ y:World,y=((w.alloc (.cells #[.slice a fs.length cap] 51)).alloc (.cells #[.string ⟨#[]⟩,.string ⟨#[]⟩,.string ⟨#[]⟩] 24)).alloc (.cells #[.int .i64 0,.string ⟨#[]⟩] 27):=⟨_,rfl⟩;rw [<- hy];have b0:Below w.heap.size w y0:=by rw [hy];exact (by2 _ _ _).alloc so_ _
 have C1:Hid (Cl y0 (w.heap.size+1) 24 [.string ⟨#[]⟩,.string ⟨#[]⟩,.string ⟨#[]⟩]):=by show Cl _ _ _ _;rw [hy];exact cl_old (cl_at (xs:=[_,_,_]) sm_) _
 have C2:Hid (Cl y0 (w.heap.size+1+1) 27 [.int .i64 0,.string ⟨#[]⟩]):=by show Cl _ _ _ _;rw [hy];exact cl_at (xs:=[_,_]) sm_
 clear hy;refine (c75a a cap fs y0 om_ (fun i=>⟨Nat.le_trans (fi_le HS.out i).1 om_,Nat.le_trans (fi_le HS.out i).2 om_⟩) (G.T.files_below HAT.out b0)).mono ?_;rintro e y1 ⟨⟨wa,wc,ws,rfl,hwl,hok,hws⟩,hb1⟩;have R1:=hdI ((HR.out.later b0).later hb1);have B1:=hdI (bT b0 hb1);have C1:=hdI (C1.out.below hb1 C1.out.lt);have C2:=hdI (C2.out.below hb1 C2.out.lt);have HOK:=hdI hok;have HWS:=hdI hws;clear hok hws hb1 b0 HAT HS HR
 go_wp2_with fail
 refine (pickU y1 q P ws.length om_ om_ R1.out).mono ?_;rintro e y2 ⟨⟨r,rfl,hr1,hr2⟩,hr2',ho⟩;have R2:=hdI hr2';have B2:Hid (But q w y2):=(But.of_below B1.out).trans ho.but;have C1:Hid (Cl y2 _ _ _):=(ho.block _ om_).trans C1.out;have C2:Hid (Cl y2 _ _ _):=(ho.block _ om_).trans C2.out;have HOK:Hid (∀ i,i<ws.length->WayOk y2 (ws.getD i w8z)):=fun i hi=>(HOK.out i hi).only R1.out ho;have HWS:=hdI (wys_only HWS.out R1.out ho);clear hr2' ho R1 B1
 go_wp2_with fail
 go_loopw [9] (fun i wr=>∃ k:Nat,i=.int .i64 k/\k<=ws.length/\Hid (Below y2.heap.size y2 wr)) (fun i _=>ws.length - (intOf i).toNat)
 case atStart=>exact ⟨0,rfl,om_,Below.refl _ _⟩
 obtain ⟨k,rfl,hk,HB⟩:=hrel;have C1:=hdI (C1.out.below HB.out C1.out.lt);have C2:=hdI (C2.out.below HB.out C2.out.lt);have R3:=hdI (R2.out.later HB.out);have B3:=hdI (B2.out.later HB.out);have d10:wr.cell? ⟨w.heap.size+1,0,none⟩=some (.string ⟨#[]⟩):=C1.out.cell 0;have d11:wr.cell? ⟨w.heap.size+1,1,none⟩=some (.string ⟨#[]⟩):=C1.out.cell 1;have d12:wr.cell? ⟨w.heap.size+1,2,none⟩=some (.string ⟨#[]⟩):=C1.out.cell 2;have d20:wr.cell? ⟨w.heap.size+1+1,0,none⟩=some (.int .i64 0):=C2.out.cell 0;have d21:wr.cell? ⟨w.heap.size+1+1,1,none⟩=some (.string ⟨#[]⟩):=C2.out.cell 1;have f10:=C1.out.opn 0;have f11:=C1.out.opn 1;have f12:=C1.out.opn 2;have f20:=C2.out.opn 0;have f21:=C2.out.opn 1;have hz1:=C1.out.lt;have hz2:=C2.out.lt;by_cases hlt:k<ws.length;rotate_left
 · go_wp2_with fail
   have HP:=put39 (.string ⟨#[120,48]⟩) (.string ⟨#[110,111,110,101]⟩) (.string ⟨#[]⟩) (.int .i64 4) (.string ⟨#[110,111,110,101]⟩) C1.out C2.out R3.out B3.out hq om_ om_;have hz:=HP.sz;refine fin39 (m:=⟨⟨#[120,48]⟩,⟨#[110,111,110,101]⟩,⟨#[]⟩⟩) (ls:=[⟨false,⟨#[110,111,110,101]⟩,4,⟨#[110,111,110,101]⟩⟩]) (HP.later bA sm_) ⟨dc_,dc_,dc_⟩ dc_ dc_ (fun i=>?_) dc_ ?_ _ rfl rfl rfl
   · rcases i with _ | i
     · exact ⟨dc_,dc_⟩
     exact ⟨Nat.zero_le _,Nat.zero_le _⟩
   refine .inr ⟨wr.heap.size,0,rfl,sm_,fun i hi=>?_⟩;obtain rfl:i=0:=by simp at hi;exact hi
   have C:=cl_at (w:=((((wr.setCell ⟨w.heap.size+1,0,none⟩ (.string ⟨#[120,48]⟩)).setCell ⟨w.heap.size+1,1,none⟩ (.string ⟨#[110,111,110,101]⟩)).setCell ⟨w.heap.size+1,2,none⟩ (.string ⟨#[]⟩)).setCell ⟨w.heap.size+1+1,0,none⟩ (.int .i64 4)).setCell ⟨w.heap.size+1+1,1,none⟩ (.string ⟨#[110,111,110,101]⟩)) (B:=wr.heap.size) (t:=74) (xs:=[.bool false,.string ⟨#[110,111,110,101]⟩,.int .i64 4,.string ⟨#[110,111,110,101]⟩]) sm_;exact ⟨C.cell 0,C.cell 1,C.cell 2,C.cell 3⟩
 obtain ⟨b,off,rfl,hbl,hc⟩:∃ b off,wa=some ⟨b,off,none⟩/\b<y2.heap.size/\∀ i,i<ws.length->∀ j v,(ws.getD i w8z).vs[j]?=some v->y2.cell? ⟨b,off+i*8+j,none⟩=some v:=by
  rcases HWS.out with h | h
  · rw [h] at hlt;cases hlt
  exact h
 have HC:=hdI hc;clear hc;have h0:0<ws.length:=om_;have m1:(0:Int)<=((r:Int)+(k:Int)) % (ws.length:Int):=Int.emod_nonneg _ om_;have m2:((r:Int)+(k:Int)) % (ws.length:Int)<(ws.length:Int):=Int.emod_lt_of_pos _ om_;have hL0:¬ ws.length=0:=om_;have hj:(r+k) % ws.length<ws.length:=Nat.mod_lt _ h0;have hcx:=HC.out _ hj;have hox:=(HOK.out _ hj).below HB.out;generalize ws.getD ((r+k) % ws.length) w8z=x at hcx hox;obtain ⟨la,lc,hlv,hlat,hlk,hlc⟩:=hox.lv;have HOX:=hdI hox;have HLA:=hdI hlat;have hcw:∀ j v,x.vs[j]?=some v->wr.cell? ⟨b,off+(r+k) % ws.length*8+j,none⟩=some v:=fun j v e=>(HB.out.cell (p:=⟨b,off+(r+k) % ws.length*8+j,none⟩) hbl).trans (hcx j v e);have e0:wr.cell? ⟨b,off+(r+k) % ws.length*8,none⟩=some (.string x.m.nm):=hcw 0 _ rfl;have e1:=hcw 1 _ rfl;have e2:=hcw 2 _ rfl;have e3:=hcw 3 _ rfl;have e4:=hcw 4 _ rfl;have e5:=hcw 5 _ rfl;have e6:=hcw 6 _ rfl;have e7:=hcw 7 _ rfl;rw [hlv] at e3;clear hcw hcx hox hlat hlk;cases hov:x.ov
 all_goals rw [hov] at e4
 · go_wp2
   go_roundw
   case rel=>exact ⟨k+1,by go_num,om_,HB.out.alloc HB.out.size _⟩
   case measure=>simp [intOf];omega
 have htx:=HOX.out.t hov;have hxm:=HOX.out.m;have hxl:=HOX.out.l;have hxs:=HOX.out.s;clear hlv hov HOX;obtain ⟨⟨nm,tl,ar⟩,lv,ls,ov,cd,tx,wt⟩:=x;dsimp only at *
 go_wp2_with fail
 have hSS:∀ u,Cl u wr.heap.size 119 [.string nm,.string tl,.string ar,.slice la ls.length lc,.bool true,.int .i64 cd,.string tx,.string wt]->u.cell? ⟨wr.heap.size,0,none⟩=some (.string nm)/\u.cell? ⟨wr.heap.size,1,none⟩=some (.string tl)/\u.cell? ⟨wr.heap.size,2,none⟩=some (.string ar)/\u.cell? ⟨wr.heap.size,3,none⟩=some (.slice la ls.length lc)/\u.cell? ⟨wr.heap.size,5,none⟩=some (.int .i64 cd)/\u.cell? ⟨wr.heap.size,6,none⟩=some (.string tx):=fun u h=>⟨h.cell 0,h.cell 1,h.cell 2,h.cell 3,h.cell 5,h.cell 6⟩;have HSS:=hdI hSS;clear hSS;have hbd:Below wr.heap.size wr (wr.alloc (.cells #[.string nm,.string tl,.string ar,.slice la ls.length lc,.bool true,.int .i64 cd,.string tx,.string wt] 119)).drew:=bA.drew;have C9:Hid (Cl (wr.alloc (.cells #[.string nm,.string tl,.string ar,.slice la ls.length lc,.bool true,.int .i64 cd,.string tx,.string wt] 119)).drew wr.heap.size 119 [.string nm,.string tl,.string ar,.slice la ls.length lc,.bool true,.int .i64 cd,.string tx,.string wt]):=cl_new wr _ 119;refine wp_region_held_drew (S:=fun u=>u.cell? ⟨wr.heap.size,0,none⟩=some (.string nm)/\u.cell? ⟨wr.heap.size,1,none⟩=some (.string tl)/\u.cell? ⟨wr.heap.size,2,none⟩=some (.string ar)/\u.cell? ⟨wr.heap.size,3,none⟩=some (.slice la ls.length lc)/\u.cell? ⟨wr.heap.size,5,none⟩=some (.int .i64 cd)/\u.cell? ⟨wr.heap.size,6,none⟩=some (.string tx)) kr_ (HSS.out _ C9.out) fun hH=>?_;clear d10 d11 d12 d20 d21 f10 f11 f12 f20 f21 e0 e1 e2 e3 e4 e5 e6 e7;generalize (wr.alloc (.cells #[.string nm,.string tl,.string ar,.slice la ls.length lc,.bool true,.int .i64 cd,.string tx,.string wt] 119)).drew=y3 at hbd C9 hH ⊢;have C1:=hdI (C1.out.below hbd C1.out.lt);have C2:=hdI (C2.out.below hbd C2.out.lt);have R4:=hdI (R3.out.later hbd);have B4:=hdI (B3.out.later hbd);have HLA:=hdI (M.lks_below HLA.out hbd);have HP:=hdI (put39 (.string nm) (.string tl) (.string ar) (.int .i64 cd) (.string tx) C1.out C2.out R4.out B4.out hq om_ om_);have d10:y3.cell? ⟨w.heap.size+1,0,none⟩=some (.string ⟨#[]⟩):=C1.out.cell 0;have d11:y3.cell? ⟨w.heap.size+1,1,none⟩=some (.string ⟨#[]⟩):=C1.out.cell 1;have d12:y3.cell? ⟨w.heap.size+1,2,none⟩=some (.string ⟨#[]⟩):=C1.out.cell 2;have d20:y3.cell? ⟨w.heap.size+1+1,0,none⟩=some (.int .i64 0):=C2.out.cell 0;have d21:y3.cell? ⟨w.heap.size+1+1,1,none⟩=some (.string ⟨#[]⟩):=C2.out.cell 1;have f10:=C1.out.opn 0;have f11:=C1.out.opn 1;have f12:=C1.out.opn 2;have f20:=C2.out.opn 0;have f21:=C2.out.opn 1;have n1:wr.heap.size≠w.heap.size+1:=om_;have n2:wr.heap.size≠w.heap.size+1+1:=om_;have HS1:=hdI (HSS.out _ (((C9.out.on (on_set _ (w.heap.size+1) 0 (.string nm)) n1).on (on_set _ (w.heap.size+1) 1 (.string tl)) n1).on (on_set _ (w.heap.size+1) 2 (.string ar)) n1));have HS2:=hdI (HSS.out _ (((((C9.out.on (on_set _ (w.heap.size+1) 0 (.string nm)) n1).on (on_set _ (w.heap.size+1) 1 (.string tl)) n1).on (on_set _ (w.heap.size+1) 2 (.string ar)) n1).on (on_set _ (w.heap.size+1+1) 0 (.int .i64 cd)) n2).on (on_set _ (w.heap.size+1+1) 1 (.string tx)) n2));have HLZ:=hdI (lks_keep HLA.out (Nat.le_of_eq HP.out.sz.symm) fun g off e hn hg=>HP.out.bl g (lks_far (e▸HLA.out) hn C1.out sm_) (lks_far (e▸HLA.out) hn C2.out sm_));refine tq 0 hH ?_
 try simp only [qq]
 refine tq 1 hH ?_
 try simp only [qq]
 refine tq 2 hH ?_
 try simp only [qq]
 refine tq 3 hH ?_
 try simp only [qq]
 refine tq 4 hH ?_
 try simp only [qq]
 refine tq 5 hH ?_
 try simp only [qq]
 refine rq 6 fun K hK=>?_;go_simp;clear hH;refine hK.out _ _ HS1.out fun hH=>?_;clear hK K
 try simp only [qq]
 refine tq 7 hH ?_
 try simp only [qq]
 refine rq 8 fun K hK=>?_;go_simp;clear hH;refine hK.out _ _ HS2.out fun hH=>?_;clear hK K
 try simp only [qq]
 refine wpAnyH_done kr_ ?_ _;go_wp2;exact fin39 (m:=⟨nm,tl,ar⟩) HP.out hxm hxl hlc hxs htx HLZ.out _ rfl rfl rfl
end Go.Proofs.YthjhakdpikdoeaaGreatDoor
